import PyProof.Rows.All
import Wide.All
import OpenK.AllK
import Wide.FinOn
import PyProof.EqAt
import PyProof.EqKinds
import PyProof.TupleCall
import KE.BitLaws
import Open.SpecLaws
import KE.OsHead
import KE.OsGo
import KE.KLam
import KE.KMinKey
import PyProof.Rows.CallKwBuiltin
import PyProof.Rows.SetFrom
import KE.KFind
import KE.KNest
import PySem.Challenge.RW_colddrops_s01_answers
section
set_option Elab.async false
set_option linter.all false
set_option maxRecDepth 100000
namespace L2
open PySem PySem.Spec PyProof.Rows

/-- a key: an int or a str -/
abbrev Key := Sum Int Str
def keyIs : Key → Value → Bool
  | .inl k, v => Value.isInt k v
  | .inr x, v => Value.isStrOf x v
def keyH (w : World) : Key → Int
  | .inl k => hashInt k
  | .inr x => hashStr w x
theorem keyIs_shape : ∀ {k : Key} {v : Value}, keyIs k v = true → (∃ i t, k = Sum.inl i ∧ v = Value.int i t) ∨ (∃ x t, k = Sum.inr x ∧ v = Value.str x t)
  | .inl i, v, h => by
    obtain ⟨t, e⟩ := Value.isInt_shape (k := i) (v := v) h
    exact .inl ⟨i, t, rfl, e⟩
  | .inr x, v, h => by
    obtain ⟨t, e⟩ := Value.isStrOf_shape (x := x) (v := v) h
    exact .inr ⟨x, t, rfl, e⟩
theorem keyIs_int (i : Int) (t : Tok) : keyIs (.inl i) (.int i t) = true := by simp [keyIs, Value.isInt]
theorem keyIs_str (x : Str) (t : Tok) : keyIs (.inr x) (.str x t) = true := by simp [keyIs, Value.isStrOf]
theorem key_ll (a b : Int) : decide ((Sum.inl a : Key) = Sum.inl b) = (a == b) := by
  by_cases e : a = b
  · subst e; simp
  · have h : ¬ (Sum.inl a : Key) = Sum.inl b := fun q => e (Sum.inl.inj q)
    rw [decide_eq_false h]
    exact (beq_eq_false_iff_ne.mpr e).symm
theorem key_rr (a b : Str) : decide ((Sum.inr a : Key) = Sum.inr b) = decide (a = b) := by
  by_cases e : a = b
  · subst e; simp
  · have h : ¬ (Sum.inr a : Key) = Sum.inr b := fun q => e (Sum.inr.inj q)
    rw [decide_eq_false h, decide_eq_false e]
theorem key_lr (a : Int) (b : Str) : decide ((Sum.inl a : Key) = Sum.inr b) = false := decide_eq_false (fun q => nomatch q)
theorem key_rl (a : Str) (b : Int) : decide ((Sum.inr a : Key) = Sum.inl b) = false := decide_eq_false (fun q => nomatch q)

def mixKind (prog : Program) (w : World) : PySem.KeyKind prog w Key where
  is := keyIs
  hash := keyH w
  inj := fun v a b ha hb => by
    rcases keyIs_shape ha with ⟨i, t, rfl, rfl⟩ | ⟨x, t, rfl, rfl⟩
    · rcases keyIs_shape hb with ⟨j, u, rfl, e⟩ | ⟨y, u, rfl, e⟩
      · injection e with e1 _; rw [e1]
      · exact nomatch e
    · rcases keyIs_shape hb with ⟨j, u, rfl, e⟩ | ⟨y, u, rfl, e⟩
      · exact nomatch e
      · injection e with e1 _; rw [e1]
  byValue := fun k v h => by
    rcases keyIs_shape h with ⟨i, t, rfl, rfl⟩ | ⟨x, t, rfl, rfl⟩ <;> rfl
  pyHash := fun hv h => by
    rcases keyIs_shape hv with ⟨i, t, rfl, rfl⟩ | ⟨x, t, rfl, rfl⟩
    · exact wpAny_pyHash_int h
    · exact wpAny_pyHash_str h
  eqBool := fun hu hv h => by
    rcases keyIs_shape hu with ⟨i, t, rfl, rfl⟩ | ⟨x, t, rfl, rfl⟩
    · rcases keyIs_shape hv with ⟨j, u, rfl, rfl⟩ | ⟨y, u, rfl, rfl⟩
      · rw [key_ll] at h; exact wpAny_eqBool_int h
      · rw [key_lr] at h; exact SeqAt.EqAt.int_str i t y u _ _ _ _ h
    · rcases keyIs_shape hv with ⟨j, u, rfl, rfl⟩ | ⟨y, u, rfl, rfl⟩
      · rw [key_rl] at h; exact SeqAt.EqAt.str_int x t j u _ _ _ _ h
      · rw [key_rr] at h; exact wpAny_eqBool_str h
  «strs» := fun k x t v h => by
    rcases keyIs_shape h with ⟨i, u, rfl, e⟩ | ⟨y, u, rfl, e⟩
    · exact nomatch e
    · injection e with e1 _
      subst e1
      cases v <;> rfl

theorem mixKind_int (prog : Program) (w : World) (i : Int) (t : Tok) : (mixKind prog w).is (.inl i) (.int i t) = true := keyIs_int i t
theorem mixKind_str (prog : Program) (w : World) (x : Str) (t : Tok) : (mixKind prog w).is (.inr x) (.str x t) = true := keyIs_str x t
end L2

namespace L2
open PySem PySem.Spec PyProof.Rows

/-- a value, without the heap -/
inductive V where
  | non | bl (b : Bool) | int (i : Int) | str (x : Str) | byt (b : Array UInt8) | flt (b : UInt64) | ref (a : Addr) | ty (n : String)
  deriving DecidableEq

def RelV : V → Value → Prop
  | .non, u => u = Value.none
  | .bl b, u => u = Value.bool b
  | .int i, u => ∃ t, u = Value.int i t
  | .str x, u => ∃ t, u = Value.str x t
  | .byt b, u => ∃ t, u = Value.bytes b t
  | .flt b, u => ∃ t, u = Value.float b t
  | .ref a, u => u = Value.ref a
  | .ty n, u => u = Value.type n

abbrev Vals : List V → List Value → Prop := Paired RelV
theorem Vals.length {xs : List V} {us : List Value} (r : Vals xs us) : xs.length = us.length := Paired.length r
theorem Vals.get : ∀ {xs : List V} {us : List Value} {i : Nat} {x : V}, Vals xs us → xs[i]? = some x → ∃ u, us[i]? = some u ∧ RelV x u
  | _, _, _, _, .nil, e => by simp at e
  | _, _, 0, _, .cons r _, e => by simp at e; subst e; exact ⟨_, rfl, r⟩
  | _, _, i + 1, x, .cons _ t, e => by
    obtain ⟨u, h1, h2⟩ := Vals.get (i := i) (x := x) t (by simpa using e)
    exact ⟨u, by simpa using h1, h2⟩
theorem Vals.append : ∀ {xs ys : List V} {us ws : List Value}, Vals xs us → Vals ys ws → Vals (xs ++ ys) (us ++ ws)
  | _, _, _, _, .nil, s => s
  | _, _, _, _, .cons r t, s => .cons r (Vals.append t s)
theorem Vals.take : ∀ {xs : List V} {us : List Value} (n : Nat), Vals xs us → Vals (xs.take n) (us.take n)
  | _, _, 0, _ => .nil
  | _, _, _ + 1, .nil => .nil
  | _, _, n + 1, .cons r t => .cons r (Vals.take n t)
theorem Vals.drop : ∀ {xs : List V} {us : List Value} (n : Nat), Vals xs us → Vals (xs.drop n) (us.drop n)
  | _, _, 0, r => r
  | _, _, _ + 1, .nil => .nil
  | _, _, n + 1, .cons _ t => Vals.drop n t
def RelO : Option V → Option Value → Prop
  | some v, some u => RelV v u
  | none, none => True
  | _, _ => False
def KV {κ : Type} : List (κ × V) → List (κ × Value) → Prop := Paired fun (p : κ × V) (q : κ × Value) => p.1 = q.1 ∧ RelV p.2 q.2

/-- a key of a dict (00_mix): an int or a text -/
def kV : Key → V
  | .inl i => .int i
  | .inr x => .str x

/-- what stands at a tracked address -/
inductive HO where
  /-- a list -/
  | lst (xs : List V)
  /-- a tuple (never changes) -/
  | tup (xs : List V)
  /-- a dict whose keys are ints and texts; one whose keys are tuples of ints and texts (the empty one is both) -/
  | dK (kvs : List (Key × V)) | dT (kvs : List (List Key × V))
  /-- a set of ints: its members, its size -/
  | set (S : Int → Bool) (n : Nat)
  /-- an instance of the class at C, its dict at dx, its attributes -/
  | ins (C dx : Addr) (fs : List (Str × V))
  /-- the dict of the instance at x -/
  | own (x : Addr)
  /-- the dict of an exception -/
  | xd (fs : List (Str × V))
  /-- a bound method, f of x -/
  | met (f x : Addr)
  /-- a range object lo, lo + 1, .. below hi -/
  | rng (lo hi : Int)
  /-- a thing that is known to the object (the script; a dict while a loop walks it): read, never written while it is so -/
  | frz (o : Obj) (u : HO)
  /-- a code object's table -/
  | tbl (ps : Array Value)
  /-- any other thing, by what is true of its one object (a def of one's own: SetO a S n := HO.ext fun h => ..) -/
  | ext (φ : Heap → Prop)

abbrev Hp := Addr → Option HO
def upd (H : Hp) (a : Addr) (o : HO) : Hp := fun b => if b = a then some o else H b
theorem upd_same {H : Hp} {a : Addr} {o : HO} : upd H a o a = some o := by unfold upd; rw [if_pos rfl]
theorem upd_ne {H : Hp} {a b : Addr} {o : HO} (h : b ≠ a) : upd H a o b = H b := by unfold upd; rw [if_neg h]
/-- two objects of different content stand apart -/
theorem ne_of {H : Hp} {a b : Addr} {o u : HO} (h : H a = some o) (h' : H b = some u) (d : o ≠ u) : a ≠ b := by
  intro e; subst e; rw [h] at h'; exact d (Option.some.inj h')
theorem ne_of_none {H : Hp} {a b : Addr} {o : HO} (h : H a = some o) (h' : H b = none) : a ≠ b := by
  intro e; subst e; rw [h] at h'; cases h'

section
variable (P : Program) (w : World)
def ObjOk (H : Hp) (h : Heap) (a : Addr) : HO → Prop
  | .lst xs => xs.length ≤ sizeLine ∧ ∃ (its : List Value) (n : Nat), Vals xs its ∧ h.get? a = some { cls := .type "list", data := .seq its.toArray n }
  | .tup xs => xs.length ≤ sizeLine ∧ ∃ its : List Value, Vals xs its ∧ IsTup h a its.toArray
  | .dK kvs => kvs.length ≤ sizeLine ∧ (a == sysModules) = false ∧ ∃ vs, KV kvs vs ∧ h.DictOf (mixKind P w) a vs
  | .dT kvs => kvs.length ≤ sizeLine ∧ (a == sysModules) = false ∧ ∃ xs : List (List Key × Addr × Value),
      Paired (fun (p : List Key × V) (q : List Key × Addr × Value) => p.1 = q.1 ∧ H q.2.1 = some (.tup (p.1.map kV)) ∧ RelV p.2 q.2.2) kvs xs ∧
      ∃ o es ep, h.get? a = some o ∧ o.ExactDict ∧ o.data = .dict es ep ∧ es.toList = xs.map (entryOfKey (tupleKind (mixKind P w))) ∧ (xs.map (·.1)).Nodup
  | .set S n => h.SetOf (intKind P w) a S n
  | .ins C dx fs => H dx = some (.own a) ∧ fs.length ≤ 1000 ∧ dx ≠ a ∧ h.get? a = some (PySem.W.instObj C dx) ∧
      ∃ mA, h.Ns1 dx mA ∧ (∀ f, RelO (fs.lookup f) (mA f)) ∧ PySem.Within mA (fs.map (·.1))
  | .own _ => ∃ o, h.get? a = some o
  | .xd fs => ∃ mA, h.Ns1 a mA ∧ ∀ f, RelO (fs.lookup f) (mA f)
  | .rng lo hi => ∃ t u v, h.get? a = some { cls := .type "range", data := .fields #[.int lo t, .int hi u, .int 1 v] }
  | .frz o u => h.get? a = some o ∧ ObjOk H h a u
  | .tbl ps => h.get? a = some { cls := .none, data := .fields ps }
  | .met f x => h.get? a = some (PySem.W.methodObj (.ref f) (.ref x))
  | .ext φ => φ h ∧ (∃ o, h.get? a = some o) ∧ ∀ h1 h2 : Heap, φ h1 → (∀ o, h1.get? a = some o → h2.get? a = some o) → φ h2
/-- the abstract heap is held -/
def HOk (H : Hp) (h : Heap) : Prop := ∀ a o, H a = some o → ObjOk P w H h a o
end

section
variable {P : Program} {w : World} {H H' : Hp} {h h' : Heap} {a : Addr} {o : HO}
theorem ObjOk.lt (x : ObjOk P w H h a o) : a < h.objs.size := by
  cases o with
  | lst xs => obtain ⟨_, _, _, _, e⟩ := x; exact Heap.lt_size e
  | tup xs => obtain ⟨_, _, _, p⟩ := x; exact p.lt
  | dK kvs => obtain ⟨_, _, _, _, o, _, _, e, _⟩ := x; exact Heap.lt_size e
  | dT kvs => obtain ⟨_, _, _, _, o, _, _, e, _⟩ := x; exact Heap.lt_size e
  | set S n => obtain ⟨o, _, _, _, e, _⟩ := x; exact Heap.lt_size e
  | ins C dx fs => obtain ⟨_, _, _, e, _⟩ := x; exact Heap.lt_size e
  | own y => obtain ⟨_, e⟩ := x; exact Heap.lt_size e
  | xd fs => obtain ⟨_, ⟨_, _, _, e, _⟩, _⟩ := x; exact Heap.lt_size e
  | rng lo hi => obtain ⟨_, _, _, e⟩ := x; exact Heap.lt_size e
  | frz ob u => obtain ⟨e, _⟩ := x; exact Heap.lt_size e
  | tbl ps => exact Heap.lt_size (show h.get? a = some _ from x)
  | met f y => exact Heap.lt_size (show h.get? a = some _ from x)
  | ext φ => obtain ⟨_, ⟨_, e⟩, _⟩ := x; exact Heap.lt_size e
theorem Paired.mapP {α β : Type} {F G : α → β → Prop} : ∀ {l₁ : List α} {l₂ : List β}, Paired F l₁ l₂ → (∀ a b, F a b → G a b) → Paired G l₁ l₂
  | _, _, .nil, _ => .nil
  | _, _, .cons r t, f => .cons (f _ _ r) (Paired.mapP t f)
/-- what an object's description leans on: its own object, its own dict, the tuples -/
theorem ObjOk.stay (x : ObjOk P w H h a o) (k : ∀ b u, (b = a ∨ H b = some (.own a)) → h.get? b = some u → h'.get? b = some u)
    (ho : ∀ b, H b = some (.own a) → H' b = some (.own a)) (ht : ∀ b xs, H b = some (.tup xs) → H' b = some (.tup xs)) : ObjOk P w H' h' a o := by
  induction o with
  | lst xs => obtain ⟨z, its, n, r, e⟩ := x; exact ⟨z, its, n, r, k _ _ (.inl rfl) e⟩
  | tup xs => obtain ⟨z, its, r, ob, e, c⟩ := x; exact ⟨z, its, r, ob, k _ _ (.inl rfl) e, c⟩
  | dK kvs => obtain ⟨z, y, vs, r, ob, es, ep, e, c⟩ := x; exact ⟨z, y, vs, r, ob, es, ep, k _ _ (.inl rfl) e, c⟩
  | dT kvs =>
    obtain ⟨z, y, xs, r, ob, es, ep, e, c⟩ := x
    exact ⟨z, y, xs, Paired.mapP r fun p q z => ⟨z.1, ht _ _ z.2.1, z.2.2⟩, ob, es, ep, k _ _ (.inl rfl) e, c⟩
  | set S n => obtain ⟨ob, es, ep, t, e, c⟩ := x; exact ⟨ob, es, ep, t, k _ _ (.inl rfl) e, c⟩
  | ins C dx fs =>
    obtain ⟨d, z, ne, e, mA, ⟨od, es, ep, e2, c⟩, r⟩ := x
    exact ⟨ho _ d, z, ne, k _ _ (.inl rfl) e, mA, ⟨od, es, ep, k _ _ (.inr d) e2, c⟩, r⟩
  | own y => obtain ⟨ob, e⟩ := x; exact ⟨ob, k _ _ (.inl rfl) e⟩
  | xd fs => obtain ⟨mA, ⟨od, es, ep, e, c⟩, r⟩ := x; exact ⟨mA, ⟨od, es, ep, k _ _ (.inl rfl) e, c⟩, r⟩
  | rng lo hi => obtain ⟨t, u, v, e⟩ := x; exact ⟨t, u, v, k _ _ (.inl rfl) e⟩
  | frz ob u ih => obtain ⟨e, q⟩ := x; exact ⟨k _ _ (.inl rfl) e, ih q⟩
  | tbl ps =>
    have e : h.get? a = some { cls := .none, data := .fields ps } := x
    show h'.get? a = some { cls := .none, data := .fields ps }
    exact k a _ (.inl rfl) e
  | met f y =>
    have e : h.get? a = some (PySem.W.methodObj (.ref f) (.ref y)) := x
    show h'.get? a = some (PySem.W.methodObj (.ref f) (.ref y))
    exact k a _ (.inl rfl) e
  | ext φ => obtain ⟨p, ⟨o, e⟩, st⟩ := x; exact ⟨st _ _ p fun o q => k _ _ (.inl rfl) q, ⟨o, k _ _ (.inl rfl) e⟩, st⟩
theorem HOk.lt (x : HOk P w H h) (e : H a = some o) : a < h.objs.size := (x a o e).lt
theorem HOk.fresh (x : HOk P w H h) (e : h.objs.size ≤ a) : H a = none := by
  cases q : H a with
  | none => rfl
  | some u => exact absurd (Nat.lt_of_lt_of_le (x.lt q) e) (Nat.lt_irrefl _)
/-- every object of the heap is kept -/
theorem HOk.kept (x : HOk P w H h) (k : ∀ b u, h.get? b = some u → h'.get? b = some u) : HOk P w H h' := fun a o e =>
  (x a o e).stay (fun b u _ q => k b u q) (fun _ q => q) fun _ _ q => q
/-- a new object is laid and tracked -/
theorem HOk.laid (x : HOk P w H h) (k : ∀ b u, h.get? b = some u → h'.get? b = some u) (hp : h.objs.size ≤ a) (new : ObjOk P w (upd H a o) h' a o) : HOk P w (upd H a o) h' := fun b u e => by
  have hn := x.fresh hp
  by_cases hb : b = a
  · subst hb; rw [upd_same] at e; cases e; exact new
  · rw [upd_ne hb] at e
    exact (x b u e).stay (fun c v _ q => k c v q) (fun c q => by rw [upd_ne (ne_of_none q hn)]; exact q) fun c xs q => by rw [upd_ne (ne_of_none q hn)]; exact q
end

/-- what may be read as u: it is u, or a known u -/
def Rd (H : Hp) (a : Addr) (u : HO) : Prop := H a = some u ∨ ∃ o, H a = some (.frz o u)
theorem Rd.ok {P : Program} {w : World} {H : Hp} {h : Heap} {a : Addr} {u : HO} (r : Rd H a u) (x : HOk P w H h) : ObjOk P w H h a u := by
  rcases r with r | ⟨o, r⟩
  · exact x a u r
  · obtain ⟨_, q⟩ := x a _ r
    exact q
/-- what may be written -/
def Mut : Option HO → Prop
  | some (.lst _) => True
  | some (.dK _) => True
  | some (.dT _) => True
  | some (.set _ _) => True
  | some (.ins _ _ _) => True
  | some (.ext _) => True
  | _ => False
section
variable {P : Program} {w : World} {H : Hp} {h h' : Heap} {x e : Addr} {o' : HO}
/-- the object at e is changed: x itself, or the dict of the instance x -/
theorem HOk.write (ok : HOk P w H h) (mu : Mut (H x)) (he : e = x ∨ H e = some (.own x)) (k : ∀ b u, b ≠ e → h.get? b = some u → h'.get? b = some u) (heo : ∃ u, h'.get? e = some u)
    (new : ObjOk P w (upd H x o') h' x o') : HOk P w (upd H x o') h' := fun b u q => by
  have nown : ∀ c y, H c = some (.own y) → c ≠ x := fun c y r z => by subst z; rw [r] at mu; exact mu
  have ntup : ∀ c xs, H c = some (.tup xs) → c ≠ x := fun c xs r z => by subst z; rw [r] at mu; exact mu
  by_cases hb : b = x
  · subst hb; rw [upd_same] at q; cases q; exact new
  · rw [upd_ne hb] at q
    by_cases hbe : b = e
    · have q' : H b = some (.own x) := by
        rcases he with z | z
        · exact absurd (hbe.trans z) hb
        · rw [hbe]; exact z
      rw [q] at q'; cases q'
      obtain ⟨v, hv⟩ := heo
      exact ⟨v, by rw [hbe]; exact hv⟩
    · refine (ok b u q).stay (fun c v hc r => k c v ?_ r) (fun c r => by rw [upd_ne (nown c b r)]; exact r) fun c xs r => by rw [upd_ne (ntup c xs r)]; exact r
      rcases hc with rfl | hc
      · exact hbe
      · rintro rfl
        rcases he with z | z
        · exact nown c b hc z
        · rw [hc] at z; cases z; exact hb rfl
end

structure Un (fs ex : List Addr) (H H' : Hp) (h h' : Heap) : Prop where
  keep : ∀ b o, h.get? b = some o → H b = none → b ∉ fs → b ∉ ex → h'.get? b = some o
  slot : ∀ b o, h.get? b = some o → H b = none → b ∈ fs → b ∉ ex → ∃ sl, h'.get? b = some { o with slots := sl }
  free : ∀ b o, h.get? b = some o → H b = none → b ∉ ex → H' b = none
  there : ∀ b o, h.get? b = some o → b ∉ ex → ∃ o', h'.get? b = some o'
  tups : ∀ b xs, H b = some (.tup xs) → H' b = some (.tup xs)
  frzs : ∀ b o u, H b = some (.frz o u) → H' b = some (.frz o u)
  tbls : ∀ b ps, H b = some (.tbl ps) → ∃ more, H' b = some (.tbl (ps ++ more))
section
variable {fs fs' ex ex' : List Addr} {H H1 H2 : Hp} {h h1 h2 h' : Heap} {a x e : Addr} {o : HO}
theorem Un.any (u : Un fs ex H H1 h h1) {b : Addr} {ob : Obj} (q : h.get? b = some ob) (n : H b = none) (hx : b ∉ ex) : ∃ sl, h1.get? b = some { ob with slots := sl } := by
  by_cases hb : b ∈ fs
  · exact u.slot b ob q n hb hx
  · exact ⟨ob.slots, u.keep b ob q n hb hx⟩
theorem Un.kept (k : ∀ b u, h.get? b = some u → h'.get? b = some u) : Un fs ex H H h h' :=
  ⟨fun b ob q _ _ _ => k b ob q, fun b ob q _ _ _ => ⟨ob.slots, k b ob q⟩, fun _ _ _ n _ => n, fun b ob q _ => ⟨ob, k b ob q⟩, fun _ _ q => q, fun _ _ _ q => q, fun _ ps q => ⟨#[], by rw [q]; simp⟩⟩
theorem Un.refl : Un fs ex H H h h := Un.kept fun _ _ q => q
theorem Un.laid (k : ∀ b u, h.get? b = some u → h'.get? b = some u) (hp : h.objs.size ≤ a) (hn : H a = none) : Un fs ex H (upd H a o) h h' where
  keep := fun b u q _ _ _ => k b u q
  slot := fun b u q _ _ _ => ⟨u.slots, k b u q⟩
  free := fun b u q n _ => by rw [upd_ne (Nat.ne_of_lt (Nat.lt_of_lt_of_le (Heap.lt_size q) hp))]; exact n
  there := fun b u q _ => ⟨u, k b u q⟩
  tups := fun b xs q => by rw [upd_ne (ne_of_none q hn)]; exact q
  frzs := fun b u xs q => by rw [upd_ne (ne_of_none q hn)]; exact q
  tbls := fun b ps q => ⟨#[], by rw [upd_ne (ne_of_none q hn), q]; simp⟩
theorem Un.write (mu : Mut (H x)) (he : e = x ∨ H e = some (.own x)) (k : ∀ b u, b ≠ e → h.get? b = some u → h'.get? b = some u) (heo : ∃ u, h'.get? e = some u) : Un fs ex H (upd H x o) h h' := by
  have hx : ∀ b, H b = none → b ≠ x := fun b n z => by subst z; rw [n] at mu; exact mu
  have hb : ∀ b, H b = none → b ≠ e := fun b n z => by
    subst z
    rcases he with r | r
    · exact hx b n r
    · rw [n] at r; cases r
  have hm : ∀ b u, H b = some u → ¬ Mut (some u) → b ≠ x := fun b u q nm z => by subst z; rw [q] at mu; exact nm mu
  refine ⟨fun b u q n _ _ => k b u (hb b n) q, fun b u q n _ _ => ⟨u.slots, k b u (hb b n) q⟩, fun b u q n _ => by rw [upd_ne (hx b n)]; exact n, fun b u q _ => ?_,
    fun b xs q => by rw [upd_ne (hm b _ q fun z => z)]; exact q, fun b u xs q => by rw [upd_ne (hm b _ q fun z => z)]; exact q, fun b ps q => ⟨#[], by rw [upd_ne (hm b _ q fun z => z), q]; simp⟩⟩
  by_cases hbe : b = e
  · subst hbe; exact heo
  · exact ⟨u, k b u hbe q⟩
end

def trk (h : Heap) (H : Hp) : List Addr := (List.range h.objs.size).filter fun a => (H a).isSome
def hidT (h : Heap) (H : Hp) : Heap := PySem.W.hideAll h (trk h H)
theorem hidT_size (h : Heap) (H : Hp) : (hidT h H).objs.size = h.objs.size := PySem.W.hideAll_size _ _
theorem hidT_get {h : Heap} {H : Hp} {b : Addr} {o : Obj} (e : h.get? b = some o) (n : H b = none) : (hidT h H).get? b = some o :=
  PySem.W.hideAll_get _ e fun hm => by
    have q : (H b).isSome = true := (List.mem_filter.mp hm).2
    rw [n] at q; simp at q
theorem of_hidT {h : Heap} {H : Hp} {b : Addr} {o : Obj} (e : (hidT h H).get? b = some o) : h.get? b = some o ∧ H b = none := by
  have e' : h.get? b = some o := PySem.W.of_hideAll (trk h H) e
  refine ⟨e', ?_⟩
  cases q : H b with
  | none => rfl
  | some x =>
    have hm : b ∈ trk h H := List.mem_filter.mpr ⟨List.mem_range.mpr (Heap.lt_size e'), by simp [q]⟩
    have z : (hidT h H).get? b = none := PySem.W.hideAll_none (trk h H) hm
    rw [z] at e; cases e

end L2

namespace L2
open PySem PySem.Spec PyProof.Rows

/-- the module's facts, over the base: the heap at the law's entry without what is tracked there -/
structure Mod (K : PySem.W.Frag) (mg : Str → Option Value) (base : Heap) : Prop where
  kin : K.In base
  glob : base.Ns mainGlobals mg
  blt : ∃ mb, base.Ns builtinsNs mb ∧ ∀ x : Str, x ≠ "__name__" → mb x = bootBuiltins x
  nolimit : base.NoLimit

/-- the context: a def's body (or a comprehension's block) running. base: fixed through the whole law; s₀, H₀: the entry; outer: the frames whose slots others may change (a def's callers); stack: all frames that run;
   ex: iterators that were made ahead of the entry and are walked here (a comprehension's); fn: the names whose cells were made at the entry (a def: all; a comprehension's block: its own); calm: not within an except suite; pn: pins that every state bears; xe: what is wanted of an exception that leaves the code -/
structure Cx where
  prog : Program
  w : World
  K : PySem.W.Frag
  mg : Str → Option Value
  base : Heap
  A : Around
  N : List Str
  s_0 : Shared
  H_0 : Hp
  env : Env
  outer : List Env
  stack : List Env
  ex : List Addr
  fn : Str → Bool
  calm : Bool
  pn : List (Addr × Obj)
  xe : Value → Shared → Prop
/-- the callers' frames -/
def frs (l : List Env) : List Addr := l.filterMap (·.frame)
abbrev Cx.fs (X : Cx) : List Addr := frs X.outer

def Vis (sc : Scope) (x : Str) : Prop := sc.names.lookup x = some .local ∨ sc.names.lookup x = some .cell ∨ sc.names.lookup x = some .free
def Loc (sc : Scope) (x : Str) : Prop := sc.names.lookup x = some .local ∨ sc.names.lookup x = some .cell
def Look (env : Env) (h : Heap) (m : Str → Option Value) (x : Str) (u : Value) : Prop :=
  (env.kindOf x = some .local ∧ m x = some u) ∨ ((env.kindOf x = some .cell ∨ env.kindOf x = some .free) ∧ ∃ c, env.cells.lookup x = some c ∧ h.IsCell c (some u))

structure Cx.Ok (X : Cx) : Prop where
  mod : Mod X.K X.mg X.base
  kind : X.env.scope.kind = .function
  glob : X.env.globals = mainGlobals
  blt : X.env.builtins = builtinsNs
  above : X.s_0.heap.objs.size ≤ X.env.locals
  inj : ∀ x y c, X.env.cells.lookup x = some c → X.env.cells.lookup y = some c → x = y
  has : ∀ x, (X.env.kindOf x = some .cell ∨ X.env.kindOf x = some .free) → ∃ c, X.env.cells.lookup x = some c
  cab : ∀ x c, X.fn x = true → X.env.cells.lookup x = some c → X.s_0.heap.objs.size ≤ c
  hd : X.calm = true → X.A.handled = none
  frames : X.A.frames = some X.stack
  stk : X.stack = X.outer ∨ (X.stack = X.env :: X.outer ∧ X.env.frame = some X.env.locals)
  exf : ∀ b ∈ X.ex, b ≠ X.env.locals ∧ ∀ x c, X.env.cells.lookup x = some c → c ≠ b
  bs : ∀ b o, X.base.get? b = some o → X.s_0.heap.get? b = some o ∧ X.H_0 b = none
  bsz : X.base.objs.size ≤ X.s_0.heap.objs.size
  noex : ∀ b o, X.base.get? b = some o → b ∉ X.ex
  exfs : ∀ b ∈ X.ex, b ∉ X.fs
  funs : X.s_0.heap.FunFrames X.base X.outer
  frf : ∀ b ∈ X.fs, X.H_0 b = none

structure Inv (X : Cx) (pins : List (Addr × Obj)) (σ : List (Option V)) (H : Hp) (s : Shared) : Prop where
  ok : X.Ok
  os : s.os = X.s_0.os
  bare : AllBare s.gens
  base : Un X.fs X.ex X.H_0 H X.s_0.heap s.heap
  loc : ∃ m, s.heap.Ns X.env.locals m ∧ ∀ (i : Nat) (x : Str) (v : V), X.N[i]? = some x → σ[i]? = some (some v) → Vis X.env.scope x → ∃ u, RelV v u ∧ Look X.env s.heap m x u
  cell : ∀ x c, X.env.cells.lookup x = some c → ∃ v, s.heap.IsCell c v
  free : H X.env.locals = none
  freeC : ∀ x c, X.env.cells.lookup x = some c → H c = none
  pin : ∀ p ∈ X.pn ++ pins, s.heap.get? p.1 = some p.2 ∧ H p.1 = none ∧ p.1 ≠ X.env.locals ∧ p.1 ∉ X.fs ∧ ∀ v, p.2.data ≠ .cell v
  hok : HOk X.prog X.w H s.heap
  len : σ.length = X.N.length

section
variable {X : Cx} {pins : List (Addr × Obj)} {σ : List (Option V)} {H H' : Hp} {s : Shared} {h' : Heap}

theorem Cx.Ok.nofr (ok : X.Ok) {b : Addr} {o : Obj} (e : X.base.get? b = some o) : b ∉ X.fs := fun hb => by
  have := (ok.funs.mem hb).1
  rw [e] at this; cases this
theorem Inv.bs (I : Inv X pins σ H s) : ∀ b o, X.base.get? b = some o → s.heap.get? b = some o ∧ H b = none := fun b o e =>
  ⟨I.base.keep b o (I.ok.bs b o e).1 (I.ok.bs b o e).2 (I.ok.nofr e) (I.ok.noex b o e), I.base.free b o (I.ok.bs b o e).1 (I.ok.bs b o e).2 (I.ok.noex b o e)⟩
theorem Inv.bk (I : Inv X pins σ H s) : ∀ b o, X.base.get? b = some o → s.heap.get? b = some o := fun b o e => (I.bs b o e).1
theorem Inv.mod (I : Inv X pins σ H s) : Mod X.K X.mg X.base := I.ok.mod
theorem Inv.kIn (I : Inv X pins σ H s) : X.K.In s.heap := I.ok.mod.kin.keeps I.bk
theorem Inv.nolimit (I : Inv X pins σ H s) : s.heap.NoLimit := I.ok.mod.nolimit.keeps I.bk
theorem Inv.lt (I : Inv X pins σ H s) : X.env.locals < s.heap.objs.size := let ⟨_, hn, _⟩ := I.loc; hn.lt
theorem Inv.sz (I : Inv X pins σ H s) : X.s_0.heap.objs.size ≤ s.heap.objs.size := Nat.le_trans I.ok.above (Nat.le_of_lt I.lt)
theorem Inv.nofs (I : Inv X pins σ H s) {a : Addr} (h : s.heap.objs.size ≤ a) : a ∉ X.fs := fun hb => by
  obtain ⟨_, o, ho, _⟩ := I.ok.funs.mem hb
  exact absurd (Nat.lt_of_lt_of_le (Heap.lt_size ho) (Nat.le_trans I.sz h)) (Nat.lt_irrefl _)
theorem Inv.cne (I : Inv X pins σ H s) : ∀ x c, X.env.cells.lookup x = some c → c ≠ X.env.locals := fun x c e z => by
  obtain ⟨v, o, ho, hd⟩ := I.cell x c e
  obtain ⟨m, ⟨o', es, ep, ho', hd', _⟩, _⟩ := I.loc
  rw [z, ho'] at ho; cases ho; rw [hd'] at hd; cases hd
theorem Inv.funs (I : Inv X pins σ H s) : s.heap.FunFrames X.base X.outer := by
  have all : ∀ (l : List Env), (∀ b ∈ frs l, b ∈ X.fs) → X.s_0.heap.FunFrames X.base l → s.heap.FunFrames X.base l := by
    intro l
    induction l with
    | nil => intro _ _; trivial
    | cons env r ih =>
      intro hs hl
      obtain ⟨hk, ⟨L, o, hf, hn, ho, hd⟩, hr⟩ := hl
      have hL : L ∈ X.fs := hs L (by unfold frs; rw [List.filterMap_cons, hf]; exact List.mem_cons_self)
      obtain ⟨sl, e⟩ := I.base.slot L o ho (I.ok.frf L hL) hL fun z => I.ok.exfs L z hL
      exact ⟨hk, ⟨L, _, hf, hn, e, hd⟩, ih (fun b hb => hs b (by unfold frs; rw [List.filterMap_cons, hf]; exact List.mem_cons_of_mem _ hb)) hr⟩
  exact all X.outer (fun _ hb => hb) I.ok.funs

/-- the frames that run, for a call -/
theorem Inv.stack (I : Inv X pins σ H s) : s.heap.FunFrames X.base X.stack := by
  rcases I.ok.stk with e | ⟨e, hf⟩
  · rw [e]; exact I.funs
  · rw [e]
    obtain ⟨m, hn, _⟩ := I.loc
    refine .cons (by rw [I.ok.kind]; decide) hf hn ?_ I.funs
    exact Heap.get?_none_of_le (Nat.le_trans I.ok.bsz I.ok.above)
theorem Inv.stkSub (I : Inv X pins σ H s) : ∀ b ∈ frs X.stack, b ∈ X.env.locals :: X.fs := fun b hb => by
  rcases I.ok.stk with e | ⟨e, hf⟩
  · rw [e] at hb; exact List.mem_cons_of_mem _ hb
  · rw [e] at hb
    unfold frs at hb
    rw [List.filterMap_cons, hf] at hb
    exact hb
theorem Inv.stkFree (I : Inv X pins σ H s) : ∀ b ∈ frs X.stack, H b = none := fun b hb => by
  rcases List.mem_cons.mp (I.stkSub b hb) with e | hb
  · rw [e]; exact I.free
  · obtain ⟨_, o, ho, _⟩ := I.ok.funs.mem hb
    exact I.base.free b o ho (I.ok.frf b hb) fun z => I.ok.exfs b z hb

/-- THE STEP: the untracked objects but the frame and the records at ch are kept (the callers' frames up to slots), the frame's map is kept, the new abstract heap is held -/
theorem Inv.step {g' : Array GenState} {t' : Nat} {d' : Drawn} {ch : List Addr} (I : Inv X pins σ H s)
    (hch : ∀ b ∈ ch, (b ∈ X.ex ∨ X.s_0.heap.objs.size ≤ b) ∧ b ≠ X.env.locals ∧ (∀ x c, X.env.cells.lookup x = some c → c ≠ b) ∧ ∀ p ∈ X.pn ++ pins, p.1 ≠ b)
    (keep : ∀ b o, b ≠ X.env.locals → b ∉ X.fs → b ∉ ch → s.heap.get? b = some o → H b = none → h'.get? b = some o)
    (slot : ∀ b o, b ≠ X.env.locals → b ∈ X.fs → b ∉ ch → s.heap.get? b = some o → H b = none → ∃ sl, h'.get? b = some { o with slots := sl }) (free : ∀ b o, b ∉ ch → s.heap.get? b = some o → H b = none → H' b = none)
    (there : ∀ b o, b ∉ ch → s.heap.get? b = some o → ∃ o', h'.get? b = some o')
    (tups : ∀ b xs, H b = some (.tup xs) → H' b = some (.tup xs)) (frzs : ∀ b o u, H b = some (.frz o u) → H' b = some (.frz o u)) (tbls : ∀ b ps, H b = some (.tbl ps) → ∃ more, H' b = some (.tbl (ps ++ more)))
    (ns : ∀ m, s.heap.Ns X.env.locals m → h'.Ns X.env.locals m) (hok : HOk X.prog X.w H' h') (hg : AllBare g') :
    Inv X pins σ H' { s with heap := h', gens := g', drawn := d', toks := t' } := by
  have neL : ∀ b o, X.s_0.heap.get? b = some o → b ≠ X.env.locals := fun b o e => Nat.ne_of_lt (Nat.lt_of_lt_of_le (Heap.lt_size e) I.ok.above)
  have neC : ∀ b o, X.s_0.heap.get? b = some o → b ∉ X.ex → b ∉ ch := fun b o e hx hb => by
    rcases (hch b hb).1 with z | z
    · exact hx z
    · exact absurd (Nat.lt_of_lt_of_le (Heap.lt_size e) z) (Nat.lt_irrefl _)
  have cellK : ∀ x c, X.env.cells.lookup x = some c → ∀ v, s.heap.IsCell c v → h'.IsCell c v := fun x c e v ⟨o, ho, hd⟩ => by
    have nch : c ∉ ch := fun z => (hch c z).2.2.1 x c e rfl
    by_cases hc : c ∈ X.fs
    · obtain ⟨sl, q⟩ := slot c o (I.cne x c e) hc nch ho (I.freeC x c e)
      exact ⟨_, q, hd⟩
    · exact ⟨o, keep c o (I.cne x c e) hc nch ho (I.freeC x c e), hd⟩
  refine ⟨I.ok, I.os, hg, ⟨fun b o e n hb hx => ?_, fun b o e n hb hx => ?_, fun b o e n hx => ?_, fun b o e hx => ?_, fun b xs e => tups b xs (I.base.tups b xs e), fun b o xs e => frzs b o xs (I.base.frzs b o xs e), fun b ps e => ?_⟩, ?_, fun x c e => ?_, ?_, fun x c e => ?_, fun p hp => ?_, hok, I.len⟩
  · exact keep b o (neL b o e) hb (neC b o e hx) (I.base.keep b o e n hb hx) (I.base.free b o e n hx)
  · obtain ⟨sl, e1⟩ := I.base.slot b o e n hb hx
    obtain ⟨sl', e2⟩ := slot b _ (neL b o e) hb (neC b o e hx) e1 (I.base.free b o e n hx)
    exact ⟨sl', e2⟩
  · obtain ⟨o', e1⟩ := I.base.there b o e hx
    exact free b o' (neC b o e hx) e1 (I.base.free b o e n hx)
  · obtain ⟨o', e1⟩ := I.base.there b o e hx
    exact there b o' (neC b o e hx) e1
  · obtain ⟨m1, e1⟩ := I.base.tbls b ps e
    obtain ⟨m2, e2⟩ := tbls b _ e1
    exact ⟨m1 ++ m2, by rw [e2, Array.append_assoc]⟩
  · obtain ⟨m, hn, hl⟩ := I.loc
    refine ⟨m, ns m hn, fun i x v e1 e2 e3 => ?_⟩
    obtain ⟨u, r, l⟩ := hl i x v e1 e2 e3
    refine ⟨u, r, ?_⟩
    rcases l with l | ⟨k, c, e, z⟩
    · exact .inl l
    · exact .inr ⟨k, c, e, cellK x c e _ z⟩
  · obtain ⟨v, z⟩ := I.cell x c e
    exact ⟨v, cellK x c e v z⟩
  · obtain ⟨m, ⟨o, _, _, ho, _⟩, _⟩ := I.loc
    exact free _ o (fun z => (hch _ z).2.1 rfl) ho I.free
  · obtain ⟨v, o, ho, hd⟩ := I.cell x c e
    exact free c o (fun z => (hch c z).2.2.1 x c e rfl) ho (I.freeC x c e)
  · obtain ⟨e, n, ne, nf, d⟩ := I.pin p hp
    have nch : p.1 ∉ ch := fun z => (hch p.1 z).2.2.2 p hp rfl
    exact ⟨keep p.1 p.2 ne nf nch e n, free p.1 p.2 nch e n, ne, nf, d⟩
/-- .. where the frame's own object is kept too -/
theorem Inv.un {t' : Nat} (I : Inv X pins σ H s) (u : Un X.fs [] H H' s.heap h') (hok : HOk X.prog X.w H' h') : Inv X pins σ H' { s with heap := h', toks := t' } := by
  obtain ⟨m, ⟨o, es, ep, ho, r⟩, _⟩ := id I.loc
  obtain ⟨sl, hL⟩ := u.any ho I.free (by simp)
  exact I.step (g' := s.gens) (d' := s.drawn) (ch := []) (fun _ z => nomatch z) (fun b o _ hb _ e n => u.keep b o e n hb (by simp)) (fun b o _ hb _ e n => u.slot b o e n hb (by simp)) (fun b o _ e n => u.free b o e n (by simp)) (fun b o _ e => u.there b o e (by simp)) u.tups u.frzs u.tbls (fun m' hm => by
    obtain ⟨o', es', ep', ho', r'⟩ := hm
    rw [ho] at ho'; cases ho'
    exact ⟨_, es', ep', hL, r'⟩) hok I.bare
/-- behind a call (or a comprehension's block): the slots of this frame may have changed too, the records at ch may have turned -/
theorem Inv.call {g' : Array GenState} {t' : Nat} {d' : Drawn} {ch : List Addr} (I : Inv X pins σ H s) (u : Un (frs X.stack) ch H H' s.heap h') (hok : HOk X.prog X.w H' h') (hg : AllBare g')
    (hch : ∀ b ∈ ch, (b ∈ X.ex ∨ X.s_0.heap.objs.size ≤ b) ∧ b ≠ X.env.locals ∧ (∀ x c, X.env.cells.lookup x = some c → c ≠ b) ∧ ∀ p ∈ X.pn ++ pins, p.1 ≠ b) :
    Inv X pins σ H' { s with heap := h', gens := g', drawn := d', toks := t' } := by
  obtain ⟨m, ⟨o, es, ep, ho, r⟩, _⟩ := id I.loc
  obtain ⟨sl, hL⟩ := u.any ho I.free fun z => (hch _ z).2.1 rfl
  exact I.step (ch := ch) hch (fun b o hL hb hc e n => u.keep b o e n (fun z => (List.mem_cons.mp (I.stkSub b z)).elim hL hb) hc) (fun b o _ _ hc e n => u.any e n hc) (fun b o hc e n => u.free b o e n hc) (fun b o hc e => u.there b o e hc) u.tups u.frzs u.tbls (fun m' hm => by
    obtain ⟨o', es', ep', ho', r'⟩ := hm
    rw [ho] at ho'; cases ho'
    exact ⟨_, es', ep', hL, r'⟩) hok hg
/-- an untracked record of ours (an iterator) has turned -/
theorem Inv.turned {t' : Nat} {it : Addr} (I : Inv X pins σ H s) (k : ∀ b o, b ≠ it → s.heap.get? b = some o → h'.get? b = some o) (hn : H it = none) (hL : it ≠ X.env.locals)
    (h1 : it ∈ X.ex ∨ X.s_0.heap.objs.size ≤ it) (h2 : ∀ x c, X.env.cells.lookup x = some c → c ≠ it) (h3 : ∀ p ∈ X.pn ++ pins, p.1 ≠ it) : Inv X pins σ H { s with heap := h', toks := t' } := by
  have nit : ∀ b u, H b = some u → b ≠ it := fun b u e z => by rw [z, hn] at e; cases e
  refine I.step (g' := s.gens) (d' := s.drawn) (ch := [it]) (fun b hb => ?_) (fun b o _ _ hc e _ => k b o (fun z => hc (by simp [z])) e) (fun b o _ _ hc e _ => ⟨o.slots, k b o (fun z => hc (by simp [z])) e⟩) (fun _ _ _ _ n => n)
    (fun b o hc e => ⟨o, k b o (fun z => hc (by simp [z])) e⟩) (fun _ _ e => e) (fun _ _ _ e => e) (fun b ps e => ⟨#[], by rw [e]; simp⟩) (fun m hm => ?_) (fun b u e => ?_) I.bare
  · have e : b = it := by simpa using hb
    subst e
    exact ⟨h1, hL, h2, h3⟩
  · obtain ⟨o, es, ep, ho, r⟩ := hm
    exact ⟨o, es, ep, k _ o (Ne.symm hL) ho, r⟩
  · refine (I.hok b u e).stay (fun c v hc q => k c v ?_ q) (fun _ q => q) fun _ _ q => q
    rcases hc with z | z
    · rw [z]; exact nit b u e
    · exact nit c _ z
theorem Inv.tok (I : Inv X pins σ H s) (t : Nat) : Inv X pins σ H { s with toks := t } := I.un (h' := s.heap) (t' := t) Un.refl I.hok
/-- all objects kept -/
theorem Inv.kept {t' : Nat} (I : Inv X pins σ H s) (k : ∀ b u, s.heap.get? b = some u → h'.get? b = some u) : Inv X pins σ H { s with heap := h', toks := t' } := I.un (Un.kept k) (I.hok.kept k)
/-- a new object laid and tracked -/
theorem Inv.laid {a : Addr} {o : HO} {t' : Nat} (I : Inv X pins σ H s) (k : ∀ b u, s.heap.get? b = some u → h'.get? b = some u) (hp : s.heap.objs.size ≤ a) (new : ObjOk X.prog X.w (upd H a o) h' a o) :
    Inv X pins σ (upd H a o) { s with heap := h', toks := t' } := I.un (Un.laid k hp (I.hok.fresh hp)) (I.hok.laid k hp new)
/-- an object written -/
theorem Inv.write {x e : Addr} {o : HO} {t' : Nat} (I : Inv X pins σ H s) (mu : Mut (H x)) (he : e = x ∨ H e = some (.own x)) (k : ∀ b u, b ≠ e → s.heap.get? b = some u → h'.get? b = some u) (heo : ∃ u, h'.get? e = some u)
    (new : ObjOk X.prog X.w (upd H x o) h' x o) : Inv X pins σ (upd H x o) { s with heap := h', toks := t' } := I.un (Un.write mu he k heo) (I.hok.write mu he k heo new)
/-- forgetting slots, pins -/
theorem Inv.weak {σ' : List (Option V)} (I : Inv X pins σ H s) (hl : σ'.length = σ.length) (w : ∀ (i : Nat) v, σ'[i]? = some (some v) → σ[i]? = some (some v)) : Inv X pins σ' H s :=
  ⟨I.ok, I.os, I.bare, I.base, let ⟨m, hn, hl'⟩ := I.loc; ⟨m, hn, fun i x v e1 e2 e3 => hl' i x v e1 (w i v e2) e3⟩, I.cell, I.free, I.freeC, I.pin, I.hok, hl.trans I.len⟩
theorem Inv.pins_of {pins' : List (Addr × Obj)} (I : Inv X pins σ H s) (h : ∀ p ∈ pins', s.heap.get? p.1 = some p.2 ∧ H p.1 = none ∧ p.1 ≠ X.env.locals ∧ p.1 ∉ X.fs ∧ ∀ v, p.2.data ≠ .cell v) : Inv X pins' σ H s :=
  ⟨I.ok, I.os, I.bare, I.base, I.loc, I.cell, I.free, I.freeC, fun p hp => (List.mem_append.mp hp).elim (fun z => I.pin p (List.mem_append_left _ z)) (h p), I.hok, I.len⟩

theorem nodup_ix {N : List Str} (hN : N.Nodup) {i j : Nat} {x : Str} (a : N[i]? = some x) (b : N[j]? = some x) : i = j := by
  obtain ⟨h1, e1⟩ := List.getElem?_eq_some_iff.mp a
  obtain ⟨h2, e2⟩ := List.getElem?_eq_some_iff.mp b
  exact (List.getElem_inj hN).mp (e1.trans e2.symm)

/-- a name is stored; what changed -/
theorem store_ok2 {M : Model} {A : Around} {E : Value → Shared → Prop} {i : Nat} {x : Str} {v : V} {u : Value} {Q : Unit → Shared → Prop} (I : Inv X pins σ H s) (hN : X.N.Nodup) (hi : X.N[i]? = some x) (hx : Loc X.env.scope x) (r : RelV v u)
    (h : ∀ s', Inv X pins (σ.set i (some v)) H s' → (∃ a, Heap.SameBut a s.heap s'.heap ∧ (a = X.env.locals ∨ X.env.cells.lookup x = some a)) → Q () s') (hf : X.fn x = true ∨ X.env.scope.names.lookup x = some .local := by first | exact .inl rfl | exact .inr rfl | assumption) : wpAny M A (storeName X.env x u) Q E s := by
  obtain ⟨m, hn, hl⟩ := id I.loc
  have hcls : (X.env.scope.kind == .class || (X.env.scope.kind == .module && X.env.locals != X.env.globals)) = false := by rw [I.ok.kind]; rfl
  have hiσ : i < σ.length := by rw [I.len]; exact (List.getElem?_eq_some_iff.mp hi).1
  have cne := I.cne
  have tracked : ∀ {a : Addr} {h' : Heap}, (∃ o, s.heap.get? a = some o ∧ H a = none) → Heap.SameBut a s.heap h' → HOk X.prog X.w H h' := fun {a h'} ha hs b ob e => by
    obtain ⟨_, _, hfree⟩ := ha
    refine (I.hok b ob e).stay (fun c w' hc q => (hs.2 c ?_).trans q) (fun _ q => q) fun _ _ q => q
    rintro rfl
    rcases hc with rfl | hc
    · rw [hfree] at e; cases e
    · rw [hfree] at hc; cases hc
  rcases hx with hk | hk
  · refine wpAny_storeName_local hk hn (fun h' hn' hs => ?_) hcls
    obtain ⟨oL, _, _, hoL, _⟩ := id hn
    refine h _ ⟨I.ok, I.os, I.bare, ⟨fun b o e n hb hx => ?_, fun b o e n hb hx => ?_, I.base.free, fun b o e hx => ?_, I.base.tups, I.base.frzs, I.base.tbls⟩, ⟨_, hn', fun j y v' e1 e2 e3 => ?_⟩, fun y c e => ?_, I.free, I.freeC, fun p hp => ?_, tracked ⟨oL, hoL, I.free⟩ hs, by simpa using I.len⟩ ⟨_, hs, .inl rfl⟩
    · exact (hs.2 b (Nat.ne_of_lt (Nat.lt_of_lt_of_le (Heap.lt_size e) I.ok.above))).trans (I.base.keep b o e n hb hx)
    · obtain ⟨sl, e1⟩ := I.base.slot b o e n hb hx
      exact ⟨sl, (hs.2 b (Nat.ne_of_lt (Nat.lt_of_lt_of_le (Heap.lt_size e) I.ok.above))).trans e1⟩
    · obtain ⟨o', e1⟩ := I.base.there b o e hx
      exact ⟨o', (hs.2 b (Nat.ne_of_lt (Nat.lt_of_lt_of_le (Heap.lt_size e) I.ok.above))).trans e1⟩
    · by_cases hj : j = i
      · subst hj
        rw [hi] at e1; cases e1
        rw [List.getElem?_set_self hiσ] at e2
        cases e2
        exact ⟨u, r, .inl ⟨hk, by simp⟩⟩
      · rw [List.getElem?_set_ne (Ne.symm hj)] at e2
        obtain ⟨u', r', q⟩ := hl j y v' e1 e2 e3
        refine ⟨u', r', ?_⟩
        rcases q with ⟨k, e⟩ | ⟨k, c, e, z⟩
        · refine .inl ⟨k, ?_⟩
          have : y ≠ x := fun e => hj (nodup_ix hN e1 (e ▸ hi))
          simp [this, e]
        · exact .inr ⟨k, c, e, z.sameBut hs (cne y c e)⟩
    · obtain ⟨w', z⟩ := I.cell y c e
      exact ⟨w', z.sameBut hs (cne y c e)⟩
    · obtain ⟨e, n, ne, nf, d⟩ := I.pin p hp
      exact ⟨(hs.2 p.1 ne).trans e, n, ne, nf, d⟩
  · have hfn : X.fn x = true := by
      rcases hf with z | z
      · exact z
      · rw [z] at hk; cases hk
    obtain ⟨c, hc⟩ := I.ok.has x (.inl hk)
    obtain ⟨w', z⟩ := I.cell x c hc
    refine wpAny_storeName_cell I.ok.kind hk hc z (fun h' hc' hs => ?_)
    obtain ⟨oc, hoc, hocd⟩ := id z
    refine h { s with heap := h' } ⟨I.ok, I.os, I.bare, ⟨fun b o e n hb hx => ?_, fun b o e n hb hx => ?_, I.base.free, fun b o e hx => ?_, I.base.tups, I.base.frzs, I.base.tbls⟩, ⟨m, hn.sameBut hs (Ne.symm (cne x c hc)), fun j y v' e1 e2 e3 => ?_⟩, fun y c' e => ?_, I.free, I.freeC, fun p hp => ?_, tracked ⟨oc, hoc, I.freeC x c hc⟩ hs, by simpa using I.len⟩ ⟨c, hs, .inr hc⟩
    · exact (hs.2 b (Nat.ne_of_lt (Nat.lt_of_lt_of_le (Heap.lt_size e) (I.ok.cab x c hfn hc)))).trans (I.base.keep b o e n hb hx)
    · obtain ⟨sl, e1⟩ := I.base.slot b o e n hb hx
      exact ⟨sl, (hs.2 b (Nat.ne_of_lt (Nat.lt_of_lt_of_le (Heap.lt_size e) (I.ok.cab x c hfn hc)))).trans e1⟩
    · obtain ⟨o', e1⟩ := I.base.there b o e hx
      exact ⟨o', (hs.2 b (Nat.ne_of_lt (Nat.lt_of_lt_of_le (Heap.lt_size e) (I.ok.cab x c hfn hc)))).trans e1⟩
    · by_cases hj : j = i
      · subst hj
        rw [hi] at e1; cases e1
        rw [List.getElem?_set_self hiσ] at e2
        cases e2
        exact ⟨u, r, .inr ⟨.inl hk, c, hc, hc'⟩⟩
      · rw [List.getElem?_set_ne (Ne.symm hj)] at e2
        obtain ⟨u', r', q⟩ := hl j y v' e1 e2 e3
        refine ⟨u', r', ?_⟩
        rcases q with q | ⟨k, c', e, z'⟩
        · exact .inl q
        · refine .inr ⟨k, c', e, z'.sameBut hs ?_⟩
          rintro rfl
          exact hj (nodup_ix hN e1 (I.ok.inj _ _ _ e hc ▸ hi))
    · by_cases hcc : c' = c
      · subst hcc; exact ⟨_, hc'⟩
      · obtain ⟨w2, z2⟩ := I.cell y c' e
        exact ⟨w2, z2.sameBut hs hcc⟩
    · obtain ⟨e, n, ne, nf, d⟩ := I.pin p hp
      refine ⟨(hs.2 p.1 ?_).trans e, n, ne, nf, d⟩
      intro q
      rw [q, hoc] at e
      have q' : oc = p.2 := Option.some.inj e
      exact d w' (by rw [← q']; exact hocd)
theorem store_ok {M : Model} {A : Around} {E : Value → Shared → Prop} {i : Nat} {x : Str} {v : V} {u : Value} {Q : Unit → Shared → Prop} (I : Inv X pins σ H s) (hN : X.N.Nodup) (hi : X.N[i]? = some x) (hx : Loc X.env.scope x) (r : RelV v u)
    (h : ∀ s', Inv X pins (σ.set i (some v)) H s' → Q () s') (hf : X.fn x = true ∨ X.env.scope.names.lookup x = some .local := by first | exact .inl rfl | exact .inr rfl | assumption) : wpAny M A (storeName X.env x u) Q E s :=
  store_ok2 I hN hi hx r (fun s' I' _ => h s' I') hf
/-- behind a call or a block, the state as it is -/
theorem Inv.call' {s' : Shared} {ch : List Addr} (I : Inv X pins σ H s) (ho : s'.os = s.os) (u : Un (frs X.stack) ch H H' s.heap s'.heap) (hok : HOk X.prog X.w H' s'.heap) (hg : AllBare s'.gens)
    (hch : ∀ b ∈ ch, (b ∈ X.ex ∨ X.s_0.heap.objs.size ≤ b) ∧ b ≠ X.env.locals ∧ (∀ x c, X.env.cells.lookup x = some c → c ≠ b) ∧ ∀ p ∈ X.pn ++ pins, p.1 ≠ b) : Inv X pins σ H' s' := by
  obtain ⟨h', g', d', t', o'⟩ := s'
  have e : o' = s.os := ho
  subst e
  exact I.call (g' := g') (t' := t') (d' := d') u hok hg hch
end

/-- an exception: its class, its own dict's address (where it has one), the abstract heap behind it -/
abbrev XK := Value → Option Addr → Hp → Prop
abbrev St := List (Option V)
abbrev VK := V → Hp → Prop
/-- an expression's reading; a test's; an argument list's -/
abbrev TE := St → Hp → VK → Prop
abbrev TT := St → Hp → (Bool → Hp → Prop) → Prop
abbrev TA := St → Hp → (List V → Hp → Prop) → Prop
/-- what is wanted behind a statement -/
structure Ends where
  nx : St → Hp → Prop
  rt : VK
  bk : St → Hp → Prop := fun _ _ => False
  ct : St → Hp → Prop := fun _ _ => False
abbrev TS := Ends → St → Hp → Prop

def EP (X : Cx) (pins : List (Addr × Obj)) (σ : St) (Q : VK) (u : Value) (s' : Shared) : Prop := ∃ v H', Inv X pins σ H' s' ∧ RelV v u ∧ Q v H'
def TP (X : Cx) (pins : List (Addr × Obj)) (σ : St) (Q : Bool → Hp → Prop) (b : Bool) (s' : Shared) : Prop := ∃ H', Inv X pins σ H' s' ∧ Q b H'
def AP (X : Cx) (pins : List (Addr × Obj)) (σ : St) (Q : List V → Hp → Prop) (us : List Value) (s' : Shared) : Prop := ∃ vs H', Inv X pins σ H' s' ∧ Vals vs us ∧ Q vs H'
def SP (X : Cx) (pins : List (Addr × Obj)) (D : Ends) (f : Flow) (s' : Shared) : Prop :=
  match f with
  | .next => ∃ σ' H', Inv X pins σ' H' s' ∧ D.nx σ' H'
  | .brk => ∃ σ' H', Inv X pins σ' H' s' ∧ D.bk σ' H'
  | .cont => ∃ σ' H', Inv X pins σ' H' s' ∧ D.ct σ' H'
  | .ret u => ∃ v σ' H', Inv X pins σ' H' s' ∧ RelV v u ∧ D.rt v H'

def PE (X : Cx) (e : Expr) (t : TE) : Prop :=
  ∀ (pins : List (Addr × Obj)) (s : Shared) (σ : St) (H : Hp) (Q : VK), Inv X pins σ H s → t σ H Q → wpAny (model X.prog X.w) X.A (eval e X.env) (EP X pins σ Q) X.xe s
def PT (X : Cx) (e : Expr) (t : TT) : Prop :=
  ∀ (pins : List (Addr × Obj)) (s : Shared) (σ : St) (H : Hp) (Q : Bool → Hp → Prop), Inv X pins σ H s → t σ H Q → wpAny (model X.prog X.w) X.A (isTrue e X.env (eval e X.env)) (TP X pins σ Q) X.xe s
/-- a test whatever its 'whole' is (and, or) -/
def PW (X : Cx) (e : Expr) (t : TT) : Prop :=
  ∀ (whole : Sem Value) (pins : List (Addr × Obj)) (s : Shared) (σ : St) (H : Hp) (Q : Bool → Hp → Prop), Inv X pins σ H s → t σ H Q → wpAny (model X.prog X.w) X.A (isTrue e X.env whole) (TP X pins σ Q) X.xe s
theorem PW.pt {X : Cx} {e : Expr} {t : TT} (h : PW X e t) : PT X e t := h _
/-- an argument list (no star), from the left -/
def PA (X : Cx) (es : List Expr) (t : TA) : Prop :=
  ∀ (pos : Pos) (pins : List (Addr × Obj)) (s : Shared) (σ : St) (H : Hp) (Q : List V → Hp → Prop), Inv X pins σ H s → t σ H Q → wpAny (model X.prog X.w) X.A (spliced (backTo pos (starEach es X.env))) (AP X pins σ Q) X.xe s
def PS (X : Cx) (st : Stmt) (t : TS) : Prop :=
  ∀ (pins : List (Addr × Obj)) (s : Shared) (σ : St) (H : Hp) (D : Ends), Inv X pins σ H s → t D σ H → wpAny (model X.prog X.w) X.A (exec st X.env) (SP X pins D) X.xe s
def PSs (X : Cx) (st : List Stmt) (t : TS) : Prop :=
  ∀ (pins : List (Addr × Obj)) (s : Shared) (σ : St) (H : Hp) (D : Ends), Inv X pins σ H s → t D σ H → wpAny (model X.prog X.w) X.A (execs st X.env) (SP X pins D) X.xe s
/-- weaken the end -/
theorem thn {α : Type} {t : Sem α} {Q Q' : α → Shared → Prop} {M : Model} {A : Around} {E : Value → Shared → Prop} {s : Shared} (h : wpAny M A t Q E s) (hQ : ∀ a s, Q a s → Q' a s) : wpAny M A t Q' E s := wpAny_mono h hQ fun _ _ x => x
end L2

namespace L2
open PySem PySem.Spec PyProof.Rows
section
variable {X : Cx}

def tVar (i : Nat) : TE := fun σ H Q => ∃ v, σ[i]? = some (some v) ∧ Q v H
def tC (v : V) : TE := fun _ H Q => Q v H
theorem pe_var {i : Nat} {x : Str} {pos : Pos} (hN : X.N[i]? = some x) (hv : Vis X.env.scope x) (hd : (x == ("__debug__" : Str)) = false := by decide) (hcd : (x == ("__classdict__" : Str)) = false := by decide) : PE X (.Name x pos) (tVar i) := by
  intro pins s σ H Q I h
  obtain ⟨v, e, h⟩ := h
  obtain ⟨m, hn, hl⟩ := I.loc
  obtain ⟨u, r, l⟩ := hl i x v hN e hv
  have fin : EP X pins σ Q u s := ⟨v, H, I, r, h⟩
  rcases l with ⟨hk, hm⟩ | ⟨hk, c, hc, hcell⟩
  · exact wpAny_Name (wpAny_loadName_local I.ok.kind hk hn hm fin) hd
  · rcases hk with hk | hk
    · exact wpAny_Name (wpAny_loadName_cell I.ok.kind hk hc hcell fin) hd
    · exact wpAny_Name (wpAny_loadName_free I.ok.kind hk hc hcell fin hcd) hd
theorem pe_int {i j pos} : PE X (.Constant (.int i) j pos) (tC (.int i)) := fun _ _ _ H _ I h => wpAny_Constant_int ⟨.int i, H, I.tok _, ⟨_, rfl⟩, h⟩
theorem pe_bl {b j pos} : PE X (.Constant (.bool b) j pos) (tC (.bl b)) := fun _ _ _ H _ I h => Constant_bool ⟨.bl b, H, I, rfl, h⟩
/-- a global name of the def -/
def Gl (X : Cx) (x : Str) : Prop := X.env.kindOf x = some .globalImplicit
theorem ld_glob {E : Value → Shared → Prop} {pins : List (Addr × Obj)} {s : Shared} {σ : St} {H : Hp} {x : Str} {u : Value} {pos : Pos} {Q : Value → Shared → Prop} (I : Inv X pins σ H s) (hg : Gl X x) (hm : X.mg x = some u) (h : Q u s)
    (hd : (x == ("__debug__" : Str)) = false := by decide) : wpAny (model X.prog X.w) X.A (eval (.Name x pos) X.env) Q E s :=
  Calls.Name_function_global I.ok.kind hg (Calls.loadGlobal_global (by rw [I.ok.glob]; exact I.mod.glob.keeps I.bk) hm h) hd
theorem ld_blt {E : Value → Shared → Prop} {pins : List (Addr × Obj)} {s : Shared} {σ : St} {H : Hp} {x : Str} {u : Value} {pos : Pos} {Q : Value → Shared → Prop} (I : Inv X pins σ H s) (hg : Gl X x) (hm : X.mg x = none) (hv : bootBuiltins x = some u) (h : Q u s)
    (hn : x ≠ "__name__" := by decide) (hd : (x == ("__debug__" : Str)) = false := by decide) : wpAny (model X.prog X.w) X.A (eval (.Name x pos) X.env) Q E s := by
  obtain ⟨mb, h1, h2⟩ := I.mod.blt
  exact Calls.Name_function_global I.ok.kind hg (Calls.loadGlobal_builtin (by rw [I.ok.glob]; exact I.mod.glob.keeps I.bk) hm (by rw [I.ok.blt]; exact h1.keeps I.bk) ((h2 x hn).trans hv) h) hd
/-- a module's constant, a class, a function, as a value -/
theorem pe_glob {x : Str} {v : V} {u : Value} {pos : Pos} (hg : Gl X x) (hm : X.mg x = some u) (r : RelV v u) (hd : (x == ("__debug__" : Str)) = false := by decide) : PE X (.Name x pos) (tC v) :=
  fun _ _ _ H _ I h => ld_glob I hg hm ⟨v, H, I, r, h⟩ hd
variable {a b : Expr} {ta tb : TE} {pos : Pos}
/-- a comparison as a value, as a test -/
def tB (t : TE) : TT := fun σ H Q => t σ H fun x H1 => ∃ c, x = .bl c ∧ Q c H1
/-- an expression whose value is a bool, as a test -/
theorem pt_val {e : Expr} {t : TE} (h : PE X e t) (he : ∀ whole, isTrue e X.env whole = (do let v ← whole; standAt e.pos; holding [v] (truthy v)) := by intro _; rfl) : PT X e (tB t) := by
  intro pins s σ H Q I hw
  refine isTrue_plain (thn (h pins s σ H _ I hw) fun v s1 ⟨x, H1, I1, r1, q1⟩ => ?_) (he _)
  obtain ⟨d, rfl, q⟩ := q1
  cases r1
  exact wpAny_truthy_bool ⟨H1, I1, q⟩

variable {tA tB' : TT} {rest : List Expr}
def tAnd (t u : TT) : TT := fun σ H Q => t σ H fun c H1 => if c = true then u σ H1 Q else Q false H1
def tOr (t u : TT) : TT := fun σ H Q => t σ H fun c H1 => if c = true then Q true H1 else u σ H1 Q
def tNot (t : TT) : TT := fun σ H Q => t σ H fun c H1 => Q (!c) H1
theorem pw_and1 (ha : PT X a tA) : PW X (.BoolOp .And [a] pos) tA := by
  intro wh pins s σ H Q I h
  refine isTrue_and (thn (ha pins s σ H Q I h) fun c s1 e => ?_)
  cases c with
  | true => exact isTrue_and_nil e
  | false => exact e
theorem pw_or1 (ha : PT X a tA) : PW X (.BoolOp .Or [a] pos) tA := by
  intro wh pins s σ H Q I h
  refine isTrue_or (thn (ha pins s σ H Q I h) fun c s1 e => ?_)
  cases c with
  | false => exact isTrue_or_nil e
  | true => exact e
theorem pw_and (ha : PT X a tA) (hb : PW X (.BoolOp .And (b :: rest) pos) tB') : PW X (.BoolOp .And (a :: b :: rest) pos) (tAnd tA tB') := by
  intro wh pins s σ H Q I h
  refine isTrue_and (thn (ha pins s σ H _ I h) fun c s1 ⟨H1, I1, q1⟩ => ?_)
  cases c with
  | true => exact hb wh pins s1 σ H1 Q I1 q1
  | false => exact ⟨H1, I1, q1⟩
theorem pw_or (ha : PT X a tA) (hb : PW X (.BoolOp .Or (b :: rest) pos) tB') : PW X (.BoolOp .Or (a :: b :: rest) pos) (tOr tA tB') := by
  intro wh pins s σ H Q I h
  refine isTrue_or (thn (ha pins s σ H _ I h) fun c s1 ⟨H1, I1, q1⟩ => ?_)
  cases c with
  | true => exact ⟨H1, I1, q1⟩
  | false => exact hb wh pins s1 σ H1 Q I1 q1
theorem pt_not (ha : PT X a tA) : PT X (.UnaryOp .Not a pos) (tNot tA) := by
  intro pins s σ H Q I h
  exact isTrue_not (ha pins s σ H (fun c H1 => Q (!c) H1) I h)
/-- .. as values (bools) -/
def tAndV (ta tb : TE) : TE := fun σ H Q => ta σ H fun x H1 => ∃ c, x = .bl c ∧ if c = true then tb σ H1 Q else Q (.bl false) H1
theorem pe_one {op} {t : TE} (h : PE X a t) : PE X (.BoolOp op [a] pos) t := fun pins s σ H Q I hw => BoolOp_one (h pins s σ H Q I hw)
theorem pe_and (ha : PE X a ta) (hb : PE X (.BoolOp .And (b :: rest) pos) tb) : PE X (.BoolOp .And (a :: b :: rest) pos) (tAndV ta tb) := by
  intro pins s σ H Q I h
  refine BoolOp_and (thn (ha pins s σ H _ I h) fun v s1 ⟨x, H1, I1, r1, q1⟩ => ?_)
  obtain ⟨c, rfl, q1⟩ := q1
  cases r1
  refine wpAny_truthy_bool ?_
  cases c with
  | true => exact hb pins s1 σ H1 Q I1 q1
  | false => exact ⟨.bl false, H1, I1, rfl, q1⟩
end
end L2

namespace L2
open PySem PySem.Spec PyProof.Rows

def SqL (K : PySem.W.Frag) (H : Hp) (a : Addr) (xs : List V) : Prop :=
  Rd H a (.lst xs) ∨
    ∃ (o : Obj) (its : Array Value) (n : Nat), K.lookup a = some o ∧ o.cls = .type "list" ∧ o.dict = none ∧ o.data = .seq its n ∧ its.size ≤ sizeLine ∧ Vals xs its.toList
def SqT (K : PySem.W.Frag) (H : Hp) (a : Addr) (xs : List V) : Prop :=
  Rd H a (.tup xs) ∨
    ∃ (o : Obj) (its : Array Value) (n : Nat), K.lookup a = some o ∧ o.cls = .type "tuple" ∧ o.data = .seq its n ∧ its.size ≤ sizeLine ∧ Vals xs its.toList
def absV : Value → Option V
  | .none => some .non
  | .bool b => some (.bl b)
  | .int i _ => some (.int i)
  | .str x _ => some (.str x)
  | .bytes b _ => some (.byt b)
  | .float b _ => some (.flt b)
  | .ref a => some (.ref a)
  | .type n => some (.ty n)
  | _ => none
theorem RelV.abs {x : V} {u : Value} (r : RelV x u) : absV u = some x := by
  cases x with
  | non => cases r; rfl
  | bl _ => cases r; rfl
  | int _ => obtain ⟨t, rfl⟩ := r; rfl
  | str _ => obtain ⟨t, rfl⟩ := r; rfl
  | byt _ => obtain ⟨t, rfl⟩ := r; rfl
  | flt _ => obtain ⟨t, rfl⟩ := r; rfl
  | ref _ => cases r; rfl
  | ty _ => cases r; rfl
theorem RelV.inj {x y : V} {u : Value} (r : RelV x u) (q : RelV y u) : x = y := Option.some.inj (r.abs.symm.trans q.abs)
theorem Vals.inj : ∀ {xs ys : List V} {us : List Value}, Vals xs us → Vals ys us → xs = ys
  | _, _, _, .nil, .nil => rfl
  | _, _, _, .cons r t, .cons r' t' => by rw [r.inj r', Vals.inj t t']
section
variable {X : Cx} {pins : List (Addr × Obj)} {σ : St} {H : Hp} {s : Shared} {a : Addr} {xs ys : List V}
theorem SqL.of {K : PySem.W.Frag} (h : H a = some (.lst xs)) : SqL K H a xs := .inl (.inl h)
theorem Inv.list (I : Inv X pins σ H s) (h : SqL X.K H a xs) : ∃ its : List Value, Vals xs its ∧ PlainL s.heap a its.toArray ∧ xs.length ≤ sizeLine := by
  rcases h with h | ⟨o, its, n, hk, hc, hd, hs, hz, r⟩
  · obtain ⟨z, its, n, r, e⟩ := h.ok I.hok
    exact ⟨its, r, ⟨_, n, e, rfl, rfl, rfl⟩, z⟩
  · refine ⟨its.toList, r, ⟨o, n, I.kIn a o hk, hc, hd, by simpa using hs⟩, ?_⟩
    have e := r.length
    simp only [Array.length_toList] at e
    omega
theorem Inv.tuple (I : Inv X pins σ H s) (h : SqT X.K H a xs) : ∃ its : List Value, Vals xs its ∧ IsTup s.heap a its.toArray ∧ xs.length ≤ sizeLine := by
  rcases h with h | ⟨o, its, n, hk, hc, hs, hz, r⟩
  · obtain ⟨z, its, r, p⟩ := h.ok I.hok
    exact ⟨its, r, p, z⟩
  · refine ⟨its.toList, r, ⟨o, I.kIn a o hk, hc, n, by simpa using hs⟩, ?_⟩
    have e := r.length
    simp only [Array.length_toList] at e
    omega
theorem Inv.list_inj (I : Inv X pins σ H s) (h : SqL X.K H a xs) (h' : SqL X.K H a ys) : xs = ys := by
  obtain ⟨its, r, ⟨o, n, e, _, _, d⟩, _⟩ := I.list h
  obtain ⟨its', r', ⟨o', n', e', _, _, d'⟩, _⟩ := I.list h'
  rw [e] at e'; cases e'
  rw [d] at d'
  injection d' with d1 _
  have : its = its' := by simpa using congrArg Array.toList d1
  subst this
  exact r.inj r'
end

abbrev Cx.wish (X : Cx) (E : Value → Shared → Prop) : Cx := { X with xe := E }
/-- no exception leaves -/
abbrev Cx.nox (X : Cx) : Cx := X.wish fun _ _ => False
theorem Cx.Ok.wish {X : Cx} (ok : X.Ok) (E : Value → Shared → Prop) : (X.wish E).Ok :=
  ⟨ok.mod, ok.kind, ok.glob, ok.blt, ok.above, ok.inj, ok.has, ok.cab, ok.hd, ok.frames, ok.stk, ok.exf, ok.bs, ok.bsz, ok.noex, ok.exfs, ok.funs, ok.frf⟩
theorem Cx.Ok.unwish {X : Cx} {E : Value → Shared → Prop} (ok : (X.wish E).Ok) : X.Ok :=
  ⟨ok.mod, ok.kind, ok.glob, ok.blt, ok.above, ok.inj, ok.has, ok.cab, ok.hd, ok.frames, ok.stk, ok.exf, ok.bs, ok.bsz, ok.noex, ok.exfs, ok.funs, ok.frf⟩
section
variable {X : Cx} {pins : List (Addr × Obj)} {σ : St} {H : Hp} {s : Shared} {E : Value → Shared → Prop}
theorem Inv.wish (I : Inv X pins σ H s) (E : Value → Shared → Prop) : Inv (X.wish E) pins σ H s := ⟨I.ok.wish E, I.os, I.bare, I.base, I.loc, I.cell, I.free, I.freeC, I.pin, I.hok, I.len⟩
theorem Inv.unwish (I : Inv (X.wish E) pins σ H s) : Inv X pins σ H s := ⟨I.ok.unwish, I.os, I.bare, I.base, I.loc, I.cell, I.free, I.freeC, I.pin, I.hok, I.len⟩
theorem SP.unwish {D : Ends} {f : Flow} {s' : Shared} (h : SP (X.wish E) pins D f s') : SP X pins D f s' := by
  cases f with
  | next => obtain ⟨σ', H', I, q⟩ := h; exact ⟨σ', H', I.unwish, q⟩
  | brk => obtain ⟨σ', H', I, q⟩ := h; exact ⟨σ', H', I.unwish, q⟩
  | cont => obtain ⟨σ', H', I, q⟩ := h; exact ⟨σ', H', I.unwish, q⟩
  | ret u => obtain ⟨v, σ', H', I, r, q⟩ := h; exact ⟨v, σ', H', I.unwish, r, q⟩
theorem PSs.nox {st : List Stmt} {t : TS} (h : PSs X.nox st t) : PSs X st t := fun pins s σ H D I hw =>
  wpAny_mono (h pins s σ H D (I.wish _) hw) (fun _ _ q => q.unwish) fun _ _ z => False.elim z
end

section
variable {X : Cx} {st : Stmt} {rest : List Stmt} {t u : TS} {e : Expr} {te : TE} {pos : Pos}
def tNext : TS := fun D σ H => D.nx σ H
def tSeq (t u : TS) : TS := fun D σ H => t { D with nx := u D } σ H
theorem pss_nil : PSs X [] tNext := fun _ _ σ H _ I h => wpAny_execs_nil ⟨σ, H, I, h⟩
theorem pss_cons (h1 : PS X st t) (h2 : PSs X rest u) : PSs X (st :: rest) (tSeq t u) := by
  intro pins s σ H D I h
  refine wpAny_execs_cons (thn (h1 pins s σ H { D with nx := u D } I h) fun f s1 q => ?_)
  cases f with
  | next =>
    obtain ⟨σ', H', I', q⟩ := q
    exact h2 pins s1 σ' H' D I' q
  | ret v => exact q
  | brk => exact q
  | cont => exact q
theorem pss_one (h1 : PS X st t) : PSs X [st] t := by
  intro pins s σ H D I h
  refine wpAny_execs_cons (thn (h1 pins s σ H D I h) fun f s1 q => ?_)
  cases f with
  | next => exact wpAny_execs_nil q
  | ret v => exact q
  | brk => exact q
  | cont => exact q
/-- in a def's body nothing is shown -/
theorem Inv.quiet {pins : List (Addr × Obj)} {σ : St} {H : Hp} {s : Shared} (I : Inv X pins σ H s) : interactive X.env = false := by simp [interactive, I.ok.kind]
/-- an expression whose value is dropped -/
def tDrop (te : TE) : TS := fun D σ H => te σ H fun _ H1 => D.nx σ H1
theorem ps_expr (he : PE X e te) (hs : swapsWith e none pos.line X.env = pure false := by rfl) : PS X (.Expr e pos) (tDrop te) := by
  intro pins s σ H D I h
  exact wpAny_Expr_any (thn (he pins s σ H _ I h) fun v s1 ⟨x, H1, I1, r1, q1⟩ => ⟨σ, H1, I1, q1⟩) I.quiet hs
def tRet (te : TE) : TS := fun D σ H => te σ H D.rt
theorem ps_ret (he : PE X e te) : PS X (.Return (some e) pos) (tRet te) := by
  intro pins s σ H D I h
  exact wpAny_Return_some (thn (he pins s σ H _ I h) fun v s1 ⟨x, H1, I1, r1, q1⟩ => ⟨x, σ, H1, I1, r1, q1⟩)
def tIfS (c : TT) (t u : TS) : TS := fun D σ H => c σ H fun b H1 => if b = true then t D σ H1 else u D σ H1
theorem ps_if {c : Expr} {a b : List Stmt} {tc : TT} (hc : PT X c tc) (ha : PSs X a t) (hb : PSs X b u) : PS X (.If c a b pos) (tIfS tc t u) := by
  intro pins s σ H D I h
  refine wpAny_If (thn (hc pins s σ H _ I h) fun d s1 ⟨H1, I1, q1⟩ => ?_)
  cases d with
  | true => exact ha pins s1 σ H1 D I1 q1
  | false => exact hb pins s1 σ H1 D I1 q1
end

abbrev TG := V → St → Hp → (St → Hp → Prop) → Prop
def PG (X : Cx) (target : Expr) (t : TG) : Prop :=
  ∀ (pins : List (Addr × Obj)) (s : Shared) (σ : St) (H : Hp) (v : V) (u : Value) (Q : St → Hp → Prop), Inv X pins σ H s → RelV v u → t v σ H Q →
    wpAny (model X.prog X.w) X.A (assign target X.env u) (fun _ s' => ∃ σ' H', Inv X pins σ' H' s' ∧ Q σ' H') X.xe s
section
variable {X : Cx} {pos : Pos}
def gName (i : Nat) : TG := fun v σ H Q => Q (σ.set i (some v)) H
theorem pg_name {i : Nat} {x : Str} (hN : X.N.Nodup) (hi : X.N[i]? = some x) (hx : Loc X.env.scope x) (hf : X.fn x = true ∨ X.env.scope.names.lookup x = some .local := by first | exact .inl rfl | exact .inr rfl | assumption) : PG X (.Name x pos) (gName i) := by
  intro pins s σ H v u Q I r h
  exact wpAny_assign_Name (store_ok I hN hi hx r (fun s' I' => ⟨_, H, I', h⟩) hf)
/-- target = value -/
def tAsg (te : TE) (g : TG) : TS := fun D σ H => te σ H fun x H1 => g x σ H1 D.nx
/-- name = value -/
theorem ps_set {i : Nat} {x : Str} {e : Expr} {te : TE} {pos' : Pos} (hN : X.N.Nodup) (hi : X.N[i]? = some x) (hx : Loc X.env.scope x) (he : PE X e te) (hs : swapsWith e (some (.Name x pos')) pos.line X.env = pure false := by rfl) (hf : X.fn x = true ∨ X.env.scope.names.lookup x = some .local := by first | exact .inl rfl | exact .inr rfl | assumption) :
    PS X (.Assign [.Name x pos'] e pos) (tAsg te (gName i)) := by
  intro pins s σ H D I h
  refine wpAny_Assign_Name (thn (he pins s σ H _ I h) fun v s1 ⟨y, H1, I1, r1, q1⟩ => ?_) hs
  exact store_ok I1 hN hi hx r1 (fun s2 I2 => ⟨_, H1, I2, q1⟩) hf
end

section
variable {X : Cx} {pos : Pos}
/-- the invariant W with its measure -/
def tWhile (c : TT) (tb : TS) : TS := fun D σ H => ∃ W : Nat → St → Hp → Prop, (∃ m, W m σ H) ∧ ∀ m σ H, W m σ H →
  c σ H fun b H1 => if b = true then ∃ N : St → Hp → Prop, (∀ σ' H', N σ' H' → ∃ m', m' < m ∧ W m' σ' H') ∧ tb { D with nx := N, ct := N, bk := D.nx } σ H1 else D.nx σ H1
theorem ps_while {c : Expr} {body : List Stmt} {tc : TT} {tb : TS} (hp : PassesOwn (model X.prog X.w) X.A X.env X.xe) (hc : PT X c tc) (hb : PSs X body tb) : PS X (.While c body [] pos) (tWhile tc tb) := by
  intro pins s σ H D I h
  obtain ⟨W, ⟨m0, w0⟩, turn⟩ := h
  refine wpAny_While (codeAny_whileLoop (fun n s' => ∃ σ' H', Inv X pins σ' H' s' ∧ W n σ' H') ?_ m0 ⟨σ, H, I, w0⟩)
  rintro n s1 ⟨σ1, H1, I1, w1⟩
  refine wpAny_passesOwn hp (thn (hc pins s1 σ1 H1 _ I1 (turn n σ1 H1 w1)) fun b s2 ⟨H2, I2, q2⟩ => ?_)
  cases b with
  | true =>
    obtain ⟨N, hN, q2⟩ := q2
    rw [if_pos rfl]
    refine wpAny_passesOwn hp (thn (hb pins s2 σ1 H2 _ I2 q2) fun f s3 q3 => ?_)
    cases f with
    | next =>
      obtain ⟨σ3, H3, I3, n3⟩ := q3
      obtain ⟨m', hm, w3⟩ := hN σ3 H3 n3
      exact ⟨m', hm, σ3, H3, I3, w3⟩
    | cont =>
      obtain ⟨σ3, H3, I3, n3⟩ := q3
      obtain ⟨m', hm, w3⟩ := hN σ3 H3 n3
      exact ⟨m', hm, σ3, H3, I3, w3⟩
    | brk => exact q3
    | ret v => exact q3
  | false =>
    rw [if_neg Bool.false_ne_true]
    exact wpAny_execs_nil ⟨σ1, H2, I2, q2⟩
end

/-- at turn i: it yields x (the heap may grow), or it stops -/
structure It where
  go : Nat → Hp → Prop
  yld : Nat → Hp → V → Hp → Prop
  stop : Nat → Hp → Prop
/-- the iterator's own objects may turn: they are not the frame's, not pinned, younger than the entry (or a comprehension's own) -/
def FpOk (X : Cx) (pins : List (Addr × Obj)) (H : Hp) (b : Addr) : Prop :=
  H b = none ∧ b ≠ X.env.locals ∧ b ∉ X.fs ∧ (b ∈ X.ex ∨ X.s_0.heap.objs.size ≤ b) ∧ (∀ x c, X.env.cells.lookup x = some c → c ≠ b) ∧ ∀ p ∈ X.pn ++ pins, p.1 ≠ b
theorem Inv.fpOk {X : Cx} {pins : List (Addr × Obj)} {σ : St} {H H' : Hp} {s : Shared} {b : Addr} (I : Inv X pins σ H s) (hb : s.heap.objs.size ≤ b) (hn : H' b = none) : FpOk X pins H' b := by
  refine ⟨hn, Nat.ne_of_gt (Nat.lt_of_lt_of_le I.lt hb), I.nofs hb, .inr (Nat.le_trans I.sz hb), fun x c e z => ?_, fun p hp z => ?_⟩
  · obtain ⟨v, q⟩ := I.cell x c e
    exact absurd (Nat.lt_of_lt_of_le q.lt (by rw [z]; exact hb)) (Nat.lt_irrefl _)
  · exact absurd (Nat.lt_of_lt_of_le (Heap.lt_size (I.pin p hp).1) (by rw [z]; exact hb)) (Nat.lt_irrefl _)
structure Turn (P : Program) (w : World) (K : PySem.W.Frag) (tg : Expr) (J : It) (fp : List Addr) (it : Addr) (tn : Nat → Heap → Prop) : Prop where
  mem : it ∈ fp
  obj : ∀ i h, tn i h → ∀ b ∈ fp, ∃ o, h.get? b = some o ∧ ∀ v, o.data ≠ .cell v
  keep : ∀ i h h', tn i h → (∀ b ∈ fp, ∀ o, h.get? b = some o → h'.get? b = some o) → tn i h'
  item : ∀ (X : Cx), X.prog = P → X.w = w → X.K = K → X.calm = true → ∀ (i : Nat) (pins : List (Addr × Obj)) (s : Shared) (σ : St) (H : Hp) (E : Value → Shared → Prop), Inv X pins σ H s → (∀ b ∈ fp, FpOk X pins H b) → tn i s.heap → J.go i H →
    wpAny (model P w) X.A (pyNext (.ref it)) (fun r s1 => ∃ u, r = some u ∧
      wpAny (model P w) X.A (letOwnedTupleGo tg (.ref it) u) (fun _ s2 => ∃ x H', Inv X pins σ H' s2 ∧ RelV x u ∧ J.yld i H x H' ∧ tn (i + 1) s2.heap ∧ ∀ b ∈ fp, H' b = none) E s1) E s
  done : ∀ (X : Cx), X.prog = P → X.w = w → X.K = K → X.calm = true → ∀ (i : Nat) (pins : List (Addr × Obj)) (s : Shared) (σ : St) (H : Hp) (E : Value → Shared → Prop), Inv X pins σ H s → (∀ b ∈ fp, FpOk X pins H b) → tn i s.heap → J.stop i H →
    wpAny (model P w) X.A (pyNext (.ref it)) (fun r s1 => r = none ∧ Inv X pins σ H s1) E s
  self : ∀ (A : Around) (i : Nat) (s : Shared) (Q : Value → Shared → Prop) (E : Value → Shared → Prop), tn i s.heap → Q (.ref it) s → wpAny (model P w) A (pyIter (.ref it)) Q E s
abbrev TI := St → Hp → (It → Hp → Prop) → Prop
/-- an iterator has come -/
def PIE (X : Cx) (pins : List (Addr × Obj)) (σ : St) (tg : Expr) (R : It → Hp → Prop) (itv : Value) (s2 : Shared) : Prop :=
  ∃ (it : Addr) (fp : List Addr) (tn : Nat → Heap → Prop) (J : It) (H' : Hp), itv = .ref it ∧ Inv X pins σ H' s2 ∧ Turn X.prog X.w X.K tg J fp it tn ∧ tn 0 s2.heap ∧ (∀ b ∈ fp, FpOk X pins H' b) ∧ R J H'
def PI (X : Cx) (tg iter : Expr) (wi : TI) : Prop :=
  ∀ (pins : List (Addr × Obj)) (s : Shared) (σ : St) (H : Hp) (R : It → Hp → Prop), Inv X pins σ H s → wi σ H R →
    wpAny (model X.prog X.w) X.A (eval iter X.env) (fun v s1 => wpAny (model X.prog X.w) X.A (pyIter v) (PIE X pins σ tg R) X.xe s1) X.xe s

/-- the step ahead of the store is nothing for an iterator that keeps no tuple -/
theorem go_of {M : Model} {A : Around} {E : Value → Shared → Prop} {s : Shared} {tg : Expr} {it : Addr} {u : Value} {o : Obj} {n : String} {vs : Array Value} {Q : Unit → Shared → Prop} (ho : s.heap.get? it = some o) (hc : o.cls = .type n) (hd : o.data = .fields vs)
    (hn : ["enumerate", "zip", "dict_itemiterator", "dict_reverseitemiterator", "odict_iterator", "itertools.zip_longest", "itertools.pairwise"].contains n = false) (hQ : Q () s) : wpAny M A (letOwnedTupleGo tg (.ref it) u) Q E s := by
  unfold letOwnedTupleGo
  cases tg <;> first
    | exact wpAny_pure hQ
    | (cases u <;> first
        | exact wpAny_pure hQ
        | (refine wpAny_bind (wpAny_load ho ?_)
           rw [hc, hd]
           show wpAny M A (if (["enumerate", "zip", "dict_itemiterator", "dict_reverseitemiterator", "odict_iterator", "itertools.zip_longest", "itertools.pairwise"].contains n && vs[0]? == some (rawInt _)) = true then _ else _) Q E s
           rw [if_neg (by intro h; rw [hn, Bool.false_and] at h; cases h)]
           exact wpAny_pure hQ))

/-- the list at a, as it stands at each turn (a loop may append to it) -/
def Itl (K : PySem.W.Frag) (a : Addr) : It :=
  ⟨fun i H => ∃ xs x, SqL K H a xs ∧ xs[i]? = some x, fun i H x H' => H' = H ∧ ∀ xs, SqL K H a xs → xs[i]? = some x, fun i H => ∃ xs, SqL K H a xs ∧ xs.length ≤ i⟩
/-- lo, lo + 1, .. (n of them) -/
def Itr (lo : Int) (n : Nat) : It := ⟨fun i _ => i < n, fun i H x H' => H' = H ∧ x = .int (lo + i), fun i _ => n ≤ i⟩
theorem turn_list {P : Program} {w : World} {K : PySem.W.Frag} {tg : Expr} (a it : Addr) : Turn P w K tg (Itl K a) [it] it (fun i h => h.IsListIter it a i) where
  mem := by simp
  obj := fun i h st b hb => by
    have e : b = it := by simpa using hb
    subst e
    obtain ⟨o, e, c, d⟩ := st
    exact ⟨o, e, fun v z => by rw [d] at z; cases z⟩
  keep := fun i h h' st k => st.at fun o e => k it (by simp) o e
  item := by
    intro X hP hw hK hc i pins s σ H E I hf st hg
    subst hP hw hK
    obtain ⟨xs, x, hq, hx⟩ := hg
    obtain ⟨its, rv, p, hz⟩ := I.list hq
    obtain ⟨u, hu, ru⟩ := rv.get hx
    obtain ⟨f0, f1, f2, f3, f4, f5⟩ := hf it (by simp)
    refine wpAny_pyNext_list_item st p.isList (x := u) (by simpa using hu) fun h' st' sb => ?_
    have I1 : Inv X pins σ H { s with heap := h' } := I.turned (t' := s.toks) (fun b o hb e => (sb.2 b hb).trans e) f0 f1 f3 f4 f5
    obtain ⟨o, e, c, d⟩ := id st'
    exact ⟨u, rfl, go_of (s := { s with heap := h' }) e c d (by decide) ⟨x, H, I1, ru, ⟨rfl, fun ys hy => by rw [I.list_inj hy hq]; exact hx⟩, st', fun b hb => (hf b hb).1⟩⟩
  done := by
    intro X hP hw hK hc i pins s σ H E I hf st hg
    subst hP hw hK
    obtain ⟨xs, hq, hx⟩ := hg
    obtain ⟨its, rv, p, hz⟩ := I.list hq
    obtain ⟨f0, f1, f2, f3, f4, f5⟩ := hf it (by simp)
    have hl := rv.length
    exact wpAny_pyNext_list_end (I.ok.hd hc) st p.isList (by simp; omega) fun h' eb => ⟨rfl, I.turned (t' := s.toks) (fun b o hb e => eb b o hb e) f0 f1 f3 f4 f5⟩
  self := fun _ _ _ _ _ st h => wpAny_pyIter_listiter st h
theorem turn_range {P : Program} {w : World} {K : PySem.W.Frag} {tg : Expr} (it : Addr) (lo : Int) (n : Nat) : Turn P w K tg (Itr lo n) [it] it (fun i h => IsRangeIter h it (lo + (i : Nat) * 1) ((n : Int) - (i : Nat)) 1) where
  mem := by simp
  obj := fun i h st b hb => by
    have e : b = it := by simpa using hb
    subst e
    exact ⟨_, st, fun v z => by
      have z' : Data.fields _ = Data.cell v := z
      cases z'⟩
  keep := fun i h h' st k => k it (by simp) _ st
  item := by
    intro X hP hw hK hc i pins s σ H E I hf st hg
    subst hP hw hK
    obtain ⟨f0, f1, f2, f3, f4, f5⟩ := hf it (by simp)
    have W := Walks.range (prog := X.prog) (w := X.w) (I.ok.hd hc) it lo 1 n
    refine W.item i s _ _ hg st fun v h' tk hv st' kk => ?_
    obtain ⟨t, rfl⟩ := hv
    have I1 : Inv X pins σ H { s with heap := h', toks := tk } := I.turned (fun b o hb e => kk b o (by simpa using hb) e) f0 f1 f3 f4 f5
    refine ⟨_, rfl, go_of (s := { s with heap := h', toks := tk }) (n := "range_iterator") st' rfl rfl (by decide) ⟨.int (lo + i), H, I1, ⟨t, ?_⟩, ⟨rfl, rfl⟩, st', fun b hb => (hf b hb).1⟩⟩
    rw [Int.mul_one]
  done := by
    intro X hP hw hK hc i pins s σ H E I hf st hg
    subst hP hw hK
    obtain ⟨f0, f1, f2, f3, f4, f5⟩ := hf it (by simp)
    exact wpAny_pyNext_range_end (I.ok.hd hc) st (by have : n ≤ i := hg; omega) fun h' eb => ⟨rfl, I.turned (t' := s.toks) (fun b o hb e => eb b o hb e) f0 f1 f3 f4 f5⟩
  self := fun _ _ _ _ _ st h => wpAny_pyIter_rangeiter st h
end L2

namespace L2
open PySem PySem.Spec PyProof.Rows
section
variable {X : Cx} {tg : Expr}
def iList (K : PySem.W.Frag) (tl : TE) : TI := fun σ H R => tl σ H fun x H1 => ∃ a, x = .ref a ∧ (∃ xs, SqL K H1 a xs) ∧ R (Itl K a) H1
theorem pi_list {l : Expr} {tl : TE} (hl : PE X l tl) : PI X tg l (iList X.K tl) := by
  intro pins s σ H R I h
  refine thn (hl pins s σ H _ I h) fun v s1 ⟨x, H1, I1, r1, q1⟩ => ?_
  obtain ⟨a, e, ⟨xs, hq⟩, q⟩ := q1
  subst e
  cases r1
  obtain ⟨its, rv, p, hz⟩ := I1.list hq
  refine wpAny_pyIter_list p.isList ?_
  refine ⟨s1.heap.objs.size, [s1.heap.objs.size], _, _, H1, rfl, I1.kept (t' := s1.toks) fun b o e => Heap.get?_push_of_some _ e, turn_list a _, ⟨_, Heap.get?_push_size _ rfl, rfl, rfl⟩, fun b hb => ?_, q⟩
  have e : b = s1.heap.objs.size := by simpa using hb
  subst e
  exact I1.fpOk (Nat.le_refl _) (I1.hok.fresh (Nat.le_refl _))
/-- a range object just made, walked -/
theorem range_it {pins : List (Addr × Obj)} {σ : St} {H : Hp} {s : Shared} {R : It → Hp → Prop} {E : Value → Shared → Prop} {lo hi : Int} {t u v : Tok} {tk : Nat} (I : Inv X pins σ H s) (h1 : -(2 ^ 62) ≤ lo) (h2 : lo < 2 ^ 62) (h3 : -(2 ^ 62) ≤ hi) (h4 : hi < 2 ^ 62)
    (q : R (Itr lo (hi - lo).toNat) H) : wpAny (model X.prog X.w) X.A (pyIter (.ref s.heap.objs.size)) (PIE X pins σ tg R) E { s with heap := s.heap.push { cls := .type "range", data := .fields #[.int lo t, .int hi u, .int 1 v] }, toks := tk } := by
  refine wpAny_pyIter_range (IsRange.new ..) (small_one h1 h2 h3 h4) ?_
  have I1 : Inv X pins σ H { s with heap := s.heap.push { cls := .type "range", data := .fields #[.int lo t, .int hi u, .int 1 v] }, toks := tk } := I.kept fun b o e => Heap.get?_push_of_some _ e
  refine ⟨(s.heap.push { cls := .type "range", data := .fields #[.int lo t, .int hi u, .int 1 v] }).objs.size, [(s.heap.push { cls := .type "range", data := .fields #[.int lo t, .int hi u, .int 1 v] }).objs.size], _, _, H, rfl,
    I1.kept (t' := tk) fun b o e => Heap.get?_push_of_some _ e, turn_range _ lo (hi - lo).toNat, ?_, fun b hb => ?_, q⟩
  · have e1 : lo + ((0 : Nat) : Int) * 1 = lo := by simp
    have e2 : (((hi - lo).toNat : Nat) : Int) - ((0 : Nat) : Int) = Builtin.Range.rangeSize lo hi 1 := by rw [rangeSize_one]; split <;> omega
    show IsRangeIter _ _ (lo + ((0 : Nat) : Int) * 1) ((((hi - lo).toNat : Nat) : Int) - ((0 : Nat) : Int)) 1
    rw [e1, e2]
    exact Heap.get?_push_size _ rfl
  · have e : b = (s.heap.push { cls := .type "range", data := .fields #[.int lo t, .int hi u, .int 1 v] }).objs.size := by simpa using hb
    subst e
    exact I1.fpOk (Nat.le_refl _) (I1.hok.fresh (Nat.le_refl _))
def iRng1 (ta : TA) : TI := fun σ H R => ta σ H fun vs H1 => ∃ j : Int, vs = [.int j] ∧ -(2 ^ 62) ≤ j ∧ j < 2 ^ 62 ∧ R (Itr 0 j.toNat) H1
theorem pi_range1 {a : Expr} {ta : TA} {p pos : Pos} (hg : Gl X "range") (hm : X.mg "range" = none) (ha : PA X [a] ta) (hs : starEach [a] X.env = [(false, eval a X.env)] := by rfl) : PI X tg (.Call (.Name "range" p) [a] [] pos) (iRng1 ta) := by
  intro pins s σ H R I h
  refine Call_ (ld_blt I hg hm boot_range (PyProof.Rows.callWith_type1 (thn (ha pos pins s σ H _ I h) fun us s1 ⟨vs, H1, I1, r1, q1⟩ => ?_) hs rfl))
  obtain ⟨j, e, q1, q2, q⟩ := q1
  subst e
  cases r1 with
  | cons r rr =>
    cases rr
    obtain ⟨t, rfl⟩ := r
    exact call_range_1 (range_it I1 (by omega) (by omega) q1 q2 (by simpa using q))
/-- W: the invariant by the turn and a measure; N: what the body is to reach -/
def tFor (wi : TI) (g : TG) (tb : TS) : TS := fun D σ H => wi σ H fun J H1 => ∃ W : Nat → Nat → St → Hp → Prop, (∃ m, W 0 m σ H1) ∧ ∀ i m σ H, W i m σ H →
  (J.stop i H ∧ D.nx σ H) ∨ (J.go i H ∧ ∃ N : St → Hp → Prop, (∀ σ' H', N σ' H' → ∃ m', m' < m ∧ W (i + 1) m' σ' H') ∧ ∀ x H', J.yld i H x H' → g x σ H' fun σ2 H2 => tb { D with nx := N, ct := N, bk := D.nx } σ2 H2)
/-- the records at fp as they stand -/
def pinsAt (fp : List Addr) (h : Heap) : List (Addr × Obj) := fp.filterMap fun b => (h.get? b).map fun o => (b, o)
theorem mem_pinsAt {fp : List Addr} {h : Heap} {b : Addr} {o : Obj} (hb : b ∈ fp) (e : h.get? b = some o) : (b, o) ∈ pinsAt fp h := List.mem_filterMap.mpr ⟨b, hb, by rw [e]; rfl⟩
theorem of_pinsAt {fp : List Addr} {h : Heap} {p : Addr × Obj} (hp : p ∈ pinsAt fp h) : p.1 ∈ fp ∧ h.get? p.1 = some p.2 := by
  obtain ⟨b, hb, e⟩ := List.mem_filterMap.mp hp
  cases q : h.get? b with
  | none => rw [q] at e; cases e
  | some o =>
    rw [q] at e
    have e' : (b, o) = p := Option.some.inj e
    subst e'
    exact ⟨hb, q⟩
theorem Inv.pinned {pins : List (Addr × Obj)} {σ : St} {H : Hp} {s : Shared} {fp : List Addr} (I : Inv X pins σ H s) (hf : ∀ b ∈ fp, FpOk X pins H b) (ho : ∀ b ∈ fp, ∃ o, s.heap.get? b = some o ∧ ∀ v, o.data ≠ .cell v) : Inv X (pins ++ pinsAt fp s.heap) σ H s :=
  I.pins_of fun p hp => (List.mem_append.mp hp).elim (fun z => I.pin p (List.mem_append_right _ z)) fun z => by
    obtain ⟨hb, e⟩ := of_pinsAt z
    obtain ⟨f0, f1, f2, _⟩ := hf p.1 hb
    obtain ⟨o, e', d⟩ := ho p.1 hb
    rw [e] at e'; cases e'
    exact ⟨e, f0, f1, f2, d⟩
theorem Inv.unpinned {pins pl : List (Addr × Obj)} {σ : St} {H : Hp} {s : Shared} (I : Inv X (pins ++ pl) σ H s) : Inv X pins σ H s := I.pins_of fun p hp => I.pin p (List.mem_append_right _ (List.mem_append_left _ hp))
theorem ps_for {iter : Expr} {body : List Stmt} {wi : TI} {g : TG} {tb : TS} {pos : Pos} (hp : PassesOwn (model X.prog X.w) X.A X.env X.xe) (hc : X.calm = true) (hi : PI X tg iter wi) (hg : PG X tg g) (hb : PSs X body tb)
    (hs : ∀ x, foldedSetIterable iter X.env x = pure x := by intro _; rfl) : PS X (.For tg iter body [] pos) (tFor wi g tb) := by
  intro pins s σ H D I h
  refine wpAny_For (thn (hi pins s σ H _ I h) fun v s1 h1 => thn h1 fun itv s2 h2 => ?_) hs
  obtain ⟨it, fp, tn, J, H2, e, I2, T, st2, f2, W, ⟨m0, w0⟩, turn⟩ := h2
  subst e
  -- what stays true of the iterator's objects through the loop
  have stat : ∀ {H' : Hp}, (∀ b ∈ fp, H' b = none) → ∀ b ∈ fp, FpOk X pins H' b := fun hn b hb => ⟨hn b hb, (f2 b hb).2⟩
  refine codeAny_forLoop_any (fun n s' => ∃ i σ' H', Inv X pins σ' H' s' ∧ tn i s'.heap ∧ (∀ b ∈ fp, H' b = none) ∧ W i n σ' H') ?_ m0 ⟨0, σ, H2, I2, st2, fun b hb => (f2 b hb).1, w0⟩
  rintro n s3 ⟨i, σ3, H3, I3, st3, fr3, w3⟩
  rcases turn i n σ3 H3 w3 with ⟨stop, qn⟩ | ⟨go, N, hN, step⟩
  · refine wpAny_passesOwn hp (thn (T.done X rfl rfl rfl hc i pins s3 σ3 H3 X.xe I3 (stat fr3) st3 stop) fun r s4 ⟨hr, I4⟩ => ?_)
    subst hr
    exact wpAny_execs_nil ⟨σ3, H3, I4, qn⟩
  · refine wpAny_passesOwn hp (thn (T.item X rfl rfl rfl hc i pins s3 σ3 H3 X.xe I3 (stat fr3) st3 go) fun r s4 ⟨u, hr, h4⟩ => ?_)
    subst hr
    refine wpAny_passesOwn hp (thn h4 fun _ s5 ⟨x, H5, I5, r5, y5, st5, fr5⟩ => ?_)
    have I5' := I5.pinned (stat fr5) (T.obj _ _ st5)
    refine wpAny_passesOwn hp (thn (hg _ s5 σ3 H5 x u _ I5' r5 (step x H5 y5)) fun _ s6 ⟨σ6, H6, I6, q6⟩ => ?_)
    refine wpAny_passesOwn hp (thn (hb _ s6 σ6 H6 _ I6 q6) fun f s7 q7 => ?_)
    have again : ∀ {σ7 : St} {H7 : Hp}, Inv X (pins ++ pinsAt fp s5.heap) σ7 H7 s7 → N σ7 H7 → ∃ m, m < n ∧ ∃ i σ' H', Inv X pins σ' H' s7 ∧ tn i s7.heap ∧ (∀ b ∈ fp, H' b = none) ∧ W i m σ' H' := fun {σ7 H7} I7 n7 => by
      obtain ⟨m', hm, w7⟩ := hN σ7 H7 n7
      refine ⟨m', hm, i + 1, σ7, H7, I7.unpinned, T.keep _ _ _ st5 fun b hb o e => (I7.pin (b, o) (List.mem_append_right _ (List.mem_append_right _ (mem_pinsAt hb e)))).1, fun b hb => ?_, w7⟩
      obtain ⟨o, e, d⟩ := T.obj _ _ st5 b hb
      exact (I7.pin (b, o) (List.mem_append_right _ (List.mem_append_right _ (mem_pinsAt hb e)))).2.1
    cases f with
    | next => obtain ⟨σ7, H7, I7, n7⟩ := q7; exact again I7 n7
    | cont => obtain ⟨σ7, H7, I7, n7⟩ := q7; exact again I7 n7
    | brk => obtain ⟨σ7, H7, I7, q7⟩ := q7; exact ⟨σ7, H7, I7.unpinned, q7⟩
    | ret v => obtain ⟨x7, σ7, H7, I7, r7, q7⟩ := q7; exact ⟨x7, σ7, H7, I7.unpinned, r7, q7⟩
end

/-- over a list that the body leaves as it is -/
theorem for_list {K : PySem.W.Frag} {a : Addr} {xs : List V} {g : TG} {tb : TS} {D : Ends} {σ : St} {H : Hp} (Pv : Nat → St → Hp → Prop) (h0 : Pv 0 σ H) (hl : ∀ i σ H, i ≤ xs.length → Pv i σ H → SqL K H a xs)
    (hs : ∀ i x σ H, xs[i]? = some x → Pv i σ H → g x σ H fun σ2 H2 => tb { D with nx := Pv (i + 1), ct := Pv (i + 1), bk := D.nx } σ2 H2) (hd : ∀ σ H, Pv xs.length σ H → D.nx σ H) :
    ∃ W : Nat → Nat → St → Hp → Prop, (∃ m, W 0 m σ H) ∧ ∀ i m σ H, W i m σ H →
      ((Itl K a).stop i H ∧ D.nx σ H) ∨ ((Itl K a).go i H ∧ ∃ N : St → Hp → Prop, (∀ σ' H', N σ' H' → ∃ m', m' < m ∧ W (i + 1) m' σ' H') ∧ ∀ x H', (Itl K a).yld i H x H' → g x σ H' fun σ2 H2 => tb { D with nx := N, ct := N, bk := D.nx } σ2 H2) := by
  refine ⟨fun i m σ H => m = xs.length - i ∧ i ≤ xs.length ∧ Pv i σ H, ⟨xs.length, by simp, Nat.zero_le _, h0⟩, ?_⟩
  rintro i m σ H ⟨rfl, hi, p⟩
  have q := hl i σ H hi p
  by_cases hlt : i < xs.length
  · refine .inr ⟨⟨xs, xs[i], q, by simp [hlt]⟩, Pv (i + 1), fun σ' H' p' => ⟨xs.length - (i + 1), by omega, rfl, hlt, p'⟩, fun x H' y => ?_⟩
    obtain ⟨e, y⟩ := y
    subst e
    exact hs i x σ _ (y xs q) p
  · have e : i = xs.length := by omega
    subst e
    exact .inl ⟨⟨xs, q, Nat.le_refl _⟩, hd σ H p⟩
theorem for_range {lo : Int} {n : Nat} {g : TG} {tb : TS} {D : Ends} {σ : St} {H : Hp} (Pv : Nat → St → Hp → Prop) (h0 : Pv 0 σ H)
    (hs : ∀ i σ H, i < n → Pv i σ H → g (.int (lo + i)) σ H fun σ2 H2 => tb { D with nx := Pv (i + 1), ct := Pv (i + 1), bk := D.nx } σ2 H2) (hd : ∀ σ H, Pv n σ H → D.nx σ H) :
    ∃ W : Nat → Nat → St → Hp → Prop, (∃ m, W 0 m σ H) ∧ ∀ i m σ H, W i m σ H →
      ((Itr lo n).stop i H ∧ D.nx σ H) ∨ ((Itr lo n).go i H ∧ ∃ N : St → Hp → Prop, (∀ σ' H', N σ' H' → ∃ m', m' < m ∧ W (i + 1) m' σ' H') ∧ ∀ x H', (Itr lo n).yld i H x H' → g x σ H' fun σ2 H2 => tb { D with nx := N, ct := N, bk := D.nx } σ2 H2) := by
  refine ⟨fun i m σ H => m = n - i ∧ i ≤ n ∧ Pv i σ H, ⟨n, by simp, Nat.zero_le _, h0⟩, ?_⟩
  rintro i m σ H ⟨rfl, hi, p⟩
  by_cases hlt : i < n
  · refine .inr ⟨hlt, Pv (i + 1), fun σ' H' p' => ⟨n - (i + 1), by omega, rfl, hlt, p'⟩, fun x H' y => ?_⟩
    obtain ⟨e, y⟩ := y
    subst e y
    exact hs i σ _ hlt p
  · have e : i = n := by omega
    subst e
    exact .inl ⟨Nat.le_refl _, hd σ H p⟩
/-- while, by a word and a measure of the state -/
theorem while_by {c : TT} {tb : TS} {D : Ends} {σ : St} {H : Hp} (Pv : St → Hp → Prop) (μ : St → Hp → Nat) (h0 : Pv σ H)
    (hs : ∀ σ H, Pv σ H → c σ H fun b H1 => if b = true then tb { D with nx := fun σ' H' => Pv σ' H' ∧ μ σ' H' < μ σ H, ct := fun σ' H' => Pv σ' H' ∧ μ σ' H' < μ σ H, bk := D.nx } σ H1 else D.nx σ H1)
    (mono : ∀ σ H Q Q', (∀ b H1, Q b H1 → Q' b H1) → c σ H Q → c σ H Q') : tWhile c tb D σ H := by
  refine ⟨fun m σ H => m = μ σ H ∧ Pv σ H, ⟨_, rfl, h0⟩, ?_⟩
  rintro m σ H ⟨rfl, p⟩
  refine mono σ H _ _ (fun b H1 q => ?_) (hs σ H p)
  cases b with
  | true => exact ⟨_, fun σ' H' ⟨p', l⟩ => ⟨_, l, rfl, p'⟩, q⟩
  | false => exact q
end L2

namespace L2
open PySem PySem.Spec PyProof.Rows

abbrev R2 := V → V → Hp → VK → Prop
/-- a two-place operation on values: f is binaryOp op, inplaceOp op or compareOp op -/
def OpR (X : Cx) (f : Value → Value → Sem Value) (r : R2) : Prop :=
  ∀ (pins : List (Addr × Obj)) (s : Shared) (σ : St) (H : Hp) (x y : V) (v u : Value) (Q : VK), Inv X pins σ H s → RelV x v → RelV y u → r x y H Q →
    wpAny (model X.prog X.w) X.A (f v u) (EP X pins σ Q) X.xe s
/-- a one-place operation -/
def UnR (X : Cx) (f : Value → Sem Value) (r : V → Hp → VK → Prop) : Prop :=
  ∀ (pins : List (Addr × Obj)) (s : Shared) (σ : St) (H : Hp) (x : V) (v : Value) (Q : VK), Inv X pins σ H s → RelV x v → r x H Q →
    wpAny (model X.prog X.w) X.A (f v) (EP X pins σ Q) X.xe s
/-- a call of a value that is known (a builtin, a type) with values -/
def CallR (X : Cx) (f : Value) (r : List V → Hp → VK → Prop) : Prop :=
  ∀ (pins : List (Addr × Obj)) (s : Shared) (σ : St) (H : Hp) (xs : List V) (us : List Value) (Q : VK), Inv X pins σ H s → Vals xs us → r xs H Q →
    wpAny (model X.prog X.w) X.A (call f us) (EP X pins σ Q) X.xe s
def tOp (r : R2) (ta tb : TE) : TE := fun σ H Q => ta σ H fun x H1 => tb σ H1 fun y H2 => r x y H2 Q
def tUn (r : V → Hp → VK → Prop) (ta : TE) : TE := fun σ H Q => ta σ H fun x H1 => r x H1 Q
/-- ints in, under C, and a value out -/
def rI (C : Int → Int → Prop) (g : Int → Int → V) : R2 := fun x y H Q => ∃ i j, x = .int i ∧ y = .int j ∧ C i j ∧ Q (g i j) H
def rI0 (g : Int → Int → V) : R2 := fun x y H Q => ∃ i j, x = .int i ∧ y = .int j ∧ Q (g i j) H
def rU (g : Int → V) : V → Hp → VK → Prop := fun x H Q => ∃ i, x = .int i ∧ Q (g i) H

section
variable {X : Cx} {a b c : Expr} {ta tb tc : TE} {pos : Pos}

theorem binT (ha : PE X a ta) (hb : PE X b tb) {pins : List (Addr × Obj)} {s : Shared} {σ : St} {H : Hp} {R : V → V → Hp → Prop} (I : Inv X pins σ H s)
    (h : ta σ H fun x H1 => tb σ H1 fun y H2 => R x y H2) {Q : Value → Shared → Prop} {f : Value → Value → Sem Value}
    (hf : ∀ v u s2 x y H2, Inv X pins σ H2 s2 → RelV x v → RelV y u → R x y H2 → wpAny (model X.prog X.w) X.A (f v u) Q X.xe s2) :
    wpAny (model X.prog X.w) X.A (eval a X.env) (fun v s₁ => wpAny (model X.prog X.w) X.A (eval b X.env) (fun u s₂ => wpAny (model X.prog X.w) X.A (f v u) Q X.xe s₂) X.xe s₁) X.xe s := by
  refine thn (ha pins s σ H _ I h) fun v s1 ⟨x, H1, I1, r1, q1⟩ => ?_
  refine thn (hb pins s1 σ H1 _ I1 q1) fun u s2 ⟨y, H2, I2, r2, q2⟩ => ?_
  exact hf v u s2 x y H2 I2 r1 r2 q2

theorem pe_op {op : Operator} {r : R2} (ho : OpR X (binaryOp op) r) (ha : PE X a ta) (hb : PE X b tb) : PE X (.BinOp a op b pos) (tOp r ta tb) := by
  intro pins s σ H Q I h
  exact wpAny_BinOp (binT ha hb I h fun v u s2 x y H2 I2 rx ry q => ho pins s2 σ H2 x y v u Q I2 rx ry q)
theorem pe_un {op : UnaryOp} {r : V → Hp → VK → Prop} (ho : UnR X (unaryOp op) r) (ha : PE X a ta) : PE X (.UnaryOp op a pos) (tUn r ta) := by
  intro pins s σ H Q I h
  exact UnaryOp_ (thn (ha pins s σ H _ I h) fun v s1 ⟨x, H1, I1, r1, q1⟩ => ho pins s1 σ H1 x v Q I1 r1 q1)
theorem opI {f : Value → Value → Sem Value} {C : Int → Int → Prop} {g : Int → Int → Int}
    (rule : ∀ (i j : Int) (t u : Tok) (s : Shared) (Q : Value → Shared → Prop) (E : Value → Shared → Prop), C i j → Q (.int (g i j) s.toks) { s with toks := s.toks + 1 } → wpAny (model X.prog X.w) X.A (f (.int i t) (.int j u)) Q E s) :
    OpR X f (rI C fun i j => .int (g i j)) := by
  intro pins s σ H x y v u Q I rx ry h
  obtain ⟨i, j, rfl, rfl, hc, q⟩ := h
  obtain ⟨t, rfl⟩ := rx
  obtain ⟨t', rfl⟩ := ry
  exact rule i j t t' s _ _ hc ⟨.int (g i j), H, I.tok _, ⟨_, rfl⟩, q⟩
theorem opI0 {f : Value → Value → Sem Value} {g : Int → Int → Int}
    (rule : ∀ (i j : Int) (t u : Tok) (s : Shared) (Q : Value → Shared → Prop) (E : Value → Shared → Prop), Q (.int (g i j) s.toks) { s with toks := s.toks + 1 } → wpAny (model X.prog X.w) X.A (f (.int i t) (.int j u)) Q E s) :
    OpR X f (rI0 fun i j => .int (g i j)) := by
  intro pins s σ H x y v u Q I rx ry h
  obtain ⟨i, j, rfl, rfl, q⟩ := h
  obtain ⟨t, rfl⟩ := rx
  obtain ⟨t', rfl⟩ := ry
  exact rule i j t t' s _ _ ⟨.int (g i j), H, I.tok _, ⟨_, rfl⟩, q⟩
theorem opB0 {f : Value → Value → Sem Value} {g : Int → Int → Bool}
    (rule : ∀ (i j : Int) (t u : Tok) (s : Shared) (Q : Value → Shared → Prop) (E : Value → Shared → Prop), Q (.bool (g i j)) s → wpAny (model X.prog X.w) X.A (f (.int i t) (.int j u)) Q E s) :
    OpR X f (rI0 fun i j => .bl (g i j)) := by
  intro pins s σ H x y v u Q I rx ry h
  obtain ⟨i, j, rfl, rfl, q⟩ := h
  obtain ⟨t, rfl⟩ := rx
  obtain ⟨t', rfl⟩ := ry
  exact rule i j t t' s _ _ ⟨.bl (g i j), H, I, rfl, q⟩

def CDiv (i j : Int) : Prop := 0 < j ∧ j < 1073741824
def CMul (i j : Int) : Prop := (-(2 ^ 64) < i ∧ i < 2 ^ 64) ∨ (-(2 ^ 64) < j ∧ j < 2 ^ 64)
theorem CMul.ok {i j : Int} (h : CMul i j) : IntMulOk i j := by
  rcases h with ⟨h1, h2⟩ | ⟨h1, h2⟩
  · exact .of_left (intBits_le_64 h1 h2)
  · exact .of_right (intBits_le_64 h1 h2)
theorem op_add : OpR X (binaryOp .Add) (rI0 fun i j => .int (i + j)) := opI0 fun _ _ _ _ _ _ _ q => add_int q
theorem op_sub : OpR X (binaryOp .Sub) (rI0 fun i j => .int (i - j)) := opI0 fun _ _ _ _ _ _ _ q => sub_int q
theorem op_mul : OpR X (binaryOp .Mult) (rI CMul fun i j => .int (i * j)) := opI fun _ _ _ _ _ _ _ hc q => mul_int q hc.ok
/-- // by a positive divisor -/
theorem op_fdiv : OpR X (binaryOp .FloorDiv) (rI CDiv fun i j => .int (i / j)) := opI fun i j _ _ _ _ _ hc q => by
  have h1 : (0 : Int) < j := hc.1
  have h2 : j < 1073741824 := hc.2
  exact floordiv_int (by omega) (by rw [Int.fdiv_eq_ediv_of_nonneg i (by omega)]; exact q) (.inl (PyProof.noPylong_small (by omega)))
theorem unI {f : Value → Sem Value} {g : Int → Int}
    (rule : ∀ (i : Int) (t : Tok) (s : Shared) (Q : Value → Shared → Prop) (E : Value → Shared → Prop), Q (.int (g i) s.toks) { s with toks := s.toks + 1 } → wpAny (model X.prog X.w) X.A (f (.int i t)) Q E s) :
    UnR X f (rU fun i => .int (g i)) := by
  intro pins s σ H x v Q I rx h
  obtain ⟨i, rfl, q⟩ := h
  obtain ⟨t, rfl⟩ := rx
  exact rule i t s _ _ ⟨.int (g i), H, I.tok _, ⟨_, rfl⟩, q⟩
theorem un_neg : UnR X (unaryOp .USub) (rU fun i => .int (-i)) := unI fun _ _ _ _ _ q => neg_int q
end

/-- the scalars that == tells apart as data does -/
def scal : V → V → Bool
  | .non, .non => true | .non, .int _ => true | .int _, .non => true | .non, .bl _ => true | .bl _, .non => true | .non, .str _ => true | .str _, .non => true
  | .int _, .int _ => true | .bl _, .bl _ => true | .str _, .str _ => true | .byt _, .byt _ => true
  | .int _, .str _ => true | .str _, .int _ => true | .bl _, .str _ => true | .str _, .bl _ => true
  | _, _ => false
def rEq : R2 := fun x y H Q => scal x y = true ∧ Q (.bl (decide (x = y))) H
def rNe : R2 := fun x y H Q => scal x y = true ∧ Q (.bl (!decide (x = y))) H

theorem dec_int {i j : Int} : decide (V.int i = V.int j) = (i == j) := by
  rw [Bool.eq_iff_iff]
  simp
theorem dec_bl {i j : Bool} : decide (V.bl i = V.bl j) = (i == j) := by
  rw [Bool.eq_iff_iff]
  simp
theorem dec_str {i j : Str} : decide (V.str i = V.str j) = (i == j) := by
  rw [Bool.eq_iff_iff]
  simp
theorem dec_byt {i j : Array UInt8} : decide (V.byt i = V.byt j) = (i.toList == j.toList) := by
  rw [Bool.eq_iff_iff]
  cases i
  cases j
  simp

section
variable {X : Cx} {a b c : Expr} {ta tb tc : TE} {pos : Pos}
theorem fin_bl {pins : List (Addr × Obj)} {σ : St} {H : Hp} {s : Shared} {Q : VK} {k k' : Bool} (I : Inv X pins σ H s) (q : Q (.bl k) H) (e : k = k') : EP X pins σ Q (.bool k') s := by
  subst e
  exact ⟨.bl k, H, I, rfl, q⟩
theorem op_eq : OpR X (compareOp .Eq) rEq := by
  intro pins s σ H x y v u Q I rx ry h
  obtain ⟨hs, q⟩ := h
  cases x with
  | non =>
    cases rx
    cases y with
    | non => cases ry; exact PySem.EqNone.eq_none_none (fin_bl I q (by simp))
    | bl j => cases ry; exact PySem.EqNone.eq_none_bool (fin_bl I q (by simp))
    | int j => obtain ⟨t', rfl⟩ := ry; exact PySem.EqNone.eq_none_int (fin_bl I q (by simp))
    | str j => obtain ⟨t', rfl⟩ := ry; exact PySem.EqNone.eq_none_str (fin_bl I q (by simp))
    | _ => exact absurd (show false = true from hs) Bool.false_ne_true
  | bl i =>
    cases rx
    cases y with
    | non => cases ry; exact PySem.EqNone.eq_bool_none (fin_bl I q (by simp))
    | bl j => cases ry; exact eq_bool (fin_bl I q dec_bl)
    | str j => obtain ⟨t', rfl⟩ := ry; exact PySem.EqMixed.eq_bool_str (fin_bl I q (by simp))
    | _ => exact absurd (show false = true from hs) Bool.false_ne_true
  | int i =>
    obtain ⟨t, rfl⟩ := rx
    cases y with
    | non => cases ry; exact PySem.EqNone.eq_int_none (fin_bl I q (by simp))
    | int j => obtain ⟨t', rfl⟩ := ry; exact eq_int (fin_bl I q dec_int)
    | str j => obtain ⟨t', rfl⟩ := ry; exact PySem.EqMixed.eq_int_str (fin_bl I q (by simp))
    | _ => exact absurd (show false = true from hs) Bool.false_ne_true
  | str i =>
    obtain ⟨t, rfl⟩ := rx
    cases y with
    | non => cases ry; exact PySem.EqNone.eq_str_none (fin_bl I q (by simp))
    | bl j => cases ry; exact PySem.EqMixed.eq_str_bool (fin_bl I q (by simp))
    | int j => obtain ⟨t', rfl⟩ := ry; exact PySem.EqMixed.eq_str_int (fin_bl I q (by simp))
    | str j => obtain ⟨t', rfl⟩ := ry; exact eq_str (fin_bl I q dec_str)
    | _ => exact absurd (show false = true from hs) Bool.false_ne_true
  | byt i =>
    obtain ⟨t, rfl⟩ := rx
    cases y with
    | byt j => obtain ⟨t', rfl⟩ := ry; exact PySem.W.eq_bytes (fin_bl I q dec_byt)
    | _ => exact absurd (show false = true from hs) Bool.false_ne_true
  | _ => cases y <;> exact absurd (show false = true from hs) Bool.false_ne_true
theorem op_ne : OpR X (compareOp .NotEq) rNe := by
  intro pins s σ H x y v u Q I rx ry h
  obtain ⟨hs, q⟩ := h
  cases x with
  | non =>
    cases rx
    cases y with
    | non => cases ry; exact PySem.EqNone.ne_none_none (fin_bl I q (by simp))
    | bl j => cases ry; exact PySem.EqNone.ne_none_bool (fin_bl I q (by simp))
    | int j => obtain ⟨t', rfl⟩ := ry; exact PySem.EqNone.ne_none_int (fin_bl I q (by simp))
    | str j => obtain ⟨t', rfl⟩ := ry; exact PySem.EqNone.ne_none_str (fin_bl I q (by simp))
    | _ => exact absurd (show false = true from hs) Bool.false_ne_true
  | bl i =>
    cases rx
    cases y with
    | non => cases ry; exact PySem.EqNone.ne_bool_none (fin_bl I q (by simp))
    | bl j => cases ry; exact ne_bool (fin_bl I q (congrArg not dec_bl))
    | str j => obtain ⟨t', rfl⟩ := ry; exact PySem.EqMixed.ne_bool_str (fin_bl I q (by simp))
    | _ => exact absurd (show false = true from hs) Bool.false_ne_true
  | int i =>
    obtain ⟨t, rfl⟩ := rx
    cases y with
    | non => cases ry; exact PySem.EqNone.ne_int_none (fin_bl I q (by simp))
    | int j => obtain ⟨t', rfl⟩ := ry; exact ne_int (fin_bl I q (congrArg not dec_int))
    | str j => obtain ⟨t', rfl⟩ := ry; exact PySem.EqMixed.ne_int_str (fin_bl I q (by simp))
    | _ => exact absurd (show false = true from hs) Bool.false_ne_true
  | str i =>
    obtain ⟨t, rfl⟩ := rx
    cases y with
    | non => cases ry; exact PySem.EqNone.ne_str_none (fin_bl I q (by simp))
    | bl j => cases ry; exact PySem.EqMixed.ne_str_bool (fin_bl I q (by simp))
    | int j => obtain ⟨t', rfl⟩ := ry; exact PySem.EqMixed.ne_str_int (fin_bl I q (by simp))
    | str j => obtain ⟨t', rfl⟩ := ry; exact ne_str (fin_bl I q (congrArg not dec_str))
    | _ => exact absurd (show false = true from hs) Bool.false_ne_true
  | byt i =>
    obtain ⟨t, rfl⟩ := rx
    cases y with
    | byt j => obtain ⟨t', rfl⟩ := ry; exact PySem.W.ne_bytes (fin_bl I q (congrArg not dec_byt))
    | _ => exact absurd (show false = true from hs) Bool.false_ne_true
  | _ => cases y <;> exact absurd (show false = true from hs) Bool.false_ne_true

theorem op_lt : OpR X (compareOp .Lt) (rI0 fun i j => .bl (decide (i < j))) := opB0 fun _ _ _ _ _ _ _ q => lt_int q
theorem op_le : OpR X (compareOp .LtE) (rI0 fun i j => .bl (decide (i ≤ j))) := opB0 fun _ _ _ _ _ _ _ q => le_int q
theorem op_gt : OpR X (compareOp .Gt) (rI0 fun i j => .bl (decide (j < i))) := opB0 fun _ _ _ _ _ _ _ q => gt_int q
theorem op_ge : OpR X (compareOp .GtE) (rI0 fun i j => .bl (decide (j ≤ i))) := opB0 fun _ _ _ _ _ _ _ q => ge_int q
theorem nomark (b : Expr) {op : CmpOp} (h : op ≠ .In := by decide) (h2 : op ≠ .NotIn := by decide) : behindInMarks op b = false := by
  have e1 : (op == CmpOp.In) = false := by cases op <;> first | rfl | exact absurd rfl h
  have e2 : (op == CmpOp.NotIn) = false := by cases op <;> first | rfl | exact absurd rfl h2
  cases b <;> simp [behindInMarks, e1, e2]
/-- a comparison as a value; hm: nomark b, or (for in, not in) by with_unfolding_all rfl -/
theorem pe_cmpR {op : CmpOp} {r : R2} (ho : OpR X (compareOp op) r) (ha : PE X a ta) (hb : PE X b tb) (hm : behindInMarks op b = false) : PE X (.Compare a [op] [b] pos) (tOp r ta tb) := by
  intro pins s σ H Q I h
  exact wpAny_Compare1 (binT ha hb I h fun v u s2 x y H2 I2 rx ry q => ho pins s2 σ H2 x y v u Q I2 rx ry q) hm
/-- a reading of a value as a test -/
def tTest (t : TE) : TT := fun σ H Q => t σ H fun x H' => ∃ k, x = .bl k ∧ Q k H'
theorem pt_cmpR {op : CmpOp} {r : R2} (ho : OpR X (compareOp op) r) (ha : PE X a ta) (hb : PE X b tb) (hm : behindInMarks op b = false) : PT X (.Compare a [op] [b] pos) (tTest (tOp r ta tb)) := by
  intro pins s σ H Q I h
  refine wpAny_isTrue_Compare1 (thn (ha pins s σ H _ I h) fun v s1 ⟨x, H1, I1, r1, q1⟩ => thn (hb pins s1 σ H1 _ I1 q1) fun u s2 ⟨y, H2, I2, r2, q2⟩ =>
    thn (ho pins s2 σ H2 x y v u _ I2 r1 r2 q2) fun c s3 ⟨z, H3, I3, r3, k, e, q3⟩ => ?_) hm
  subst e
  cases r3
  exact wpAny_truthy_bool ⟨H3, I3, q3⟩
theorem line63 : (sizeLine : Nat) < 2 ^ 63 := by rw [sizeLine_eq]; decide
theorem vals1 {x : V} {us : List Value} (r : Vals [x] us) : ∃ u, us = [u] ∧ RelV x u := by
  cases r with
  | cons r1 r2 => cases r2; exact ⟨_, rfl, r1⟩
theorem vals2 {x y : V} {us : List Value} (r : Vals [x, y] us) : ∃ u w', us = [u, w'] ∧ RelV x u ∧ RelV y w' := by
  cases r with
  | cons r1 r2 =>
    cases r2 with
    | cons r3 r4 => cases r4; exact ⟨_, _, rfl, r1, r3⟩
theorem call_max2 (hc : X.calm = true) : CallR X (.builtin "max") (fun xs H Q => ∃ i j, xs = [.int i, .int j] ∧ Q (.int (if j > i then j else i)) H) := by
  intro pins s σ H xs us Q I r h
  obtain ⟨i, j, rfl, q⟩ := h
  obtain ⟨u, w', rfl, ⟨t, rfl⟩, ⟨t', rfl⟩⟩ := vals2 r
  refine max_two_ints (I.ok.hd hc) fun h' tk k => ⟨_, H, I.kept k, ?_, q⟩
  by_cases hj : j > i
  · rw [if_pos hj, if_pos hj]; exact ⟨_, rfl⟩
  · rw [if_neg hj, if_neg hj]; exact ⟨_, rfl⟩
end
end L2

namespace L2
open PySem PySem.Spec PyProof.Rows

structure ObjM (h : Heap) (x dx C : Addr) (mA : Str → Option Value) : Prop where
  obj : h.get? x = some (PySem.W.instObj C dx)
  ns : h.Ns1 dx mA
  ne : dx ≠ x

theorem lookIn_ns {h : Heap} {dx : Addr} {mA : Str → Option Value} (n : h.Ns1 dx mA) : ∃ od, h.get? dx = some od ∧ ∀ name, PySem.W.lookIn name od = some (mA name) := by
  obtain ⟨o, es, ep, ho, hd, hk, _, hm⟩ := n
  refine ⟨o, ho, fun name => ?_⟩
  have e := hm name
  unfold nsFind findBy at e
  rw [← Array.find?_toList] at e
  unfold PySem.W.lookIn
  rw [hd]
  dsimp only
  split
  · rename_i y q
    rw [q] at e
    exact congrArg some e
  · rename_i q
    rw [q] at e
    have a : es.toList.any (·.refKey) = false := by
      rw [List.any_eq_false]
      intro y hy
      obtain ⟨z, t, hkey⟩ := hk y (Array.mem_toList_iff.mp hy)
      simp [DictEntry.refKey, hkey]
    have a' : ¬ es.toList.any (·.refKey) = true := by rw [a]; exact Bool.false_ne_true
    rw [if_neg a']
    exact congrArg some e

theorem ObjM.look {h : Heap} {x dx C : Addr} {mA : Str → Option Value} (I : ObjM h x dx C mA) : ∃ od, PySem.W.InstAt h x (PySem.W.instObj C dx) C (some od) ∧ ∀ name, PySem.W.lookIn name od = some (mA name) :=
  let ⟨od, ho, hl⟩ := lookIn_ns I.ns
  ⟨od, ⟨I.obj, rfl, rfl, ho⟩, hl⟩

section
variable {prog : Program} {w : World} {A : Around} {E : Value → Shared → Prop} {s : Shared} {K : PySem.W.Frag} {x dx C f : Addr} {mA : Str → Option Value} {name : Str} {v : Value}

theorem get_map {expr : Bool} {Q : Value → Shared → Prop} (X : K.In s.heap) (I : ObjM s.heap x dx C mA) (hg : PySem.W.plainGet K C name = true) (hh : PySem.W.hasDictIn K C = true)
    (ha : PySem.W.findIn K (.ref C) name = some none) (hv : mA name = some v) (hv' : PySem.W.handedIn v = true) (h : Q v { s with toks := s.toks + 1 }) :
    wpAny (model prog w) A (getAttr (.ref x) name expr) Q E s := by
  obtain ⟨od, J, hl⟩ := I.look
  exact PySem.W.get_value X J (PySem.W.plainGet_of hg).1 (PySem.W.findObj_own hh ha rfl (by rw [hl, hv])) hv' h

theorem get_meth {pl : Sem Bool} {Q : Value × List Value → Shared → Prop} (X : K.In s.heap) (I : ObjM s.heap x dx C mA) (hg : PySem.W.plainGet K C name = true)
    (hf : PySem.W.findIn K (.ref C) name = some (some (.ref f))) (ht : PySem.W.isFn K (.ref f) = true) (hv : mA name = none) (h : Q (.ref f, [.ref x]) s) :
    wpAny (model prog w) A (getMethod (.ref x) name pl) Q E s := by
  obtain ⟨od, J, hl⟩ := I.look
  exact PySem.W.method_fn X J (PySem.W.plainGet_of hg).1 (PySem.W.plainGet_of hg).2 hf (beq_iff_eq.mp ht) (by show (PySem.W.lookIn name od).map (·.isSome) = some false; rw [hl, hv]; rfl) h

theorem set_map {ns : List Str} {Q : Unit → Shared → Prop} (X : K.In s.heap) (I : ObjM s.heap x dx C mA)
    (hs : PySem.W.findIn K (.ref C) "__setattr__" = some (some (.builtin "object.__setattr__"))) (hp : PySem.W.plainOver K C = true) (ht : PySem.W.takerIn K C name = some none) (hh : PySem.W.hasDictIn K C = true)
    (hw : PySem.Within mA ns) (hsz : ns.length ≤ sizeLine)
    (h : ∀ h', ObjM h' x dx C (fun y => if y = name then some v else mA y) → Heap.SameBut dx s.heap h' → Q () { s with heap := h', toks := s.toks + 2 }) :
    wpAny (model prog w) A (setAttr (.ref x) name v) Q E s := by
  obtain ⟨od, J, hl⟩ := I.look
  refine PySem.W.set_plain X J hs (PySem.W.osa_open (s := { s with toks := s.toks + 1 }) (r := none) X J hp ht fun b => ?_)
  obtain ⟨cd, hc, hd'⟩ := PySem.W.any_some hh
  have hx : s.heap.get? x = some ⟨.ref C, some dx, .plain, #[]⟩ := I.obj
  refine wpAny_bind (wpAny_pure (wpAny_bind (wpAny_bind (wpAny_loadPart hx (wpAny_bind (PySem.W.Looks.here (s := { s with toks := s.toks + 1 }) (PySem.W.looks_clsIn X hc) ?_))))))
  rw [hd']
  refine wpAny_pure (a := some dx) (wpAny_bind (wpAny_pure (wpAny_bind ?_)))
  refine wpAny_nsSet1 (s := { s with toks := s.toks + 1 }) I.ns fun h' hn2 hs2 => ?_
  obtain ⟨oD, esD, epD, hoD, hdD, hcD⟩ := hn2.count (PySem.Within.cons name v hw)
  refine wpAny_bind (wpAny_lookBehind hoD (by rw [hdD]; exact pastItsLine_dict (Nat.le_trans hcD (by rw [List.length_cons]; omega))) ?_)
  exact wpAny_pure (h _ ⟨(hs2.2 _ (Ne.symm I.ne)).trans I.obj, hn2, I.ne⟩ hs2)

/-- C(..): the dict at the heap's end, the instance behind it; then its __init__ -/
theorem make_map {R : Result → Shared → Prop} {vs : List Value} {kw : List (Str × Value)} (X : K.In s.heap) (hm : PySem.W.makesIn K C = true)
    (hi : PySem.W.findIn K (.ref C) "__init__" = some (some (.ref f))) (hf : PySem.W.typeIn K (.ref f) = some (.type "function"))
    (h : codeAny (model prog w) (A.under (.builtin "type.__call__" ⟨.ref C :: vs, kw⟩)) (.call (.ref f) ⟨.ref (s.heap.objs.size + 1) :: vs, kw⟩) (PySem.W.InitBack (s.heap.objs.size + 1) R)
      { s with heap := (s.heap.push PySem.W.emptyDict).push (PySem.W.instObj C s.heap.objs.size) }) :
    codeAny (model prog w) A (.call (.ref C) ⟨vs, kw⟩) R s := by
  obtain ⟨hh, g, d, t, os⟩ := s
  exact PySem.W.make_core (PySem.W.makes_of X hm) (PySem.W.looks_findIn X hi) (fun self => PySem.W.bind_fn X self hf) (.inl rfl) h
end

def putF (f : Str) (v : V) : List (Str × V) → List (Str × V)
  | [] => [(f, v)]
  | (g, x) :: r => if g = f then (g, v) :: r else (g, x) :: putF f v r
theorem lookup_putF (f g : Str) (v : V) : ∀ fs : List (Str × V), (putF f v fs).lookup g = if g = f then some v else fs.lookup g
  | [] => by
    show List.lookup g [(f, v)] = _
    by_cases h : g = f
    · have hb : (g == f) = true := beq_iff_eq.mpr h
      simp only [List.lookup, hb, if_pos h]
    · have hb : (g == f) = false := beq_eq_false_iff_ne.mpr h
      simp only [List.lookup, hb, if_neg h]
  | (k, x) :: r => by
    have ih := lookup_putF f g v r
    rw [show putF f v ((k, x) :: r) = (if k = f then (k, v) :: r else (k, x) :: putF f v r) from rfl]
    by_cases hk : k = f
    · rw [if_pos hk]
      by_cases h : g = k
      · have hb : (g == k) = true := beq_iff_eq.mpr h
        simp only [List.lookup, hb, if_pos (h.trans hk)]
      · have hb : (g == k) = false := beq_eq_false_iff_ne.mpr h
        simp only [List.lookup, hb, if_neg (fun e : g = f => h (e.trans hk.symm))]
    · rw [if_neg hk]
      by_cases h : g = k
      · have hb : (g == k) = true := beq_iff_eq.mpr h
        simp only [List.lookup, hb, if_neg (fun e : g = f => hk (h.symm.trans e))]
      · have hb : (g == k) = false := beq_eq_false_iff_ne.mpr h
        simp only [List.lookup, hb]
        exact ih
theorem keys_putF (f : Str) (v : V) : ∀ fs : List (Str × V), f ∈ (putF f v fs).map (·.1) ∧ ∀ g, g ∈ fs.map (·.1) → g ∈ (putF f v fs).map (·.1)
  | [] => ⟨by simp [putF], fun g h => by simp at h⟩
  | (k, x) :: r => by
    obtain ⟨i1, i2⟩ := keys_putF f v r
    rw [show putF f v ((k, x) :: r) = (if k = f then (k, v) :: r else (k, x) :: putF f v r) from rfl]
    by_cases hk : k = f
    · rw [if_pos hk]
      subst hk
      exact ⟨by simp, fun g h => by simpa using h⟩
    · rw [if_neg hk]
      refine ⟨?_, fun g h => ?_⟩
      · rw [List.map_cons]
        exact List.mem_cons_of_mem _ i1
      · rw [List.map_cons] at h ⊢
        rcases List.mem_cons.mp h with e | e
        · exact List.mem_cons.mpr (.inl e)
        · exact List.mem_cons_of_mem _ (i2 g e)
theorem length_putF (f : Str) (v : V) : ∀ fs : List (Str × V), (putF f v fs).length ≤ fs.length + 1
  | [] => by simp [putF]
  | (k, x) :: r => by
    have ih := length_putF f v r
    rw [show putF f v ((k, x) :: r) = (if k = f then (k, v) :: r else (k, x) :: putF f v r) from rfl]
    by_cases hk : k = f
    · rw [if_pos hk, List.length_cons, List.length_cons]; omega
    · rw [if_neg hk, List.length_cons, List.length_cons]; omega

theorem RelO.some_of {v : V} {o : Option Value} (r : RelO (some v) o) : ∃ u, o = some u ∧ RelV v u := by
  cases o with
  | none => exact (show False from r).elim
  | some u => exact ⟨u, rfl, r⟩
theorem RelO.none_of {o : Option Value} (r : RelO none o) : o = none := by
  cases o with
  | none => rfl
  | some u => exact (show False from r).elim
theorem handed_of {v : V} {u : Value} (r : RelV v u) : PySem.W.handedIn u = true := by
  cases v with
  | non => cases (show u = Value.none from r); rfl
  | bl b => cases (show u = Value.bool b from r); rfl
  | int i => obtain ⟨t, e⟩ := (show ∃ t, u = Value.int i t from r); cases e; rfl
  | str x => obtain ⟨t, e⟩ := (show ∃ t, u = Value.str x t from r); cases e; rfl
  | byt b => obtain ⟨t, e⟩ := (show ∃ t, u = Value.bytes b t from r); cases e; rfl
  | flt b => obtain ⟨t, e⟩ := (show ∃ t, u = Value.float b t from r); cases e; rfl
  | ref a => cases (show u = Value.ref a from r); rfl
  | ty n => cases (show u = Value.type n from r); rfl

section
variable {P : Program} {w : World} {H H' : Hp} {h h' : Heap} {a C dx : Addr} {fs fs' : List (Str × V)}
theorem ins_get (hok : HOk P w H h) (e : H a = some (.ins C dx fs)) : ∃ mA, ObjM h a dx C mA ∧ (∀ f, RelO (fs.lookup f) (mA f)) ∧ PySem.Within mA (fs.map (·.1)) ∧ fs.length ≤ 1000 ∧ H dx = some (.own a) := by
  obtain ⟨d, z, ne, ob, mA, n, r, q⟩ := (show ObjOk P w H h a (.ins C dx fs) from hok a _ e)
  exact ⟨mA, ⟨ob, n, ne⟩, r, q, z, d⟩
end

structure Cls (K : PySem.W.Frag) (C : Addr) : Prop where
  pg : PySem.W.plainGet K C Str.empty = true
  hd : PySem.W.hasDictIn K C = true
  po : PySem.W.plainOver K C = true
  sa : PySem.W.findIn K (.ref C) "__setattr__" = some (some (.builtin "object.__setattr__"))
theorem Cls.get {K : PySem.W.Frag} {C : Addr} (c : Cls K C) (f : Str) : PySem.W.plainGet K C f = true := c.pg
/-- no class of it has the name -/
def NoAttr (K : PySem.W.Frag) (C : Addr) (f : Str) : Prop := PySem.W.findIn K (.ref C) f = some none
theorem NoAttr.taker {K : PySem.W.Frag} {C : Addr} {f : Str} (n : NoAttr K C f) : PySem.W.takerIn K C f = some none := by
  unfold PySem.W.takerIn
  rw [show PySem.W.findIn K (.ref C) f = some none from n]
  rfl
/-- a method: a plain def of the class or of one above it -/
structure Meth (K : PySem.W.Frag) (C : Addr) (m : Str) (f : Addr) : Prop where
  at_ : PySem.W.findIn K (.ref C) m = some (some (.ref f))
  fn : PySem.W.isFn K (.ref f) = true
  kp : PySem.W.keepIn K (.ref f) = true

section
variable {X : Cx} {pins : List (Addr × Obj)} {σ : St} {H : Hp} {s : Shared} {a C dx : Addr} {fs : List (Str × V)} {f : Str} {v : V} {A : Around} {E : Value → Shared → Prop}

theorem getattr_ok {b : Bool} {Q : Value → Shared → Prop} (I : Inv X pins σ H s) (e : H a = some (.ins C dx fs)) (c : Cls X.K C) (n : NoAttr X.K C f) (l : fs.lookup f = some v)
    (h : ∀ u s', Inv X pins σ H s' → RelV v u → Q u s') : wpAny (model X.prog X.w) A (getAttr (.ref a) f b) Q E s := by
  obtain ⟨mA, O, r, _, _, _⟩ := ins_get I.hok e
  obtain ⟨u, hu, ru⟩ := RelO.some_of (v := v) (o := mA f) (by rw [← l]; exact r f)
  exact get_map I.kIn O (c.get f) c.hd n hu (handed_of ru) (h u _ (I.tok _) ru)

theorem getmeth_ok {m : Str} {g : Addr} {pl : Sem Bool} {Q : Value × List Value → Shared → Prop} (I : Inv X pins σ H s) (e : H a = some (.ins C dx fs)) (c : Cls X.K C) (k : Meth X.K C m g) (l : fs.lookup m = none)
    (h : Q (.ref g, [.ref a]) s) : wpAny (model X.prog X.w) A (getMethod (.ref a) m pl) Q E s := by
  obtain ⟨mA, O, r, _, _, _⟩ := ins_get I.hok e
  have hn : mA m = none := RelO.none_of (by rw [← l]; exact r m)
  exact get_meth I.kIn O (c.get m) k.at_ k.fn hn h

theorem setattr_ok {y : V} {u : Value} {Q : Unit → Shared → Prop} (I : Inv X pins σ H s) (e : H a = some (.ins C dx fs)) (c : Cls X.K C) (n : NoAttr X.K C f) (hl : fs.length < 1000) (ry : RelV y u)
    (h : ∀ s', Inv X pins σ (upd H a (.ins C dx (putF f y fs))) s' → Q () s') : wpAny (model X.prog X.w) A (setAttr (.ref a) f u) Q E s := by
  obtain ⟨mA, O, r, wi, _, ho⟩ := ins_get I.hok e
  have hz : (fs.map (·.1)).length ≤ sizeLine := by rw [List.length_map, sizeLine_eq]; omega
  refine set_map I.kIn O c.sa c.po n.taker c.hd wi hz fun h' O' sb => h _ ?_
  have hd : ∃ o, h'.get? dx = some o := let ⟨o, _, _, e', _⟩ := O'.ns; ⟨o, e'⟩
  refine I.write (x := a) (e := dx) (by rw [e]; exact True.intro) (.inr ho) (fun b q hb z => (sb.2 b hb).trans z) hd ?_
  refine ⟨by rw [upd_ne O.ne]; exact ho, ?_, O.ne, O'.obj, _, O'.ns, fun g => ?_, fun g hg => ?_⟩
  · have := length_putF f y fs; omega
  · show RelO ((putF f y fs).lookup g) (if g = f then some u else mA g)
    rw [lookup_putF]
    by_cases q : g = f
    · rw [if_pos q, if_pos q]; exact ry
    · rw [if_neg q, if_neg q]; exact r g
  · by_cases q : g = f
    · rw [q]; exact (keys_putF f y fs).1
    · refine (keys_putF f y fs).2 g (wi g fun z => hg ?_)
      show (if g = f then some u else mA g) = none
      rw [if_neg q]; exact z

/-- a new instance, tracked, without attributes -/
theorem Inv.made (I : Inv X pins σ H s) : Inv X pins σ (upd (upd H s.heap.objs.size (.own (s.heap.objs.size + 1))) (s.heap.objs.size + 1) (.ins C s.heap.objs.size []))
    { s with heap := (s.heap.push PySem.W.emptyDict).push (PySem.W.instObj C s.heap.objs.size) } := by
  have e1 : (s.heap.push PySem.W.emptyDict).get? s.heap.objs.size = some PySem.W.emptyDict := Heap.get?_push_size s.heap rfl
  have e2 : ((s.heap.push PySem.W.emptyDict).push (PySem.W.instObj C s.heap.objs.size)).get? (s.heap.objs.size + 1) = some (PySem.W.instObj C s.heap.objs.size) := by
    have := Heap.get?_push_size (s.heap.push PySem.W.emptyDict) (o := PySem.W.instObj C s.heap.objs.size) rfl
    rwa [Heap.size_push] at this
  have e3 : (s.heap.push PySem.W.emptyDict).Ns s.heap.objs.size (fun _ => none) := ⟨PySem.W.emptyDict, #[], _, e1, rfl, (fun e he => absurd he (by simp)), fun _ => rfl⟩
  have I1 := I.laid (a := s.heap.objs.size) (o := .own (s.heap.objs.size + 1)) (h' := s.heap.push PySem.W.emptyDict) (t' := s.toks) (fun b u q => Heap.get?_push_of_some _ q) (Nat.le_refl _) ⟨_, e1⟩
  refine I1.laid (a := s.heap.objs.size + 1) (o := .ins C s.heap.objs.size []) (t' := s.toks) (fun b u q => Heap.get?_push_of_some _ q) (Nat.le_of_eq (Heap.size_push _ _)) ?_
  have ne : s.heap.objs.size ≠ s.heap.objs.size + 1 := Nat.ne_of_lt (Nat.lt_succ_self _)
  refine ⟨by rw [upd_ne ne, upd_same], Nat.zero_le _, ne, e2, fun _ => none, (Heap.Ns1.of_empty e3).at fun o q => Heap.get?_push_of_some _ q, fun _ => True.intro, fun y hy => absurd rfl hy⟩

/-- e.f where nothing but the object is asked: through attributeBase (super) and the last hold -/
theorem attr_of {prog : Program} {w : World} {env : Env} {e : Expr} {f : Str} {pos : Pos} {s : Shared} {Q : Value → Shared → Prop} (hb : attributeBase e f env (eval e env) = eval e env)
    (h : wpAny (model prog w) A (eval e env) (fun o s₁ => wpAny (model prog w) A (getAttr o f true) Q E s₁) E s) : wpAny (model prog w) A (eval (.Attribute e f pos) env) Q E s :=
  Attribute_any_ h (by rw [arm_eval_Attribute, hb])
end

/-- e.f, an attribute of the instance -/
def tFld (K : PySem.W.Frag) (ta : TE) (f : Str) : TE := fun σ H Q => ta σ H fun x H1 => ∃ a C dx fs v, x = .ref a ∧ H1 a = some (.ins C dx fs) ∧ Cls K C ∧ NoAttr K C f ∧ fs.lookup f = some v ∧ Q v H1
/-- e.f = value -/
def sFld (K : PySem.W.Frag) (ta tv : TE) (f : Str) : TS := fun D σ H => tv σ H fun y H1 => ta σ H1 fun x H2 => ∃ a C dx fs, x = .ref a ∧ H2 a = some (.ins C dx fs) ∧ Cls K C ∧ NoAttr K C f ∧ fs.length < 1000 ∧
  D.nx σ (upd H2 a (.ins C dx (putF f y fs)))
/-- an augmented operator on two values -/
def InOp (X : Cx) (op : Operator) (rd : V → V → Hp → VK → Prop) : Prop :=
  ∀ (pins : List (Addr × Obj)) (s : Shared) (σ : St) (H : Hp) (x y : V) (u v : Value) (Q : VK), Inv X pins σ H s → RelV x u → RelV y v → rd x y H Q → wpAny (model X.prog X.w) X.A (inplaceOp op u v) (EP X pins σ Q) X.xe s
/-- e.f op= value -/
def sFldAug (K : PySem.W.Frag) (ta tv : TE) (rd : V → V → Hp → VK → Prop) (f : Str) : TS := fun D σ H => ta σ H fun x H1 => ∃ a C dx fs v, x = .ref a ∧ H1 a = some (.ins C dx fs) ∧ Cls K C ∧ NoAttr K C f ∧ fs.lookup f = some v ∧
  tv σ H1 fun y H2 => rd v y H2 fun z H3 => ∃ dx' fs', H3 a = some (.ins C dx' fs') ∧ fs'.length < 1000 ∧ D.nx σ (upd H3 a (.ins C dx' (putF f z fs')))

section
variable {X : Cx} {o e value : Expr} {f : Str} {pos pos' tpos : Pos} {ta tv : TE}
theorem pe_fld (he : PE X e ta) (hb : attributeBase e f X.env (eval e X.env) = eval e X.env) : PE X (.Attribute e f pos) (tFld X.K ta f) := by
  intro pins s σ H Q I h
  refine attr_of hb (thn (he pins s σ H _ I h) fun u s1 ⟨x, H1, I1, rx, a, C, dx, fs, v, ex, ea, c, n, l, q⟩ => ?_)
  subst ex
  obtain rfl : u = Value.ref a := rx
  exact getattr_ok I1 ea c n l fun u' s2 I2 ru => ⟨v, H1, I2, ru, q⟩
theorem ps_fld (ha : PE X o ta) (hv : PE X value tv) (hs : swapsWith value (some (.Attribute o f pos')) pos.line X.env = pure false) : PS X (.Assign [.Attribute o f pos'] value pos) (sFld X.K ta tv f) := by
  intro pins s σ H D I h
  refine plainObj_wpAny_Assign_Attribute (thn (hv pins s σ H _ I h) fun u s1 ⟨y, H1, I1, ry, q⟩ => thn (ha pins s1 σ H1 _ I1 q) fun ov s2 ⟨x, H2, I2, rx, a, C, dx, fs, ex, ea, c, n, l, q2⟩ => ?_) hs
  subst ex
  obtain rfl : ov = Value.ref a := rx
  exact setattr_ok I2 ea c n l ry fun s3 I3 => ⟨σ, _, I3, q2⟩
theorem ps_fldaug {op : Operator} {rd : V → V → Hp → VK → Prop} (ha : PE X o ta) (hv : PE X value tv) (hop : InOp X op rd) : PS X (.AugAssign (.Attribute o f tpos) op value pos) (sFldAug X.K ta tv rd f) := by
  intro pins s σ H D I h
  refine wpAny_AugAssign_AttributeAny (thn (ha pins s σ H _ I h) fun ov s1 ⟨x, H1, I1, rx, a, C, dx, fs, v, ex, ea, c, n, l, q⟩ => ?_)
  subst ex
  obtain rfl : ov = Value.ref a := rx
  refine getattr_ok I1 ea c n l fun u s2 I2 ru => thn (hv pins s2 σ H1 _ I2 q) fun w3 s3 ⟨y, H2, I3, ry, q3⟩ => thn (hop pins s3 σ H2 v y u w3 _ I3 ru ry q3) fun w4 s4 ⟨z, H3, I4, rz, dx', fs', ea', l', q4⟩ => ?_
  exact setattr_ok I4 ea' c n l' rz fun s5 I5 => ⟨σ, _, I5, q4⟩
def rAdd : V → V → Hp → VK → Prop := fun x y H Q => ∃ i j, x = .int i ∧ y = .int j ∧ Q (.int (i + j)) H
theorem in_add : InOp X .Add rAdd := by
  rintro pins s σ H x y u v Q I rx ry ⟨i, j, rfl, rfl, q⟩
  obtain ⟨t, rfl⟩ := (show ∃ t, u = Value.int i t from rx)
  obtain ⟨t', rfl⟩ := (show ∃ t', v = Value.int j t' from ry)
  exact PyProof.Rows.iadd_int ⟨.int (i + j), H, I.tok _, ⟨_, rfl⟩, q⟩
end

section
variable {X : Cx} {pins : List (Addr × Obj)} {σ : St} {H : Hp} {s : Shared} {A : Around} {E : Value → Shared → Prop} {Q : Value → Shared → Prop} {c : Value} {b : Bool}
end
end L2

namespace L2
open PySem PySem.Spec PyProof.Rows

structure Room (k : Nat) (A : Around) : Prop where
  hd : A.handled = none
  dp : A.depth + 3 * k + 5 < recursionLimit
  un : A.units + 16 * k + 200 < cLine
theorem Room.mono {j k : Nat} {A : Around} (r : Room k A) (h : j ≤ k) : Room j A := ⟨r.hd, by have := r.dp; omega, by have := r.un; omega⟩
theorem Room.deeper {k : Nat} {A : Around} (r : Room (k + 1) A) (env : Env) : Room k (A.deeper env) :=
  ⟨r.hd, by have := r.dp; show A.depth + 1 + 3 * k + 5 < _; omega, by have := r.un; show A.units + 3 + 16 * k + 200 < _; omega⟩
theorem Room.in1 {k : Nat} {A : Around} (r : Room (k + 1) A) : Room k A.in1 :=
  ⟨r.hd, by have := r.dp; show A.depth + 3 * k + 5 < _; omega, by have := r.un; show A.units + 1 + 16 * k + 200 < _; omega⟩
theorem make_depth {A : Around} {C : Addr} {us : List Value} {kw : List (Str × Value)} : (A.under (.builtin "type.__call__" ⟨.ref C :: us, kw⟩)).depth = A.depth + 1 := by
  first | rfl | simp [Around.under, Code.weight, Code.isCreation, Code.isGuard, Code.isCaller, Code.frames, Code.isFrame, guardIds]
theorem make_units {A : Around} {C : Addr} {us : List Value} {kw : List (Str × Value)} : (A.under (.builtin "type.__call__" ⟨.ref C :: us, kw⟩)).units = A.units + 1 := by
  first | rfl | simp [Around.under, Code.cUnits, Code.frames, Code.isFrame]
theorem Room.make {k : Nat} {A : Around} (r : Room (k + 1) A) (C : Addr) (us : List Value) (kw : List (Str × Value)) : Room k (A.under (.builtin "type.__call__" ⟨.ref C :: us, kw⟩)) :=
  ⟨r.hd, by have := r.dp; rw [make_depth]; omega, by have := r.un; rw [make_units]; omega⟩
theorem Room.depth {k : Nat} {A : Around} (r : Room k A) : A.depth < recursionLimit := by have := r.dp; omega
theorem Room.units {k : Nat} {A : Around} (r : Room k A) : A.units + 64 < cLine := by have := r.un; omega
def tNil : TA := fun _ H Q => Q [] H
def tCons (ta : TE) (tr : TA) : TA := fun σ H Q => ta σ H fun x H1 => tr σ H1 fun xs H2 => Q (x :: xs) H2
section
variable {X : Cx} {e : Expr} {es : List Expr} {te : TE} {t : TA} {pos : Pos}
theorem pa_nil : PA X [] tNil := fun _ _ _ _ H Q I h => Calls.spliced_nil ⟨[], H, I, .nil, h⟩
theorem pa_cons (ha : PE X e te) (hr : PA X es t) (hs : starEach (e :: es) X.env = (false, eval e X.env) :: starEach es X.env := by rfl) : PA X (e :: es) (tCons te t) := by
  intro pos pins s σ H Q I h
  rw [hs]
  show wpAny _ _ (spliced ((false, eval e X.env) :: backTo pos (starEach es X.env))) _ _ s
  refine Calls.spliced_cons (thn (ha pins s σ H _ I h) fun u s1 ⟨x, H1, I1, r1, q1⟩ => ?_)
  exact thn (hr pos pins s1 σ H1 _ I1 q1) fun us s2 ⟨xs, H2, I2, r2, q2⟩ => ⟨x :: xs, H2, I2, .cons r1 r2, q2⟩

/-- a tuple, a list of written items -/
def tTup (t : TA) : TE := fun σ H Q => t σ H fun xs H1 => xs.length ≤ sizeLine ∧ ∀ p, H1 p = none → Q (.ref p) (upd H1 p (.tup xs))
def tLst (t : TA) : TE := fun σ H Q => t σ H fun xs H1 => xs.length ≤ sizeLine ∧ ∀ p, H1 p = none → Q (.ref p) (upd H1 p (.lst xs))
theorem pe_tup {x1} (h : PA X es t) : PE X (.Tuple es x1 pos) (tTup t) := by
  intro pins s σ H Q I hq
  refine wpAny_Tuple_spliced (thn (h pos pins s σ H _ I hq) fun us s1 ⟨xs, H1, I1, r, z, q⟩ => ⟨by rw [← r.length]; exact z, ?_⟩)
  have hf : H1 s1.heap.objs.size = none := I1.hok.fresh (Nat.le_refl _)
  refine ⟨.ref s1.heap.objs.size, upd H1 s1.heap.objs.size (.tup xs), I1.laid (t' := s1.toks) (fun b u e => Heap.get?_push_of_some _ e) (Nat.le_refl _) ?_, rfl, q _ hf⟩
  exact ⟨z, us, r, ⟨_, Heap.get?_push_size _ rfl, rfl, _, rfl⟩⟩
theorem pe_lst (h : PA X es t) : PE X (.List es pos) (tLst t) := by
  intro pins s σ H Q I hq
  refine wpAny_List_spliced (thn (h pos pins s σ H _ I hq) fun us s1 ⟨xs, H1, I1, r, z, q⟩ => ⟨by rw [← r.length]; exact z, ?_⟩)
  have hf : H1 s1.heap.objs.size = none := I1.hok.fresh (Nat.le_refl _)
  refine ⟨.ref s1.heap.objs.size, upd H1 s1.heap.objs.size (.lst xs), I1.laid (t' := s1.toks) (fun b u e => Heap.get?_push_of_some _ e) (Nat.le_refl _) ?_, rfl, q _ hf⟩
  exact ⟨z, us, 0, r, Heap.get?_push_size _ rfl⟩
end

/-- a def's promise: the bound arguments in the parameters' order, the heap, the wanted end, the wanted exception -/
abbrev Sp := List V → Hp → VK → XK → Prop
/-- how an exception lies behind a call (file 08 gives it): the callers' frames, abstract heap and state ahead of the call, the wish, the exception, the state -/
abbrev CXT := List Env → Hp → Shared → XK → Value → Shared → Prop

/-- the state at a call -/
structure Env0 (P : Program) (w : World) (K : PySem.W.Frag) (mg : Str → Option Value) (base : Heap) (A : Around) (outer : List Env) (s : Shared) (H : Hp) : Prop where
  frames : A.frames = some outer
  mod : Mod K mg base
  bs : ∀ b o, base.get? b = some o → s.heap.get? b = some o ∧ H b = none
  bsz : base.objs.size ≤ s.heap.objs.size
  funs : s.heap.FunFrames base outer
  frf : ∀ b ∈ frs outer, H b = none
  hok : HOk P w H s.heap
  bare : AllBare s.gens
/-- a call's end -/
def CE (outer : List Env) (P : Program) (w : World) (H : Hp) (s : Shared) (Q : VK) (u : Value) (s' : Shared) : Prop :=
  ∃ v H', s'.os = s.os ∧ AllBare s'.gens ∧ Un (frs outer) [] H H' s.heap s'.heap ∧ HOk P w H' s'.heap ∧ RelV v u ∧ Q v H'
def CR (CX : CXT) (outer : List Env) (P : Program) (w : World) (H : Hp) (s : Shared) (Q : VK) (E : XK) (r : Result) (s' : Shared) : Prop :=
  match r with
  | .ok (.ret u) => CE outer P w H s Q u s'
  | .ok _ => False
  | .error e => CX outer H s E e s'
structure FnOk (P : Program) (w : World) (K : PySem.W.Frag) (mg : Str → Option Value) (base : Heap) (CX : CXT) (k : Nat) (f : Addr) (fd : FuncData) (ps : List Str) (sp : Sp) : Prop where
  len : ∀ vs H Q E, sp vs H Q E → vs.length = ps.length
  run : ∀ (A : Around) (outer : List Env) (s : Shared) (H : Hp) (args : Args) (us : List Value) (vs : List V) (Q : VK) (E : XK), Room k A → Env0 P w K mg base A outer s H → BindsTo s fd args (ps.zip us) → Vals vs us → sp vs H Q E →
    codeAny (model P w) A (.call (.ref f) args) (CR CX outer P w H s Q E) s
theorem FnOk.mono {P : Program} {w : World} {K : PySem.W.Frag} {mg : Str → Option Value} {base : Heap} {CX : CXT} {j k : Nat} {f : Addr} {fd : FuncData} {ps : List Str} {sp : Sp} (F : FnOk P w K mg base CX j f fd ps sp) (h : j ≤ k) :
    FnOk P w K mg base CX k f fd ps sp := ⟨F.len, fun A outer s H args us vs Q E hr => F.run A outer s H args us vs Q E (hr.mono h)⟩
theorem Env0.make {P : Program} {w : World} {K : PySem.W.Frag} {mg : Str → Option Value} {base : Heap} {A : Around} {outer : List Env} {s : Shared} {H : Hp} (e : Env0 P w K mg base A outer s H) (C : Addr) (us : List Value) (kw : List (Str × Value)) :
    Env0 P w K mg base (A.under (.builtin "type.__call__" ⟨.ref C :: us, kw⟩)) outer s H := ⟨by first | exact e.frames | (simpa [Around.under, Code.envs, Code.isFrame, pushEnvs] using e.frames), e.mod, e.bs, e.bsz, e.funs, e.frf, e.hok, e.bare⟩
theorem Env0.in1 {P : Program} {w : World} {K : PySem.W.Frag} {mg : Str → Option Value} {base : Heap} {A : Around} {outer : List Env} {s : Shared} {H : Hp} (e : Env0 P w K mg base A outer s H) :
    Env0 P w K mg base A.in1 outer s H := ⟨e.frames, e.mod, e.bs, e.bsz, e.funs, e.frf, e.hok, e.bare⟩

section
variable {X : Cx} {pins : List (Addr × Obj)} {σ : St} {H : Hp} {s s' : Shared}
/-- from a body: what a callee wants -/
theorem Inv.env0 (I : Inv X pins σ H s) : Env0 X.prog X.w X.K X.mg X.base X.A X.stack s H :=
  ⟨I.ok.frames, I.ok.mod, I.bs, Nat.le_trans I.ok.bsz I.sz, I.stack, I.stkFree, I.hok, I.bare⟩
/-- behind a call -/
theorem Inv.after {Q : VK} {u : Value} (I : Inv X pins σ H s) (h : CE X.stack X.prog X.w H s Q u s') : EP X pins σ Q u s' := by
  obtain ⟨v, H', os, bare, un, hok, r, q⟩ := h
  obtain ⟨hh, g, d, t, os'⟩ := s'
  obtain rfl : os' = s.os := os
  exact ⟨v, H', I.call (h' := hh) (g' := g) (d' := d) (t' := t) (ch := []) un hok bare (fun b z => absurd z (by simp)), r, q⟩
end

/-- f(..): the written arguments, then the defaults dvs; E: what is wanted of an exception -/
def tCall (sp : Sp) (dvs : List V) (E : XK) (t : TA) : TE := fun σ H Q => t σ H fun vs H1 => sp (vs ++ dvs) H1 Q E
/-- o.m(..) of an instance of the class at C -/
def tMeth (C : Addr) (m : Str) (sp : Sp) (dvs : List V) (E : XK) (ta : TE) (t : TA) : TE := fun σ H Q => ta σ H fun x H1 => ∃ a dx fs, x = .ref a ∧ H1 a = some (.ins C dx fs) ∧ fs.lookup m = none ∧
  t σ H1 fun vs H2 => sp (x :: (vs ++ dvs)) H2 Q E
/-- C(..): a new instance and its dict, then __init__ -/
def tMake (C : Addr) (sp : Sp) (dvs : List V) (E : XK) (t : TA) : TE := fun σ H Q => t σ H fun vs H1 => ∀ x dx, H1 x = none → H1 dx = none → dx ≠ x →
  sp (.ref x :: (vs ++ dvs)) (upd (upd H1 dx (.own x)) x (.ins C dx [])) (fun v H2 => v = .non ∧ Q (.ref x) H2) E

/-- how the parameters are bound: us the positional arguments, kw the keywords' values by name, ds the defaults that fill up -/
def Binds (K : PySem.W.Frag) (fd : FuncData) (ps : List Str) (ds : List Value) : Prop :=
  ∀ (s : Shared) (us : List Value), K.In s.heap → (us ++ ds).length = ps.length → BindsTo s fd ⟨us, []⟩ (ps.zip (us ++ ds))
/-- every parameter is given -/
theorem Binds.all {K : PySem.W.Frag} {fd : FuncData} {ps : List Str} (h : ∀ us : List Value, us.length = ps.length → bindArgs fd ⟨us, []⟩ = pure (ps.zip us)) : Binds K fd ps [] := fun s us _ hl => by
  rw [List.append_nil] at hl ⊢
  exact .of_eq (h us hl)

/-- an exception of a callee reaches what this body wants of exceptions -/
def Passes (CX : CXT) (X : Cx) (E : XK) : Prop := ∀ (pins : List (Addr × Obj)) (σ : St) (H : Hp) (s : Shared) (e : Value) (s' : Shared), Inv X pins σ H s → CX X.stack H s E e s' → X.xe e s'

section
variable {X : Cx} {CX : CXT} {k : Nat} {f C : Addr} {fd : FuncData} {ps : List Str} {sp : Sp} {dvs : List V} {ds : List Value} {E : XK} {x m : Str} {p pos apos : Pos} {e o : Expr} {es : List Expr} {ta : TE} {t : TA}

/-- the callee runs -/
theorem run_fn {pins : List (Addr × Obj)} {σ : St} {H : Hp} {s : Shared} {Q : VK} {us : List Value} {vs : List V} (F : FnOk X.prog X.w X.K X.mg X.base CX k f fd ps sp) (hr : Room k X.A) (hb : Binds X.K fd ps ds) (hd : Vals dvs ds) (hx : Passes CX X E)
    (I : Inv X pins σ H s) (r : Vals vs us) (h : sp (vs ++ dvs) H Q E) : wpAny (model X.prog X.w) X.A (call (.ref f) us) (EP X pins σ Q) X.xe s := by
  have r2 : Vals (vs ++ dvs) (us ++ ds) := r.append hd
  have hl : (us ++ ds).length = ps.length := by rw [← r2.length]; exact F.len _ _ _ _ h
  refine wpAny_call (codeAny_mono (F.run X.A X.stack s H ⟨us, []⟩ (us ++ ds) (vs ++ dvs) Q E hr I.env0 (hb s us I.kIn hl) r2 h) fun r s' hq => ?_)
  cases r with
  | error e => exact hx pins σ H s e s' I hq
  | ok fl =>
    cases fl with
    | ret u => exact I.after hq
    | next => exact False.elim hq
    | brk => exact False.elim hq
    | cont => exact False.elim hq

theorem pe_call (F : FnOk X.prog X.w X.K X.mg X.base CX k f fd ps sp) (hr : Room k X.A) (hg : Gl X x) (hm : X.mg x = some (.ref f)) (hk : PySem.W.keepIn X.K (.ref f) = true) (hb : Binds X.K fd ps ds) (hd : Vals dvs ds) (hx : Passes CX X E)
    (ha : PA X (e :: es) t) (hdb : (x == ("__debug__" : Str)) = false := by decide) (he : starEach (e :: es) X.env = (false, eval e X.env) :: starEach es X.env := by rfl) (hpl : (backTo pos (starEach es X.env)).any (·.1) = false := by rfl) :
    PE X (.Call (.Name x p) (e :: es) [] pos) (tCall sp dvs E t) := by
  intro pins s σ H Q I h
  refine wpAny_Call_Name_kw (ld_glob I hg hm ?_ hdb)
  refine PySem.W.callWith_K (h₀ := X.base) I.ok.mod.kin hk (thn (ha pos pins s σ H _ I h) fun us s1 ⟨vs, H1, I1, r, q⟩ => ⟨I1.kIn, ?_⟩) he hpl
  exact run_fn F hr hb hd hx I1 r q
/-- o.m(e, ..) -/
theorem pe_meth {pl : Sem Bool} (he : PE X o ta) (c : Cls X.K C) (hm : Meth X.K C m f) (F : FnOk X.prog X.w X.K X.mg X.base CX k f fd ps sp) (hr : Room k X.A) (hb : Binds X.K fd ps ds) (hd : Vals dvs ds) (hx : Passes CX X E) (ha : PA X (e :: es) t)
    (hst : starEach (e :: es) X.env = (false, eval e X.env) :: starEach es X.env := by rfl) (hpl : (backTo pos (starEach es X.env)).any (·.1) = false := by rfl)
    (ht : eval (.Call (.Attribute o m apos) (e :: es) [] pos) X.env = (do
      let ov ← eval o X.env
      standAt apos.atName
      let (f, first) ← holding [ov] (getMethod ov m pl)
      callWith pos f first (backTo pos (starEach (e :: es) X.env)) (backToKw pos (keywordEach [] X.env))) := by rfl) :
    PE X (.Call (.Attribute o m apos) (e :: es) [] pos) (tMeth C m sp dvs E ta t) := by
  intro pins s σ H Q I h
  refine PySem.W.methodCall_KW (pl := pl) (thn (he pins s σ H _ I h) fun u s1 ⟨x, H1, I1, rx, a, dx, fs, ex, ea, l, q⟩ => ?_) ht
  subst ex
  obtain rfl : u = Value.ref a := rx
  refine getmeth_ok I1 ea c hm l ?_
  refine PySem.W.callWith_K (first := [.ref a]) (h₀ := X.base) I.ok.mod.kin hm.kp (thn (ha pos pins s1 σ H1 _ I1 q) fun us s2 ⟨vs, H2, I2, r, q2⟩ => ⟨I2.kIn, ?_⟩) hst hpl
  exact run_fn (us := .ref a :: us) (vs := .ref a :: vs) F hr hb hd hx I2 (.cons rfl r) q2
/-- o.m() -/
theorem pe_meth0 {pl : Sem Bool} (he : PE X o ta) (c : Cls X.K C) (hm : Meth X.K C m f) (F : FnOk X.prog X.w X.K X.mg X.base CX k f fd ps sp) (hr : Room k X.A) (hb : Binds X.K fd ps ds) (hd : Vals dvs ds) (hx : Passes CX X E)
    (ht : eval (.Call (.Attribute o m apos) [] [] pos) X.env = (do
      let ov ← eval o X.env
      standAt apos.atName
      let (f, first) ← holding [ov] (getMethod ov m pl)
      callWith pos f first (backTo pos (starEach [] X.env)) (backToKw pos (keywordEach [] X.env))) := by rfl) :
    PE X (.Call (.Attribute o m apos) [] [] pos) (tMeth C m sp dvs E ta tNil) := by
  intro pins s σ H Q I h
  refine PySem.W.methodCall_KW (pl := pl) (thn (he pins s σ H _ I h) fun u s1 ⟨x, H1, I1, rx, a, dx, fs, ex, ea, l, q⟩ => ?_) ht
  subst ex
  obtain rfl : u = Value.ref a := rx
  refine getmeth_ok I1 ea c hm l ?_
  exact PySem.W.callWith_K0 (first := [.ref a]) I1.kIn hm.kp (run_fn (us := [.ref a]) (vs := [.ref a]) F hr hb hd hx I1 (.cons rfl .nil) q)

/-- what a class must have to be made -/
structure Mk (K : PySem.W.Frag) (C f : Addr) : Prop where
  makes : PySem.W.makesIn K C = true
  init : PySem.W.findIn K (.ref C) "__init__" = some (some (.ref f))
  fn : PySem.W.isFn K (.ref f) = true
  kp : PySem.W.keepIn K (.ref C) = true

theorem run_make {pins : List (Addr × Obj)} {σ : St} {H : Hp} {s : Shared} {Q : VK} {us : List Value} {vs : List V} (M : Mk X.K C f) (F : FnOk X.prog X.w X.K X.mg X.base CX k f fd ps sp) (hr : Room (k + 1) X.A) (hb : Binds X.K fd ps ds) (hd : Vals dvs ds)
    (hx : Passes CX X E) (I : Inv X pins σ H s) (r : Vals vs us)
    (h : ∀ x dx, H x = none → H dx = none → dx ≠ x → sp (.ref x :: (vs ++ dvs)) (upd (upd H dx (.own x)) x (.ins C dx [])) (fun v H2 => v = .non ∧ Q (.ref x) H2) E) :
    wpAny (model X.prog X.w) X.A (call (.ref C) us) (EP X pins σ Q) X.xe s := by
  have hq := h (s.heap.objs.size + 1) s.heap.objs.size (I.hok.fresh (Nat.le_succ _)) (I.hok.fresh (Nat.le_refl _)) (Nat.ne_of_lt (Nat.lt_succ_self _))
  have I2 := Inv.made (C := C) I
  have r2 : Vals (V.ref (s.heap.objs.size + 1) :: (vs ++ dvs)) (Value.ref (s.heap.objs.size + 1) :: (us ++ ds)) := .cons rfl (r.append hd)
  have hl : (Value.ref (s.heap.objs.size + 1) :: us ++ ds).length = ps.length := by
    have e := r2.length
    rw [F.len _ _ _ _ hq] at e
    exact e.symm
  refine wpAny_call (make_map (f := f) I.kIn M.makes M.init (beq_iff_eq.mp M.fn) (codeAny_mono (F.run _ X.stack _ _ ⟨Value.ref (s.heap.objs.size + 1) :: us, []⟩ (Value.ref (s.heap.objs.size + 1) :: (us ++ ds)) _ _ E (hr.make C us [])
    (I2.env0.make C us []) (hb _ (Value.ref (s.heap.objs.size + 1) :: us) I2.kIn hl) r2 hq) fun r s' hq' => ?_))
  cases r with
  | error e => exact hx pins σ _ _ e s' I2 hq'
  | ok fl =>
    cases fl with
    | ret u =>
      obtain ⟨v, H', I3, rv, ev, q3⟩ := I2.after hq'
      subst ev
      exact ⟨rv, ⟨V.ref (s.heap.objs.size + 1), H', I3, rfl, q3⟩⟩
    | next => exact False.elim hq'
    | brk => exact False.elim hq'
    | cont => exact False.elim hq'
theorem pe_make (M : Mk X.K C f) (F : FnOk X.prog X.w X.K X.mg X.base CX k f fd ps sp) (hr : Room (k + 1) X.A) (hg : Gl X x) (hm : X.mg x = some (.ref C)) (hb : Binds X.K fd ps ds) (hd : Vals dvs ds) (hx : Passes CX X E)
    (ha : PA X (e :: es) t) (hdb : (x == ("__debug__" : Str)) = false := by decide) (he : starEach (e :: es) X.env = (false, eval e X.env) :: starEach es X.env := by rfl) (hpl : (backTo pos (starEach es X.env)).any (·.1) = false := by rfl) :
    PE X (.Call (.Name x p) (e :: es) [] pos) (tMake C sp dvs E t) := by
  intro pins s σ H Q I h
  refine wpAny_Call_Name_kw (ld_glob I hg hm ?_ hdb)
  refine PySem.W.callWith_K (h₀ := X.base) I.ok.mod.kin M.kp (thn (ha pos pins s σ H _ I h) fun us s1 ⟨vs, H1, I1, r, q⟩ => ⟨I1.kIn, ?_⟩) he hpl
  exact run_make M F hr hb hd hx I1 r q
theorem pe_make0 (M : Mk X.K C f) (F : FnOk X.prog X.w X.K X.mg X.base CX k f fd ps sp) (hr : Room (k + 1) X.A) (hg : Gl X x) (hm : X.mg x = some (.ref C)) (hb : Binds X.K fd ps ds) (hd : Vals dvs ds) (hx : Passes CX X E)
    (hdb : (x == ("__debug__" : Str)) = false := by decide) : PE X (.Call (.Name x p) [] [] pos) (tMake C sp dvs E tNil) := by
  intro pins s σ H Q I h
  refine wpAny_Call_Name_kw (ld_glob I hg hm ?_ hdb)
  exact PySem.W.callWith_K0 I.kIn M.kp (run_make (us := []) M F hr hb hd hx I .nil h)
end

section
variable {X : Cx} {CX : CXT} {k : Nat} {f C : Addr} {fd : FuncData} {ps ks : List Str} {sp : Sp} {E : XK} {x m : Str} {p pos apos kpos : Pos} {e o : Expr} {es : List Expr} {kws : List Keyword} {te ta : TE} {t tk : TA} {nm : Option Str}
variable {g : List Value → List Value → List Value} {gV : List V → List V → List V}
end

/-- names: the parameters first -/
structure FnScope (N P : List Str) (sc : Scope) : Prop where
  kind : sc.kind = .function
  co : sc.isCoroutine = false
  gen : sc.isGenerator = false
  nd : N.Nodup
  pre : N.take P.length = P
  par : ∀ x ∈ P, sc.names.lookup x = some .local ∨ sc.names.lookup x = some .cell
  nofree : ∀ y ∈ sc.names, y.2 ≠ .free

theorem bindL_out {kindOf : Str → Option NameKind} {x : Str} : ∀ {binds : List (Str × Value)} {m : Str → Option Value}, (∀ v, (x, v) ∉ binds) → bindL kindOf binds m x = m x
  | [], _, _ => rfl
  | (n, v) :: r, m, h => by
    unfold bindL
    rw [bindL_out fun w hw => h w (List.mem_cons_of_mem _ hw)]
    split
    · have : x ≠ n := by rintro rfl; exact h v List.mem_cons_self
      simp [this]
    · rfl
theorem bindC_out {kindOf : Str → Option NameKind} {x : Str} : ∀ {binds : List (Str × Value)} {m : Str → Option Value}, (∀ v, (x, v) ∉ binds) → bindC kindOf binds m x = m x
  | [], _, _ => rfl
  | (n, v) :: r, m, h => by
    unfold bindC
    rw [bindC_out fun w hw => h w (List.mem_cons_of_mem _ hw)]
    split
    · rfl
    · have : x ≠ n := by rintro rfl; exact h v List.mem_cons_self
      simp [this]
theorem bindL_get {kindOf : Str → Option NameKind} {x : Str} {v : Value} : ∀ {P : List Str} {vs : List Value} {i : Nat} {m : Str → Option Value}, P.Nodup → P[i]? = some x → vs[i]? = some v → kindOf x = some .local →
    bindL kindOf (P.zip vs) m x = some v
  | [], _, _, _, _, h, _, _ => by simp at h
  | _ :: _, [], _, _, _, _, h, _ => by simp at h
  | p :: P, w :: vs, 0, m, nd, h1, h2, hk => by
    simp at h1 h2; subst h1; subst h2
    show bindL kindOf ((p, w) :: P.zip vs) m p = _
    unfold bindL
    rw [bindL_out fun v hv => (List.nodup_cons.mp nd).1 (List.of_mem_zip hv).1, if_pos hk]
    simp
  | p :: P, w :: vs, i + 1, m, nd, h1, h2, hk => by
    show bindL kindOf ((p, w) :: P.zip vs) m x = _
    unfold bindL
    exact bindL_get (i := i) (List.nodup_cons.mp nd).2 (by simpa using h1) (by simpa using h2) hk
theorem bindC_get {kindOf : Str → Option NameKind} {x : Str} {v : Value} : ∀ {P : List Str} {vs : List Value} {i : Nat} {m : Str → Option Value}, P.Nodup → P[i]? = some x → vs[i]? = some v → kindOf x ≠ some .local →
    bindC kindOf (P.zip vs) m x = some v
  | [], _, _, _, _, h, _, _ => by simp at h
  | _ :: _, [], _, _, _, _, h, _ => by simp at h
  | p :: P, w :: vs, 0, m, nd, h1, h2, hk => by
    simp at h1 h2; subst h1; subst h2
    show bindC kindOf ((p, w) :: P.zip vs) m p = _
    unfold bindC
    rw [bindC_out fun v hv => (List.nodup_cons.mp nd).1 (List.of_mem_zip hv).1, if_neg hk]
    simp
  | p :: P, w :: vs, i + 1, m, nd, h1, h2, hk => by
    show bindC kindOf ((p, w) :: P.zip vs) m x = _
    unfold bindC
    exact bindC_get (i := i) (List.nodup_cons.mp nd).2 (by simpa using h1) (by simpa using h2) hk

/-- the names' values at the entry -/
def start (N : List Str) (vs : List V) : St := vs.map some ++ List.replicate (N.length - vs.length) none

/-- the context of a def's body, at its entry; an exception leaves the frame, then lies as CX says -/
def cxOf (CX : CXT) (P : Program) (w : World) (K : PySem.W.Frag) (mg : Str → Option Value) (base : Heap) (N : List Str) (qual : Str) (scope : Scope) (f : Addr) (cd : Value) (A : Around) (outer : List Env) (s : Shared) (H : Hp) (E : XK) : Cx where
  prog := P
  w := w
  K := K
  mg := mg
  base := base
  A := A.deeper (envOfC qual scope s.heap.objs.size f cd)
  N := N
  s_0 := s
  H_0 := H
  env := envOfC qual scope s.heap.objs.size f cd
  outer := outer
  stack := envOfC qual scope s.heap.objs.size f cd :: outer
  ex := []
  calm := true
  fn := fun _ => true
  pn := []
  xe := fun e s' => wpAny (model P w) (A.deeper (envOfC qual scope s.heap.objs.size f cd)) (leaving (envOfC qual scope s.heap.objs.size f cd) e) (fun _ s'' => CX outer H s E e s'') (fun e' s'' => CX outer H s E e' s'') s'

theorem cell_has {sc : Scope} {n : Nat} {x : Str} (h : sc.names.lookup x = some .cell) : ∃ c, (cellsFrom n sc.names []).lookup x = some c := by
  have q := PySem.W.cellsFrom_some sc.names n [] (.inl h)
  exact Option.isSome_iff_exists.mp q

theorem inv_start {CX : CXT} {P : Program} {w : World} {K : PySem.W.Frag} {mg : Str → Option Value} {base : Heap} {N ps : List Str} {qual : Str} {scope : Scope} {f : Addr} {cd : Value} {A : Around} {outer : List Env} {s s1 : Shared} {H : Hp} {E : XK} {us : List Value} {vs : List V}
    (S : FnScope N ps scope) (hd : A.handled = none) (e0 : Env0 P w K mg base A outer s H) (hl : vs.length = ps.length) (r : Vals vs us)
    (x : InCallC s s.heap.objs.size (bindL (envOfC qual scope s.heap.objs.size f cd).kindOf (ps.zip us) fun _ => none) (cellsFrom (s.heap.objs.size + 1) scope.names []) (bindC (envOfC qual scope s.heap.objs.size f cd).kindOf (ps.zip us) fun _ => none) s1) :
    Inv (cxOf CX P w K mg base N qual scope f cd A outer s H E) [] (start N vs) H s1 := by
  have hpl : ps.length ≤ N.length := by have := congrArg List.length S.pre; rw [List.length_take] at this; omega
  obtain ⟨h1, tk, rfl, hk⟩ := x.done
  have noA : ∀ b : Addr, b ∉ (cxOf CX P w K mg base N qual scope f cd A outer s H E).ex := fun b z => absurd (show b ∈ ([] : List Addr) from z) (by simp)
  refine ⟨⟨e0.mod, S.kind, rfl, rfl, Nat.le_refl _, fun y z c h1 h2 => ?_, fun y hy => ?_, fun y c _ h => ?_, fun _ => hd, Around.frames_deeper e0.frames, .inr ⟨rfl, rfl⟩, fun b z => absurd z (noA b), e0.bs, e0.bsz, fun b _ _ => noA b, fun b z => absurd z (noA b), e0.funs, e0.frf⟩,
    rfl, e0.bare, Un.kept hk, ⟨_, x.toInCall.ns, fun i y v h1 h2 h3 => ?_⟩, fun y c h => ⟨_, x.cell y c h⟩, e0.hok.fresh (Nat.le_refl _), fun y c h => ?_, fun p hp => absurd (show p ∈ ([] : List (Addr × Obj)) from hp) (by simp), e0.hok.kept hk, ?_⟩
  · exact name_of_addr x.apart (PySem.mem_of_lookup h1) (PySem.mem_of_lookup h2)
  · have hy : scope.names.lookup y = some .cell ∨ scope.names.lookup y = some .free := hy
    rcases hy with hy | hy
    · exact cell_has hy
    · exact absurd rfl (S.nofree _ (PySem.mem_of_lookup hy))
  · exact Nat.le_of_lt (x.above y c (PySem.mem_of_lookup h))
  · have hi : i < vs.length := by
      unfold start at h2
      by_cases hi : i < vs.length
      · exact hi
      · rw [List.getElem?_append_right (by simpa using hi)] at h2
        rw [List.getElem?_replicate] at h2
        split at h2 <;> cases h2
    have ha : vs[i]? = some v := by
      unfold start at h2
      rw [List.getElem?_append_left (by simpa using hi), List.getElem?_map] at h2
      cases e : vs[i]? with
      | none => rw [e] at h2; cases h2
      | some a => rw [e] at h2; cases h2; rfl
    obtain ⟨u, hu, rv⟩ := r.get ha
    have hp : ps[i]? = some y := by
      rw [← S.pre, List.getElem?_take_of_lt (by omega)]; exact h1
    have ndP : ps.Nodup := by rw [← S.pre]; exact S.nd.sublist (List.take_sublist _ _)
    refine ⟨u, rv, ?_⟩
    rcases S.par y (List.mem_of_getElem? hp) with k | k
    · exact .inl ⟨k, bindL_get ndP hp hu k⟩
    · obtain ⟨c, e⟩ := cell_has (n := s.heap.objs.size + 1) k
      refine .inr ⟨.inl k, c, e, ?_⟩
      have q := x.cell y c e
      rw [bindC_get ndP hp hu (by show scope.names.lookup y ≠ _; rw [k]; decide)] at q
      exact q
  · exact e0.hok.fresh (Nat.le_of_lt (x.above y c (PySem.mem_of_lookup h)))
  · unfold start
    show _ = N.length
    rw [List.length_append, List.length_map, List.length_replicate]
    omega

/-- THE RULE: a def (or a method) of the text, by its body. The body's reading t is chosen for each entry; it is run at the parameters' values -/
theorem fn_of {CX : CXT} {P : Program} {w : World} {K : PySem.W.Frag} {mg : Str → Option Value} {base : Heap} {k : Nat} {f : Addr} {name qual : Str} {params : Arguments} {body : List Stmt} {scope : Scope} {dV kV doc pm cdv ct oc : Value} {an od : Option Addr}
    {osl : Array (Option Value)} {N ps : List Str} {sp : Sp} (lk : K.lookup f = some ⟨oc, od, .func (PySem.W.fnOf name qual params body scope dV kV doc pm an cdv ct), osl⟩) (hcd : PySem.W.codeIn K cdv qual = true) (S : FnScope N ps scope)
    (len : ∀ vs H Q E, sp vs H Q E → vs.length = ps.length)
    (hbody : ∀ (A : Around) (outer : List Env) (s : Shared) (H : Hp) (vs : List V) (Q : VK) (E : XK), Room k (A.deeper (envOfC qual scope s.heap.objs.size f cdv)) → sp vs H Q E →
      ∃ t, PSs (cxOf CX P w K mg base N qual scope f cdv A outer s H E) body t ∧ t { nx := fun _ H' => Q .non H', rt := Q } (start N vs) H) :
    FnOk P w K mg base CX (k + 1) f (PySem.W.fnOf name qual params body scope dV kV doc pm an cdv ct) ps sp := by
  refine ⟨len, fun A outer s H args us vs Q E hr e0 hb r hsp => ?_⟩
  have hl := len _ _ _ _ hsp
  have KX : K.In s.heap := e0.mod.kin.keeps fun b o e => (e0.bs b o e).1
  have lim : s.heap.NoLimit := e0.mod.nolimit.keeps fun b o e => (e0.bs b o e).1
  have hkind : ∀ y ∈ ps.zip us, scope.names.lookup y.1 = some .local ∨ (scope.names.lookup y.1 = some .cell ∧ ((cellsFrom (s.heap.objs.size + 1) scope.names []).lookup y.1).isSome = true) := fun ⟨n, v⟩ hy => by
    rcases S.par n (List.of_mem_zip hy).1 with q | q
    · exact .inl q
    · exact .inr ⟨q, PySem.W.cellsFrom_some _ _ _ (.inl q)⟩
  refine codeAny_call_function hr.depth (KX _ _ lk) rfl S.co S.gen rfl (PySem.W.codeRec_of KX hcd) (hb _ _ _ _ ?_)
  refine wpAny_newFunctionEnv_cells S.kind hkind fun env he s1 x => ?_
  subst he
  refine ⟨lim.keeps x.toInCall.keep, codeAny_func ?_⟩
  obtain ⟨t, ht, hq⟩ := hbody A outer s H vs Q E (hr.deeper _) hsp
  have I : Inv (cxOf CX P w K mg base N qual scope f cdv A outer s H E) [] (start N vs) H s1 := inv_start S hr.hd e0 hl r x
  refine wpAny_mono (ht [] s1 (start N vs) H _ I hq) (fun fl s' hs => ?_) fun e s' hs => hs
  have fin : ∀ {σ' : St} {H' : Hp} {v : V} {u : Value}, Inv (cxOf CX P w K mg base N qual scope f cdv A outer s H E) [] σ' H' s' → RelV v u → Q v H' → CE outer P w H s Q u s' :=
    fun {σ' H' v u} J rv q => ⟨v, H', J.os, J.bare, J.base, J.hok, rv, q⟩
  cases fl with
  | ret u =>
    obtain ⟨v, σ', H', J, rv, q⟩ := hs
    exact fin J rv q
  | next =>
    obtain ⟨σ', H', J, q⟩ := hs
    exact fin (v := V.non) (u := Value.none) J rfl q
  | brk =>
    obtain ⟨_, _, _, q⟩ := hs
    exact False.elim q
  | cont =>
    obtain ⟨_, _, _, q⟩ := hs
    exact False.elim q
end L2

namespace L2
open PySem PySem.Spec PyProof.Rows
section
variable {X : Cx} {x : Str} {p pos : Pos} {e : Expr} {es : List Expr} {t : TA} {id T : String} {r : List V → Hp → VK → Prop}

def tCB (r : List V → Hp → VK → Prop) (t : TA) : TE := fun σ H Q => t σ H fun vs H1 => r vs H1 Q
/-- f(e, ..), f a built-in function -/
theorem pe_callB (hc : CallR X (.builtin id) r) (hg : Gl X x) (hm : X.mg x = none) (hv : bootBuiltins x = some (.builtin id)) (ha : PA X (e :: es) t) (hn : x ≠ "__name__" := by decide) (hdb : (x == ("__debug__" : Str)) = false := by decide)
    (he : starEach (e :: es) X.env = (false, eval e X.env) :: starEach es X.env := by rfl) (hpl : (backTo pos (starEach es X.env)).any (·.1) = false := by rfl) : PE X (.Call (.Name x p) (e :: es) [] pos) (tCB r t) := by
  intro pins s σ H Q I h
  refine wpAny_Call_Name_kw (ld_blt I hg hm hv ?_ hn hdb)
  exact PyProof.Rows.callWith_builtin1 (thn (ha pos pins s σ H _ I h) fun us s1 ⟨vs, H1, I1, r1, q1⟩ => hc pins s1 σ H1 vs us Q I1 r1 q1) he hpl
/-- T(e, ..), T a built-in type -/
theorem pe_callTy (hc : CallR X (.type T) r) (hg : Gl X x) (hm : X.mg x = none) (hv : bootBuiltins x = some (.type T)) (ha : PA X (e :: es) t) (hn : x ≠ "__name__" := by decide) (hdb : (x == ("__debug__" : Str)) = false := by decide)
    (he : starEach (e :: es) X.env = (false, eval e X.env) :: starEach es X.env := by rfl) (hpl : (backTo pos (starEach es X.env)).any (·.1) = false := by rfl) : PE X (.Call (.Name x p) (e :: es) [] pos) (tCB r t) := by
  intro pins s σ H Q I h
  refine wpAny_Call_Name_kw (ld_blt I hg hm hv ?_ hn hdb)
  exact PyProof.Rows.callWith_type1 (thn (ha pos pins s σ H _ I h) fun us s1 ⟨vs, H1, I1, r1, q1⟩ => hc pins s1 σ H1 vs us Q I1 r1 q1) he hpl
end
end L2

namespace HT
open PySem PyProof.Rows

/-- t < u of tuples of ints -/
def lexLt : List Int → List Int → Bool
  | [], [] => false
  | [], _ :: _ => true
  | _ :: _, [] => false
  | x :: xs, y :: ys => if x = y then lexLt xs ys else decide (x < y)
theorem lexLt_cons (x y : Int) (xs ys : List Int) : lexLt (x :: xs) (y :: ys) = if x = y then lexLt xs ys else decide (x < y) := rfl
theorem lexLt_nil_nil : lexLt [] [] = false := rfl
theorem lexLt_nil_cons (y : Int) (ys : List Int) : lexLt [] (y :: ys) = true := rfl
theorem lexLt_cons_nil (x : Int) (xs : List Int) : lexLt (x :: xs) [] = false := rfl

theorem eqAt_int (A : Around) (s : Shared) (a : Int) (t : Tok) (c : Int) (u : Tok) : ∃ e, SeqAt.EqAt A s (.int a t) (.int c u) e ∧ (e = true ↔ a = c) :=
  ⟨(a == c), SeqAt.EqAt.int_int a t c u, by simp⟩
theorem rcLt_int (A : Around) (s : Shared) (a : Int) (t : Tok) (c : Int) (u : Tok) (prog : Program) (w : World) (E : Value → Shared → Prop) (Q : Value → Shared → Prop) (h : Q (.bool (decide (a < c))) s) :
    wpAny (model prog w) A (richCompare .Lt (.int a t) (.int c u)) Q E s :=
  (PyProof.Rows.lt_int h : wpAny (model prog w) A (compareOp .Lt (.int a t) (.int c u)) Q E s)

section
open PySem.SeqAt
open PySem.AutoSeq1 (wpAny_loadPart')
open PySem.MeetsSeq PySem.MeetsSeq2 PySem.MeetsSeq3

theorem tuple_lt_ints (l b : Addr) (items items2 : Array Value) (n n2 : Nat) (dd dd2 : Option Addr) (sl sl2 : Array (Option Value)) (ns ms : List Int) (hi : IntsAre items.toList ns) (hj : IntsAre items2.toList ms) :
    Meets (Builtin.«tuple.__lt__» ⟨[.ref l, .ref b], []⟩)
      (fun _ R s => s.heap.get? l = some { cls := .type "tuple", dict := dd, data := .seq items n, slots := sl } ∧ s.heap.get? b = some { cls := .type "tuple", dict := dd2, data := .seq items2 n2, slots := sl2 } ∧
        R (.ok (.ret (.bool (lexLt ns ms)))) s) :=
  .of_wp fun prog w A R s h => by
    obtain ⟨hp, g, d, tk, os⟩ := s; obtain ⟨hl, hb, h⟩ := h
    have f2 := AutoSeq1.sub_tuple_tuple
    have z1 : items.size = ns.length := by rw [← hi.length]; simp
    have z2 : items2.size = ms.length := by rw [← hj.length]; simp
    wp_walk using wpAny_loadPart' hl, wpAny_loadPart' hb, wpAny_forIn_list _ (fun rest b s' => b.1 = none ∧ s' = ⟨hp, g, d, tk, os⟩ ∧ ∃ (vs ws : List Value) (ns' ms' : List Int), rest = vs.zip ws ∧
      IntsAre vs ns' ∧ IntsAre ws ms' ∧ ns'.length + items2.size = ms'.length + items.size ∧ R (.ok (.ret (.bool (lexLt ns' ms')))) ⟨hp, g, d, tk, os⟩) _
    case turn =>
      rintro ⟨y, x⟩ rest b s' ⟨hb', rfl, vs, ws, ns', ms', hz, hvi, hwi, hlen, hR⟩
      cases hvi with
      | nil => rw [List.zip_nil_left] at hz; cases hz
      | cons a t hvi' =>
        cases hwi with
        | nil => rw [List.zip_nil_right] at hz; cases hz
        | cons c u hwi' =>
          rw [List.zip_cons_cons] at hz
          injection hz with hyx hrest
          injection hyx with hy hx
          subst hy hx
          rw [lexLt_cons] at hR
          simp only [List.length_cons] at hlen
          obtain ⟨e, he, hiff⟩ := eqAt_int A.in1 ⟨hp, g, d, tk, os⟩ a t c u
          refine wpAny_bind (he prog w _ _ ?_)
          cases e with
          | true =>
            rw [if_pos (hiff.mp rfl)] at hR
            wp_walk
            exact ⟨rfl, rfl, _, _, _, _, hrest, hvi', hwi', by omega, hR⟩
          | false =>
            rw [if_neg (fun q => absurd (hiff.mpr q) Bool.false_ne_true)] at hR
            have hri := rcLt_int A.in1 ⟨hp, g, d, tk, os⟩ a t c u prog w
            wp_walk using hri
            exact ⟨_, rfl, by simpa using hR⟩
    case fin =>
      rintro ⟨b1, b2⟩ s' ⟨hb', rfl, vs, ws, ns', ms', hz, hvi, hwi, hlen, hR⟩
      simp only at hb'
      subst hb'
      have hv : lexLt ns' ms' = decide (items.size < items2.size) := by
        cases hvi with
        | nil =>
          cases hwi with
          | nil =>
            simp only [List.length_nil] at hlen
            rw [lexLt_nil_nil]
            exact (decide_eq_false (by omega)).symm
          | cons c u hw =>
            simp only [List.length_nil, List.length_cons] at hlen
            rw [lexLt_nil_cons]
            exact (decide_eq_true (by omega)).symm
        | cons a t hv =>
          cases hwi with
          | nil =>
            simp only [List.length_nil, List.length_cons] at hlen
            rw [lexLt_cons_nil]
            exact (decide_eq_false (by omega)).symm
          | cons c u hw =>
            rw [List.zip_cons_cons] at hz
            cases hz
      rw [hv] at hR
      wp_walk
      exact ⟨_, rfl, by simpa [Builtin.Tuple.tupleCompareSizes] using hR⟩
    case h =>
      exact ⟨rfl, rfl, items.toList, items2.toList, ns, ms, rfl, hi, hj, by omega, h⟩
end

section
variable {prog : Program} {w : World} {A : Around} {E : Value → Shared → Prop} {s : Shared}

theorem lt_tupInts {l b : Addr} {items items2 : Array Value} {ns ms : List Int} {Q : Value → Shared → Prop} (hl : IsTup s.heap l items) (hb : IsTup s.heap b items2) (hi : IntsAre items.toList ns) (hj : IntsAre items2.toList ms)
    (hu : A.units < cLine) (h : Q (.bool (lexLt ns ms)) s) : wpAny (model prog w) A (compareOp .Lt (.ref l) (.ref b)) Q E s := by
  obtain ⟨⟨cls, dd, data, sl⟩, ho, hc, n, hd⟩ := id hl
  obtain ⟨⟨cls2, dd2, data2, sl2⟩, ho2, hc2, n2, hd2⟩ := id hb
  simp only at hc hd hc2 hd2
  subst hc hd hc2 hd2
  exact richCompare_meets_room (op := .Lt) ⟨_, ho, rfl⟩ ⟨_, ho2, rfl⟩ PySem.F.slot_tuple_lt PySem.F.entry_tuple_lt (PySem.F.args_tuple_lt_2 _ _) (tuple_lt_ints l b items items2 n n2 dd dd2 sl sl2 ns ms hi hj)
    ⟨ho, ho2, show Value.bool (lexLt ns ms) ≠ Value.notImplemented ∧ Q (.bool (lexLt ns ms)) s from ⟨(fun x => nomatch x), h⟩⟩ hu

/-- a slice's bound as a place among n (d where it is left out) -/
def sIx (n d : Nat) : Option Int → Nat
  | none => d
  | some v => if v < 0 then (v + (n : Int)).toNat else min v.toNat n
theorem sIx_nat (n d k : Nat) : sIx n d (some (k : Int)) = min k n := by
  show (if (k : Int) < 0 then ((k : Int) + (n : Int)).toNat else min (k : Int).toNat n) = min k n
  rw [if_neg (by omega), Int.toNat_natCast]
end
end HT

namespace L2
open PySem PySem.Spec PyProof.Rows

abbrev TO := St → Hp → (Option Int → Hp → Prop) → Prop
/-- a slice's part (left out, or an int) -/
def PO (X : Cx) (e : Option Expr) (t : TO) : Prop :=
  ∀ (pins : List (Addr × Obj)) (s : Shared) (σ : St) (H : Hp) (Q : Option Int → Hp → Prop), Inv X pins σ H s → t σ H Q →
    wpAny (model X.prog X.w) X.A (evalPart e X.env) (fun u s' => ∃ o H', Inv X pins σ H' s' ∧ IsPart u o ∧ Q o H') X.xe s
def tPart (t : TE) : TO := fun σ H Q => t σ H fun x H1 => ∃ i, x = .int i ∧ Q (some i) H1

theorem intsAre_of {ns : List Int} : ∀ {us : List Value}, Vals (ns.map V.int) us → IntsAre us ns := by
  induction ns with
  | nil => intro us r; rw [List.map_nil] at r; cases r; exact .nil
  | cons n ns ih =>
    intro us r
    rw [List.map_cons] at r
    cases r with
    | cons r1 r2 =>
      obtain ⟨t, e⟩ := r1
      subst e
      exact .cons n t (ih r2)

section
variable {X : Cx} {e : Expr} {te : TE} {lo hi : Option Expr} {tl th : TO} {pos p2 : Pos}

theorem po_some (h : PE X e te) : PO X (some e) (tPart te) := by
  intro pins s σ H Q I hw
  rw [evalPart_some]
  refine thn (h pins s σ H _ I hw) fun u s1 ⟨x, H1, I1, r1, q1⟩ => ?_
  obtain ⟨i, rfl, q⟩ := q1
  obtain ⟨t, rfl⟩ := r1
  exact ⟨some i, H1, I1, .int i t, q⟩

/-- what a slice of a value is, by values: the slice object stands at sl -/
def SlR (X : Cx) (r : V → Option Int → Option Int → Hp → VK → Prop) : Prop :=
  ∀ (pins : List (Addr × Obj)) (s : Shared) (σ : St) (H : Hp) (x : V) (v vl vu : Value) (lo hi : Option Int) (sl : Addr) (Q : VK), Inv X pins σ H s → RelV x v → s.heap.IsSliceOf sl vl vu .none → IsPart vl lo → IsPart vu hi → r x lo hi H Q →
    ∃ T id, typeLookup (.type T) "__getitem__" = pure (some (.builtin id)) ∧ s.TypeIs v T ∧ wpAny (model X.prog X.w) X.A (getItem v (.ref sl)) (EP X pins σ Q) X.xe s
def tSl (r : V → Option Int → Option Int → Hp → VK → Prop) (te : TE) (tl th : TO) : TE := fun σ H Q => te σ H fun x H1 => tl σ H1 fun l H2 => th σ H2 fun u H3 => r x l u H3 Q
/-- a[lo:hi], any a -/
theorem pe_slice {r : V → Option Int → Option Int → Hp → VK → Prop} (hr : SlR X r) (he : PE X e te) (hl : PO X lo tl) (hu : PO X hi th) : PE X (.Subscript e (.Slice lo hi none p2) pos) (tSl r te tl th) := by
  intro pins s σ H Q I h
  refine Subscript_ (thn (he pins s σ H _ I h) fun v s1 ⟨x, H1, I1, r1, q1⟩ => ?_)
  refine wpAny_Slice (thn (hl pins s1 σ H1 _ I1 q1) fun vl s2 ⟨l, H2, I2, pl, q2⟩ => thn (hu pins s2 σ H2 _ I2 q2) fun vu s3 ⟨u, H3, I3, pu, q3⟩ => ?_)
  rw [evalPart_none]
  refine wpAny_pure ?_
  have I4 : Inv X pins σ H3 { s3 with heap := s3.heap.push { cls := .type "slice", data := .fields #[vl, vu, .none] } } := I3.kept (t' := s3.toks) fun b ob q => Heap.get?_push_of_some _ q
  obtain ⟨T, id, hT, ht, hg⟩ := hr pins { s3 with heap := s3.heap.push { cls := .type "slice", data := .fields #[vl, vu, .none] } } σ H3 x v vl vu l u s3.heap.objs.size Q I4 r1 (Heap.IsSliceOf.new ..) pl pu q3
  show wpAny (model X.prog X.w) X.A (subscriptTail e (.Slice lo hi none p2) v (.ref s3.heap.objs.size)) (EP X pins σ Q) X.xe { s3 with heap := s3.heap.push { cls := .type "slice", data := .fields #[vl, vu, .none] } }
  exact tail_any (ops := [.ref s3.heap.objs.size, v]) ht hT hg (by with_unfolding_all rfl)

/-- the items of xs[lo:hi] -/
def cutV (xs : List V) (lo hi : Option Int) : List V := (xs.drop (HT.sIx xs.length 0 lo)).take (HT.sIx xs.length xs.length hi - HT.sIx xs.length 0 lo)
theorem cutV_length (xs : List V) (lo hi : Option Int) : (cutV xs lo hi).length ≤ xs.length := by
  unfold cutV
  rw [List.length_take, List.length_drop]
  omega
end
end L2

namespace L2
open PySem PySem.Spec PyProof.Rows

/-- the place that an index of any sign means -/
def ixN (n : Nat) (i : Int) : Option Nat := if 0 ≤ i then (if i < n then some i.toNat else none) else if -(n : Int) ≤ i then some (i + n).toNat else none
def atI {α : Type} (xs : List α) (i : Int) : Option α := (ixN xs.length i).bind fun j => xs[j]?
theorem ixN_seq {n : Nat} {i : Int} {j : Nat} (h : ixN n i = some j) : seqIndex? i n = some j ∧ j < n ∧ -(n : Int) ≤ i ∧ i < n := by
  unfold ixN at h
  by_cases h0 : 0 ≤ i
  · rw [if_pos h0] at h
    by_cases h1 : i < n
    · rw [if_pos h1] at h
      have e : i.toNat = j := Option.some.inj h
      exact ⟨by rw [seqIndex_of h0 h1, e], by omega, by omega, h1⟩
    · rw [if_neg h1] at h; cases h
  · rw [if_neg h0] at h
    by_cases h1 : -(n : Int) ≤ i
    · rw [if_pos h1] at h
      have e : (i + n).toNat = j := Option.some.inj h
      exact ⟨by rw [seqIndex_neg (by omega) h1, e], by omega, h1, by omega⟩
    · rw [if_neg h1] at h; cases h
theorem atI_get {α : Type} {xs : List α} {i : Int} {v : α} (h : atI xs i = some v) : ∃ j, seqIndex? i xs.length = some j ∧ xs[j]? = some v ∧ j < xs.length ∧ -(xs.length : Int) ≤ i ∧ i < xs.length := by
  unfold atI at h
  cases e : ixN xs.length i with
  | none => rw [e] at h; cases h
  | some j =>
    rw [e] at h
    obtain ⟨h1, h2, h3, h4⟩ := ixN_seq e
    exact ⟨j, h1, h, h2, h3, h4⟩
theorem atI_nat {α : Type} {xs : List α} {j : Nat} {v : α} (h : xs[j]? = some v) : atI xs (j : Int) = some v := by
  have hj : j < xs.length := (List.getElem?_eq_some_iff.mp h).1
  have e : ixN xs.length (j : Int) = some j := by
    unfold ixN
    rw [if_pos (by omega), if_pos (by omega)]; simp
  unfold atI; rw [e]; exact h
/-- what stands as an index of a plain subscript -/
def PlainIx (b : Expr) : Prop := ∀ o i, subscripted b false o i = operate [o, i] (getItem o i)
/-- a subscript by values -/
def IxR (X : Cx) (r : R2) : Prop :=
  ∀ (value slice : Expr) (pins : List (Addr × Obj)) (s : Shared) (σ : St) (H : Hp) (x y : V) (v u : Value) (Q : VK), Inv X pins σ H s → RelV x v → RelV y u → r x y H Q →
    subscripted slice false v u = operate [v, u] (getItem v u) → wpAny (model X.prog X.w) X.A (subscriptTail value slice v u) (EP X pins σ Q) X.xe s
/-- a call of a builtin's method by values: the receiver, the arguments -/
def MtR (X : Cx) (id : String) (r : V → List V → Hp → VK → Prop) : Prop :=
  ∀ (pins : List (Addr × Obj)) (s : Shared) (σ : St) (H : Hp) (x : V) (xs : List V) (v : Value) (us : List Value) (Q : VK), Inv X pins σ H s → RelV x v → Vals xs us → r x xs H Q →
    wpAny (model X.prog X.w) X.A (call (.builtin id) (v :: us)) (EP X pins σ Q) X.xe s
section
variable {X : Cx} {a b : Expr} {ta tb : TE} {pos : Pos}
/-- a[b] -/
theorem pe_ix {r : R2} (hr : IxR X r) (ha : PE X a ta) (hb : PE X b tb) (hs : PlainIx b) : PE X (.Subscript a b pos) (tOp r ta tb) := by
  intro pins s σ H Q I h
  exact Subscript_ (binT ha hb I h fun v u s2 x y H2 I2 rx ry q => hr a b pins s2 σ H2 x y v u Q I2 rx ry q (hs _ _))

def rIxL (K : PySem.W.Frag) : R2 := fun x y H Q => ∃ p xs i v, x = .ref p ∧ y = .int i ∧ SqL K H p xs ∧ atI xs i = some v ∧ Q v H
def rIxT (K : PySem.W.Frag) : R2 := fun x y H Q => ∃ p xs i v, x = .ref p ∧ y = .int i ∧ SqT K H p xs ∧ atI xs i = some v ∧ Q v H
theorem ix_list : IxR X (rIxL X.K) := by
  intro value slice pins s σ H x y v u Q I rx ry h hs
  obtain ⟨p, xs, i, z, rfl, rfl, hq, he, q⟩ := h
  cases rx
  obtain ⟨t, rfl⟩ := ry
  obtain ⟨its, r, pl, hz⟩ := I.list hq
  obtain ⟨j, h1, h2, h3, h4, h5⟩ := atI_get he
  obtain ⟨w, ew, rw'⟩ := r.get h2
  have hl := r.length
  have hn := line63
  have fin : EP X pins σ Q w s := ⟨z, H, I, rw', q⟩
  by_cases h0 : 0 ≤ i
  · have hj : i.toNat = j := by
      rw [seqIndex_of h0 h5] at h1
      exact Option.some.inj h1
    exact item_listR pl.isList h0 (by omega) (by rw [hj]; simpa using ew) fin hs
  · have hj : (i + (its.toArray.size : Int)).toNat = j := by
      rw [seqIndex_neg (by omega) h4] at h1
      rw [List.size_toArray, ← hl]
      exact Option.some.inj h1
    exact subscriptTail_builtinR (x := w) pl.isList.typeIs slot_list_getitem.lookup
      (wpAny_getItem_list_neg (Q := fun r s' => r = w ∧ EP X pins σ Q r s') pl.isList (by omega) (by rw [List.size_toArray] <;> omega) (by omega) (by rw [hj]; simpa using ew) ⟨rfl, fin⟩) hs
theorem ix_tup : IxR X (rIxT X.K) := by
  intro value slice pins s σ H x y v u Q I rx ry h hs
  obtain ⟨p, xs, i, z, rfl, rfl, hq, he, q⟩ := h
  cases rx
  obtain ⟨t, rfl⟩ := ry
  obtain ⟨its, r, pl, hz⟩ := I.tuple hq
  obtain ⟨j, h1, h2, h3, h4, h5⟩ := atI_get he
  obtain ⟨w, ew, rw'⟩ := r.get h2
  have hl := r.length
  have hn := line63
  have fin : EP X pins σ Q w s := ⟨z, H, I, rw', q⟩
  exact subscriptTail_builtinR (x := w) pl.typeIs slot_tuple_getitem.lookup
    (getItem_tuple (j := j) (Q := fun r s' => r = w ∧ EP X pins σ Q r s') pl (by omega) (by omega) (by rw [List.size_toArray, ← hl]; exact h1) (by simpa using ew) ⟨rfl, fin⟩) hs
theorem slice_bounds (lo hi : Option Int) (n : Nat) : (sliceBounds lo hi none n).1 = ((HT.sIx n 0 lo : Nat) : Int) ∧ (sliceBounds lo hi none n).2.1 = ((HT.sIx n n hi : Nat) : Int) ∧ (sliceBounds lo hi none n).2.2 = 1 := by
  refine ⟨?_, ?_, rfl⟩
  · cases lo with
    | none => simp [sliceBounds, HT.sIx]
    | some i =>
      simp only [sliceBounds, HT.sIx, Option.getD_none, show (1 : Int) > 0 by decide, if_true]
      by_cases h : i < 0
      · simp only [h, if_true] <;> omega
      · simp only [h, if_false] <;> omega
  · cases hi with
    | none => simp [sliceBounds, HT.sIx]
    | some i =>
      simp only [sliceBounds, HT.sIx, Option.getD_none, show (1 : Int) > 0 by decide, if_true]
      by_cases h : i < 0
      · simp only [h, if_true] <;> omega
      · simp only [h, if_false] <;> omega
theorem slicePick_cut (its : List Value) (lo hi : Option Int) : slicePick its.toArray lo hi none = ((its.drop (HT.sIx its.length 0 lo)).take (HT.sIx its.length its.length hi - HT.sIx its.length 0 lo)).toArray := by
  obtain ⟨h1, h2, h3⟩ := slice_bounds lo hi its.toArray.size
  unfold slicePick
  rw [h1, h2, h3]
  simp only [sliceRange_one, pick_run, List.size_toArray] <;> rfl
/-- xs[lo:hi] of a list: a new list -/
def rSlL (K : PySem.W.Frag) : V → Option Int → Option Int → Hp → VK → Prop := fun x lo hi H Q => ∃ a xs, x = .ref a ∧ SqL K H a xs ∧ ∀ p, H p = none → Q (.ref p) (upd H p (.lst (cutV xs lo hi)))
theorem sl_list : SlR X (rSlL X.K) := by
  intro pins s σ H x v vl vu lo hi sl Q I rx hs pl pu h
  obtain ⟨a, xs, rfl, hx, q⟩ := h
  cases rx
  obtain ⟨its, r, ht, hz⟩ := I.list hx
  have hlen := r.length
  refine ⟨"list", _, slot_list_getitem.lookup, ht.isList.typeIs, ?_⟩
  refine wpAny_getItem_list_slice ht.isList hs pl pu .none (by simp) ?_ (by rw [List.size_toArray] <;> omega)
  rw [slicePick_cut, ← hlen]
  refine ⟨.ref s.heap.objs.size, _, I.laid (t' := s.toks) (o := .lst (cutV xs lo hi)) (fun b ob q => Heap.get?_push_of_some _ q) (Nat.le_refl _) ?_, rfl, q _ (I.hok.fresh (Nat.le_refl _))⟩
  exact ⟨Nat.le_trans (cutV_length xs lo hi) hz, _, 0, (r.drop (HT.sIx xs.length 0 lo)).take (HT.sIx xs.length xs.length hi - HT.sIx xs.length 0 lo), Heap.get?_push_size _ rfl⟩

def flatV : V → Bool
  | .non => true
  | .bl _ => true
  | .int _ => true
  | .str _ => true
  | _ => false
/-- == of flat values -/
def eqV : V → V → Bool
  | .non, .non => true
  | .bl a, .bl b => a == b
  | .bl a, .int b => (if a then 1 else 0) == b
  | .int a, .bl b => a == (if b then 1 else 0)
  | .int a, .int b => a == b
  | .str a, .str b => a == b
  | _, _ => false
theorem eqAt_V {A : Around} {s : Shared} {y x : V} {u v : Value} (ry : RelV y u) (rx : RelV x v) (fy : flatV y = true) (fx : flatV x = true) : SeqAt.EqAt A s u v (eqV y x) := by
  cases y with
  | non =>
    cases ry
    cases x with
    | non => cases rx; exact SeqAt.EqAt.same _
    | bl b => cases rx; exact SeqAt.EqAt.none_bool b
    | int b => obtain ⟨t, rfl⟩ := rx; exact SeqAt.EqAt.none_int b t
    | str b => obtain ⟨t, rfl⟩ := rx; exact SeqAt.EqAt.none_str b t
    | _ => exact absurd (show false = true from fx) Bool.false_ne_true
  | bl a =>
    cases ry
    cases x with
    | non => cases rx; exact SeqAt.EqAt.bool_none a
    | bl b => cases rx; exact SeqAt.EqAt.bool_bool a b
    | int b => obtain ⟨t, rfl⟩ := rx; exact SeqAt.EqAt.bool_int a b t
    | str b => obtain ⟨t, rfl⟩ := rx; exact SeqAt.EqAt.bool_str a b t
    | _ => exact absurd (show false = true from fx) Bool.false_ne_true
  | int a =>
    obtain ⟨t', rfl⟩ := ry
    cases x with
    | non => cases rx; exact SeqAt.EqAt.int_none a t'
    | bl b => cases rx; exact SeqAt.EqAt.int_bool a t' b
    | int b => obtain ⟨t, rfl⟩ := rx; exact SeqAt.EqAt.int_int a t' b t
    | str b => obtain ⟨t, rfl⟩ := rx; exact SeqAt.EqAt.int_str a t' b t
    | _ => exact absurd (show false = true from fx) Bool.false_ne_true
  | str a =>
    obtain ⟨t', rfl⟩ := ry
    cases x with
    | non => cases rx; exact SeqAt.EqAt.str_none a t'
    | bl b => cases rx; exact SeqAt.EqAt.str_bool a t' b
    | int b => obtain ⟨t, rfl⟩ := rx; exact SeqAt.EqAt.str_int a t' b t
    | str b => obtain ⟨t, rfl⟩ := rx; exact SeqAt.EqAt.str_str a t' b t
    | _ => exact absurd (show false = true from fx) Bool.false_ne_true
  | _ => exact absurd (show false = true from fy) Bool.false_ne_true
/-- the items' answers, read off the values (a value's own answer does not lean on its token) -/
def eqU (x : V) (u : Value) : Bool := match u with
  | .none => eqV .non x
  | .bool b => eqV (.bl b) x
  | .int i _ => eqV (.int i) x
  | .str z _ => eqV (.str z) x
  | _ => false
theorem eqU_of {x y : V} {u : Value} (r : RelV y u) (f : flatV y = true) : eqU x u = eqV y x := by
  cases y with
  | non => cases r; rfl
  | bl b => cases r; rfl
  | int i => obtain ⟨t, rfl⟩ := r; rfl
  | str z => obtain ⟨t, rfl⟩ := r; rfl
  | _ => exact absurd (show false = true from f) Bool.false_ne_true
theorem any_eqU {x : V} : ∀ {xs : List V} {us : List Value}, Vals xs us → xs.all flatV = true → us.any (eqU x) = xs.any fun y => eqV y x
  | _, _, .nil, _ => rfl
  | y :: xs, u :: us, .cons r t, f => by
    rw [List.all_cons, Bool.and_eq_true] at f
    rw [List.any_cons, List.any_cons, eqU_of r f.1, any_eqU t f.2]
theorem mem_eqAt {A : Around} {s : Shared} {x : V} {v : Value} (rx : RelV x v) (fx : flatV x = true) : ∀ {xs : List V} {us : List Value}, Vals xs us → xs.all flatV = true → ∀ u ∈ us, SeqAt.EqAt A s u v (eqU x u)
  | _, _, .nil, _ => fun u hu => by cases hu
  | y :: xs, u :: us, .cons r t, f => fun u' hu => by
    rw [List.all_cons, Bool.and_eq_true] at f
    rcases List.mem_cons.mp hu with rfl | hu
    · rw [eqU_of r f.1]; exact eqAt_V r rx f.1 fx
    · exact mem_eqAt rx fx t f.2 u' hu
def inV (x : V) (xs : List V) : Bool := xs.any fun y => eqV y x
/-- x in a list or tuple of flat items -/
def rIn (K : PySem.W.Frag) (neg : Bool) : R2 := fun x y H Q => ∃ p xs, y = .ref p ∧ (SqL K H p xs ∨ SqT K H p xs) ∧ flatV x = true ∧ xs.all flatV = true ∧ Q (.bl (if neg then !inV x xs else inV x xs)) H
theorem op_notIn_seq : OpR X (compareOp .NotIn) (rIn X.K true) := by
  intro pins s σ H x y v u Q I rx ry h
  obtain ⟨p, xs, rfl, hq, fx, fs, q⟩ := h
  cases ry
  rcases hq with hq | hq
  · obtain ⟨its, r, pl, hz⟩ := I.list hq
    refine SeqAt.notIn_listAt (eqU x) pl.isList (fun w hw => mem_eqAt rx fx r fs w (by simpa using hw)) ⟨.bl _, H, I, rfl, ?_⟩
    rw [show its.toArray.any (eqU x) = its.any (eqU x) by simp, any_eqU r fs]
    exact q
  · obtain ⟨its, r, pl, hz⟩ := I.tuple hq
    refine SeqAt.notIn_tupleAt (eqU x) pl (fun w hw => mem_eqAt rx fx r fs w (by simpa using hw)) ⟨.bl _, H, I, rfl, ?_⟩
    rw [show its.toArray.any (eqU x) = its.any (eqU x) by simp, any_eqU r fs]
    exact q
theorem call_len_seq : CallR X (.builtin "len") (fun xs H Q => ∃ p ys, xs = [.ref p] ∧ (SqL X.K H p ys ∨ SqT X.K H p ys) ∧ Q (.int ys.length) H) := by
  intro pins s σ H xs us Q I r h
  obtain ⟨p, ys, rfl, hq, q⟩ := h
  obtain ⟨u, rfl, rx⟩ := vals1 r
  cases rx
  have hn := line63
  rcases hq with hq | hq
  · obtain ⟨its, r', pl, hz⟩ := I.list hq
    have hlen := r'.length
    exact Calls.call_len_list pl.isList (by simp only [List.size_toArray] <;> omega) ⟨.int ys.length, H, I.tok _, ⟨s.toks + 1, by rw [List.size_toArray, hlen]⟩, q⟩
  · obtain ⟨its, r', pl, hz⟩ := I.tuple hq
    have hlen := r'.length
    exact len_tuple pl (by simp only [List.size_toArray] <;> omega) ⟨.int ys.length, H, I.tok _, ⟨s.toks + 1, by rw [List.size_toArray, hlen]⟩, q⟩
theorem call_list_of : CallR X (.type "list") (fun xs H Q => ∃ p ys, xs = [.ref p] ∧ (SqL X.K H p ys ∨ SqT X.K H p ys) ∧ ∀ l, H l = none → Q (.ref l) (upd H l (.lst ys))) := by
  intro pins s σ H xs us Q I r h
  obtain ⟨p, ys, rfl, hq, q⟩ := h
  obtain ⟨u, rfl, rx⟩ := vals1 r
  cases rx
  have fin : ∀ (its : List Value), Vals ys its → ys.length ≤ sizeLine → ∀ (h' : Heap) (c' : Nat), (∀ b o', s.heap.get? b = some o' → h'.get? b = some o') →
      h'.get? s.heap.objs.size = some { cls := .type "list", dict := none, data := .seq its.toArray c', slots := #[] } → EP X pins σ Q (.ref s.heap.objs.size) { s with heap := h' } := fun its r' hz h' c' kp e =>
    ⟨.ref s.heap.objs.size, _, I.laid (t' := s.toks) kp (Nat.le_refl _) (show ObjOk X.prog X.w _ h' _ (.lst ys) from ⟨hz, its, c', r', e⟩), rfl, q _ (I.hok.fresh (Nat.le_refl _))⟩
  rcases hq with hq | hq
  · obtain ⟨its, r', pl, hz⟩ := I.list hq
    have hlen := r'.length
    obtain ⟨o, ho, hc, n, hd⟩ := pl.isList
    exact call_list_seq p (.inl rfl) ho hc hd (fun h' c' kp e => fin its r' hz h' c' kp e) (by simp only [List.size_toArray] <;> omega)
  · obtain ⟨its, r', pl, hz⟩ := I.tuple hq
    have hlen := r'.length
    obtain ⟨o, ho, hc, n, hd⟩ := pl
    exact call_list_seq p (.inr rfl) ho hc hd (fun h' c' kp e => fin its r' hz h' c' kp e) (by simp only [List.size_toArray] <;> omega)
/-- the value is of that builtin type -/
def tyV (K : PySem.W.Frag) (T : String) (x : V) (H : Hp) : Prop := match x with
  | .str _ => T = "str"
  | .int _ => T = "int"
  | .ref p => (T = "list" ∧ ∃ xs, SqL K H p xs) ∨ (T = "tuple" ∧ ∃ o, K.lookup p = some o ∧ o.cls = .type "tuple" ∧ o.dict = none) ∨
      (T = "dict" ∧ ((∃ kvs, H p = some (.dK kvs)) ∨ ∃ kvs, H p = some (.dT kvs))) ∨ (T = "set" ∧ ∃ S n, H p = some (.set S n))
  | _ => False
theorem tyV_is {pins : List (Addr × Obj)} {σ : St} {H : Hp} {s : Shared} {T : String} {x : V} {v : Value} (I : Inv X pins σ H s) (r : RelV x v) (ty : tyV X.K T x H) :
    s.TypeIs v T ∧ ∀ a, v = .ref a → ∃ ob, s.heap.get? a = some ob ∧ ob.dict = none := by
  cases x with
  | str z =>
    obtain ⟨t, rfl⟩ := r
    cases (show T = "str" from ty)
    exact ⟨typeIs_str s z t, fun _ e => nomatch e⟩
  | int i =>
    obtain ⟨t, rfl⟩ := r
    cases (show T = "int" from ty)
    exact ⟨typeIs_int s i t, fun _ e => nomatch e⟩
  | ref p =>
    cases r
    rcases ty with ⟨rfl, xs, hq⟩ | ⟨rfl, o, hk, hc, hd⟩ | ⟨rfl, hk⟩ | ⟨rfl, S, n, hk⟩
    · obtain ⟨its, _, pl, _⟩ := I.list hq
      refine ⟨pl.isList.typeIs, fun a e => ?_⟩
      cases e
      obtain ⟨o, n, e, c, hd, _⟩ := pl
      exact ⟨o, e, hd⟩
    · refine ⟨⟨o, I.kIn p o hk, hc⟩, fun a e => ?_⟩
      cases e
      exact ⟨o, I.kIn _ o hk, hd⟩
    · have z : ∃ o, s.heap.get? p = some o ∧ o.ExactDict := by
        rcases hk with ⟨kvs, hk⟩ | ⟨kvs, hk⟩
        · obtain ⟨_, _, _, _, o, _, _, e, ex, _⟩ := I.hok p _ hk
          exact ⟨o, e, ex⟩
        · obtain ⟨_, _, _, _, o, _, _, e, ex, _⟩ := I.hok p _ hk
          exact ⟨o, e, ex⟩
      obtain ⟨o, e, ex⟩ := z
      refine ⟨⟨o, e, ex.1⟩, fun a e2 => ?_⟩
      cases e2
      exact ⟨o, e, ex.2.1⟩
    · obtain ⟨o, _, _, _, e, ex, _⟩ := I.hok p _ hk
      refine ⟨⟨o, e, ex.1⟩, fun a e2 => ?_⟩
      cases e2
      exact ⟨o, e, ex.2.1⟩
  | _ => exact False.elim ty
def tBM (K : PySem.W.Frag) (T : String) (r : V → List V → Hp → VK → Prop) (to : TE) (t : TA) : TE := fun σ H Q => to σ H fun x H1 => tyV K T x H1 ∧ t σ H1 fun xs H2 => r x xs H2 Q
variable {o e : Expr} {es : List Expr} {to : TE} {t : TA} {name : Str} {apos cpos : Pos} {T id : String} {r : V → List V → Hp → VK → Prop}
theorem pe_bm (pa : PlainAttrs T) (slot : Slot T name id) (hty : typeOf (.builtin id) = pure (.type "method_descriptor")) (hm : MtR X id r) (ho : PE X o to) (ha : PA X (e :: es) t)
    (hbase : attributeBase o name X.env (eval o X.env) = eval o X.env := by rfl)
    (hfew : ((backTo cpos (starEach (e :: es) X.env)).all (fun x => !x.1) && (backToKw cpos (keywordEach [] X.env)).all (fun x => x.1.isSome)
      && decide ((e :: es).length + ([] : List Keyword).length + (if ([] : List Keyword).isEmpty then 0 else 1) < 30)) = true := by rfl)
    (hline : (apos.endLine == cpos.line) = true := by rfl) (hs : starEach (e :: es) X.env = (false, eval e X.env) :: starEach es X.env := by rfl) (hplain : (backTo cpos (starEach es X.env)).any (·.1) = false := by rfl) :
    PE X (.Call (.Attribute o name apos) (e :: es) [] cpos) (tBM X.K T r to t) := by
  intro pins s σ H Q I h
  refine wpAny_Call_method_late hbase hfew hline rfl (thn (ho pins s σ H _ I h) fun v s1 ⟨x, H1, I1, r1, ty, q1⟩ => ?_)
  obtain ⟨h1, h2⟩ := tyV_is I1 r1 ty
  refine ⟨T, id, pa, slot, hty, h1, h2, ?_⟩
  have hA := ha cpos pins s1 σ H1 _ I1 q1
  rw [hs] at hA ⊢
  refine Calls.callWith_builtin (by show (false || (backTo cpos (starEach es X.env)).any (·.1)) = false; rw [hplain] <;> rfl) (Calls.evalArgs_plain ?_)
  exact thn hA fun us s2 ⟨vs, H2, I2, r2, q2⟩ => hm pins s2 σ H2 x vs v us Q I2 r1 r2 q2
/- xs.append(e), list.index on a module's tuple .. are MtR facts of 06m -/
end
end L2

namespace L2
open PySem PySem.Spec PyProof.Rows

def MtM (X : Cx) (id : String) (r : V → List V → Hp → VK → Prop) : Prop :=
  ∀ (pins : List (Addr × Obj)) (s : Shared) (σ : St) (H : Hp) (x : V) (xs : List V) (v : Value) (us : List Value) (Q : VK), Inv X pins σ H s → RelV x v → Vals xs us → r x xs H Q →
    wpAny (model X.prog X.w) X.A (call (.builtin id) (v :: us)) (EP X pins σ Q) X.xe s

theorem Vals.one : ∀ {x : V} {us : List Value}, Vals [x] us → ∃ u, us = [u] ∧ RelV x u
  | _, _, .cons r .nil => ⟨_, rfl, r⟩
section
variable {X : Cx} {pins : List (Addr × Obj)} {σ : St} {H : Hp} {s : Shared} {l b : Addr} {xs ys zs : List V}

theorem Inv.lset {its its' : List Value} {n : Nat} {f : Array Value → Array Value} {t' : Nat} (I : Inv X pins σ H s) (hH : H l = some (.lst xs))
    (e : s.heap.get? l = some { cls := .type "list", data := .seq its.toArray n }) (hf : f its.toArray = its'.toArray) (hv : Vals ys its') (hz : ys.length ≤ sizeLine) :
    Inv X pins σ (upd H l (.lst ys)) { s with heap := s.heap.update l (Obj.mapSeq f), toks := t' } := by
  have q := PySem.IsL.update e f
  rw [hf] at q
  refine I.write (x := l) (e := l) (by rw [hH]; exact trivial) (.inl rfl) (fun b' u hb hu => (Heap.get?_update_other s.heap (Obj.mapSeq f) (Ne.symm hb)).trans hu) ⟨_, q⟩ ?_
  exact ⟨hz, its', _, hv, q⟩
theorem Inv.lnew {its : List Value} {t' : Nat} (I : Inv X pins σ H s) (hv : Vals ys its) (hz : ys.length ≤ sizeLine) :
    Inv X pins σ (upd H s.heap.objs.size (.lst ys)) { s with heap := s.heap.push { cls := .type "list", data := .seq its.toArray }, toks := t' } :=
  I.laid (fun _ _ q => Heap.get?_push_of_some _ q) (Nat.le_refl _) ⟨hz, its, 0, hv, Heap.get?_push_size _ rfl⟩
theorem Inv.fresh (I : Inv X pins σ H s) : H s.heap.objs.size = none := I.hok.fresh (Nat.le_refl _)
theorem Inv.lstM (I : Inv X pins σ H s) (hH : H l = some (.lst xs)) : xs.length ≤ sizeLine ∧ ∃ (its : List Value) (n : Nat), Vals xs its ∧ xs.length = its.length ∧ s.heap.get? l = some { cls := .type "list", data := .seq its.toArray n } := by
  obtain ⟨z, its, n, r, e⟩ := I.hok l _ hH
  exact ⟨z, its, n, r, r.length, e⟩

theorem notLongL {n : Nat} (h : n ≤ sizeLine) : Builtin.List.listTooLong n = false := by
  unfold Builtin.List.listTooLong
  exact decide_eq_false (by omega)
end

section
variable {X : Cx}

def rAppend : V → List V → Hp → VK → Prop := fun x vs H Q => ∃ l xs y, x = .ref l ∧ vs = [y] ∧ H l = some (.lst xs) ∧ xs.length < sizeLine ∧ Q .non (upd H l (.lst (xs ++ [y])))
theorem mt_append : MtM X "list.append" rAppend := by
  intro pins s σ H x vs v us Q I rx rv h
  obtain ⟨l, xs, y, rfl, rfl, hH, hz, q⟩ := h
  cases rx
  obtain ⟨u, rfl, ru⟩ := rv.one
  obtain ⟨z, its, n, r, hl, e⟩ := I.lstM hH
  refine call_meets F.slot_list_append ⟨_, e, rfl⟩ F.entry_list_append (F.args_list_append_2 _ _) (PySem.list_append l its.toArray n u (by rw [List.size_toArray]; omega)) ⟨e, ?_⟩
  refine ⟨.non, _, I.lset (its' := its ++ [u]) hH e (by simp) (r.append (.cons ru .nil)) ?_, rfl, q⟩
  rw [List.length_append, List.length_singleton]
  omega

def rExtend : V → List V → Hp → VK → Prop := fun x vs H Q => ∃ l b xs zs, x = .ref l ∧ vs = [.ref b] ∧ H l = some (.lst xs) ∧ H b = some (.lst zs) ∧ xs.length + zs.length ≤ sizeLine ∧ Q .non (upd H l (.lst (xs ++ zs)))
theorem mt_extend : MtM X "list.extend" rExtend := by
  intro pins s σ H x vs v us Q I rx rv h
  obtain ⟨l, b, xs, zs, rfl, rfl, hH, hB, hz, q⟩ := h
  cases rx
  obtain ⟨u, rfl, ru⟩ := rv.one
  cases ru
  obtain ⟨z, its, n, r, hl, e⟩ := I.lstM hH
  obtain ⟨z2, its2, n2, r2, hl2, e2⟩ := I.lstM hB
  have hsz : its.toArray.size + its2.toArray.size ≤ sizeLine := by rw [List.size_toArray, List.size_toArray]; omega
  have hlong : ¬ (!its.toArray.isEmpty && Builtin.List.listTooLong (its.toArray.size + its2.toArray.size)) = true := by
    rw [notLongL hsz, Bool.and_false]
    exact Bool.false_ne_true
  refine call_meets F.slot_list_extend ⟨_, e, rfl⟩ F.entry_list_extend (F.args_list_extend_2 _ _)
    (AutoSeq1.list_extend_list_list_0 l its.toArray n b its2.toArray n2 hlong (by rw [List.size_toArray]; omega) (by omega)) ⟨e, e2, ?_⟩
  refine ⟨.non, _, I.lset (its' := its ++ its2) hH e (by simp) (r.append r2) ?_, rfl, q⟩
  rw [List.length_append]
  omega

def rCat : R2 := fun x y H Q => ∃ l b xs zs, x = .ref l ∧ y = .ref b ∧ H l = some (.lst xs) ∧ H b = some (.lst zs) ∧ xs.length + zs.length ≤ sizeLine ∧ ∀ p, H p = none → Q (.ref p) (upd H p (.lst (xs ++ zs)))
theorem op_cat : OpR X (binaryOp .Add) rCat := by
  intro pins s σ H x y v u Q I rx ry h
  obtain ⟨l, b, xs, zs, rfl, rfl, hH, hB, hz, q⟩ := h
  cases rx
  cases ry
  obtain ⟨z, its, n, r, hl, e⟩ := I.lstM hH
  obtain ⟨z2, its2, n2, r2, hl2, e2⟩ := I.lstM hB
  refine PySem.P.add_list e e2 ?_ (by rw [List.size_toArray, List.size_toArray]; omega)
  have ea : its.toArray ++ its2.toArray = (its ++ its2).toArray := by simp
  rw [ea]
  exact ⟨.ref _, _, I.lnew (t' := s.toks) (r.append r2) (by rw [List.length_append]; omega), rfl, q _ I.fresh⟩
end

section
variable {prog : Program} {w : World} {A : Around} {E : Value → Shared → Prop} {s : Shared}
end

section
variable {X : Cx}
end
end L2

namespace L2
open PySem PySem.Spec PyProof.Rows

theorem Vals.ints : ∀ {ns : List Int} {us : List Value}, Vals (ns.map V.int) us → IntsAre us ns
  | [], us, h => by
    rw [List.map_nil] at h
    cases h
    exact IntsAre.nil
  | n :: ns, us, h => by
    rw [List.map_cons] at h
    cases h with
    | cons r t =>
      obtain ⟨k, rfl⟩ := r
      exact IntsAre.cons n k (Vals.ints t)
theorem Vals.ref1 {a : Addr} {us : List Value} (r : Vals [V.ref a] us) : us = [Value.ref a] := by
  cases r with
  | cons r t =>
    cases t
    cases r
    rfl
section
variable {prog : Program} {w : World} {A : Around} {E : Value → Shared → Prop} {s : Shared} {l : Addr} {its : List Value} {ns : List Int} {Q : Value → Shared → Prop}
theorem sum_raw (hh : A.handled = none) (hl : s.heap.IsList l its.toArray) (hi : IntsAre its ns)
    (h : ∀ h' tk t', (∀ b o, s.heap.get? b = some o → h'.get? b = some o) → Q (.int ns.sum t') { s with heap := h', toks := tk }) : wpAny (model prog w) A (call (.builtin "sum") [.ref l]) Q E s := by
  obtain ⟨xs, e⟩ := hi.allInts.items
  have hn : numsOf (intItems xs).toList = ns := by rw [← e]; exact hi.numsOf
  rw [nums_intItems] at hn
  rw [e] at hl
  refine PySem.sum_intListG hh hl fun h' tk t' hk => ?_
  have := h h' tk t' hk
  rw [preSum_eq, List.take_of_length_le (by simp), hn]; exact this
end

section
variable {X : Cx}
/-- sum(xs) of a list of ints -/
def rSum (K : PySem.W.Frag) : List V → Hp → VK → Prop := fun vs H Q => ∃ (a : Addr) (ns : List Int), vs = [V.ref a] ∧ SqL K H a (ns.map V.int) ∧ Q (.int ns.sum) H
theorem cr_sum (hc : X.calm = true) : CallR X (.builtin "sum") (rSum X.K) := by
  intro pins s σ H vs us Q I r h
  obtain ⟨a, ns, rfl, hs, q⟩ := h
  obtain ⟨its, rv, hl, _⟩ := I.list hs
  rw [Vals.ref1 r]
  exact sum_raw (I.ok.hd hc) hl.isList rv.ints fun h' tk t' hk => ⟨.int _, H, I.kept hk, ⟨_, rfl⟩, q⟩
end

section
variable {X : Cx}
end

section
variable {X : Cx}
end

section
variable {X : Cx}
end

mutual
inductive Dp (K : PySem.W.Frag) (H : Hp) : V → PyData → Prop
  | non : Dp K H .non .none
  | bl (b : Bool) : Dp K H (.bl b) (.bool b)
  | int (i : Int) : Dp K H (.int i) (.int i)
  | str (x : Str) : Dp K H (.str x) (.str x)
  | lst {a : Addr} {xs : List V} {ds : List PyData} : SqL K H a xs → DpAll K H xs ds → Dp K H (.ref a) (.list ds)
  | tup {a : Addr} {xs : List V} {ds : List PyData} : SqT K H a xs → DpAll K H xs ds → Dp K H (.ref a) (.tuple ds)
inductive DpAll (K : PySem.W.Frag) (H : Hp) : List V → List PyData → Prop
  | nil : DpAll K H [] []
  | cons {v : V} {vs : List V} {d : PyData} {ds : List PyData} : Dp K H v d → DpAll K H vs ds → DpAll K H (v :: vs) (d :: ds)
end
section
variable {X : Cx} {pins : List (Addr × Obj)} {σ : St} {H : Hp} {s : Shared}
mutual
theorem Dp.reads (I : Inv X pins σ H s) : ∀ (d : PyData) (v : V) (u : Value), Dp X.K H v d → RelV v u → ∃ as, Reads s.heap u d as
  | .none, _, _, h, r => by
    cases h
    cases r
    exact ⟨_, Reads.none⟩
  | .bool b, _, _, h, r => by
    cases h
    cases r
    exact ⟨_, Reads.bool b⟩
  | .int i, _, _, h, r => by
    cases h
    obtain ⟨t, rfl⟩ := r
    exact ⟨_, Reads.int i t⟩
  | .str x, _, _, h, r => by
    cases h
    obtain ⟨t, rfl⟩ := r
    exact ⟨_, Reads.str x t⟩
  | .list ds, _, _, h, r => by
    cases h with
    | lst hs ha =>
      cases r
      obtain ⟨its, rv, ⟨o, n, ho, hc, _, hd⟩, _⟩ := I.list hs
      obtain ⟨as, hr⟩ := Dp.readsAll I ds _ its ha rv
      exact ⟨_, Reads.list ho hc hd hr⟩
  | .tuple ds, _, _, h, r => by
    cases h with
    | tup hs ha =>
      cases r
      obtain ⟨its, rv, ⟨o, ho, hc, n, hd⟩, _⟩ := I.tuple hs
      obtain ⟨as, hr⟩ := Dp.readsAll I ds _ its ha rv
      exact ⟨_, Reads.tuple ho hc hd hr⟩
  | .dict _, _, _, h, _ => by cases h
theorem Dp.readsAll (I : Inv X pins σ H s) : ∀ (ds : List PyData) (vs : List V) (us : List Value), DpAll X.K H vs ds → Vals vs us → ∃ as, ReadsAll s.heap us ds as
  | [], _, _, h, r => by
    cases h
    cases r
    exact ⟨_, ReadsAll.nil⟩
  | d :: ds, _, _, h, r => by
    cases h with
    | cons h1 h2 =>
      cases r with
      | cons r1 r2 =>
        obtain ⟨as, q1⟩ := Dp.reads I d _ _ h1 r1
        obtain ⟨bs, q2⟩ := Dp.readsAll I ds _ _ h2 r2
        exact ⟨_, ReadsAll.cons q1 q2⟩
end
end
section
variable {X : Cx}
end
end L2

namespace L2
open PySem PySem.Spec PyProof.Rows
abbrev CellAt (h : Heap) (c : Addr) (v : Option Value) : Prop := h.IsCell c v
def relS (scope sc : Scope) : Scope :=
  { scope with names := scope.names.map fun (n, k) => if (k == .free && sc.kind == .function && sc.names.lookup n == some .cell) then (n, .cell) else (n, k) }

def cloFrom (cells : List (Str × Addr)) : List (Str × NameKind) → List (Str × Addr) → List (Str × Addr)
  | [], acc => acc
  | (n, k) :: r, acc => if k == .free then cloFrom cells r ((n, (cells.lookup n).getD 0) :: acc) else cloFrom cells r acc

theorem closure_loop (env : Env) (f : Str × NameKind → List (Str × Addr) → Sem (ForInStep (List (Str × Addr))))
    (hf : ∀ n k c, f (n, k) c = if k == .free then (do let a ← cellOf env n; pure (.yield ((n, a) :: c))) else pure (.yield c)) :
    ∀ (names : List (Str × NameKind)) (acc : List (Str × Addr)), (∀ y ∈ names, y.2 = .free → ∃ c, env.cells.lookup y.1 = some c) → forIn names acc f = pure (cloFrom env.cells names acc)
  | [], acc, _ => by rw [List.forIn_nil]; rfl
  | (n, k) :: r, acc, h => by
    rw [List.forIn_cons, hf]
    have ih := fun acc => closure_loop env f hf r acc fun y hy => h y (List.mem_cons_of_mem _ hy)
    unfold cloFrom
    by_cases hk : (k == NameKind.free) = true
    · rw [if_pos hk, if_pos hk]
      obtain ⟨c, hc⟩ := h (n, k) List.mem_cons_self (by simpa using hk)
      have e : cellOf env n = pure c := by unfold cellOf; rw [hc]
      rw [e]
      have e2 : (env.cells.lookup n).getD 0 = c := by rw [hc]; rfl
      rw [e2]
      exact ih _
    · rw [if_neg hk, if_neg hk]
      exact ih _
theorem closure_ok {scope : Scope} {env : Env} (h : ∀ y ∈ scope.names, y.2 = .free → ∃ c, env.cells.lookup y.1 = some c) : closureFor scope env = pure (cloFrom env.cells scope.names []) := by
  simp only [closureFor]
  rw [closure_loop env _ (fun n k c => rfl) scope.names [] h]
  rfl

theorem mem_lookup {α : Type} : ∀ {l : List (Str × α)} {n : Str} {c : α}, (n, c) ∈ l → ∃ c', l.lookup n = some c'
  | (k, v) :: r, n, c, h => by
    rw [List.lookup_cons]
    cases hb : n == k with
    | true => exact ⟨_, rfl⟩
    | false =>
      rcases List.mem_cons.mp h with e | h
      · cases e; simp at hb
      · exact mem_lookup h

theorem cloFrom_mem {cells : List (Str × Addr)} : ∀ {names : List (Str × NameKind)} {acc : List (Str × Addr)} {n : Str} {c : Addr}, (n, c) ∈ cloFrom cells names acc → (n, c) ∈ acc ∨ ((n, .free) ∈ names ∧ c = (cells.lookup n).getD 0)
  | [], _, _, _, h => .inl h
  | (m, k) :: r, acc, n, c, h => by
    unfold cloFrom at h
    split at h
    · rename_i hk
      have hk : k = .free := by simpa using hk
      rcases cloFrom_mem h with h | ⟨h1, h2⟩
      · rcases List.mem_cons.mp h with e | h
        · cases e; exact .inr ⟨hk ▸ List.mem_cons_self, rfl⟩
        · exact .inl h
      · exact .inr ⟨List.mem_cons_of_mem _ h1, h2⟩
    · rcases cloFrom_mem h with h | ⟨h1, h2⟩
      · exact .inl h
      · exact .inr ⟨List.mem_cons_of_mem _ h1, h2⟩
theorem cloFrom_acc {cells : List (Str × Addr)} : ∀ {names : List (Str × NameKind)} {acc : List (Str × Addr)} {p : Str × Addr}, p ∈ acc → p ∈ cloFrom cells names acc
  | [], _, _, h => h
  | (m, k) :: r, acc, p, h => by
    unfold cloFrom
    split
    · exact cloFrom_acc (List.mem_cons_of_mem _ h)
    · exact cloFrom_acc h
theorem cloFrom_has {cells : List (Str × Addr)} : ∀ {names : List (Str × NameKind)} {acc : List (Str × Addr)} {n : Str}, (n, .free) ∈ names → (n, (cells.lookup n).getD 0) ∈ cloFrom cells names acc
  | (m, k) :: r, acc, n, h => by
    unfold cloFrom
    rcases List.mem_cons.mp h with e | h
    · cases e
      exact cloFrom_acc List.mem_cons_self
    · split
      · exact cloFrom_has h
      · exact cloFrom_has h

theorem cells_mem : ∀ {names : List (Str × NameKind)} {h : Heap} {acc : List (Str × Addr)} {x : Str} {c : Addr}, (x, c) ∈ cellsFrom h.objs.size names acc →
    (x, c) ∈ acc ∨ ((x, .cell) ∈ names ∧ h.objs.size ≤ c ∧ CellAt (pushCells h names) c none)
  | [], _, _, _, _, h => .inl h
  | (n, k) :: r, h, acc, x, c, hm => by
    unfold cellsFrom at hm
    unfold pushCells
    split at hm
    · rename_i hk
      rw [if_pos hk]
      have hk : k = .cell := by simpa using hk
      rw [← Heap.size_push h { cls := .type "cell", data := .cell none }] at hm
      rcases cells_mem hm with hm | ⟨h1, h2, h3⟩
      · rcases List.mem_cons.mp hm with e | hm
        · cases e
          exact .inr ⟨hk ▸ List.mem_cons_self, Nat.le_refl _, _, pushCells_keeps r _ _ _ (Heap.get?_push_size _ rfl), rfl⟩
        · exact .inl hm
      · rw [Heap.size_push] at h2
        exact .inr ⟨List.mem_cons_of_mem _ h1, Nat.le_of_succ_le h2, h3⟩
    · rename_i hk
      rw [if_neg hk]
      rcases cells_mem hm with hm | ⟨h1, h2, h3⟩
      · exact .inl hm
      · exact .inr ⟨List.mem_cons_of_mem _ h1, h2, h3⟩
theorem cells_acc : ∀ {names : List (Str × NameKind)} {n : Nat} {acc : List (Str × Addr)} {p : Str × Addr}, p ∈ acc → p ∈ cellsFrom n names acc
  | [], _, _, _, h => h
  | (m, k) :: r, n, acc, p, h => by
    unfold cellsFrom
    split
    · exact cells_acc (List.mem_cons_of_mem _ h)
    · exact cells_acc h
theorem cells_has : ∀ {names : List (Str × NameKind)} {n : Nat} {acc : List (Str × Addr)} {x : Str}, (x, .cell) ∈ names → ∃ c, (x, c) ∈ cellsFrom n names acc
  | (m, k) :: r, n, acc, x, h => by
    unfold cellsFrom
    rcases List.mem_cons.mp h with e | h
    · cases e
      exact ⟨n, cells_acc List.mem_cons_self⟩
    · split
      · exact cells_has h
      · exact cells_has h
theorem cells_inj : ∀ {names : List (Str × NameKind)} {h : Heap} {acc : List (Str × Addr)} {x y : Str} {c : Addr}, (∀ p ∈ acc, p.2 < h.objs.size) → (∀ x y c, (x, c) ∈ acc → (y, c) ∈ acc → x = y) →
    (x, c) ∈ cellsFrom h.objs.size names acc → (y, c) ∈ cellsFrom h.objs.size names acc → x = y
  | [], _, _, _, _, _, _, hi, h1, h2 => hi _ _ _ h1 h2
  | (n, k) :: r, h, acc, x, y, c, hl, hi, h1, h2 => by
    unfold cellsFrom at h1 h2
    split at h1
    · rename_i hk
      rw [if_pos hk] at h2
      rw [← Heap.size_push h { cls := .type "cell", data := .cell none }] at h1 h2
      refine cells_inj (h := h.push _) (fun p hp => ?_) (fun x y c a b => ?_) h1 h2
      · rw [Heap.size_push]
        rcases List.mem_cons.mp hp with rfl | hp
        · exact Nat.lt_succ_self _
        · exact Nat.lt_succ_of_lt (hl p hp)
      · rcases List.mem_cons.mp a with e | a <;> rcases List.mem_cons.mp b with e' | b
        · cases e; cases e'; rfl
        · cases e; exact absurd (hl _ b) (Nat.lt_irrefl _)
        · cases e'; exact absurd (hl _ a) (Nat.lt_irrefl _)
        · exact hi _ _ _ a b
    · rename_i hk
      rw [if_neg hk] at h2
      exact cells_inj hl hi h1 h2

theorem newEnv_comp {M : Model} {A : Around} {E : Value → Shared → Prop} {s : Shared} {scope : Scope} {globals : Addr} {closure : List (Str × Addr)} {qual : Str} {func : Option Addr} {code : Value} {around : Env} {builtins : Addr} {Q : Env → Shared → Prop}
    (h : Q (newEnv scope s.heap.objs.size globals (cellsFrom (s.heap.objs.size + 1) scope.names closure) qual func code (some around) builtins)
      { s with heap := pushCells (s.heap.push { cls := .type "dict", data := .dict #[] }) scope.names }) :
    wpAny M A (newFunctionEnv scope globals closure [] qual func code (some around) builtins) Q E s := by
  simp only [newFunctionEnv, Option.isSome_some, if_true]
  refine wpAny_bind (wpAny_alloc ?_)
  refine wpAny_bind (wpAny_layCells _ (fun n k c => rfl) scope.names closure _ _ ?_)
  rw [show ({ s with heap := s.heap.push { cls := .type "dict", data := .dict #[] } } : Shared).heap.objs.size = s.heap.objs.size + 1 from Heap.size_push ..]
  rw [List.forIn_nil]
  exact wpAny_bind (wpAny_pure (wpAny_pure h))

/-- every name of the written scope, in the scope that runs -/
theorem lookup_relS {sc : Scope} : ∀ {names : List (Str × NameKind)} {x : Str} {k : NameKind},
    (names.map fun (n, k) => if (k == NameKind.free && sc.kind == .function && sc.names.lookup n == some .cell) then (n, NameKind.cell) else (n, k)).lookup x = some k →
    ∃ k', names.lookup x = some k' ∧ (k = k' ∨ (k' = .free ∧ k = .cell))
  | [], _, _, h => by simp at h
  | (n, k₀) :: r, x, k, h => by
    have ih := @lookup_relS sc r x k
    have h' : List.lookup x ((if (k₀ == NameKind.free && sc.kind == .function && sc.names.lookup n == some .cell) = true then (n, NameKind.cell) else (n, k₀)) :: (r.map _)) = some k := h
    cases hx : x == n with
    | true =>
      simp only [List.lookup_cons, hx]
      by_cases hc : (k₀ == NameKind.free && sc.kind == .function && sc.names.lookup n == some .cell) = true
      · rw [if_pos hc] at h'
        simp only [List.lookup_cons, hx] at h'
        cases h'
        simp only [Bool.and_eq_true, beq_iff_eq] at hc
        exact ⟨k₀, rfl, .inr ⟨hc.1.1, rfl⟩⟩
      · rw [if_neg hc] at h'
        simp only [List.lookup_cons, hx] at h'
        cases h'
        exact ⟨_, rfl, .inl rfl⟩
    | false =>
      simp only [List.lookup_cons, hx]
      by_cases hc : (k₀ == NameKind.free && sc.kind == .function && sc.names.lookup n == some .cell) = true
      · rw [if_pos hc] at h'
        simp only [List.lookup_cons, hx] at h'
        exact ih h'
      · rw [if_neg hc] at h'
        simp only [List.lookup_cons, hx] at h'
        exact ih h'
/-- the names of a comprehension's block: its own (with their places in N), or captured -/
structure BlkOk (N : List Str) (sc scope : Scope) (own : List (Str × Nat)) : Prop where
  kind : scope.kind = .function
  uniq : ∀ y ∈ scope.names, scope.names.lookup y.1 = some y.2
  ix : ∀ p ∈ own, N[p.2]? = some p.1
  free : ∀ y ∈ scope.names, y.2 = .free → sc.names.lookup y.1 = some .cell ∨ sc.names.lookup y.1 = some .free
  own : ∀ y ∈ scope.names, y.2 = .local ∨ y.2 = .cell → y.1 ∈ own.map (·.1) ∨ y.1 ∉ N
/-- the slots of the block's own names forgotten -/
def wipe (σ : St) : List Nat → St
  | [] => σ
  | v :: vs => (wipe σ vs).set v none
theorem wipe_length (σ : St) : ∀ vs : List Nat, (wipe σ vs).length = σ.length
  | [] => rfl
  | v :: vs => by unfold wipe; rw [List.length_set, wipe_length σ vs]
theorem wipe_some {σ : St} {i : Nat} {x : V} : ∀ {vs : List Nat}, (wipe σ vs)[i]? = some (some x) → σ[i]? = some (some x) ∧ i ∉ vs
  | [], h => ⟨h, by simp⟩
  | v :: vs, h => by
    unfold wipe at h
    by_cases hi : v = i
    · subst hi
      by_cases hv : v < (wipe σ vs).length
      · rw [List.getElem?_set_self hv] at h; cases h
      · rw [List.getElem?_eq_none (by simpa using hv)] at h; cases h
    · rw [List.getElem?_set_ne hi] at h
      obtain ⟨h1, h2⟩ := wipe_some h
      exact ⟨h1, by simp only [List.mem_cons, not_or]; exact ⟨fun e => hi e.symm, h2⟩⟩

/-- the context of a block that starts at s, its iterator's objects at fp -/
abbrev Cx.blk (X : Cx) (s : Shared) (H : Hp) (scope : Scope) (cenv : Env) (fp : List Addr) : Cx := { X with s_0 := s, H_0 := H, env := cenv, outer := X.stack, ex := fp, fn := fun x => scope.names.lookup x == some .cell, pn := [], xe := fun _ _ => False }
section
variable {X : Cx} {pins : List (Addr × Obj)} {σ : St} {H : Hp} {s : Shared}
theorem block_start {scope : Scope} {own : List (Str × Nat)} {fp : List Addr} (I : Inv X pins σ H s) (ok : BlkOk X.N X.env.scope scope own) (hN : X.N.Nodup) (hfp : ∀ b ∈ fp, FpOk X pins H b ∧ b < s.heap.objs.size) :
    Inv (X.blk s H scope (compEnvC scope (cellsFrom (s.heap.objs.size + 1) scope.names (cloFrom X.env.cells scope.names [])) s.heap.objs.size X.env) fp) [] (wipe σ (own.map (·.2))) H { s with heap := pushCells (s.heap.push { cls := .type "dict", data := .dict #[] }) scope.names } := by
  have hfree : ∀ y ∈ scope.names, y.2 = .free → ∃ c, X.env.cells.lookup y.1 = some c := fun y hy e => by
    rcases ok.free y hy e with k | k
    · exact I.ok.has _ (.inl k)
    · exact I.ok.has _ (.inr k)
  generalize hcenv : compEnvC scope (cellsFrom (s.heap.objs.size + 1) scope.names (cloFrom X.env.cells scope.names [])) s.heap.objs.size X.env = cenv
  have kp : ∀ b o, s.heap.get? b = some o → (pushCells (s.heap.push { cls := .type "dict", data := .dict #[] }) scope.names).get? b = some o := fun b o e => pushCells_keeps _ _ _ _ (Heap.get?_push_of_some _ e)
  have hL : cenv.locals = s.heap.objs.size := by rw [← hcenv]; rfl
  have hcl : cenv.cells = cellsFrom (s.heap.objs.size + 1) scope.names (cloFrom X.env.cells scope.names []) := by rw [← hcenv]; rfl
  have hsc : cenv.scope = relS scope X.env.scope := by rw [← hcenv]; rfl
  rw [← Heap.size_push s.heap { cls := .type "dict", data := .dict #[] }] at hcl
  have cm : ∀ {y c}, (y, c) ∈ cloFrom X.env.cells scope.names [] → X.env.cells.lookup y = some c ∧ c < s.heap.objs.size := fun {y c} hm => by
    rcases cloFrom_mem hm with hm | ⟨h1, rfl⟩
    · cases hm
    · obtain ⟨c, hc⟩ := hfree _ h1 rfl
      rw [hc]
      obtain ⟨w, z⟩ := I.cell _ _ hc
      exact ⟨rfl, z.lt⟩
  have mem : ∀ {y c}, cenv.cells.lookup y = some c → (X.env.cells.lookup y = some c ∧ c < s.heap.objs.size) ∨ (s.heap.objs.size + 1 ≤ c ∧ CellAt (pushCells (s.heap.push { cls := .type "dict", data := .dict #[] }) scope.names) c none) := fun {y c} e => by
    rw [hcl] at e
    rcases cells_mem (PySem.mem_of_lookup e) with hm | ⟨_, h2, h3⟩
    · exact .inl (cm hm)
    · rw [Heap.size_push] at h2; exact .inr ⟨h2, h3⟩
  have look : ∀ {y}, scope.names.lookup y = some .free → ∃ c, cenv.cells.lookup y = some c ∧ X.env.cells.lookup y = some c := fun {y} hl => by
    have hy : (y, NameKind.free) ∈ scope.names := PySem.mem_of_lookup hl
    obtain ⟨c', e'⟩ := mem_lookup (cells_acc (names := scope.names) (n := (s.heap.push { cls := .type "dict", data := .dict #[] }).objs.size) (cloFrom_has (cells := X.env.cells) (acc := []) hy))
    rw [← hcl] at e'
    refine ⟨c', e', ?_⟩
    rw [hcl] at e'
    rcases cells_mem (PySem.mem_of_lookup e') with hm | ⟨h1, _, _⟩
    · exact (cm hm).1
    · have := ok.uniq _ h1
      rw [hl] at this; cases this
  have okB : (X.blk s H scope cenv fp).Ok := by
    refine ⟨I.ok.mod, by show cenv.scope.kind = _; rw [hsc]; exact ok.kind, by show cenv.globals = _; rw [← hcenv]; exact I.ok.glob, by show cenv.builtins = _; rw [← hcenv]; exact I.ok.blt, by show s.heap.objs.size ≤ cenv.locals; rw [hL]; exact Nat.le_refl _,
      fun y z c e1 e2 => ?_, fun y hy => ?_, fun y c z e => ?_, I.ok.hd, I.ok.frames, .inl rfl, fun b hb => ⟨?_, fun y c e z => ?_⟩, I.bs, Nat.le_trans I.ok.bsz I.sz, fun b o e hb => ?_, fun b hb z => ?_, I.stack, I.stkFree⟩
    · have e1 : cenv.cells.lookup y = some c := e1
      have e2 : cenv.cells.lookup z = some c := e2
      rw [hcl] at e1 e2
      refine cells_inj (fun p hp => ?_) (fun y z c a b => I.ok.inj y z c (cm a).1 (cm b).1) (PySem.mem_of_lookup e1) (PySem.mem_of_lookup e2)
      rw [Heap.size_push]
      exact Nat.lt_succ_of_lt (cm (y := p.1) (c := p.2) hp).2
    · show ∃ c, cenv.cells.lookup y = some c
      have key : ∀ k, cenv.kindOf y = some k → (k = .cell ∨ k = .free) → ∃ c, cenv.cells.lookup y = some c := fun k hk hk' => by
        unfold Env.kindOf at hk
        rw [hsc] at hk
        obtain ⟨k', e, r⟩ := lookup_relS hk
        have : k' = .cell ∨ k' = .free := by
          rcases r with rfl | ⟨rfl, _⟩
          · exact hk'
          · exact .inr rfl
        rcases this with rfl | rfl
        · obtain ⟨c, hm⟩ := cells_has (n := (s.heap.push { cls := .type "dict", data := .dict #[] }).objs.size) (acc := cloFrom X.env.cells scope.names []) (PySem.mem_of_lookup e)
          obtain ⟨c', e'⟩ := mem_lookup hm
          exact ⟨c', by rw [hcl]; exact e'⟩
        · obtain ⟨c, h1, _⟩ := look e
          exact ⟨c, h1⟩
      rcases hy with hy | hy
      · exact key _ hy (.inl rfl)
      · exact key _ hy (.inr rfl)
    · have z : (scope.names.lookup y == some NameKind.cell) = true := z
      have z : scope.names.lookup y = some .cell := by simpa using z
      have e : cenv.cells.lookup y = some c := e
      rw [hcl] at e
      rcases cells_mem (PySem.mem_of_lookup e) with hm | ⟨_, h2, _⟩
      · rcases cloFrom_mem hm with hm | ⟨h1, _⟩
        · cases hm
        · have q := ok.uniq _ h1
          rw [z] at q; cases q
      · rw [Heap.size_push] at h2
        exact Nat.le_of_succ_le h2
    · show b ≠ cenv.locals
      rw [hL]; exact Nat.ne_of_lt (hfp b hb).2
    · have e : cenv.cells.lookup y = some c := e
      rcases mem e with ⟨h1, _⟩ | ⟨h1, _⟩
      · exact (hfp b hb).1.2.2.2.2.1 y c h1 z
      · have h2 : s.heap.objs.size + 1 ≤ b := by rw [← z]; exact h1
        exact absurd (Nat.lt_of_lt_of_le (hfp b hb).2 (Nat.le_of_succ_le h2)) (Nat.lt_irrefl _)
    · rcases (hfp b hb).1.2.2.2.1 with z | z
      · exact I.ok.noex b o e z
      · exact absurd (Nat.lt_of_lt_of_le (Heap.lt_size e) (Nat.le_trans I.ok.bsz z)) (Nat.lt_irrefl _)
    · rcases List.mem_cons.mp (I.stkSub b z) with z | z
      · exact (hfp b hb).1.2.1 z
      · exact (hfp b hb).1.2.2.1 z
  refine ⟨okB, rfl, I.bare, Un.kept kp, ⟨fun _ => none, ?_, fun i y av e1 e2 e3 => ?_⟩, fun y c e => ?_, ?_, fun y c e => ?_, fun p hp => ?_, I.hok.kept kp, by rw [wipe_length]; exact I.len⟩
  · show Heap.Ns _ cenv.locals _
    rw [hL]
    exact Heap.Ns.keeps (Heap.Ns.new ..) fun b o e => pushCells_keeps _ _ _ _ e
  · obtain ⟨e2, hne⟩ := wipe_some e2
    have hfr : scope.names.lookup y = some .free ∧ (cenv.kindOf y = some .cell ∨ cenv.kindOf y = some .free) := by
      have key : ∀ k, cenv.scope.names.lookup y = some k → k = .local ∨ k = .cell ∨ k = .free → scope.names.lookup y = some .free ∧ (cenv.kindOf y = some .cell ∨ cenv.kindOf y = some .free) := fun k hk hk' => by
        have hk0 := hk
        rw [hsc] at hk
        obtain ⟨k', e, r⟩ := lookup_relS hk
        have no : ¬ (k' = .local ∨ k' = .cell) := fun hh => by
          rcases ok.own _ (PySem.mem_of_lookup e) hh with e' | e'
          · obtain ⟨p, hp, hpy⟩ := List.mem_map.mp e'
            have e3 := ok.ix p hp
            have : p.1 = y := hpy
            rw [this] at e3
            exact hne (List.mem_map.mpr ⟨p, hp, nodup_ix hN e3 e1⟩)
          · exact e' (List.mem_of_getElem? e1)
        rcases r with rfl | ⟨rfl, rfl⟩
        · rcases hk' with rfl | rfl | rfl
          · exact absurd (.inl rfl) no
          · exact absurd (.inr rfl) no
          · exact ⟨e, .inr hk0⟩
        · exact ⟨e, .inl hk0⟩
      have e3 : Vis cenv.scope y := e3
      rcases e3 with e3 | e3 | e3
      · exact key _ e3 (.inl rfl)
      · exact key _ e3 (.inr (.inl rfl))
      · exact key _ e3 (.inr (.inr rfl))
    obtain ⟨m, hn, hl⟩ := I.loc
    have hvis : Vis X.env.scope y := (ok.free _ (PySem.mem_of_lookup hfr.1) rfl).elim (fun k => .inr (.inl k)) (fun k => .inr (.inr k))
    obtain ⟨w, r, q⟩ := hl i y av e1 e2 hvis
    refine ⟨w, r, .inr ⟨hfr.2, ?_⟩⟩
    obtain ⟨c, h1, h2⟩ := look hfr.1
    rcases q with ⟨k, _⟩ | ⟨_, c', e', z⟩
    · have k : X.env.scope.names.lookup y = some .local := k
      rcases ok.free _ (PySem.mem_of_lookup hfr.1) rfl with k' | k' <;> rw [show X.env.scope.names.lookup y = _ from k'] at k <;> cases k
    · rw [h2] at e'; cases e'
      exact ⟨c, h1, z.keeps kp⟩
  · have e : cenv.cells.lookup y = some c := e
    rcases mem e with ⟨h1, _⟩ | ⟨_, z⟩
    · obtain ⟨w, z⟩ := I.cell y c h1
      exact ⟨w, z.keeps kp⟩
    · exact ⟨_, z⟩
  · show H cenv.locals = none
    rw [hL]; exact I.hok.fresh (Nat.le_refl _)
  · have e : cenv.cells.lookup y = some c := e
    rcases mem e with ⟨h1, _⟩ | ⟨h1, _⟩
    · exact I.freeC y c h1
    · exact I.hok.fresh (Nat.le_of_succ_le h1)
  · exact absurd (show p ∈ ([] : List (Addr × Obj)) ++ [] from hp) (by simp)

/-- an item appended to a tracked list -/
theorem app_ok {E : Value → Shared → Prop} {D : Addr} {xs : List V} {y : V} {v : Value} {Q : Value → Shared → Prop} (I : Inv X pins σ H s) (hD : H D = some (.lst xs)) (hz : xs.length < sizeLine) (r : RelV y v)
    (h : ∀ s', Inv X pins σ (upd H D (.lst (xs ++ [y]))) s' → Q .none s') : wpAny (model X.prog X.w) X.A (call (.builtin "list.append") [.ref D, v]) Q E s := by
  obtain ⟨hz', its, n, ri, e⟩ := I.hok D _ hD
  have hl := ri.length
  refine append_at (hsz := by rw [List.size_toArray]; omega) e fun h' sb ho' => ?_
  refine h { s with heap := h' } (I.write (t' := s.toks) (by rw [hD]; trivial) (.inl rfl) (fun b u hb q => (sb.2 b hb).trans q) ⟨_, ho'⟩ ⟨by rw [List.length_append]; exact hz, its ++ [v], n + 1, ri.append (.cons r .nil), ?_⟩)
  rw [ho']
  simp

/-- a clause's tests -/
def PTs (X : Cx) (ifs : List Expr) (t : TT) : Prop :=
  ∀ (pins : List (Addr × Obj)) (s : Shared) (σ : St) (H : Hp) (Q : Bool → Hp → Prop), Inv X pins σ H s → t σ H Q →
    wpAny (model X.prog X.w) X.A (forIn ifs true fun c r => if r = true then do let ok ← isTrue c X.env (eval c X.env); pure (ForInStep.yield ok) else pure (ForInStep.yield r)) (TP X pins σ Q) X.xe s
def tYes : TT := fun _ H Q => Q true H
theorem pts_nil : PTs X [] tYes := fun _ _ _ H _ I h => wpAny_tests_nil ⟨H, I, h⟩
theorem pts_one {c : Expr} {t : TT} (h : PT X c t) : PTs X [c] t := fun pins s σ H Q I hw => wpAny_tests_one (h pins s σ H Q I hw)
end

theorem thnF {α : Type} {t : Sem α} {Q Q' : α → Shared → Prop} {M : Model} {A : Around} {E : Value → Shared → Prop} {s : Shared} (h : wpAny M A t Q (fun _ _ => False) s) (hQ : ∀ a s, Q a s → Q' a s) : wpAny M A t Q' E s := wpAny_mono h hQ fun _ _ z => False.elim z

/-- the loop of a list comprehension's block, the target of any form (codeAny_compLoop_tests asks a target that no tuple goes to; statement and proof follow it, PyProof/CompMap.lean:41-61, with the step letOwnedTupleGo kept) -/
theorem compLoop_any {prog : Program} {w : World} {A : Around} {R : Result → Shared → Prop} {s : Shared} {elt target iter : Expr} {ifs : List Expr} {scope : Scope} {pos : Pos} {it acc : Value} {env : Env} (I : Nat → Shared → Prop)
    (turn : ∀ n s, I n s → wpAny (model prog w) A (pyNext it) (fun r s₁ => match r with
      | none => R (.ok .next) s₁
      | some v => wpAny (model prog w) A (letOwnedTupleGo target it v) (fun _ s₁' => wpAny (model prog w) A (assign target env v) (fun _ s₂ =>
          wpAny (model prog w) A (forIn ifs true fun c r => if r = true then do let ok ← isTrue c env (eval c env); pure (ForInStep.yield ok) else pure (ForInStep.yield r)) (fun ok s₃ =>
            if ok = true then wpAny (model prog w) A (eval elt env) (fun x s₄ =>
              wpAny (model prog w) A (call (.builtin "list.append") [acc, x]) (fun _ s₅ => ∃ m, m < n ∧ I m s₅) (notedBy (model prog w) A env fun e s' => R (.error e) s') s₄) (notedBy (model prog w) A env fun e s' => R (.error e) s') s₃
            else ∃ m, m < n ∧ I m s₃) (notedBy (model prog w) A env fun e s' => R (.error e) s') s₂) (notedBy (model prog w) A env fun e s' => R (.error e) s') s₁') (notedBy (model prog w) A env fun e s' => R (.error e) s') s₁) (notedBy (model prog w) A env fun e s' => R (.error e) s') s)
    (n : Nat) (h : I n s) :
    codeAny (model prog w) A (.compLoop (.ListComp elt [⟨target, iter, ifs, 0⟩] scope pos) 0 it acc env) R s := by
  refine codeAny_loop rfl I (fun n s hI => ?_) n h
  show wpAny _ A ((compTurn (.ListComp elt [⟨target, iter, ifs, 0⟩] scope pos) 0 it acc env).onRaise (fun x => do noteFrame x env; theTreesLotGoes x)) _ _ s
  refine wpAny_noted ?_
  rw [compTurn_list]
  refine wpAny_bind (wpAny_standAt (wpAny_bind (wpAny_mono (turn n s hI) (fun r s₁ h₁ => ?_) fun _ _ h' => h')))
  cases r with
  | none => exact wpAny_pure h₁
  | some v =>
    refine wpAny_bind (wpAny_mono h₁ (fun _ s₁' h₁' => ?_) fun _ _ h' => h')
    refine wpAny_bind (wpAny_mono h₁' (fun _ s₂ h₂ => wpAny_bind (wpAny_mono h₂ (fun ok s₃ h₃ => ?_) fun _ _ h' => h')) fun _ _ h' => h')
    cases ok with
    | false => exact wpAny_pure ⟨rfl, h₃⟩
    | true =>
      exact wpAny_bind (wpAny_bind (wpAny_mono h₃ (fun x s₄ h₄ => wpAny_bind (wpAny_mono h₄ (fun _ s₅ h₅ => wpAny_pure (wpAny_pure ⟨rfl, h₅⟩)) fun _ _ h' => h')) fun _ _ h' => h'))

section
variable {X : Cx}
/-- [elt for target in iter if ..]: D the new list; W by the turn and a measure, Nx what a turn is to reach -/
def tLc (wi : TI) (g : TG) (tt : TT) (te : TE) (vs : List Nat) : TE := fun σ H Q => wi σ H fun J H1 => ∀ D, H1 D = none → ∃ W : Nat → Nat → Hp → Prop, (∃ m, W 0 m (upd H1 D (.lst []))) ∧ ∀ i m H, W i m H →
  (J.stop i H ∧ Q (.ref D) H) ∨ (J.go i H ∧ ∃ Nx : Hp → Prop, (∀ H', Nx H' → ∃ m', m' < m ∧ W (i + 1) m' H') ∧ ∀ x H', J.yld i H x H' → g x (wipe σ vs) H' fun σ2 H2 => wipe σ2 vs = wipe σ vs ∧ tt σ2 H2 fun b H3 =>
    if b = true then te σ2 H3 fun y H4 => ∃ acc, H4 D = some (.lst acc) ∧ acc.length < sizeLine ∧ Nx (upd H4 D (.lst (acc ++ [y]))) else Nx H3)
theorem lc_core {pins : List (Addr × Obj)} {s : Shared} {σ : St} {H : Hp} {Q : VK} {elt tg iter : Expr} {ifs : List Expr} {scope : Scope} {own : List (Str × Nat)} {pos pos' : Pos} {wi : TI} {g : TG} {tt : TT} {te : TE} {use : Option (Value → Sem Unit)} {Qf : Value → Shared → Prop}
    (hc : X.calm = true) (hN : X.N.Nodup) (I : Inv X pins σ H s) (hi : PI X tg iter wi) (ok : BlkOk X.N X.env.scope scope own)
    (hg : ∀ (s : Shared) (H : Hp) (C : Addr) (cl : List (Str × Addr)) (fp : List Addr), PG (X.blk s H scope (compEnvC scope cl C X.env) fp) tg g) (ht : ∀ (s : Shared) (H : Hp) (C : Addr) (cl : List (Str × Addr)) (fp : List Addr), PTs (X.blk s H scope (compEnvC scope cl C X.env) fp) ifs tt)
    (he : ∀ (s : Shared) (H : Hp) (C : Addr) (cl : List (Str × Addr)) (fp : List Addr), PE (X.blk s H scope (compEnvC scope cl C X.env) fp) elt te) (hs : ∀ x, foldedSetIterable iter X.env x = pure x)
    (h : tLc wi g tt te (own.map (·.2)) σ H Q)
    (hRR : ∀ D C s' m H', Inv X pins σ H' s' → Q (.ref D) H' → s'.heap.Ns C m → FpOk X pins H' C → compPost (model X.prog X.w) X.A X.xe use Qf (.ref D) C (.ok .next) s') :
    wpAny (model X.prog X.w) X.A (comprehension (.ListComp elt [⟨tg, iter, ifs, 0⟩] scope pos) scope X.env pos' (newList []) false (eval iter X.env) use) Qf X.xe s := by
  have hfree : ∀ y ∈ scope.names, y.2 = .free → ∃ c, X.env.cells.lookup y.1 = some c := fun y hy e => by
    rcases ok.free y hy e with k | k
    · exact I.ok.has _ (.inl k)
    · exact I.ok.has _ (.inr k)
  refine wpAny_comprehension_free (use := use) rfl hs (closure_ok hfree) ok.kind (fun y hy e => by rw [ok.uniq y hy, e])
    (thn (hi pins s σ H _ I h) fun xv s1 hx => thn hx fun itv s2 h2 => ?_)
  obtain ⟨it, fp, tn, J, H2, e, I2, T, st2, f2, q⟩ := h2
  subst e
  refine wpAny_newObj_type (newEnv_comp ?_) (by show 0 ≤ sizeLine; decide)
  generalize hD : s2.heap.objs.size = D
  have hDn : H2 D = none := I2.hok.fresh (Nat.le_of_eq hD)
  obtain ⟨W, ⟨m0, w0⟩, turn⟩ := q D hDn
  -- the new list
  generalize hs3 : ({ s2 with heap := s2.heap.push { cls := .type "list", data := .seq ([] : List Value).toArray } } : Shared) = s3
  have I3 : Inv X pins σ (upd H2 D (.lst [])) s3 := by
    rw [← hs3]
    refine I2.laid (t' := s2.toks) (fun b o e => Heap.get?_push_of_some _ e) (Nat.le_of_eq hD) ⟨Nat.zero_le _, [], 0, .nil, ?_⟩
    rw [← hD]
    exact Heap.get?_push_size _ rfl
  have h3 : s3.heap = s2.heap.push { cls := .type "list", data := .seq ([] : List Value).toArray } := by rw [← hs3]
  have sz : ∀ b ∈ fp, b < s2.heap.objs.size := fun b hb => by
    obtain ⟨o, e, _⟩ := T.obj _ _ st2 b hb
    exact Heap.lt_size e
  have f3 : ∀ b ∈ fp, FpOk X pins (upd H2 D (.lst [])) b ∧ b < s3.heap.objs.size := fun b hb => by
    have hlt := sz b hb
    refine ⟨⟨?_, (f2 b hb).2⟩, by rw [h3, Heap.size_push]; exact Nat.lt_succ_of_lt hlt⟩
    rw [upd_ne (by rw [← hD]; exact Nat.ne_of_lt hlt)]
    exact (f2 b hb).1
  have st3 : tn 0 s3.heap := T.keep _ _ _ st2 fun b _ o e => by rw [h3]; exact Heap.get?_push_of_some _ e
  have I4 := block_start I3 ok hN f3
  have pg := hg s3 (upd H2 D (.lst [])) s3.heap.objs.size (cellsFrom (s3.heap.objs.size + 1) scope.names (cloFrom X.env.cells scope.names [])) fp
  have pt := ht s3 (upd H2 D (.lst [])) s3.heap.objs.size (cellsFrom (s3.heap.objs.size + 1) scope.names (cloFrom X.env.cells scope.names [])) fp
  have pe := he s3 (upd H2 D (.lst [])) s3.heap.objs.size (cellsFrom (s3.heap.objs.size + 1) scope.names (cloFrom X.env.cells scope.names [])) fp
  show codeAny _ _ (.compStart (.ListComp elt [⟨tg, iter, ifs, 0⟩] scope pos) 0 (.ref it) (.ref D) (compEnvC scope (cellsFrom (s3.heap.objs.size + 1) scope.names (cloFrom X.env.cells scope.names [])) s3.heap.objs.size X.env)) (compPost (model X.prog X.w) X.A X.xe use Qf (.ref D) s3.heap.objs.size) { s3 with heap := pushCells (s3.heap.push { cls := .type "dict", data := .dict #[] }) scope.names }
  have nfp : ∀ b ∈ fp, (upd H2 D (.lst [])) b = none := fun b hb => (f3 b hb).1.1
  generalize hce : compEnvC scope (cellsFrom (s3.heap.objs.size + 1) scope.names (cloFrom X.env.cells scope.names [])) s3.heap.objs.size X.env = ce at I4 pg pt pe ⊢
  have cL : ce.locals = s3.heap.objs.size := by subst hce; rfl
  generalize hH3 : upd H2 D (.lst []) = H3 at I3 I4 pg pt pe w0 nfp f3
  generalize hs4 : ({ s3 with heap := pushCells (s3.heap.push { cls := .type "dict", data := .dict #[] }) scope.names } : Shared) = s4 at I4 ⊢
  have st4 : tn 0 s4.heap := T.keep _ _ _ st3 fun b _ o e => by rw [← hs4]; exact pushCells_keeps _ _ _ _ (Heap.get?_push_of_some _ e)
  have stat : ∀ {σ' : St} {H' : Hp} {s' : Shared}, Inv (X.blk s3 H3 scope ce fp) [] σ' H' s' → (∀ b ∈ fp, H' b = none) → ∀ b ∈ fp, FpOk (X.blk s3 H3 scope ce fp) [] H' b := fun {σ' H' s'} I' hn b hb =>
    ⟨hn b hb, (I'.ok.exf b hb).1, I'.ok.exfs b hb, .inl hb, fun x c e => (I'.ok.exf b hb).2 x c e, fun p hp => absurd (show p ∈ ([] : List (Addr × Obj)) ++ [] from hp) (by simp)⟩
  have loop : codeAny (model X.prog X.w) X.A (.compLoop (.ListComp elt [⟨tg, iter, ifs, 0⟩] scope pos) 0 (.ref it) (.ref D) ce) (compPost (model X.prog X.w) X.A X.xe use Qf (.ref D) s3.heap.objs.size) s4 := by
    refine compLoop_any (fun n s' => ∃ i H', Inv (X.blk s3 H3 scope ce fp) [] (wipe σ (own.map (·.2))) H' s' ∧ tn i s'.heap ∧ (∀ b ∈ fp, H' b = none) ∧ W i n H') ?_ m0 ⟨0, H3, I4, st4, nfp, w0⟩
    rintro n s5 ⟨i, H5, I5, st5, n5, w5⟩
    rcases turn i n H5 w5 with ⟨stop, qq⟩ | ⟨go, Nx, hNx, step⟩
    · have td := T.done (X.blk s3 H3 scope ce fp) rfl rfl rfl hc i [] s5 _ H5 (fun _ _ => False) I5 (stat I5 n5) st5 stop
      refine thnF td fun r s6 ⟨hr, I6⟩ => ?_
      subst hr
      -- back in the def's context
      have I7 : Inv X pins σ H5 s6 := I3.call' (ch := fp) I6.os I6.base I6.hok I6.bare fun b hb => ⟨(f3 b hb).1.2.2.2.1, (f3 b hb).1.2.1, (f3 b hb).1.2.2.2.2.1, (f3 b hb).1.2.2.2.2.2⟩
      have nC : H5 s3.heap.objs.size = none := by
        have z : H5 ce.locals = none := I6.free
        rw [cL] at z
        exact z
      obtain ⟨m, hn, _⟩ := I6.loc
      have hn : s6.heap.Ns ce.locals m := hn
      rw [cL] at hn
      exact hRR D s3.heap.objs.size s6 m H5 I7 qq hn (I3.fpOk (Nat.le_refl _) nC)
    · have ti := T.item (X.blk s3 H3 scope ce fp) rfl rfl rfl hc i [] s5 _ H5 (fun _ _ => False) I5 (stat I5 n5) st5 go
      refine thnF ti fun r s6 ⟨u, hr, h6⟩ => ?_
      subst hr
      refine thnF h6 fun _ s7 ⟨x, H7, I7, r7, y7, st7, n7⟩ => ?_
      have I7' := I7.pinned (stat I7 n7) (T.obj _ _ st7)
      refine thnF (pg _ s7 _ H7 x u _ I7' r7 (step x H7 y7)) fun _ s8 ⟨σ8, H8, I8, hw8, q8⟩ => ?_
      refine thnF (pt _ s8 σ8 H8 _ I8 q8) fun b s9 ⟨H9, I9, q9⟩ => ?_
      -- the turn's end
      have fin : ∀ {s' : Shared} {H' : Hp}, Inv (X.blk s3 H3 scope ce fp) ([] ++ pinsAt fp s7.heap) σ8 H' s' → Nx H' → ∃ m, m < n ∧ ∃ i H', Inv (X.blk s3 H3 scope ce fp) [] (wipe σ (own.map (·.2))) H' s' ∧ tn i s'.heap ∧ (∀ b ∈ fp, H' b = none) ∧ W i m H' := fun {s' H'} I' nx => by
        obtain ⟨m', hm, w'⟩ := hNx H' nx
        have pin' : ∀ b ∈ fp, ∀ o, s7.heap.get? b = some o → s'.heap.get? b = some o ∧ H' b = none := fun b hb o e =>
          let z := I'.pin (b, o) (List.mem_append_right _ (List.mem_append_right _ (mem_pinsAt hb e)))
          ⟨z.1, z.2.1⟩
        have hl : (wipe σ (own.map (·.2))).length = σ8.length := by rw [← hw8, wipe_length]
        refine ⟨m', hm, i + 1, H', (I'.unpinned (pins := [])).weak hl (fun j v e => ?_), T.keep _ _ _ st7 fun b hb o e => (pin' b hb o e).1, fun b hb => ?_, w'⟩
        · rw [← hw8] at e
          exact (wipe_some e).1
        · obtain ⟨o, e, _⟩ := T.obj _ _ st7 b hb
          exact (pin' b hb o e).2
      cases b with
      | false =>
        simp only [Bool.false_eq_true, if_false] at q9 ⊢
        exact fin I9 q9
      | true =>
        simp only [if_true] at q9 ⊢
        refine thnF (pe _ s9 σ8 H9 _ I9 q9) fun z s10 ⟨yv, H10, I10, r10, acc, hD10, hz10, nx⟩ => ?_
        exact app_ok (X := X.blk s3 H3 scope ce fp) I10 hD10 hz10 r10 fun s11 I11 => fin I11 nx
  exact codeAny_compStart_list loop (T.self X.A 0 _ _ _ st4 loop)
/-- as a value -/
theorem pe_lc {elt tg iter : Expr} {ifs : List Expr} {scope : Scope} {own : List (Str × Nat)} {pos : Pos} {wi : TI} {g : TG} {tt : TT} {te : TE} (hc : X.calm = true) (hN : X.N.Nodup) (hi : PI X tg iter wi) (ok : BlkOk X.N X.env.scope scope own)
    (hg : ∀ (s : Shared) (H : Hp) (C : Addr) (cl : List (Str × Addr)) (fp : List Addr), PG (X.blk s H scope (compEnvC scope cl C X.env) fp) tg g) (ht : ∀ (s : Shared) (H : Hp) (C : Addr) (cl : List (Str × Addr)) (fp : List Addr), PTs (X.blk s H scope (compEnvC scope cl C X.env) fp) ifs tt)
    (he : ∀ (s : Shared) (H : Hp) (C : Addr) (cl : List (Str × Addr)) (fp : List Addr), PE (X.blk s H scope (compEnvC scope cl C X.env) fp) elt te) (hs : ∀ x, foldedSetIterable iter X.env x = pure x := by intro _; rfl) :
    PE X (.ListComp elt [⟨tg, iter, ifs, 0⟩] scope pos) (tLc wi g tt te (own.map (·.2))) := by
  intro pins s σ H Q I h
  rw [eval_ListComp]
  refine lc_core hc hN I hi ok hg ht he hs h fun D C s' m H' I' q hn f => ⟨m, hn, fun h'' sb => ?_⟩
  obtain ⟨f0, f1, f2, f3, f4, f5⟩ := f
  exact ⟨.ref D, H', I'.turned (t' := s'.toks) (fun b o hb e => (sb.2 b hb).trans e) f0 f1 f3 f4 f5, rfl, q⟩
end

/-- over a list that the block leaves as it is -/
theorem lc_list {K : PySem.W.Frag} {a : Addr} {xs : List V} {g : TG} {tt : TT} {te : TE} {vs : List Nat} {σ : St} {H1 : Hp} {D : Addr} {Qd : Hp → Prop} (Pv : Nat → Hp → Prop) (h0 : Pv 0 (upd H1 D (.lst []))) (hl : ∀ i H, i ≤ xs.length → Pv i H → SqL K H a xs)
    (hs : ∀ i x H, xs[i]? = some x → Pv i H → g x (wipe σ vs) H fun σ2 H2 => wipe σ2 vs = wipe σ vs ∧ tt σ2 H2 fun b H3 =>
      if b = true then te σ2 H3 fun y H4 => ∃ acc, H4 D = some (.lst acc) ∧ acc.length < sizeLine ∧ Pv (i + 1) (upd H4 D (.lst (acc ++ [y]))) else Pv (i + 1) H3) (hd : ∀ H, Pv xs.length H → Qd H) :
    ∃ W : Nat → Nat → Hp → Prop, (∃ m, W 0 m (upd H1 D (.lst []))) ∧ ∀ i m H, W i m H →
      ((Itl K a).stop i H ∧ Qd H) ∨ ((Itl K a).go i H ∧ ∃ Nx : Hp → Prop, (∀ H', Nx H' → ∃ m', m' < m ∧ W (i + 1) m' H') ∧ ∀ x H', (Itl K a).yld i H x H' → g x (wipe σ vs) H' fun σ2 H2 => wipe σ2 vs = wipe σ vs ∧ tt σ2 H2 fun b H3 =>
        if b = true then te σ2 H3 fun y H4 => ∃ acc, H4 D = some (.lst acc) ∧ acc.length < sizeLine ∧ Nx (upd H4 D (.lst (acc ++ [y]))) else Nx H3) := by
  refine ⟨fun i m H => m = xs.length - i ∧ i ≤ xs.length ∧ Pv i H, ⟨xs.length, by simp, Nat.zero_le _, h0⟩, ?_⟩
  rintro i m H ⟨rfl, hi, p⟩
  have q := hl i H hi p
  by_cases hlt : i < xs.length
  · refine .inr ⟨⟨xs, xs[i], q, by simp [hlt]⟩, Pv (i + 1), fun H' p' => ⟨xs.length - (i + 1), by omega, rfl, hlt, p'⟩, fun x H' y => ?_⟩
    obtain ⟨e, y⟩ := y
    subst e
    exact hs i x _ (y xs q) p
  · have e : i = xs.length := by omega
    subst e
    exact .inl ⟨⟨xs, q, Nat.le_refl _⟩, hd H p⟩
end L2

namespace L2
open PySem PySem.Spec PyProof.Rows

section
variable {prog : Program} {w : World} {A : Around} {R : Result → Shared → Prop} {s : Shared} {elt t0 i0 t1 i1 : Expr} {ifs0 ifs1 : List Expr} {scope : Scope} {pos : Pos} {it acc : Value} {env : Env}
end

section
variable {X : Cx}
end
end L2

namespace L2
open PySem PySem.Spec PyProof.Rows

section
variable {κ : Type} [DecidableEq κ]
def valV (kvs : List (κ × V)) (k : κ) : Option V := (kvs.find? fun kv => decide (kv.1 = k)).map (·.2)
/-- in its place, or at the end -/
def putK (kvs : List (κ × V)) (k : κ) (v : V) : List (κ × V) :=
  if (kvs.any fun kv => decide (kv.1 = k)) = true then kvs.map (fun kv => if kv.1 = k then (kv.1, v) else kv) else kvs ++ [(k, v)]
theorem valV_pos {p : κ × V} {r : List (κ × V)} {k : κ} (e : p.1 = k) : valV (p :: r) k = some p.2 := by simp [valV, List.find?_cons, e]
theorem valV_neg {p : κ × V} {r : List (κ × V)} {k : κ} (e : ¬ p.1 = k) : valV (p :: r) k = valV r k := by simp [valV, List.find?_cons, e]
theorem valV_any (k : κ) : ∀ kvs : List (κ × V), (kvs.any fun kv => decide (kv.1 = k)) = (valV kvs k).isSome
  | [] => rfl
  | p :: r => by
    rw [List.any_cons]
    by_cases e : p.1 = k
    · simp only [valV_pos e, decide_eq_true e, Bool.true_or, Option.isSome_some]
    · rw [valV_neg e, decide_eq_false e, Bool.false_or]; exact valV_any k r
theorem valV_map (k j : κ) (y : V) : ∀ kvs : List (κ × V), valV (kvs.map fun kv => if kv.1 = k then (kv.1, y) else kv) j = (valV kvs j).map fun x => if j = k then y else x
  | [] => rfl
  | p :: r => by
    have ih := valV_map k j y r
    rw [List.map_cons]
    by_cases h : p.1 = k
    · rw [if_pos h]
      by_cases e : p.1 = j
      · rw [valV_pos (p := (p.1, y)) e, valV_pos e, Option.map_some, if_pos (e.symm.trans h)]
      · rw [valV_neg (p := (p.1, y)) e, valV_neg e, ih]
    · rw [if_neg h]
      by_cases e : p.1 = j
      · rw [valV_pos (p := p) e, valV_pos e, Option.map_some, if_neg (fun z => h (e.trans z))]
      · rw [valV_neg (p := p) e, valV_neg e, ih]
theorem valV_snoc (k j : κ) (y : V) : ∀ kvs : List (κ × V), valV kvs k = none → valV (kvs ++ [(k, y)]) j = if j = k then some y else valV kvs j
  | [], _ => by
    by_cases e : k = j
    · rw [if_pos e.symm]; exact valV_pos (p := (k, y)) e
    · rw [if_neg (fun z => e z.symm)]; exact valV_neg (p := (k, y)) e
  | p :: r, hn => by
    rw [List.cons_append]
    have hk : ¬ p.1 = k := fun z => by rw [valV_pos z] at hn; cases hn
    rw [valV_neg hk] at hn
    have ih := valV_snoc k j y r hn
    by_cases e : p.1 = j
    · rw [valV_pos e, valV_pos e, if_neg (fun z => hk (e.trans z))]
    · rw [valV_neg e, valV_neg e, ih]
theorem valV_put (kvs : List (κ × V)) (k j : κ) (y : V) : valV (putK kvs k y) j = if j = k then some y else valV kvs j := by
  unfold putK
  by_cases a : (kvs.any fun kv => decide (kv.1 = k)) = true
  · rw [if_pos a, valV_map]
    rw [valV_any] at a
    by_cases e : j = k
    · obtain ⟨x, hx⟩ := Option.isSome_iff_exists.mp a
      rw [if_pos e, e, hx, Option.map_some, if_pos rfl]
    · rw [if_neg e]
      cases valV kvs j with
      | none => rfl
      | some x => rw [Option.map_some, if_neg e]
  · rw [if_neg a]
    refine valV_snoc k j y kvs ?_
    rw [valV_any] at a
    cases q : valV kvs k with
    | none => rfl
    | some x => rw [q] at a; exact (a rfl).elim
theorem length_putK (kvs : List (κ × V)) (k : κ) (v : V) : (putK kvs k v).length ≤ kvs.length + 1 := by
  unfold putK
  split
  · rw [List.length_map]; omega
  · rw [List.length_append, List.length_cons, List.length_nil]; omega
theorem RelO.isSome_eq {o : Option V} {u : Option Value} (r : RelO o u) : o.isSome = u.isSome := by
  cases o with
  | none => cases u with
    | none => rfl
    | some _ => exact (show False from r).elim
  | some _ => cases u with
    | none => exact (show False from r).elim
    | some _ => rfl
theorem RelO.getD {o : Option V} {u : Option Value} {d : V} {d' : Value} (r : RelO o u) (rd : RelV d d') : RelV (o.getD d) (u.getD d') := by
  cases o with
  | none => cases u with
    | none => exact rd
    | some _ => exact (show False from r).elim
  | some _ => cases u with
    | none => exact (show False from r).elim
    | some _ => exact r

/-- raw tables of the same keys -/
theorem KV.val {kvs : List (κ × V)} {vs : List (κ × Value)} (r : KV kvs vs) (k : κ) : RelO (valV kvs k) (valueAt vs k) := by
  unfold KV at r
  induction r with
  | nil => exact True.intro
  | @cons p q ps qs h t ih =>
    obtain ⟨h1, h2⟩ := h
    by_cases e : p.1 = k
    · have e' : q.1 = k := h1.symm.trans e
      have b : valueAt (q :: qs) k = some q.2 := by simp [valueAt, List.find?_cons, e']
      rw [valV_pos e, b]; exact h2
    · have e' : ¬ q.1 = k := fun z => e (h1.trans z)
      have b : valueAt (q :: qs) k = valueAt qs k := by simp [valueAt, List.find?_cons, e']
      rw [valV_neg e, b]; exact ih
theorem KV.any {kvs : List (κ × V)} {vs : List (κ × Value)} (r : KV kvs vs) (k : κ) : (kvs.any fun kv => decide (kv.1 = k)) = vs.any fun kv => decide (kv.1 = k) := by
  unfold KV at r
  induction r with
  | nil => rfl
  | cons h t ih => rw [List.any_cons, List.any_cons, ih, h.1]
theorem KV.repl {kvs : List (κ × V)} {vs : List (κ × Value)} (r : KV kvs vs) (k : κ) {y : V} {u : Value} (ry : RelV y u) :
    KV (kvs.map fun kv => if kv.1 = k then (kv.1, y) else kv) (vs.map fun kv => if kv.1 = k then (kv.1, u) else kv) := by
  unfold KV at r ⊢
  induction r with
  | nil => exact .nil
  | @cons p q ps qs h t ih =>
    rw [List.map_cons, List.map_cons]
    refine .cons ?_ ih
    obtain ⟨h1, h2⟩ := h
    by_cases e : p.1 = k
    · rw [if_pos e, if_pos (h1.symm.trans e)]; exact ⟨h1, ry⟩
    · rw [if_neg e, if_neg (fun z => e (h1.trans z))]; exact ⟨h1, h2⟩
theorem KV.put {kvs : List (κ × V)} {vs : List (κ × Value)} (r : KV kvs vs) (k : κ) {y : V} {u : Value} (ry : RelV y u) : KV (putK kvs k y) (stored vs k u) := by
  unfold putK stored
  rw [r.any k]
  by_cases e : (vs.any fun kv => decide (kv.1 = k)) = true
  · rw [if_pos e, if_pos e]; exact r.repl k ry
  · rw [if_neg e, if_neg e]; exact Paired.snoc r ⟨rfl, ry⟩
theorem KV.length {kvs : List (κ × V)} {vs : List (κ × Value)} (r : KV kvs vs) : kvs.length = vs.length := Paired.length r
end


theorem kV_is {P : Program} {w : World} {k : Key} {u : Value} (r : RelV (kV k) u) : (mixKind P w).is k u = true := by
  cases k with
  | inl i => obtain ⟨t, e⟩ := (show ∃ t, u = Value.int i t from r); subst e; exact mixKind_int P w i t
  | inr x => obtain ⟨t, e⟩ := (show ∃ t, u = Value.str x t from r); subst e; exact mixKind_str P w x t
theorem items_are {P : Program} {w : World} : ∀ {ks : List Key} {us : List Value}, Vals (ks.map kV) us → ItemsAre (mixKind P w) ks us
  | [], _, r => by rw [List.map_nil] at r; cases r; exact .nil
  | k :: ks, _, r => by
    rw [List.map_cons] at r
    cases r with
    | cons h t => exact .cons (kV_is h) (items_are t)

/-- raw entries of a dict with tuple keys -/
abbrev KT (H : Hp) : List (List Key × V) → List (List Key × Addr × Value) → Prop := Paired fun p q => p.1 = q.1 ∧ H q.2.1 = some (.tup (p.1.map kV)) ∧ RelV p.2 q.2.2
theorem KT.val {H : Hp} {kvs : List (List Key × V)} {xs : List (List Key × Addr × Value)} (r : KT H kvs xs) (k : List Key) : RelO (valV kvs k) ((atKey xs k).map (·.2)) := by
  induction r with
  | nil => exact True.intro
  | @cons p q ps qs h t ih =>
    obtain ⟨h1, _, h2⟩ := h
    by_cases e : p.1 = k
    · have e' : q.1 = k := h1.symm.trans e
      have b : atKey (q :: qs) k = some q.2 := by simp [atKey, List.find?_cons, e']
      rw [valV_pos e, b]; exact h2
    · have e' : ¬ q.1 = k := fun z => e (h1.trans z)
      have b : atKey (q :: qs) k = atKey qs k := by simp [atKey, List.find?_cons, e']
      rw [valV_neg e, b]; exact ih
theorem KT.repl {H : Hp} {kvs : List (List Key × V)} {xs : List (List Key × Addr × Value)} (r : KT H kvs xs) (k : List Key) {y : V} {u : Value} (ry : RelV y u) :
    KT H (kvs.map fun kv => if kv.1 = k then (kv.1, y) else kv) (xs.map (putAt k u)) := by
  induction r with
  | nil => exact .nil
  | @cons p q ps qs h t ih =>
    rw [List.map_cons, List.map_cons]
    refine .cons ?_ ih
    obtain ⟨h1, h2, h3⟩ := h
    unfold putAt
    by_cases e : p.1 = k
    · rw [if_pos e, if_pos (h1.symm.trans e)]; exact ⟨h1, h2, ry⟩
    · rw [if_neg e, if_neg (fun z => e (h1.trans z))]; exact ⟨h1, h2, h3⟩
theorem KT.put {H : Hp} {kvs : List (List Key × V)} {xs : List (List Key × Addr × Value)} (r : KT H kvs xs) (k : List Key) {b : Addr} {y : V} {u : Value} (hb : H b = some (.tup (k.map kV))) (ry : RelV y u) :
    KT H (putK kvs k y) (storedH xs k b u) := by
  have e : (kvs.any fun kv => decide (kv.1 = k)) = (atKey xs k).isSome := by
    rw [valV_any, (r.val k).isSome_eq, Option.isSome_map]
  unfold putK storedH
  rw [e]
  by_cases q : (atKey xs k).isSome = true
  · rw [if_pos q, if_pos q]; exact r.repl k ry
  · rw [if_neg q, if_neg q]; exact Paired.snoc r ⟨rfl, hb, ry⟩
theorem KT.keeps {H H' : Hp} {kvs : List (List Key × V)} {xs : List (List Key × Addr × Value)} (r : KT H kvs xs) (ht : ∀ b ys, H b = some (.tup ys) → H' b = some (.tup ys)) : KT H' kvs xs :=
  Paired.mapP r fun _ _ z => ⟨z.1, ht _ _ z.2.1, z.2.2⟩

section
variable {P : Program} {w : World} {H : Hp} {h : Heap} {a : Addr}
theorem rd_of {u : HO} (ok : HOk P w H h) (e : Rd H a u) : ObjOk P w H h a u := e.ok ok
theorem dk_rd {kvs : List (Key × V)} (ok : HOk P w H h) (e : Rd H a (.dK kvs)) : kvs.length ≤ sizeLine ∧ (a == sysModules) = false ∧ ∃ vs, KV kvs vs ∧ h.DictOf (mixKind P w) a vs :=
  show ObjOk P w H h a (.dK kvs) from rd_of ok e
theorem dk_of {kvs : List (Key × V)} (ok : HOk P w H h) (e : H a = some (.dK kvs)) : kvs.length ≤ sizeLine ∧ (a == sysModules) = false ∧ ∃ vs, KV kvs vs ∧ h.DictOf (mixKind P w) a vs := dk_rd ok (.inl e)
/-- a tracked tuple of ints and texts is a key -/
theorem key_of {ks : List Key} (ok : HOk P w H h) (e : H a = some (.tup (ks.map kV))) : (tupleKind (mixKind P w)).is h ks a := by
  obtain ⟨_, its, r, o, h1, h2, n, h3⟩ := (show ObjOk P w H h a (.tup (ks.map kV)) from ok a _ e)
  exact ⟨o, its.toArray, n, h1, h2, h3, by simpa using items_are r⟩
theorem dt_rd {kvs : List (List Key × V)} (ok : HOk P w H h) (e : Rd H a (.dT kvs)) : kvs.length ≤ sizeLine ∧ (a == sysModules) = false ∧
    ∃ xs, KT H kvs xs ∧ h.DictOfH (tupleKind (mixKind P w)) a xs := by
  obtain ⟨z, y, xs, r, o, es, ep, h1, h2, h3, h4, h5⟩ := (show ObjOk P w H h a (.dT kvs) from rd_of ok e)
  refine ⟨z, y, xs, r, o, es, ep, h1, h2, h3, h4, fun x hx => ?_, h5⟩
  have all : ∀ {l : List (List Key × V)} {m : List (List Key × Addr × Value)}, KT H l m → ∀ x ∈ m, (tupleKind (mixKind P w)).is h x.1 x.2.1 := by
    intro l m q
    induction q with
    | nil => intro x hx; exact nomatch hx
    | @cons p q ps qs hq t ih =>
      intro x hx
      rcases List.mem_cons.mp hx with e | hx
      · subst e
        exact key_of ok (by rw [← hq.1]; exact hq.2.1)
      · exact ih x hx
  exact all r x hx
theorem dt_of {kvs : List (List Key × V)} (ok : HOk P w H h) (e : H a = some (.dT kvs)) : kvs.length ≤ sizeLine ∧ (a == sysModules) = false ∧
    ∃ xs, KT H kvs xs ∧ h.DictOfH (tupleKind (mixKind P w)) a xs := dt_rd ok (.inl e)
end

/-- what the dict at a holds at the key y -/
def DGet (H : Hp) (a : Addr) (y : V) (r : Option V) : Prop :=
  (∃ kvs k, Rd H a (.dK kvs) ∧ y = kV k ∧ r = valV kvs k) ∨ ∃ kvs k b, Rd H a (.dT kvs) ∧ y = .ref b ∧ H b = some (.tup (k.map kV)) ∧ r = valV kvs k
/-- the heap behind a[y] = v -/
def DPut (H : Hp) (a : Addr) (y v : V) (H' : Hp) : Prop :=
  (∃ kvs k, H a = some (.dK kvs) ∧ y = kV k ∧ kvs.length < sizeLine ∧ H' = upd H a (.dK (putK kvs k v))) ∨
  ∃ kvs k b, H a = some (.dT kvs) ∧ y = .ref b ∧ H b = some (.tup (k.map kV)) ∧ kvs.length < sizeLine ∧ H' = upd H a (.dT (putK kvs k v))
theorem DGet.t {H : Hp} {a b : Addr} {kvs : List (List Key × V)} {k : List Key} (e : H a = some (.dT kvs)) (eb : H b = some (.tup (k.map kV))) : DGet H a (.ref b) (valV kvs k) := .inr ⟨kvs, k, b, .inl e, rfl, eb, rfl⟩
theorem DPut.t {H : Hp} {a b : Addr} {kvs : List (List Key × V)} {k : List Key} {v : V} (e : H a = some (.dT kvs)) (eb : H b = some (.tup (k.map kV))) (hl : kvs.length < sizeLine) :
    DPut H a (.ref b) v (upd H a (.dT (putK kvs k v))) := .inr ⟨kvs, k, b, e, rfl, eb, hl, rfl⟩


section
variable {X : Cx} {pins : List (Addr × Obj)} {σ : St} {H : Hp} {s : Shared} {a : Addr} {y v : V} {u r : Value} {o : Option V} {A : Around} {E : Value → Shared → Prop}

theorem Inv.big (I : Inv X pins σ H s) : sysModules < s.heap.objs.size := by
  have h : mainGlobals < s.heap.objs.size := (I.mod.glob.keeps I.bk).lt
  exact Nat.lt_trans (by decide) h

/-- a dict's object is replaced -/
theorem d_write {h' : Heap} {t' : Nat} {ob : HO} (I : Inv X pins σ H s) (mu : Mut (H a)) (hs : Heap.SameBut a s.heap h') (he : ∃ q, h'.get? a = some q) (new : ObjOk X.prog X.w (upd H a ob) h' a ob) :
    Inv X pins σ (upd H a ob) { s with heap := h', toks := t' } :=
  I.write (x := a) (e := a) mu (.inl rfl) (fun b q hb z => (hs.2 b hb).trans z) he new
theorem dk_new {P : Program} {w : World} {H' : Hp} {h' : Heap} {kvs : List (Key × V)} {vs : List (Key × Value)} (z : kvs.length ≤ sizeLine) (hd : (a == sysModules) = false) (rel : KV kvs vs) (dd : h'.DictOf (mixKind P w) a vs) :
    ObjOk P w H' h' a (.dK kvs) := ⟨z, hd, vs, rel, dd⟩
/-- d[y] = v -/
theorem d_setItem {H' : Hp} {Q : Unit → Shared → Prop} (hu : A.units + 1 < cLine) (I : Inv X pins σ H s) (g : DPut H a y v H') (ry : RelV y u) (rv : RelV v r) (h : ∀ s', Inv X pins σ H' s' → Q () s') :
    wpAny (model X.prog X.w) A (setItem (.ref a) u r) Q E s := by
  rcases g with ⟨kvs, k, e, ey, l, eH⟩ | ⟨kvs, k, b, e, ey, eb, l, eH⟩
  · subst ey eH
    obtain ⟨z, hd, vs, rel, dd⟩ := dk_of I.hok e
    have hz : vs.length ≤ sizeLine := by rw [← rel.length]; exact z
    have hl : (putK kvs k v).length ≤ sizeLine := by have := length_putK kvs k v; omega
    refine wpAny_setItem_pairs (hsz := hz) (kV_is ry) dd fun h' dd' hs => h _ ?_
    have he : ∃ q, h'.get? a = some q := let ⟨q, _, _, hq, _⟩ := dd'; ⟨q, hq⟩
    exact d_write I (by rw [e]; exact True.intro) hs he (dk_new hl hd (rel.put k rv) dd')
  · subst ey eH
    cases (show u = Value.ref b from ry)
    obtain ⟨z, hd, xs, rel, dd⟩ := dt_of I.hok e
    have hz : xs.length ≤ sizeLine := by rw [← Paired.length rel]; exact z
    have hl : (putK kvs k v).length ≤ sizeLine := by have := length_putK kvs k v; omega
    refine wpAny_setItem_heap (hsz := hz) (tupleKind_room_in1 hu) (key_of I.hok eb) dd fun h' dd' hs => h _ ?_
    obtain ⟨q, es, ep, hq, h2, h3, h4, _, h5⟩ := dd'
    refine d_write I (by rw [e]; exact True.intro) hs ⟨q, hq⟩ ⟨hl, hd, _, (rel.put k eb rv).keeps fun c ys ec => ?_, q, es, ep, hq, h2, h3, h4, h5⟩
    rw [upd_ne (ne_of ec e (fun z => nomatch z))]
    exact ec
end

section
variable {X : Cx} {pins : List (Addr × Obj)} {σ : St} {H : Hp} {s : Shared} {a : Addr} {kvs : List (Key × V)} {k : Key} {u : Value} {A : Around} {E : Value → Shared → Prop}
end


/-- d[y] = v -/
def sDPut (td ty tv : TE) : TS := fun D σ H => tv σ H fun v H1 => td σ H1 fun x H2 => ty σ H2 fun y H3 => ∃ a H4, x = .ref a ∧ DPut H3 a y v H4 ∧ D.nx σ H4
section
variable {X : Cx} {o i e value : Expr} {pos pos' tpos : Pos} {td ty tv : TE}
theorem ps_dput (hu : X.A.units + 1 < cLine) (ho : PE X o td) (hi : PE X i ty) (hv : PE X value tv) (hs : swapsWith value (some (.Subscript o i pos')) pos.line X.env = pure false) :
    PS X (.Assign [.Subscript o i pos'] value pos) (sDPut td ty tv) := by
  intro pins s σ H D I h
  refine wpAny_Assign_Subscript (thn (hv pins s σ H _ I h) fun r s1 ⟨v, H1, I1, rv, q1⟩ => thn (ho pins s1 σ H1 _ I1 q1) fun u s2 ⟨x, H2, I2, rx, q2⟩ => thn (hi pins s2 σ H2 _ I2 q2) fun iv s3 ⟨y, H3, I3, ry, a, H4, ex, g, q3⟩ => ?_) hs
  subst ex
  obtain rfl : u = Value.ref a := rx
  exact d_setItem hu I3 g ry rv fun s4 I4 => ⟨σ, H4, I4, q3⟩
end


theorem dt_empty {P : Program} {w : World} {H : Hp} (h : Heap) (hb : sysModules < h.objs.size) : ObjOk P w H (h.push { cls := .type "dict", data := .dict #[] }) h.objs.size (.dT []) :=
  ⟨Nat.zero_le _, beq_eq_false_iff_ne.mpr (Ne.symm (Nat.ne_of_lt hb)), [], .nil, _, #[], 0, Heap.get?_push_size _ rfl, ⟨rfl, rfl, rfl⟩, rfl, rfl, List.nodup_nil⟩
def tDNewT : TE := fun _ H Q => ∀ p, H p = none → Q (.ref p) (upd H p (.dT []))
section
variable {X : Cx} {pos : Pos}
theorem pe_dnewT : PE X (.Dict [] [] pos) tDNewT := fun pins s σ H Q I h =>
  wpAny_Dict_empty ⟨.ref s.heap.objs.size, _, I.laid (a := s.heap.objs.size) (o := .dT []) (t' := s.toks) (fun _ _ q => Heap.get?_push_of_some _ q) (Nat.le_refl _) (dt_empty s.heap I.big), rfl, h _ (I.hok.fresh (Nat.le_refl _))⟩
end

structure M2 (X : Cx) (o : Expr) (m : Str) (apos : Pos) (e f : Expr) (cpos : Pos) : Prop where
  base : attributeBase o m X.env (eval o X.env) = eval o X.env
  few : ((backTo cpos (starEach [e, f] X.env)).all (fun x => !x.1) && (backToKw cpos (keywordEach [] X.env)).all (fun x => x.1.isSome)
    && decide (([e, f] : List Expr).length + ([] : List Keyword).length + (if ([] : List Keyword).isEmpty then 0 else 1) < 30)) = true
  line : (apos.endLine == cpos.line) = true
  trees : backTo cpos (starEach [e, f] X.env) = [(false, eval e X.env), (false, eval f X.env)]

/-- a is a dict, whatever its keys -/
def IsD (H : Hp) (a : Addr) : Prop := (∃ kvs, Rd H a (.dK kvs)) ∨ ∃ kvs, Rd H a (.dT kvs)
theorem isD_at {X : Cx} {pins : List (Addr × Obj)} {σ : St} {H : Hp} {s : Shared} {a : Addr} (I : Inv X pins σ H s) (d : IsD H a) :
    s.TypeIs (.ref a) "dict" ∧ (∀ b, Value.ref a = .ref b → ∃ ob, s.heap.get? b = some ob ∧ ob.dict = none) ∧ (a == sysModules) = false := by
  rcases d with ⟨kvs, e⟩ | ⟨kvs, e⟩
  · obtain ⟨_, hd, vs, _, dd⟩ := dk_rd I.hok e
    refine ⟨dd.typeIs, fun b q => ?_, hd⟩
    cases q
    obtain ⟨ob, _, _, h1, h2, _⟩ := dd
    exact ⟨ob, h1, h2.2.1⟩
  · obtain ⟨_, hd, xs, _, dd⟩ := dt_rd I.hok e
    refine ⟨dd.typeIs, fun b q => ?_, hd⟩
    cases q
    obtain ⟨ob, _, _, h1, h2, _⟩ := dd
    exact ⟨ob, h1, h2.2.1⟩

section
variable {X : Cx} {pins : List (Addr × Obj)} {σ : St} {H : Hp} {s : Shared} {a : Addr} {y d : V} {u r : Value} {o : Option V} {A : Around} {E : Value → Shared → Prop}
/-- d.get(y, x) -/
theorem d_get2 {Q : Value → Shared → Prop} (hu : A.units + 1 < cLine) (I : Inv X pins σ H s) (g : DGet H a y o) (ry : RelV y u) (rd : RelV d r) (h : ∀ w' s', Inv X pins σ H s' → RelV (o.getD d) w' → Q w' s') :
    wpAny (model X.prog X.w) A (call (.builtin "dict.get") [.ref a, u, r]) Q E s := by
  rcases g with ⟨kvs, k, e, ey, l⟩ | ⟨kvs, k, b, e, ey, eb, l⟩
  · subst ey
    obtain ⟨z, hd, vs, rel, dd⟩ := dk_rd I.hok e
    refine call_meetsIn PySem.F.slot_dict_get dd.typeIs PySem.F.entry_dict_get (PySem.F.args_dict_get_3 _ _ _) (meets_dict_get_default (mixKind X.prog X.w) a (kV_is ry) hd r) ⟨_, dd.mapOf, h _ _ (I.tok _) ?_⟩
    rw [l]
    exact (rel.val k).getD rd
  · subst ey
    cases (show u = Value.ref b from ry)
    obtain ⟨z, hd, xs, rel, dd⟩ := dt_rd I.hok e
    refine call_meetsIn PySem.F.slot_dict_get dd.typeIs PySem.F.entry_dict_get (PySem.F.args_dict_get_3 _ _ _) (meetsH_dict_get_default (tupleKind (mixKind X.prog X.w)) a b hd r) ⟨tupleKind_room_in1 hu, k, xs, key_of I.hok eb, dd, h _ _ (I.tok _) ?_⟩
    rw [l]
    exact (rel.val k).getD rd
end

def tDGet2 (td ty tx : TE) : TE := fun σ H Q => td σ H fun x H1 => ∃ a, x = .ref a ∧ IsD H1 a ∧ ty σ H1 fun y H2 => tx σ H2 fun z H3 => ∃ o, DGet H3 a y o ∧ Q (o.getD z) H3
section
variable {X : Cx} {o e f : Expr} {apos cpos : Pos} {td ty tx : TE}
theorem pe_dget2 (hu : X.A.units + 1 < cLine) (ho : PE X o td) (he : PE X e ty) (hf : PE X f tx) (m : M2 X o "get" apos e f cpos) : PE X (.Call (.Attribute o "get" apos) [e, f] [] cpos) (tDGet2 td ty tx) := by
  intro pins s σ H Q I h
  refine wpAny_Call_method m.base m.few m.line PySem.F.plainAttrs_dict PySem.F.slot_dict_get PySem.F.type_dict_get (thn (ho pins s σ H _ I h) fun u s1 ⟨x, H1, I1, rx, a, ex, d, q1⟩ => ?_)
  subst ex
  obtain rfl : u = Value.ref a := rx
  obtain ⟨t1, t2, _⟩ := isD_at I1 d
  refine ⟨t1, t2, ?_⟩
  rw [m.trees]
  refine Calls.callWith_builtin rfl (Calls.evalArgs_plain (Calls.spliced_cons (thn (he pins s1 σ H1 _ I1 q1) fun iv s2 ⟨y, H2, I2, ry, q2⟩ =>
    Calls.spliced_cons (thn (hf pins s2 σ H2 _ I2 q2) fun fv s3 ⟨z, H3, I3, rz, ov, g, q3⟩ => Calls.spliced_nil ?_))))
  exact d_get2 hu I3 g ry rz fun w' s4 I4 rw' => ⟨_, H3, I4, rw', q3⟩
end

section
variable {X : Cx} {pins : List (Addr × Obj)} {σ : St} {H : Hp} {s : Shared} {a : Addr} {kvs : List (Key × V)} {A : Around} {E : Value → Shared → Prop}
end


section
variable {X : Cx} {pins : List (Addr × Obj)} {σ : St} {H : Hp} {s : Shared} {a : Addr} {y : V} {u : Value} {A : Around} {E : Value → Shared → Prop}
end
end L2

namespace L2
open PySem PySem.Spec PyProof.Rows

section
variable {prog : Program} {w : World} {A : Around} {E : Value → Shared → Prop}
end

section
variable {X : Cx}
end
end L2

namespace L2
open PySem PySem.Spec PyProof.Rows

section
variable {X : Cx} {pins : List (Addr × Obj)} {σ : St} {H : Hp} {s : Shared} {h' : Heap}
end
section
variable {X : Cx}
end

section
variable {X : Cx} {tg : Expr}
end
section
variable {X : Cx} {tg : Expr}
end

section
variable {prog : Program} {w : World} {A : Around} {E : Value → Shared → Prop} {s : Shared}
end

section
variable {X : Cx} {pins : List (Addr × Obj)} {σ : St} {H : Hp} {s : Shared} {d : Addr} {o : Obj}
end

section
variable {P : Program} {w : World} {K : PySem.W.Frag} {tg : Expr} {d : Addr} {o : Obj} {es : Array DictEntry} {ep : Nat}
end

section
variable {X : Cx} {tg e : Expr} {td : TE} {apos cpos : Pos}
end

end L2

section 
namespace Bits
open PySem PyProof.Rows

end Bits
end 

section 
namespace TL
open PySem PySem.Builtin PySem.Builtin.Str PySem.StrLaws

end TL
end 

namespace L2
open PySem PySem.Spec PyProof.Rows

section
variable {X : Cx} {pins : List (Addr × Obj)} {σ : St} {H : Hp} {s : Shared} {Q : VK}
end

section
variable {X : Cx}

end

section
variable {X : Cx} {o e : Expr} {to te : TE}
end
end L2

namespace L2
open PySem PySem.Spec PyProof.Rows

section
variable {X : Cx}
end

end L2

namespace Att
open PySem PySem.W PySem.Calls PyProof.Rows

section
variable {prog : Program} {w : World} {A : Around} {E : Value → Shared → Prop} {s : Shared} {K : Frag}

end
end Att

namespace L2
open PySem PySem.Spec PyProof.Rows

end L2

namespace L2
open PySem PySem.Spec PyProof.Rows

end L2


namespace L2
open PySem PySem.Spec PyProof.Rows

/-- the j-th statement of a class's body -/
def inClass (s : Stmt) (j : Nat) : Stmt := match s with
  | .ClassDef _ _ _ body _ _ _ _ _ _ _ => body.getD j (.Pass ⟨0, 0, 0, 0⟩)
  | _ => .Pass ⟨0, 0, 0, 0⟩
def defArgs (s : Stmt) : Arguments := match s with
  | .FunctionDef _ a _ _ _ _ _ _ _ _ => a
  | _ => { posonlyargs := [], args := [], vararg := none, kwonlyargs := [], kw_defaults := [], kwarg := none, defaults := [] }
def defBody (s : Stmt) : List Stmt := match s with
  | .FunctionDef _ _ b _ _ _ _ _ _ _ => b
  | _ => []
def defScope (s : Stmt) : Scope := match s with
  | .FunctionDef _ _ _ _ _ _ sc _ _ _ => sc
  | _ => { kind := .function, names := [], isGenerator := false, isCoroutine := false }

abbrev CX0 : CXT := fun _ _ _ _ _ _ => False
abbrev E0 : XK := fun _ _ _ => False
theorem pass0 {X : Cx} : Passes CX0 X E0 := fun _ _ _ _ _ _ _ h => h.elim

structure Fun (K : PySem.W.Frag) (x qual : Str) (st : Stmt) (f : Addr) (fd : FuncData) : Prop where
  ex : ∃ (oc : Value) (od : Option Addr) (kV doc pm : Value) (an : Option Addr) (cdv ct : Value) (osl : Array (Option Value)),
    fd = PySem.W.fnOf x qual (defArgs st) (defBody st) (defScope st) .none kV doc pm an cdv ct ∧ K.lookup f = some ⟨oc, od, .func fd, osl⟩ ∧ PySem.W.codeIn K cdv qual = true
  kp : PySem.W.keepIn K (.ref f) = true
section
variable {P : Program} {w : World} {K : PySem.W.Frag} {mg : Str → Option Value} {base : Heap}
/-- THE RULE for a def: its body as a term of rules, and the reading of that term -/
theorem Fun.ok {x qual : Str} {st : Stmt} {f : Addr} {fd : FuncData} {N ps : List Str} {k : Nat} {sp : Sp} (F : Fun K x qual st f fd) (S : FnScope N ps (defScope st)) (len : ∀ vs H Q E, sp vs H Q E → vs.length = ps.length)
    (hbody : ∀ (cdv : Value) (A : Around) (outer : List Env) (s : Shared) (H : Hp) (vs : List V) (Q : VK) (E : XK), Room k (A.deeper (envOfC qual (defScope st) s.heap.objs.size f cdv)) → sp vs H Q E →
      ∃ t, PSs (cxOf CX0 P w K mg base N qual (defScope st) f cdv A outer s H E).nox (defBody st) t ∧ t { nx := fun _ H' => Q .non H', rt := Q } (start N vs) H) : FnOk P w K mg base CX0 (k + 1) f fd ps sp := by
  obtain ⟨oc, od, kV, doc, pm, an, cdv, ct, osl, rfl, lk, hcd⟩ := F.ex
  refine fn_of lk hcd S len fun A outer s H vs Q E hr hsp => ?_
  obtain ⟨t, h, q⟩ := hbody cdv A outer s H vs Q E hr hsp
  exact ⟨t, h.nox, q⟩
/-- how its arguments bind (no defaults): h is «fun _ _ _ _ _ _ us hl => match us, hl with | [_, _], _ => rfl», one _ a parameter -/
theorem Fun.binds {x qual : Str} {st : Stmt} {f : Addr} {fd : FuncData} {ps : List Str} (F : Fun K x qual st f fd)
    (h : ∀ (kV doc pm : Value) (an : Option Addr) (cdv ct : Value) (us : List Value), us.length = ps.length → bindArgs (PySem.W.fnOf x qual (defArgs st) (defBody st) (defScope st) .none kV doc pm an cdv ct) ⟨us, []⟩ = pure (ps.zip us)) : Binds K fd ps [] := by
  obtain ⟨oc, od, kV, doc, pm, an, cdv, ct, osl, rfl, lk, hcd⟩ := F.ex
  exact .all (h kV doc pm an cdv ct)
theorem fun_mk {x qual : Str} {st : Stmt} {f : Addr} {oc : Value} {od an : Option Addr} {osl : Array (Option Value)} {kV doc pm cdv ct : Value} (l : K.lookup f = some ⟨oc, od, .func (PySem.W.fnOf x qual (defArgs st) (defBody st) (defScope st) .none kV doc pm an cdv ct), osl⟩)
    (c : PySem.W.codeIn K cdv qual = true) (k : PySem.W.keepIn K (.ref f) = true) : Fun K x qual st f (PySem.W.fnOf x qual (defArgs st) (defBody st) (defScope st) .none kV doc pm an cdv ct) := ⟨⟨oc, od, kV, doc, pm, an, cdv, ct, osl, rfl, l, c⟩, k⟩
end
theorem hu_of {A : Around} {k : Nat} (hr : Room k A) : A.units + 1 < cLine := Nat.lt_of_le_of_lt (Nat.add_le_add_left (by decide : 1 ≤ 64) _) hr.units
section
variable {X : Cx}
theorem pv (i : Nat) {x : Str} {pos : Pos} (hN : X.N[i]? = some x := by rfl) (hv : Vis X.env.scope x := by first | exact Or.inl rfl | exact Or.inr (Or.inl rfl) | exact Or.inr (Or.inr rfl)) (hd : (x == ("__debug__" : Str)) = false := by decide)
    (hcd : (x == ("__classdict__" : Str)) = false := by decide) : PE X (.Name x pos) (tVar i) := pe_var hN hv hd hcd
end

theorem iteF {A B : Prop} (h : B) : if false = true then A else B := by
  rw [if_neg Bool.false_ne_true]
  exact h
theorem iteT {A B : Prop} (h : A) : if true = true then A else B := by
  rw [if_pos rfl]
  exact h
theorem ite2 {c A B : Prop} [Decidable c] (h1 : c → A) (h2 : ¬ c → B) : if c then A else B := by
  by_cases h : c
  · rw [if_pos h]
    exact h1 h
  · rw [if_neg h]
    exact h2 h
/-- all that was tracked is as it was -/
def Same (H H' : Hp) : Prop := ∀ b o, H b = some o → H' b = some o
theorem Same.trans {H H1 H2 : Hp} (a : Same H H1) (b : Same H1 H2) : Same H H2 := fun c o h => b c o (a c o h)
theorem Same.free {H H' : Hp} (e : Same H H') {l : Addr} (h : H' l = Option.none) : H l = Option.none := by
  cases q : H l with
  | none => rfl
  | some o =>
    rw [e l o q] at h
    cases h
theorem Same.seq {K : PySem.W.Frag} {H H' : Hp} {a : Addr} {xs : List V} (e : Same H H') (h : SqL K H a xs) : SqL K H' a xs := by
  rcases h with (h | ⟨o, h⟩) | h
  · exact .inl (.inl (e _ _ h))
  · exact .inl (.inr ⟨o, e _ _ h⟩)
  · exact .inr h

section
variable {κ : Type} [DecidableEq κ]
theorem nd_snoc : ∀ {l : List κ} {k : κ}, l.Nodup → ¬ k ∈ l → (l ++ [k]).Nodup
  | [], k, _, _ => by simp
  | a :: r, k, h, hk => by
    obtain ⟨h1, h2⟩ := List.nodup_cons.mp h
    show (a :: (r ++ [k])).Nodup
    refine List.nodup_cons.mpr ⟨fun m => ?_, nd_snoc h2 fun m => hk (List.mem_cons.mpr (Or.inr m))⟩
    rcases List.mem_append.mp m with q | q
    · exact h1 q
    · exact hk (List.mem_cons.mpr (Or.inl (List.mem_singleton.mp q).symm))
end
/-- a new instance and its __init__ leave all that was tracked as it was -/
theorem Same.made {H H1 : Hp} {x dx C : Addr} (nx : H x = Option.none) (nd : H dx = Option.none) (k : ∀ b o, (upd (upd H dx (.own x)) x (.ins C dx [])) b = some o → b ≠ x → H1 b = some o) : Same H H1 := fun b o e =>
  k b o (by rw [upd_ne (ne_of_none e nx), upd_ne (ne_of_none e nd)]; exact e) (ne_of_none e nx)
end L2
end

section
section
set_option Elab.async false
set_option linter.all false
set_option maxRecDepth 100000
set_option maxHeartbeats 2000000
namespace L2
open PySem PySem.Spec PyProof.Rows
open PySem.W (WData Codec OpenSpec Well WellAll ReadsW ReadsAllW)
/-! ### an answer as data -/
mutual
/-- x stands for the datum d, lists and tuples all the way -/
inductive Dw (K : PySem.W.Frag) (H : Hp) : V → WData → Prop
  | non : Dw K H .non .none
  | bl (b : Bool) : Dw K H (.bl b) (.bool b)
  | int (i : Int) : Dw K H (.int i) (.int i)
  | str (x : Str) : Dw K H (.str x) (.str x)
  | byt (b : Array UInt8) : Dw K H (.byt b) (.bytes b.toList)
  | lst {a : Addr} {xs : List V} {ds : List WData} : SqL K H a xs → DwAll K H xs ds → Dw K H (.ref a) (.list ds)
  | tup {a : Addr} {xs : List V} {ds : List WData} : SqT K H a xs → DwAll K H xs ds → Dw K H (.ref a) (.tuple ds)
inductive DwAll (K : PySem.W.Frag) (H : Hp) : List V → List WData → Prop
  | nil : DwAll K H [] []
  | cons {v : V} {vs : List V} {d : WData} {ds : List WData} : Dw K H v d → DwAll K H vs ds → DwAll K H (v :: vs) (d :: ds)
end
theorem dw_ints {K : PySem.W.Frag} {H : Hp} : ∀ ns : List Int, DwAll K H (ns.map V.int) (ns.map WData.int)
  | [] => .nil
  | n :: r => .cons (.int n) (dw_ints r)
theorem ints_dw {K : PySem.W.Frag} {H : Hp} : ∀ (ns : List Int) (xs : List V), DwAll K H xs (ns.map WData.int) → xs = ns.map V.int
  | [], xs, h => by
    cases h
    rfl
  | n :: r, xs, h => by
    cases h with
    | cons h1 h2 =>
      cases h1
      rw [ints_dw r _ h2] <;> rfl
section
variable {P : Program} {w : World} {K : PySem.W.Frag} {H : Hp} {h : Heap} {R : PySem.W.WRecords} {cl : Str → Option Addr}
theorem sqL_at {a : Addr} {xs : List V} (hok : HOk P w H h) (KX : K.In h) (q : SqL K H a xs) : ∃ (its : List Value) (o : Obj) (n : Nat), Vals xs its ∧ h.get? a = some o ∧ o.cls = .type "list" ∧ o.data = .seq its.toArray n := by
  rcases q with q | ⟨o, its, n, e, hc, _, hd, _, hv⟩
  · obtain ⟨_, its, n, hv, e⟩ := (show ObjOk P w H h a (.lst xs) from q.ok hok)
    exact ⟨its, _, n, hv, e, rfl, rfl⟩
  · exact ⟨its.toList, o, n, hv, KX _ _ e, hc, by simp [hd]⟩
theorem sqT_at {a : Addr} {xs : List V} (hok : HOk P w H h) (KX : K.In h) (q : SqT K H a xs) : ∃ (its : List Value) (o : Obj) (n : Nat), Vals xs its ∧ h.get? a = some o ∧ o.cls = .type "tuple" ∧ o.data = .seq its.toArray n := by
  rcases q with q | ⟨o, its, n, e, hc, hd, _, hv⟩
  · obtain ⟨_, its, hv, o, e, hc, n, hd⟩ := (show ObjOk P w H h a (.tup xs) from q.ok hok)
    exact ⟨its, o, n, hv, e, hc, hd⟩
  · exact ⟨its.toList, o, n, hv, KX _ _ e, hc, by simp [hd]⟩
mutual
theorem Dw.reads (hok : HOk P w H h) (KX : K.In h) : ∀ (d : WData) (v : V) (u : Value), Dw K H v d → RelV v u → ∃ as, ReadsW R cl h u d as
  | .none, _, _, x, r => by
    cases x
    cases r
    exact ⟨_, ReadsW.none⟩
  | .bool b, _, _, x, r => by
    cases x
    cases r
    exact ⟨_, ReadsW.bool b⟩
  | .int i, _, _, x, r => by
    cases x
    obtain ⟨t, rfl⟩ := r
    exact ⟨_, ReadsW.int i t⟩
  | .str s, _, _, x, r => by
    cases x
    obtain ⟨t, rfl⟩ := r
    exact ⟨_, ReadsW.str s t⟩
  | .bytes b, _, _, x, r => by
    cases x
    obtain ⟨t, rfl⟩ := r
    exact ⟨_, ReadsW.bytes _ t⟩
  | .list ds, _, _, x, r => by
    cases x with
    | lst hs ha =>
      cases r
      obtain ⟨its, o, n, rv, ho, hc, hd⟩ := sqL_at hok KX hs
      obtain ⟨as, hr⟩ := Dw.readsAll hok KX ds _ its ha rv
      exact ⟨_, ReadsW.list ho hc hd hr⟩
  | .tuple ds, _, _, x, r => by
    cases x with
    | tup hs ha =>
      cases r
      obtain ⟨its, o, n, rv, ho, hc, hd⟩ := sqT_at hok KX hs
      obtain ⟨as, hr⟩ := Dw.readsAll hok KX ds _ its ha rv
      exact ⟨_, ReadsW.tuple ho hc hd hr⟩
  | .float _, _, _, x, _ => by cases x
  | .dict _, _, _, x, _ => by cases x
  | .bytearray _, _, _, x, _ => by cases x
  | .set _, _, _, x, _ => by cases x
  | .frozenset _, _, _, x, _ => by cases x
  | .obj _ _, _, _, x, _ => by cases x
theorem Dw.readsAll (hok : HOk P w H h) (KX : K.In h) : ∀ (ds : List WData) (vs : List V) (us : List Value), DwAll K H vs ds → Vals vs us → ∃ as, ReadsAllW R cl h us ds as
  | [], _, _, x, r => by
    cases x
    cases r
    exact ⟨_, ReadsAllW.nil⟩
  | d :: ds, _, _, x, r => by
    cases x with
    | cons h1 h2 =>
      cases r with
      | cons r1 r2 =>
        obtain ⟨as, q1⟩ := Dw.reads hok KX d _ _ h1 r1
        obtain ⟨bs, q2⟩ := Dw.readsAll hok KX ds _ _ h2 r2
        exact ⟨_, ReadsAllW.cons q1 q2⟩
end
end
/-! ### the arguments -/
mutual
/-- data that a codec tells -/
def plW : WData → Bool
  | .none => true
  | .bool _ => true
  | .int _ => true
  | .str _ => true
  | .bytes _ => true
  | .list xs => plWs xs
  | .tuple xs => plWs xs
  | _ => false
def plWs : List WData → Bool
  | [] => true
  | x :: r => plW x && plWs r
end
theorem plWs_map {α : Type} {f : α → WData} (h : ∀ a, plW (f a) = true) : ∀ l : List α, plWs (l.map f) = true
  | [] => rfl
  | x :: r => by
    show (plW (f x) && plWs (r.map f)) = true
    rw [h x, plWs_map h r] <;> rfl
theorem pl_enc : ∀ (c : Codec) (a : c.denote), plW (c.enc a) = true
  | .unit, _ => rfl
  | .bool, _ => rfl
  | .int _ _, _ => rfl
  | .nat _ _, _ => rfl
  | .u8, _ => rfl
  | .bytes _ _, _ => rfl
  | .text _ _ _ _, _ => rfl
  | .list _ _ c, a => plWs_map (fun x => pl_enc c x) a
  | .pair c d, a => by
    show (plW (c.enc a.1) && (plW (d.enc a.2) && true)) = true
    rw [pl_enc c a.1, pl_enc d a.2] <;> rfl
  | .triple c d e, a => by
    show (plW (c.enc a.1) && (plW (d.enc a.2.1) && (plW (e.enc a.2.2) && true))) = true
    rw [pl_enc c a.1, pl_enc d a.2.1, pl_enc e a.2.2] <;> rfl
  | .option c, none => rfl
  | .option c, some x => pl_enc c x
theorem pl_encAll : ∀ (cs : List Codec) (a : Codec.denoteAll cs), plWs (Codec.encAll cs a) = true
  | [], _ => rfl
  | c :: cs, a => by
    show (plW (c.enc a.1) && plWs (Codec.encAll cs a.2)) = true
    rw [pl_enc c a.1, pl_encAll cs a.2] <;> rfl
theorem weight_mem : ∀ {xs : List WData} {d : WData}, d ∈ xs → d.weight ≤ WData.weightAll xs
  | [], d, h => absurd h (by simp)
  | x :: r, d, h => by
    show d.weight ≤ x.weight + 1 + WData.weightAll r
    rcases List.mem_cons.mp h with e | m
    · rw [e]
      omega
    · have z := weight_mem m
      omega
def toV : Value → V
  | .none => .non
  | .bool b => .bl b
  | .int i _ => .int i
  | .str x _ => .str x
  | .bytes b _ => .byt b
  | .ref a => .ref a
  | _ => .non
/-- a value of the arguments, its objects among A -/
def OkU (A : List Addr) : Value → Prop
  | .none => True
  | .bool _ => True
  | .int _ _ => True
  | .str _ _ => True
  | .bytes _ _ => True
  | .ref a => a ∈ A
  | _ => False
theorem OkU.mono {A B : List Addr} (h : ∀ a ∈ A, a ∈ B) : ∀ {u : Value}, OkU A u → OkU B u := fun {u} x => by
  cases u with
  | ref a => exact h a x
  | none => trivial
  | bool b => trivial
  | int i t => trivial
  | str s t => trivial
  | bytes b t => trivial
  | _ => exact False.elim x
theorem relV_toV {A : List Addr} {u : Value} (x : OkU A u) : RelV (toV u) u := by
  cases u with
  | ref a => rfl
  | none => rfl
  | bool b => rfl
  | int i t => exact ⟨t, rfl⟩
  | str s t => exact ⟨t, rfl⟩
  | bytes b t => exact ⟨t, rfl⟩
  | _ => exact False.elim x
theorem vals_toV {A : List Addr} : ∀ {vs : List Value}, (∀ u ∈ vs, OkU A u) → Vals (vs.map toV) vs
  | [], _ => .nil
  | u :: r, h => .cons (relV_toV (h u (List.mem_cons_self ..))) (vals_toV fun x hx => h x (List.mem_cons_of_mem _ hx))
/-- an object of the arguments -/
def ArgOb (h : Heap) (A : List Addr) (a : Addr) : Prop := ∃ vs : List Value, vs.length ≤ sizeLine ∧ (∀ u ∈ vs, OkU A u) ∧
  (h.get? a = some { cls := .type "list", data := .seq vs.toArray } ∨ h.get? a = some { cls := .type "tuple", data := .seq vs.toArray })
theorem ArgOb.mono {h : Heap} {A B : List Addr} {a : Addr} (k : ∀ a ∈ A, a ∈ B) (x : ArgOb h A a) : ArgOb h B a := by
  obtain ⟨vs, h1, h2, h3⟩ := x
  exact ⟨vs, h1, fun u hu => (h2 u hu).mono k, h3⟩
theorem wellAll_len {P : Params} {h : Heap} : ∀ {vs : List Value} {ds : List WData}, WellAll P h vs ds → vs.length = ds.length
  | _, _, .nil => rfl
  | _, _, .cons _ b => by
    show _ + 1 = _ + 1
    rw [wellAll_len b]
theorem well_list {P : Params} {h : Heap} {v : Value} {ds : List WData} (x : Well P h v (.list ds)) : ∃ (a : Addr) (vs : List Value), v = .ref a ∧ h.get? a = some { cls := .type "list", data := .seq vs.toArray } ∧ WellAll P h vs ds := by
  cases x with
  | list ho hall => exact ⟨_, _, rfl, ho, hall⟩
theorem well_tuple {P : Params} {h : Heap} {v : Value} {ds : List WData} (x : Well P h v (.tuple ds)) : ∃ (a : Addr) (vs : List Value), v = .ref a ∧ h.get? a = some { cls := .type "tuple", data := .seq vs.toArray } ∧ WellAll P h vs ds := by
  cases x with
  | tuple ho hall => exact ⟨_, _, rfl, ho, hall⟩
theorem well_cons {P : Params} {h : Heap} {us : List Value} {d : WData} {ds : List WData} (x : WellAll P h us (d :: ds)) : ∃ (v : Value) (vs : List Value), us = v :: vs ∧ Well P h v d ∧ WellAll P h vs ds := by
  cases x with
  | cons a b => exact ⟨_, _, rfl, a, b⟩
theorem line_of {n : Nat} (h : n ≤ 1048576) : n ≤ sizeLine := Nat.le_trans h (by decide)
section
variable {P : Params} {h : Heap}
mutual
theorem area_one : ∀ (d : WData) (v : Value), Well P h v d → plW d = true → d.weight ≤ 1048576 → ∃ A : List Addr, OkU A v ∧ ∀ a ∈ A, ArgOb h A a
  | .none, _, x, _, _ => by
    cases x
    exact ⟨[], trivial, fun a m => absurd m (by simp)⟩
  | .bool b, _, x, _, _ => by
    cases x
    exact ⟨[], trivial, fun a m => absurd m (by simp)⟩
  | .int i, _, x, _, _ => by
    cases x
    exact ⟨[], trivial, fun a m => absurd m (by simp)⟩
  | .str s, _, x, _, _ => by
    cases x
    exact ⟨[], trivial, fun a m => absurd m (by simp)⟩
  | .bytes b, _, x, _, _ => by
    cases x
    exact ⟨[], trivial, fun a m => absurd m (by simp)⟩
  | .list ds, _, x, p, z => by
    obtain ⟨a, vs, rfl, ho, hall⟩ := well_list x
    have z2 : WData.weightAll ds ≤ 1048576 := z
    obtain ⟨A, h1, h2⟩ := area_all ds _ hall p fun d hd => Nat.le_trans (weight_mem hd) z2
    have k : ∀ b ∈ A, b ∈ a :: A := fun b hb => List.mem_cons_of_mem _ hb
    refine ⟨a :: A, List.mem_cons_self .., fun b hb => ?_⟩
    rcases List.mem_cons.mp hb with e | m
    · rw [e]
      exact ⟨vs, line_of (by rw [wellAll_len hall]; exact Nat.le_trans (PySem.W.length_le_weightAllW ds) z2), fun u hu => (h1 u hu).mono k, .inl ho⟩
    · exact (h2 b m).mono k
  | .tuple ds, _, x, p, z => by
    obtain ⟨a, vs, rfl, ho, hall⟩ := well_tuple x
    have z2 : WData.weightAll ds ≤ 1048576 := z
    obtain ⟨A, h1, h2⟩ := area_all ds _ hall p fun d hd => Nat.le_trans (weight_mem hd) z2
    have k : ∀ b ∈ A, b ∈ a :: A := fun b hb => List.mem_cons_of_mem _ hb
    refine ⟨a :: A, List.mem_cons_self .., fun b hb => ?_⟩
    rcases List.mem_cons.mp hb with e | m
    · rw [e]
      exact ⟨vs, line_of (by rw [wellAll_len hall]; exact Nat.le_trans (PySem.W.length_le_weightAllW ds) z2), fun u hu => (h1 u hu).mono k, .inr ho⟩
    · exact (h2 b m).mono k
  | .float _, _, _, p, _ => Bool.noConfusion (show false = true from p)
  | .dict _, _, _, p, _ => Bool.noConfusion (show false = true from p)
  | .bytearray _, _, _, p, _ => Bool.noConfusion (show false = true from p)
  | .set _, _, _, p, _ => Bool.noConfusion (show false = true from p)
  | .frozenset _, _, _, p, _ => Bool.noConfusion (show false = true from p)
  | .obj _ _, _, _, p, _ => Bool.noConfusion (show false = true from p)
theorem area_all : ∀ (ds : List WData) (vs : List Value), WellAll P h vs ds → plWs ds = true → (∀ d ∈ ds, d.weight ≤ 1048576) → ∃ A : List Addr, (∀ u ∈ vs, OkU A u) ∧ ∀ a ∈ A, ArgOb h A a
  | [], _, x, _, _ => by
    cases x
    exact ⟨[], fun u m => absurd m (by simp), fun a m => absurd m (by simp)⟩
  | d :: ds, _, x, p, z => by
    obtain ⟨v, vs, rfl, x1, x2⟩ := well_cons x
    have q : plW d = true ∧ plWs ds = true := Bool.and_eq_true_iff.mp p
    obtain ⟨A, a1, a2⟩ := area_one d v x1 q.1 (z d (List.mem_cons_self ..))
    obtain ⟨B, b1, b2⟩ := area_all ds vs x2 q.2 fun e he => z e (List.mem_cons_of_mem _ he)
    have kA : ∀ b ∈ A, b ∈ A ++ B := fun b hb => List.mem_append.mpr (.inl hb)
    have kB : ∀ b ∈ B, b ∈ A ++ B := fun b hb => List.mem_append.mpr (.inr hb)
    refine ⟨A ++ B, fun u hu => ?_, fun b hb => ?_⟩
    · rcases List.mem_cons.mp hu with e | m
      · rw [e]
        exact a1.mono kA
      · exact (b1 u m).mono kB
    · rcases List.mem_append.mp hb with m | m
      · exact (a2 b m).mono kA
      · exact (b2 b m).mono kB
end
end
/-- what is tracked of an argument's object -/
def hoOf (o : Obj) : Option HO := match o.data with
  | .seq vs _ => if (o.cls == Value.type "list") = true then some (.frz o (.lst (vs.toList.map toV))) else some (.frz o (.tup (vs.toList.map toV)))
  | _ => none
def argH (K : PySem.W.Frag) (h : Heap) (A : List Addr) : Hp := fun b => if b ∈ A then (if (K.lookup b).isNone = true then (h.get? b).bind hoOf else none) else none
/-- nothing is tracked but what is known to the object -/
def OnlyF (H : Hp) : Prop := ∀ b, H b = none ∨ ∃ o u, H b = some (.frz o u)
theorem hoOf_lst (vs : List Value) : hoOf { cls := .type "list", data := .seq vs.toArray } = some (.frz { cls := .type "list", data := .seq vs.toArray } (.lst (vs.map toV))) := by
  show (if (Value.type "list" == Value.type "list") = true then some (HO.frz { cls := .type "list", data := .seq vs.toArray } (.lst (vs.toArray.toList.map toV))) else some (HO.frz { cls := .type "list", data := .seq vs.toArray } (.tup (vs.toArray.toList.map toV)))) = _
  rw [if_pos (beq_self_eq_true _)]
theorem hoOf_tup (vs : List Value) : hoOf { cls := .type "tuple", data := .seq vs.toArray } = some (.frz { cls := .type "tuple", data := .seq vs.toArray } (.tup (vs.map toV))) := by
  show (if (Value.type "tuple" == Value.type "list") = true then some (HO.frz { cls := .type "tuple", data := .seq vs.toArray } (.lst (vs.toArray.toList.map toV))) else some (HO.frz { cls := .type "tuple", data := .seq vs.toArray } (.tup (vs.toArray.toList.map toV)))) = _
  rw [if_neg (by decide)]
section
variable {P : Program} {w : World} {K : PySem.W.Frag} {h : Heap} {A : List Addr}
theorem argH_at {b : Addr} {o : Obj} (hb : b ∈ A) (hk : K.lookup b = none) (e : h.get? b = some o) : argH K h A b = hoOf o := by
  unfold argH
  rw [if_pos hb, hk, if_pos (show (none : Option Obj).isNone = true from rfl), e] <;> rfl
theorem of_argH {b : Addr} {u : HO} (q : argH K h A b = some u) : b ∈ A ∧ K.lookup b = none := by
  unfold argH at q
  by_cases hb : b ∈ A
  · rw [if_pos hb] at q
    cases hk : K.lookup b with
    | none => exact ⟨hb, rfl⟩
    | some o =>
      rw [hk, if_neg (by simp)] at q
      cases q
  · rw [if_neg hb] at q
    cases q
/-- what stands tracked -/
theorem argH_is (ar : ∀ a ∈ A, ArgOb h A a) {b : Addr} {u : HO} (q : argH K h A b = some u) : K.lookup b = none ∧ ∃ vs : List Value, vs.length ≤ sizeLine ∧ (∀ u ∈ vs, OkU A u) ∧
    ((h.get? b = some { cls := .type "list", data := .seq vs.toArray } ∧ u = .frz { cls := .type "list", data := .seq vs.toArray } (.lst (vs.map toV))) ∨
     (h.get? b = some { cls := .type "tuple", data := .seq vs.toArray } ∧ u = .frz { cls := .type "tuple", data := .seq vs.toArray } (.tup (vs.map toV)))) := by
  obtain ⟨hb, hk⟩ := of_argH q
  obtain ⟨vs, h1, h2, h3⟩ := ar b hb
  refine ⟨hk, vs, h1, h2, ?_⟩
  rcases h3 with e | e
  · rw [argH_at hb hk e, hoOf_lst] at q
    exact .inl ⟨e, (Option.some.inj q).symm⟩
  · rw [argH_at hb hk e, hoOf_tup] at q
    exact .inr ⟨e, (Option.some.inj q).symm⟩
theorem argH_only (ar : ∀ a ∈ A, ArgOb h A a) : OnlyF (argH K h A) := fun b => by
  cases q : argH K h A b with
  | none => exact .inl rfl
  | some u =>
    obtain ⟨_, vs, _, _, ⟨_, e⟩ | ⟨_, e⟩⟩ := argH_is ar q
    · exact .inr ⟨_, _, by rw [e]⟩
    · exact .inr ⟨_, _, by rw [e]⟩
theorem argH_ok (ar : ∀ a ∈ A, ArgOb h A a) : HOk P w (argH K h A) h := fun b u q => by
  obtain ⟨_, vs, h1, h2, ⟨e, rfl⟩ | ⟨e, rfl⟩⟩ := argH_is ar q
  · exact ⟨e, by rw [List.length_map]; exact h1, vs, _, vals_toV h2, e⟩
  · exact ⟨e, by rw [List.length_map]; exact h1, vs, vals_toV h2, _, e, rfl, _, rfl⟩
theorem seq_inj {c c' : Value} {vs us : List Value} (e : (some { cls := c, data := .seq vs.toArray } : Option Obj) = some { cls := c', data := .seq us.toArray }) : c = c' ∧ vs = us := by
  have e1 := Option.some.inj e
  have e2 : c = c' := congrArg Obj.cls e1
  have e3 : Data.seq vs.toArray = Data.seq us.toArray := congrArg Obj.data e1
  injection e3 with e4
  refine ⟨e2, ?_⟩
  have e5 := congrArg Array.toList e4
  simpa using e5
/-- a list argument -/
theorem argL (KX : K.In h) (ar : ∀ a ∈ A, ArgOb h A a) {a : Addr} {vs : List Value} (ha : a ∈ A) (e : h.get? a = some { cls := .type "list", data := .seq vs.toArray }) : (∀ u ∈ vs, OkU A u) ∧ SqL K (argH K h A) a (vs.map toV) := by
  obtain ⟨us, h1, h2, h3⟩ := ar a ha
  have hu : us = vs := by
    rcases h3 with q | q
    · rw [e] at q
      exact (seq_inj q).2.symm
    · rw [e] at q
      exact absurd (Value.type.inj (seq_inj q).1) (by decide)
  subst hu
  refine ⟨h2, ?_⟩
  cases hk : K.lookup a with
  | none => exact .inl (.inr ⟨_, by rw [argH_at ha hk e, hoOf_lst]⟩)
  | some o =>
    have e2 := KX a o hk
    rw [e] at e2
    obtain rfl := Option.some.inj e2
    exact .inr ⟨_, us.toArray, _, hk, rfl, rfl, rfl, by rw [List.size_toArray]; exact h1, by simpa using vals_toV h2⟩
theorem argT (KX : K.In h) (ar : ∀ a ∈ A, ArgOb h A a) {a : Addr} {vs : List Value} (ha : a ∈ A) (e : h.get? a = some { cls := .type "tuple", data := .seq vs.toArray }) : (∀ u ∈ vs, OkU A u) ∧ SqT K (argH K h A) a (vs.map toV) := by
  obtain ⟨us, h1, h2, h3⟩ := ar a ha
  have hu : us = vs := by
    rcases h3 with q | q
    · rw [e] at q
      exact absurd (Value.type.inj (seq_inj q).1) (by decide)
    · rw [e] at q
      exact (seq_inj q).2.symm
  subst hu
  refine ⟨h2, ?_⟩
  cases hk : K.lookup a with
  | none => exact .inl (.inr ⟨_, by rw [argH_at ha hk e, hoOf_tup]⟩)
  | some o =>
    have e2 := KX a o hk
    rw [e] at e2
    obtain rfl := Option.some.inj e2
    exact .inr ⟨_, us.toArray, _, hk, rfl, rfl, by rw [List.size_toArray]; exact h1, by simpa using vals_toV h2⟩
mutual
theorem dw_one {Pm : Params} (KX : K.In h) (ar : ∀ a ∈ A, ArgOb h A a) : ∀ (d : WData) (v : Value), Well Pm h v d → plW d = true → OkU A v → Dw K (argH K h A) (toV v) d
  | .none, _, x, _, _ => by
    cases x
    exact .non
  | .bool b, _, x, _, _ => by
    cases x
    exact .bl b
  | .int i, _, x, _, _ => by
    cases x
    exact .int i
  | .str s, _, x, _, _ => by
    cases x
    exact .str s
  | .bytes b, _, x, _, _ => by
    cases x
    have z := Dw.byt (K := K) (H := argH K h A) b.toArray
    exact z
  | .list ds, _, x, p, hu => by
    obtain ⟨a, vs, rfl, ho, hall⟩ := well_list x
    obtain ⟨h2, hs⟩ := argL KX ar hu ho
    exact .lst hs (dw_all KX ar ds _ hall p h2)
  | .tuple ds, _, x, p, hu => by
    obtain ⟨a, vs, rfl, ho, hall⟩ := well_tuple x
    obtain ⟨h2, hs⟩ := argT KX ar hu ho
    exact .tup hs (dw_all KX ar ds _ hall p h2)
  | .float _, _, _, p, _ => Bool.noConfusion (show false = true from p)
  | .dict _, _, _, p, _ => Bool.noConfusion (show false = true from p)
  | .bytearray _, _, _, p, _ => Bool.noConfusion (show false = true from p)
  | .set _, _, _, p, _ => Bool.noConfusion (show false = true from p)
  | .frozenset _, _, _, p, _ => Bool.noConfusion (show false = true from p)
  | .obj _ _, _, _, p, _ => Bool.noConfusion (show false = true from p)
theorem dw_all {Pm : Params} (KX : K.In h) (ar : ∀ a ∈ A, ArgOb h A a) : ∀ (ds : List WData) (vs : List Value), WellAll Pm h vs ds → plWs ds = true → (∀ u ∈ vs, OkU A u) → DwAll K (argH K h A) (vs.map toV) ds
  | [], _, x, _, _ => by
    cases x
    exact .nil
  | d :: ds, _, x, p, hu => by
    obtain ⟨v, vs, rfl, x1, x2⟩ := well_cons x
    have q : plW d = true ∧ plWs ds = true := Bool.and_eq_true_iff.mp p
    exact .cons (dw_one KX ar d v x1 q.1 (hu _ (List.mem_cons_self ..))) (dw_all KX ar ds vs x2 q.2 fun u m => hu u (List.mem_cons_of_mem _ m))
end
end
/-! ### the call -/
theorem spec_call {P : Program} {w : World} {K : PySem.W.Frag} {mg mb : Str → Option Value} {CX : CXT} {k : Nat} {fa : Addr} {fd : FuncData} {ps : List Str} {sp : Sp} {s₁ : Shared} {vals : List Value} {ds : List WData} {R : PySem.W.WRecords} {cl : Str → Option Addr} {d0 : WData}
    (KX : K.In s₁.heap) (hns : s₁.heap.Ns mainGlobals mg) (hb : s₁.heap.Ns builtinsNs mb) (hbb : ∀ x : Str, x ≠ "__name__" → mb x = bootBuiltins x) (hlim : s₁.heap.NoLimit) (hg : s₁.gens = #[])
    (hwl : WellAll w.params s₁.heap vals ds) (hpl : plWs ds = true) (hwt : ∀ d ∈ ds, d.weight ≤ 1048576) (hr : Room k callerA)
    (F : ∀ base : Heap, K.In base → base.Ns mainGlobals mg → FnOk P w K mg base CX k fa fd ps sp) (hbind : ∀ (s : Shared) (us : List Value), us.length = ps.length → BindsTo s fd ⟨us, []⟩ (ps.zip us)) (hlen : ds.length = ps.length)
    (hsp : ∀ (H : Hp) (xs : List V), OnlyF H → DwAll K H xs ds → sp xs H (fun v H' => Dw K H' v d0) fun _ _ _ => False)
    (hCX : ∀ H e s', CX [] H s₁ (fun _ _ _ => False) e s' → False) :
    codeAny (model P w) callerA (.call (.ref fa) ⟨vals, []⟩) (fun r s' => ∃ u as, r = .ok (.ret u) ∧ ReadsW R cl s'.heap u d0 as ∧ OldK s₁.heap s'.heap ∧ s'.os = s₁.os ∧ AllBare s'.gens) s₁ := by
  obtain ⟨A, ho, ar⟩ := area_all ds vals hwl hpl hwt
  have hO : OnlyF (argH K s₁.heap A) := argH_only ar
  have hok : HOk P w (argH K s₁.heap A) s₁.heap := argH_ok ar
  have hS := dw_all KX ar ds vals hwl hpl ho
  have hV := vals_toV ho
  have hK : ∀ b u, argH K s₁.heap A b = some u → K.lookup b = none := fun b u q => (argH_is ar q).1
  have noA : ∀ {b : Addr} {o : Obj} {es : Array DictEntry} {ep : Nat}, s₁.heap.get? b = some o → o.data = .dict es ep → argH K s₁.heap A b = none := fun {b o es ep} e d => by
    cases q : argH K s₁.heap A b with
    | none => rfl
    | some u =>
      obtain ⟨_, vs, _, _, ⟨e2, _⟩ | ⟨e2, _⟩⟩ := argH_is ar q
      · rw [e2] at e
        cases e
        have d' : Data.seq vs.toArray _ = Data.dict es ep := d
        cases d'
      · rw [e2] at e
        cases e
        have d' : Data.seq vs.toArray _ = Data.dict es ep := d
        cases d'
  generalize argH K s₁.heap A = H at hO hok hS hK noA
  have base_of : ∀ {b : Addr} {o : Obj}, s₁.heap.get? b = some o → H b = none → (hidT s₁.heap H).get? b = some o := fun e n => hidT_get e n
  have nsK : ∀ {b : Addr} {m : Str → Option Value}, s₁.heap.Ns b m → (hidT s₁.heap H).Ns b m := fun {b m} ⟨o, es, ep, e, d, r⟩ => ⟨o, es, ep, base_of e (noA e d), d, r⟩
  have nK : ∀ b o, K.lookup b = some o → H b = none := fun b o e => by
    cases q : H b with
    | none => rfl
    | some u =>
      rw [hK b u q] at e
      cases e
  have hKb : K.In (hidT s₁.heap H) := fun b o e => base_of (KX b o e) (nK b o e)
  have hM : Mod K mg (hidT s₁.heap H) := ⟨hKb, nsK hns, ⟨mb, nsK hb, hbb⟩, let ⟨mc, h1, h2⟩ := hlim; ⟨mc, nsK h1, h2⟩⟩
  have e0 : Env0 P w K mg (hidT s₁.heap H) callerA [] s₁ H := ⟨rfl, hM, fun b o e => of_hidT e, Nat.le_of_eq (hidT_size _ _), trivial, fun b hb => absurd (show b ∈ ([] : List Addr) from hb) (by simp), hok, .of_eq hg⟩
  have hl : vals.length = ps.length := by rw [wellAll_len hwl]; exact hlen
  refine codeAny_mono ((F _ hKb (nsK hns)).run callerA [] s₁ H ⟨vals, []⟩ vals (vals.map toV) _ _ hr e0 (hbind s₁ vals hl) hV (hsp H _ hO hS)) fun r s' x => ?_
  cases r with
  | error e => exact (hCX H e s' x).elim
  | ok fl =>
    cases fl with
    | next => exact False.elim x
    | brk => exact False.elim x
    | cont => exact False.elim x
    | ret u =>
      obtain ⟨v, H', os, bare, un, hok', r', q⟩ := x
      have kept : ∀ b o, s₁.heap.get? b = some o → s'.heap.get? b = some o := fun b o e => by
        cases q2 : H b with
        | none => exact un.keep b o e q2 (by intro z; exact absurd (show b ∈ ([] : List Addr) from z) (by simp)) (by simp)
        | some u2 =>
          rcases hO b with z | ⟨ob, u3, z⟩
          · rw [q2] at z
            cases z
          · have z2 := un.frzs b ob _ z
            obtain ⟨e1, _⟩ := hok b _ z
            obtain ⟨e2, _⟩ := hok' b _ z2
            rw [e] at e1
            cases e1
            exact e2
      have KX' : K.In s'.heap := fun b o e => kept b o (KX b o e)
      obtain ⟨as, hrd⟩ := Dw.reads (R := R) (cl := cl) hok' KX' d0 v u q r'
      exact ⟨u, as, rfl, hrd, OldK.of_keep kept, os, bare⟩
/-! ### the row -/
theorem layable_weight {ds : List WData} (h : WData.layableAll ds = true) : ∀ d ∈ ds, d.weight ≤ 1048576 := fun d hd =>
  (PySem.W.layableW_iff.mp (List.all_eq_true.mp h d hd)).2.2
theorem encAll_len : ∀ (cs : List Codec) (a : Codec.denoteAll cs), (Codec.encAll cs a).length = cs.length
  | [], _ => rfl
  | c :: cs, a => by
    show (Codec.encAll cs a.2).length + 1 = cs.length + 1
    rw [encAll_len cs a.2]
/-- the goal that k_headS leaves (case hc), from the promise of the row's def: whatever the arguments that the codecs let and the row asks for, the def gives what stands for enc (f ..) -/
theorem walk_spec {r : OpenSpec} {k : Nat} {q : Program} {loose : List Str} {XP : (Str → Option Value) → Heap → Prop} {YP : World → Heap → Prop} {d : DefRec} {K : Params → PySem.W.Frag} {CX : World → CXT} {ps : List Str} {sp : World → Sp}
    (hwell : r.wellSaid = true) (hdf : d.params.defaults = []) (hlen : r.args.length = ps.length) (hr : Room k callerA)
    (hY : ∀ (w : World) (h : Heap), YP w h → (K w.params).In h)
    (F : ∀ (w : World) (mg : Str → Option Value) (fa : Addr) (h : Heap), YP w h → (K w.params).In h → h.Ns mainGlobals mg → mg d.name = some (.ref fa) →
      ∃ fd : FuncData, (∀ (s : Shared) (us : List Value), us.length = ps.length → BindsTo s fd ⟨us, []⟩ (ps.zip us)) ∧
        ∀ base : Heap, (K w.params).In base → base.Ns mainGlobals mg → FnOk r.prog w (K w.params) mg base (CX w) k fa fd ps (sp w))
    (hsp : ∀ (w : World) (H : Hp) (xs : List V) (a : Codec.denoteAll r.args), OnlyF H → Codec.withinAll r.args a = true → Codec.app r.args r.asked a = true → DwAll (K w.params) H xs (Codec.encAll r.args a) →
      sp w xs H (fun v H' => Dw (K w.params) H' v (r.ret.enc (Codec.app r.args r.f a))) fun _ _ _ => False)
    (hCX : ∀ (w : World) (H : Hp) (s : Shared) (e : Value) (s' : Shared), CX w [] H s (fun _ _ _ => False) e s' → False) :
    PySem.W.WalkOS q loose XP YP r d [] (fun f vs => PySem.call f vs) := by
  intro w s_0 s₁ mg mb G Y fa o pm cd doc dV kV ho hd hcd hD hmg hg args vals as hpre hlay hrd hwl hlo
  obtain ⟨a, e1, e2⟩ := PySem.W.os_pre_some hpre
  obtain ⟨e3, hwi⟩ := Codec.encAll_of_decAll r.args args a e1
  subst e3
  have KX := hY w _ Y
  obtain ⟨fd, hb, hF⟩ := F w mg fa _ Y KX G.T.g hmg
  refine PySem.W.enter_call (codeAny_mono (spec_call (R := []) (cl := classAt s_0.heap) (d0 := r.ret.enc (Codec.app r.args r.f a)) KX G.T.g G.T.b G.T.builtins G.T.nolimit hg hwl (pl_encAll _ _) (layable_weight hlay) hr hF hb (by rw [encAll_len]; exact hlen)
    (fun H xs hO hS => hsp w H xs a hO hwi e2 hS) fun H e s' => hCX w H s₁ e s') fun r' s' hq => ?_)
  obtain ⟨u, as', rfl, h1, h2, h3, h4⟩ := hq
  exact ⟨.inl ⟨u, _, as', rfl, fun _ => rfl, h1, (OpenSpec.post_iff hwell hwi _ _).mpr rfl, fun z => Bool.noConfusion (show false = true from z)⟩, h2, h3, h4⟩
/-- the same where the promise hangs on the written part alone -/
theorem walk_specK {r : OpenSpec} {k : Nat} {q : Program} {loose : List Str} {XP : (Str → Option Value) → Heap → Prop} {YP : World → Heap → Prop} {d : DefRec} {K : Params → PySem.W.Frag} {CX : CXT} {ps : List Str} {sp : PySem.W.Frag → Sp}
    (hwell : r.wellSaid = true) (hdf : d.params.defaults = []) (hlen : r.args.length = ps.length) (hr : Room k callerA)
    (hY : ∀ (w : World) (h : Heap), YP w h → (K w.params).In h)
    (F : ∀ (w : World) (mg : Str → Option Value) (fa : Addr) (h : Heap), YP w h → (K w.params).In h → h.Ns mainGlobals mg → mg d.name = some (.ref fa) →
      ∃ fd : FuncData, (∀ (s : Shared) (us : List Value), us.length = ps.length → BindsTo s fd ⟨us, []⟩ (ps.zip us)) ∧
        ∀ base : Heap, (K w.params).In base → base.Ns mainGlobals mg → FnOk r.prog w (K w.params) mg base CX k fa fd ps (sp (K w.params)))
    (hsp : ∀ (K : PySem.W.Frag) (H : Hp) (xs : List V) (a : Codec.denoteAll r.args), OnlyF H → Codec.withinAll r.args a = true → Codec.app r.args r.asked a = true → DwAll K H xs (Codec.encAll r.args a) →
      sp K xs H (fun v H' => Dw K H' v (r.ret.enc (Codec.app r.args r.f a))) fun _ _ _ => False)
    (hCX : ∀ (H : Hp) (s : Shared) (e : Value) (s' : Shared), CX [] H s (fun _ _ _ => False) e s' → False) :
    PySem.W.WalkOS q loose XP YP r d [] (fun f vs => PySem.call f vs) :=
  walk_spec (K := K) (CX := fun _ => CX) (sp := fun w => sp (K w.params)) hwell hdf hlen hr hY F (fun w H xs a h1 h2 h3 h4 => hsp (K w.params) H xs a h1 h2 h3 h4) fun _ H s e s' => hCX H s e s'
end L2
end

section
set_option Elab.async false
set_option linter.all false
set_option maxRecDepth 100000
set_option maxHeartbeats 2000000
namespace L2
open PySem PySem.Spec PyProof.Rows

/-! ### a lambda that is called while the def that made it still runs -/
structure LamScope (N P : List Str) (sc : Scope) : Prop where
  kind : sc.kind = .function
  co : sc.isCoroutine = false
  gen : sc.isGenerator = false
  nd : N.Nodup
  pre : N.take P.length = P
  par : ∀ x ∈ P, sc.names.lookup x = some .local
  nocell : ∀ y ∈ sc.names, y.2 ≠ .cell

/-- the context of a lambda's body, entered at s -/
def cxLam (X : Cx) (N : List Str) (qual : Str) (sc : Scope) (f : Addr) (cd : Value) (cl : List (Str × Addr)) (s : Shared) (H : Hp) : Cx where
  prog := X.prog
  w := X.w
  K := X.K
  mg := X.mg
  base := X.base
  A := X.A.in1.deeper (PySem.W.envX qual sc s.heap.objs.size f cd cl)
  N := N
  s_0 := s
  H_0 := H
  env := PySem.W.envX qual sc s.heap.objs.size f cd cl
  outer := X.stack
  stack := PySem.W.envX qual sc s.heap.objs.size f cd cl :: X.stack
  ex := []
  fn := fun _ => false
  calm := true
  pn := []
  xe := fun _ _ => False

/-- what the lambda's names stand for when it is called: a parameter, or a cell of the def around it -/
def LamVals (sc : Scope) (N : List Str) (binds : List (Str × Value)) (cl : List (Str × Addr)) (h : Heap) (τ : St) : Prop :=
  ∀ (i : Nat) (x : Str) (v : V), N[i]? = some x → τ[i]? = some (some v) →
    ∃ u, RelV v u ∧ ((sc.names.lookup x = some .local ∧ binds.reverse.lookup x = some u) ∨ (sc.names.lookup x = some .free ∧ ∃ c, cl.lookup x = some c ∧ h.IsCell c (some u)))

theorem inv_lam {X : Cx} {pins : List (Addr × Obj)} {σ : St} {H : Hp} {s : Shared} {N ps : List Str} {qual : Str} {sc : Scope} {f : Addr} {cd : Value} {cl : List (Str × Addr)} {binds : List (Str × Value)} {τ : St} {h' : Heap} {tk : Nat}
    (I : Inv X pins σ H s) (S : LamScope N ps sc) (hd : X.A.handled = none) (hcl : ∀ x c, cl.lookup x = some c → X.env.cells.lookup x = some c) (hfr : ∀ x, sc.names.lookup x = some .free → ∃ c, cl.lookup x = some c)
    (hl : τ.length = N.length) (hv : LamVals sc N binds cl s.heap τ) (hns : h'.Ns s.heap.objs.size (fun x => binds.reverse.lookup x)) (hk : ∀ b o, s.heap.get? b = some o → h'.get? b = some o) :
    Inv (cxLam X N qual sc f cd cl s H) [] τ H { s with heap := h', toks := tk } := by
  have e0 := I.env0.in1
  have noA : ∀ b : Addr, b ∉ (cxLam X N qual sc f cd cl s H).ex := fun b z => absurd (show b ∈ ([] : List Addr) from z) (by simp)
  have cellK : ∀ c v, s.heap.IsCell c v → h'.IsCell c v := fun c v ⟨o, ho, hd⟩ => ⟨o, hk _ _ ho, hd⟩
  refine ⟨⟨e0.mod, S.kind, rfl, rfl, Nat.le_refl _, fun y z c h1 h2 => I.ok.inj y z c (hcl y c h1) (hcl z c h2), fun y hy => ?_, fun y c hf _ => ?_, fun _ => hd, Around.frames_deeper e0.frames, .inr ⟨rfl, rfl⟩, fun b z => absurd z (noA b), e0.bs, e0.bsz, fun b _ _ => noA b, fun b z => absurd z (noA b), e0.funs, e0.frf⟩,
    rfl, e0.bare, Un.kept hk, ⟨_, hns, fun i y v h1 h2 h3 => ?_⟩, fun y c h => ?_, e0.hok.fresh (Nat.le_refl _), fun y c h => I.freeC y c (hcl y c h), fun p hp => absurd (show p ∈ ([] : List (Addr × Obj)) from hp) (by simp), e0.hok.kept hk, hl⟩
  · have hy : sc.names.lookup y = some .cell ∨ sc.names.lookup y = some .free := hy
    rcases hy with hy | hy
    · exact absurd rfl (S.nocell _ (PySem.mem_of_lookup hy))
    · exact hfr y hy
  · exact absurd (show false = true from hf) Bool.false_ne_true
  · obtain ⟨u, r, q⟩ := hv i y v h1 h2
    refine ⟨u, r, ?_⟩
    rcases q with ⟨k, e⟩ | ⟨k, c, e, z⟩
    · exact .inl ⟨k, e⟩
    · exact .inr ⟨.inr k, c, e, cellK _ _ z⟩
  · obtain ⟨v, z⟩ := I.cell y c (hcl y c h)
    exact ⟨v, cellK _ _ z⟩

/-- the call of a lambda from within a built-in that the def calls -/
theorem lam_call {X : Cx} {pins : List (Addr × Obj)} {σ : St} {H : Hp} {s : Shared} {N ps : List Str} {name qual : Str} {params : Arguments} {body : Expr} {sc : Scope} {f c' : Addr} {pm ctv : Value} {cl : List (Str × Addr)} {us : List Value} {τ : St} {t : TE} {Q : VK}
    (I : Inv X pins σ H s) (S : LamScope N ps sc) (hdp : X.A.depth < recursionLimit) (hd : X.A.handled = none) (hcl : ∀ x c, cl.lookup x = some c → X.env.cells.lookup x = some c) (hfr : ∀ x, sc.names.lookup x = some .free → ∃ c, cl.lookup x = some c)
    (ho : s.heap.get? f = some (PySem.W.kla_obj name qual params body sc cl pm c' ctv)) (hcd : s.heap.CodeRec (.ref c') qual)
    (hbind : bindArgs (PySem.W.kla_fn name qual params body sc cl pm (.ref c') ctv) ⟨us, []⟩ = pure (ps.zip us))
    (hl : τ.length = N.length) (hv : LamVals sc N (ps.zip us) cl s.heap τ)
    (ht : PE (cxLam X N qual sc f (.ref c') cl s H) body t) (hq : t τ H Q) :
    wpAny (model X.prog X.w) X.A.in1 (call (.ref f) us) (EP X pins σ Q) (fun _ _ => False) s := by
  refine wpAny_call ?_
  have hkind : ∀ y ∈ ps.zip us, sc.names.lookup y.1 = some .local := fun ⟨n, v⟩ hy => S.par n (List.of_mem_zip hy).1
  refine PySem.W.kla_callFunE (by exact hdp) ho rfl S.co S.gen rfl hcd ?_
  rw [hbind]
  refine wpAny_pure (wpAny_newFunctionEnv S.nocell hkind (fun h₁ hns hsb => ⟨I.nolimit.fresh _ hsb, ?_⟩) S.kind)
  have hk₁ : ∀ b o, s.heap.get? b = some o → h₁.get? b = some o := fun b o e => hsb.extBut b o (Nat.ne_of_lt (Heap.lt_size e)) (Heap.get?_push_of_some _ e)
  show codeAny _ _ (.expr body (PySem.W.envX qual sc s.heap.objs.size f (.ref c') cl)) _ _
  have J : Inv (cxLam X N qual sc f (.ref c') cl s H) [] τ H { s with heap := h₁, toks := s.toks + (ps.zip us).length } := inv_lam I S hd hcl hfr hl hv hns hk₁
  refine PySem.W.kla_codeExpr (wpAny_mono (ht [] _ τ H Q J hq) (fun u s' hu => ?_) fun _ _ z => False.elim z)
  obtain ⟨v, H', J', rv, q⟩ := hu
  exact I.after (u := u) ⟨v, H', J'.os, J'.bare, J'.base, J'.hok, rv, q⟩
end L2
end

section
set_option Elab.async false
set_option linter.all false
set_option maxRecDepth 100000
set_option maxHeartbeats 2000000
namespace L2
open PySem PySem.Spec PyProof.Rows

/-- what a code record at c' is known by -/
def crec (c' : Addr) (qual : Str) : HO := .ext fun h => h.CodeRec (.ref c') qual
/-- the table at P of a def's code knows of the lambda at pos, if anything, that its code bears the name qual -/
def TabOk (H : Hp) (P : Addr) (pos : Pos) (qual : Str) : Prop :=
  ∃ ps, H P = some (.tbl ps) ∧ TriplesOk ps.toList ∧ (codeAmong pos ps.toList = none ∨ ∃ c', codeAmong pos ps.toList = some (.ref c') ∧ H c' = some (crec c' qual))
theorem TabOk.same {H H' : Hp} {P : Addr} {pos : Pos} {qual : Str} (t : TabOk H P pos qual) (k : ∀ b o, H b = some o → H' b = some o) : TabOk H' P pos qual := by
  obtain ⟨ps, e, h1, h2⟩ := t
  refine ⟨ps, k _ _ e, h1, ?_⟩
  rcases h2 with h2 | ⟨c', h2, h3⟩
  · exact .inl h2
  · exact .inr ⟨c', h2, k _ _ h3⟩
/-- the module of the built-in names, as the top left it -/
def BMain (mg : Str → Option Value) (base : Heap) : Prop := ∃ bm ob, mg "__builtins__" = some (.ref bm) ∧ bm ≠ builtinsNs ∧ base.get? bm = some ob ∧ ob.cls = .type "module" ∧ ob.dict = some builtinsNs ∧ ob.data = .plain

theorem triples_snoc {a b c : Value} {i j : Int} {t u : Tok} : ∀ (l : List Value), TriplesOk l → TriplesOk (l ++ [.int i t, .int j u, c])
  | [], _ => True.intro
  | [x], h => by cases x <;> exact False.elim h
  | [x, y], h => by cases x <;> first | exact False.elim h | (cases y <;> exact False.elim h)
  | x :: y :: z :: r, h => by
    cases x with
    | int _ _ =>
      cases y with
      | int _ _ => exact triples_snoc (a := a) (b := b) (c := c) (i := i) (j := j) (t := t) (u := u) r h
      | _ => exact False.elim h
    | _ => exact False.elim h

theorem codeRec_stay {c' : Addr} {qual : Str} {h1 h2 : Heap} (x : h1.CodeRec (.ref c') qual) (k : ∀ o, h1.get? c' = some o → h2.get? c' = some o) : h2.CodeRec (.ref c') qual := by
  obtain ⟨c, oc, vs, tq, e, hoc, r⟩ := x
  cases e
  exact ⟨c', oc, vs, tq, rfl, k _ hoc, r⟩

section
variable {X : Cx} {pins : List (Addr × Obj)} {σ : St} {H : Hp} {s : Shared} {A : Around} {E : Value → Shared → Prop} {Q : Value → Shared → Prop} {params : Arguments} {body : Expr} {sc : Scope} {pos : Pos} {qual : Str} {c P : Addr} {cl : List (Str × Addr)}
theorem lam_make (I : Inv X pins σ H s) (hcode : X.env.code = .ref c) (C : PySem.W.CodeHd X.base c P) (hT : TabOk H P pos qual) (hB : BMain X.mg X.base) (hqual : X.env.qual ++ "<lambda>" = qual)
    (hdef : defaultsOf params X.env = ([], [])) (hcl : closureFor sc X.env = pure cl)
    (h : ∀ (f c' : Addr) (ctv pm : Value) (s' : Shared) (H' : Hp), Inv X ((f, PySem.W.kla_obj "<lambda>" qual params body sc cl pm c' ctv) :: pins) σ H' s' → H' c' = some (crec c' qual) → (∀ b o, H b = some o → b ≠ P → H' b = some o) → TabOk H' P pos qual → Q (.ref f) s') :
    wpAny (model X.prog X.w) A (eval (.Lambda params body sc pos) X.env) Q E s := by
  obtain ⟨ps, eP, hok, hcase⟩ := hT
  obtain ⟨bm, ob, b1, b2, b3, b4, b5, b6⟩ := hB
  have hP : s.heap.get? P = some (PySem.W.tabObj ps) := I.hok P _ eP
  have hgs : s.heap.Ns mainGlobals X.mg := I.ok.mod.glob.keeps I.bk
  have hgP : mainGlobals ≠ P := fun q => by
    obtain ⟨o, es, ep, e, hd, _⟩ := hgs
    rw [q, hP] at e; cases e; cases hd
  have hbP : bm ≠ P := fun q => by
    have e := I.bk _ _ b3
    rw [q, hP] at e; cases e; cases b4
  have hbG : bm ≠ mainGlobals := fun q => by
    obtain ⟨o, es, ep, e, hd, _⟩ := I.ok.mod.glob
    rw [q, e] at b3; cases b3; rw [hd] at b6; cases b6
  have hBA : s.heap.BuiltinsAt X.mg P := ⟨bm, ob, b1, b2, hbG, hbP, I.bk _ _ b3, b4, b5, b6⟩
  have fpin : ∀ {f : Addr} {o : Obj} {H' : Hp} {s' : Shared} , Inv X pins σ H' s' → s'.heap.get? f = some o → H' f = none → s.heap.objs.size ≤ f → (∀ v, o.data ≠ .cell v) → Inv X ((f, o) :: pins) σ H' s' := fun {f o H' s'} J e n hge hd => by
    refine J.pins_of fun p hp => ?_
    rcases List.mem_cons.mp hp with rfl | hp
    · exact ⟨e, n, Nat.ne_of_gt (Nat.lt_of_lt_of_le I.lt hge), I.nofs hge, hd⟩
    · exact J.pin p (List.mem_append_right _ hp)
  refine PySem.W.kla_eval hdef ?_
  rw [hqual]
  rcases hcase with hnf | ⟨c', hf, hc'⟩
  · refine PySem.W.kla_makeFunction (mg := X.mg) hcl I.ok.glob hgs hcode (C.keeps I.bk) hP hok hnf hgP hBA fun c' ctv h' tk hx hge hlt hrec htb => ?_
    have hc0 : H c' = none := I.hok.fresh hge
    have hcP : c' ≠ P := Nat.ne_of_gt (Nat.lt_of_lt_of_le (Heap.lt_size hP) hge)
    have hsz : s.heap.objs.size ≤ h'.objs.size := Nat.le_of_lt (Nat.lt_of_le_of_lt hge hlt)
    let H' : Hp := upd (upd H c' (crec c' qual)) P (.tbl (ps ++ #[rawInt pos.line, rawInt pos.col, .ref c']))
    let h2 : Heap := h'.push (PySem.W.kla_obj "<lambda>" qual params body sc cl ((X.mg "__name__").getD .none) c' ctv)
    have kp : ∀ b o, b ≠ P → s.heap.get? b = some o → h2.get? b = some o := fun b o hb e => Heap.get?_push_of_some _ (hx b o hb e)
    have eH : ∀ b o, H b = some o → b ≠ P → H' b = some o := fun b o e hb => by
      show upd (upd H c' _) P _ b = some o
      rw [upd_ne hb, upd_ne (ne_of_none e hc0)]
      exact e
    have eP' : H' P = some (.tbl (ps ++ #[rawInt pos.line, rawInt pos.col, .ref c'])) := upd_same
    have ec' : H' c' = some (crec c' qual) := by
      show upd (upd H c' _) P _ c' = _
      rw [upd_ne hcP, upd_same]
    have nP : ∀ b, H b = none → b ≠ P := fun b n z => by rw [z, eP] at n; cases n
    have un : Un X.fs [] H H' s.heap h2 := by
      refine ⟨fun b o e n _ _ => kp b o (nP b n) e, fun b o e n _ _ => ⟨o.slots, kp b o (nP b n) e⟩, fun b o e n _ => ?_, fun b o e _ => ?_, fun b xs q => eH b _ q (ne_of q eP (by intro z; cases z)), fun b o u q => eH b _ q (ne_of q eP (by intro z; cases z)), fun b qs q => ?_⟩
      · show upd (upd H c' _) P _ b = none
        rw [upd_ne (nP b n), upd_ne (Nat.ne_of_lt (Nat.lt_of_lt_of_le (Heap.lt_size e) hge))]
        exact n
      · by_cases hb : b = P
        · exact ⟨_, by rw [hb]; exact Heap.get?_push_of_some _ htb⟩
        · exact ⟨o, kp b o hb e⟩
      · by_cases hb : b = P
        · subst hb
          rw [eP] at q; cases q
          exact ⟨_, eP'⟩
        · exact ⟨#[], by rw [eH b _ q hb]; simp⟩
    have ok2 : HOk X.prog X.w H' h2 := fun b o q => by
      by_cases hb : b = P
      · subst hb
        rw [eP'] at q; cases q
        exact Heap.get?_push_of_some _ htb
      · by_cases hbc : b = c'
        · subst hbc
          rw [ec'] at q; cases q
          obtain ⟨c₂, oc, vs, t, e2, hoc, r⟩ := id hrec
          cases e2
          exact ⟨codeRec_stay hrec fun o q => Heap.get?_push_of_some _ q, ⟨_, Heap.get?_push_of_some _ hoc⟩, fun h1 h2 x k => codeRec_stay x k⟩
        · have q0 : H b = some o := by
            have q' : upd (upd H c' (crec c' qual)) P (.tbl (ps ++ #[rawInt pos.line, rawInt pos.col, .ref c'])) b = some o := q
            rw [upd_ne hb, upd_ne hbc] at q'
            exact q'
          refine (I.hok b o q0).stay (fun d v hd e => kp d v ?_ e) (fun d e => eH d _ e (ne_of e eP (by intro z; cases z))) fun d xs e => eH d _ e (ne_of e eP (by intro z; cases z))
          rcases hd with z | z
          · rw [z]; exact hb
          · exact ne_of z eP (by intro y; cases y)
    have J : Inv X pins σ H' { s with heap := h2, toks := tk } := I.un un ok2
    refine h _ c' ctv _ _ H' (fpin J (Heap.get?_push_size _ rfl) ?_ hsz (fun v z => by cases z)) ec' eH ?_
    · show upd (upd H c' _) P _ h'.objs.size = none
      rw [upd_ne (Nat.ne_of_gt (Nat.lt_of_lt_of_le (Heap.lt_size hP) hsz)), upd_ne (Nat.ne_of_gt hlt)]
      exact I.hok.fresh hsz
    · refine ⟨_, eP', ?_, .inr ⟨c', ?_, ec'⟩⟩
      · have e : (ps ++ #[rawInt pos.line, rawInt pos.col, Value.ref c']).toList = ps.toList ++ [rawInt pos.line, rawInt pos.col, .ref c'] := by simp
        rw [e]
        exact triples_snoc (a := .none) (b := .none) _ hok
      · have e : (ps ++ #[rawInt pos.line, rawInt pos.col, Value.ref c']).toList = ps.toList ++ [rawInt pos.line, rawInt pos.col, .ref c'] := by simp
        rw [e]
        exact codeAmong_snoc _ hok hnf
  · refine PySem.W.kla_makeFunctionHit (mg := X.mg) hcl I.ok.glob hgs hcode (C.keeps I.bk) hP hok hf hBA fun ctv h' tk hk hsz => ?_
    have J : Inv X pins σ H { s with heap := h'.push { cls := .type "function", data := .func (PySem.W.kla_fn "<lambda>" qual params body sc cl ((X.mg "__name__").getD .none) (.ref c') ctv) }, toks := tk } :=
      I.kept fun b u e => Heap.get?_push_of_some _ (hk b u e)
    exact h _ c' ctv _ _ H (fpin J (Heap.get?_push_size _ rfl) (I.hok.fresh hsz) hsz (fun v z => by cases z)) hc' (fun b o e _ => e) ⟨ps, eP, hok, .inr ⟨c', hf, hc'⟩⟩
end
end L2
end

section
set_option Elab.async false
set_option linter.all false
set_option maxRecDepth 100000
set_option maxHeartbeats 2000000
namespace L2
open PySem PySem.Spec PyProof.Rows

/-- the first of the least, by keys that are lists of ints -/
def argLt (kf : Nat → List Int) : Nat → Nat
  | 0 => 0
  | j + 1 => if HT.lexLt (kf (j + 1)) (kf (argLt kf j)) = true then j + 1 else argLt kf j

section
variable {X : Cx} {pins pins' : List (Addr × Obj)} {σ : St} {H : Hp} {s : Shared} {h' : Heap} {tk : Nat} {a : Addr} {o o' : Obj}
/-- a record of ours that is pinned has turned -/
theorem Inv.repin (I : Inv X pins σ H s) (hm : (a, o) ∈ pins) (hs : X.s_0.heap.objs.size ≤ a) (hc : ∀ x c, X.env.cells.lookup x = some c → c ≠ a) (hn : ∀ p ∈ X.pn, p.1 ≠ a)
    (k : ∀ b u, b ≠ a → s.heap.get? b = some u → h'.get? b = some u) (ho : h'.get? a = some o') (hd : ∀ v, o'.data ≠ .cell v)
    (hp : ∀ p ∈ pins', p = (a, o') ∨ (p ∈ pins ∧ p.1 ≠ a)) : Inv X pins' σ H { s with heap := h', toks := tk } := by
  obtain ⟨e, n, ne, nf, d⟩ := I.pin (a, o) (List.mem_append_right _ hm)
  let rest := pins'.filter fun p => decide (p.1 ≠ a)
  have hrest : ∀ p ∈ rest, p ∈ pins ∧ p.1 ≠ a := fun p hq => by
    obtain ⟨h1, h2⟩ := List.mem_filter.mp hq
    have h2 : p.1 ≠ a := of_decide_eq_true h2
    rcases hp p h1 with e | e
    · exact absurd (by rw [e]) h2
    · exact e
  have I1 : Inv X rest σ H s := I.pins_of fun p hq => I.pin p (List.mem_append_right _ (hrest p hq).1)
  have I2 : Inv X rest σ H { s with heap := h', toks := tk } := I1.turned k n ne (.inr hs) hc fun p hq => by
    rcases List.mem_append.mp hq with hq | hq
    · exact hn p hq
    · exact (hrest p hq).2
  refine I2.pins_of fun p hq => ?_
  rcases hp p hq with rfl | ⟨_, h2⟩
  · exact ⟨ho, n, ne, nf, hd⟩
  · exact I2.pin p (List.mem_append_right _ (List.mem_filter.mpr ⟨hq, decide_eq_true h2⟩))
/-- a new record, pinned -/
theorem Inv.pinNew (I : Inv X pins σ H s) (k : ∀ b u, s.heap.get? b = some u → h'.get? b = some u) (hs : s.heap.objs.size ≤ a) (ho : h'.get? a = some o) (hd : ∀ v, o.data ≠ .cell v) : Inv X ((a, o) :: pins) σ H { s with heap := h', toks := tk } := by
  have J : Inv X pins σ H { s with heap := h', toks := tk } := I.kept k
  refine J.pins_of fun p hp => ?_
  rcases List.mem_cons.mp hp with rfl | hp
  · exact ⟨ho, I.hok.fresh hs, Nat.ne_of_gt (Nat.lt_of_lt_of_le I.lt hs), I.nofs hs, hd⟩
  · exact J.pin p (List.mem_append_right _ hp)
end

section
variable {X : Cx} {pins : List (Addr × Obj)} {σ : St} {H₁ : Hp} {xs : List V} {l f It S : Addr} {kf : Nat → List Int} {R : Result → Shared → Prop}

/-- the key's call for the i-th item -/
def KeyTurn (X : Cx) (pins : List (Addr × Obj)) (σ : St) (H₁ : Hp) (xs : List V) (f : Addr) (kf : Nat → List Int) : Prop :=
  ∀ (i : Nat) (x : V) (v : Value) (pins' : List (Addr × Obj)) (s' : Shared) (H' : Hp), xs[i]? = some x → RelV x v → (∀ p ∈ pins, p ∈ pins') → Same H₁ H' → Inv X pins' σ H' s' →
    wpAny (model X.prog X.w) X.A.in1 (call (.ref f) [v]) (EP X pins' σ (fun kv H'' => Same H' H'' ∧ ∃ p, kv = .ref p ∧ SqT X.K H'' p ((kf i).map V.int))) (fun _ _ => False) s'

theorem sqT_same {K : PySem.W.Frag} {H H' : Hp} {a : Addr} {xs : List V} (e : Same H H') (h : SqT K H a xs) : SqT K H' a xs := by
  rcases h with (h | ⟨o, h⟩) | h
  · exact .inl (.inl (e _ _ h))
  · exact .inl (.inr ⟨o, e _ _ h⟩)
  · exact .inr h

theorem mk_loop (hh : X.A.handled = none) (hu : X.A.units + 1 < cLine) (hL : SqL X.K H₁ l xs) (hlI : l ≠ It) (hSI : S ≠ It)
    (sI : X.s_0.heap.objs.size ≤ It) (sS : X.s_0.heap.objs.size ≤ S) (cI : ∀ x c, X.env.cells.lookup x = some c → c ≠ It) (cS : ∀ x c, X.env.cells.lookup x = some c → c ≠ S)
    (nI : ∀ p ∈ X.pn ++ pins, p.1 ≠ It) (nS : ∀ p ∈ X.pn ++ pins, p.1 ≠ S) (turn : KeyTurn X pins σ H₁ xs f kf)
    (hR : ∀ x v s' H', xs[argLt kf (xs.length - 1)]? = some x → RelV x v → Same H₁ H' → Inv X pins σ H' s' → R (.ok (.ret v)) s') :
    ∀ (r j : Nat) (s' : Shared) (H' : Hp) (vb : Value) (pb : Addr) (c : Nat) (oI : Obj) (xb : V), xs.length - (j + 1) = r → j + 1 ≤ xs.length →
      Inv X ((S, seqObj "list" #[vb, .ref pb] c) :: (It, oI) :: pins) σ H' s' → Same H₁ H' → s'.heap.IsListIter It l (j + 1) → xs[argLt kf j]? = some xb → RelV xb vb → SqT X.K H' pb ((kf (argLt kf j)).map V.int) →
      codeAny (model X.prog X.w) X.A (.builtin "min.loop" ⟨[.ref It, .ref f, .ref S], []⟩) R s' := by
  have hname : (toString "min" ++ toString ".loop" : String) = "min.loop" := by decide
  have pnI : ∀ p ∈ X.pn, p.1 ≠ It := fun p hp => nI p (List.mem_append_left _ hp)
  have pnS : ∀ p ∈ X.pn, p.1 ≠ S := fun p hp => nS p (List.mem_append_left _ hp)
  have piI : ∀ p ∈ pins, p.1 ≠ It := fun p hp => nI p (List.mem_append_right _ hp)
  have piS : ∀ p ∈ pins, p.1 ≠ S := fun p hp => nS p (List.mem_append_right _ hp)
  intro r
  induction r with
  | zero =>
    intro j s' H' vb pb c oI xb hr hj I hsame hit hxb rvb hkb
    have hin : j + 1 = xs.length := by omega
    obtain ⟨its, rv, hl, hz⟩ := I.list (Same.seq hsame hL)
    have W := Walks.list (prog := X.prog) (w := X.w) (A := X.A.in1) hh It l hlI its.toArray
    have hsz : its.toArray.size = xs.length := by rw [List.size_toArray]; exact rv.length.symm
    obtain ⟨eS, _⟩ := I.pin (S, seqObj "list" #[vb, .ref pb] c) (List.mem_append_right _ (.head _))
    obtain ⟨eI, _⟩ := I.pin (It, oI) (List.mem_append_right _ (.tail _ (.head _)))
    obtain ⟨hp, g, d, t, os⟩ := s'
    refine codeAny_builtin PySem.F.entry_min_loop ?_
    rw [Around.under_plainId PySem.F.plain_min_loop _]
    show wpAny _ X.A.in1 (seqItems? (.ref S) >>= _) _ _ _
    refine wpAny_bind (wpAny_seqItems eS rfl ?_)
    show wpAny _ X.A.in1 (tryCatch (pyNext (.ref It)) _ >>= _) _ _ _
    refine wpAny_bind (wpAny_tryCatch (W.done _ _ _ ⟨by rw [hsz, ← hin]; exact hit, hl.isList⟩ fun h1 tk1 hk1 => ?_))
    have kI : ∀ b u, b ≠ It → hp.get? b = some u → h1.get? b = some u := fun b u hb e => hk1 b u (by simpa using hb) e
    -- the iterator is let go: forget its pin
    have I1 : Inv X [(S, seqObj "list" #[vb, .ref pb] c)] σ H' ⟨h1, g, d, tk1, os⟩ := by
      obtain ⟨e, n, ne, nf, dd⟩ := I.pin (It, oI) (List.mem_append_right _ (.tail _ (.head _)))
      have I0 : Inv X [(S, seqObj "list" #[vb, .ref pb] c)] σ H' ⟨hp, g, d, t, os⟩ := I.pins_of fun p hq => by
        rw [List.mem_singleton.mp hq]
        exact I.pin _ (List.mem_append_right _ (.head _))
      exact I0.turned (it := It) kI n ne (.inr sI) cI fun p hq => by
        rcases List.mem_append.mp hq with hq | hq
        · exact pnI p hq
        · rw [List.mem_singleton.mp hq]; exact hSI
    have I1' : Inv X ((S, seqObj "list" #[vb, .ref pb] c) :: pins) σ H' ⟨h1, g, d, tk1, os⟩ := I1.pins_of fun p hq => by
      rcases List.mem_cons.mp hq with rfl | hq
      · exact I1.pin _ (List.mem_append_right _ (.head _))
      · obtain ⟨e, n, ne, nf, dd⟩ := I.pin p (List.mem_append_right _ (.tail _ (.tail _ hq)))
        exact ⟨kI _ _ (piI p hq) e, n, ne, nf, dd⟩
    have eS1 := (I1'.pin _ (List.mem_append_right _ (.head _))).1
    have s1 := Heap.SameBut.update h1 S (Obj.mapSeq fun _ => (#[] : Array Value))
    show wpAny _ X.A.in1 (updateSeq S (fun _ => #[]) >>= _) _ _ _
    refine wpAny_bind ?_
    refine wpAny_updateSeq eS1 rfl (wpAny_bind (wpAny_letGo (wpAny_pure ?_)))
    obtain ⟨c2, hc2⟩ : ∃ c2, (h1.update S (Obj.mapSeq fun _ => (#[] : Array Value))).get? S = some (seqObj "list" #[] c2) := ⟨_, get?_update_seq eS1 fun _ => #[]⟩
    have I2 : Inv X pins σ H' { (⟨h1, g, d, tk1, os⟩ : Shared) with heap := h1.update S (Obj.mapSeq fun _ => (#[] : Array Value)), toks := tk1 } :=
      I1'.repin (o' := seqObj "list" #[] c2) (.head _) sS cS pnS (fun b u hb e => (s1.2 b hb).trans e) hc2 (fun v z => by cases z) fun p hq => .inr ⟨.tail _ hq, piS p hq⟩
    have hlast : argLt kf (xs.length - 1) = argLt kf j := by rw [← hin]; rfl
    exact hR xb vb _ H' (by rw [hlast]; exact hxb) rvb hsame I2
  | succ r ih =>
    intro j s' H' vb pb c oI xb hr hj I hsame hit hxb rvb hkb
    have hlt : j + 1 < xs.length := by omega
    obtain ⟨its, rv, hl, hz⟩ := I.list (Same.seq hsame hL)
    have W := Walks.list (prog := X.prog) (w := X.w) (A := X.A.in1) hh It l hlI its.toArray
    have hsz : its.toArray.size = xs.length := by rw [List.size_toArray]; exact rv.length.symm
    obtain ⟨eS, _⟩ := I.pin (S, seqObj "list" #[vb, .ref pb] c) (List.mem_append_right _ (.head _))
    obtain ⟨hp, g, d, t, os⟩ := s'
    refine codeAny_builtin PySem.F.entry_min_loop ?_
    rw [Around.under_plainId PySem.F.plain_min_loop _]
    show wpAny _ X.A.in1 (seqItems? (.ref S) >>= _) _ _ _
    refine wpAny_bind (wpAny_seqItems eS rfl ?_)
    show wpAny _ X.A.in1 (tryCatch (pyNext (.ref It)) _ >>= _) _ _ _
    refine wpAny_bind (wpAny_tryCatch (W.item (j + 1) _ _ _ (by rw [hsz]; exact hlt) ⟨hit, hl.isList⟩ fun v h1 tk1 hP hst1 hk1 => ?_))
    have hv : its[j + 1]? = some v := by simpa using hP
    obtain ⟨x, hx⟩ : ∃ x, xs[j + 1]? = some x := ⟨_, List.getElem?_eq_getElem hlt⟩
    obtain ⟨v', hv', rx⟩ := rv.get hx
    rw [hv] at hv'
    cases hv'
    obtain ⟨oI', hoI', hoc, hod⟩ := id hst1.1
    have kI : ∀ b u, b ≠ It → hp.get? b = some u → h1.get? b = some u := fun b u hb e => hk1 b u (by simpa using hb) e
    have I1 : Inv X ((S, seqObj "list" #[vb, .ref pb] c) :: (It, oI') :: pins) σ H' { (⟨hp, g, d, t, os⟩ : Shared) with heap := h1, toks := tk1 } :=
      I.repin (o := oI) (o' := oI') (.tail _ (.head _)) sI cI pnI kI hoI' (fun v z => by rw [hod] at z; cases z) fun p hq => by
        rcases List.mem_cons.mp hq with rfl | hq
        · exact .inr ⟨.head _, hSI⟩
        · rcases List.mem_cons.mp hq with rfl | hq
          · exact .inl rfl
          · exact .inr ⟨.tail _ (.tail _ hq), piI p hq⟩
    show wpAny _ X.A.in1 (tryCatch (holding [v] (call (.ref f) [v])) _ >>= _) _ _ _
    refine wpAny_bind (wpAny_tryCatch (wpAny_holding (wpAny_mono (turn (j + 1) x v _ _ H' hx rx (fun p hq => .tail _ (.tail _ hq)) hsame I1) (fun kv s2 he => ?_) fun _ _ hF => hF.elim)))
    obtain ⟨kv', H2, I2, rk, sm2, p, rfl, hkp⟩ := he
    cases (show kv = Value.ref p from rk)
    have hkb2 := sqT_same sm2 hkb
    obtain ⟨ia, ra, ta, _⟩ := I2.tuple hkp
    obtain ⟨ib, rb, tb, _⟩ := I2.tuple hkb2
    show wpAny _ X.A.in1 (tryCatch (holding [v, .ref p] (richCompare .Lt (.ref p) (.ref pb) >>= _)) _ >>= _) _ _ _
    refine wpAny_bind (wpAny_tryCatch (wpAny_holding (wpAny_bind ?_)))
    have hcmp : ∀ {Q : Value → Shared → Prop} {E : Value → Shared → Prop}, Q (.bool (HT.lexLt (kf (j + 1)) (kf (argLt kf j)))) s2 → wpAny (model X.prog X.w) X.A.in1 (richCompare .Lt (.ref p) (.ref pb)) Q E s2 := fun {Q E} q =>
      (show wpAny (model X.prog X.w) X.A.in1 (compareOp .Lt (.ref p) (.ref pb)) Q E s2 from HT.lt_tupInts ta tb (intsAre_of ra) (intsAre_of rb) (by exact hu) q)
    refine hcmp ?_
    refine wpAny_bind (wpAny_holding (wpAny_truthy_bool ?_))
    refine wpAny_bind (wpAny_letGo (wpAny_pure ?_))
    obtain ⟨eS2, _⟩ := I2.pin (S, seqObj "list" #[vb, .ref pb] c) (List.mem_append_right _ (.head _))
    obtain ⟨eI2, _⟩ := I2.pin (It, oI') (List.mem_append_right _ (.tail _ (.head _)))
    have sm : Same H₁ H2 := hsame.trans sm2
    have harg : argLt kf (j + 1) = if HT.lexLt (kf (j + 1)) (kf (argLt kf j)) = true then j + 1 else argLt kf j := rfl
    cases hb : HT.lexLt (kf (j + 1)) (kf (argLt kf j)) with
    | true =>
      rw [hb, if_pos rfl] at harg
      simp only [if_true]
      have s1 := Heap.SameBut.update s2.heap S (Obj.mapSeq fun _ => #[v, .ref p])
      obtain ⟨c2, hc2⟩ : ∃ c2, (s2.heap.update S (Obj.mapSeq fun _ => #[v, .ref p])).get? S = some (seqObj "list" #[v, .ref p] c2) := ⟨_, get?_update_seq eS2 fun _ => #[v, .ref p]⟩
      refine wpAny_bind ?_
      refine wpAny_updateSeq eS2 rfl (wpAny_bind (wpAny_letGo ?_))
      rw [hname]
      refine wpAny_pure ⟨plainId_quiet PySem.F.plain_min_loop _, ?_⟩
      have I3 : Inv X ((S, seqObj "list" #[v, .ref p] c2) :: (It, oI') :: pins) σ H2 { s2 with heap := s2.heap.update S (Obj.mapSeq fun _ => #[v, .ref p]), toks := s2.toks } :=
        I2.repin (o' := seqObj "list" #[v, .ref p] c2) (.head _) sS cS pnS (fun b u hb e => (s1.2 b hb).trans e) hc2 (fun v z => by cases z) fun q hq => by
          rcases List.mem_cons.mp hq with rfl | hq
          · exact .inl rfl
          · refine .inr ⟨.tail _ hq, ?_⟩
            rcases List.mem_cons.mp hq with rfl | hq
            · exact fun z => hSI z.symm
            · exact piS q hq
      exact ih (j + 1) _ H2 v p c2 oI' x (by omega) hlt I3 sm ⟨oI', (s1.2 It hSI.symm).trans eI2, hoc, hod⟩ (by rw [harg]; exact hx) rx (by rw [harg]; exact hkp)
    | false =>
      rw [hb, if_neg Bool.false_ne_true] at harg
      simp only [Bool.false_eq_true, if_false]
      refine wpAny_bind (wpAny_letGo ?_)
      rw [hname]
      exact wpAny_pure ⟨plainId_quiet PySem.F.plain_min_loop _, ih (j + 1) _ H2 vb pb c oI' xb (by omega) hlt I2 sm ⟨oI', eI2, hoc, hod⟩ (by rw [harg]; exact hxb) rvb (by rw [harg]; exact hkb2)⟩
end
end L2
end

section
set_option Elab.async false
set_option linter.all false
set_option maxRecDepth 100000
set_option maxHeartbeats 2000000
namespace L2
open PySem PySem.Spec PyProof.Rows
section
variable {X : Cx} {pins : List (Addr × Obj)} {σ : St} {H₁ : Hp} {s : Shared} {xs : List V} {l f : Addr} {kf : Nat → List Int} {Q : Value → Shared → Prop} {E : Value → Shared → Prop}
theorem min_key (I : Inv X pins σ H₁ s) (hh : X.A.handled = none) (hu : X.A.units + 1 < cLine) (hL : SqL X.K H₁ l xs) (hne : 0 < xs.length) (turn : KeyTurn X pins σ H₁ xs f kf)
    (hQ : ∀ x v s' H', xs[argLt kf (xs.length - 1)]? = some x → RelV x v → Same H₁ H' → Inv X pins σ H' s' → Q v s') :
    wpAny (model X.prog X.w) X.A (call (.builtin "min") [.ref l] [(Str.ofString "key", .ref f)]) Q E s := by
  have hname : (toString "min" ++ toString ".loop" : String) = "min.loop" := by decide
  obtain ⟨its, rv, hl, hz⟩ := I.list hL
  have hls := hl.isList
  obtain ⟨ol, hol, _⟩ := id hls
  have hll : l < s.heap.objs.size := Heap.lt_size hol
  refine kmk_tree PySem.F.kind_min PySem.F.plain_min PySem.F.entry_min (kmk_min_key _ _) ?_
  show wpAny _ X.A.in1 (Builtin.Builtins.bindParams "min" ["key", "default"] 0 ⟨[], [(Str.ofString "key", .ref f)]⟩ >>= _) _ _ s
  refine wpAny_bind (wpAny_of_eq (show Builtin.Builtins.bindParams "min" ["key", "default"] 0 ⟨[], [(Str.ofString "key", .ref f)]⟩ = pure [some (.ref f), none] from rfl) ?_)
  refine wpAny_bind (wpAny_pure ?_)
  refine wpAny_bind (wpAny_pyIter_list hls ?_)
  refine wpAny_bind (wpAny_newList ?_ (Nat.zero_le _))
  rw [hname]
  obtain ⟨hp, g, d, t, os⟩ := s
  let oI0 : Obj := { cls := .type "list_iterator", data := .fields #[.ref l, .int 0 0] }
  have hS : (hp.push oI0).objs.size = hp.objs.size + 1 := size_push' ..
  have hlI : l ≠ hp.objs.size := Nat.ne_of_lt hll
  have hSI : (hp.push oI0).objs.size ≠ hp.objs.size := by rw [hS]; exact Nat.ne_of_gt (Nat.lt_succ_self _)
  have gI : ((hp.push oI0).push (seqObj "list" #[] 0)).get? hp.objs.size = some oI0 := Heap.get?_push_of_some _ (Heap.get?_push_size _ rfl)
  have gS : ((hp.push oI0).push (seqObj "list" #[] 0)).get? (hp.push oI0).objs.size = some (seqObj "list" #[] 0) := Heap.get?_push_size _ rfl
  have sz : X.s_0.heap.objs.size ≤ hp.objs.size := I.sz
  have sS : X.s_0.heap.objs.size ≤ (hp.push oI0).objs.size := by rw [hS]; exact Nat.le_succ_of_le sz
  have cI : ∀ x c, X.env.cells.lookup x = some c → c ≠ hp.objs.size := fun x c e => by
    obtain ⟨v, o, ho, _⟩ := I.cell x c e
    exact Nat.ne_of_lt (Heap.lt_size ho)
  have cS : ∀ x c, X.env.cells.lookup x = some c → c ≠ (hp.push oI0).objs.size := fun x c e => by
    obtain ⟨v, o, ho, _⟩ := I.cell x c e
    rw [hS]
    exact Nat.ne_of_lt (Nat.lt_succ_of_lt (Heap.lt_size ho))
  have nI : ∀ p ∈ X.pn ++ pins, p.1 ≠ hp.objs.size := fun p hq => Nat.ne_of_lt (Heap.lt_size (I.pin p hq).1)
  have nS : ∀ p ∈ X.pn ++ pins, p.1 ≠ (hp.push oI0).objs.size := fun p hq => by rw [hS]; exact Nat.ne_of_lt (Nat.lt_succ_of_lt (Heap.lt_size (I.pin p hq).1))
  refine wpAny_pure ⟨plainId_quiet PySem.F.plain_min_loop _, ?_⟩
  have J0 : Inv X ((hp.objs.size, oI0) :: pins) σ H₁ { (⟨hp, g, d, t, os⟩ : Shared) with heap := hp.push oI0, toks := t } :=
    I.pinNew (fun b u e => Heap.get?_push_of_some _ e) (Nat.le_refl _) (Heap.get?_push_size _ rfl) (fun v z => by cases z)
  have J1 : Inv X (((hp.push oI0).objs.size, seqObj "list" #[] 0) :: (hp.objs.size, oI0) :: pins) σ H₁ { (⟨hp, g, d, t, os⟩ : Shared) with heap := (hp.push oI0).push (seqObj "list" #[] 0), toks := t } :=
    J0.pinNew (fun b u e => Heap.get?_push_of_some _ e) (Nat.le_refl _) (Heap.get?_push_size _ rfl) (fun v z => by cases z)
  have W := Walks.list (prog := X.prog) (w := X.w) (A := X.A.in1) hh hp.objs.size l hlI its.toArray
  have hsz : its.toArray.size = xs.length := by rw [List.size_toArray]; exact rv.length.symm
  refine codeAny_builtin PySem.F.entry_min_loop ?_
  rw [Around.under_plainId PySem.F.plain_min_loop _]
  show wpAny _ X.A.in1 (seqItems? (.ref _) >>= _) _ _ _
  refine wpAny_bind (wpAny_seqItems gS rfl ?_)
  show wpAny _ X.A.in1 (tryCatch (pyNext (.ref hp.objs.size)) _ >>= _) _ _ _
  have hls1 : ((hp.push oI0).push (seqObj "list" #[] 0)).IsList l its.toArray := by
    obtain ⟨its2, rv2, hl2, _⟩ := J1.list hL
    obtain ⟨o, e, r⟩ := hls
    exact ⟨o, Heap.get?_push_of_some _ (Heap.get?_push_of_some _ e), r⟩
  refine wpAny_bind (wpAny_tryCatch (W.item 0 _ _ _ (by rw [hsz]; exact hne) ⟨⟨_, gI, rfl, rfl⟩, hls1⟩ fun v h1 tk1 hP hst1 hk1 => ?_))
  have hv : its[0]? = some v := by simpa using hP
  obtain ⟨x, hx⟩ : ∃ x, xs[0]? = some x := ⟨_, List.getElem?_eq_getElem hne⟩
  obtain ⟨v', hv', rx⟩ := rv.get hx
  rw [hv] at hv'
  cases hv'
  obtain ⟨oI', hoI', hoc, hod⟩ := id hst1.1
  have kI : ∀ b u, b ≠ hp.objs.size → ((hp.push oI0).push (seqObj "list" #[] 0)).get? b = some u → h1.get? b = some u := fun b u hb e => hk1 b u (by simpa using hb) e
  have I1 : Inv X (((hp.push oI0).objs.size, seqObj "list" #[] 0) :: (hp.objs.size, oI') :: pins) σ H₁ { (⟨(hp.push oI0).push (seqObj "list" #[] 0), g, d, t, os⟩ : Shared) with heap := h1, toks := tk1 } :=
    Inv.repin (s := ⟨(hp.push oI0).push (seqObj "list" #[] 0), g, d, t, os⟩) J1 (o := oI0) (o' := oI') (.tail _ (.head _)) sz cI (fun p hq => nI p (List.mem_append_left _ hq)) kI hoI' (fun v z => by rw [hod] at z; cases z) fun p hq => by
      rcases List.mem_cons.mp hq with rfl | hq
      · exact .inr ⟨.head _, hSI⟩
      · rcases List.mem_cons.mp hq with rfl | hq
        · exact .inl rfl
        · exact .inr ⟨.tail _ (.tail _ hq), nI p (List.mem_append_right _ hq)⟩
  show wpAny _ X.A.in1 (tryCatch (holding [v] (call (.ref f) [v])) _ >>= _) _ _ _
  refine wpAny_bind (wpAny_tryCatch (wpAny_holding (wpAny_mono (turn 0 x v _ _ H₁ hx rx (fun p hq => .tail _ (.tail _ hq)) (fun _ _ e => e) I1) (fun kv s2 he => ?_) fun _ _ hF => hF.elim)))
  obtain ⟨kv', H2, I2, rk, sm2, p, rfl, hkp⟩ := he
  cases (show kv = Value.ref p from rk)
  obtain ⟨eS2, _⟩ := I2.pin ((hp.push oI0).objs.size, seqObj "list" #[] 0) (List.mem_append_right _ (.head _))
  obtain ⟨eI2, _⟩ := I2.pin (hp.objs.size, oI') (List.mem_append_right _ (.tail _ (.head _)))
  have s1 := Heap.SameBut.update s2.heap (hp.push oI0).objs.size (Obj.mapSeq fun _ => #[v, .ref p])
  obtain ⟨c2, hc2⟩ : ∃ c2, (s2.heap.update (hp.push oI0).objs.size (Obj.mapSeq fun _ => #[v, .ref p])).get? (hp.push oI0).objs.size = some (seqObj "list" #[v, .ref p] c2) := ⟨_, get?_update_seq eS2 fun _ => #[v, .ref p]⟩
  show wpAny _ X.A.in1 (updateSeq (hp.push oI0).objs.size (fun _ => #[v, .ref p]) >>= _) _ _ _
  refine wpAny_bind ?_
  refine wpAny_updateSeq eS2 rfl ?_
  rw [hname]
  have I3 : Inv X (((hp.push oI0).objs.size, seqObj "list" #[v, .ref p] c2) :: (hp.objs.size, oI') :: pins) σ H2 { s2 with heap := s2.heap.update (hp.push oI0).objs.size (Obj.mapSeq fun _ => #[v, .ref p]), toks := s2.toks } :=
    I2.repin (o' := seqObj "list" #[v, .ref p] c2) (.head _) sS cS (fun p hq => nS p (List.mem_append_left _ hq)) (fun b u hb e => (s1.2 b hb).trans e) hc2 (fun v z => by cases z) fun q hq => by
      rcases List.mem_cons.mp hq with rfl | hq
      · exact .inl rfl
      · refine .inr ⟨.tail _ hq, ?_⟩
        rcases List.mem_cons.mp hq with rfl | hq
        · exact fun z => hSI z.symm
        · exact nS q (List.mem_append_right _ hq)
  refine wpAny_pure ⟨plainId_quiet PySem.F.plain_min_loop _, mk_loop (kf := kf) hh hu hL hlI hSI sz sS cI cS nI nS turn (fun x v s' H' h1 h2 h3 h4 => hQ x v s' H' h1 h2 h3 h4) _ 0 _ H2 v p c2 oI' x rfl hne I3 sm2 ⟨oI', (s1.2 _ hSI.symm).trans eI2, hoc, hod⟩ hx rx hkp⟩
end
end L2
end

section
set_option Elab.async false
set_option linter.all false
set_option maxRecDepth 100000
set_option maxHeartbeats 2000000
namespace L2
open PySem PySem.Spec PyProof.Rows

/-- min(e, key=lambda p: body): P, qual: the table of the def's code, the lambda's name; js: where the lambda's free names stand in the def -/
def tMinLam (K : PySem.W.Frag) (P : Addr) (lpos : Pos) (qual : Str) (js : List Nat) (te tb : TE) : TE := fun σ H Q => te σ H fun x H1 =>
  ∃ l xs, x = .ref l ∧ SqL K H1 l xs ∧ 0 < xs.length ∧ TabOk H1 P lpos qual ∧ ∃ kf : Nat → List Int,
    (∀ (i : Nat) (y : V) (H' : Hp), xs[i]? = some y → (∀ b o, H1 b = some o → b ≠ P → H' b = some o) →
      tb (some y :: js.map fun j => σ.getD j none) H' fun kv H2 => Same H' H2 ∧ ∃ p, kv = .ref p ∧ SqT K H2 p ((kf i).map V.int)) ∧
    ∀ (y : V) (H' : Hp), xs[argLt kf (xs.length - 1)]? = some y → (∀ b o, H1 b = some o → b ≠ P → H' b = some o) → TabOk H' P lpos qual → Q y H'

theorem seq_but {K : PySem.W.Frag} {H H' : Hp} {P l : Addr} {xs : List V} {ps : Array Value} (hP : H P = some (.tbl ps)) (k : ∀ b o, H b = some o → b ≠ P → H' b = some o) (h : SqL K H l xs) : SqL K H' l xs := by
  rcases h with (h | ⟨o, h⟩) | h
  · exact .inl (.inl (k _ _ h (ne_of h hP (by intro z; cases z))))
  · exact .inl (.inr ⟨o, k _ _ h (ne_of h hP (by intro z; cases z))⟩)
  · exact .inr h

section
variable {X : Cx} {e body : Expr} {params : Arguments} {sc : Scope} {lpos kpos p pos : Pos} {te tb : TE} {c P : Addr} {qual pn : Str} {ys : List Str} {js : List Nat} {cl : List (Str × Addr)}
theorem pe_minLam {k : Nat} (he : PE X e te) (hr : Room k X.A) (hg : Gl X "min") (hm : X.mg "min" = none) (hcode : X.env.code = .ref c) (C : PySem.W.CodeHd X.base c P) (hB : BMain X.mg X.base) (hqual : X.env.qual ++ "<lambda>" = qual)
    (S : LamScope (pn :: ys) [pn] sc) (hdef : defaultsOf params X.env = ([], [])) (hclo : closureFor sc X.env = pure cl)
    (hcl : ∀ x c, cl.lookup x = some c → X.env.cells.lookup x = some c) (hfr : ∀ x, sc.names.lookup x = some .free → ∃ c, cl.lookup x = some c)
    (hys : ∀ (i : Nat) (y : Str), ys[i]? = some y → sc.names.lookup y = some .free ∧ X.env.scope.names.lookup y = some .cell ∧ cl.lookup y = X.env.cells.lookup y ∧ ∃ j, js[i]? = some j ∧ X.N[j]? = some y)
    (hlen : js.length = ys.length)
    (hbind : ∀ (pm ctv v : Value) (c' : Addr), bindArgs (PySem.W.kla_fn "<lambda>" qual params body sc cl pm (.ref c') ctv) ⟨[v], []⟩ = pure [(pn, v)])
    (hb : ∀ (f c' : Addr) (s : Shared) (H : Hp), PE (cxLam X (pn :: ys) qual sc f (.ref c') cl s H) body tb)
    (hv : bootBuiltins "min" = some (.builtin "min") := by rfl) (hs : starEach [e] X.env = [(false, eval e X.env)] := by rfl) :
    PE X (.Call (.Name "min" p) [e] [⟨some "key", .Lambda params body sc lpos, kpos⟩] pos) (tMinLam X.K P lpos qual js te tb) := by
  intro pins s σ H Q I h
  refine wpAny_Call_Name_kw (ld_blt I hg hm hv ?_ (by decide) (by decide))
  let B : V → Hp → Prop := fun x H1 => ∃ l xs, x = .ref l ∧ SqL X.K H1 l xs ∧ 0 < xs.length ∧ TabOk H1 P lpos qual ∧ ∃ kf : Nat → List Int,
    (∀ (i : Nat) (y : V) (H' : Hp), xs[i]? = some y → (∀ b o, H1 b = some o → b ≠ P → H' b = some o) →
      tb (some y :: js.map fun j => σ.getD j none) H' fun kv H2 => Same H' H2 ∧ ∃ p, kv = .ref p ∧ SqT X.K H2 p ((kf i).map V.int)) ∧
    ∀ (y : V) (H' : Hp), xs[argLt kf (xs.length - 1)]? = some y → (∀ b o, H1 b = some o → b ≠ P → H' b = some o) → TabOk H' P lpos qual → Q y H'
  let Q' : List V → Hp → Prop := fun vs H1 => match vs with | [x] => B x H1 | _ => False
  have h' : tCons te tNil σ H Q' := h
  refine callWith_kw (thn ((pa_cons he pa_nil hs) pos pins s σ H Q' I h') fun us s1 ⟨vs, H1, I1, r1, q1⟩ => ?_) (by rw [hs]; rfl) (by rw [hs]; rfl) rfl rfl
  cases r1 with
  | nil => exact False.elim q1
  | cons ra rt =>
    cases rt with
    | cons _ _ => exact False.elim q1
    | nil =>
      have q2 : B _ H1 := q1
      obtain ⟨l, xs, rfl, hL, hne, hT, kf, hkey, hend⟩ := q2
      cases (show _ = Value.ref l from ra)
      refine kws_cons (lam_make I1 hcode C hT hB hqual hdef hclo fun f c' ctv pm s2 H2 I2 ec' k2 T2 => kws_nil ?_)
      show wpAny _ X.A (call (.builtin "min") [.ref l] [(Str.ofString "key", .ref f)]) _ _ s2
      obtain ⟨ps0, eP, _⟩ := id hT
      have hL2 : SqL X.K H2 l xs := seq_but eP k2 hL
      have turn : KeyTurn X ((f, PySem.W.kla_obj "<lambda>" qual params body sc cl pm c' ctv) :: pins) σ H2 xs f kf := by
        intro i y v pins' s' H' hy ry hsub hsame I'
        have hf := (I'.pin _ (List.mem_append_right _ (hsub _ (.head _)))).1
        have hc : s'.heap.CodeRec (.ref c') qual := (show ObjOk X.prog X.w H' s'.heap c' (crec c' qual) from I'.hok c' _ (hsame _ _ ec')).1
        refine lam_call (τ := some y :: js.map fun j => σ.getD j none) I' S hr.depth hr.hd hcl hfr hf hc (hbind pm ctv v c') ?_ ?_ (hb f c' s' H') ?_
        · simp [hlen]
        · intro i2 x2 v2 e1 e2
          cases i2 with
          | zero =>
            have e1' : pn = x2 := by simpa using e1
            have e2' : y = v2 := by simpa using e2
            subst e1' e2'
            exact ⟨v, ry, .inl ⟨S.par _ (.head _), by simp [List.lookup]⟩⟩
          | succ i2 =>
            have e1' : ys[i2]? = some x2 := by simpa using e1
            obtain ⟨hk1, hk2, hk3, j, hj, hN⟩ := hys i2 x2 e1'
            have e2' : σ[j]? = some (some v2) := by
              have e3 : (js.map fun j => σ.getD j none)[i2]? = some (some v2) := by simpa using e2
              rw [List.getElem?_map, hj] at e3
              have e4 : σ.getD j none = some v2 := by simpa using e3
              rw [List.getD_eq_getElem?_getD] at e4
              cases q : σ[j]? with
              | none => rw [q] at e4; cases e4
              | some z => rw [q] at e4; exact congrArg some e4
            obtain ⟨m, _, hl⟩ := I'.loc
            obtain ⟨u, ru, look⟩ := hl j x2 v2 hN e2' (.inr (.inl hk2))
            refine ⟨u, ru, .inr ⟨hk1, ?_⟩⟩
            rcases look with ⟨z, _⟩ | ⟨_, c2, ec2, hcell⟩
            · have z' : X.env.scope.names.lookup x2 = some .local := z
              rw [hk2] at z'; cases z'
            · exact ⟨c2, by rw [hk3]; exact ec2, hcell⟩
        · exact hkey i y H' hy fun b o e nb => hsame b o (k2 b o e nb)
      refine min_key I2 hr.hd (by have := hr.un; omega) hL2 hne turn fun y v s' H' hy ry hsame I' => ?_
      refine ⟨y, H', I'.pins_of fun q hq => I'.pin q (List.mem_append_right _ (.tail _ hq)), ry, hend y H' hy (fun b o e nb => hsame b o (k2 b o e nb)) (T2.same hsame)⟩
end
end L2
end

section
set_option Elab.async false
set_option linter.all false
set_option maxRecDepth 100000
set_option maxHeartbeats 2000000
namespace L2
open PySem PySem.Spec PyProof.Rows

/-! ### xs.remove(k), ints -/
section
variable {X : Cx}
def rRemove : V → List V → Hp → VK → Prop := fun x vs H Q => ∃ (l : Addr) (ns : List Int) (k : Int), x = .ref l ∧ vs = [.int k] ∧ H l = some (.lst (ns.map V.int)) ∧ k ∈ ns ∧ Q .non (upd H l (.lst ((ns.erase k).map V.int)))
theorem ints_kf : ∀ {ns : List Int} {us : List Value}, Vals (ns.map V.int) us → PySem.W.kf_ints us = true
  | [], _, .nil => rfl
  | n :: ns, _, .cons r t => by
    obtain ⟨tk, rfl⟩ := (show ∃ t, _ = Value.int n t from r)
    have h := ints_kf (ns := ns) t
    simpa [PySem.W.kf_ints] using h
theorem kf_at_ints {k : Int} : ∀ {ns : List Int} {us : List Value}, Vals (ns.map V.int) us → k ∈ ns → ∃ j, PySem.W.kf_at k us = some j ∧ Vals ((ns.erase k).map V.int) (us.eraseIdx j)
  | [], _, _, h => by cases h
  | n :: ns, u :: us, .cons r t, h => by
    obtain ⟨tk, rfl⟩ := (show ∃ t, u = Value.int n t from r)
    by_cases e : n = k
    · subst e
      refine ⟨0, ?_, ?_⟩
      · unfold PySem.W.kf_at
        simp [PySem.W.kf_at, isInt]
      · simpa using t
    · have hm : k ∈ ns := by
        rcases List.mem_cons.mp h with z | z
        · exact absurd z.symm e
        · exact z
      obtain ⟨j, e1, v1⟩ := kf_at_ints (ns := ns) t hm
      refine ⟨j + 1, ?_, ?_⟩
      · unfold PySem.W.kf_at
        rw [e1]
        have : isInt k (Value.int n tk) = false := by simp [isInt, e]
        rw [this]
        rfl
      · rw [List.erase_cons_tail (by simpa using e), List.map_cons, List.eraseIdx_cons_succ]
        exact .cons ⟨tk, rfl⟩ v1
theorem mt_remove : MtM X "list.remove" rRemove := by
  intro pins s σ H x vs v us Q I rx rv h
  obtain ⟨l, ns, k, rfl, rfl, hH, hk, q⟩ := h
  cases rx
  obtain ⟨u, rfl, ru⟩ := rv.one
  obtain ⟨tk, rfl⟩ := (show ∃ t, u = Value.int k t from ru)
  obtain ⟨z, its, n, r, hl, e⟩ := I.lstM hH
  obtain ⟨j, hj, hv⟩ := kf_at_ints r hk
  obtain ⟨a, b, c⟩ := PySem.W.kf_at_spec hj
  have hz : its.toArray.size ≤ sizeLine := by rw [List.size_toArray]; omega
  refine call_meets PySem.F.slot_list_remove ⟨_, e, rfl⟩ PySem.F.entry_list_remove (PySem.F.args_list_remove_2 _ _)
    (MeetsSeq.list_remove l its.toArray n (.int k tk) (isInt k) (fun y hy => PySem.W.kf_eq (ints_kf r) y (by simpa using hy)) j (by simpa using a) (by simpa using b) (fun i hi hlt => by simpa using c i (by simpa using hi) hlt) hz) ⟨e, ?_⟩
  refine ⟨.non, _, I.lset (its' := its.eraseIdx j) hH e ?_ hv ?_, rfl, q⟩
  · apply Array.toList_inj.mp
    simp [Array.toList_eraseIdxIfInBounds]
  · have h1 := List.length_erase_le (a := k) (l := ns)
    rw [List.length_map] at z ⊢
    omega
end

/-! ### set(xs) of ints, and how many it has -/
section
variable {X : Cx}
def dedupL (ns : List Int) : List Int := firstMet (fun i => ns.getD i 0) ns.length
theorem call_set_ints (hc : X.calm = true) : CallR X (.type "set") (fun xs H Q => ∃ (a : Addr) (ns : List Int), xs = [.ref a] ∧ SqL X.K H a (ns.map V.int) ∧ ns.length + 1 < scanBound ∧
    ∀ p, H p = none → Q (.ref p) (upd H p (.set (fun k => (dedupL ns).any (· == k)) (dedupL ns).length))) := by
  intro pins s σ H xs us Q I r h
  obtain ⟨a, ns, rfl, hL, hb, q⟩ := h
  obtain ⟨u, rfl, ru⟩ := vals1 r
  cases ru
  obtain ⟨its, rv, hl, hz⟩ := I.list hL
  have hlen : its.toArray.size = ns.length := by rw [List.size_toArray, ← rv.length, List.length_map]
  refine call_set_list (ns := ns) (I.ok.hd hc) hl.isList (intsAre_of rv) (by rw [hlen]; exact hb) fun h' tk hS hk => ?_
  rw [hlen] at hS
  refine ⟨.ref s.heap.objs.size, _, I.laid (t' := tk) (o := .set (fun k => (dedupL ns).any (· == k)) (dedupL ns).length) (fun b u e => hk b u (Heap.lt_size e) e) (Nat.le_refl _) hS, rfl, q _ (I.hok.fresh (Nat.le_refl _))⟩
end
end L2
end

section
set_option Elab.async false
set_option linter.all false
set_option maxRecDepth 100000
set_option maxHeartbeats 2000000
namespace L2
open PySem PySem.Spec PyProof.Rows

/-! ### how many the set has: as many as the list, just if none stands twice -/
theorem dedup_le (ns : List Int) : (dedupL ns).length ≤ ns.length := firstMet_length_le _ _
theorem foldl_dedup_len : ∀ (l acc : List Int), (l.foldl step_dedup acc).length ≤ acc.length + l.length ∧ ((l.foldl step_dedup acc).length = acc.length + l.length ↔ (l.Nodup ∧ ∀ x ∈ l, x ∉ acc))
  | [], acc => by simp
  | x :: l, acc => by
    have ih := foldl_dedup_len l (step_dedup acc x)
    rw [List.foldl_cons]
    unfold step_dedup at ih ⊢
    by_cases h : acc.any (· == x) = true
    · rw [if_pos h] at ih ⊢
      have hx : x ∈ acc := by simpa using h
      refine ⟨by rw [List.length_cons]; omega, ?_⟩
      constructor
      · intro e
        rw [List.length_cons] at e
        omega
      · rintro ⟨_, h2⟩
        exact absurd hx (h2 x (.head _))
    · rw [if_neg h] at ih ⊢
      have hx : x ∉ acc := fun z => h (by simpa using z)
      rw [List.length_append, List.length_singleton] at ih
      refine ⟨by rw [List.length_cons]; omega, ?_⟩
      rw [List.length_cons]
      constructor
      · intro e
        obtain ⟨n1, n2⟩ := ih.2.mp (by omega)
        refine ⟨List.nodup_cons.mpr ⟨fun z => ?_, n1⟩, fun y hy => ?_⟩
        · exact n2 x z (by simp)
        · rcases List.mem_cons.mp hy with rfl | hy
          · exact hx
          · exact fun z => n2 y hy (List.mem_append_left _ z)
      · rintro ⟨h1, h2⟩
        have h1' := List.nodup_cons.mp h1
        have := ih.2.mpr ⟨h1'.2, fun y hy z => by
          rcases List.mem_append.mp z with z | z
          · exact h2 y (.tail _ hy) z
          · rw [List.mem_singleton] at z
            subst z
            exact h1'.1 hy⟩
        omega
theorem range_getD (ns : List Int) : (List.range ns.length).map (fun i => ns.getD i 0) = ns := by
  apply List.ext_getElem
  · simp
  · intro i h1 h2
    have : i < ns.length := h2
    simp [List.getD_eq_getElem?_getD, this]
theorem dedup_nodup (ns : List Int) : (dedupL ns).length < ns.length ↔ ¬ ns.Nodup := by
  have h := foldl_dedup_len ns []
  have e : dedupL ns = ns.foldl step_dedup [] := by unfold dedupL firstMet; rw [range_getD]
  rw [e]
  rw [List.length_nil, Nat.zero_add] at h
  constructor
  · intro h1 h2
    have := h.2.mpr ⟨h2, fun _ _ z => by cases z⟩
    omega
  · intro h1
    have h3 := h.1
    have h4 : ¬ (List.foldl step_dedup [] ns).length = ns.length := fun z => h1 (h.2.mp z).1
    omega

section
variable {X : Cx}
theorem call_len_setI : CallR X (.builtin "len") (fun xs H Q => ∃ (a : Addr) (S : Int → Bool) (n : Nat), xs = [V.ref a] ∧ H a = some (.set S n) ∧ Q (.int n) H) := by
  intro pins s σ H xs us Q I r h
  obtain ⟨a, S, n, rfl, hS, q⟩ := h
  obtain ⟨u, rfl, ru⟩ := vals1 r
  cases ru
  obtain ⟨o, es, ep, t, e1, e2, e3, _, _, e6, e7, e8⟩ := (show s.heap.SetOf (intKind X.prog X.w) a S n from I.hok a _ hS)
  subst e8
  have hb : es.size < 4096 := e6
  exact call_len_set e1 e2 e3 e7 (by omega) ⟨.int _, H, I.tok _, ⟨_, rfl⟩, q⟩
end

/-! ### max(xs, default=d) of ints -/
theorem args_maxD (a v : Value) : argsOk "max" ⟨[a], [(Str.ofString "default", v)]⟩ := by unfold argsOk; kernel_rfl
section
variable {prog : Program} {w : World} {A : Around} {E : Value → Shared → Prop} {s : Shared} {l It S : Addr} {h0 : Heap} {its : List Value} {ns : List Int} {d : Value} {R : Result → Shared → Prop} {Q : Value → Shared → Prop}
theorem maxd_loop (hh : A.handled = none) (hl0 : ∀ h : Heap, (∀ b o, h0.get? b = some o → h.get? b = some o) → h.IsList l its.toArray) (hi : IntsAre its ns) (hlI : l ≠ It) (hSI : S ≠ It) (nI : h0.objs.size ≤ It) (nS : h0.objs.size ≤ S)
    (hR : ∀ (M : Int) (t : Tok) (h' : Heap) (tk : Nat), M ∈ ns → (∀ a ∈ ns, a ≤ M) → (∀ b o, h0.get? b = some o → h'.get? b = some o) → R (.ok (.ret (.int M t))) { s with heap := h', toks := tk }) :
    ∀ (r j : Nat) (hp : Heap) (tk : Nat) (M : Int) (t t' : Tok) (c : Nat), ns.length - (j + 1) = r → j + 1 ≤ ns.length → (∀ b o, h0.get? b = some o → hp.get? b = some o) →
      hp.get? S = some (seqObj "list" #[.int M t, .int M t'] c) → hp.IsListIter It l (j + 1) → M ∈ ns → (∀ a ∈ ns.take (j + 1), a ≤ M) →
      codeAny (model prog w) A (.builtin "max.loop" ⟨[.ref It, .none, .ref S], [(Str.ofString "default", d)]⟩) R { s with heap := hp, toks := tk } := by
  have hname : (toString "max" ++ toString ".loop" : String) = "max.loop" := by decide
  have W := Walks.list (prog := prog) (w := w) (A := A.in1) hh It l hlI its.toArray
  have hlen : its.length = ns.length := hi.length
  have hsz : its.toArray.size = ns.length := by rw [List.size_toArray]; exact hlen
  have ne0 : ∀ b o, h0.get? b = some o → b ≠ It ∧ b ≠ S := fun b o e => ⟨Nat.ne_of_lt (Nat.lt_of_lt_of_le (Heap.lt_size e) nI), Nat.ne_of_lt (Nat.lt_of_lt_of_le (Heap.lt_size e) nS)⟩
  intro r
  induction r with
  | zero =>
    intro j hp tk M t t' c hr hj hk hS hit hM hb
    have hin : j + 1 = ns.length := by omega
    refine codeAny_builtin PySem.F.entry_max_loop ?_
    rw [Around.under_plainId PySem.F.plain_max_loop _]
    show wpAny _ A.in1 (seqItems? (.ref S) >>= _) _ _ _
    refine wpAny_bind (wpAny_seqItems hS rfl ?_)
    show wpAny _ A.in1 (tryCatch (pyNext (.ref It)) _ >>= _) _ _ _
    refine wpAny_bind (wpAny_tryCatch (W.done _ _ _ ⟨by rw [hsz, ← hin]; exact hit, hl0 hp hk⟩ fun h1 tk1 hk1 => ?_))
    have hS1 := hk1 S _ (by simpa using hSI) hS
    have s1 := Heap.SameBut.update h1 S (Obj.mapSeq fun _ => (#[] : Array Value))
    show wpAny _ A.in1 (updateSeq S (fun _ => #[]) >>= _) _ _ _
    refine wpAny_bind ?_
    refine wpAny_updateSeq hS1 rfl (wpAny_bind (wpAny_letGo (wpAny_pure ?_)))
    exact hR M t _ _ hM (fun a ha => hb a (by rw [hin, List.take_length]; exact ha)) fun b o e => (s1.2 b (ne0 b o e).2).trans (hk1 b o (by simpa using (ne0 b o e).1) (hk b o e))
  | succ r ih =>
    intro j hp tk M t t' c hr hj hk hS hit hM hb
    have hlt : j + 1 < ns.length := by omega
    refine codeAny_builtin PySem.F.entry_max_loop ?_
    rw [Around.under_plainId PySem.F.plain_max_loop _]
    show wpAny _ A.in1 (seqItems? (.ref S) >>= _) _ _ _
    refine wpAny_bind (wpAny_seqItems hS rfl ?_)
    show wpAny _ A.in1 (tryCatch (pyNext (.ref It)) _ >>= _) _ _ _
    refine wpAny_bind (wpAny_tryCatch (W.item (j + 1) _ _ _ (by rw [hsz]; exact hlt) ⟨hit, hl0 hp hk⟩ fun v h1 tk1 hP hst1 hk1 => ?_))
    have hv : its[j + 1]? = some v := by simpa using hP
    obtain ⟨n, hn⟩ : ∃ n, ns[j + 1]? = some n := ⟨_, List.getElem?_eq_getElem hlt⟩
    obtain ⟨tn, etn⟩ := hi.get (j + 1) n hn
    rw [hv] at etn
    cases etn
    obtain ⟨oI', hoI', hoc, hod⟩ := id hst1.1
    have hS1 := hk1 S _ (by simpa using hSI) hS
    have k1 : ∀ b o, h0.get? b = some o → h1.get? b = some o := fun b o e => hk1 b o (by simpa using (ne0 b o e).1) (hk b o e)
    have htake : ns.take (j + 1 + 1) = ns.take (j + 1) ++ [n] := by
      rw [List.take_add_one, hn]; rfl
    have hmem : n ∈ ns := List.mem_of_getElem? hn
    show wpAny _ A.in1 (pure (Value.int n tn) >>= _) _ _ _
    refine wpAny_bind (wpAny_pure ?_)
    show wpAny _ A.in1 (tryCatch (holding [.int n tn, .int n tn] (richCompare .Gt (.int n tn) (.int M t') >>= _)) _ >>= _) _ _ _
    refine wpAny_bind (wpAny_tryCatch (wpAny_holding (wpAny_bind ?_)))
    have hcmp : ∀ {Q : Value → Shared → Prop} {E : Value → Shared → Prop} {s2 : Shared}, Q (.bool (decide (M < n))) s2 → wpAny (model prog w) A.in1 (richCompare .Gt (.int n tn) (.int M t')) Q E s2 := fun {Q E s2} q =>
      (show wpAny (model prog w) A.in1 (compareOp .Gt (.int n tn) (.int M t')) Q E s2 from gt_int q)
    refine hcmp ?_
    refine wpAny_bind (wpAny_holding (wpAny_truthy_bool ?_))
    refine wpAny_bind (wpAny_letGo (wpAny_pure ?_))
    by_cases hb' : M < n
    · simp only [hb', decide_true, if_true]
      have s1 := Heap.SameBut.update h1 S (Obj.mapSeq fun _ => #[.int n tn, .int n tn])
      obtain ⟨c2, hc2⟩ : ∃ c2, (h1.update S (Obj.mapSeq fun _ => #[.int n tn, .int n tn])).get? S = some (seqObj "list" #[.int n tn, .int n tn] c2) := ⟨_, get?_update_seq hS1 fun _ => #[.int n tn, .int n tn]⟩
      refine wpAny_bind ?_
      refine wpAny_updateSeq hS1 rfl (wpAny_bind (wpAny_letGo ?_))
      rw [hname]
      refine wpAny_pure ⟨plainId_quiet PySem.F.plain_max_loop _, ih (j + 1) _ _ n tn tn c2 (by omega) hlt (fun b o e => (s1.2 b (ne0 b o e).2).trans (k1 b o e)) hc2 ⟨oI', (s1.2 It hSI.symm).trans hoI', hoc, hod⟩ hmem fun a ha => ?_⟩
      rw [htake] at ha
      rcases List.mem_append.mp ha with ha | ha
      · have := hb a ha; omega
      · rw [List.mem_singleton.mp ha]; exact Int.le_refl _
    · simp only [hb', decide_false, Bool.false_eq_true, if_false]
      refine wpAny_bind (wpAny_letGo ?_)
      rw [hname]
      refine wpAny_pure ⟨plainId_quiet PySem.F.plain_max_loop _, ih (j + 1) _ _ M t t' c (by omega) hlt k1 hS1 ⟨oI', hoI', hoc, hod⟩ hM fun a ha => ?_⟩
      rw [htake] at ha
      rcases List.mem_append.mp ha with ha | ha
      · exact hb a ha
      · rw [List.mem_singleton.mp ha]; omega

theorem max_def (hh : A.handled = none) (hl : s.heap.IsList l its.toArray) (hi : IntsAre its ns)
    (hQ0 : ∀ (h' : Heap) (tk : Nat), ns = [] → (∀ b o, s.heap.get? b = some o → h'.get? b = some o) → Q d { s with heap := h', toks := tk })
    (hQ : ∀ (M : Int) (t : Tok) (h' : Heap) (tk : Nat), M ∈ ns → (∀ a ∈ ns, a ≤ M) → (∀ b o, s.heap.get? b = some o → h'.get? b = some o) → Q (.int M t) { s with heap := h', toks := tk }) :
    wpAny (model prog w) A (call (.builtin "max") [.ref l] [(Str.ofString "default", d)]) Q E s := by
  have hname : (toString "max" ++ toString ".loop" : String) = "max.loop" := by decide
  obtain ⟨ol, hol, _⟩ := id hl
  have hll : l < s.heap.objs.size := Heap.lt_size hol
  refine kmk_tree PySem.F.kind_max PySem.F.plain_max PySem.F.entry_max (args_maxD _ _) ?_
  show wpAny _ A.in1 (Builtin.Builtins.bindParams "max" ["key", "default"] 0 ⟨[], [(Str.ofString "default", d)]⟩ >>= _) _ _ s
  refine wpAny_bind (wpAny_of_eq (show Builtin.Builtins.bindParams "max" ["key", "default"] 0 ⟨[], [(Str.ofString "default", d)]⟩ = pure [none, some d] from rfl) ?_)
  refine wpAny_bind (wpAny_pure ?_)
  refine wpAny_bind (wpAny_pyIter_list hl ?_)
  refine wpAny_bind (wpAny_newList ?_ (Nat.zero_le _))
  rw [hname]
  obtain ⟨hp, g, dr, t, os⟩ := s
  let oI0 : Obj := { cls := .type "list_iterator", data := .fields #[.ref l, .int 0 0] }
  have hS : (hp.push oI0).objs.size = hp.objs.size + 1 := size_push' ..
  have hlI : l ≠ hp.objs.size := Nat.ne_of_lt hll
  have hSI : (hp.push oI0).objs.size ≠ hp.objs.size := by rw [hS]; exact Nat.ne_of_gt (Nat.lt_succ_self _)
  have gI : ((hp.push oI0).push (seqObj "list" #[] 0)).get? hp.objs.size = some oI0 := Heap.get?_push_of_some _ (Heap.get?_push_size _ rfl)
  have gS : ((hp.push oI0).push (seqObj "list" #[] 0)).get? (hp.push oI0).objs.size = some (seqObj "list" #[] 0) := Heap.get?_push_size _ rfl
  have k0 : ∀ b o, hp.get? b = some o → ((hp.push oI0).push (seqObj "list" #[] 0)).get? b = some o := fun b o e => Heap.get?_push_of_some _ (Heap.get?_push_of_some _ e)
  have hl0 : ∀ h : Heap, (∀ b o, hp.get? b = some o → h.get? b = some o) → h.IsList l its.toArray := fun h k => by
    obtain ⟨o, e, r⟩ := hl
    exact ⟨o, k _ _ e, r⟩
  have ne0 : ∀ b o, hp.get? b = some o → b ≠ hp.objs.size ∧ b ≠ (hp.push oI0).objs.size := fun b o e => ⟨Nat.ne_of_lt (Heap.lt_size e), by rw [hS]; exact Nat.ne_of_lt (Nat.lt_succ_of_lt (Heap.lt_size e))⟩
  have W := Walks.list (prog := prog) (w := w) (A := A.in1) hh hp.objs.size l hlI its.toArray
  have hlen : its.length = ns.length := hi.length
  have hsz : its.toArray.size = ns.length := by rw [List.size_toArray]; exact hlen
  refine wpAny_pure ⟨plainId_quiet PySem.F.plain_max_loop _, ?_⟩
  refine codeAny_builtin PySem.F.entry_max_loop ?_
  rw [Around.under_plainId PySem.F.plain_max_loop _]
  show wpAny _ A.in1 (seqItems? (.ref _) >>= _) _ _ _
  refine wpAny_bind (wpAny_seqItems gS rfl ?_)
  show wpAny _ A.in1 (tryCatch (pyNext (.ref hp.objs.size)) _ >>= _) _ _ _
  by_cases hz : ns = []
  · subst hz
    refine wpAny_bind (wpAny_tryCatch (W.done _ _ _ ⟨by rw [hsz]; exact ⟨_, gI, rfl, rfl⟩, hl0 _ k0⟩ fun h1 tk1 hk1 => ?_))
    show wpAny _ A.in1 (rule _ >>= _) _ _ _
    refine wpAny_bind (wpAny_rule (wpAny_pure ?_))
    exact hQ0 h1 tk1 rfl fun b o e => hk1 b o (by simpa using (ne0 b o e).1) (k0 b o e)
  · have hne : 0 < ns.length := by
      cases ns with
      | nil => exact absurd rfl hz
      | cons _ _ => simp
    refine wpAny_bind (wpAny_tryCatch (W.item 0 _ _ _ (by rw [hsz]; exact hne) ⟨⟨_, gI, rfl, rfl⟩, hl0 _ k0⟩ fun v h1 tk1 hP hst1 hk1 => ?_))
    have hv : its[0]? = some v := by simpa using hP
    obtain ⟨n, hn⟩ : ∃ n, ns[0]? = some n := ⟨_, List.getElem?_eq_getElem hne⟩
    obtain ⟨tn, etn⟩ := hi.get 0 n hn
    rw [hv] at etn
    cases etn
    obtain ⟨oI', hoI', hoc, hod⟩ := id hst1.1
    have hS1 := hk1 _ _ (by simpa using hSI) gS
    have k1 : ∀ b o, hp.get? b = some o → h1.get? b = some o := fun b o e => hk1 b o (by simpa using (ne0 b o e).1) (k0 b o e)
    show wpAny _ A.in1 (pure (Value.int n tn) >>= _) _ _ _
    refine wpAny_bind (wpAny_pure ?_)
    have s1 := Heap.SameBut.update h1 (hp.push oI0).objs.size (Obj.mapSeq fun _ => #[.int n tn, .int n tn])
    obtain ⟨c2, hc2⟩ : ∃ c2, (h1.update (hp.push oI0).objs.size (Obj.mapSeq fun _ => #[.int n tn, .int n tn])).get? (hp.push oI0).objs.size = some (seqObj "list" #[.int n tn, .int n tn] c2) := ⟨_, get?_update_seq hS1 fun _ => #[.int n tn, .int n tn]⟩
    show wpAny _ A.in1 (updateSeq (hp.push oI0).objs.size (fun _ => #[.int n tn, .int n tn]) >>= _) _ _ _
    refine wpAny_bind ?_
    refine wpAny_updateSeq hS1 rfl ?_
    rw [hname]
    refine wpAny_pure ⟨plainId_quiet PySem.F.plain_max_loop _, maxd_loop (s := ⟨hp, g, dr, t, os⟩) (h0 := hp) hh hl0 hi hlI hSI (Nat.le_refl _) (by rw [hS]; exact Nat.le_succ _) (fun M t h' tk h1 h2 h3 => hQ M t h' tk h1 h2 h3) _ 0 _ _ n tn tn c2 rfl hne (fun b o e => (s1.2 b (ne0 b o e).2).trans (k1 b o e)) hc2 ⟨oI', (s1.2 _ hSI.symm).trans hoI', hoc, hod⟩ (List.mem_of_getElem? hn) fun a ha => ?_⟩
    have e : ns.take 1 = [n] := by
      cases ns with
      | nil => cases hn
      | cons x r => simp at hn; subst hn; rfl
    rw [show (0 + 1 : Nat) = 1 from rfl, e] at ha
    rw [List.mem_singleton.mp ha]
    exact Int.le_refl _
end

/-- max(e, default=d) -/
def tMaxD (K : PySem.W.Frag) (te td : TE) : TE := fun σ H Q => te σ H fun x H1 => td σ H1 fun y H2 => ∃ (l : Addr) (ns : List Int), x = .ref l ∧ SqL K H2 l (ns.map V.int) ∧
  (ns = [] → Q y H2) ∧ ∀ M, M ∈ ns → (∀ a ∈ ns, a ≤ M) → Q (.int M) H2
section
variable {X : Cx} {e de : Expr} {te td : TE} {p pos kpos : Pos}
theorem pe_maxD (he : PE X e te) (hd : PE X de td) (hc : X.calm = true) (hg : Gl X "max") (hm : X.mg "max" = none) (hv : bootBuiltins "max" = some (.builtin "max") := by rfl) (hs : starEach [e] X.env = [(false, eval e X.env)] := by rfl) :
    PE X (.Call (.Name "max" p) [e] [⟨some "default", de, kpos⟩] pos) (tMaxD X.K te td) := by
  intro pins s σ H Q I h
  refine wpAny_Call_Name_kw (ld_blt I hg hm hv ?_ (by decide) (by decide))
  let B : V → Hp → Prop := fun x H1 => td σ H1 fun y H2 => ∃ (l : Addr) (ns : List Int), x = .ref l ∧ SqL X.K H2 l (ns.map V.int) ∧ (ns = [] → Q y H2) ∧ ∀ M, M ∈ ns → (∀ a ∈ ns, a ≤ M) → Q (.int M) H2
  let Q' : List V → Hp → Prop := fun vs H1 => match vs with | [x] => B x H1 | _ => False
  have h' : tCons te tNil σ H Q' := h
  refine callWith_kw (thn ((pa_cons he pa_nil hs) pos pins s σ H Q' I h') fun us s1 ⟨vs, H1, I1, r1, q1⟩ => ?_) (by rw [hs]; rfl) (by rw [hs]; rfl) rfl rfl
  cases r1 with
  | nil => exact False.elim q1
  | cons ra rt =>
    cases rt with
    | cons _ _ => exact False.elim q1
    | nil =>
      have q2 : B _ H1 := q1
      refine kws_cons (thn (hd pins s1 σ H1 _ I1 q2) fun dv s2 ⟨y, H2, I2, ry, q3⟩ => kws_nil ?_)
      obtain ⟨l, ns, rfl, hL, q0, qM⟩ := q3
      cases (show _ = Value.ref l from ra)
      show wpAny _ X.A (call (.builtin "max") [.ref l] [(Str.ofString "default", dv)]) _ _ s2
      obtain ⟨its, rv, hl, hz⟩ := I2.list hL
      exact max_def (I2.ok.hd hc) hl.isList rv.ints (fun h' tk e k => ⟨y, H2, I2.kept k, ry, q0 e⟩) fun M t h' tk h1 h2 k => ⟨.int M, H2, I2.kept k, ⟨_, rfl⟩, qM M h1 h2⟩
end
end L2
end

section
set_option Elab.async false
set_option linter.all false
set_option maxRecDepth 100000
set_option maxHeartbeats 2000000
namespace L2
open PySem PySem.Spec PyProof.Rows
open PySem.W (WData Codec OpenSpec Well WellAll ReadsW ReadsAllW)

/-! ### f(..) where f is a value: an item of a tuple of defs -/
def tCallV (X : Cx) (tf : TE) (t : TA) : TE := fun σ H Q => tf σ H fun x H1 => ∃ (f : Addr) (fd : FuncData) (ps : List Str) (sp : Sp) (k : Nat), x = .ref f ∧ FnOk X.prog X.w X.K X.mg X.base CX0 k f fd ps sp ∧ Room k X.A ∧
  PySem.W.keepIn X.K (.ref f) = true ∧ Binds X.K fd ps [] ∧ t σ H1 fun vs H2 => sp vs H2 Q E0
section
variable {X : Cx} {fe e : Expr} {es : List Expr} {pos : Pos} {tf : TE} {t : TA}
theorem pe_callV (hf : PE X fe tf) (ha : PA X (e :: es) t) (hst : starEach (e :: es) X.env = (false, eval e X.env) :: starEach es X.env := by rfl) (hpl : (backTo pos (starEach es X.env)).any (·.1) = false := by rfl)
    (he : eval (.Call fe (e :: es) [] pos) X.env = (do callWith pos (← eval fe X.env) [] (backTo pos (starEach (e :: es) X.env)) (backToKw pos (keywordEach [] X.env))) := by rfl) :
    PE X (.Call fe (e :: es) [] pos) (tCallV X tf t) := by
  intro pins s σ H Q I h
  refine Call_ (thn (hf pins s σ H _ I h) fun u s1 ⟨x, H1, I1, rx, f, fd, ps, sp, k, ex, F, hr, hk, hb, q⟩ => ?_) he
  subst ex
  obtain rfl : u = Value.ref f := rx
  refine PySem.W.callWith_K (h₀ := X.base) I.ok.mod.kin hk (thn (ha pos pins s1 σ H1 _ I1 q) fun us s2 ⟨vs, H2, I2, r, q2⟩ => ⟨I2.kIn, ?_⟩) hst hpl
  exact run_fn F hr hb .nil pass0 I2 r (by rw [List.append_nil]; exact q2)
end

/-! ### the call from outside, with the tables of the defs that hold lambdas -/
/-- the tables, empty yet, beside what is known of the arguments -/
def withT (H : Hp) (tabs : List Addr) : Hp := fun b => if b ∈ tabs then some (.tbl #[]) else H b
def OnlyT (H : Hp) (tabs : List Addr) : Prop := (∀ P ∈ tabs, H P = some (.tbl #[])) ∧ ∀ b, b ∉ tabs → H b = none ∨ ∃ o u, H b = some (.frz o u)
theorem dw_mono {K : PySem.W.Frag} {H H' : Hp} (k : ∀ b o, H b = some o → H' b = some o) : ∀ {x : V} {d : WData}, Dw K H x d → Dw K H' x d := by
  have sl : ∀ {a : Addr} {xs : List V}, SqL K H a xs → SqL K H' a xs := fun h => Same.seq k h
  have st : ∀ {a : Addr} {xs : List V}, SqT K H a xs → SqT K H' a xs := fun h => sqT_same k h
  intro x d h
  refine Dw.rec (motive_1 := fun x d _ => Dw K H' x d) (motive_2 := fun xs ds _ => DwAll K H' xs ds) .non .bl .int .str .byt (fun h1 _ h2 => .lst (sl h1) h2) (fun h1 _ h2 => .tup (st h1) h2) .nil (fun _ _ h1 h2 => .cons h1 h2) h
theorem dwAll_mono {K : PySem.W.Frag} {H H' : Hp} (k : ∀ b o, H b = some o → H' b = some o) : ∀ {xs : List V} {ds : List WData}, DwAll K H xs ds → DwAll K H' xs ds
  | _, _, .nil => .nil
  | _, _, .cons h1 h2 => .cons (dw_mono k h1) (dwAll_mono k h2)

theorem spec_callT {P : Program} {w : World} {K : PySem.W.Frag} {mg mb : Str → Option Value} {k : Nat} {fa : Addr} {fd : FuncData} {ps : List Str} {sp : Sp} {s₁ : Shared} {vals : List Value} {ds : List WData} {R : PySem.W.WRecords} {cl : Str → Option Addr} {d0 : WData} {tabs : List Addr}
    (KX : K.In s₁.heap) (hns : s₁.heap.Ns mainGlobals mg) (hb : s₁.heap.Ns builtinsNs mb) (hbb : ∀ x : Str, x ≠ "__name__" → mb x = bootBuiltins x) (hlim : s₁.heap.NoLimit) (hg : s₁.gens = #[]) (hbm : BMain mg s₁.heap)
    (hT : ∀ P ∈ tabs, K.lookup P = none ∧ ∃ c, PySem.W.CodeHd s₁.heap c P ∧ s₁.heap.TableAt c P #[])
    (hwl : WellAll w.params s₁.heap vals ds) (hpl : plWs ds = true) (hwt : ∀ d ∈ ds, d.weight ≤ 1048576) (hr : Room k callerA)
    (F : ∀ base : Heap, K.In base → base.Ns mainGlobals mg → BMain mg base → FnOk P w K mg base CX0 k fa fd ps sp) (hbind : ∀ (s : Shared) (us : List Value), us.length = ps.length → BindsTo s fd ⟨us, []⟩ (ps.zip us)) (hlen : ds.length = ps.length)
    (hsp : ∀ (H : Hp) (xs : List V), OnlyT H tabs → DwAll K H xs ds → sp xs H (fun v H' => Dw K H' v d0) fun _ _ _ => False) :
    codeAny (model P w) callerA (.call (.ref fa) ⟨vals, []⟩) (fun r s' => ∃ u as, r = .ok (.ret u) ∧ ReadsW R cl s'.heap u d0 as ∧ OldK s₁.heap s'.heap ∧ s'.os = s₁.os ∧ AllBare s'.gens) s₁ := by
  obtain ⟨A, ho, ar⟩ := area_all ds vals hwl hpl hwt
  have hO := argH_only (K := K) ar
  have hok0 : HOk P w (argH K s₁.heap A) s₁.heap := argH_ok ar
  have hS0 := dw_all KX ar ds vals hwl hpl ho
  have hV := vals_toV ho
  have hA : ∀ b u, argH K s₁.heap A b = some u → K.lookup b = none ∧ b ∉ tabs := fun b u q => by
    obtain ⟨h1, vs, _, _, h2⟩ := argH_is ar q
    refine ⟨h1, fun hm => ?_⟩
    obtain ⟨_, c, _, _, e⟩ := hT b hm
    rcases h2 with ⟨e2, _⟩ | ⟨e2, _⟩
    · rw [e] at e2; cases e2
    · rw [e] at e2; cases e2
  have noA : ∀ {b : Addr} {o : Obj}, s₁.heap.get? b = some o → (∀ vs n, o.data ≠ .seq vs n) → (∀ vs, o.data ≠ .fields vs) → withT (argH K s₁.heap A) tabs b = none := fun {b o} e d d2 => by
    unfold withT
    by_cases hm : b ∈ tabs
    · obtain ⟨_, c, _, _, e2⟩ := hT b hm
      rw [e2] at e; cases e
      exact absurd rfl (d2 _)
    · rw [if_neg hm]
      cases q : argH K s₁.heap A b with
      | none => rfl
      | some u =>
        obtain ⟨_, vs, _, _, ⟨e2, _⟩ | ⟨e2, _⟩⟩ := argH_is ar q
        · rw [e2] at e; cases e; exact absurd rfl (d _ _)
        · rw [e2] at e; cases e; exact absurd rfl (d _ _)
  have sm : ∀ b o, argH K s₁.heap A b = some o → withT (argH K s₁.heap A) tabs b = some o := fun b o q => by
    unfold withT
    rw [if_neg (hA b o q).2]
    exact q
  have hS : DwAll K (withT (argH K s₁.heap A) tabs) (vals.map toV) ds := dwAll_mono sm hS0
  have hOT : OnlyT (withT (argH K s₁.heap A) tabs) tabs := ⟨fun P hP => by unfold withT; rw [if_pos hP], fun b hb => by unfold withT; rw [if_neg hb]; exact hO b⟩
  have hok : HOk P w (withT (argH K s₁.heap A) tabs) s₁.heap := fun b u q => by
    by_cases hm : b ∈ tabs
    · rw [hOT.1 b hm] at q; cases q
      obtain ⟨_, c, _, _, e⟩ := hT b hm
      exact e
    · have q' : argH K s₁.heap A b = some u := by unfold withT at q; rw [if_neg hm] at q; exact q
      exact (hok0 b u q').stay (fun _ _ _ e => e) (fun c e => sm c _ e) fun c xs e => sm c _ e
  have nK : ∀ b o, K.lookup b = some o → withT (argH K s₁.heap A) tabs b = none := fun b o e => by
    unfold withT
    by_cases hm : b ∈ tabs
    · rw [(hT b hm).1] at e; cases e
    · rw [if_neg hm]
      cases q : argH K s₁.heap A b with
      | none => rfl
      | some u => rw [(hA b u q).1] at e; cases e
  generalize withT (argH K s₁.heap A) tabs = H at hS hOT hok nK noA
  have base_of : ∀ {b : Addr} {o : Obj}, s₁.heap.get? b = some o → H b = none → (hidT s₁.heap H).get? b = some o := fun e n => hidT_get e n
  have nsK : ∀ {b : Addr} {m : Str → Option Value}, s₁.heap.Ns b m → (hidT s₁.heap H).Ns b m := fun {b m} ⟨o, es, ep, e, d, r⟩ => ⟨o, es, ep, base_of e (noA e (fun _ _ z => by rw [d] at z; cases z) fun _ z => by rw [d] at z; cases z), d, r⟩
  have hKb : K.In (hidT s₁.heap H) := fun b o e => base_of (KX b o e) (nK b o e)
  have hM : Mod K mg (hidT s₁.heap H) := ⟨hKb, nsK hns, ⟨mb, nsK hb, hbb⟩, let ⟨mc, h1, h2⟩ := hlim; ⟨mc, nsK h1, h2⟩⟩
  have hBM : BMain mg (hidT s₁.heap H) := by
    obtain ⟨bm, ob, b1, b2, b3, b4, b5, b6⟩ := hbm
    exact ⟨bm, ob, b1, b2, base_of b3 (noA b3 (fun _ _ z => by rw [b6] at z; cases z) fun _ z => by rw [b6] at z; cases z), b4, b5, b6⟩
  have frH : ∀ b, b ∈ ([] : List Addr) → H b = none := fun b hb => absurd hb (by simp)
  have e0 : Env0 P w K mg (hidT s₁.heap H) callerA [] s₁ H := ⟨rfl, hM, fun b o e => of_hidT e, Nat.le_of_eq (hidT_size _ _), trivial, fun b hb => absurd (show b ∈ ([] : List Addr) from hb) (by simp), hok, .of_eq hg⟩
  have hl : vals.length = ps.length := by rw [wellAll_len hwl]; exact hlen
  refine codeAny_mono ((F _ hKb (nsK hns) hBM).run callerA [] s₁ H ⟨vals, []⟩ vals (vals.map toV) _ _ hr e0 (hbind s₁ vals hl) hV (hsp H _ hOT hS)) fun r s' x => ?_
  cases r with
  | error e => exact (show False from x).elim
  | ok fl =>
    cases fl with
    | next => exact False.elim x
    | brk => exact False.elim x
    | cont => exact False.elim x
    | ret u =>
      obtain ⟨v, H', os, bare, un, hok', r', q⟩ := x
      have kept : ∀ b o, s₁.heap.get? b = some o → b ∉ tabs → s'.heap.get? b = some o := fun b o e hnt => by
        cases q2 : H b with
        | none => exact un.keep b o e q2 (by intro z; exact absurd (show b ∈ ([] : List Addr) from z) (by simp)) (by simp)
        | some u2 =>
          rcases hOT.2 b hnt with z | ⟨ob, u3, z⟩
          · rw [q2] at z
            cases z
          · have z2 := un.frzs b ob _ z
            obtain ⟨e1, _⟩ := hok b _ z
            obtain ⟨e2, _⟩ := hok' b _ z2
            rw [e] at e1
            cases e1
            exact e2
      have keptT : ∀ b, b ∈ tabs → ∃ more, s'.heap.get? b = some (PySem.W.tabObj more) := fun b hb => by
        obtain ⟨more, e⟩ := un.tbls b _ (hOT.1 b hb)
        exact ⟨_, hok' b _ e⟩
      have KX' : K.In s'.heap := fun b o e => kept b o (KX b o e) fun hb => by rw [(hT b hb).1] at e; cases e
      obtain ⟨as, hrd⟩ := Dw.reads (R := R) (cl := cl) hok' KX' d0 v u q r'
      refine ⟨u, as, rfl, hrd, ⟨fun b o e => ?_, fun b o e => ?_⟩, os, bare⟩
      · by_cases hb : b ∈ tabs
        · obtain ⟨_, c, _, ht⟩ := hT b hb
          obtain ⟨more, e2⟩ := keptT b hb
          have e3 := ht.2
          rw [e] at e3
          cases e3
          exact .inr (.inl ⟨ht.isCodeTable, rfl, #[], more, rfl, by rw [e2]; simp⟩)
        · exact .inl (kept b o e hb)
      · by_cases hb : b ∈ tabs
        · obtain ⟨more, e2⟩ := keptT b hb
          exact ⟨_, e2⟩
        · exact ⟨o, kept b o e hb⟩

theorem walk_specT {r : OpenSpec} {k : Nat} {q : Program} {loose : List Str} {XP : (Str → Option Value) → Heap → Prop} {YP : World → Heap → Prop} {d : DefRec} {K : Params → PySem.W.Frag} {ps : List Str} {sp : PySem.W.Frag → List Addr → Sp} {tabs : List Addr}
    (hwell : r.wellSaid = true) (hdf : d.params.defaults = []) (hlen : r.args.length = ps.length) (hr : Room k callerA)
    (hY : ∀ (w : World) (h : Heap), YP w h → (K w.params).In h)
    (hT : ∀ (w : World) (s₀ : Shared) (mg mb : Str → Option Value) (h : Heap), PySem.W.Ground q loose [] XP w s₀ mg mb h → (K w.params).In h → ∀ P ∈ tabs, (K w.params).lookup P = none ∧ ∃ c, PySem.W.CodeHd h c P ∧ h.TableAt c P #[])
    (F : ∀ (w : World) (mg : Str → Option Value) (fa : Addr) (h : Heap), YP w h → (K w.params).In h → h.Ns mainGlobals mg → mg d.name = some (.ref fa) →
      ∃ fd : FuncData, (∀ (s : Shared) (us : List Value), us.length = ps.length → BindsTo s fd ⟨us, []⟩ (ps.zip us)) ∧
        ∀ base : Heap, (K w.params).In base → base.Ns mainGlobals mg → BMain mg base → FnOk r.prog w (K w.params) mg base CX0 k fa fd ps (sp (K w.params) tabs))
    (hsp : ∀ (K : PySem.W.Frag) (H : Hp) (xs : List V) (a : Codec.denoteAll r.args), OnlyT H tabs → Codec.withinAll r.args a = true → Codec.app r.args r.asked a = true → DwAll K H xs (Codec.encAll r.args a) →
      sp K tabs xs H (fun v H' => Dw K H' v (r.ret.enc (Codec.app r.args r.f a))) fun _ _ _ => False) :
    PySem.W.WalkOS q loose XP YP r d [] (fun f vs => PySem.call f vs) := by
  intro w s_0 s₁ mg mb G Y fa o pm cd doc dV kV ho hd hcd hD hmg hg args vals as hpre hlay hrd hwl hlo
  obtain ⟨a, e1, e2⟩ := PySem.W.os_pre_some hpre
  obtain ⟨e3, hwi⟩ := Codec.encAll_of_decAll r.args args a e1
  subst e3
  have KX := hY w _ Y
  obtain ⟨fd, hb, hF⟩ := F w mg fa _ Y KX G.T.g hmg
  refine PySem.W.enter_call (codeAny_mono (spec_callT (R := []) (cl := classAt s_0.heap) (d0 := r.ret.enc (Codec.app r.args r.f a)) (tabs := tabs) KX G.T.g G.T.b G.T.builtins G.T.nolimit hg G.T.bmain (hT w s_0 mg mb _ G KX) hwl (pl_encAll _ _) (layable_weight hlay) hr hF hb (by rw [encAll_len]; exact hlen)
    (fun H xs hO hS => hsp (K w.params) H xs a hO hwi e2 hS)) fun r' s' hq => ?_)
  obtain ⟨u, as', rfl, h1, h2, h3, h4⟩ := hq
  exact ⟨.inl ⟨u, _, as', rfl, fun _ => rfl, h1, (OpenSpec.post_iff hwell hwi _ _).mpr rfl, fun z => Bool.noConfusion (show false = true from z)⟩, h2, h3, h4⟩
end L2
end

section
set_option Elab.async false
set_option linter.all false
set_option maxRecDepth 100000
namespace L2
open PySem PySem.Spec PyProof.Rows
/-- the table that a code object names, where all that CodeHd asks is so -/
def hdOf (c : Addr) : Obj → Option Addr
  | ⟨.type "code", _, .fields vs, _⟩ => (match (vs[11]? : Option Value), vs.getD 18 .none, vs.getD 7 .none, vs.getD 9 .none, vs.getD 10 .none with
    | some (.ref P), .str _ _, .int _ _, .bool _, .int _ _ => if c = P then none else some P
    | _, _, _, _, _ => none)
  | _ => none
theorem hdOf_ok {K : PySem.W.Frag} {h : Heap} {c P : Addr} {o : Obj} (X : K.In h) (l : K.lookup c = some o) (e : hdOf c o = some P) : PySem.W.CodeHd h c P := by
  have hg := X _ _ l
  unfold hdOf at e
  split at e
  · split at e
    · rename_i vs _ _ P' file tf flags tg inF text tt h11 h18 h7 h9 h10
      by_cases hc : c = P'
      · rw [if_pos hc] at e; cases e
      · rw [if_neg hc] at e
        cases e
        refine ⟨_, _, file, tf, flags, tg, inF, text, tt, hg, rfl, rfl, h11, ?_, h18, h7, h9, h10, hc⟩
        rw [Array.getD_eq_getD_getElem?, h11]
        rfl
    · cases e
  · cases e
theorem hdOf_tab {K : PySem.W.Frag} {h : Heap} {c P : Addr} {o : Obj} {ps : Array Value} (X : K.In h) (l : K.lookup c = some o) (e : hdOf c o = some P) (hP : h.get? P = some (PySem.W.tabObj ps)) : h.TableAt c P ps := (hdOf_ok X l e).tab hP
end L2
end

section
set_option Elab.async false
set_option linter.all false
set_option maxRecDepth 100000
set_option maxHeartbeats 2000000
namespace CD
open PySem PySem.Spec PyProof.Rows L2

/-! ### the text by places -/
def top (i : Nat) : Stmt := PySem.Challenge.pw_colddrops_s01_answers.main.body.getD i (.Pass ⟨0, 0, 0, 0⟩)
abbrev sStopInit : Stmt := inClass (top 15) 0
abbrev sRoadsInit : Stmt := inClass (top 16) 0
abbrev sHasStop : Stmt := inClass (top 16) 1
abbrev sHasPlace : Stmt := inClass (top 16) 2
abbrev sBetween : Stmt := inClass (top 16) 3
abbrev sSetMin : Stmt := inClass (top 16) 4
abbrev sPlaceOf : Stmt := top 17
abbrev sDropInit : Stmt := inClass (top 19) 0
abbrev sFrostAt : Stmt := top 26
abbrev sTripInit : Stmt := inClass (top 20) 0
abbrev sTripFrom : Stmt := top 21
abbrev sTripWith : Stmt := top 22
abbrev sTripAlong : Stmt := top 23
abbrev sAllTrips : Stmt := top 24
abbrev sFrostNeeded : Stmt := top 25
abbrev sMinutesHome : Stmt := top 27
abbrev sColdDrops : Stmt := top 28
abbrev sMildest : Stmt := top 29
abbrev sColdTrips : Stmt := top 30
abbrev sQuickest : Stmt := top 31
abbrev sColdest : Stmt := top 32

/-! ### the objects -/
abbrev vn (n : Nat) : V := .int (n : Int)
def fStop (st : Su75.Stop) : List (Str × V) := [("door_minutes", vn st.hold), ("wanted", vn st.want), ("litres", vn st.litres)]
def StopAt (CS : Addr) (H : Hp) (p : Addr) (st : Su75.Stop) : Prop := ∃ dx, H p = some (.ins CS dx (fStop st))
def fRoads (r o : Nat) (ls d : Addr) : List (Str × V) := [("way_loss", vn r), ("door_loss", vn o), ("stops", .ref ls), ("ways", .ref d)]
/-- the roads at ra: the stops' list at ls, the ways' dict at d -/
structure RoadsAt (CS CR : Addr) (H : Hp) (ra ls d : Addr) (a : Su75.Abs) : Prop where
  ins : ∃ dx, H ra = some (.ins CR dx (fRoads a.run a.open_ ls d))
  lst : ∃ ss : List Addr, H ls = some (.lst (ss.map V.ref)) ∧ ss.length = a.stops.length ∧ ∀ (i : Nat) (p : Addr) (st : Su75.Stop), ss[i]? = some p → a.stops[i]? = some st → StopAt CS H p st
  dct : ∃ kvs : List (List Key × V), H d = some (.dT kvs) ∧ (kvs.map (·.1)).Nodup ∧ (∀ k ∈ kvs.map (·.1), ∃ x y : Nat, k = [Sum.inl (x : Int), Sum.inl (y : Int)] ∧ x ≤ a.stops.length ∧ y ≤ a.stops.length) ∧
    ∀ x y : Nat, x ≤ a.stops.length → y ≤ a.stops.length → x ≠ y → (valV kvs [Sum.inl (x : Int), Sum.inl (y : Int)]).getD (.int 30) = vn (a.mins x y)
  few : a.stops.length ≤ 7
  run : a.run ≤ 20
  opn : a.open_ ≤ 100
theorem StopAt.same {CS : Addr} {H H' : Hp} {p : Addr} {st : Su75.Stop} (e : Same H H') (h : StopAt CS H p st) : StopAt CS H' p st := let ⟨dx, q⟩ := h; ⟨dx, e _ _ q⟩
theorem RoadsAt.same {CS CR : Addr} {H H' : Hp} {ra ls d : Addr} {a : Su75.Abs} (e : Same H H') (R : RoadsAt CS CR H ra ls d a) : RoadsAt CS CR H' ra ls d a := by
  obtain ⟨⟨dx, h1⟩, ⟨ss, h2, h3, h4⟩, ⟨kvs, h5, h6⟩, h7, h8, h9⟩ := R
  exact ⟨⟨dx, e _ _ h1⟩, ⟨ss, e _ _ h2, h3, fun i p st q1 q2 => (h4 i p st q1 q2).same e⟩, ⟨kvs, e _ _ h5, h6⟩, h7, h8, h9⟩
/-- addresses and what lies there, one by one -/
def Each {α : Type} (R : Addr → α → Prop) (ps : List Addr) (xs : List α) : Prop := ps.length = xs.length ∧ ∀ (i : Nat) (p : Addr) (x : α), ps[i]? = some p → xs[i]? = some x → R p x
theorem Each.nil {α : Type} {R : Addr → α → Prop} : Each R [] [] := ⟨rfl, fun i p t h _ => by simp at h⟩
theorem Each.mono {α : Type} {R R' : Addr → α → Prop} {ps : List Addr} {xs : List α} (h : Each R ps xs) (k : ∀ p x, x ∈ xs → R p x → R' p x) : Each R' ps xs := ⟨h.1, fun i p x h1 h2 => k p x (List.mem_of_getElem? h2) (h.2 i p x h1 h2)⟩
theorem Each.snoc {α : Type} {R : Addr → α → Prop} {ps : List Addr} {xs : List α} {p : Addr} {x : α} (h : Each R ps xs) (hx : R p x) : Each R (ps ++ [p]) (xs ++ [x]) := by
  refine ⟨by rw [List.length_append, List.length_append, h.1]; rfl, fun i q u h1 h2 => ?_⟩
  by_cases hi : i < ps.length
  · rw [List.getElem?_append_left hi] at h1
    rw [List.getElem?_append_left (by rw [← h.1]; exact hi)] at h2
    exact h.2 i q u h1 h2
  · rw [List.getElem?_append_right (by omega)] at h1
    rw [List.getElem?_append_right (by rw [← h.1]; omega)] at h2
    rw [← h.1] at h2
    have e : i - ps.length = 0 := by
      rcases Nat.eq_zero_or_pos (i - ps.length) with z | z
      · exact z
      · rw [List.getElem?_eq_none (show [p].length ≤ i - ps.length from z)] at h1; cases h1
    rw [e] at h1 h2
    have e1 : p = q := by simpa using h1
    have e2 : x = u := by simpa using h2
    subst e1 e2
    exact hx
/-- the i-th address, as the list of references has it -/
theorem Each.at {α : Type} {R : Addr → α → Prop} {ps : List Addr} {xs : List α} (h : Each R ps xs) {i : Nat} {y : V} (hy : (ps.map V.ref)[i]? = some y) : ∃ (p : Addr) (x : α), y = V.ref p ∧ xs[i]? = some x ∧ R p x := by
  rw [List.getElem?_map] at hy
  cases e : ps[i]? with
  | none => rw [e] at hy; cases hy
  | some p =>
    rw [e] at hy
    have hil : i < xs.length := by rw [← h.1]; exact (List.getElem?_eq_some_iff.mp e).1
    exact ⟨p, xs[i], (Option.some.inj hy).symm, List.getElem?_eq_getElem hil, h.2 i p _ e (List.getElem?_eq_getElem hil)⟩
/-- a drop of a trip: minutes, tenths lost, the frost that it needs at first -/
structure Dr where
  minutes : Nat
  lost : Nat
  need : Nat
/-- a trip as it is reckoned -/
structure Tr where
  row : List Nat
  place : Nat
  minutes : Nat
  lost : Nat
  drops : List Dr
def Tr.needs (t : Tr) : List Nat := t.drops.map Dr.need
theorem needs_len (t : Tr) : t.needs.length = t.drops.length := List.length_map ..
def fDrop (x : Dr) : List (Str × V) := [("minutes", .int (x.minutes : Int)), ("lost", .int (x.lost : Int)), ("needed", .int (x.need : Int))]
def DropAt (CP : Addr) (H : Hp) (p : Addr) (x : Dr) : Prop := ∃ dx, H p = some (.ins CP dx (fDrop x))
theorem DropAt.same {CP : Addr} {H H' : Hp} {p : Addr} {x : Dr} (e : Same H H') (h : DropAt CP H p x) : DropAt CP H' p x := let ⟨dx, q⟩ := h; ⟨dx, e _ _ q⟩
abbrev vns (l : List Nat) : List V := l.map vn
def fTrip (lr ln : Addr) (t : Tr) : List (Str × V) := [("row", .ref lr), ("place", vn t.place), ("minutes", vn t.minutes), ("lost", vn t.lost), ("drops", .ref ln)]
def TripAt (CT CP : Addr) (H : Hp) (p : Addr) (t : Tr) : Prop := ∃ dx lr ln ds, H p = some (.ins CT dx (fTrip lr ln t)) ∧ H lr = some (.lst (vns t.row)) ∧ H ln = some (.lst (ds.map V.ref)) ∧ Each (DropAt CP H) ds t.drops
theorem TripAt.same {CT CP : Addr} {H H' : Hp} {p : Addr} {t : Tr} (e : Same H H') (h : TripAt CT CP H p t) : TripAt CT CP H' p t := let ⟨dx, lr, ln, ds, h1, h2, h3, h4⟩ := h; ⟨dx, lr, ln, ds, e _ _ h1, e _ _ h2, e _ _ h3, h4.mono fun _ _ _ q => q.same e⟩
def tripFrom (place : Nat) : Tr := ⟨[], place, 0, 0, []⟩
def tripWith (a : Su75.Abs) (t : Tr) (s : Nat) : Tr :=
  ⟨t.row ++ [s], s + 1, t.minutes + a.mins t.place (s + 1) + (a.halt_ s).hold, t.lost + a.mins t.place (s + 1) * a.run + (a.halt_ s).hold * a.open_, t.drops ++ [⟨t.minutes + a.mins t.place (s + 1), t.lost + a.mins t.place (s + 1) * a.run, t.lost + a.mins t.place (s + 1) * a.run + (a.halt_ s).want⟩]⟩

/-! ### facts of the text -/
structure TR (K : PySem.W.Frag) (mg : Str → Option Value) (CS CR CT CP : Addr) : Prop where
  clS : Cls K CS
  nS1 : NoAttr K CS "door_minutes"
  nS2 : NoAttr K CS "wanted"
  nS3 : NoAttr K CS "litres"
  mgS : mg "Stop" = some (.ref CS)
  clR : Cls K CR
  nR1 : NoAttr K CR "way_loss"
  nR2 : NoAttr K CR "door_loss"
  nR3 : NoAttr K CR "stops"
  nR4 : NoAttr K CR "ways"
  mgR : mg "Roads" = some (.ref CR)
  clT : Cls K CT
  nT1 : NoAttr K CT "row"
  nT2 : NoAttr K CT "place"
  nT3 : NoAttr K CT "minutes"
  nT4 : NoAttr K CT "lost"
  nT5 : NoAttr K CT "drops"
  mgT : mg "Trip" = some (.ref CT)
  clP : Cls K CP
  nP1 : NoAttr K CP "minutes"
  nP2 : NoAttr K CP "lost"
  nP3 : NoAttr K CP "needed"
  mgP : mg "Drop" = some (.ref CP)
  len : mg "len" = none
  max : mg "max" = none
  min : mg "min" = none
  range : mg "range" = none
  works : ∃ t, mg "WORKS" = some (.int 0 t)
  first : ∃ t, mg "FIRST_WAY" = some (.int 30 t)

/-! ### the promises -/
def Init1 (C : Addr) (p : Addr) (H : Hp) (fs : List (Str × V)) (Q : VK) : Prop := ∀ H' : Hp, (∃ dx, H' p = some (.ins C dx fs)) → (∀ b o, H b = some o → b ≠ p → H' b = some o) → Q .non H'
def spStopInit (CS : Addr) : Sp := fun vs H Q _ => ∃ (p dx : Addr) (st : Su75.Stop), vs = [.ref p, vn st.hold, vn st.want, vn st.litres] ∧ H p = some (.ins CS dx []) ∧ Init1 CS p H (fStop st) Q
def spDropInit (CP : Addr) : Sp := fun vs H Q _ => ∃ (p dx : Addr) (m l n : Nat), vs = [.ref p, vn m, vn l, vn n] ∧ H p = some (.ins CP dx []) ∧ Init1 CP p H (fDrop ⟨m, l, l + n⟩) Q
section
variable {P : Program} {w : World} {K : PySem.W.Frag} {mg : Str → Option Value} {base : Heap} {CS CR CT CP : Addr}
theorem scStopInit : FnScope ["self", "door_minutes", "wanted", "litres"] ["self", "door_minutes", "wanted", "litres"] (defScope sStopInit) := ⟨rfl, rfl, rfl, by decide +kernel, rfl, by decide +kernel, by decide +kernel⟩
theorem ok_stopInit {f : Addr} {fd : FuncData} (F : Fun K "__init__" "Stop.__init__" sStopInit f fd) (T : TR K mg CS CR CT CP) : FnOk P w K mg base CX0 1 f fd ["self", "door_minutes", "wanted", "litres"] (spStopInit CS) := by
  refine F.ok scStopInit (fun vs H Q E h => ?_) (fun cdv A outer s H vs Q E hr h => ?_)
  · obtain ⟨p, dx, st, rfl, _⟩ := h
    rfl
  · obtain ⟨p, dx, st, rfl, hp, k⟩ := h
    refine ⟨_, pss_cons (ps_fld (pv 0) (pv 1) rfl) (pss_cons (ps_fld (pv 0) (pv 2) rfl) (pss_one (ps_fld (pv 0) (pv 3) rfl))), ?_⟩
    refine ⟨_, rfl, _, rfl, p, CS, dx, _, rfl, hp, T.clS, T.nS1, (by decide), ?_⟩
    refine ⟨_, rfl, _, rfl, p, CS, dx, _, rfl, upd_same, T.clS, T.nS2, (by show 1 < 1000; decide), ?_⟩
    refine ⟨_, rfl, _, rfl, p, CS, dx, _, rfl, upd_same, T.clS, T.nS3, (by show 2 < 1000; decide), ?_⟩
    exact k _ ⟨dx, upd_same⟩ fun b o e hb => by rw [upd_ne hb, upd_ne hb, upd_ne hb]; exact e
theorem scDropInit : FnScope ["self", "minutes", "lost", "wanted"] ["self", "minutes", "lost", "wanted"] (defScope sDropInit) := ⟨rfl, rfl, rfl, by decide +kernel, rfl, by decide +kernel, by decide +kernel⟩
theorem ok_dropInit {f : Addr} {fd : FuncData} (F : Fun K "__init__" "Drop.__init__" sDropInit f fd) (T : TR K mg CS CR CT CP) : FnOk P w K mg base CX0 1 f fd ["self", "minutes", "lost", "wanted"] (spDropInit CP) := by
  refine F.ok scDropInit (fun vs H Q E h => ?_) (fun cdv A outer s H vs Q E hr h => ?_)
  · obtain ⟨p, dx, m, l, n, rfl, _⟩ := h
    rfl
  · obtain ⟨p, dx, m, l, n, rfl, hp, k⟩ := h
    refine ⟨_, pss_cons (ps_fld (pv 0) (pv 1) rfl) (pss_cons (ps_fld (pv 0) (pv 2) rfl) (pss_one (ps_fld (pv 0) (pe_op op_add (pv 2) (pv 3)) rfl))), ?_⟩
    refine ⟨_, rfl, _, rfl, p, CP, dx, _, rfl, hp, T.clP, T.nP1, (by decide), ?_⟩
    refine ⟨_, rfl, _, rfl, p, CP, dx, _, rfl, upd_same, T.clP, T.nP2, (by show 1 < 1000; decide), ?_⟩
    refine ⟨_, rfl, _, rfl, _, _, rfl, rfl, _, rfl, p, CP, dx, _, rfl, upd_same, T.clP, T.nP3, (by show 2 < 1000; decide), ?_⟩
    exact k _ ⟨dx, upd_same⟩ fun b o e hb => by rw [upd_ne hb, upd_ne hb, upd_ne hb]; exact e
end
end CD
end

section
set_option Elab.async false
set_option linter.all false
set_option maxRecDepth 100000
set_option maxHeartbeats 2000000
namespace CD
open PySem PySem.Spec PyProof.Rows L2

def spRoadsInit (CR : Addr) : Sp := fun vs H Q _ => ∃ (p dx : Addr) (r o : Nat), vs = [.ref p, vn r, vn o] ∧ H p = some (.ins CR dx []) ∧
  ∀ (H' : Hp) (ls d : Addr), H ls = none → H d = none → (∃ dx, H' p = some (.ins CR dx (fRoads r o ls d))) → H' ls = some (.lst []) → H' d = some (.dT []) → (∀ b o, H b = some o → b ≠ p → H' b = some o) → Q .non H'
def spHasStop (CS CR : Addr) : Sp := fun vs H Q _ => ∃ (ra ls d : Addr) (a : Su75.Abs) (n : Nat), vs = [.ref ra, vn n] ∧ RoadsAt CS CR H ra ls d a ∧ Q (.bl (a.isS n)) H
def spHasPlace (CS CR : Addr) : Sp := fun vs H Q _ => ∃ (ra ls d : Addr) (a : Su75.Abs) (n : Nat), vs = [.ref ra, vn n] ∧ RoadsAt CS CR H ra ls d a ∧ Q (.bl (a.isP n)) H
def spBetween (CS CR : Addr) : Sp := fun vs H Q _ => ∃ (ra ls d : Addr) (a : Su75.Abs) (x y : Nat), vs = [.ref ra, vn x, vn y] ∧ RoadsAt CS CR H ra ls d a ∧ x ≤ a.stops.length ∧ y ≤ a.stops.length ∧
  ∀ H', Same H H' → Q (vn (a.mins x y)) H'
def spSetMin (CS CR : Addr) : Sp := fun vs H Q _ => ∃ (ra ls d : Addr) (a : Su75.Abs) (x y m : Nat) (kvs : List (List Key × V)) (dx : Addr), vs = [.ref ra, vn x, vn y, vn m] ∧ H ra = some (.ins CR dx (fRoads a.run a.open_ ls d)) ∧ H d = some (.dT kvs) ∧ kvs.length < sizeLine ∧
  ∀ H', H' d = some (.dT (putK kvs [Sum.inl (x : Int), Sum.inl (y : Int)] (vn m))) → (∀ b o, H b = some o → b ≠ d → H' b = some o) → Q .non H'
def spPlaceOf : Sp := fun vs H Q _ => ∃ n : Nat, vs = [vn n] ∧ Q (vn (n + 1)) H

theorem Same.laid {H : Hp} {p : Addr} {o : HO} (h : H p = none) : Same H (upd H p o) := fun b u e => by rw [upd_ne (ne_of_none e h)]; exact e
theorem Same.refl {H : Hp} : Same H H := fun _ _ e => e
theorem vn_inj {a b : Nat} : (vn a = vn b) ↔ a = b := ⟨fun h => by injection h with h; exact Int.ofNat.inj h, fun h => by rw [h]⟩

section
variable {P : Program} {w : World} {K : PySem.W.Frag} {mg : Str → Option Value} {base : Heap} {CS CR CT CP : Addr}
theorem scRoadsInit : FnScope ["self", "way_loss", "door_loss"] ["self", "way_loss", "door_loss"] (defScope sRoadsInit) := ⟨rfl, rfl, rfl, by decide +kernel, rfl, by decide +kernel, by decide +kernel⟩
theorem ok_roadsInit {f : Addr} {fd : FuncData} (F : Fun K "__init__" "Roads.__init__" sRoadsInit f fd) (T : TR K mg CS CR CT CP) : FnOk P w K mg base CX0 1 f fd ["self", "way_loss", "door_loss"] (spRoadsInit CR) := by
  refine F.ok scRoadsInit (fun vs H Q E h => ?_) (fun cdv A outer s H vs Q E hr h => ?_)
  · obtain ⟨p, dx, r, o, rfl, _⟩ := h
    rfl
  · obtain ⟨p, dx, r, o, rfl, hp, k⟩ := h
    refine ⟨_, pss_cons (ps_fld (pv 0) (pv 1) rfl) (pss_cons (ps_fld (pv 0) (pv 2) rfl) (pss_cons (ps_fld (pv 0) (pe_lst pa_nil) rfl) (pss_one (ps_fld (pv 0) pe_dnewT rfl)))), ?_⟩
    refine ⟨_, rfl, _, rfl, p, CR, dx, _, rfl, hp, T.clR, T.nR1, (by decide), ?_⟩
    refine ⟨_, rfl, _, rfl, p, CR, dx, _, rfl, upd_same, T.clR, T.nR2, (by show 1 < 1000; decide), ?_⟩
    refine ⟨Nat.zero_le _, fun ls hls => ?_⟩
    have n1 : ls ≠ p := fun z => by rw [z, upd_same] at hls; cases hls
    rw [upd_ne n1, upd_ne n1] at hls
    refine ⟨_, rfl, p, CR, dx, _, rfl, (upd_ne n1.symm).trans upd_same, T.clR, T.nR3, (by show 2 < 1000; decide), ?_⟩
    intro d hd
    have n2 : d ≠ p := fun z => by rw [z, upd_same] at hd; cases hd
    have n3 : d ≠ ls := fun z => by rw [z, upd_ne n1, upd_same] at hd; cases hd
    rw [upd_ne n2, upd_ne n3, upd_ne n2, upd_ne n2] at hd
    refine ⟨_, rfl, p, CR, dx, _, rfl, (upd_ne n2.symm).trans upd_same, T.clR, T.nR4, (by show 3 < 1000; decide), ?_⟩
    refine k _ ls d hls hd ⟨dx, upd_same⟩ ?_ ?_ fun b o e hb => ?_
    · rw [upd_ne n1, upd_ne n3.symm, upd_ne n1, upd_same]
    · rw [upd_ne n2, upd_same]
    · rw [upd_ne hb, upd_ne (ne_of_none e hd), upd_ne hb, upd_ne (ne_of_none e hls), upd_ne hb, upd_ne hb]
      exact e

theorem scHasStop : FnScope ["self", "number"] ["self", "number"] (defScope sHasStop) := ⟨rfl, rfl, rfl, by decide +kernel, rfl, by decide +kernel, by decide +kernel⟩
theorem ok_hasStop {f : Addr} {fd : FuncData} (F : Fun K "has_stop" "Roads.has_stop" sHasStop f fd) (T : TR K mg CS CR CT CP) : FnOk P w K mg base CX0 1 f fd ["self", "number"] (spHasStop CS CR) := by
  refine F.ok scHasStop (fun vs H Q E h => ?_) (fun cdv A outer s H vs Q E hr h => ?_)
  · obtain ⟨ra, ls, d, a, n, rfl, _⟩ := h
    rfl
  · obtain ⟨ra, ls, d, a, n, rfl, R, k⟩ := h
    obtain ⟨dx, h1⟩ := R.ins
    obtain ⟨ss, h2, h3, _⟩ := R.lst
    refine ⟨_, pss_one (ps_ret (pe_cmpR op_lt (pv 1) (pe_callB call_len_seq (by rfl) T.len PySem.boot_len (pa_cons (pe_fld (pv 0) rfl) pa_nil)) (nomark _))), ?_⟩
    refine ⟨_, rfl, _, rfl, ra, CR, dx, _, _, rfl, h1, T.clR, T.nR3, rfl, ls, _, rfl, .inl (SqL.of h2), _, _, rfl, rfl, ?_⟩
    have e : decide ((n : Int) < ((ss.map V.ref).length : Nat)) = a.isS n := by
      unfold Su75.Abs.isS
      rw [List.length_map, h3]
      by_cases q : n < a.stops.length
      · rw [decide_eq_true q, decide_eq_true (by omega)]
      · rw [decide_eq_false q, decide_eq_false (by omega)]
    show Q (V.bl (decide ((n : Int) < ((ss.map V.ref).length : Nat)))) H
    rw [e]
    exact k
theorem scHasPlace : FnScope ["self", "place"] ["self", "place"] (defScope sHasPlace) := ⟨rfl, rfl, rfl, by decide +kernel, rfl, by decide +kernel, by decide +kernel⟩
theorem ok_hasPlace {f : Addr} {fd : FuncData} (F : Fun K "has_place" "Roads.has_place" sHasPlace f fd) (T : TR K mg CS CR CT CP) : FnOk P w K mg base CX0 1 f fd ["self", "place"] (spHasPlace CS CR) := by
  refine F.ok scHasPlace (fun vs H Q E h => ?_) (fun cdv A outer s H vs Q E hr h => ?_)
  · obtain ⟨ra, ls, d, a, n, rfl, _⟩ := h
    rfl
  · obtain ⟨ra, ls, d, a, n, rfl, R, k⟩ := h
    obtain ⟨dx, h1⟩ := R.ins
    obtain ⟨ss, h2, h3, _⟩ := R.lst
    refine ⟨_, pss_one (ps_ret (pe_cmpR op_le (pv 1) (pe_callB call_len_seq (by rfl) T.len PySem.boot_len (pa_cons (pe_fld (pv 0) rfl) pa_nil)) (nomark _))), ?_⟩
    refine ⟨_, rfl, _, rfl, ra, CR, dx, _, _, rfl, h1, T.clR, T.nR3, rfl, ls, _, rfl, .inl (SqL.of h2), _, _, rfl, rfl, ?_⟩
    have e : decide ((n : Int) ≤ ((ss.map V.ref).length : Nat)) = a.isP n := by
      unfold Su75.Abs.isP
      rw [List.length_map, h3]
      by_cases q : n ≤ a.stops.length
      · rw [decide_eq_true q, decide_eq_true (by omega)]
      · rw [decide_eq_false q, decide_eq_false (by omega)]
    show Q (V.bl (decide ((n : Int) ≤ ((ss.map V.ref).length : Nat)))) H
    rw [e]
    exact k
theorem scBetween : FnScope ["self", "start", "goal"] ["self", "start", "goal"] (defScope sBetween) := ⟨rfl, rfl, rfl, by decide +kernel, rfl, by decide +kernel, by decide +kernel⟩
theorem ok_between {f : Addr} {fd : FuncData} (F : Fun K "minutes_between" "Roads.minutes_between" sBetween f fd) (T : TR K mg CS CR CT CP) : FnOk P w K mg base CX0 1 f fd ["self", "start", "goal"] (spBetween CS CR) := by
  refine F.ok scBetween (fun vs H Q E h => ?_) (fun cdv A outer s H vs Q E hr h => ?_)
  · obtain ⟨ra, ls, d, a, x, y, rfl, _⟩ := h
    rfl
  · obtain ⟨ra, ls, d, a, x, y, rfl, R, hx, hy, k⟩ := h
    obtain ⟨dx, h1⟩ := R.ins
    obtain ⟨kvs, h2, _, _, h3⟩ := R.dct
    obtain ⟨t30, h30⟩ := T.first
    refine ⟨_, pss_cons (ps_if (pt_cmpR op_eq (pv 1) (pv 2) (nomark _)) (pss_one (ps_ret pe_int)) pss_nil)
      (pss_one (ps_ret (pe_dget2 (hu_of hr) (pe_fld (pv 0) rfl) (pe_tup (pa_cons (pv 1) (pa_cons (pv 2) pa_nil))) (pe_glob (v := .int 30) rfl h30 ⟨_, rfl⟩) ⟨rfl, rfl, rfl, rfl⟩))), ?_⟩
    refine ⟨_, rfl, _, rfl, rfl, _, rfl, ?_⟩
    refine ite2 (fun e => ?_) fun e => ?_
    · have e : x = y := vn_inj.mp (of_decide_eq_true e)
      have q := k H Same.refl
      rw [show a.mins x y = 0 from if_pos e] at q
      exact q
    · have e : x ≠ y := fun z => e (decide_eq_true (vn_inj.mpr z))
      refine ⟨_, rfl, ra, CR, dx, _, _, rfl, h1, T.clR, T.nR4, rfl, d, rfl, .inr ⟨kvs, .inl h2⟩, _, rfl, _, rfl, (by show 2 ≤ sizeLine; decide), fun p hp => ?_⟩
      have nd : d ≠ p := ne_of_none h2 hp
      refine ⟨_, DGet.t (k := [Sum.inl (x : Int), Sum.inl (y : Int)]) (by rw [upd_ne nd]; exact h2) upd_same, ?_⟩
      rw [h3 x y hx hy e]
      exact k _ (Same.laid hp)
theorem scSetMin : FnScope ["self", "start", "goal", "minutes"] ["self", "start", "goal", "minutes"] (defScope sSetMin) := ⟨rfl, rfl, rfl, by decide +kernel, rfl, by decide +kernel, by decide +kernel⟩
theorem ok_setMin {f : Addr} {fd : FuncData} (F : Fun K "set_minutes" "Roads.set_minutes" sSetMin f fd) (T : TR K mg CS CR CT CP) : FnOk P w K mg base CX0 1 f fd ["self", "start", "goal", "minutes"] (spSetMin CS CR) := by
  refine F.ok scSetMin (fun vs H Q E h => ?_) (fun cdv A outer s H vs Q E hr h => ?_)
  · obtain ⟨ra, ls, d, a, x, y, m, kvs, dx, rfl, _⟩ := h
    rfl
  · obtain ⟨ra, ls, d, a, x, y, m, kvs, dx, rfl, h1, h2, hl, k⟩ := h
    refine ⟨_, pss_one (ps_dput (hu_of hr) (pe_fld (pv 0) rfl) (pe_tup (pa_cons (pv 1) (pa_cons (pv 2) pa_nil))) (pv 3) rfl), ?_⟩
    refine ⟨_, rfl, _, rfl, ra, CR, dx, _, _, rfl, h1, T.clR, T.nR4, rfl, _, rfl, _, rfl, (by show 2 ≤ sizeLine; decide), fun p hp => ?_⟩
    have nd : d ≠ p := ne_of_none h2 hp
    refine ⟨d, _, rfl, DPut.t (k := [Sum.inl (x : Int), Sum.inl (y : Int)]) (by rw [upd_ne nd]; exact h2) upd_same hl, ?_⟩
    refine k _ upd_same fun b o e hb => ?_
    rw [upd_ne hb, upd_ne (ne_of_none e hp)]
    exact e
theorem scPlaceOf : FnScope ["number"] ["number"] (defScope sPlaceOf) := ⟨rfl, rfl, rfl, by decide +kernel, rfl, by decide +kernel, by decide +kernel⟩
theorem ok_placeOf {f : Addr} {fd : FuncData} (F : Fun K "place_of" "place_of" sPlaceOf f fd) : FnOk P w K mg base CX0 1 f fd ["number"] spPlaceOf := by
  refine F.ok scPlaceOf (fun vs H Q E h => ?_) (fun cdv A outer s H vs Q E hr h => ?_)
  · obtain ⟨n, rfl, _⟩ := h
    rfl
  · obtain ⟨n, rfl, k⟩ := h
    refine ⟨_, pss_one (ps_ret (pe_op op_add (pv 0) pe_int)), ?_⟩
    exact ⟨_, rfl, _, _, rfl, rfl, k⟩
end
end CD
end

section
set_option Elab.async false
set_option linter.all false
set_option maxRecDepth 100000
set_option maxHeartbeats 2000000
namespace CD
open PySem PySem.Spec PyProof.Rows L2

def spTripInit (CT CP : Addr) : Sp := fun vs H Q _ => ∃ (p dx lr ln : Addr) (t : Tr), vs = [.ref p, .ref lr, vn t.place, vn t.minutes, vn t.lost, .ref ln] ∧ H p = some (.ins CT dx []) ∧ Init1 CT p H (fTrip lr ln t) Q
def spTripFrom (CT CP : Addr) : Sp := fun vs H Q _ => ∃ n : Nat, vs = [vn n] ∧ ∀ H' p, Same H H' → H p = none → TripAt CT CP H' p (tripFrom n) → Q (.ref p) H'
/-- a trip that stands where the roads know of -/
def OkT (a : Su75.Abs) (t : Tr) : Prop := t.place ≤ a.stops.length ∧ t.row.length ≤ 7 ∧ t.drops.length ≤ 7
def spTripWith (CS CR CT CP : Addr) : Sp := fun vs H Q _ => ∃ (ra ls d tp : Addr) (a : Su75.Abs) (t : Tr) (s : Nat), vs = [.ref ra, .ref tp, vn s] ∧ RoadsAt CS CR H ra ls d a ∧ TripAt CT CP H tp t ∧ s < a.stops.length ∧ t.place ≤ a.stops.length ∧ t.row.length ≤ 100 ∧ t.drops.length ≤ 100 ∧
  ∀ H' p, Same H H' → H p = none → TripAt CT CP H' p (tripWith a t s) → Q (.ref p) H'

theorem halt_of {a : Su75.Abs} {s : Nat} {st : Su75.Stop} (h : a.stops[s]? = some st) : a.halt_ s = st := by
  unfold Su75.Abs.halt_
  rw [List.getD_eq_getElem?_getD, h]
  rfl
section
variable {P : Program} {w : World} {K : PySem.W.Frag} {mg : Str → Option Value} {base : Heap} {CS CR CT CP : Addr}
theorem scTripInit : FnScope ["self", "row", "place", "minutes", "lost", "drops"] ["self", "row", "place", "minutes", "lost", "drops"] (defScope sTripInit) := ⟨rfl, rfl, rfl, by decide +kernel, rfl, by decide +kernel, by decide +kernel⟩
theorem ok_tripInit {f : Addr} {fd : FuncData} (F : Fun K "__init__" "Trip.__init__" sTripInit f fd) (T : TR K mg CS CR CT CP) : FnOk P w K mg base CX0 1 f fd ["self", "row", "place", "minutes", "lost", "drops"] (spTripInit CT CP) := by
  refine F.ok scTripInit (fun vs H Q E h => ?_) (fun cdv A outer s H vs Q E hr h => ?_)
  · obtain ⟨p, dx, lr, ln, t, rfl, _⟩ := h
    rfl
  · obtain ⟨p, dx, lr, ln, t, rfl, hp, k⟩ := h
    refine ⟨_, pss_cons (ps_fld (pv 0) (pv 1) rfl) (pss_cons (ps_fld (pv 0) (pv 2) rfl) (pss_cons (ps_fld (pv 0) (pv 3) rfl) (pss_cons (ps_fld (pv 0) (pv 4) rfl) (pss_one (ps_fld (pv 0) (pv 5) rfl))))), ?_⟩
    refine ⟨_, rfl, _, rfl, p, CT, dx, _, rfl, hp, T.clT, T.nT1, (by decide), ?_⟩
    refine ⟨_, rfl, _, rfl, p, CT, dx, _, rfl, upd_same, T.clT, T.nT2, (by show 1 < 1000; decide), ?_⟩
    refine ⟨_, rfl, _, rfl, p, CT, dx, _, rfl, upd_same, T.clT, T.nT3, (by show 2 < 1000; decide), ?_⟩
    refine ⟨_, rfl, _, rfl, p, CT, dx, _, rfl, upd_same, T.clT, T.nT4, (by show 3 < 1000; decide), ?_⟩
    refine ⟨_, rfl, _, rfl, p, CT, dx, _, rfl, upd_same, T.clT, T.nT5, (by show 4 < 1000; decide), ?_⟩
    exact k _ ⟨dx, upd_same⟩ fun b o e hb => by rw [upd_ne hb, upd_ne hb, upd_ne hb, upd_ne hb, upd_ne hb]; exact e
theorem scTripFrom : FnScope ["place"] ["place"] (defScope sTripFrom) := ⟨rfl, rfl, rfl, by decide +kernel, rfl, by decide +kernel, by decide +kernel⟩
theorem ok_tripFrom {f fI : Addr} {fd fdI : FuncData} (F : Fun K "trip_from" "trip_from" sTripFrom f fd) (T : TR K mg CS CR CT CP) (M : Mk K CT fI) (GI : FnOk P w K mg base CX0 1 fI fdI ["self", "row", "place", "minutes", "lost", "drops"] (spTripInit CT CP))
    (bI : Binds K fdI ["self", "row", "place", "minutes", "lost", "drops"] []) : FnOk P w K mg base CX0 3 f fd ["place"] (spTripFrom CT CP) := by
  refine F.ok scTripFrom (fun vs H Q E h => ?_) (fun cdv A outer s H vs Q E hr h => ?_)
  · obtain ⟨n, rfl, _⟩ := h
    rfl
  · obtain ⟨n, rfl, k⟩ := h
    refine ⟨_, pss_one (ps_ret (pe_make M GI hr rfl T.mgT bI .nil pass0 (pa_cons (pe_lst pa_nil) (pa_cons (pv 0) (pa_cons pe_int (pa_cons pe_int (pa_cons (pe_lst pa_nil) pa_nil))))))), ?_⟩
    refine ⟨Nat.zero_le _, fun lr hlr => ⟨_, rfl, Nat.zero_le _, fun ln hln => ?_⟩⟩
    have n1 : ln ≠ lr := fun z => by rw [z, upd_same] at hln; cases hln
    have hln' := hln
    rw [upd_ne n1] at hln'
    intro x dx nx nd ne
    have m1 : x ≠ ln := fun z => by rw [z, upd_same] at nx; cases nx
    have m2 : x ≠ lr := fun z => by rw [z, upd_ne n1.symm, upd_same] at nx; cases nx
    have m3 : dx ≠ ln := fun z => by rw [z, upd_same] at nd; cases nd
    have m4 : dx ≠ lr := fun z => by rw [z, upd_ne n1.symm, upd_same] at nd; cases nd
    rw [upd_ne m1, upd_ne m2] at nx
    rw [upd_ne m3, upd_ne m4] at nd
    refine ⟨x, dx, lr, ln, tripFrom n, rfl, upd_same, fun H' hx hk => ⟨rfl, ?_⟩⟩
    have sm : Same H H' := fun b o e => hk b o (by rw [upd_ne (ne_of_none e nx), upd_ne (ne_of_none e nd), upd_ne (ne_of_none e hln'), upd_ne (ne_of_none e hlr)]; exact e) (ne_of_none e nx)
    obtain ⟨dx', hx⟩ := hx
    refine k H' x sm nx ⟨dx', lr, ln, [], hx, hk lr _ ?_ m2.symm, hk ln _ ?_ m1.symm, Each.nil⟩
    · rw [upd_ne m2.symm, upd_ne m4.symm, upd_ne n1.symm, upd_same]; rfl
    · rw [upd_ne m1.symm, upd_ne m3.symm, upd_same]; rfl
end
end CD
end

section
set_option Elab.async false
set_option linter.all false
set_option maxRecDepth 100000
set_option maxHeartbeats 2000000
namespace CD
open PySem PySem.Spec PyProof.Rows L2

theorem ne_upd {H : Hp} {a p : Addr} {o : HO} (h : upd H p o a = none) : a ≠ p ∧ H a = none := by
  have n : a ≠ p := fun z => by rw [z, upd_same] at h; cases h
  exact ⟨n, by rw [upd_ne n] at h; exact h⟩
theorem vns_len (l : List Nat) : (vns l).length = l.length := List.length_map ..
/-- what the methods of the roads that the trips call promise -/
structure GR (P : Program) (w : World) (K : PySem.W.Frag) (mg : Str → Option Value) (base : Heap) (CS CR CT CP : Addr) : Prop where
  T : TR K mg CS CR CT CP
  btw : ∃ (f : Addr) (fd : FuncData), Meth K CR "minutes_between" f ∧ FnOk P w K mg base CX0 1 f fd ["self", "start", "goal"] (spBetween CS CR) ∧ Binds K fd ["self", "start", "goal"] []
  plo : ∃ (f : Addr) (fd : FuncData), mg "place_of" = some (.ref f) ∧ PySem.W.keepIn K (.ref f) = true ∧ FnOk P w K mg base CX0 1 f fd ["number"] spPlaceOf ∧ Binds K fd ["number"] []
  mkT : ∃ (f : Addr) (fd : FuncData), Mk K CT f ∧ FnOk P w K mg base CX0 1 f fd ["self", "row", "place", "minutes", "lost", "drops"] (spTripInit CT CP) ∧ Binds K fd ["self", "row", "place", "minutes", "lost", "drops"] []
  mkP : ∃ (f : Addr) (fd : FuncData), Mk K CP f ∧ FnOk P w K mg base CX0 1 f fd ["self", "minutes", "lost", "wanted"] (spDropInit CP) ∧ Binds K fd ["self", "minutes", "lost", "wanted"] []

section
variable {P : Program} {w : World} {K : PySem.W.Frag} {mg : Str → Option Value} {base : Heap} {CS CR CT CP : Addr}
theorem scTripWith : FnScope ["roads", "trip", "number", "stop", "place", "way", "drop", "minutes", "lost"] ["roads", "trip", "number"] (defScope sTripWith) := ⟨rfl, rfl, rfl, by decide +kernel, rfl, by decide +kernel, by decide +kernel⟩
theorem ok_tripWith {f : Addr} {fd : FuncData} (F : Fun K "trip_with" "trip_with" sTripWith f fd) (G : GR P w K mg base CS CR CT CP) : FnOk P w K mg base CX0 3 f fd ["roads", "trip", "number"] (spTripWith CS CR CT CP) := by
  have T := G.T
  obtain ⟨fb, fdb, mb, Gb, bb⟩ := G.btw
  obtain ⟨fp, fdp, mp, kp, Gp, bp⟩ := G.plo
  obtain ⟨fi, fdi, Mi, Gi, bi⟩ := G.mkT
  obtain ⟨fj, fdj, Mj, Gj, bj⟩ := G.mkP
  refine F.ok scTripWith (fun vs H Q E h => ?_) (fun cdv A outer s H vs Q E hr h => ?_)
  · obtain ⟨ra, ls, d, tp, a, t, n, rfl, _⟩ := h
    rfl
  · obtain ⟨ra, ls, d, tp, a, t, n, rfl, R, ⟨tdx, lr, ln, ds, t1, t2, t3, t4⟩, hn, hpl, hl1, hl2, k⟩ := h
    have hr1 : Room 1 _ := hr.mono (by decide)
    obtain ⟨dx, h1⟩ := R.ins
    obtain ⟨ss, h2, h3, h4⟩ := R.lst
    obtain ⟨sp, hsp⟩ : ∃ sp, ss[n]? = some sp := ⟨_, List.getElem?_eq_getElem (by omega)⟩
    obtain ⟨st, hst⟩ : ∃ st, a.stops[n]? = some st := ⟨_, List.getElem?_eq_getElem hn⟩
    obtain ⟨sdx, hs⟩ := h4 n sp st hsp hst
    have eh := halt_of hst
    have nd := scTripWith.nd
    refine ⟨_, pss_cons (ps_set (i := 3) nd rfl (Or.inl rfl) (pe_ix ix_list (pe_fld (pv 0) rfl) (pv 2) (fun _ _ => rfl)))
      (pss_cons (ps_set (i := 4) nd rfl (Or.inl rfl) (pe_call Gp hr1 rfl mp kp bp .nil pass0 (pa_cons (pv 2) pa_nil)))
      (pss_cons (ps_set (i := 5) nd rfl (Or.inl rfl) (pe_meth (pv 0) T.clR mb Gb hr1 bb .nil pass0 (pa_cons (pe_fld (pv 1) rfl) (pa_cons (pv 4) pa_nil))))
      (pss_cons (ps_set (i := 6) nd rfl (Or.inl rfl) (pe_make Mj Gj hr rfl T.mgP bj .nil pass0 (pa_cons (pe_op op_add (pe_fld (pv 1) rfl) (pv 5)) (pa_cons (pe_op op_add (pe_fld (pv 1) rfl) (pe_op op_mul (pv 5) (pe_fld (pv 0) rfl))) (pa_cons (pe_fld (pv 3) rfl) pa_nil)))))
      (pss_cons (ps_set (i := 7) nd rfl (Or.inl rfl) (pe_op op_add (pe_fld (pv 6) rfl) (pe_fld (pv 3) rfl)))
      (pss_cons (ps_set (i := 8) nd rfl (Or.inl rfl) (pe_op op_add (pe_fld (pv 6) rfl) (pe_op op_mul (pe_fld (pv 3) rfl) (pe_fld (pv 0) rfl))))
      (pss_one (ps_ret (pe_make Mi Gi hr rfl T.mgT bi .nil pass0 (pa_cons (pe_op op_cat (pe_fld (pv 1) rfl) (pe_lst (pa_cons (pv 2) pa_nil)))
        (pa_cons (pv 4) (pa_cons (pv 7) (pa_cons (pv 8) (pa_cons (pe_op op_cat (pe_fld (pv 1) rfl) (pe_lst (pa_cons (pv 6) pa_nil))) pa_nil))))))))))))), ?_⟩
    -- stop = roads.stops[number]; place = place_of(number)
    refine ⟨_, rfl, ra, CR, dx, _, _, rfl, h1, T.clR, T.nR3, rfl, _, rfl, ls, _, _, _, rfl, rfl, SqL.of h2, atI_nat (v := .ref sp) (by rw [List.getElem?_map, hsp]; rfl), ?_⟩
    refine ⟨_, rfl, n, rfl, ?_⟩
    -- way = roads.minutes_between(trip.place, place)
    refine ⟨_, rfl, ra, dx, _, rfl, h1, rfl, _, rfl, tp, CT, tdx, _, _, rfl, t1, T.clT, T.nT2, rfl, _, rfl, ra, ls, d, a, t.place, n + 1, rfl, R, hpl, hn, fun H1 s1 => ?_⟩
    -- drop = Drop(..)
    refine ⟨_, rfl, tp, CT, tdx, _, _, rfl, s1 _ _ t1, T.clT, T.nT3, rfl, _, rfl, _, _, rfl, rfl,
      _, rfl, tp, CT, tdx, _, _, rfl, s1 _ _ t1, T.clT, T.nT4, rfl, _, rfl, _, rfl, ra, CR, dx, _, _, rfl, s1 _ _ h1, T.clR, T.nR1, rfl, _, _, rfl, rfl, .inr ⟨by omega, by have := R.run; omega⟩, _, _, rfl, rfl,
      _, rfl, sp, CS, sdx, _, _, rfl, s1 _ _ hs, T.clS, T.nS2, rfl, ?_⟩
    intro x xd nx nxd nex
    refine ⟨x, xd, t.minutes + a.mins t.place (n + 1), t.lost + a.mins t.place (n + 1) * a.run, st.want, rfl, upd_same, fun H2 hx hk => ⟨rfl, ?_⟩⟩
    obtain ⟨xd', hx⟩ := hx
    have s2 : Same H1 H2 := Same.made nx nxd hk
    have s3 := s1.trans s2
    -- minutes, lost
    refine ⟨_, rfl, x, CP, xd', _, _, rfl, hx, T.clP, T.nP1, rfl, _, rfl, sp, CS, sdx, _, _, rfl, s3 _ _ hs, T.clS, T.nS1, rfl, _, _, rfl, rfl, ?_⟩
    refine ⟨_, rfl, x, CP, xd', _, _, rfl, hx, T.clP, T.nP2, rfl, _, rfl, sp, CS, sdx, _, _, rfl, s3 _ _ hs, T.clS, T.nS1, rfl, _, rfl, ra, CR, dx, _, _, rfl, s3 _ _ h1, T.clR, T.nR2, rfl, _, _, rfl, rfl, .inr ⟨by omega, by have := R.opn; omega⟩, _, _, rfl, rfl, ?_⟩
    -- return Trip(..)
    refine ⟨_, rfl, tp, CT, tdx, _, _, rfl, s3 _ _ t1, T.clT, T.nT1, rfl, _, rfl, (by show 1 ≤ sizeLine; decide), fun q3 hq3 => ?_⟩
    have n3 : lr ≠ q3 := ne_of_none (s3 _ _ t2) hq3
    refine ⟨lr, q3, _, _, rfl, rfl, (upd_ne n3).trans (s3 _ _ t2), upd_same, (by rw [vns_len]; show _ + 1 ≤ sizeLine; rw [sizeLine_eq]; omega), fun q4 hq4 => ?_⟩
    have s4 : Same H2 (upd (upd H2 q3 (.lst [vn n])) q4 (.lst (vns t.row ++ [vn n]))) := (Same.laid hq3).trans (Same.laid hq4)
    have hq4' : upd (upd H2 q3 (.lst [vn n])) q4 (.lst (vns t.row ++ [vn n])) q4 = some (.lst (vns t.row ++ [vn n])) := upd_same
    generalize upd (upd H2 q3 (.lst [vn n])) q4 (.lst (vns t.row ++ [vn n])) = H3 at s4 hq4'
    have s5 := s3.trans s4
    refine ⟨_, rfl, _, rfl, _, rfl, _, rfl, tp, CT, tdx, _, _, rfl, s5 _ _ t1, T.clT, T.nT5, rfl, _, rfl, (by show 1 ≤ sizeLine; decide), fun q5 hq5 => ?_⟩
    have n5 : ln ≠ q5 := ne_of_none (s5 _ _ t3) hq5
    refine ⟨ln, q5, _, _, rfl, rfl, (upd_ne n5).trans (s5 _ _ t3), upd_same, (by rw [List.length_map, t4.1]; show _ + 1 ≤ sizeLine; rw [sizeLine_eq]; omega), fun q6 hq6 => ?_⟩
    have s6 : Same H3 (upd (upd H3 q5 (.lst [V.ref x])) q6 (.lst (ds.map V.ref ++ [V.ref x]))) := (Same.laid hq5).trans (Same.laid hq6)
    have hq6' : upd (upd H3 q5 (.lst [V.ref x])) q6 (.lst (ds.map V.ref ++ [V.ref x])) q6 = some (.lst (ds.map V.ref ++ [V.ref x])) := upd_same
    generalize upd (upd H3 q5 (.lst [V.ref x])) q6 (.lst (ds.map V.ref ++ [V.ref x])) = H4 at s6 hq6'
    intro y yd ny nyd ney
    have s7 := s5.trans s6
    refine ⟨y, yd, q4, q6, tripWith a t n, ?_, upd_same, fun H5 hy hk5 => ⟨rfl, ?_⟩⟩
    · unfold tripWith
      rw [eh]
      rfl
    · obtain ⟨yd', hy⟩ := hy
      have s8 : Same H4 H5 := Same.made ny nyd hk5
      have s9 := s7.trans s8
      refine k H5 y s9 (s7.free ny) ⟨yd', q4, q6, ds ++ [x], hy, ?_, ?_, ?_⟩
      · rw [s8 _ _ (s6 _ _ hq4')]
        refine congrArg (fun z => some (HO.lst z)) ?_
        show _ = List.map vn (t.row ++ [n])
        rw [List.map_append]
        rfl
      · rw [s8 _ _ hq6', List.map_append]
        rfl
      · unfold tripWith
        rw [eh]
        exact (t4.mono fun _ _ _ q => q.same s9).snoc ⟨xd', s8 _ _ (s6 _ _ (s4 _ _ hx))⟩
end
end CD
end

section
set_option Elab.async false
set_option linter.all false
set_option maxRecDepth 100000
set_option maxHeartbeats 2000000
namespace CD
open PySem PySem.Spec PyProof.Rows L2

def tripAlong (a : Su75.Abs) (x : Nat) (row : List Nat) : Tr := row.foldl (tripWith a) (tripFrom x)
theorem take_snoc {α : Type} : ∀ {l : List α} {i : Nat} {x : α}, l[i]? = some x → l.take (i + 1) = l.take i ++ [x]
  | [], i, x, h => by simp at h
  | a :: l, 0, x, h => by
    have e : a = x := Option.some.inj h
    subst e
    rfl
  | a :: l, i + 1, x, h => by
    have ih := take_snoc (l := l) (i := i) (x := x) h
    show a :: l.take (i + 1) = a :: l.take i ++ [x]
    rw [ih]
    rfl
theorem along_snoc (a : Su75.Abs) (x : Nat) (l : List Nat) (s : Nat) : tripAlong a x (l ++ [s]) = tripWith a (tripAlong a x l) s := by
  unfold tripAlong
  rw [List.foldl_append]
  rfl
theorem along_row (a : Su75.Abs) (x : Nat) (l : List Nat) : (tripAlong a x l).row = l ∧ (tripAlong a x l).drops.length = l.length := by
  have h : ∀ (l : List Nat) (t : Tr), (l.foldl (tripWith a) t).row = t.row ++ l ∧ (l.foldl (tripWith a) t).drops.length = t.drops.length + l.length := by
    intro l
    induction l with
    | nil => intro t; simp
    | cons s l ih =>
      intro t
      rw [List.foldl_cons]
      obtain ⟨h1, h2⟩ := ih (tripWith a t s)
      refine ⟨?_, ?_⟩
      · rw [h1]
        show (t.row ++ [s]) ++ l = t.row ++ s :: l
        rw [List.append_assoc]
        rfl
      · rw [h2]
        show (t.drops ++ [_]).length + l.length = _
        rw [List.length_append, List.length_singleton, List.length_cons]
        omega
  have := h l (tripFrom x)
  exact ⟨by simpa [tripFrom, tripAlong] using this.1, by simpa [tripFrom, tripAlong] using this.2⟩
theorem along_place {a : Su75.Abs} {x n : Nat} (hx : x ≤ n) : ∀ (l : List Nat), (∀ s ∈ l, s < n) → (tripAlong a x l).place ≤ n := by
  have h : ∀ (l : List Nat) (t : Tr), t.place ≤ n → (∀ s ∈ l, s < n) → (l.foldl (tripWith a) t).place ≤ n := by
    intro l
    induction l with
    | nil => intro t ht _; exact ht
    | cons s l ih =>
      intro t ht hs
      rw [List.foldl_cons]
      exact ih _ (hs s (.head _)) fun r hr => hs r (.tail _ hr)
  exact fun l hl => h l _ hx hl
/-- the greatest of some numbers, 0 of none -/
theorem max_of {l : List Nat} {M : Int} (hm : M ∈ l.map (fun n : Nat => (n : Int))) (hb : ∀ z ∈ l.map (fun n : Nat => (n : Int)), z ≤ M) : M = ((l.foldl Nat.max 0 : Nat) : Int) := by
  have h : ∀ (l : List Nat) (b : Nat), (∀ z ∈ l, z ≤ l.foldl Nat.max b) ∧ b ≤ l.foldl Nat.max b ∧ (l.foldl Nat.max b = b ∨ l.foldl Nat.max b ∈ l) := by
    intro l
    induction l with
    | nil => intro b; exact ⟨fun _ h => (by cases h), Nat.le_refl _, Or.inl rfl⟩
    | cons s l ih =>
      intro b
      rw [List.foldl_cons]
      obtain ⟨h1, h2, h3⟩ := ih (Nat.max b s)
      have e1 : b ≤ Nat.max b s := Nat.le_max_left ..
      have e2 : s ≤ Nat.max b s := Nat.le_max_right ..
      refine ⟨fun z hz => ?_, Nat.le_trans e1 h2, ?_⟩
      · rcases List.mem_cons.mp hz with rfl | hz
        · exact Nat.le_trans e2 h2
        · exact h1 z hz
      · rcases h3 with h3 | h3
        · rw [h3]
          by_cases q : b ≤ s
          · right
            rw [show Nat.max b s = s from Nat.max_eq_right q]
            exact .head _
          · left
            exact Nat.max_eq_left (by omega)
        · exact .inr (.tail _ h3)
  obtain ⟨h1, _, h3⟩ := h l 0
  obtain ⟨m, hm1, rfl⟩ := List.mem_map.mp hm
  have k1 := h1 m hm1
  rcases h3 with h3 | h3
  · have : m = 0 := by omega
    rw [h3, this]
  · have k2 := hb _ (List.mem_map_of_mem h3)
    have k2' : ((l.foldl Nat.max 0 : Nat) : Int) ≤ (m : Int) := k2
    have : m = l.foldl Nat.max 0 := by omega
    rw [← this]
theorem vns_ints (l : List Nat) : vns l = (l.map fun n : Nat => (n : Int)).map V.int := by rw [List.map_map]; rfl

theorem max0 (x y : Nat) : (if (x : Int) - (y : Int) > 0 then (x : Int) - (y : Int) else 0) = ((x - y : Nat) : Int) := by
  by_cases q : y < x
  · rw [if_pos (by omega)]; omega
  · rw [if_neg (by omega)]; omega
def spFrostAt (CP : Addr) : Sp := fun vs H Q _ => ∃ (p : Addr) (x : Dr) (fr : Nat), vs = [.ref p, vn fr] ∧ DropAt CP H p x ∧ Q (vn (fr - x.lost)) H
def spTripAlong (CS CR CT CP : Addr) (K : PySem.W.Frag) : Sp := fun vs H Q _ => ∃ (ra ls d lr : Addr) (a : Su75.Abs) (x : Nat) (row : List Nat), vs = [.ref ra, vn x, .ref lr] ∧ RoadsAt CS CR H ra ls d a ∧ x ≤ a.stops.length ∧ SqL K H lr (vns row) ∧ (∀ s ∈ row, s < a.stops.length) ∧ row.length ≤ 100 ∧
  ∀ H' p, Same H H' → TripAt CT CP H' p (tripAlong a x row) → Q (.ref p) H'
def Tr.need (t : Tr) : Nat := t.needs.foldl Nat.max 0
def spFrostNeeded (CT CP : Addr) : Sp := fun vs H Q _ => ∃ (tp : Addr) (t : Tr), vs = [.ref tp] ∧ TripAt CT CP H tp t ∧ t.drops.length ≤ 100 ∧ ∀ H', Same H H' → Q (vn t.need) H' 
def Tr.home (a : Su75.Abs) (t : Tr) : Nat := t.minutes + a.mins t.place 0
def spMinutesHome (CS CR CT CP : Addr) : Sp := fun vs H Q _ => ∃ (ra ls d tp : Addr) (a : Su75.Abs) (t : Tr), vs = [.ref ra, .ref tp] ∧ RoadsAt CS CR H ra ls d a ∧ TripAt CT CP H tp t ∧ t.place ≤ a.stops.length ∧ ∀ H', Same H H' → Q (vn (t.home a)) H'
def Tr.good (t : Tr) (f : Nat) : Nat := (t.needs.filter fun z => decide (z ≤ f)).length
def spColdDrops (CT CP : Addr) : Sp := fun vs H Q _ => ∃ (tp : Addr) (t : Tr) (f : Nat), vs = [.ref tp, vn f] ∧ TripAt CT CP H tp t ∧ t.drops.length ≤ 100 ∧ ∀ H', Same H H' → Q (vn (t.good f)) H'
section
variable {P : Program} {w : World} {K : PySem.W.Frag} {mg : Str → Option Value} {base : Heap} {CS CR CT CP : Addr}
theorem scTripAlong : FnScope ["roads", "place", "row", "trip", "number"] ["roads", "place", "row"] (defScope sTripAlong) := ⟨rfl, rfl, rfl, by decide +kernel, rfl, by decide +kernel, by decide +kernel⟩
theorem ok_tripAlong {f f1 f2 : Addr} {fd fd1 fd2 : FuncData} (F : Fun K "trip_along" "trip_along" sTripAlong f fd)
    (m1 : mg "trip_from" = some (.ref f1)) (k1 : PySem.W.keepIn K (.ref f1) = true) (G1 : FnOk P w K mg base CX0 3 f1 fd1 ["place"] (spTripFrom CT CP)) (b1 : Binds K fd1 ["place"] [])
    (m2 : mg "trip_with" = some (.ref f2)) (k2 : PySem.W.keepIn K (.ref f2) = true) (G2 : FnOk P w K mg base CX0 3 f2 fd2 ["roads", "trip", "number"] (spTripWith CS CR CT CP)) (b2 : Binds K fd2 ["roads", "trip", "number"] []) :
    FnOk P w K mg base CX0 4 f fd ["roads", "place", "row"] (spTripAlong CS CR CT CP K) := by
  refine F.ok scTripAlong (fun vs H Q E h => ?_) (fun cdv A outer s H vs Q E hr h => ?_)
  · obtain ⟨ra, ls, d, lr, a, x, row, rfl, _⟩ := h
    rfl
  · obtain ⟨ra, ls, d, lr, a, x, row, rfl, R, hx, hL, hrow, hlen, k⟩ := h
    have nd := scTripAlong.nd
    refine ⟨_, pss_cons (ps_set (i := 3) nd rfl (Or.inl rfl) (pe_call G1 hr rfl m1 k1 b1 .nil pass0 (pa_cons (pv 1) pa_nil)))
      (pss_cons (ps_for PassesOwn.never rfl (pi_list (pv 2)) (pg_name (i := 4) nd rfl (Or.inl rfl))
        (pss_one (ps_set (i := 3) nd rfl (Or.inl rfl) (pe_call G2 hr rfl m2 k2 b2 .nil pass0 (pa_cons (pv 0) (pa_cons (pv 3) (pa_cons (pv 4) pa_nil)))))))
      (pss_one (ps_ret (pv 3)))), ?_⟩
    refine ⟨_, rfl, x, rfl, fun H1 tp0 s1 _ ht0 => ?_⟩
    refine ⟨_, rfl, lr, rfl, ⟨_, s1.seq hL⟩, for_list (K := K) (a := lr) (xs := vns row) (fun i σ H' => ∃ (v : Option V) (tp : Addr), σ = [some (.ref ra), some (vn x), some (.ref lr), some (.ref tp), v] ∧ Same H H' ∧ TripAt CT CP H' tp (tripAlong a x (row.take i)))
      ⟨none, tp0, rfl, s1, ht0⟩ (fun i σ H' _ ⟨_, _, _, s2, _⟩ => s2.seq hL) ?_ ?_⟩
    · rintro i y σ H' hi ⟨v, tp, rfl, s2, ht⟩
      obtain ⟨z, hz, rfl⟩ : ∃ z, row[i]? = some z ∧ y = vn z := by
        rw [List.getElem?_map] at hi
        cases e : row[i]? with
        | none => rw [e] at hi; cases hi
        | some z => rw [e] at hi; exact ⟨z, rfl, (Option.some.inj hi).symm⟩
      have hzm := hrow z (List.mem_of_getElem? hz)
      have hrowi := along_row a x (row.take i)
      have hli : (row.take i).length ≤ 100 := by rw [List.length_take]; omega
      refine ⟨_, rfl, _, rfl, _, rfl, ra, ls, d, tp, a, tripAlong a x (row.take i), z, rfl, R.same s2, ht, hzm, along_place hx _ (fun s hs => hrow s (List.mem_of_mem_take hs)), ?_, ?_, fun H3 tp' s3 _ ht' => ?_⟩
      · rw [hrowi.1]; exact hli
      · rw [hrowi.2]; exact hli
      · refine ⟨_, tp', rfl, s2.trans s3, ?_⟩
        rw [take_snoc hz, along_snoc]
        exact ht'
    · rintro σ H' ⟨v, tp, rfl, s2, ht⟩
      rw [vns_len, List.take_length] at ht
      exact ⟨_, rfl, k H' tp s2 ht⟩
def lcScope (b : List Stmt) : Scope := match b with
  | [.Return (some (.Call _ [.ListComp _ _ sc _] _ _)) _] => sc
  | [.Return (some (.ListComp _ _ sc _)) _] => sc
  | _ => { kind := .function, names := [], isGenerator := false, isCoroutine := false }
theorem need_at {l : List Dr} {i : Nat} {x : Dr} (h : l[i]? = some x) : ((l.take (i + 1)).map Dr.need).map (fun n : Nat => (n : Int)) = ((l.take i).map Dr.need).map (fun n : Nat => (n : Int)) ++ [(x.need : Int)] := by
  rw [take_snoc h, List.map_append, List.map_append]
  rfl
theorem scFrostNeeded : FnScope ["trip", "drop"] ["trip"] (defScope sFrostNeeded) := ⟨rfl, rfl, rfl, by decide +kernel, rfl, by decide +kernel, by decide +kernel⟩
theorem blkFrostNeeded : BlkOk ["trip", "drop"] (defScope sFrostNeeded) (lcScope (defBody sFrostNeeded)) [("drop", 1)] := ⟨rfl, by decide +kernel, by decide +kernel, by decide +kernel, by decide +kernel⟩
theorem ok_frostNeeded {f : Addr} {fd : FuncData} (F : Fun K "frost_needed" "frost_needed" sFrostNeeded f fd) (T : TR K mg CS CR CT CP) : FnOk P w K mg base CX0 1 f fd ["trip"] (spFrostNeeded CT CP) := by
  refine F.ok scFrostNeeded (fun vs H Q E h => ?_) (fun cdv A outer s H vs Q E hr h => ?_)
  · obtain ⟨tp, t, rfl, _⟩ := h
    rfl
  · obtain ⟨tp, t, rfl, ⟨dx, lr, ln, ds, t1, t2, t3, t4⟩, hlen, k⟩ := h
    refine ⟨_, pss_one (ps_ret (pe_maxD (pe_lc (own := [("drop", 1)]) (te := tFld K (tVar 1) "needed") rfl scFrostNeeded.nd (pi_list (pe_fld (pv 0) rfl)) blkFrostNeeded
      (fun _ _ _ _ _ => pg_name (i := 1) scFrostNeeded.nd rfl (Or.inl rfl)) (fun _ _ _ _ _ => pts_nil) (fun _ _ _ _ _ => pe_fld (pv 1) rfl)) pe_int rfl rfl T.max)), ?_⟩
    refine ⟨_, rfl, tp, CT, dx, _, _, rfl, t1, T.clT, T.nT5, rfl, ln, rfl, ⟨_, SqL.of t3⟩, fun D hD => ?_⟩
    refine lc_list (K := K) (a := ln) (xs := ds.map V.ref) (fun i H' => Same H H' ∧ H' D = some (.lst ((((t.drops.take i).map Dr.need).map fun n : Nat => (n : Int)).map V.int))) ⟨Same.laid hD, upd_same⟩ (fun i H' _ h => Same.seq h.1 (SqL.of t3)) ?_ ?_
    · rintro i y H' hi ⟨s2, hD'⟩
      obtain ⟨p, x, rfl, hx, ⟨pdx, hp⟩⟩ := t4.at hi
      refine ⟨rfl, ?_⟩
      unfold tYes
      dsimp only
      rw [if_pos (rfl : true = true)]
      refine ⟨_, rfl, p, CP, pdx, _, _, rfl, s2 _ _ hp, T.clP, T.nP3, rfl, _, hD', ?_, fun b o q => ?_, ?_⟩
      · rw [List.length_map, List.length_map, List.length_map, List.length_take, sizeLine_eq]; omega
      · rw [upd_ne (fun z => by rw [z, hD] at q; cases q)]
        exact s2 b o q
      · rw [upd_same, need_at hx, List.map_append]
        rfl
    · rintro H' ⟨s2, hD'⟩
      rw [List.length_map, t4.1, List.take_length] at hD'
      refine ⟨D, t.needs.map fun n : Nat => (n : Int), rfl, SqL.of hD', fun e => ?_, fun M h1 h2 => ?_⟩
      · have e : t.needs = [] := List.map_eq_nil_iff.mp e
        have q := k H' s2
        unfold Tr.need at q
        rw [e] at q
        exact q
      · rw [max_of h1 h2]
        exact k H' s2
theorem scFrostAt : FnScope ["drop", "frost"] ["drop", "frost"] (defScope sFrostAt) := ⟨rfl, rfl, rfl, by decide +kernel, rfl, by decide +kernel, by decide +kernel⟩
theorem ok_frostAt {f : Addr} {fd : FuncData} (F : Fun K "frost_at_drop" "frost_at_drop" sFrostAt f fd) (T : TR K mg CS CR CT CP) : FnOk P w K mg base CX0 1 f fd ["drop", "frost"] (spFrostAt CP) := by
  refine F.ok scFrostAt (fun vs H Q E h => ?_) (fun cdv A outer s H vs Q E hr h => ?_)
  · obtain ⟨p, x, fr, rfl, _⟩ := h
    rfl
  · obtain ⟨p, x, fr, rfl, ⟨dx, hp⟩, k⟩ := h
    refine ⟨_, pss_one (ps_ret (pe_callB (call_max2 rfl) (by rfl) T.max (by rfl) (pa_cons pe_int (pa_cons (pe_op op_sub (pv 1) (pe_fld (pv 0) rfl)) pa_nil)))), ?_⟩
    refine ⟨_, rfl, _, rfl, p, CP, dx, _, _, rfl, hp, T.clP, T.nP2, rfl, _, _, rfl, rfl, _, _, rfl, ?_⟩
    rw [max0]
    exact k
theorem scMinutesHome : FnScope ["roads", "trip"] ["roads", "trip"] (defScope sMinutesHome) := ⟨rfl, rfl, rfl, by decide +kernel, rfl, by decide +kernel, by decide +kernel⟩
theorem ok_minutesHome {f : Addr} {fd : FuncData} (F : Fun K "minutes_home" "minutes_home" sMinutesHome f fd) (G : GR P w K mg base CS CR CT CP) : FnOk P w K mg base CX0 2 f fd ["roads", "trip"] (spMinutesHome CS CR CT CP) := by
  have T := G.T
  obtain ⟨fb, fdb, mb, Gb, bb⟩ := G.btw
  obtain ⟨tw, hw⟩ := T.works
  refine F.ok scMinutesHome (fun vs H Q E h => ?_) (fun cdv A outer s H vs Q E hr h => ?_)
  · obtain ⟨ra, ls, d, tp, a, t, rfl, _⟩ := h
    rfl
  · obtain ⟨ra, ls, d, tp, a, t, rfl, R, ⟨tdx, lr, ln, ds, t1, t2, t3, t4⟩, hp, k⟩ := h
    obtain ⟨dx, h1⟩ := R.ins
    refine ⟨_, pss_one (ps_ret (pe_op op_add (pe_fld (pv 1) rfl) (pe_meth (pv 0) T.clR mb Gb hr bb .nil pass0 (pa_cons (pe_fld (pv 1) rfl) (pa_cons (pe_glob (v := .int 0) rfl hw ⟨_, rfl⟩) pa_nil))))), ?_⟩
    refine ⟨_, rfl, tp, CT, tdx, _, _, rfl, t1, T.clT, T.nT3, rfl, _, rfl, ra, dx, _, rfl, h1, rfl, _, rfl, tp, CT, tdx, _, _, rfl, t1, T.clT, T.nT2, rfl, ra, ls, d, a, t.place, 0, rfl, R, hp, Nat.zero_le _, fun H' s1 => ⟨_, _, rfl, rfl, ?_⟩⟩
    exact k H' s1
theorem scColdDrops : FnScope ["trip", "frost", "drop"] ["trip", "frost"] (defScope sColdDrops) := ⟨rfl, rfl, rfl, by decide +kernel, rfl, by decide +kernel, by decide +kernel⟩
theorem blkColdDrops : BlkOk ["trip", "frost", "drop"] (defScope sColdDrops) (lcScope (defBody sColdDrops)) [("drop", 2)] := ⟨rfl, by decide +kernel, by decide +kernel, by decide +kernel, by decide +kernel⟩
theorem good_drops (t : Tr) (f : Nat) : t.good f = (t.drops.filter fun x => decide (x.need ≤ f)).length := by
  unfold Tr.good Tr.needs
  rw [List.filter_map, List.length_map]
  rfl
theorem ok_coldDrops {f : Addr} {fd : FuncData} (F : Fun K "cold_drops" "cold_drops" sColdDrops f fd) (T : TR K mg CS CR CT CP) : FnOk P w K mg base CX0 1 f fd ["trip", "frost"] (spColdDrops CT CP) := by
  refine F.ok scColdDrops (fun vs H Q E h => ?_) (fun cdv A outer s H vs Q E hr h => ?_)
  · obtain ⟨tp, t, f, rfl, _⟩ := h
    rfl
  · obtain ⟨tp, t, f, rfl, ⟨dx, lr, ln, ds, t1, t2, t3, t4⟩, hlen, k⟩ := h
    refine ⟨_, pss_one (ps_ret (pe_callB call_len_seq (by rfl) T.len PySem.boot_len (pa_cons (pe_lc (own := [("drop", 2)]) rfl scColdDrops.nd (pi_list (pe_fld (pv 0) rfl)) blkColdDrops
      (fun _ _ _ _ _ => pg_name (i := 2) scColdDrops.nd rfl (Or.inl rfl)) (tt := tTest (tOp (rI0 fun i j => .bl (decide (i ≤ j))) (tFld K (tVar 2) "needed") (tVar 1))) (fun _ _ _ _ _ => pts_one (pt_cmpR op_le (pe_fld (pv 2) rfl) (pv 1) (nomark _))) (fun _ _ _ _ _ => pv 2)) pa_nil))), ?_⟩
    refine ⟨_, rfl, tp, CT, dx, _, _, rfl, t1, T.clT, T.nT5, rfl, ln, rfl, ⟨_, SqL.of t3⟩, fun D hD => ?_⟩
    refine lc_list (K := K) (a := ln) (xs := ds.map V.ref) (fun i H' => Same H H' ∧ ∃ acc : List V, H' D = some (.lst acc) ∧ acc.length = ((t.drops.take i).filter fun x => decide (x.need ≤ f)).length) ⟨Same.laid hD, [], upd_same, rfl⟩ (fun i H' _ h => Same.seq h.1 (SqL.of t3)) ?_ ?_
    · rintro i y H' hi ⟨s2, acc, hD', hacc⟩
      obtain ⟨p, x, rfl, hx, ⟨pdx, hp⟩⟩ := t4.at hi
      refine ⟨rfl, _, rfl, p, CP, pdx, _, _, rfl, s2 _ _ hp, T.clP, T.nP3, rfl, _, rfl, _, _, rfl, rfl, _, rfl, ?_⟩
      refine ite2 (fun e => ?_) fun e => ?_
      · have e : (x.need : Int) ≤ (f : Int) := of_decide_eq_true e
        have e' : x.need ≤ f := by omega
        refine ⟨_, rfl, _, hD', ?_, fun b o q => ?_, acc ++ [V.ref p], upd_same, ?_⟩
        · rw [hacc]
          have h1 := List.length_filter_le (fun x : Dr => decide (x.need ≤ f)) (t.drops.take i)
          have h2 : (t.drops.take i).length ≤ 100 := by rw [List.length_take]; omega
          rw [sizeLine_eq]; omega
        · rw [upd_ne (fun z => by rw [z, hD] at q; cases q)]
          exact s2 b o q
        · rw [take_snoc hx, List.filter_append, List.filter_cons, if_pos (decide_eq_true e'), List.length_append, List.length_append, hacc]
          rfl
      · have e' : ¬ x.need ≤ f := fun q => e (decide_eq_true (by omega))
        refine ⟨s2, acc, hD', ?_⟩
        rw [take_snoc hx, List.filter_append, List.filter_cons, if_neg (by simpa using e'), List.filter_nil, List.append_nil]
        exact hacc
    · rintro H' ⟨s2, acc, hD', hacc⟩
      rw [List.length_map, t4.1, List.take_length] at hacc
      refine ⟨D, _, rfl, .inl (SqL.of hD'), ?_⟩
      have q := k H' s2
      rw [good_drops, ← hacc] at q
      exact q
end
end CD
end

section
set_option Elab.async false
set_option linter.all false
set_option maxRecDepth 100000
set_option maxHeartbeats 4000000
namespace CD
open PySem PySem.Spec PyProof.Rows L2

theorem flat_vns : ∀ l : List Nat, (vns l).all flatV = true
  | [] => rfl
  | n :: l => by
    show (flatV (vn n) && (vns l).all flatV) = true
    rw [flat_vns l]
    rfl
theorem in_vns (z : Nat) : ∀ l : List Nat, inV (vn z) (vns l) = l.contains z
  | [] => rfl
  | n :: l => by
    have ih := in_vns z l
    show (eqV (vn n) (vn z) || inV (vn z) (vns l)) = _
    rw [ih, List.contains_cons]
    congr 1
    show ((n : Int) == (z : Int)) = (z == n)
    by_cases e : n = z
    · subst e; simp
    · have h1 : ((n : Int) == (z : Int)) = false := beq_eq_false_iff_ne.mpr (by omega)
      have h2 : (z == n) = false := by simpa using fun q : z = n => e q.symm
      rw [h1, h2]
def TripsAt (CT CP : Addr) (H : Hp) (ps : List Addr) (ts : List Tr) : Prop := ps.length = ts.length ∧ ∀ (i : Nat) (p : Addr) (t : Tr), ps[i]? = some p → ts[i]? = some t → TripAt CT CP H p t
theorem TripsAt.same {CT CP : Addr} {H H' : Hp} {ps : List Addr} {ts : List Tr} (e : Same H H') (h : TripsAt CT CP H ps ts) : TripsAt CT CP H' ps ts := ⟨h.1, fun i p t h1 h2 => (h.2 i p t h1 h2).same e⟩
theorem TripsAt.nil {CT CP : Addr} {H : Hp} : TripsAt CT CP H [] [] := ⟨rfl, fun i p t h _ => by simp at h⟩
theorem TripsAt.snoc {CT CP : Addr} {H : Hp} {ps : List Addr} {ts : List Tr} {p : Addr} {t : Tr} (h : TripsAt CT CP H ps ts) (ht : TripAt CT CP H p t) : TripsAt CT CP H (ps ++ [p]) (ts ++ [t]) := by
  refine ⟨by rw [List.length_append, List.length_append, h.1]; rfl, fun i q u h1 h2 => ?_⟩
  by_cases hi : i < ps.length
  · rw [List.getElem?_append_left hi] at h1
    rw [List.getElem?_append_left (by rw [← h.1]; exact hi)] at h2
    exact h.2 i q u h1 h2
  · rw [List.getElem?_append_right (by omega)] at h1
    rw [List.getElem?_append_right (by rw [← h.1]; omega)] at h2
    rw [← h.1] at h2
    have e : i - ps.length = 0 := by
      rcases Nat.eq_zero_or_pos (i - ps.length) with z | z
      · exact z
      · rw [List.getElem?_eq_none (show [p].length ≤ i - ps.length from z)] at h1; cases h1
    rw [e] at h1 h2
    have e1 : p = q := by simpa using h1
    have e2 : t = u := by simpa using h2
    subst e1 e2
    exact ht
theorem ref_map_inj : ∀ {l m : List Addr}, l.map V.ref = m.map V.ref → l = m
  | [], [], _ => rfl
  | [], _ :: _, h => by cases h
  | _ :: _, [], h => by cases h
  | a :: l, b :: m, h => by
    injection h with h1 h2
    injection h1 with h1
    rw [h1, ref_map_inj h2]
/-- a trip with a row lies apart from a list of trips -/
theorem TripAt.put {CT CP : Addr} {H : Hp} {p q : Addr} {t : Tr} {acc : List Addr} {ts : List Tr} {o : HO} (h : TripAt CT CP H p t) (h1 : t.row ≠ []) (h2 : t.drops ≠ []) (hq : H q = some (.lst (acc.map V.ref))) (hA : TripsAt CT CP H acc ts) : TripAt CT CP (upd H q o) p t := by
  obtain ⟨dx, lr, ln, ds, e1, e2, e3, e4⟩ := h
  have k1 : lr ≠ q := fun z => by
    subst z
    rw [e2] at hq
    have hq := Option.some.inj hq
    injection hq with hq
    cases hl : t.row with
    | nil => exact h1 hl
    | cons n l =>
      rw [hl] at hq
      cases acc with
      | nil => cases hq
      | cons c acc => injection hq with hq1; cases hq1
  have k2 : ln ≠ q := fun z => by
    subst z
    rw [e3] at hq
    have hq := Option.some.inj hq
    injection hq with hq
    have e := ref_map_inj hq
    subst e
    cases hd : t.drops with
    | nil => exact h2 hd
    | cons x l =>
      have hlen := e4.1
      rw [hd] at hlen
      obtain ⟨p0, hp0⟩ : ∃ p0, ds[0]? = some p0 := ⟨_, List.getElem?_eq_getElem (by rw [hlen]; exact Nat.succ_pos _)⟩
      obtain ⟨d1, q1⟩ := e4.2 0 p0 x hp0 (by rw [hd]; rfl)
      obtain ⟨t0, ht0⟩ : ∃ t0, ts[0]? = some t0 := ⟨_, List.getElem?_eq_getElem (by rw [← hA.1, hlen]; exact Nat.succ_pos _)⟩
      obtain ⟨d2, _, _, _, q2, _⟩ := hA.2 0 p0 t0 hp0 ht0
      rw [q1] at q2
      have q2 := Option.some.inj q2
      injection q2 with _ _ q2
      have := congrArg List.length q2
      cases this
  refine ⟨dx, lr, ln, ds, ?_, ?_, ?_, e4.mono fun b x _ ⟨d1, q1⟩ => ⟨d1, ?_⟩⟩
  · rw [upd_ne (ne_of e1 hq (by intro z; cases z))]; exact e1
  · rw [upd_ne k1]; exact e2
  · rw [upd_ne k2]; exact e3
  · rw [upd_ne (ne_of q1 hq (by intro z; cases z))]; exact q1
theorem TripsAt.put {CT CP : Addr} {H : Hp} {q : Addr} {acc : List Addr} {ts : List Tr} {o : HO} (h : TripsAt CT CP H acc ts) (h1 : ∀ t ∈ ts, t.row ≠ [] ∧ t.drops ≠ []) (hq : H q = some (.lst (acc.map V.ref))) : TripsAt CT CP (upd H q o) acc ts :=
  ⟨h.1, fun i p t e1 e2 => (h.2 i p t e1 e2).put (h1 t (List.mem_of_getElem? e2)).1 (h1 t (List.mem_of_getElem? e2)).2 hq h⟩

/-! ### every row of the same stops -/
def nexts (a : Su75.Abs) (row : List Nat) (t : Tr) : List Tr := (row.filter fun n => !t.row.contains n).map (tripWith a t)
def allStep (a : Su75.Abs) (row : List Nat) (ts : List Tr) : List Tr := ts.flatMap (nexts a row)
def allIter (a : Su75.Abs) (x : Nat) (row : List Nat) : Nat → List Tr
  | 0 => [tripFrom x]
  | i + 1 => allStep a row (allIter a x row i)
def allTrips (a : Su75.Abs) (x : Nat) (row : List Nat) : List Tr := allIter a x row row.length
/-- what is so of a trip of j stops -/
def OkJ (n j : Nat) (t : Tr) : Prop := t.place ≤ n ∧ t.row.length = j ∧ t.drops.length = j
theorem tripWith_ok {a : Su75.Abs} {n j s : Nat} {t : Tr} (h : OkJ n j t) (hs : s < n) : OkJ n (j + 1) (tripWith a t s) := by
  obtain ⟨_, h2, h3⟩ := h
  refine ⟨hs, ?_, ?_⟩
  · show (t.row ++ [s]).length = _
    rw [List.length_append, h2]; rfl
  · show (t.drops ++ [_]).length = _
    rw [List.length_append, h3]; rfl
theorem nexts_ok {a : Su75.Abs} {n j : Nat} {row : List Nat} {t : Tr} (h : OkJ n j t) (hs : ∀ s ∈ row, s < n) : ∀ u ∈ nexts a row t, OkJ n (j + 1) u := fun u hu => by
  obtain ⟨s, hs1, rfl⟩ := List.mem_map.mp hu
  exact tripWith_ok h (hs s (List.mem_filter.mp hs1).1)
theorem iter_ok {a : Su75.Abs} {x n : Nat} {row : List Nat} (hx : x ≤ n) (hs : ∀ s ∈ row, s < n) : ∀ (i : Nat), ∀ t ∈ allIter a x row i, OkJ n i t
  | 0, t, ht => by
    rw [show allIter a x row 0 = [tripFrom x] from rfl, List.mem_singleton] at ht
    subst ht
    exact ⟨hx, rfl, rfl⟩
  | i + 1, t, ht => by
    obtain ⟨u, hu1, hu2⟩ := List.mem_flatMap.mp (show t ∈ allStep a row (allIter a x row i) from ht)
    exact nexts_ok (iter_ok hx hs i u hu1) hs t hu2
theorem flat_len {a : Su75.Abs} {row : List Nat} : ∀ (ts : List Tr), (allStep a row ts).length ≤ ts.length * row.length
  | [] => Nat.zero_le _
  | t :: ts => by
    have ih := flat_len (a := a) (row := row) ts
    show ((nexts a row t) ++ allStep a row ts).length ≤ _
    rw [List.length_append, List.length_cons, Nat.succ_mul]
    have h : (nexts a row t).length ≤ row.length := by
      unfold nexts
      rw [List.length_map]
      exact List.length_filter_le ..
    omega
theorem iter_len {a : Su75.Abs} {x : Nat} {row : List Nat} (h : row.length ≤ 6) : ∀ i, (allIter a x row i).length ≤ 6 ^ i
  | 0 => Nat.le_refl _
  | i + 1 => by
    have h1 := flat_len (a := a) (row := row) (allIter a x row i)
    have h2 := iter_len (a := a) (x := x) h i
    show (allStep a row (allIter a x row i)).length ≤ 6 ^ i * 6
    exact Nat.le_trans h1 (Nat.mul_le_mul h2 h)

def spAllTrips (CS CR CT CP : Addr) (K : PySem.W.Frag) : Sp := fun vs H Q _ => ∃ (ra ls d lr : Addr) (a : Su75.Abs) (x : Nat) (row : List Nat), vs = [.ref ra, vn x, .ref lr] ∧ RoadsAt CS CR H ra ls d a ∧ x ≤ a.stops.length ∧ SqL K H lr (vns row) ∧ (∀ s ∈ row, s < a.stops.length) ∧ row.length ≤ 6 ∧
  ∀ H' l ps, Same H H' → H' l = some (.lst (ps.map V.ref)) → TripsAt CT CP H' ps (allTrips a x row) → Q (.ref l) H'
section
variable {P : Program} {w : World} {K : PySem.W.Frag} {mg : Str → Option Value} {base : Heap} {CS CR CT CP : Addr}
theorem scAllTrips : FnScope ["roads", "place", "row", "trips", "length", "longer", "trip", "number"] ["roads", "place", "row"] (defScope sAllTrips) := ⟨rfl, rfl, rfl, by decide +kernel, rfl, by decide +kernel, by decide +kernel⟩
theorem ok_allTrips {f f1 f2 : Addr} {fd fd1 fd2 : FuncData} (F : Fun K "all_trips" "all_trips" sAllTrips f fd) (T : TR K mg CS CR CT CP)
    (m1 : mg "trip_from" = some (.ref f1)) (k1 : PySem.W.keepIn K (.ref f1) = true) (G1 : FnOk P w K mg base CX0 3 f1 fd1 ["place"] (spTripFrom CT CP)) (b1 : Binds K fd1 ["place"] [])
    (m2 : mg "trip_with" = some (.ref f2)) (k2 : PySem.W.keepIn K (.ref f2) = true) (G2 : FnOk P w K mg base CX0 3 f2 fd2 ["roads", "trip", "number"] (spTripWith CS CR CT CP)) (b2 : Binds K fd2 ["roads", "trip", "number"] []) :
    FnOk P w K mg base CX0 4 f fd ["roads", "place", "row"] (spAllTrips CS CR CT CP K) := by
  refine F.ok scAllTrips (fun vs H Q E h => ?_) (fun cdv A outer s H vs Q E hr h => ?_)
  · obtain ⟨ra, ls, d, lr, a, x, row, rfl, _⟩ := h
    rfl
  · obtain ⟨ra, ls, d, lr, a, x, row, rfl, R, hx, hL, hrow, hlen, k⟩ := h
    have nd := scAllTrips.nd
    refine ⟨_, pss_cons (ps_set (i := 3) nd rfl (Or.inl rfl) (pe_lst (pa_cons (pe_call G1 hr rfl m1 k1 b1 .nil pass0 (pa_cons (pv 1) pa_nil)) pa_nil)))
      (pss_cons (ps_for PassesOwn.never rfl (pi_range1 rfl T.range (pa_cons (pe_callB call_len_seq (by rfl) T.len PySem.boot_len (pa_cons (pv 2) pa_nil)) pa_nil)) (pg_name (i := 4) nd rfl (Or.inl rfl))
        (pss_cons (ps_set (i := 5) nd rfl (Or.inl rfl) (pe_lst pa_nil))
        (pss_cons (ps_for PassesOwn.never rfl (pi_list (pv 3)) (pg_name (i := 6) nd rfl (Or.inl rfl))
          (pss_one (ps_for PassesOwn.never rfl (pi_list (pv 2)) (pg_name (i := 7) nd rfl (Or.inl rfl))
            (pss_one (ps_if (pt_cmpR op_notIn_seq (pv 7) (pe_fld (pv 6) rfl) (by with_unfolding_all rfl))
              (pss_one (ps_expr (pe_bm PySem.F.plainAttrs_list PySem.F.slot_list_append PySem.F.type_list_append mt_append (pv 5) (pa_cons (pe_call G2 hr rfl m2 k2 b2 .nil pass0 (pa_cons (pv 0) (pa_cons (pv 6) (pa_cons (pv 7) pa_nil)))) pa_nil)))) pss_nil)))))
        (pss_one (ps_set (i := 3) nd rfl (Or.inl rfl) (pv 5))))))
      (pss_one (ps_ret (pv 3)))), ?_⟩
    -- trips = [trip_from(place)]
    refine ⟨_, rfl, x, rfl, fun H1 tp0 s1 _ ht0 => ⟨(by show 1 ≤ sizeLine; decide), fun l0 hl0 => ?_⟩⟩
    have s2 := s1.trans (Same.laid (o := .lst [.ref tp0]) hl0)
    -- for length in range(len(row))
    refine ⟨_, rfl, lr, _, rfl, .inl (s2.seq hL), ((vns row).length : Int), rfl, by omega, (by rw [vns_len]; omega), ?_⟩
    rw [Int.toNat_natCast, vns_len]
    refine for_range (n := row.length) (fun i σ H' => ∃ (l : Addr) (ps : List Addr) (v4 v5 v6 v7 : Option V), σ = [some (.ref ra), some (vn x), some (.ref lr), some (.ref l), v4, v5, v6, v7] ∧ Same H H' ∧ H' l = some (.lst (ps.map V.ref)) ∧ TripsAt CT CP H' ps (allIter a x row i))
      ⟨l0, [tp0], none, none, none, none, rfl, s2, upd_same, TripsAt.nil.snoc (ht0.same (Same.laid hl0))⟩ ?_ ?_
    · rintro i σ H2 hi ⟨l, ps, v4, v5, v6, v7, rfl, s3, hl, hT⟩
      -- longer = []
      refine ⟨Nat.zero_le _, fun q hq => ?_⟩
      have s4 : Same H2 (upd H2 q (.lst [])) := Same.laid hq
      -- for trip in trips
      refine ⟨_, rfl, l, rfl, ⟨_, SqL.of (s4 _ _ hl)⟩, for_list (K := K) (a := l) (xs := ps.map V.ref)
        (fun j σ H' => ∃ (acc : List Addr) (v6 v7 : Option V), σ = [some (.ref ra), some (vn x), some (.ref lr), some (.ref l), some (.int (0 + (i : Int))), some (.ref q), v6, v7] ∧ Same H2 H' ∧ H' q = some (.lst (acc.map V.ref)) ∧ TripsAt CT CP H' acc (allStep a row ((allIter a x row i).take j)))
        ⟨[], v6, v7, rfl, s4, upd_same, TripsAt.nil⟩ (fun j σ H' _ ⟨_, _, _, _, s5, _⟩ => SqL.of (s5 _ _ hl)) ?_ ?_⟩
      · rintro j y σ H3 hj ⟨acc, v6, v7, rfl, s5, hacc, hA⟩
        obtain ⟨tp, htp, rfl⟩ : ∃ tp, ps[j]? = some tp ∧ y = V.ref tp := by
          rw [List.getElem?_map] at hj
          cases e : ps[j]? with
          | none => rw [e] at hj; cases hj
          | some z => rw [e] at hj; exact ⟨z, rfl, (Option.some.inj hj).symm⟩
        have hjl : j < ps.length := (List.getElem?_eq_some_iff.mp htp).1
        obtain ⟨t, ht⟩ : ∃ t, (allIter a x row i)[j]? = some t := ⟨_, List.getElem?_eq_getElem (by rw [← hT.1]; exact hjl)⟩
        have hTr : TripAt CT CP H2 tp t := hT.2 j tp t htp ht
        have hok : OkJ a.stops.length i t := iter_ok hx hrow i t (List.mem_of_getElem? ht)
        have hdone : ∀ u ∈ allStep a row ((allIter a x row i).take j), OkJ a.stops.length (i + 1) u := fun u hu => by
          obtain ⟨v, hv1, hv2⟩ := List.mem_flatMap.mp hu
          exact nexts_ok (iter_ok hx hrow i v (List.mem_of_mem_take hv1)) hrow u hv2
        have hsize : (allStep a row ((allIter a x row i).take j)).length ≤ 46656 * 6 := by
          have h1 := flat_len (a := a) (row := row) ((allIter a x row i).take j)
          have h2 := iter_len (a := a) (x := x) hlen i
          have h3 : 6 ^ i ≤ 6 ^ 6 := Nat.pow_le_pow_right (by decide) (by omega)
          have h4 : ((allIter a x row i).take j).length ≤ 46656 := by rw [List.length_take]; have : (6 : Nat) ^ 6 = 46656 := by decide
                                                                      omega
          exact Nat.le_trans h1 (Nat.mul_le_mul h4 hlen)
        -- for number in row
        refine ⟨_, rfl, lr, rfl, ⟨_, (s3.trans s5).seq hL⟩, for_list (K := K) (a := lr) (xs := vns row)
          (fun m σ H' => ∃ (acc : List Addr) (v7 : Option V), σ = [some (.ref ra), some (vn x), some (.ref lr), some (.ref l), some (.int (0 + (i : Int))), some (.ref q), some (.ref tp), v7] ∧ Same H2 H' ∧ H' q = some (.lst (acc.map V.ref)) ∧
            TripsAt CT CP H' acc (allStep a row ((allIter a x row i).take j) ++ nexts a (row.take m) t))
          ⟨acc, v7, rfl, s5, hacc, by show TripsAt CT CP H3 acc (_ ++ []); rw [List.append_nil]; exact hA⟩ (fun m σ H' _ ⟨_, _, _, s6, _⟩ => (s3.trans s6).seq hL) ?_ ?_⟩
        · rintro m y σ H4 hm ⟨acc, v7, rfl, s6, hacc, hA⟩
          obtain ⟨z, hz, rfl⟩ : ∃ z, row[m]? = some z ∧ y = vn z := by
            rw [List.getElem?_map] at hm
            cases e : row[m]? with
            | none => rw [e] at hm; cases hm
            | some z => rw [e] at hm; exact ⟨z, rfl, (Option.some.inj hm).symm⟩
          have hzs := hrow z (List.mem_of_getElem? hz)
          obtain ⟨tdx, tlr, tln, tds, t1, t2, t3, t4⟩ := hTr.same s6
          refine ⟨_, rfl, _, rfl, tp, CT, tdx, _, _, rfl, t1, T.clT, T.nT1, rfl, tlr, _, rfl, .inl (SqL.of t2), rfl, flat_vns _, _, rfl, ?_⟩
          have ein := in_vns z t.row
          refine ite2 (fun e => ?_) fun e => ?_
          · have e : t.row.contains z = false := by
              rw [← ein]
              simpa using e
            refine ⟨_, rfl, .inl ⟨rfl, _, SqL.of hacc⟩, _, rfl, _, rfl, _, rfl, ra, ls, d, tp, a, t, z, rfl, R.same (s3.trans s6), hTr.same s6, hzs, hok.1, (by rw [hok.2.1]; omega), (by rw [hok.2.2]; omega), fun H5 p s7 hp htw => ?_⟩
            have hacc5 := s7 _ _ hacc
            have hA5 := hA.same s7
            have hall : ∀ u ∈ allStep a row ((allIter a x row i).take j) ++ nexts a (row.take m) t, u.row ≠ [] ∧ u.drops ≠ [] := fun u hu => by
              have ho : OkJ a.stops.length (i + 1) u := by
                rcases List.mem_append.mp hu with hu | hu
                · exact hdone u hu
                · exact nexts_ok hok (fun s hs => hrow s (List.mem_of_mem_take hs)) u hu
              refine ⟨fun z => ?_, fun z => ?_⟩
              · have := ho.2.1; rw [z] at this; simp at this
              · have := ho.2.2; rw [z] at this; simp at this
            have hw := tripWith_ok (a := a) hok hzs
            refine ⟨q, _, _, rfl, rfl, hacc5, ?_, ?_⟩
            · rw [List.length_map, hA.1, List.length_append]
              have h1 : (nexts a (row.take m) t).length ≤ 6 := by
                unfold nexts
                rw [List.length_map]
                refine Nat.le_trans (List.length_filter_le ..) ?_
                rw [List.length_take]; omega
              rw [sizeLine_eq]; omega
            · refine ⟨acc ++ [p], _, rfl, fun b o e => ?_, ?_, ?_⟩
              · rw [upd_ne (fun z => by rw [z, hq] at e; cases e)]
                exact s7 b o (s6 b o e)
              · rw [upd_same, List.map_append]
                rfl
              · have e2 : nexts a (row.take (m + 1)) t = nexts a (row.take m) t ++ [tripWith a t z] := by
                  unfold nexts
                  rw [take_snoc hz, List.filter_append, List.map_append, List.filter_cons, if_pos (by rw [e]; rfl)]
                  rfl
                rw [e2, ← List.append_assoc]
                refine (hA5.put hall hacc5).snoc (htw.put (fun z => ?_) (fun z => ?_) hacc5 hA5)
                · have := hw.2.1; rw [z] at this; simp at this
                · have := hw.2.2; rw [z] at this; simp at this
          · have e : t.row.contains z = true := by
              rw [← ein]
              simpa using e
            refine ⟨acc, _, rfl, s6, hacc, ?_⟩
            have e2 : nexts a (row.take (m + 1)) t = nexts a (row.take m) t := by
              unfold nexts
              rw [take_snoc hz, List.filter_append, List.filter_cons, if_neg (by rw [e]; decide), List.filter_nil, List.append_nil]
            rw [e2]
            exact hA
        · rintro σ H4 ⟨acc, v7, rfl, s6, hacc, hA⟩
          refine ⟨acc, _, v7, rfl, s6, hacc, ?_⟩
          rw [vns_len, List.take_length] at hA
          have e2 : allStep a row ((allIter a x row i).take (j + 1)) = allStep a row ((allIter a x row i).take j) ++ nexts a row t := by
            unfold allStep
            rw [take_snoc ht, List.flatMap_append]
            simp
          rw [e2]
          exact hA
      · rintro σ H3 ⟨acc, v6, v7, rfl, s5, hacc, hA⟩
        rw [List.length_map, hT.1, List.take_length] at hA
        refine ⟨_, rfl, ?_⟩
        exact ⟨q, acc, _, _, v6, v7, rfl, s3.trans s5, hacc, hA⟩
    · rintro σ H2 ⟨l, ps, v4, v5, v6, v7, rfl, s3, hl, hT⟩
      exact ⟨_, rfl, k H2 l ps s3 hl hT⟩
end
end CD
end

section
set_option Elab.async false
set_option linter.all false
set_option maxRecDepth 100000
set_option maxHeartbeats 4000000
namespace CD
open PySem PySem.Spec PyProof.Rows L2

/-! ### the first of the best -/
def ltK (x y : Int × Int) : Bool := decide (x.1 < y.1 ∨ (x.1 = y.1 ∧ x.2 < y.2))
def betterT (key : Tr → Int × Int) (b : Option Tr) (w : Tr) : Option Tr := match b with
  | none => some w
  | some v => if ltK (key w) (key v) = true then some w else some v
def bestT (key : Tr → Int × Int) (ts : List Tr) : Option Tr := ts.foldl (betterT key) none
def keyL (k : Int × Int) : List Int := [k.1, k.2]
theorem lex_ltK (x y : Int × Int) : HT.lexLt (keyL x) (keyL y) = ltK x y := by
  obtain ⟨a, b⟩ := x
  obtain ⟨c, d⟩ := y
  show (if a = c then (if b = d then false else decide (b < d)) else decide (a < c)) = decide (a < c ∨ (a = c ∧ b < d))
  by_cases e : a = c
  · subst e
    rw [if_pos rfl]
    by_cases e2 : b = d
    · subst e2; simp
    · rw [if_neg e2]; simp
  · rw [if_neg e]; simp [e]
theorem argLt_take (key : Tr → Int × Int) (d : Tr) (ts : List Tr) : ∀ j, j < ts.length → (ts.take (j + 1)).foldl (betterT key) none = ts[argLt (fun i => keyL (key (ts.getD i d))) j]?
  | 0, h => by
    obtain ⟨t, ht⟩ : ∃ t, ts[0]? = some t := ⟨_, List.getElem?_eq_getElem h⟩
    rw [take_snoc ht]
    show some t = ts[0]?
    rw [ht]
  | j + 1, h => by
    have ih := argLt_take key d ts j (by omega)
    obtain ⟨t, ht⟩ : ∃ t, ts[j + 1]? = some t := ⟨_, List.getElem?_eq_getElem h⟩
    rw [take_snoc ht, List.foldl_append, ih]
    have hle : ∀ i, argLt (fun i => keyL (key (ts.getD i d))) i ≤ i := by
      intro i
      induction i with
      | zero => exact Nat.le_refl _
      | succ i ih =>
        show (if _ then i + 1 else _) ≤ i + 1
        split
        · exact Nat.le_refl _
        · omega
    obtain ⟨v, hv⟩ : ∃ v, ts[argLt (fun i => keyL (key (ts.getD i d))) j]? = some v := ⟨_, List.getElem?_eq_getElem (by have := hle j; omega)⟩
    rw [hv]
    show (if ltK (key t) (key v) = true then some t else some v) = ts[if HT.lexLt (keyL (key (ts.getD (j + 1) d))) (keyL (key (ts.getD (argLt (fun i => keyL (key (ts.getD i d))) j) d))) = true then j + 1 else argLt (fun i => keyL (key (ts.getD i d))) j]?
    have e1 : ts.getD (j + 1) d = t := by rw [List.getD_eq_getElem?_getD, ht]; rfl
    have e2 : ts.getD (argLt (fun i => keyL (key (ts.getD i d))) j) d = v := by rw [List.getD_eq_getElem?_getD, hv]; rfl
    rw [e1, e2, lex_ltK]
    split
    · exact ht.symm
    · exact hv.symm
theorem argLt_best (key : Tr → Int × Int) (d : Tr) {ts : List Tr} (h : 0 < ts.length) : ts[argLt (fun i => keyL (key (ts.getD i d))) (ts.length - 1)]? = bestT key ts := by
  rw [← argLt_take key d ts (ts.length - 1) (by omega)]
  rw [show ts.length - 1 + 1 = ts.length by omega, List.take_length]
  rfl

/-! ### a def that holds a lambda -/
theorem fun_okT {P : Program} {w : World} {K : PySem.W.Frag} {mg : Str → Option Value} {base : Heap} {x qual : Str} {st : Stmt} {f c : Addr} {N ps : List Str} {k : Nat} {sp : Sp} {oc : Value} {od an : Option Addr} {kV doc pm ct : Value} {osl : Array (Option Value)}
    (lk : K.lookup f = some ⟨oc, od, .func (PySem.W.fnOf x qual (defArgs st) (defBody st) (defScope st) .none kV doc pm an (.ref c) ct), osl⟩) (hcd : PySem.W.codeIn K (.ref c) qual = true) (S : FnScope N ps (defScope st)) (len : ∀ vs H Q E, sp vs H Q E → vs.length = ps.length)
    (hbody : ∀ (A : Around) (outer : List Env) (s : Shared) (H : Hp) (vs : List V) (Q : VK) (E : XK), Room k (A.deeper (envOfC qual (defScope st) s.heap.objs.size f (.ref c))) → sp vs H Q E →
      ∃ t, PSs (cxOf CX0 P w K mg base N qual (defScope st) f (.ref c) A outer s H E).nox (defBody st) t ∧ t { nx := fun _ H' => Q .non H', rt := Q } (start N vs) H) :
    FnOk P w K mg base CX0 (k + 1) f (PySem.W.fnOf x qual (defArgs st) (defBody st) (defScope st) .none kV doc pm an (.ref c) ct) ps sp :=
  fn_of lk hcd S len fun A outer s H vs Q E hr hsp => let ⟨t, h, q⟩ := hbody A outer s H vs Q E hr hsp; ⟨t, h.nox, q⟩

theorem free_in {sc : Scope} {l : List Str} (h : ∀ y ∈ sc.names, y.2 = .free → y.1 ∈ l) (x : Str) (e : sc.names.lookup x = some .free) : x ∈ l := h (x, .free) (PySem.mem_of_lookup e) rfl
structure Lam where
  params : Arguments
  body : Expr
  scope : Scope
  pos : Pos
def lamOf (b : List Stmt) : Lam := match b with
  | [.Return (some (.Call _ _ [⟨_, .Lambda p e sc pos, _⟩] _)) _] => ⟨p, e, sc, pos⟩
  | _ => ⟨{ posonlyargs := [], args := [], vararg := none, kwonlyargs := [], kw_defaults := [], kwarg := none, defaults := [] }, .Constant .none 0 ⟨0, 0, 0, 0⟩, { kind := .function, names := [], isGenerator := false, isCoroutine := false }, ⟨0, 0, 0, 0⟩⟩
abbrev lMildest : Lam := lamOf (defBody sMildest)
abbrev qMildest : Str := "mildest.<locals>.<lambda>"
theorem lsMildest : LamScope ["trip", "roads"] ["trip"] lMildest.scope := ⟨rfl, rfl, rfl, by decide +kernel, rfl, by decide +kernel, by decide +kernel⟩
def keyMild (a : Su75.Abs) (t : Tr) : Int × Int := ((t.need : Int), (t.home a : Int))
def spMildest (CS CR CT CP P : Addr) : Sp := fun vs H Q _ => ∃ (ra ls d l : Addr) (a : Su75.Abs) (ps : List Addr) (ts : List Tr), vs = [.ref ra, .ref l] ∧ RoadsAt CS CR H ra ls d a ∧ H l = some (.lst (ps.map V.ref)) ∧ TripsAt CT CP H ps ts ∧ 0 < ts.length ∧ (∀ t ∈ ts, t.place ≤ a.stops.length ∧ t.drops.length ≤ 100) ∧ TabOk H P lMildest.pos qMildest ∧
  ∀ H' p t, (∀ b o, H b = some o → b ≠ P → H' b = some o) → TabOk H' P lMildest.pos qMildest → bestT (keyMild a) ts = some t → TripAt CT CP H' p t → Q (.ref p) H'
section
variable {P : Program} {w : World} {K : PySem.W.Frag} {mg : Str → Option Value} {base : Heap} {CS CR CT CP : Addr}
theorem trips_but {CT CP : Addr} {H H' : Hp} {P p : Addr} {t : Tr} {ps : Array Value} (hP : H P = some (.tbl ps)) (k : ∀ b o, H b = some o → b ≠ P → H' b = some o) (h : TripAt CT CP H p t) : TripAt CT CP H' p t := by
  obtain ⟨dx, lr, ln, ds, h1, h2, h3, h4⟩ := h
  exact ⟨dx, lr, ln, ds, k _ _ h1 (ne_of h1 hP (by intro z; cases z)), k _ _ h2 (ne_of h2 hP (by intro z; cases z)), k _ _ h3 (ne_of h3 hP (by intro z; cases z)), h4.mono fun b x _ ⟨d1, q1⟩ => ⟨d1, k _ _ q1 (ne_of q1 hP (by intro z; cases z))⟩⟩
theorem roads_but {H H' : Hp} {P ra ls d : Addr} {a : Su75.Abs} {ps : Array Value} (hP : H P = some (.tbl ps)) (k : ∀ b o, H b = some o → b ≠ P → H' b = some o) (R : RoadsAt CS CR H ra ls d a) : RoadsAt CS CR H' ra ls d a := by
  obtain ⟨⟨dx, h1⟩, ⟨ss, h2, h3, h4⟩, ⟨kvs, h5, h6⟩, h7, h8, h9⟩ := R
  refine ⟨⟨dx, k _ _ h1 (ne_of h1 hP (by intro z; cases z))⟩, ⟨ss, k _ _ h2 (ne_of h2 hP (by intro z; cases z)), h3, fun i p st q1 q2 => ?_⟩, ⟨kvs, k _ _ h5 (ne_of h5 hP (by intro z; cases z)), h6⟩, h7, h8, h9⟩
  obtain ⟨dx, h⟩ := h4 i p st q1 q2
  exact ⟨dx, k _ _ h (ne_of h hP (by intro z; cases z))⟩
theorem scMildest : FnScope ["roads", "trips"] ["roads", "trips"] (defScope sMildest) := ⟨rfl, rfl, rfl, by decide +kernel, rfl, by decide +kernel, by decide +kernel⟩
theorem ok_mildest {f c PT f1 f2 : Addr} {fd1 fd2 : FuncData} {oc : Value} {od an : Option Addr} {kV doc pm ct : Value} {osl : Array (Option Value)} {ob : Obj}
    (lk : K.lookup f = some ⟨oc, od, .func (PySem.W.fnOf "mildest" "mildest" (defArgs sMildest) (defBody sMildest) (defScope sMildest) .none kV doc pm an (.ref c) ct), osl⟩) (hcd : PySem.W.codeIn K (.ref c) "mildest" = true)
    (lc : K.lookup c = some ob) (hc : hdOf c ob = some PT) (KB : K.In base) (BM : BMain mg base) (T : TR K mg CS CR CT CP)
    (m1 : mg "frost_needed" = some (.ref f1)) (k1 : PySem.W.keepIn K (.ref f1) = true) (G1 : FnOk P w K mg base CX0 1 f1 fd1 ["trip"] (spFrostNeeded CT CP)) (b1 : Binds K fd1 ["trip"] [])
    (m2 : mg "minutes_home" = some (.ref f2)) (k2 : PySem.W.keepIn K (.ref f2) = true) (G2 : FnOk P w K mg base CX0 2 f2 fd2 ["roads", "trip"] (spMinutesHome CS CR CT CP)) (b2 : Binds K fd2 ["roads", "trip"] []) :
    FnOk P w K mg base CX0 5 f (PySem.W.fnOf "mildest" "mildest" (defArgs sMildest) (defBody sMildest) (defScope sMildest) .none kV doc pm an (.ref c) ct) ["roads", "trips"] (spMildest CS CR CT CP PT) := by
  refine fun_okT lk hcd scMildest (fun vs H Q E h => ?_) (fun A outer s H vs Q E hr h => ?_)
  · obtain ⟨ra, ls, d, l, a, ps, ts, rfl, _⟩ := h
    rfl
  · obtain ⟨ra, ls, d, l, a, ps, ts, rfl, R, hl, hT, hne, hpl, hTab, k⟩ := h
    refine ⟨_, pss_one (ps_ret (pe_minLam (js := [0]) (ys := ["roads"]) (pn := "trip") (qual := qMildest) (cl := [("roads", s.heap.objs.size + 1)]) (pv 1) hr rfl T.min rfl (hdOf_ok KB lc hc) BM rfl lsMildest rfl rfl (fun x c h => h) ?hfr ?hys rfl ?hbind (fun f' c' s' H' => pe_tup (pa_cons (pe_call G1 ((hr.in1.deeper _).mono (by decide)) rfl m1 k1 b1 .nil pass0 (pa_cons (pv 0) pa_nil)) (pa_cons (pe_call G2 (hr.in1.deeper _) rfl m2 k2 b2 .nil pass0 (pa_cons (pv 1) (pa_cons (pv 0) pa_nil))) pa_nil))))), ?_⟩
    case hfr =>
      intro x e
      have hx : x ∈ (["roads"] : List Str) := free_in (by decide +kernel) x e
      rw [List.mem_singleton.mp hx]
      exact ⟨_, rfl⟩
    case hys =>
      intro i y e
      match i, e with
      | 0, e =>
        have e : ("roads" : Str) = y := Option.some.inj e
        subst e
        exact ⟨rfl, rfl, rfl, 0, rfl, rfl⟩
      | i + 1, e => cases e
    case hbind => exact fun pm ctv v c' => rfl
    have hps : ps.length = ts.length := hT.1
    obtain ⟨ps0, eP, _⟩ := id hTab
    refine ⟨_, rfl, l, _, rfl, SqL.of hl, by rw [List.length_map, hps]; exact hne, hTab, fun i => keyL (keyMild a (ts.getD i (tripFrom 0))), fun i y H' hy hk => ?_, fun y H' hy hk hTab' => ?_⟩
    · obtain ⟨tp, htp, rfl⟩ : ∃ tp, ps[i]? = some tp ∧ y = V.ref tp := by
        rw [List.getElem?_map] at hy
        cases e : ps[i]? with
        | none => rw [e] at hy; cases hy
        | some z => rw [e] at hy; exact ⟨z, rfl, (Option.some.inj hy).symm⟩
      have hil : i < ts.length := by rw [← hps]; exact (List.getElem?_eq_some_iff.mp htp).1
      obtain ⟨t, ht⟩ : ∃ t, ts[i]? = some t := ⟨_, List.getElem?_eq_getElem hil⟩
      have hTr : TripAt CT CP H' tp t := trips_but eP hk (hT.2 i tp t htp ht)
      have eg : ts.getD i (tripFrom 0) = t := by rw [List.getD_eq_getElem?_getD, ht]; rfl
      have hp := hpl t (List.mem_of_getElem? ht)
      refine ⟨_, rfl, tp, t, rfl, hTr, hp.2, fun H1 s1 => ⟨_, rfl, _, rfl, ra, ls, d, tp, a, t, rfl, (roads_but eP hk R).same s1, hTr.same s1, hp.1, fun H2 s2 => ⟨(by show 2 ≤ sizeLine; decide), fun p hp => ⟨(s1.trans s2).trans (Same.laid hp), p, rfl, ?_⟩⟩⟩⟩
      show SqT _ _ p (List.map V.int (keyL (keyMild a (ts.getD i (tripFrom 0)))))
      rw [eg]
      exact .inl (.inl upd_same)
    · rw [List.length_map, hps] at hy
      rw [List.getElem?_map] at hy
      cases e : ps[argLt (fun i => keyL (keyMild a (ts.getD i (tripFrom 0)))) (ts.length - 1)]? with
      | none => rw [e] at hy; cases hy
      | some tp =>
        rw [e] at hy
        have hy : V.ref tp = y := Option.some.inj hy
        subst hy
        have eb := argLt_best (keyMild a) (tripFrom 0) hne
        cases eb2 : bestT (keyMild a) ts with
        | none =>
          rw [eb2] at eb
          have h1 := (List.getElem?_eq_some_iff.mp e).1
          rw [List.getElem?_eq_none_iff] at eb
          omega
        | some t =>
          rw [eb2] at eb
          exact k H' tp t hk hTab' eb2 (trips_but eP hk (hT.2 _ tp t e eb))
end
end CD
end

section
set_option Elab.async false
set_option linter.all false
set_option maxRecDepth 100000
set_option maxHeartbeats 4000000
namespace CD
open PySem PySem.Spec PyProof.Rows L2

abbrev lQuickest : Lam := lamOf (defBody sQuickest)
abbrev qQuickest : Str := "quickest.<locals>.<lambda>"
theorem lsQuickest : LamScope ["trip", "roads"] ["trip"] lQuickest.scope := ⟨rfl, rfl, rfl, by decide +kernel, rfl, by decide +kernel, by decide +kernel⟩
def keyQuick (a : Su75.Abs) (t : Tr) : Int × Int := ((t.home a : Int), (t.need : Int))
def spQuickest (CS CR CT CP P : Addr) : Sp := fun vs H Q _ => ∃ (ra ls d l : Addr) (a : Su75.Abs) (ps : List Addr) (ts : List Tr), vs = [.ref ra, .ref l] ∧ RoadsAt CS CR H ra ls d a ∧ H l = some (.lst (ps.map V.ref)) ∧ TripsAt CT CP H ps ts ∧ 0 < ts.length ∧ (∀ t ∈ ts, t.place ≤ a.stops.length ∧ t.drops.length ≤ 100) ∧ TabOk H P lQuickest.pos qQuickest ∧
  ∀ H' p t, (∀ b o, H b = some o → b ≠ P → H' b = some o) → TabOk H' P lQuickest.pos qQuickest → bestT (keyQuick a) ts = some t → TripAt CT CP H' p t → Q (.ref p) H'
section
variable {P : Program} {w : World} {K : PySem.W.Frag} {mg : Str → Option Value} {base : Heap} {CS CR CT CP : Addr}
theorem scQuickest : FnScope ["roads", "trips"] ["roads", "trips"] (defScope sQuickest) := ⟨rfl, rfl, rfl, by decide +kernel, rfl, by decide +kernel, by decide +kernel⟩
theorem ok_quickest {f c PT f1 f2 : Addr} {fd1 fd2 : FuncData} {oc : Value} {od an : Option Addr} {kV doc pm ct : Value} {osl : Array (Option Value)} {ob : Obj}
    (lk : K.lookup f = some ⟨oc, od, .func (PySem.W.fnOf "quickest" "quickest" (defArgs sQuickest) (defBody sQuickest) (defScope sQuickest) .none kV doc pm an (.ref c) ct), osl⟩) (hcd : PySem.W.codeIn K (.ref c) "quickest" = true)
    (lc : K.lookup c = some ob) (hc : hdOf c ob = some PT) (KB : K.In base) (BM : BMain mg base) (T : TR K mg CS CR CT CP)
    (m1 : mg "frost_needed" = some (.ref f1)) (k1 : PySem.W.keepIn K (.ref f1) = true) (G1 : FnOk P w K mg base CX0 1 f1 fd1 ["trip"] (spFrostNeeded CT CP)) (b1 : Binds K fd1 ["trip"] [])
    (m2 : mg "minutes_home" = some (.ref f2)) (k2 : PySem.W.keepIn K (.ref f2) = true) (G2 : FnOk P w K mg base CX0 2 f2 fd2 ["roads", "trip"] (spMinutesHome CS CR CT CP)) (b2 : Binds K fd2 ["roads", "trip"] []) :
    FnOk P w K mg base CX0 5 f (PySem.W.fnOf "quickest" "quickest" (defArgs sQuickest) (defBody sQuickest) (defScope sQuickest) .none kV doc pm an (.ref c) ct) ["roads", "trips"] (spQuickest CS CR CT CP PT) := by
  refine fun_okT lk hcd scQuickest (fun vs H Q E h => ?_) (fun A outer s H vs Q E hr h => ?_)
  · obtain ⟨ra, ls, d, l, a, ps, ts, rfl, _⟩ := h
    rfl
  · obtain ⟨ra, ls, d, l, a, ps, ts, rfl, R, hl, hT, hne, hpl, hTab, k⟩ := h
    refine ⟨_, pss_one (ps_ret (pe_minLam (js := [0]) (ys := ["roads"]) (pn := "trip") (qual := qQuickest) (cl := [("roads", s.heap.objs.size + 1)]) (pv 1) hr rfl T.min rfl (hdOf_ok KB lc hc) BM rfl lsQuickest rfl rfl (fun x c h => h) ?hfr ?hys rfl ?hbind (fun f' c' s' H' => pe_tup (pa_cons (pe_call G2 (hr.in1.deeper _) rfl m2 k2 b2 .nil pass0 (pa_cons (pv 1) (pa_cons (pv 0) pa_nil))) (pa_cons (pe_call G1 ((hr.in1.deeper _).mono (by decide)) rfl m1 k1 b1 .nil pass0 (pa_cons (pv 0) pa_nil)) pa_nil))))), ?_⟩
    case hfr =>
      intro x e
      have hx : x ∈ (["roads"] : List Str) := free_in (by decide +kernel) x e
      rw [List.mem_singleton.mp hx]
      exact ⟨_, rfl⟩
    case hys =>
      intro i y e
      match i, e with
      | 0, e =>
        have e : ("roads" : Str) = y := Option.some.inj e
        subst e
        exact ⟨rfl, rfl, rfl, 0, rfl, rfl⟩
      | i + 1, e => cases e
    case hbind => exact fun pm ctv v c' => rfl
    have hps : ps.length = ts.length := hT.1
    obtain ⟨ps0, eP, _⟩ := id hTab
    refine ⟨_, rfl, l, _, rfl, SqL.of hl, by rw [List.length_map, hps]; exact hne, hTab, fun i => keyL (keyQuick a (ts.getD i (tripFrom 0))), fun i y H' hy hk => ?_, fun y H' hy hk hTab' => ?_⟩
    · obtain ⟨tp, htp, rfl⟩ : ∃ tp, ps[i]? = some tp ∧ y = V.ref tp := by
        rw [List.getElem?_map] at hy
        cases e : ps[i]? with
        | none => rw [e] at hy; cases hy
        | some z => rw [e] at hy; exact ⟨z, rfl, (Option.some.inj hy).symm⟩
      have hil : i < ts.length := by rw [← hps]; exact (List.getElem?_eq_some_iff.mp htp).1
      obtain ⟨t, ht⟩ : ∃ t, ts[i]? = some t := ⟨_, List.getElem?_eq_getElem hil⟩
      have hTr : TripAt CT CP H' tp t := trips_but eP hk (hT.2 i tp t htp ht)
      have eg : ts.getD i (tripFrom 0) = t := by rw [List.getD_eq_getElem?_getD, ht]; rfl
      have hp := hpl t (List.mem_of_getElem? ht)
      refine ⟨_, rfl, _, rfl, ra, ls, d, tp, a, t, rfl, roads_but eP hk R, hTr, hp.1, fun H2 s2 => ⟨_, rfl, tp, t, rfl, hTr.same s2, hp.2, fun H3 s3 => ⟨(by show 2 ≤ sizeLine; decide), fun p hp => ⟨(s2.trans s3).trans (Same.laid hp), p, rfl, ?_⟩⟩⟩⟩
      show SqT _ _ p (List.map V.int (keyL (keyQuick a (ts.getD i (tripFrom 0)))))
      rw [eg]
      exact .inl (.inl upd_same)
    · rw [List.length_map, hps] at hy
      rw [List.getElem?_map] at hy
      cases e : ps[argLt (fun i => keyL (keyQuick a (ts.getD i (tripFrom 0)))) (ts.length - 1)]? with
      | none => rw [e] at hy; cases hy
      | some tp =>
        rw [e] at hy
        have hy : V.ref tp = y := Option.some.inj hy
        subst hy
        have eb := argLt_best (keyQuick a) (tripFrom 0) hne
        cases eb2 : bestT (keyQuick a) ts with
        | none =>
          rw [eb2] at eb
          have h1 := (List.getElem?_eq_some_iff.mp e).1
          rw [List.getElem?_eq_none_iff] at eb
          omega
        | some t =>
          rw [eb2] at eb
          exact k H' tp t hk hTab' eb2 (trips_but eP hk (hT.2 _ tp t e eb))
end
end CD
end

section
set_option Elab.async false
set_option linter.all false
set_option maxRecDepth 100000
set_option maxHeartbeats 4000000
namespace CD
open PySem PySem.Spec PyProof.Rows L2

abbrev lColdest : Lam := lamOf (defBody sColdest)
abbrev qColdest : Str := "coldest.<locals>.<lambda>"
theorem lsColdest : LamScope ["trip", "roads", "frost"] ["trip"] lColdest.scope := ⟨rfl, rfl, rfl, by decide +kernel, rfl, by decide +kernel, by decide +kernel⟩
def keyMost (a : Su75.Abs) (f : Nat) (t : Tr) : Int × Int := (-(t.good f : Int), (t.home a : Int))
def spColdest (CS CR CT CP P : Addr) : Sp := fun vs H Q _ => ∃ (ra ls d l : Addr) (a : Su75.Abs) (ps : List Addr) (ts : List Tr) (fr : Nat), vs = [.ref ra, .ref l, vn fr] ∧ RoadsAt CS CR H ra ls d a ∧ H l = some (.lst (ps.map V.ref)) ∧ TripsAt CT CP H ps ts ∧ 0 < ts.length ∧ (∀ t ∈ ts, t.place ≤ a.stops.length ∧ t.drops.length ≤ 100) ∧ TabOk H P lColdest.pos qColdest ∧
  ∀ H' p t, (∀ b o, H b = some o → b ≠ P → H' b = some o) → TabOk H' P lColdest.pos qColdest → bestT (keyMost a fr) ts = some t → TripAt CT CP H' p t → Q (.ref p) H'
def spColdTrips (CT CP : Addr) : Sp := fun vs H Q _ => ∃ (l : Addr) (ps : List Addr) (ts : List Tr) (fr : Nat), vs = [.ref l, vn fr] ∧ H l = some (.lst (ps.map V.ref)) ∧ TripsAt CT CP H ps ts ∧ ts.length ≤ 100000 ∧ (∀ t ∈ ts, t.drops.length ≤ 100) ∧
  ∀ H' l' ps', Same H H' → H' l' = some (.lst (ps'.map V.ref)) → TripsAt CT CP H' ps' (ts.filter fun t => decide (t.need ≤ fr)) → Q (.ref l') H'
section
variable {P : Program} {w : World} {K : PySem.W.Frag} {mg : Str → Option Value} {base : Heap} {CS CR CT CP : Addr}
theorem scColdest : FnScope ["roads", "trips", "frost"] ["roads", "trips", "frost"] (defScope sColdest) := ⟨rfl, rfl, rfl, by decide +kernel, rfl, by decide +kernel, by decide +kernel⟩
theorem ok_coldest {f c PT f1 f2 : Addr} {fd1 fd2 : FuncData} {oc : Value} {od an : Option Addr} {kV doc pm ct : Value} {osl : Array (Option Value)} {ob : Obj}
    (lk : K.lookup f = some ⟨oc, od, .func (PySem.W.fnOf "coldest" "coldest" (defArgs sColdest) (defBody sColdest) (defScope sColdest) .none kV doc pm an (.ref c) ct), osl⟩) (hcd : PySem.W.codeIn K (.ref c) "coldest" = true)
    (lc : K.lookup c = some ob) (hc : hdOf c ob = some PT) (KB : K.In base) (BM : BMain mg base) (T : TR K mg CS CR CT CP)
    (m1 : mg "cold_drops" = some (.ref f1)) (k1 : PySem.W.keepIn K (.ref f1) = true) (G1 : FnOk P w K mg base CX0 1 f1 fd1 ["trip", "frost"] (spColdDrops CT CP)) (b1 : Binds K fd1 ["trip", "frost"] [])
    (m2 : mg "minutes_home" = some (.ref f2)) (k2 : PySem.W.keepIn K (.ref f2) = true) (G2 : FnOk P w K mg base CX0 2 f2 fd2 ["roads", "trip"] (spMinutesHome CS CR CT CP)) (b2 : Binds K fd2 ["roads", "trip"] []) :
    FnOk P w K mg base CX0 5 f (PySem.W.fnOf "coldest" "coldest" (defArgs sColdest) (defBody sColdest) (defScope sColdest) .none kV doc pm an (.ref c) ct) ["roads", "trips", "frost"] (spColdest CS CR CT CP PT) := by
  refine fun_okT lk hcd scColdest (fun vs H Q E h => ?_) (fun A outer s H vs Q E hr h => ?_)
  · obtain ⟨ra, ls, d, l, a, ps, ts, fr, rfl, _⟩ := h
    rfl
  · obtain ⟨ra, ls, d, l, a, ps, ts, fr, rfl, R, hl, hT, hne, hpl, hTab, k⟩ := h
    refine ⟨_, pss_one (ps_ret (pe_minLam (js := [0, 2]) (ys := ["roads", "frost"]) (pn := "trip") (qual := qColdest) (cl := _) (pv 1) hr rfl T.min rfl (hdOf_ok KB lc hc) BM rfl lsColdest rfl rfl ?hcl ?hfr ?hys rfl ?hbind
      (fun f' c' s' H' => pe_tup (pa_cons (pe_un un_neg (pe_call G1 ((hr.in1.deeper _).mono (by decide)) rfl m1 k1 b1 .nil pass0 (pa_cons (pv 0) (pa_cons (pv 2) pa_nil)))) (pa_cons (pe_call G2 (hr.in1.deeper _) rfl m2 k2 b2 .nil pass0 (pa_cons (pv 1) (pa_cons (pv 0) pa_nil))) pa_nil))))), ?_⟩
    case hcl =>
      intro x c h
      have hm := PySem.mem_of_lookup h
      rcases List.mem_cons.mp hm with e | hm
      · cases e; rfl
      · rcases List.mem_cons.mp hm with e | hm
        · cases e; rfl
        · cases hm
    case hfr =>
      intro x e
      have hx : x ∈ (["roads", "frost"] : List Str) := free_in (by decide +kernel) x e
      rcases List.mem_cons.mp hx with rfl | hx
      · exact ⟨_, rfl⟩
      · rw [List.mem_singleton.mp hx]
        exact ⟨_, rfl⟩
    case hys =>
      intro i y e
      match i, e with
      | 0, e =>
        have e : ("roads" : Str) = y := Option.some.inj e
        subst e
        exact ⟨rfl, rfl, rfl, 0, rfl, rfl⟩
      | 1, e =>
        have e : ("frost" : Str) = y := Option.some.inj e
        subst e
        exact ⟨rfl, rfl, rfl, 2, rfl, rfl⟩
      | i + 2, e => cases e
    case hbind => exact fun pm ctv v c' => rfl
    have hps : ps.length = ts.length := hT.1
    obtain ⟨ps0, eP, _⟩ := id hTab
    refine ⟨_, rfl, l, _, rfl, SqL.of hl, by rw [List.length_map, hps]; exact hne, hTab, fun i => keyL (keyMost a fr (ts.getD i (tripFrom 0))), fun i y H' hy hk => ?_, fun y H' hy hk hTab' => ?_⟩
    · obtain ⟨tp, htp, rfl⟩ : ∃ tp, ps[i]? = some tp ∧ y = V.ref tp := by
        rw [List.getElem?_map] at hy
        cases e : ps[i]? with
        | none => rw [e] at hy; cases hy
        | some z => rw [e] at hy; exact ⟨z, rfl, (Option.some.inj hy).symm⟩
      have hil : i < ts.length := by rw [← hps]; exact (List.getElem?_eq_some_iff.mp htp).1
      obtain ⟨t, ht⟩ : ∃ t, ts[i]? = some t := ⟨_, List.getElem?_eq_getElem hil⟩
      have hTr : TripAt CT CP H' tp t := trips_but eP hk (hT.2 i tp t htp ht)
      have eg : ts.getD i (tripFrom 0) = t := by rw [List.getD_eq_getElem?_getD, ht]; rfl
      have hp := hpl t (List.mem_of_getElem? ht)
      refine ⟨_, rfl, _, rfl, tp, t, fr, rfl, hTr, hp.2, fun H2 s2 => ⟨_, rfl, _, rfl, _, rfl, ra, ls, d, tp, a, t, rfl, (roads_but eP hk R).same s2, hTr.same s2, hp.1, fun H3 s3 => ⟨(by show 2 ≤ sizeLine; decide), fun p hp => ⟨(s2.trans s3).trans (Same.laid hp), p, rfl, ?_⟩⟩⟩⟩
      show SqT _ _ p (List.map V.int (keyL (keyMost a fr (ts.getD i (tripFrom 0)))))
      rw [eg]
      exact .inl (.inl upd_same)
    · rw [List.length_map, hps] at hy
      rw [List.getElem?_map] at hy
      cases e : ps[argLt (fun i => keyL (keyMost a fr (ts.getD i (tripFrom 0)))) (ts.length - 1)]? with
      | none => rw [e] at hy; cases hy
      | some tp =>
        rw [e] at hy
        have hy : V.ref tp = y := Option.some.inj hy
        subst hy
        have eb := argLt_best (keyMost a fr) (tripFrom 0) hne
        cases eb2 : bestT (keyMost a fr) ts with
        | none =>
          rw [eb2] at eb
          have h1 := (List.getElem?_eq_some_iff.mp e).1
          rw [List.getElem?_eq_none_iff] at eb
          omega
        | some t =>
          rw [eb2] at eb
          exact k H' tp t hk hTab' eb2 (trips_but eP hk (hT.2 _ tp t e eb))
theorem scColdTrips : FnScope ["trips", "frost", "trip"] ["trips", "frost"] (defScope sColdTrips) := ⟨rfl, rfl, rfl, by decide +kernel, rfl, by decide +kernel, by decide +kernel⟩
theorem blkColdTrips : BlkOk ["trips", "frost", "trip"] (defScope sColdTrips) (lcScope (defBody sColdTrips)) [("trip", 2)] := ⟨rfl, by decide +kernel, by decide +kernel, by decide +kernel, by decide +kernel⟩
theorem ok_coldTrips {f f1 : Addr} {fd fd1 : FuncData} (F : Fun K "cold_trips" "cold_trips" sColdTrips f fd)
    (m1 : mg "frost_needed" = some (.ref f1)) (k1 : PySem.W.keepIn K (.ref f1) = true) (G1 : FnOk P w K mg base CX0 1 f1 fd1 ["trip"] (spFrostNeeded CT CP)) (b1 : Binds K fd1 ["trip"] []) :
    FnOk P w K mg base CX0 2 f fd ["trips", "frost"] (spColdTrips CT CP) := by
  refine F.ok scColdTrips (fun vs H Q E h => ?_) (fun cdv A outer s H vs Q E hr h => ?_)
  · obtain ⟨l, ps, ts, fr, rfl, _⟩ := h
    rfl
  · obtain ⟨l, ps, ts, fr, rfl, hl, hT, hlen, hdr, k⟩ := h
    refine ⟨_, pss_one (ps_ret (pe_lc (own := [("trip", 2)]) rfl scColdTrips.nd (pi_list (pv 0)) blkColdTrips
      (fun _ _ _ _ _ => pg_name (i := 2) scColdTrips.nd rfl (Or.inl rfl)) (fun _ _ _ _ _ => pts_one (pt_cmpR op_le (pe_call G1 hr rfl m1 k1 b1 .nil pass0 (pa_cons (pv 2) pa_nil)) (pv 1) (nomark _))) (fun _ _ _ _ _ => pv 2))), ?_⟩
    refine ⟨_, rfl, l, rfl, ⟨_, SqL.of hl⟩, fun D hD => ?_⟩
    refine lc_list (K := K) (a := l) (xs := ps.map V.ref) (fun i H' => Same H H' ∧ ∃ acc : List Addr, H' D = some (.lst (acc.map V.ref)) ∧ TripsAt CT CP H acc ((ts.take i).filter fun t => decide (t.need ≤ fr))) ⟨Same.laid hD, [], upd_same, TripsAt.nil⟩ (fun i H' _ h => Same.seq h.1 (SqL.of hl)) ?_ ?_
    · rintro i y H' hi ⟨s2, acc, hD', hA⟩
      obtain ⟨tp, htp, rfl⟩ : ∃ tp, ps[i]? = some tp ∧ y = V.ref tp := by
        rw [List.getElem?_map] at hi
        cases e : ps[i]? with
        | none => rw [e] at hi; cases hi
        | some z => rw [e] at hi; exact ⟨z, rfl, (Option.some.inj hi).symm⟩
      have hil : i < ts.length := by rw [← hT.1]; exact (List.getElem?_eq_some_iff.mp htp).1
      obtain ⟨t, ht⟩ : ∃ t, ts[i]? = some t := ⟨_, List.getElem?_eq_getElem hil⟩
      have hTr : TripAt CT CP H tp t := hT.2 i tp t htp ht
      refine ⟨rfl, _, rfl, tp, t, rfl, hTr.same s2, hdr t (List.mem_of_getElem? ht), fun H3 s3 => ⟨_, rfl, _, _, rfl, rfl, _, rfl, ?_⟩⟩
      have s2 := s2.trans s3
      have hD' := s3 _ _ hD'
      refine ite2 (fun e => ?_) fun e => ?_
      · have e : (t.need : Int) ≤ (fr : Int) := of_decide_eq_true e
        have e' : t.need ≤ fr := by omega
        refine ⟨_, rfl, _, hD', ?_, fun b o q => ?_, acc ++ [tp], ?_, ?_⟩
        · rw [List.length_map, hA.1]
          have h1 := List.length_filter_le (fun t : Tr => decide (t.need ≤ fr)) (ts.take i)
          have h2 : (ts.take i).length ≤ 100000 := by rw [List.length_take]; omega
          rw [sizeLine_eq]; omega
        · rw [upd_ne (fun z => by rw [z, hD] at q; cases q)]
          exact s2 b o q
        · rw [upd_same, List.map_append]
          rfl
        · rw [take_snoc ht, List.filter_append, List.filter_cons, if_pos (decide_eq_true e'), List.filter_nil]
          exact hA.snoc hTr
      · have e' : ¬ t.need ≤ fr := fun q => e (decide_eq_true (by omega))
        refine ⟨s2, acc, hD', ?_⟩
        rw [take_snoc ht, List.filter_append, List.filter_cons, if_neg (by simpa using e'), List.filter_nil, List.append_nil]
        exact hA
    · rintro H' ⟨s2, acc, hD', hA⟩
      rw [List.length_map, hT.1, List.take_length] at hA
      exact k H' D acc s2 hD' (hA.same s2)
end
end CD
end

section
set_option Elab.async false
set_option linter.all false
namespace CD
/-! ### the trips and the specification's words -/
def iterN (g : List Tr → List Tr) : Nat → List Tr → List Tr
  | 0, ts => ts
  | i + 1, ts => iterN g i (g ts)
theorem iterN_succ (g : List Tr → List Tr) : ∀ (i : Nat) (ts : List Tr), iterN g (i + 1) ts = g (iterN g i ts)
  | 0, ts => rfl
  | i + 1, ts => by
    show iterN g (i + 1) (g ts) = g (iterN g i (g ts))
    exact iterN_succ g i (g ts)
theorem allIter_eq (a : Su75.Abs) (x : Nat) (row : List Nat) : ∀ i, allIter a x row i = iterN (allStep a row) i [tripFrom x]
  | 0 => rfl
  | i + 1 => by
    rw [iterN_succ, ← allIter_eq a x row i]
    rfl
theorem iterN_flat (a : Su75.Abs) (row : List Nat) : ∀ (i : Nat) (ts : List Tr), iterN (allStep a row) i ts = ts.flatMap fun t => iterN (allStep a row) i [t]
  | 0, ts => by
    show ts = ts.flatMap fun t => [t]
    induction ts with
    | nil => rfl
    | cons t ts ih => rw [List.flatMap_cons, ← ih]; rfl
  | i + 1, ts => by
    have e : ∀ t, allStep a row [t] = nexts a row t := fun t => by
      show nexts a row t ++ [] = _
      rw [List.append_nil]
    show iterN (allStep a row) i (ts.flatMap (nexts a row)) = ts.flatMap fun t => iterN (allStep a row) i (allStep a row [t])
    rw [iterN_flat a row i (ts.flatMap (nexts a row)), List.flatMap_assoc]
    congr 1
    funext t
    rw [e, ← iterN_flat a row i (nexts a row t)]
theorem flatMap_eq {α β : Type} : ∀ (m : List α) (F G : α → List β), (∀ x ∈ m, F x = G x) → m.flatMap F = m.flatMap G
  | [], _, _, _ => rfl
  | x :: m, F, G, h => by
    rw [List.flatMap_cons, List.flatMap_cons, h x (.head _), flatMap_eq m F G fun y hy => h y (.tail _ hy)]
theorem orders_zero (l : List Nat) : Su75.orders 0 l = [[]] := rfl
theorem iter_orders (a : Su75.Abs) (row : List Nat) (hn : row.Nodup) : ∀ (i : Nat) (t : Tr) (l : List Nat), l = row.filter (fun n => !t.row.contains n) → l.length = i →
    iterN (allStep a row) i [t] = (Su75.orders i l).map fun r => r.foldl (tripWith a) t
  | 0, t, l, hl, h0 => rfl
  | i + 1, t, l, hl, h0 => by
    have hne : l.isEmpty = false := by
      cases l with
      | nil => simp at h0
      | cons _ _ => rfl
    have hnl : l.Nodup := by rw [hl]; exact hn.filter _
    show iterN (allStep a row) i (allStep a row [t]) = _
    rw [iterN_flat]
    have e1 : allStep a row [t] = l.map (tripWith a t) := by
      show nexts a row t ++ [] = _
      rw [List.append_nil]
      unfold nexts
      rw [← hl]
    rw [e1, List.flatMap_map]
    show _ = List.map _ (if l.isEmpty then [[]] else l.flatMap fun x => (Su75.orders i (l.filter fun y => y != x)).map fun r => x :: r)
    rw [if_neg (by rw [hne]; exact Bool.false_ne_true), List.map_flatMap]
    have key : ∀ x ∈ l, iterN (allStep a row) i [tripWith a t x] = List.map (fun r => r.foldl (tripWith a) t) ((Su75.orders i (l.filter fun y => y != x)).map fun r => x :: r) := fun x hx => by
      rw [iter_orders a row hn i (tripWith a t x) (l.filter fun y => y != x) ?_ ?_, List.map_map]
      · rfl
      · rw [hl, List.filter_filter]
        refine List.filter_congr fun y _ => ?_
        show _ = !(t.row ++ [x]).contains y
        rw [List.contains_append, Bool.not_or]
        have e : (!([x] : List Nat).contains y) = (y != x) := by
          show (!(y == x || false)) = !(y == x)
          rw [Bool.or_false]
        rw [e, Bool.and_comm]
      · have e := List.Nodup.erase_eq_filter hnl x
        have e2 : l.filter (fun y => y != x) = l.erase x := e.symm
        rw [e2, List.length_erase_of_mem hx, h0]
        rfl
    exact flatMap_eq l _ _ key
theorem allTrips_orders (a : Su75.Abs) (x : Nat) {row : List Nat} (hn : row.Nodup) : allTrips a x row = (Su75.orders row.length row).map (tripAlong a x) := by
  unfold allTrips
  rw [allIter_eq]
  refine iter_orders a row hn row.length (tripFrom x) row ?_ rfl
  symm
  rw [List.filter_eq_self]
  intro y _
  rfl
/-! ### need, home, good of a row -/
theorem needs_with (a : Su75.Abs) (t : Tr) (s : Nat) : (tripWith a t s).needs = t.needs ++ [t.lost + a.mins t.place (s + 1) * a.run + (a.halt_ s).want] := by
  unfold tripWith Tr.needs
  rw [List.map_append]
  rfl
theorem drops_goes (a : Su75.Abs) : ∀ (row : List Nat) (t : Tr), (row.foldl (tripWith a) t).drops.map (fun x => (x.minutes, x.lost)) = t.drops.map (fun x => (x.minutes, x.lost)) ++ a.goes t.place t.minutes t.lost row
  | [], t => by
    show _ = _ ++ []
    rw [List.append_nil]
    rfl
  | s :: r, t => by
    rw [List.foldl_cons, drops_goes a r (tripWith a t s)]
    show (t.drops ++ [_]).map _ ++ _ = _ ++ (_ :: _)
    rw [List.map_append, List.append_assoc]
    rfl
theorem along_drops (a : Su75.Abs) (x : Nat) (row : List Nat) : (tripAlong a x row).drops.map (fun x => (x.minutes, x.lost)) = a.drops x row := by
  unfold tripAlong Su75.Abs.drops
  rw [drops_goes]
  rfl
theorem needs_goes (a : Su75.Abs) : ∀ (row : List Nat) (t : Tr), (row.foldl (tripWith a) t).needs = t.needs ++ ((row.zip (a.goes t.place t.minutes t.lost row)).map fun y => (a.halt_ y.1).want + y.2.2)
  | [], t => by simp
  | s :: r, t => by
    rw [List.foldl_cons, needs_goes a r (tripWith a t s), needs_with]
    show (t.needs ++ [t.lost + a.mins t.place (s + 1) * a.run + (a.halt_ s).want]) ++ _ = t.needs ++ (((a.halt_ s).want + (t.lost + a.mins t.place (s + 1) * a.run)) :: _)
    rw [List.append_assoc, Nat.add_comm (a.halt_ s).want]
    rfl
theorem time_goes (a : Su75.Abs) : ∀ (row : List Nat) (t : Tr), ((row.zip (a.goes t.place t.minutes t.lost row)).map fun y => y.2.1 + (a.halt_ y.1).hold).foldl max t.minutes = (row.foldl (tripWith a) t).minutes
  | [], t => rfl
  | s :: r, t => by
    rw [List.foldl_cons]
    have ih := time_goes a r (tripWith a t s)
    rw [← ih]
    show List.foldl max (max t.minutes (t.minutes + a.mins t.place (s + 1) + (a.halt_ s).hold)) _ = List.foldl max (t.minutes + a.mins t.place (s + 1) + (a.halt_ s).hold) _
    rw [Nat.max_eq_right (by omega)]
    rfl
theorem place_goes (a : Su75.Abs) : ∀ (row : List Nat) (t : Tr), (row.foldl (tripWith a) t).place = (row.getLast?.map fun s => s + 1).getD t.place
  | [], t => rfl
  | s :: r, t => by
    rw [List.foldl_cons, place_goes a r (tripWith a t s)]
    rw [List.getLast?_cons]
    cases r.getLast? <;> rfl
theorem along_need (a : Su75.Abs) (x : Nat) (row : List Nat) : (tripAlong a x row).need = a.need x row := by
  unfold Tr.need tripAlong Su75.Abs.need Su75.Abs.drops
  rw [needs_goes]
  rfl
theorem along_home (a : Su75.Abs) (x : Nat) (row : List Nat) : (tripAlong a x row).home a = a.home x row := by
  unfold Tr.home tripAlong Su75.Abs.home Su75.Abs.time Su75.Abs.drops
  rw [place_goes, ← time_goes]
  rfl
theorem along_good (a : Su75.Abs) (x f : Nat) (row : List Nat) : (tripAlong a x row).good f = a.good x f row := by
  unfold Tr.good tripAlong Su75.Abs.good Su75.Abs.drops
  rw [needs_goes]
  show (List.filter _ ([] ++ _)).length = _
  rw [List.nil_append, List.filter_map, List.length_map]
  rfl
/-! ### the best row -/
def ltN (x y : Nat × Nat) : Bool := decide (x.1 < y.1 ∨ (x.1 = y.1 ∧ x.2 < y.2))
theorem best_map {key : Tr → Int × Int} {g : List Nat → Tr} {fk : List Nat → Nat × Nat} : ∀ (L : List (List Nat)) (b : Option (List Nat)), (∀ w ∈ L, ∀ v, (v ∈ L ∨ b = some v) → ltK (key (g w)) (key (g v)) = ltN (fk w) (fk v)) →
    (L.map g).foldl (betterT key) (b.map g) = (L.foldl (fun b w => match b with
      | none => some w
      | some v => if (fk w).1 < (fk v).1 ∨ ((fk w).1 = (fk v).1 ∧ (fk w).2 < (fk v).2) then some w else some v) b).map g
  | [], b, _ => rfl
  | w :: L, b, h => by
    rw [List.map_cons, List.foldl_cons, List.foldl_cons]
    cases b with
    | none => exact best_map (key := key) (g := g) (fk := fk) L (some w) fun u hu v hv => h u (.tail _ hu) v (.inl (by
        rcases hv with hv | hv
        · exact .tail _ hv
        · cases hv; exact .head _))
    | some v =>
      have e := h w (.head _) v (.inr rfl)
      show List.foldl (betterT key) (if ltK (key (g w)) (key (g v)) = true then some (g w) else some (g v)) (L.map g) = _
      rw [e]
      unfold ltN
      by_cases c : (fk w).1 < (fk v).1 ∨ ((fk w).1 = (fk v).1 ∧ (fk w).2 < (fk v).2)
      · rw [if_pos (decide_eq_true c)]
        simp only [if_pos c]
        exact best_map (key := key) (g := g) (fk := fk) L (some w) fun u hu z hz => h u (.tail _ hu) z (.inl (by
          rcases hz with hz | hz
          · exact .tail _ hz
          · cases hz; exact .head _))
      · rw [if_neg (by simpa using c)]
        simp only [if_neg c]
        exact best_map (key := key) (g := g) (fk := fk) L (some v) fun u hu z hz => h u (.tail _ hu) z (by
          rcases hz with hz | hz
          · exact .inl (.tail _ hz)
          · exact .inr hz)
theorem best_least {key : Tr → Int × Int} {g : List Nat → Tr} {fk : List Nat → Nat × Nat} {L : List (List Nat)} (h : ∀ w ∈ L, ∀ v ∈ L, ltK (key (g w)) (key (g v)) = ltN (fk w) (fk v)) : bestT key (L.map g) = (Su75.leastBy fk L).map g :=
  best_map L none fun w hw v hv => h w hw v (by
    rcases hv with hv | hv
    · exact hv
    · cases hv)
theorem orders_len : ∀ (n : Nat) (l w : List Nat), w ∈ Su75.orders n l → w.length ≤ n
  | 0, l, w, h => by
    have h : w = [] := List.mem_singleton.mp h
    rw [h]; exact Nat.le_refl _
  | n + 1, l, w, h => by
    have h : w ∈ (if l.isEmpty then [[]] else l.flatMap fun x => (Su75.orders n (l.filter fun y => y != x)).map fun r => x :: r) := h
    split at h
    · have h : w = [] := List.mem_singleton.mp h
      rw [h]; exact Nat.zero_le _
    · obtain ⟨x, _, h2⟩ := List.mem_flatMap.mp h
      obtain ⟨r, h3, rfl⟩ := List.mem_map.mp h2
      have := orders_len n _ r h3
      rw [List.length_cons]; omega
theorem good_le (a : Su75.Abs) (x f : Nat) (w : List Nat) : a.good x f w ≤ w.length := by
  unfold Su75.Abs.good
  refine Nat.le_trans (List.length_filter_le ..) ?_
  rw [List.length_zip]
  omega
theorem best_mild (a : Su75.Abs) (x : Nat) {row : List Nat} (hn : row.Nodup) : bestT (keyMild a) (allTrips a x row) = (Su75.leastBy (fun w => (a.need x w, a.home x w)) (Su75.orders row.length row)).map (tripAlong a x) := by
  rw [allTrips_orders a x hn]
  refine best_least fun w _ v _ => ?_
  unfold ltK ltN keyMild
  rw [along_need, along_need, along_home, along_home]
  simp only [decide_eq_decide]
  omega
theorem best_most (a : Su75.Abs) (f : Nat) {row : List Nat} (hn : row.Nodup) : bestT (keyMost a f) (allTrips a 0 row) = (Su75.leastBy (fun w => (row.length - a.good 0 f w, a.home 0 w)) (Su75.orders row.length row)).map (tripAlong a 0) := by
  rw [allTrips_orders a 0 hn]
  refine best_least fun w hw v hv => ?_
  have h1 := orders_len _ _ w hw
  have h2 := orders_len _ _ v hv
  have h3 := good_le a 0 f w
  have h4 := good_le a 0 f v
  unfold ltK ltN keyMost
  rw [along_good, along_good, along_home, along_home]
  simp only [decide_eq_decide]
  omega
theorem best_quick (a : Su75.Abs) (x f : Nat) {row : List Nat} (hn : row.Nodup) : bestT (keyQuick a) ((allTrips a x row).filter fun t => decide (t.need ≤ f)) = (a.quick x f row).map (tripAlong a x) := by
  rw [allTrips_orders a x hn, List.filter_map]
  have e : ((fun t : Tr => decide (t.need ≤ f)) ∘ tripAlong a x) = fun w => decide (a.need x w ≤ f) := by
    funext w
    show decide ((tripAlong a x w).need ≤ f) = _
    rw [along_need]
  rw [e]
  refine best_least fun w _ v _ => ?_
  unfold ltK ltN keyQuick
  rw [along_need, along_need, along_home, along_home]
  simp only [decide_eq_decide]
  omega
end CD
end

section
set_option Elab.async false
set_option linter.all false
set_option maxRecDepth 100000
set_option maxHeartbeats 4000000
namespace CD
open PySem PySem.Spec PyProof.Rows L2

abbrev sWithin : Stmt := top 42
abbrev sD (j : Nat) : Stmt := inClass (top 43) j

/-! ### the depot -/
structure Foot where
  ra : Addr
  ls : Addr
  d : Addr
  lu : Addr
  bk : Addr
  ld : Addr
def fDepot (b : Bool) (F : Foot) (a : Su75.Abs) : List (Str × V) := [("begun", .bl b), ("roads", .ref F.ra), ("room", vn a.room), ("minute", vn a.now_), ("place", vn a.place), ("frost", vn a.frost), ("undelivered", .ref F.lu), ("book", .ref F.bk)]
def Foot.all (F : Foot) (dp : Addr) : List Addr := [dp, F.ra, F.ls, F.d, F.lu, F.bk, F.ld]
/-- all kept but what lies at P -/
def But (P : Addr) (H H' : Hp) : Prop := ∀ b o, H b = some o → b ≠ P → H' b = some o
theorem But.of_same {P : Addr} {H H' : Hp} (e : Same H H') : But P H H' := fun b o h _ => e b o h
theorem But.trans {P : Addr} {H H1 H2 : Hp} (a : But P H H1) (b : But P H1 H2) : But P H H2 := fun x o h hx => b x o (a x o h hx) hx
theorem But.free {P : Addr} {H H' : Hp} {x : Addr} (a : But P H H') (h : H' x = none) (hx : x ≠ P) : H x = none := by
  cases e : H x with
  | none => rfl
  | some o => rw [a x o e hx] at h; cases h
/-! ### the book -/
def fDone (lit : Nat) (x : Su75.Drop) : List (Str × V) := [("number", vn x.halt_), ("litres", vn lit), ("minute", vn x.at_), ("frost", vn x.frost), ("too_warm", vn x.short)]
def DoneAt (CN : Addr) (a : Su75.Abs) (H : Hp) (p : Addr) (x : Su75.Drop) : Prop := ∃ dx, H p = some (.ins CN dx (fDone (a.halt_ x.halt_).litres x))
def fBook (n : Nat) (ld : Addr) : List (Str × V) := [("loads", vn n), ("done_drops", .ref ld)]
structure BookAt (CB CN : Addr) (H : Hp) (bk ld : Addr) (a : Su75.Abs) : Prop where
  ins : ∃ dx, H bk = some (.ins CB dx (fBook a.trips ld))
  lst : ∃ ds : List Addr, H ld = some (.lst (ds.map V.ref)) ∧ Each (DoneAt CN a H) ds a.done
theorem BookAt.but {CB CN : Addr} {H H' : Hp} {bk ld x : Addr} {a : Su75.Abs} (B : BookAt CB CN H bk ld a) (k : But x H H') (n1 : bk ≠ x) (n2 : ld ≠ x) (n3 : ∀ p dx lit y, H p = some (.ins CN dx (fDone lit y)) → p ≠ x) : BookAt CB CN H' bk ld a := by
  obtain ⟨⟨dx, h1⟩, ⟨ds, h2, h3⟩⟩ := B
  exact ⟨⟨dx, k _ _ h1 n1⟩, ⟨ds, k _ _ h2 n2, h3.mono fun p y _ ⟨dy, q⟩ => ⟨dy, k _ _ q (n3 _ _ _ _ q)⟩⟩⟩
theorem BookAt.same {CB CN : Addr} {H H' : Hp} {bk ld : Addr} {a : Su75.Abs} (e : Same H H') (B : BookAt CB CN H bk ld a) : BookAt CB CN H' bk ld a := by
  obtain ⟨⟨dx, h1⟩, ⟨ds, h2, h3⟩⟩ := B
  exact ⟨⟨dx, e _ _ h1⟩, ⟨ds, e _ _ h2, h3.mono fun p y _ ⟨dy, q⟩ => ⟨dy, e _ _ q⟩⟩⟩
/-- another a of the same book -/
theorem BookAt.as {CB CN : Addr} {H : Hp} {bk ld : Addr} {a a' : Su75.Abs} (B : BookAt CB CN H bk ld a) (e1 : a'.trips = a.trips) (e2 : a'.done = a.done) (e3 : ∀ x ∈ a.done, a'.halt_ x.halt_ = a.halt_ x.halt_) : BookAt CB CN H bk ld a' := by
  obtain ⟨h1, ⟨ds, h2, h3⟩⟩ := B
  refine ⟨by rw [e1]; exact h1, ⟨ds, h2, ?_⟩⟩
  rw [e2]
  exact h3.mono fun p y hy ⟨dy, q⟩ => ⟨dy, by rw [e3 y hy]; exact q⟩
/-- what lies at x is of no kind that the book has -/
def NotBook : HO → Prop
  | .ins _ _ fs => fs.length ≠ 2 ∧ fs.length ≠ 5
  | .lst _ => False
  | _ => True
theorem BookAt.kind {CB CN : Addr} {H H' : Hp} {bk ld x : Addr} {a : Su75.Abs} {o : HO} (B : BookAt CB CN H bk ld a) (k : But x H H') (hx : H x = some o) (ho : NotBook o) : BookAt CB CN H' bk ld a := by
  obtain ⟨⟨dx, h1⟩, ⟨ds, h2, h3⟩⟩ := id B
  refine B.but k ?_ ?_ fun p dx lit y q => ?_
  · exact ne_of h1 hx fun z => by subst z; exact ho.1 rfl
  · exact ne_of h2 hx fun z => by subst z; exact ho
  · exact ne_of q hx fun z => by subst z; exact ho.2 rfl
structure AbsOk (a : Su75.Abs) : Prop where
  to_ : ∀ s ∈ a.to_, s < a.stops.length
  nd : a.to_.Nodup
  six : a.to_.length ≤ 6
  pl : a.place ≤ a.stops.length
  wl : a.way.length = a.stops.length + 1
  wr : ∀ r ∈ a.way, r.length = a.stops.length + 1
  dn : ∀ x ∈ a.done, x.halt_ < a.stops.length
structure DepotAt (CS CR CD CB CN : Addr) (H : Hp) (dp : Addr) (F : Foot) (b : Bool) (a : Su75.Abs) : Prop where
  ins : ∃ dx, H dp = some (.ins CD dx (fDepot b F a))
  roads : RoadsAt CS CR H F.ra F.ls F.d a
  und : H F.lu = some (.lst (vns a.to_))
  ok : AbsOk a
  ap : F.lu ≠ F.ls
  book : BookAt CB CN H F.bk F.ld a
  ap2 : F.ld ≠ F.ls
  ap3 : F.ld ≠ F.lu
  run1 : b = true → 0 < a.run
theorem DepotAt.same {CS CR CD CB CN : Addr} {H H' : Hp} {dp : Addr} {F : Foot} {b : Bool} {a : Su75.Abs} (e : Same H H') (D : DepotAt CS CR CD CB CN H dp F b a) : DepotAt CS CR CD CB CN H' dp F b a :=
  let ⟨⟨dx, h1⟩, h2, h3, h4, h5, h6, h7, h8, h9⟩ := D; ⟨⟨dx, e _ _ h1⟩, h2.same e, e _ _ h3, h4, h5, h6.same e, h7, h8, h9⟩
/-- what a call leaves: all that's not the depot's own; the depot's own places are old or new -/
def Kp (H H' : Hp) (own own' : List Addr) : Prop := (∀ b o, H b = some o → b ∉ own → H' b = some o) ∧ ∀ b ∈ own', b ∈ own ∨ H b = none
theorem Kp.of_same {H H' : Hp} {own : List Addr} (e : Same H H') : Kp H H' own own := ⟨fun b o h _ => e b o h, fun b h => .inl h⟩
theorem Kp.trans {H H1 H2 : Hp} {o1 o2 o3 : List Addr} (a : Kp H H1 o1 o2) (b : Kp H1 H2 o2 o3) (h0 : ∀ x, x ∈ o2 → x ∈ o1 ∨ H x = none := a.2) : Kp H H2 o1 o3 := by
  refine ⟨fun x o h hx => b.1 x o (a.1 x o h hx) fun h2 => ?_, fun x hx => ?_⟩
  · rcases h0 x h2 with z | z
    · exact hx z
    · rw [h] at z; cases z
  · rcases b.2 x hx with z | z
    · exact h0 x z
    · by_cases q : x ∈ o1
      · exact .inl q
      · right
        cases e : H x with
        | none => rfl
        | some o => rw [a.1 x o e q] at z; cases z

structure TD (K : PySem.W.Frag) (mg : Str → Option Value) (CD CB CN : Addr) : Prop where
  cl : Cls K CD
  n1 : NoAttr K CD "begun"
  n2 : NoAttr K CD "roads"
  n3 : NoAttr K CD "room"
  n4 : NoAttr K CD "minute"
  n5 : NoAttr K CD "place"
  n6 : NoAttr K CD "frost"
  n7 : NoAttr K CD "undelivered"
  n8 : NoAttr K CD "book"
  clB : Cls K CB
  nB1 : NoAttr K CB "loads"
  nB2 : NoAttr K CB "done_drops"
  mgB : mg "Book" = some (.ref CB)
  clN : Cls K CN
  nN1 : NoAttr K CN "number"
  nN2 : NoAttr K CN "litres"
  nN3 : NoAttr K CN "minute"
  nN4 : NoAttr K CN "frost"
  nN5 : NoAttr K CN "too_warm"
  mgN : mg "DoneDrop" = some (.ref CN)
  mgD : mg "Depot" = some (.ref CD)
  i2 : ∃ t, mg "NONE_SUCH" = some (.int (-2) t)
  i6 : ∃ t, mg "NOTHING" = some (.int (-6) t)
  i11 : ∃ t, mg "NOT_BEGUN" = some (.int (-11) t)
  i16 : ∃ t, mg "NOT_NOW" = some (.int (-16) t)
  i17 : ∃ t, mg "SO_ALREADY" = some (.int (-17) t)
  i22 : ∃ t, mg "OUT_OF_RANGE" = some (.int (-22) t)
  i28 : ∃ t, mg "TOO_MANY" = some (.int (-28) t)
  i33 : ∃ t, mg "CANNOT_BE" = some (.int (-33) t)
  c20 : ∃ t, mg "MOST_WAY_LOSS" = some (.int 20 t)
  c100 : ∃ t, mg "MOST_DOOR_LOSS" = some (.int 100 t)
  c100000 : ∃ t, mg "MOST_ROOM" = some (.int 100000 t)
  c120 : ∃ t, mg "MOST_DOOR_MINUTES" = some (.int 120 t)
  cF : ∃ t, mg "MOST_FROST" = some (.int 600 t)
  cL : ∃ t, mg "MOST_LITRES" = some (.int 10000 t)
  cM : ∃ t, mg "MOST_MINUTES" = some (.int 600 t)
  c6 : ∃ t, mg "LONGEST_ROW" = some (.int 6 t)
  c7 : ∃ t, mg "MOST_STOPS" = some (.int 7 t)
  cB : ∃ t, mg "BEGIN" = some (.int 0 t)
  set_ : mg "set" = none
  sum_ : mg "sum" = none
  list_ : mg "list" = none

theorem nodup_cast : ∀ (l : List Nat), (l.map fun n : Nat => (n : Int)).Nodup ↔ l.Nodup
  | [] => by simp
  | n :: l => by
    rw [List.map_cons, List.nodup_cons, List.nodup_cons, nodup_cast l]
    have e : (n : Int) ∈ (l.map fun n : Nat => (n : Int)) ↔ n ∈ l := by
      rw [List.mem_map]
      constructor
      · rintro ⟨m, hm, e⟩
        have : m = n := by omega
        rw [← this]; exact hm
      · intro h
        exact ⟨n, h, rfl⟩
    rw [e]
def spWithin : Sp := fun vs H Q _ => ∃ v lo hi : Nat, vs = [vn v, vn lo, vn hi] ∧ Q (.bl (decide (lo ≤ v ∧ v ≤ hi))) H
/-- row_refusal: 0, -22 or -2 -/
def spRowRef (CS CR CD CB CN : Addr) (K : PySem.W.Frag) : Sp := fun vs H Q _ => ∃ (dp lr : Addr) (F : Foot) (b : Bool) (a : Su75.Abs) (row : List Nat), vs = [.ref dp, .ref lr] ∧ DepotAt CS CR CD CB CN H dp F b a ∧ SqL K H lr (vns row) ∧ row.length ≤ 10 ∧
  ∀ H', Same H H' → Q (.int (a.bad row)) H'
def spFrostRow (CS CR CD CB CN : Addr) (K : PySem.W.Frag) : Sp := fun vs H Q _ => ∃ (dp lr : Addr) (F : Foot) (b : Bool) (a : Su75.Abs) (f : Nat) (row : List Nat), vs = [.ref dp, vn f, .ref lr] ∧ DepotAt CS CR CD CB CN H dp F b a ∧ SqL K H lr (vns row) ∧ row.length ≤ 10 ∧
  ∀ H', Same H H' → Q (.int (if a.bad row ≠ 0 then a.bad row else if 600 < f then -22 else 0)) H'
section
variable {P : Program} {w : World} {K : PySem.W.Frag} {mg : Str → Option Value} {base : Heap} {CS CR CT CP CD CB CN : Addr}
theorem scWithin : FnScope ["value", "least", "most"] ["value", "least", "most"] (defScope sWithin) := ⟨rfl, rfl, rfl, by decide +kernel, rfl, by decide +kernel, by decide +kernel⟩
theorem ok_within {f : Addr} {fd : FuncData} (F : Fun K "within" "within" sWithin f fd) : FnOk P w K mg base CX0 1 f fd ["value", "least", "most"] spWithin := by
  refine F.ok scWithin (fun vs H Q E h => ?_) (fun cdv A outer s H vs Q E hr h => ?_)
  · obtain ⟨v, lo, hi, rfl, _⟩ := h
    rfl
  · obtain ⟨v, lo, hi, rfl, k⟩ := h
    refine ⟨_, pss_one (ps_ret (pe_and (pe_cmpR op_le (pv 1) (pv 0) (nomark _)) (pe_one (pe_cmpR op_le (pv 0) (pv 2) (nomark _))))), ?_⟩
    refine ⟨_, rfl, _, rfl, _, _, rfl, rfl, _, rfl, ?_⟩
    refine ite2 (fun e => ?_) fun e => ?_
    · have e : (lo : Int) ≤ (v : Int) := of_decide_eq_true e
      refine ⟨_, rfl, _, rfl, _, _, rfl, rfl, ?_⟩
      have e2 : decide ((v : Int) ≤ (hi : Int)) = decide (lo ≤ v ∧ v ≤ hi) := by rw [decide_eq_decide]; omega
      show Q (V.bl (decide ((v : Int) ≤ (hi : Int)))) H
      rw [e2]
      exact k
    · have e : ¬ (lo : Int) ≤ (v : Int) := fun q => e (decide_eq_true q)
      have e2 : decide (lo ≤ v ∧ v ≤ hi) = false := decide_eq_false (by omega)
      show Q (V.bl false) H
      rw [← e2]
      exact k
theorem scRowRef : FnScope ["self", "row", "number"] ["self", "row"] (defScope (sD 5)) := ⟨rfl, rfl, rfl, by decide +kernel, rfl, by decide +kernel, by decide +kernel⟩
theorem ok_rowRef {f f1 : Addr} {fd fd1 : FuncData} (F : Fun K "row_refusal" "Depot.row_refusal" (sD 5) f fd) (T : TR K mg CS CR CT CP) (D : TD K mg CD CB CN)
    (m1 : Meth K CR "has_stop" f1) (G1 : FnOk P w K mg base CX0 1 f1 fd1 ["self", "number"] (spHasStop CS CR)) (b1 : Binds K fd1 ["self", "number"] []) :
    FnOk P w K mg base CX0 2 f fd ["self", "row"] (spRowRef CS CR CD CB CN K) := by
  obtain ⟨t2, h2⟩ := D.i2
  obtain ⟨t22, h22⟩ := D.i22
  obtain ⟨t6, h6⟩ := D.c6
  refine F.ok scRowRef (fun vs H Q E h => ?_) (fun cdv A outer s H vs Q E hr h => ?_)
  · obtain ⟨dp, lr, F, b, a, row, rfl, _⟩ := h
    rfl
  · obtain ⟨dp, lr, F, b, a, row, rfl, DA, hL, hlen, k⟩ := h
    obtain ⟨dx, hdp⟩ := DA.ins
    obtain ⟨rdx, hra⟩ := DA.roads.ins
    have nd := scRowRef.nd
    refine ⟨_, pss_cons (ps_if (PW.pt (pw_or (pt_cmpR op_gt (pe_callB call_len_seq (by rfl) T.len PySem.boot_len (pa_cons (pv 1) pa_nil)) (pe_glob (v := .int 6) rfl h6 ⟨_, rfl⟩) (nomark _))
        (pw_or1 (pt_cmpR op_lt (pe_callB call_len_setI (by rfl) T.len PySem.boot_len (pa_cons (pe_callTy (call_set_ints rfl) (by rfl) D.set_ (by rfl) (pa_cons (pv 1) pa_nil)) pa_nil)) (pe_callB call_len_seq (by rfl) T.len PySem.boot_len (pa_cons (pv 1) pa_nil)) (nomark _)))))
        (pss_one (ps_ret (pe_glob (v := .int (-22)) rfl h22 ⟨_, rfl⟩))) pss_nil)
      (pss_cons (ps_for PassesOwn.never rfl (pi_list (pv 1)) (pg_name (i := 2) nd rfl (Or.inl rfl))
        (pss_one (ps_if (pt_not (pt_val (pe_meth (pe_fld (pv 0) rfl) T.clR m1 G1 hr b1 .nil pass0 (pa_cons (pv 2) pa_nil)))) (pss_one (ps_ret (pe_glob (v := .int (-2)) rfl h2 ⟨_, rfl⟩))) pss_nil)))
      (pss_one (ps_ret pe_int))), ?_⟩
    have eset : (dedupL (row.map fun n : Nat => (n : Int))).length < row.length ↔ ¬ row.Nodup := by
      have h := dedup_nodup (row.map fun n : Nat => (n : Int))
      rw [List.length_map, nodup_cast] at h
      exact h
    refine ⟨_, rfl, lr, _, rfl, .inl hL, _, _, rfl, rfl, _, rfl, ?_⟩
    refine ite2 (fun e => iteT ?_) fun e => ?_
    · have e : (6 : Int) < ((vns row).length : Nat) := of_decide_eq_true e
      rw [vns_len] at e
      have eb : a.bad row = -22 := if_pos (.inl (show 6 < row.length by omega))
      have q := k H Same.refl
      rw [eb] at q
      exact q
    · have e : ¬ (6 : Int) < ((vns row).length : Nat) := fun q => e (decide_eq_true q)
      rw [vns_len] at e
      refine ⟨_, rfl, lr, row.map fun n : Nat => (n : Int), rfl, (by rw [← vns_ints]; exact hL), (by rw [List.length_map]; show row.length + 1 < 4096; omega), fun p hp => ?_⟩
      have s1 : Same H (upd H p (.set (fun k => (dedupL (row.map fun n : Nat => (n : Int))).any (· == k)) (dedupL (row.map fun n : Nat => (n : Int))).length)) := Same.laid hp
      refine ⟨p, _, _, rfl, upd_same, _, rfl, lr, _, rfl, .inl (s1.seq hL), _, _, rfl, rfl, _, rfl, ?_⟩
      refine ite2 (fun e2 => ?_) fun e2 => ?_
      · have e2 : (((dedupL (row.map fun n : Nat => (n : Int))).length : Nat) : Int) < ((vns row).length : Nat) := of_decide_eq_true e2
        rw [vns_len] at e2
        have eb : a.bad row = -22 := if_pos (.inr (eset.mp (by omega)))
        have q := k _ s1
        rw [eb] at q
        exact q
      · have e2 : ¬ (((dedupL (row.map fun n : Nat => (n : Int))).length : Nat) : Int) < ((vns row).length : Nat) := fun q => e2 (decide_eq_true q)
        rw [vns_len] at e2
        have hnd : row.Nodup := by
          by_cases q : row.Nodup
          · exact q
          · exact absurd (eset.mpr q) (by omega)
        have eb : a.bad row = if row.any (fun s => !(a.isS s)) then -2 else 0 := if_neg (by
          rintro (z | z)
          · exact absurd (show 6 < row.length from z) (by omega)
          · exact z hnd)
        refine ⟨_, rfl, lr, rfl, ⟨_, s1.seq hL⟩, for_list (K := K) (a := lr) (xs := vns row) (fun i σ H' => ∃ v, σ = [some (.ref dp), some (.ref lr), v] ∧ Same H H' ∧ ∀ s ∈ row.take i, a.isS s = true)
          ⟨none, rfl, s1, fun s hs => by simp at hs⟩ (fun i σ H' _ ⟨_, _, s2, _⟩ => s2.seq hL) ?_ ?_⟩
        · rintro i y σ H' hi ⟨v, rfl, s2, hall⟩
          obtain ⟨z, hz, rfl⟩ : ∃ z, row[i]? = some z ∧ y = vn z := by
            rw [List.getElem?_map] at hi
            cases e : row[i]? with
            | none => rw [e] at hi; cases hi
            | some z => rw [e] at hi; exact ⟨z, rfl, (Option.some.inj hi).symm⟩
          refine ⟨_, rfl, dp, CD, dx, _, _, rfl, s2 _ _ hdp, D.cl, D.n2, rfl, F.ra, rdx, _, rfl, s2 _ _ hra, rfl, _, rfl, F.ra, F.ls, F.d, a, z, rfl, DA.roads.same s2, _, rfl, ?_⟩
          refine ite2 (fun e3 => ?_) fun e3 => ?_
          · have e3 : a.isS z = false := by simpa using e3
            have e4 : row.any (fun s => !(a.isS s)) = true := List.any_eq_true.mpr ⟨z, List.mem_of_getElem? hz, by rw [e3]; rfl⟩
            have q := k H' s2
            rw [eb, if_pos e4] at q
            exact q
          · have e3 : a.isS z = true := by simpa using e3
            refine ⟨_, rfl, s2, fun s hs => ?_⟩
            rw [take_snoc hz] at hs
            rcases List.mem_append.mp hs with hs | hs
            · exact hall s hs
            · rw [List.mem_singleton.mp hs]; exact e3
        · rintro σ H' ⟨v, rfl, s2, hall⟩
          rw [vns_len, List.take_length] at hall
          have e4 : row.any (fun s => !(a.isS s)) = false := by
            rw [List.any_eq_false]
            intro s hs
            rw [hall s hs]
            decide
          have q := k H' s2
          rw [eb, e4] at q
          exact q
theorem scFrostRow : FnScope ["self", "frost", "row", "refusal"] ["self", "frost", "row"] (defScope (sD 6)) := ⟨rfl, rfl, rfl, by decide +kernel, rfl, by decide +kernel, by decide +kernel⟩
theorem ok_frostRow {f f1 : Addr} {fd fd1 : FuncData} (F : Fun K "frost_and_row_refusal" "Depot.frost_and_row_refusal" (sD 6) f fd) (D : TD K mg CD CB CN)
    (m1 : Meth K CD "row_refusal" f1) (G1 : FnOk P w K mg base CX0 2 f1 fd1 ["self", "row"] (spRowRef CS CR CD CB CN K)) (b1 : Binds K fd1 ["self", "row"] []) :
    FnOk P w K mg base CX0 3 f fd ["self", "frost", "row"] (spFrostRow CS CR CD CB CN K) := by
  obtain ⟨t22, h22⟩ := D.i22
  obtain ⟨tF, hF⟩ := D.cF
  refine F.ok scFrostRow (fun vs H Q E h => ?_) (fun cdv A outer s H vs Q E hr h => ?_)
  · obtain ⟨dp, lr, F, b, a, f, row, rfl, _⟩ := h
    rfl
  · obtain ⟨dp, lr, F, b, a, f, row, rfl, DA, hL, hlen, k⟩ := h
    obtain ⟨dx, hdp⟩ := DA.ins
    have nd := scFrostRow.nd
    refine ⟨_, pss_cons (ps_set (i := 3) nd rfl (Or.inl rfl) (pe_meth (pv 0) D.cl m1 G1 hr b1 .nil pass0 (pa_cons (pv 2) pa_nil)))
      (pss_cons (ps_if (PW.pt (pw_and (pt_cmpR op_eq (pv 3) pe_int (nomark _)) (pw_and1 (pt_cmpR op_gt (pv 1) (pe_glob (v := .int 600) rfl hF ⟨_, rfl⟩) (nomark _))))) (pss_one (ps_ret (pe_glob (v := .int (-22)) rfl h22 ⟨_, rfl⟩))) pss_nil)
      (pss_one (ps_ret (pv 3)))), ?_⟩
    refine ⟨_, rfl, dp, dx, _, rfl, hdp, rfl, _, rfl, dp, lr, F, b, a, row, rfl, DA, hL, hlen, fun H' s1 => ?_⟩
    have q := k H' s1
    refine ⟨_, rfl, rfl, _, rfl, ?_⟩
    refine ite2 (fun e => ?_) fun e => iteF ?_
    · have e : a.bad row = 0 := by
        have := of_decide_eq_true e
        injection this
      refine ⟨_, rfl, _, _, rfl, rfl, _, rfl, ?_⟩
      rw [if_neg (fun z => z e)] at q
      refine ite2 (fun e2 => ?_) fun e2 => ?_
      · have e2 : (600 : Int) < (f : Int) := of_decide_eq_true e2
        rw [if_pos (by omega)] at q
        exact q
      · have e2 : ¬ (600 : Int) < (f : Int) := fun z => e2 (decide_eq_true z)
        rw [if_neg (by omega)] at q
        refine ⟨_, rfl, ?_⟩
        rw [e]
        exact q
    · have e : a.bad row ≠ 0 := fun z => e (decide_eq_true (by rw [z]))
      rw [if_pos e] at q
      exact ⟨_, rfl, q⟩
end
end CD
end

section
set_option Elab.async false
set_option linter.all false
set_option maxRecDepth 100000
set_option maxHeartbeats 4000000
namespace CD
open PySem PySem.Spec PyProof.Rows L2

def ansV (x : Su75.Ans) : List V := .int x.value :: vns x.out
theorem ansV_no (v : Int) : ansV (Su75.no v) = [.int v] := rfl
theorem ansV_num (n : Nat) (l : List Nat) : ansV (Su75.num n l) = vn n :: vns l := rfl
theorem bad_zero {a : Su75.Abs} {row : List Nat} (h : a.bad row = 0) : row.length ≤ 6 ∧ row.Nodup ∧ ∀ s ∈ row, s < a.stops.length := by
  unfold Su75.Abs.bad at h
  split at h
  · cases h
  · rename_i hn
    split at h
    · cases h
    · rename_i ha
      refine ⟨?_, ?_, fun s hs => ?_⟩
      · by_cases q : Su75.LOAD < row.length
        · exact absurd (.inl q) hn
        · have : ¬ 6 < row.length := q
          omega
      · by_cases q : row.Nodup
        · exact q
        · exact absurd (.inr q) hn
      · have ha : row.any (fun s => !(a.isS s)) = false := by simpa using ha
        have := List.any_eq_false.mp ha s hs
        have : a.isS s = true := by simpa using this
        exact of_decide_eq_true this
theorem TabOk.but {H H' : Hp} {P P2 : Addr} {pos : Pos} {qual : Str} {ps : Array Value} (hP : H P = some (.tbl ps)) (k : But P H H') (hne : P2 ≠ P) (t : TabOk H P2 pos qual) : TabOk H' P2 pos qual := by
  obtain ⟨qs, e, h1, h2⟩ := t
  refine ⟨qs, k _ _ e hne, h1, ?_⟩
  rcases h2 with h2 | ⟨c', h2, h3⟩
  · exact .inl h2
  · exact .inr ⟨c', h2, k _ _ h3 (ne_of h3 hP (by intro z; cases z))⟩
/-- what is told, one new list -/
def Tells (P : Addr) (H : Hp) (ok : Hp → Prop) (ans : List V) (Q : VK) : Prop := ∀ H' l, But P H H' → ok H' → H' l = some (.lst ans) → H l = none → Q (.ref l) H'
def TellsS (H : Hp) (ans : List V) (Q : VK) : Prop := ∀ H' l, Same H H' → H' l = some (.lst ans) → H l = none → Q (.ref l) H'

def spTellNeed (CS CR CD CB CN : Addr) (K : PySem.W.Frag) : Sp := fun vs H Q _ => ∃ (dp lr : Addr) (F : Foot) (b : Bool) (a : Su75.Abs) (row : List Nat), vs = [.ref dp, .ref lr] ∧ DepotAt CS CR CD CB CN H dp F b a ∧ SqL K H lr (vns row) ∧ row.length ≤ 10 ∧ TellsS H (ansV (Su75.does a (.need row)).2) Q
def spTellMild (CS CR CD CB CN P : Addr) (K : PySem.W.Frag) : Sp := fun vs H Q _ => ∃ (dp lr : Addr) (F : Foot) (b : Bool) (a : Su75.Abs) (row : List Nat), vs = [.ref dp, .ref lr] ∧ DepotAt CS CR CD CB CN H dp F b a ∧ SqL K H lr (vns row) ∧ row.length ≤ 10 ∧ TabOk H P lMildest.pos qMildest ∧
  Tells P H (fun H' => TabOk H' P lMildest.pos qMildest) (ansV (Su75.does a (.mild row)).2) Q
/-- the trips' functions as the depot calls them -/
structure GT (P : Program) (w : World) (K : PySem.W.Frag) (mg : Str → Option Value) (base : Heap) (CS CR CT CP P1 P2 P3 : Addr) : Prop where
  T : TR K mg CS CR CT CP
  along : ∃ (f : Addr) (fd : FuncData), mg "trip_along" = some (.ref f) ∧ PySem.W.keepIn K (.ref f) = true ∧ FnOk P w K mg base CX0 4 f fd ["roads", "place", "row"] (spTripAlong CS CR CT CP K) ∧ Binds K fd ["roads", "place", "row"] []
  all : ∃ (f : Addr) (fd : FuncData), mg "all_trips" = some (.ref f) ∧ PySem.W.keepIn K (.ref f) = true ∧ FnOk P w K mg base CX0 4 f fd ["roads", "place", "row"] (spAllTrips CS CR CT CP K) ∧ Binds K fd ["roads", "place", "row"] []
  need : ∃ (f : Addr) (fd : FuncData), mg "frost_needed" = some (.ref f) ∧ PySem.W.keepIn K (.ref f) = true ∧ FnOk P w K mg base CX0 1 f fd ["trip"] (spFrostNeeded CT CP) ∧ Binds K fd ["trip"] []
  home : ∃ (f : Addr) (fd : FuncData), mg "minutes_home" = some (.ref f) ∧ PySem.W.keepIn K (.ref f) = true ∧ FnOk P w K mg base CX0 2 f fd ["roads", "trip"] (spMinutesHome CS CR CT CP) ∧ Binds K fd ["roads", "trip"] []
  cold : ∃ (f : Addr) (fd : FuncData), mg "cold_drops" = some (.ref f) ∧ PySem.W.keepIn K (.ref f) = true ∧ FnOk P w K mg base CX0 1 f fd ["trip", "frost"] (spColdDrops CT CP) ∧ Binds K fd ["trip", "frost"] []
  mild : ∃ (f : Addr) (fd : FuncData), mg "mildest" = some (.ref f) ∧ PySem.W.keepIn K (.ref f) = true ∧ FnOk P w K mg base CX0 5 f fd ["roads", "trips"] (spMildest CS CR CT CP P1) ∧ Binds K fd ["roads", "trips"] []
  quick : ∃ (f : Addr) (fd : FuncData), mg "quickest" = some (.ref f) ∧ PySem.W.keepIn K (.ref f) = true ∧ FnOk P w K mg base CX0 5 f fd ["roads", "trips"] (spQuickest CS CR CT CP P2) ∧ Binds K fd ["roads", "trips"] []
  most : ∃ (f : Addr) (fd : FuncData), mg "coldest" = some (.ref f) ∧ PySem.W.keepIn K (.ref f) = true ∧ FnOk P w K mg base CX0 5 f fd ["roads", "trips", "frost"] (spColdest CS CR CT CP P3) ∧ Binds K fd ["roads", "trips", "frost"] []
  frostAt : ∃ (f : Addr) (fd : FuncData), mg "frost_at_drop" = some (.ref f) ∧ PySem.W.keepIn K (.ref f) = true ∧ FnOk P w K mg base CX0 1 f fd ["drop", "frost"] (spFrostAt CP) ∧ Binds K fd ["drop", "frost"] []
  coldT : ∃ (f : Addr) (fd : FuncData), mg "cold_trips" = some (.ref f) ∧ PySem.W.keepIn K (.ref f) = true ∧ FnOk P w K mg base CX0 2 f fd ["trips", "frost"] (spColdTrips CT CP) ∧ Binds K fd ["trips", "frost"] []
section
variable {P : Program} {w : World} {K : PySem.W.Frag} {mg : Str → Option Value} {base : Heap} {CS CR CT CP CD CB CN P1 P2 P3 : Addr}
theorem scTellNeed : FnScope ["self", "row", "refusal", "trip"] ["self", "row"] (defScope (sD 13)) := ⟨rfl, rfl, rfl, by decide +kernel, rfl, by decide +kernel, by decide +kernel⟩
theorem ok_tellNeed {f f1 : Addr} {fd fd1 : FuncData} (F : Fun K "tell_need" "Depot.tell_need" (sD 13) f fd) (G : GT P w K mg base CS CR CT CP P1 P2 P3) (D : TD K mg CD CB CN)
    (m1 : Meth K CD "row_refusal" f1) (G1 : FnOk P w K mg base CX0 2 f1 fd1 ["self", "row"] (spRowRef CS CR CD CB CN K)) (b1 : Binds K fd1 ["self", "row"] []) :
    FnOk P w K mg base CX0 5 f fd ["self", "row"] (spTellNeed CS CR CD CB CN K) := by
  have T := G.T
  obtain ⟨fa, fda, ma, ka, Ga, ba⟩ := G.along
  obtain ⟨fn, fdn, mn, kn, Gn, bn⟩ := G.need
  obtain ⟨fh, fdh, mh, kh, Gh, bh⟩ := G.home
  obtain ⟨tw, hw⟩ := T.works
  refine F.ok scTellNeed (fun vs H Q E h => ?_) (fun cdv A outer s H vs Q E hr h => ?_)
  · obtain ⟨dp, lr, F, b, a, row, rfl, _⟩ := h
    rfl
  · obtain ⟨dp, lr, F, b, a, row, rfl, DA, hL, hlen, k⟩ := h
    obtain ⟨dx, hdp⟩ := DA.ins
    have nd := scTellNeed.nd
    refine ⟨_, pss_cons (ps_set (i := 2) nd rfl (Or.inl rfl) (pe_meth (pv 0) D.cl m1 G1 (hr.mono (by decide)) b1 .nil pass0 (pa_cons (pv 1) pa_nil)))
      (pss_cons (ps_if (pt_cmpR op_ne (pv 2) pe_int (nomark _)) (pss_one (ps_ret (pe_lst (pa_cons (pv 2) pa_nil)))) pss_nil)
      (pss_cons (ps_set (i := 3) nd rfl (Or.inl rfl) (pe_call Ga hr rfl ma ka ba .nil pass0 (pa_cons (pe_fld (pv 0) rfl) (pa_cons (pe_glob (v := .int 0) rfl hw ⟨_, rfl⟩) (pa_cons (pv 1) pa_nil)))))
      (pss_one (ps_ret (pe_lst (pa_cons (pe_call Gn (hr.mono (by decide)) rfl mn kn bn .nil pass0 (pa_cons (pv 3) pa_nil)) (pa_cons (pe_call Gh (hr.mono (by decide)) rfl mh kh bh .nil pass0 (pa_cons (pe_fld (pv 0) rfl) (pa_cons (pv 3) pa_nil))) pa_nil))))))), ?_⟩
    refine ⟨_, rfl, dp, dx, _, rfl, hdp, rfl, _, rfl, dp, lr, F, b, a, row, rfl, DA, hL, hlen, fun H1 s1 => ?_⟩
    refine ⟨_, rfl, rfl, _, rfl, ?_⟩
    refine ite2 (fun e => ?_) fun e => ?_
    · have e : a.bad row ≠ 0 := fun z => by rw [z] at e; exact absurd e (by decide)
      refine ⟨_, rfl, (by show 1 ≤ sizeLine; decide), fun l hl => ?_⟩
      refine k _ l (s1.trans (Same.laid hl)) ?_ (s1.free hl)
      rw [upd_same, show Su75.does a (.need row) = (a, Su75.no (a.bad row)) from if_pos e]
      rfl
    · have e : a.bad row = 0 := by
        by_cases q : a.bad row = 0
        · exact q
        · exact absurd (show (!decide (V.int (a.bad row) = V.int 0)) = true by rw [decide_eq_false (fun z => q (by injection z))]; rfl) e
      obtain ⟨h6, hnd, hrow⟩ := bad_zero e
      refine ⟨_, rfl, dp, CD, dx, _, _, rfl, s1 _ _ hdp, D.cl, D.n2, rfl, _, rfl, F.ra, F.ls, F.d, lr, a, 0, row, rfl, DA.roads.same s1, Nat.zero_le _, s1.seq hL, hrow, by omega, fun H2 tp s2 ht => ?_⟩
      have s3 := s1.trans s2
      refine ⟨_, rfl, tp, _, rfl, ht, (by rw [(along_row a 0 row).2]; omega), fun H2' s2' => ?_⟩
      have s3 := s3.trans s2'
      have ht := ht.same s2'
      refine ⟨_, rfl, dp, CD, dx, _, _, rfl, s3 _ _ hdp, D.cl, D.n2, rfl, _, rfl, F.ra, F.ls, F.d, tp, a, _, rfl, DA.roads.same s3, ht, along_place (Nat.zero_le _) _ hrow, fun H3 s4 => ⟨(by show 2 ≤ sizeLine; decide), fun l hl => ?_⟩⟩
      have s5 := s3.trans s4
      refine k _ l (s5.trans (Same.laid hl)) ?_ (s5.free hl)
      rw [upd_same, show Su75.does a (.need row) = (a, Su75.num (a.need 0 row) [a.home 0 row]) from if_neg (fun z => z e), ansV_num, along_need, along_home]
      rfl
end
end CD
end

section
set_option Elab.async false
set_option linter.all false
set_option maxRecDepth 100000
set_option maxHeartbeats 4000000
namespace CD
open PySem PySem.Spec PyProof.Rows L2

theorem orders_pos : ∀ (n : Nat) (l : List Nat), 0 < (Su75.orders n l).length
  | 0, l => Nat.zero_lt_one
  | n + 1, l => by
    show 0 < (if l.isEmpty then [[]] else l.flatMap fun x => (Su75.orders n (l.filter fun y => y != x)).map fun r => x :: r).length
    cases l with
    | nil => exact Nat.zero_lt_one
    | cons x l =>
      rw [if_neg (by intro z; cases z), List.flatMap_cons, List.length_append, List.length_map]
      have := orders_pos n ((x :: l).filter fun y => y != x)
      omega
theorem orders_mem : ∀ (n : Nat) (l w : List Nat), w ∈ Su75.orders n l → ∀ s ∈ w, s ∈ l
  | 0, l, w, h => by
    have h : w = [] := List.mem_singleton.mp h
    rw [h]; intro s hs; cases hs
  | n + 1, l, w, h => by
    have h : w ∈ (if l.isEmpty then [[]] else l.flatMap fun x => (Su75.orders n (l.filter fun y => y != x)).map fun r => x :: r) := h
    split at h
    · have h : w = [] := List.mem_singleton.mp h
      rw [h]; intro s hs; cases hs
    · obtain ⟨x, hx, h2⟩ := List.mem_flatMap.mp h
      obtain ⟨r, h3, rfl⟩ := List.mem_map.mp h2
      intro s hs
      rcases List.mem_cons.mp hs with rfl | hs
      · exact hx
      · exact (List.mem_filter.mp (orders_mem n _ r h3 s hs)).1
theorem leastBy_mem (f : List Nat → Nat × Nat) (L : List (List Nat)) (v : List Nat) (h : Su75.leastBy f L = some v) : v ∈ L := by
  have key : ∀ (L : List (List Nat)) (b : Option (List Nat)), (L.foldl (fun b w => match b with
      | none => some w
      | some v => if (f w).1 < (f v).1 ∨ ((f w).1 = (f v).1 ∧ (f w).2 < (f v).2) then some w else some v) b) = some v → v ∈ L ∨ b = some v := by
    intro L
    induction L with
    | nil => intro b h; exact .inr h
    | cons w L ih =>
      intro b h
      rw [List.foldl_cons] at h
      rcases ih _ h with h | h
      · exact .inl (.tail _ h)
      · cases b with
        | none => cases h; exact .inl (.head _)
        | some u =>
          have h : (if (f w).1 < (f u).1 ∨ ((f w).1 = (f u).1 ∧ (f w).2 < (f u).2) then some w else some u) = some v := h
          split at h
          · cases h; exact .inl (.head _)
          · exact .inr h
  rcases key L none h with h | h
  · exact h
  · cases h
theorem allTrips_pos (a : Su75.Abs) (x : Nat) {row : List Nat} (hn : row.Nodup) : 0 < (allTrips a x row).length := by
  rw [allTrips_orders a x hn, List.length_map]
  exact orders_pos _ _
theorem ne_zero_of {z : Int} (e : (!decide (V.int z = V.int 0)) = true) : z ≠ 0 := fun q => by rw [q] at e; exact absurd e (by decide)
theorem zero_of {z : Int} (e : ¬ (!decide (V.int z = V.int 0)) = true) : z = 0 := by
  by_cases q : z = 0
  · exact q
  · exact absurd (show (!decide (V.int z = V.int 0)) = true by rw [decide_eq_false (fun z => q (by injection z))]; rfl) e
theorem depot_but {CS CR CD CB CN : Addr} {H H' : Hp} {dp PT : Addr} {F : Foot} {b : Bool} {a : Su75.Abs} {ps : Array Value} (hP : H PT = some (.tbl ps)) (k : But PT H H') (D : DepotAt CS CR CD CB CN H dp F b a) : DepotAt CS CR CD CB CN H' dp F b a := by
  obtain ⟨⟨dx, h1⟩, h2, h3, h4, h5, h6, h7, h8, h9⟩ := D
  exact ⟨⟨dx, k _ _ h1 (ne_of h1 hP (by intro z; cases z))⟩, roads_but hP k h2, k _ _ h3 (ne_of h3 hP (by intro z; cases z)), h4, h5, h6.kind k hP True.intro, h7, h8, h9⟩
def spTellQuick (CS CR CD CB CN P : Addr) (K : PySem.W.Frag) : Sp := fun vs H Q _ => ∃ (dp lr : Addr) (F : Foot) (b : Bool) (a : Su75.Abs) (f : Nat) (row : List Nat), vs = [.ref dp, vn f, .ref lr] ∧ DepotAt CS CR CD CB CN H dp F b a ∧ SqL K H lr (vns row) ∧ row.length ≤ 10 ∧ TabOk H P lQuickest.pos qQuickest ∧
  Tells P H (fun H' => TabOk H' P lQuickest.pos qQuickest) (ansV (Su75.does a (.quick f row)).2) Q
def spTellMost (CS CR CD CB CN P : Addr) (K : PySem.W.Frag) : Sp := fun vs H Q _ => ∃ (dp lr : Addr) (F : Foot) (b : Bool) (a : Su75.Abs) (f : Nat) (row : List Nat), vs = [.ref dp, vn f, .ref lr] ∧ DepotAt CS CR CD CB CN H dp F b a ∧ SqL K H lr (vns row) ∧ row.length ≤ 10 ∧ TabOk H P lColdest.pos qColdest ∧
  Tells P H (fun H' => TabOk H' P lColdest.pos qColdest) (ansV (Su75.does a (.most f row)).2) Q
section
variable {P : Program} {w : World} {K : PySem.W.Frag} {mg : Str → Option Value} {base : Heap} {CS CR CT CP CD CB CN P1 P2 P3 : Addr}
theorem scTellMild : FnScope ["self", "row", "refusal", "trip"] ["self", "row"] (defScope (sD 14)) := ⟨rfl, rfl, rfl, by decide +kernel, rfl, by decide +kernel, by decide +kernel⟩
theorem ok_tellMild {f f1 : Addr} {fd fd1 : FuncData} (F : Fun K "tell_mild" "Depot.tell_mild" (sD 14) f fd) (G : GT P w K mg base CS CR CT CP P1 P2 P3) (D : TD K mg CD CB CN)
    (m1 : Meth K CD "row_refusal" f1) (G1 : FnOk P w K mg base CX0 2 f1 fd1 ["self", "row"] (spRowRef CS CR CD CB CN K)) (b1 : Binds K fd1 ["self", "row"] []) :
    FnOk P w K mg base CX0 6 f fd ["self", "row"] (spTellMild CS CR CD CB CN P1 K) := by
  have T := G.T
  obtain ⟨fa, fda, ma, ka, Ga, ba⟩ := G.all
  obtain ⟨fn, fdn, mn, kn, Gn, bn⟩ := G.need
  obtain ⟨fh, fdh, mh, kh, Gh, bh⟩ := G.home
  obtain ⟨fm, fdm, mm, km, Gm, bm⟩ := G.mild
  obtain ⟨tw, hw⟩ := T.works
  refine F.ok scTellMild (fun vs H Q E h => ?_) (fun cdv A outer s H vs Q E hr h => ?_)
  · obtain ⟨dp, lr, F, b, a, row, rfl, _⟩ := h
    rfl
  · obtain ⟨dp, lr, F, b, a, row, rfl, DA, hL, hlen, hTab, k⟩ := h
    obtain ⟨dx, hdp⟩ := DA.ins
    obtain ⟨ps0, eP, _⟩ := id hTab
    have nd := scTellMild.nd
    refine ⟨_, pss_cons (ps_set (i := 2) nd rfl (Or.inl rfl) (pe_meth (pv 0) D.cl m1 G1 (hr.mono (by decide)) b1 .nil pass0 (pa_cons (pv 1) pa_nil)))
      (pss_cons (ps_if (pt_cmpR op_ne (pv 2) pe_int (nomark _)) (pss_one (ps_ret (pe_lst (pa_cons (pv 2) pa_nil)))) pss_nil)
      (pss_cons (ps_set (i := 3) nd rfl (Or.inl rfl) (pe_call Gm hr rfl mm km bm .nil pass0 (pa_cons (pe_fld (pv 0) rfl) (pa_cons (pe_call Ga (hr.mono (by decide)) rfl ma ka ba .nil pass0 (pa_cons (pe_fld (pv 0) rfl) (pa_cons (pe_glob (v := .int 0) rfl hw ⟨_, rfl⟩) (pa_cons (pv 1) pa_nil)))) pa_nil))))
      (pss_one (ps_ret (pe_op op_cat (pe_lst (pa_cons (pe_call Gn (hr.mono (by decide)) rfl mn kn bn .nil pass0 (pa_cons (pv 3) pa_nil)) (pa_cons (pe_call Gh (hr.mono (by decide)) rfl mh kh bh .nil pass0 (pa_cons (pe_fld (pv 0) rfl) (pa_cons (pv 3) pa_nil))) pa_nil))) (pe_fld (pv 3) rfl)))))), ?_⟩
    refine ⟨_, rfl, dp, dx, _, rfl, hdp, rfl, _, rfl, dp, lr, F, b, a, row, rfl, DA, hL, hlen, fun H1 s1 => ?_⟩
    refine ⟨_, rfl, rfl, _, rfl, ?_⟩
    refine ite2 (fun e => ?_) fun e => ?_
    · have e := ne_zero_of e
      refine ⟨_, rfl, (by show 1 ≤ sizeLine; decide), fun l hl => ?_⟩
      have s2 := s1.trans (Same.laid (o := .lst [V.int (a.bad row)]) hl)
      refine k _ l (But.of_same s2) (hTab.same s2) ?_ (s1.free hl)
      rw [upd_same, show Su75.does a (.mild row) = (a, Su75.no (a.bad row)) from if_pos e]
      rfl
    · have e := zero_of e
      obtain ⟨h6, hnd, hrow⟩ := bad_zero e
      refine ⟨_, rfl, dp, CD, dx, _, _, rfl, s1 _ _ hdp, D.cl, D.n2, rfl, _, rfl, dp, CD, dx, _, _, rfl, s1 _ _ hdp, D.cl, D.n2, rfl, _, rfl, F.ra, F.ls, F.d, lr, a, 0, row, rfl, DA.roads.same s1, Nat.zero_le _, s1.seq hL, hrow, h6, fun H2 l2 ps s2 hl2 hT => ?_⟩
      have s3 := s1.trans s2
      refine ⟨F.ra, F.ls, F.d, l2, a, ps, allTrips a 0 row, rfl, DA.roads.same s3, hl2, hT, allTrips_pos a 0 hnd, fun t ht => (let h := iter_ok (a := a) (Nat.zero_le _) hrow _ t ht; ⟨h.1, by rw [h.2.2]; omega⟩), hTab.same s3, fun H3 tp t k3 hTab3 hbest ht => ?_⟩
      -- which trip it is
      rw [best_mild a 0 hnd] at hbest
      cases hw2 : Su75.leastBy (fun w => (a.need 0 w, a.home 0 w)) (Su75.orders row.length row) with
      | none => rw [hw2] at hbest; cases hbest
      | some v =>
        rw [hw2] at hbest
        have hbest : tripAlong a 0 v = t := Option.some.inj hbest
        subst hbest
        have em : a.mild row = v := by unfold Su75.Abs.mild; rw [hw2]; rfl
        have eP3 : H2 P1 = some (.tbl ps0) := s3 _ _ eP
        have k3' : But P1 H H3 := (But.of_same s3).trans k3
        have hdp3 : H3 dp = some (.ins CD dx (fDepot b F a)) := k3' _ _ hdp (ne_of hdp eP (by intro z; cases z))
        have R3 : RoadsAt CS CR H3 F.ra F.ls F.d a := roads_but eP3 k3 (DA.roads.same s3)
        have hvo := leastBy_mem _ _ _ hw2
        have hvm : ∀ s ∈ v, s < a.stops.length := fun s hs => hrow s (orders_mem _ _ v hvo s hs)
        have hvl := orders_len _ _ v hvo
        have hvr := (along_row a 0 v).1
        obtain ⟨tdx, tlr, tln, tds, t1, t2, t3, t4⟩ := id ht
        refine ⟨_, rfl, tp, _, rfl, ht, (by rw [(along_row a 0 v).2]; omega), fun H4' s4' => ⟨_, rfl, dp, CD, dx, _, _, rfl, s4' _ _ hdp3, D.cl, D.n2, rfl, _, rfl, F.ra, F.ls, F.d, tp, a, _, rfl, R3.same s4', ht.same s4', along_place (Nat.zero_le _) _ hvm, fun H4 s4 => ⟨(by show 2 ≤ sizeLine; decide), fun l hl => ?_⟩⟩⟩
        have s4 := s4'.trans s4
        have s5 := s4.trans (Same.laid (o := .lst [vn (tripAlong a 0 v).need, vn ((tripAlong a 0 v).home a)]) hl)
        refine ⟨_, rfl, tp, CT, tdx, _, _, rfl, s5 _ _ t1, T.clT, T.nT1, rfl, l, tlr, _, _, rfl, rfl, upd_same, s5 _ _ t2, ?_, fun q hq => ?_⟩
        · rw [vns_len, hvr, sizeLine_eq]; show 2 + v.length ≤ _; omega
        · have s6 := s5.trans (Same.laid (o := .lst ([vn (tripAlong a 0 v).need, vn ((tripAlong a 0 v).home a)] ++ vns (tripAlong a 0 v).row)) hq)
          have hqP : q ≠ P1 := fun z => by
            obtain ⟨_, e3, _⟩ := hTab3
            rw [z, s5 _ _ e3] at hq; cases hq
          have b6 : But P1 H _ := k3'.trans (But.of_same s6)
          refine k _ q b6 (hTab3.same s6) ?_ (But.free (k3'.trans (But.of_same s5)) hq hqP)
          rw [upd_same, show Su75.does a (.mild row) = (a, Su75.num (a.need 0 (a.mild row)) (a.home 0 (a.mild row) :: a.mild row)) from if_neg (fun z => z e), ansV_num, em, along_need, along_home, hvr]
          rfl
end
end CD
end

section
set_option Elab.async false
set_option linter.all false
set_option maxRecDepth 100000
set_option maxHeartbeats 4000000
namespace CD
open PySem PySem.Spec PyProof.Rows L2

section
variable {P : Program} {w : World} {K : PySem.W.Frag} {mg : Str → Option Value} {base : Heap} {CS CR CT CP CD CB CN P1 P2 P3 : Addr}
theorem frost_ref {a : Su75.Abs} {row : List Nat} {f : Nat} (e : (if a.bad row ≠ 0 then a.bad row else if 600 < f then -22 else (0 : Int)) = 0) : a.bad row = 0 ∧ ¬ 600 < f := by
  by_cases h : a.bad row ≠ 0
  · rw [if_pos h] at e; exact absurd e h
  · rw [if_neg h] at e
    refine ⟨by simpa using h, fun q => ?_⟩
    rw [if_pos q] at e
    cases e
theorem scTellMost : FnScope ["self", "frost", "row", "refusal", "trip"] ["self", "frost", "row"] (defScope (sD 16)) := ⟨rfl, rfl, rfl, by decide +kernel, rfl, by decide +kernel, by decide +kernel⟩
theorem ok_tellMost {f f1 : Addr} {fd fd1 : FuncData} (F : Fun K "tell_most" "Depot.tell_most" (sD 16) f fd) (G : GT P w K mg base CS CR CT CP P1 P2 P3) (D : TD K mg CD CB CN)
    (m1 : Meth K CD "frost_and_row_refusal" f1) (G1 : FnOk P w K mg base CX0 3 f1 fd1 ["self", "frost", "row"] (spFrostRow CS CR CD CB CN K)) (b1 : Binds K fd1 ["self", "frost", "row"] []) :
    FnOk P w K mg base CX0 6 f fd ["self", "frost", "row"] (spTellMost CS CR CD CB CN P3 K) := by
  have T := G.T
  obtain ⟨fa, fda, ma, ka, Ga, ba⟩ := G.all
  obtain ⟨fn, fdn, mn, kn, Gn, bn⟩ := G.cold
  obtain ⟨fh, fdh, mh, kh, Gh, bh⟩ := G.home
  obtain ⟨fm, fdm, mm, km, Gm, bm⟩ := G.most
  obtain ⟨tw, hw⟩ := T.works
  refine F.ok scTellMost (fun vs H Q E h => ?_) (fun cdv A outer s H vs Q E hr h => ?_)
  · obtain ⟨dp, lr, F, b, a, fr, row, rfl, _⟩ := h
    rfl
  · obtain ⟨dp, lr, F, b, a, fr, row, rfl, DA, hL, hlen, hTab, k⟩ := h
    obtain ⟨dx, hdp⟩ := DA.ins
    obtain ⟨ps0, eP, _⟩ := id hTab
    have nd := scTellMost.nd
    refine ⟨_, pss_cons (ps_set (i := 3) nd rfl (Or.inl rfl) (pe_meth (pv 0) D.cl m1 G1 (hr.mono (by decide)) b1 .nil pass0 (pa_cons (pv 1) (pa_cons (pv 2) pa_nil))))
      (pss_cons (ps_if (pt_cmpR op_ne (pv 3) pe_int (nomark _)) (pss_one (ps_ret (pe_lst (pa_cons (pv 3) pa_nil)))) pss_nil)
      (pss_cons (ps_set (i := 4) nd rfl (Or.inl rfl) (pe_call Gm hr rfl mm km bm .nil pass0 (pa_cons (pe_fld (pv 0) rfl) (pa_cons (pe_call Ga (hr.mono (by decide)) rfl ma ka ba .nil pass0 (pa_cons (pe_fld (pv 0) rfl) (pa_cons (pe_glob (v := .int 0) rfl hw ⟨_, rfl⟩) (pa_cons (pv 2) pa_nil)))) (pa_cons (pv 1) pa_nil)))))
      (pss_one (ps_ret (pe_op op_cat (pe_lst (pa_cons (pe_call Gn (hr.mono (by decide)) rfl mn kn bn .nil pass0 (pa_cons (pv 4) (pa_cons (pv 1) pa_nil))) (pa_cons (pe_call Gh (hr.mono (by decide)) rfl mh kh bh .nil pass0 (pa_cons (pe_fld (pv 0) rfl) (pa_cons (pv 4) pa_nil))) pa_nil))) (pe_fld (pv 4) rfl)))))), ?_⟩
    refine ⟨_, rfl, dp, dx, _, rfl, hdp, rfl, _, rfl, _, rfl, dp, lr, F, b, a, fr, row, rfl, DA, hL, hlen, fun H1 s1 => ?_⟩
    refine ⟨_, rfl, rfl, _, rfl, ?_⟩
    refine ite2 (fun e => ?_) fun e => ?_
    · have e := ne_zero_of e
      refine ⟨_, rfl, (by show 1 ≤ sizeLine; decide), fun l hl => ?_⟩
      have s2 := s1.trans (Same.laid (o := .lst [V.int (if a.bad row ≠ 0 then a.bad row else if 600 < fr then -22 else 0)]) hl)
      refine k _ l (But.of_same s2) (hTab.same s2) ?_ (s1.free hl)
      rw [upd_same]
      refine congrArg (fun z => some (HO.lst z)) ?_
      by_cases h : a.bad row ≠ 0
      · rw [show Su75.does a (.most fr row) = (a, Su75.no (a.bad row)) from if_pos h, if_pos h]
        rfl
      · rw [if_neg h] at e
        by_cases h2 : 600 < fr
        · rw [show Su75.does a (.most fr row) = (a, Su75.no (-22)) from (if_neg h).trans (if_pos h2), if_neg h, if_pos h2]
          rfl
        · rw [if_neg h2] at e; exact absurd rfl e
    · obtain ⟨e, h600⟩ := frost_ref (zero_of e)
      obtain ⟨h6, hnd, hrow⟩ := bad_zero e
      refine ⟨_, rfl, dp, CD, dx, _, _, rfl, s1 _ _ hdp, D.cl, D.n2, rfl, _, rfl, dp, CD, dx, _, _, rfl, s1 _ _ hdp, D.cl, D.n2, rfl, _, rfl, F.ra, F.ls, F.d, lr, a, 0, row, rfl, DA.roads.same s1, Nat.zero_le _, s1.seq hL, hrow, h6, fun H2 l2 ps s2 hl2 hT => ?_⟩
      have s3 := s1.trans s2
      refine ⟨_, rfl, F.ra, F.ls, F.d, l2, a, ps, allTrips a 0 row, fr, rfl, DA.roads.same s3, hl2, hT, allTrips_pos a 0 hnd, fun t ht => ?_, hTab.same s3, fun H3 tp t k3 hTab3 hbest ht => ?_⟩
      · have := iter_ok (a := a) (Nat.zero_le _) hrow _ t ht
        exact ⟨this.1, by rw [this.2.2]; omega⟩
      rw [best_most a fr hnd] at hbest
      cases hw2 : Su75.leastBy (fun w => (row.length - a.good 0 fr w, a.home 0 w)) (Su75.orders row.length row) with
      | none => rw [hw2] at hbest; cases hbest
      | some v =>
        rw [hw2] at hbest
        have hbest : tripAlong a 0 v = t := Option.some.inj hbest
        subst hbest
        have em : a.most 0 fr row = v := by unfold Su75.Abs.most; rw [hw2]; rfl
        have eP3 : H2 P3 = some (.tbl ps0) := s3 _ _ eP
        have k3' : But P3 H H3 := (But.of_same s3).trans k3
        have hdp3 : H3 dp = some (.ins CD dx (fDepot b F a)) := k3' _ _ hdp (ne_of hdp eP (by intro z; cases z))
        have R3 : RoadsAt CS CR H3 F.ra F.ls F.d a := roads_but eP3 k3 (DA.roads.same s3)
        have hvo := leastBy_mem _ _ _ hw2
        have hvm : ∀ s ∈ v, s < a.stops.length := fun s hs => hrow s (orders_mem _ _ v hvo s hs)
        have hvl := orders_len _ _ v hvo
        have hvr := (along_row a 0 v).1
        have hvn := (along_row a 0 v).2
        obtain ⟨tdx, tlr, tln, tds, t1, t2, t3, t4⟩ := id ht
        refine ⟨_, rfl, _, rfl, tp, _, fr, rfl, ht, (by rw [hvn]; omega), fun H4 s4 => ?_⟩
        refine ⟨_, rfl, dp, CD, dx, _, _, rfl, s4 _ _ hdp3, D.cl, D.n2, rfl, _, rfl, F.ra, F.ls, F.d, tp, a, _, rfl, R3.same s4, ht.same s4, along_place (Nat.zero_le _) _ hvm, fun H5 s5 => ⟨(by show 2 ≤ sizeLine; decide), fun l hl => ?_⟩⟩
        have s6 := (s4.trans s5).trans (Same.laid (o := .lst [vn ((tripAlong a 0 v).good fr), vn ((tripAlong a 0 v).home a)]) hl)
        refine ⟨_, rfl, tp, CT, tdx, _, _, rfl, s6 _ _ t1, T.clT, T.nT1, rfl, l, tlr, _, _, rfl, rfl, upd_same, s6 _ _ t2, ?_, fun q hq => ?_⟩
        · rw [vns_len, hvr, sizeLine_eq]; show 2 + v.length ≤ _; omega
        · have s7 := s6.trans (Same.laid (o := .lst ([vn ((tripAlong a 0 v).good fr), vn ((tripAlong a 0 v).home a)] ++ vns (tripAlong a 0 v).row)) hq)
          have hqP : q ≠ P3 := fun z => by
            obtain ⟨_, e3, _⟩ := hTab3
            rw [z, s6 _ _ e3] at hq; cases hq
          have b7 : But P3 H _ := k3'.trans (But.of_same s7)
          refine k _ q b7 (hTab3.same s7) ?_ (But.free (k3'.trans (But.of_same s6)) hq hqP)
          rw [upd_same, show Su75.does a (.most fr row) = (a, Su75.num (a.good 0 fr (a.most 0 fr row)) (a.home 0 (a.most 0 fr row) :: a.most 0 fr row)) from (if_neg (fun z => z e)).trans (if_neg h600), ansV_num, em, along_good, along_home, hvr]
          rfl
theorem scTellQuick : FnScope ["self", "frost", "row", "refusal", "trips", "trip"] ["self", "frost", "row"] (defScope (sD 15)) := ⟨rfl, rfl, rfl, by decide +kernel, rfl, by decide +kernel, by decide +kernel⟩
theorem ok_tellQuick {f f1 : Addr} {fd fd1 : FuncData} (F : Fun K "tell_quick" "Depot.tell_quick" (sD 15) f fd) (G : GT P w K mg base CS CR CT CP P1 P2 P3) (D : TD K mg CD CB CN)
    (m1 : Meth K CD "frost_and_row_refusal" f1) (G1 : FnOk P w K mg base CX0 3 f1 fd1 ["self", "frost", "row"] (spFrostRow CS CR CD CB CN K)) (b1 : Binds K fd1 ["self", "frost", "row"] []) :
    FnOk P w K mg base CX0 6 f fd ["self", "frost", "row"] (spTellQuick CS CR CD CB CN P2 K) := by
  have T := G.T
  obtain ⟨fa, fda, ma, ka, Ga, ba⟩ := G.all
  obtain ⟨fn, fdn, mn, kn, Gn, bn⟩ := G.need
  obtain ⟨fh, fdh, mh, kh, Gh, bh⟩ := G.home
  obtain ⟨fm, fdm, mm, km, Gm, bm⟩ := G.quick
  obtain ⟨fc, fdc, mc, kc, Gc, bc⟩ := G.coldT
  obtain ⟨tw, hw⟩ := T.works
  obtain ⟨t33, h33⟩ := D.i33
  refine F.ok scTellQuick (fun vs H Q E h => ?_) (fun cdv A outer s H vs Q E hr h => ?_)
  · obtain ⟨dp, lr, F, b, a, fr, row, rfl, _⟩ := h
    rfl
  · obtain ⟨dp, lr, F, b, a, fr, row, rfl, DA, hL, hlen, hTab, k⟩ := h
    obtain ⟨dx, hdp⟩ := DA.ins
    obtain ⟨ps0, eP, _⟩ := id hTab
    have nd := scTellQuick.nd
    refine ⟨_, pss_cons (ps_set (i := 3) nd rfl (Or.inl rfl) (pe_meth (pv 0) D.cl m1 G1 (hr.mono (by decide)) b1 .nil pass0 (pa_cons (pv 1) (pa_cons (pv 2) pa_nil))))
      (pss_cons (ps_if (pt_cmpR op_ne (pv 3) pe_int (nomark _)) (pss_one (ps_ret (pe_lst (pa_cons (pv 3) pa_nil)))) pss_nil)
      (pss_cons (ps_set (i := 4) nd rfl (Or.inl rfl) (pe_call Gc (hr.mono (by decide)) rfl mc kc bc .nil pass0 (pa_cons (pe_call Ga (hr.mono (by decide)) rfl ma ka ba .nil pass0 (pa_cons (pe_fld (pv 0) rfl) (pa_cons (pe_glob (v := .int 0) rfl hw ⟨_, rfl⟩) (pa_cons (pv 2) pa_nil)))) (pa_cons (pv 1) pa_nil))))
      (pss_cons (ps_if (pt_cmpR op_eq (pe_callB call_len_seq (by rfl) T.len PySem.boot_len (pa_cons (pv 4) pa_nil)) pe_int (nomark _)) (pss_one (ps_ret (pe_lst (pa_cons (pe_glob (v := .int (-33)) rfl h33 ⟨_, rfl⟩) pa_nil)))) pss_nil)
      (pss_cons (ps_set (i := 5) nd rfl (Or.inl rfl) (pe_call Gm hr rfl mm km bm .nil pass0 (pa_cons (pe_fld (pv 0) rfl) (pa_cons (pv 4) pa_nil))))
      (pss_one (ps_ret (pe_op op_cat (pe_lst (pa_cons (pe_call Gh (hr.mono (by decide)) rfl mh kh bh .nil pass0 (pa_cons (pe_fld (pv 0) rfl) (pa_cons (pv 5) pa_nil))) (pa_cons (pe_call Gn (hr.mono (by decide)) rfl mn kn bn .nil pass0 (pa_cons (pv 5) pa_nil)) pa_nil))) (pe_fld (pv 5) rfl)))))))), ?_⟩
    refine ⟨_, rfl, dp, dx, _, rfl, hdp, rfl, _, rfl, _, rfl, dp, lr, F, b, a, fr, row, rfl, DA, hL, hlen, fun H1 s1 => ?_⟩
    refine ⟨_, rfl, rfl, _, rfl, ?_⟩
    refine ite2 (fun e => ?_) fun e => ?_
    · have e := ne_zero_of e
      refine ⟨_, rfl, (by show 1 ≤ sizeLine; decide), fun l hl => ?_⟩
      have s2 := s1.trans (Same.laid (o := .lst [V.int (if a.bad row ≠ 0 then a.bad row else if 600 < fr then -22 else 0)]) hl)
      refine k _ l (But.of_same s2) (hTab.same s2) ?_ (s1.free hl)
      rw [upd_same]
      refine congrArg (fun z => some (HO.lst z)) ?_
      by_cases h : a.bad row ≠ 0
      · rw [show Su75.does a (.quick fr row) = (a, Su75.no (a.bad row)) from if_pos h, if_pos h]
        rfl
      · rw [if_neg h] at e
        by_cases h2 : 600 < fr
        · rw [show Su75.does a (.quick fr row) = (a, Su75.no (-22)) from (if_neg h).trans (if_pos h2), if_neg h, if_pos h2]
          rfl
        · rw [if_neg h2] at e; exact absurd rfl e
    · obtain ⟨e, h600⟩ := frost_ref (zero_of e)
      obtain ⟨h6, hnd, hrow⟩ := bad_zero e
      have edoes : Su75.does a (.quick fr row) = (match a.quick 0 fr row with
          | none => (a, Su75.no (-33))
          | some w => (a, Su75.num (a.home 0 w) (a.need 0 w :: w))) := (if_neg (fun z => z e)).trans (if_neg h600)
      refine ⟨_, rfl, dp, CD, dx, _, _, rfl, s1 _ _ hdp, D.cl, D.n2, rfl, _, rfl, F.ra, F.ls, F.d, lr, a, 0, row, rfl, DA.roads.same s1, Nat.zero_le _, s1.seq hL, hrow, h6, fun H2 l2 ps s2 hl2 hT => ?_⟩
      have s3 := s1.trans s2
      have hcount : (allTrips a 0 row).length ≤ 46656 := by
        have h1 := iter_len (a := a) (x := 0) h6 row.length
        have h2 : 6 ^ row.length ≤ 6 ^ 6 := Nat.pow_le_pow_right (by decide) h6
        have h3 : (6 : Nat) ^ 6 = 46656 := by decide
        unfold allTrips
        omega
      refine ⟨_, rfl, l2, ps, allTrips a 0 row, fr, rfl, hl2, hT, by omega, (fun t ht => by rw [(iter_ok (a := a) (Nat.zero_le _) hrow _ t ht).2.2]; omega), fun H3 l3 ps3 s4 hl3 hT3 => ?_⟩
      have s5 := s3.trans s4
      refine ⟨_, rfl, l3, _, rfl, .inl (SqL.of hl3), rfl, _, rfl, ?_⟩
      have hbq := best_quick a 0 fr hnd
      refine ite2 (fun e2 => ?_) fun e2 => ?_
      · have e2 : (ps3.map V.ref).length = 0 := by
          have := of_decide_eq_true e2
          injection this with this
          exact Int.ofNat.inj this
        rw [List.length_map, hT3.1] at e2
        have e3 : (allTrips a 0 row).filter (fun t => decide (t.need ≤ fr)) = [] := List.length_eq_zero_iff.mp e2
        rw [e3] at hbq
        have e4 : a.quick 0 fr row = none := by
          cases q : a.quick 0 fr row with
          | none => rfl
          | some v => rw [q] at hbq; cases hbq
        refine ⟨(by show 1 ≤ sizeLine; decide), fun l hl => ?_⟩
        have s6 := s5.trans (Same.laid (o := .lst [V.int (-33)]) hl)
        refine k _ l (But.of_same s6) (hTab.same s6) ?_ (s5.free hl)
        rw [upd_same, edoes, e4]
        rfl
      · have hpos : 0 < ((allTrips a 0 row).filter fun t => decide (t.need ≤ fr)).length := by
          rcases Nat.eq_zero_or_pos ((allTrips a 0 row).filter fun t => decide (t.need ≤ fr)).length with z | z
          · refine absurd (decide_eq_true ?_) e2
            rw [List.length_map, hT3.1, z]
            rfl
          · exact z
        refine ⟨_, rfl, dp, CD, dx, _, _, rfl, s5 _ _ hdp, D.cl, D.n2, rfl, _, rfl, F.ra, F.ls, F.d, l3, a, ps3, _, rfl, DA.roads.same s5, hl3, hT3, hpos, fun t ht => (let h := iter_ok (a := a) (Nat.zero_le _) hrow _ t (List.mem_filter.mp ht).1; ⟨h.1, by rw [h.2.2]; omega⟩), hTab.same s5, fun H4 tp t k4 hTab4 hbest ht => ?_⟩
        rw [hbq] at hbest
        cases hw2 : a.quick 0 fr row with
        | none => rw [hw2] at hbest; cases hbest
        | some v =>
          rw [hw2] at hbest
          have hbest : tripAlong a 0 v = t := Option.some.inj hbest
          subst hbest
          have eP4 : H3 P2 = some (.tbl ps0) := s5 _ _ eP
          have k4' : But P2 H H4 := (But.of_same s5).trans k4
          have hdp4 : H4 dp = some (.ins CD dx (fDepot b F a)) := k4' _ _ hdp (ne_of hdp eP (by intro z; cases z))
          have R4 : RoadsAt CS CR H4 F.ra F.ls F.d a := roads_but eP4 k4 (DA.roads.same s5)
          have hvo : v ∈ Su75.orders row.length row := (List.mem_filter.mp (leastBy_mem _ _ _ hw2)).1
          have hvm : ∀ s ∈ v, s < a.stops.length := fun s hs => hrow s (orders_mem _ _ v hvo s hs)
          have hvl := orders_len _ _ v hvo
          have hvr := (along_row a 0 v).1
          obtain ⟨tdx, tlr, tln, tds, t1, t2, t3, t4⟩ := id ht
          refine ⟨_, rfl, dp, CD, dx, _, _, rfl, hdp4, D.cl, D.n2, rfl, _, rfl, F.ra, F.ls, F.d, tp, a, _, rfl, R4, ht, along_place (Nat.zero_le _) _ hvm, fun H5 s6 => ⟨_, rfl, tp, _, rfl, ht.same s6, (by rw [(along_row a 0 v).2]; omega), fun H5' s6' => ⟨(by show 2 ≤ sizeLine; decide), fun l hl => ?_⟩⟩⟩
          have s6 := s6.trans s6'
          have s7 := s6.trans (Same.laid (o := .lst [vn ((tripAlong a 0 v).home a), vn (tripAlong a 0 v).need]) hl)
          refine ⟨_, rfl, tp, CT, tdx, _, _, rfl, s7 _ _ t1, T.clT, T.nT1, rfl, l, tlr, _, _, rfl, rfl, upd_same, s7 _ _ t2, ?_, fun q hq => ?_⟩
          · rw [vns_len, hvr, sizeLine_eq]; show 2 + v.length ≤ _; omega
          · have s8 := s7.trans (Same.laid (o := .lst ([vn ((tripAlong a 0 v).home a), vn (tripAlong a 0 v).need] ++ vns (tripAlong a 0 v).row)) hq)
            have hqP : q ≠ P2 := fun z => by
              obtain ⟨_, e3, _⟩ := hTab4
              rw [z, s7 _ _ e3] at hq; cases hq
            have b8 : But P2 H _ := k4'.trans (But.of_same s8)
            refine k _ q b8 (hTab4.same s8) ?_ (But.free (k4'.trans (But.of_same s7)) hq hqP)
            rw [upd_same, edoes, hw2, along_need, along_home, hvr]
            rfl
end
end CD
end

section
set_option Elab.async false
set_option linter.all false
set_option maxRecDepth 100000
set_option maxHeartbeats 4000000
namespace CD
open PySem PySem.Spec PyProof.Rows L2

/-- all kept but dp -/
theorem dp_ne_ra {CR CD dx rdx dp ra r o ls d : Addr} {H : Hp} {b : Bool} {F : Foot} {a : Su75.Abs} (h1 : H dp = some (.ins CD dx (fDepot b F a))) (h2 : H ra = some (.ins CR rdx (fRoads r o ls d))) : ra ≠ dp :=
  ne_of h2 h1 (by
    intro z
    injection z with _ _ z
    have := congrArg List.length z
    cases this)
theorem dp_ne_st {CS CD dx sdx dp p : Addr} {H : Hp} {b : Bool} {F : Foot} {a : Su75.Abs} {st : Su75.Stop} (h1 : H dp = some (.ins CD dx (fDepot b F a))) (h2 : H p = some (.ins CS sdx (fStop st))) : p ≠ dp :=
  ne_of h2 h1 (by
    intro z
    injection z with _ _ z
    have := congrArg List.length z
    cases this)
theorem roads_keep {CS CR CD : Addr} {H H' : Hp} {dp dx ra ls d : Addr} {b : Bool} {F : Foot} {a0 a : Su75.Abs} (h1 : H dp = some (.ins CD dx (fDepot b F a0))) (k : But dp H H') (R : RoadsAt CS CR H ra ls d a) : RoadsAt CS CR H' ra ls d a := by
  obtain ⟨⟨rdx, r1⟩, ⟨ss, r2, r3, r4⟩, ⟨kvs, r5, r6⟩, r7, r8, r9⟩ := R
  refine ⟨⟨rdx, k _ _ r1 (dp_ne_ra h1 r1)⟩, ⟨ss, k _ _ r2 (ne_of r2 h1 (by intro z; cases z)), r3, fun i p st q1 q2 => ?_⟩, ⟨kvs, k _ _ r5 (ne_of r5 h1 (by intro z; cases z)), r6⟩, r7, r8, r9⟩
  obtain ⟨sdx, h⟩ := r4 i p st q1 q2
  exact ⟨sdx, k _ _ h (dp_ne_st h1 h)⟩
/-- another a of the same roads -/
theorem roads_as {CS CR : Addr} {H : Hp} {ra ls d : Addr} {a a' : Su75.Abs} (R : RoadsAt CS CR H ra ls d a) (e1 : a'.run = a.run) (e2 : a'.open_ = a.open_) (e3 : a'.stops = a.stops) (e4 : a'.way = a.way) : RoadsAt CS CR H ra ls d a' := by
  have em : ∀ x y, a'.mins x y = a.mins x y := fun x y => by unfold Su75.Abs.mins; rw [e4]
  obtain ⟨r1, r2, ⟨kvs, r5, r6, r7, r8⟩, r9, r10, r11⟩ := R
  refine ⟨by rw [e1, e2]; exact r1, by rw [e3]; exact r2, ⟨kvs, r5, r6, by rw [e3]; exact r7, fun x y hx hy hn => ?_⟩, by rw [e3]; exact r9, by rw [e1]; exact r10, by rw [e2]; exact r11⟩
  rw [em]
  rw [e3] at hx hy
  exact r8 x y hx hy hn
theorem halt_same {a a' : Su75.Abs} (e : a'.stops = a.stops) (s : Nat) : a'.halt_ s = a.halt_ s := by unfold Su75.Abs.halt_; rw [e]
theorem dp_notBook {CD dx : Addr} {b : Bool} {F : Foot} {a : Su75.Abs} : NotBook (.ins CD dx (fDepot b F a)) := ⟨(by show 8 ≠ 2; decide), (by show 8 ≠ 5; decide)⟩
theorem depot_as {CS CR CD CB CN : Addr} {H H' : Hp} {dp dx : Addr} {b : Bool} {F : Foot} {a a' : Su75.Abs} (DA : DepotAt CS CR CD CB CN H dp F b a) (h : H' dp = some (.ins CD dx (fDepot b F a'))) (k : But dp H H') (e1 : a'.run = a.run) (e2 : a'.open_ = a.open_) (e3 : a'.stops = a.stops) (e4 : a'.way = a.way) (e5 : a'.to_ = a.to_) (e6 : a'.done = a.done) (e7 : a'.trips = a.trips) (ok : AbsOk a') :
    DepotAt CS CR CD CB CN H' dp F b a' := by
  obtain ⟨⟨dx0, h1⟩, h2, h3, h4, h5, h6, h7, h8, h9⟩ := DA
  refine ⟨⟨dx, h⟩, roads_as (roads_keep h1 k h2) e1 e2 e3 e4, ?_, ok, h5, (h6.kind k h1 dp_notBook).as e7 e6 (fun x _ => halt_same e3 _), h7, h8, fun z => by rw [e1]; exact h9 z⟩
  rw [e5]
  exact k _ _ h3 (ne_of h3 h1 (by intro z; cases z))
theorem kp_dp {H H' : Hp} {dp : Addr} {F : Foot} (k : But dp H H') : Kp H H' (F.all dp) (F.all dp) := ⟨fun b o h hb => k b o h fun z => hb (by rw [z]; exact .head _), fun b h => .inl h⟩
/-- what a call that may change the depot promises -/
def Acts (CS CR CD CB CN : Addr) (H : Hp) (dp : Addr) (F : Foot) (b : Bool) (a : Su75.Abs) (c : Su75.Call) (Q : VK) : Prop :=
  ∀ (H' : Hp) (F' : Foot) (l : Addr), DepotAt CS CR CD CB CN H' dp F' b (Su75.does a c).1 → H' l = some (.lst (ansV (Su75.does a c).2)) → H l = none → Kp H H' (F.all dp) (F'.all dp) → l ∉ F'.all dp → Q (.ref l) H'
theorem fresh_not {CS CR CD CB CN : Addr} {H : Hp} {dp l : Addr} {F : Foot} {b : Bool} {a : Su75.Abs} (DA : DepotAt CS CR CD CB CN H dp F b a) (h : H l = none) : l ∉ F.all dp := by
  obtain ⟨⟨dx, h1⟩, ⟨⟨rdx, r1⟩, ⟨ss, r2, _⟩, ⟨kvs, r5, _⟩, _⟩, h3, h4, h5, ⟨⟨bdx, b1⟩, ⟨ds, b2, _⟩⟩, _⟩ := DA
  intro hm
  unfold Foot.all at hm
  simp only [List.mem_cons, List.not_mem_nil, or_false] at hm
  rcases hm with z | z | z | z | z | z | z <;> subst z
  · rw [h1] at h; cases h
  · rw [r1] at h; cases h
  · rw [r2] at h; cases h
  · rw [r5] at h; cases h
  · rw [h3] at h; cases h
  · rw [b1] at h; cases h
  · rw [b2] at h; cases h

def spPass (CD : Addr) : Sp := fun vs H Q _ => ∃ (dp dx : Addr) (F : Foot) (b : Bool) (a : Su75.Abs) (m loss : Nat), vs = [.ref dp, vn m, vn loss] ∧ H dp = some (.ins CD dx (fDepot b F a)) ∧ loss ≤ 1000 ∧
  ∀ H', H' dp = some (.ins CD dx (fDepot b F { a with now_ := a.now_ + m, frost := a.frost - m * loss })) → But dp H H' → Q .non H'
def spGoTo (CS CR CD CB CN : Addr) : Sp := fun vs H Q _ => ∃ (dp : Addr) (F : Foot) (b : Bool) (a : Su75.Abs) (p : Nat), vs = [.ref dp, vn p] ∧ DepotAt CS CR CD CB CN H dp F b a ∧ p ≤ a.stops.length ∧
  ∀ H', DepotAt CS CR CD CB CN H' dp F b { a with now_ := a.now_ + a.mins a.place p, frost := a.frost - a.mins a.place p * a.run, place := p } → But dp H H' → Q .non H'
def spWaitHere (CS CR CD CB CN : Addr) : Sp := fun vs H Q _ => ∃ (dp : Addr) (F : Foot) (b : Bool) (a : Su75.Abs) (n : Nat), vs = [.ref dp, vn n] ∧ DepotAt CS CR CD CB CN H dp F b a ∧ Acts CS CR CD CB CN H dp F b a (.wait n) Q
def spGoBack (CS CR CD CB CN : Addr) : Sp := fun vs H Q _ => ∃ (dp : Addr) (F : Foot) (b : Bool) (a : Su75.Abs), vs = [.ref dp] ∧ DepotAt CS CR CD CB CN H dp F b a ∧ Acts CS CR CD CB CN H dp F b a .back Q
section
variable {P : Program} {w : World} {K : PySem.W.Frag} {mg : Str → Option Value} {base : Heap} {CS CR CT CP CD CB CN : Addr}
theorem scPass : FnScope ["self", "minutes", "loss"] ["self", "minutes", "loss"] (defScope (sD 8)) := ⟨rfl, rfl, rfl, by decide +kernel, rfl, by decide +kernel, by decide +kernel⟩
theorem ok_pass {f : Addr} {fd : FuncData} (F : Fun K "pass_minutes" "Depot.pass_minutes" (sD 8) f fd) (T : TR K mg CS CR CT CP) (D : TD K mg CD CB CN) : FnOk P w K mg base CX0 1 f fd ["self", "minutes", "loss"] (spPass CD) := by
  refine F.ok scPass (fun vs H Q E h => ?_) (fun cdv A outer s H vs Q E hr h => ?_)
  · obtain ⟨dp, dx, F, b, a, m, loss, rfl, _⟩ := h
    rfl
  · obtain ⟨dp, dx, F, b, a, m, loss, rfl, hdp, hl, k⟩ := h
    refine ⟨_, pss_cons (ps_fldaug (pv 0) (pv 1) in_add) (pss_one (ps_fld (pv 0) (pe_callB (call_max2 rfl) (by rfl) T.max (by rfl) (pa_cons pe_int (pa_cons (pe_op op_sub (pe_fld (pv 0) rfl) (pe_op op_mul (pv 1) (pv 2))) pa_nil))) rfl)), ?_⟩
    refine ⟨_, rfl, dp, CD, dx, _, _, rfl, hdp, D.cl, D.n4, rfl, _, rfl, _, _, rfl, rfl, dx, _, hdp, (by show 8 < 1000; decide), ?_⟩
    refine ⟨_, rfl, dp, CD, dx, _, _, rfl, upd_same, D.cl, D.n6, rfl, _, rfl, _, rfl, _, _, rfl, rfl, .inr ⟨by omega, by omega⟩, _, _, rfl, rfl, _, _, rfl, _, rfl, dp, CD, dx, _, rfl, upd_same, D.cl, D.n6, (by show 8 < 1000; decide), ?_⟩
    have e : (if (a.frost : Int) - (m : Int) * (loss : Int) > 0 then (a.frost : Int) - (m : Int) * (loss : Int) else 0) = ((a.frost - m * loss : Nat) : Int) := by
      have e1 : (m : Int) * (loss : Int) = ((m * loss : Nat) : Int) := rfl
      rw [e1]
      by_cases q : m * loss < a.frost
      · rw [if_pos (by omega)]; omega
      · rw [if_neg (by omega)]; omega
    refine k _ ?_ fun b o h hb => by rw [upd_ne hb, upd_ne hb]; exact h
    rw [upd_same]
    refine congrArg (fun z => some (HO.ins CD dx z)) ?_
    rw [e]
    rfl
theorem scGoTo : FnScope ["self", "place"] ["self", "place"] (defScope (sD 9)) := ⟨rfl, rfl, rfl, by decide +kernel, rfl, by decide +kernel, by decide +kernel⟩
theorem ok_goTo {f f1 f2 : Addr} {fd fd1 fd2 : FuncData} (F : Fun K "go_to" "Depot.go_to" (sD 9) f fd) (T : TR K mg CS CR CT CP) (D : TD K mg CD CB CN)
    (m1 : Meth K CD "pass_minutes" f1) (G1 : FnOk P w K mg base CX0 1 f1 fd1 ["self", "minutes", "loss"] (spPass CD)) (b1 : Binds K fd1 ["self", "minutes", "loss"] [])
    (m2 : Meth K CR "minutes_between" f2) (G2 : FnOk P w K mg base CX0 1 f2 fd2 ["self", "start", "goal"] (spBetween CS CR)) (b2 : Binds K fd2 ["self", "start", "goal"] []) :
    FnOk P w K mg base CX0 2 f fd ["self", "place"] (spGoTo CS CR CD CB CN) := by
  refine F.ok scGoTo (fun vs H Q E h => ?_) (fun cdv A outer s H vs Q E hr h => ?_)
  · obtain ⟨dp, F, b, a, p, rfl, _⟩ := h
    rfl
  · obtain ⟨dp, F, b, a, p, rfl, DA, hp, k⟩ := h
    obtain ⟨dx, hdp⟩ := DA.ins
    obtain ⟨rdx, hra⟩ := DA.roads.ins
    refine ⟨_, pss_cons (ps_expr (pe_meth (pv 0) D.cl m1 G1 hr b1 .nil pass0 (pa_cons (pe_meth (pe_fld (pv 0) rfl) T.clR m2 G2 hr b2 .nil pass0 (pa_cons (pe_fld (pv 0) rfl) (pa_cons (pv 1) pa_nil))) (pa_cons (pe_fld (pe_fld (pv 0) rfl) rfl) pa_nil))))
      (pss_one (ps_fld (pv 0) (pv 1) rfl)), ?_⟩
    refine ⟨_, rfl, dp, dx, _, rfl, hdp, rfl, _, rfl, dp, CD, dx, _, _, rfl, hdp, D.cl, D.n2, rfl, F.ra, rdx, _, rfl, hra, rfl, _, rfl, dp, CD, dx, _, _, rfl, hdp, D.cl, D.n5, rfl, _, rfl, F.ra, F.ls, F.d, a, a.place, p, rfl, DA.roads, DA.ok.pl, hp, fun H1 s1 => ?_⟩
    refine ⟨_, rfl, dp, CD, dx, _, _, rfl, s1 _ _ hdp, D.cl, D.n2, rfl, F.ra, CR, rdx, _, _, rfl, s1 _ _ hra, T.clR, T.nR1, rfl, dp, dx, F, b, a, a.mins a.place p, a.run, rfl, s1 _ _ hdp, (by have := DA.roads.run; omega), fun H2 h2 k2 => ?_⟩
    refine ⟨_, rfl, _, rfl, dp, CD, dx, _, rfl, h2, D.cl, D.n5, (by show 8 < 1000; decide), ?_⟩
    have kk : But dp H (upd H2 dp (.ins CD dx (putF "place" (vn p) (fDepot b F { a with now_ := a.now_ + a.mins a.place p, frost := a.frost - a.mins a.place p * a.run })))) := fun b o h hb => by
      rw [upd_ne hb]
      exact k2 b o (s1 b o h) hb
    refine k _ (depot_as (dx := dx) DA upd_same kk rfl rfl rfl rfl rfl rfl rfl ⟨DA.ok.to_, DA.ok.nd, DA.ok.six, hp, DA.ok.wl, DA.ok.wr, DA.ok.dn⟩) kk
theorem scWaitHere : FnScope ["self", "minutes"] ["self", "minutes"] (defScope (sD 12)) := ⟨rfl, rfl, rfl, by decide +kernel, rfl, by decide +kernel, by decide +kernel⟩
theorem ok_waitHere {f f1 f2 : Addr} {fd fd1 fd2 : FuncData} (F : Fun K "wait_here" "Depot.wait_here" (sD 12) f fd) (T : TR K mg CS CR CT CP) (D : TD K mg CD CB CN)
    (m1 : Meth K CD "pass_minutes" f1) (G1 : FnOk P w K mg base CX0 1 f1 fd1 ["self", "minutes", "loss"] (spPass CD)) (b1 : Binds K fd1 ["self", "minutes", "loss"] [])
    (m2 : mg "within" = some (.ref f2)) (k2 : PySem.W.keepIn K (.ref f2) = true) (G2 : FnOk P w K mg base CX0 1 f2 fd2 ["value", "least", "most"] spWithin) (b2 : Binds K fd2 ["value", "least", "most"] []) :
    FnOk P w K mg base CX0 2 f fd ["self", "minutes"] (spWaitHere CS CR CD CB CN) := by
  obtain ⟨t22, h22⟩ := D.i22
  obtain ⟨tM, hM⟩ := D.cM
  refine F.ok scWaitHere (fun vs H Q E h => ?_) (fun cdv A outer s H vs Q E hr h => ?_)
  · obtain ⟨dp, F, b, a, n, rfl, _⟩ := h
    rfl
  · obtain ⟨dp, F, b, a, n, rfl, DA, k⟩ := h
    obtain ⟨dx, hdp⟩ := DA.ins
    obtain ⟨rdx, hra⟩ := DA.roads.ins
    refine ⟨_, pss_cons (ps_if (pt_not (pt_val (pe_call G2 hr rfl m2 k2 b2 .nil pass0 (pa_cons (pv 1) (pa_cons pe_int (pa_cons (pe_glob (v := .int 600) rfl hM ⟨_, rfl⟩) pa_nil)))))) (pss_one (ps_ret (pe_lst (pa_cons (pe_glob (v := .int (-22)) rfl h22 ⟨_, rfl⟩) pa_nil)))) pss_nil)
      (pss_cons (ps_expr (pe_meth (pv 0) D.cl m1 G1 hr b1 .nil pass0 (pa_cons (pv 1) (pa_cons (pe_fld (pe_fld (pv 0) rfl) rfl) pa_nil))))
      (pss_one (ps_ret (pe_lst (pa_cons (pe_fld (pv 0) rfl) (pa_cons (pe_fld (pv 0) rfl) pa_nil)))))), ?_⟩
    refine ⟨_, rfl, n, 1, 600, rfl, _, rfl, ?_⟩
    refine ite2 (fun e => ?_) fun e => ?_
    · have e : ¬ (1 ≤ n ∧ n ≤ 600) := by simp at e; omega
      have ed : Su75.does a (.wait n) = (a, Su75.no (-22)) := if_pos (by omega)
      refine ⟨(by show 1 ≤ sizeLine; decide), fun l hl => ?_⟩
      have s1 : Same H (upd H l (.lst [V.int (-22)])) := Same.laid hl
      refine k _ F l (by rw [ed]; exact DA.same s1) (by rw [ed, upd_same]; rfl) hl (Kp.of_same s1) (fresh_not DA hl)
    · have e : 1 ≤ n ∧ n ≤ 600 := by simp at e; omega
      have ed : Su75.does a (.wait n) = ({ a with now_ := a.now_ + n, frost := a.frost - n * a.run }, Su75.num (a.now_ + n) [a.frost - n * a.run]) := if_neg (by show ¬ (n = 0 ∨ 600 < n); omega)
      refine ⟨_, rfl, dp, dx, _, rfl, hdp, rfl, _, rfl, _, rfl, dp, CD, dx, _, _, rfl, hdp, D.cl, D.n2, rfl, F.ra, CR, rdx, _, _, rfl, hra, T.clR, T.nR1, rfl, dp, dx, F, b, a, n, a.run, rfl, hdp, (by have := DA.roads.run; omega), fun H1 h1 k1 => ?_⟩
      refine ⟨_, rfl, dp, CD, dx, _, _, rfl, h1, D.cl, D.n4, rfl, _, rfl, dp, CD, dx, _, _, rfl, h1, D.cl, D.n6, rfl, (by show 2 ≤ sizeLine; decide), fun l hl => ?_⟩
      have DA1 : DepotAt CS CR CD CB CN H1 dp F b { a with now_ := a.now_ + n, frost := a.frost - n * a.run } := depot_as DA h1 k1 rfl rfl rfl rfl rfl rfl rfl ⟨DA.ok.to_, DA.ok.nd, DA.ok.six, DA.ok.pl, DA.ok.wl, DA.ok.wr, DA.ok.dn⟩
      have s2 : Same H1 (upd H1 l (.lst [vn (a.now_ + n), vn (a.frost - n * a.run)])) := Same.laid hl
      have hl0 : H l = none := But.free k1 hl fun z => by rw [z, h1] at hl; cases hl
      refine k _ F l (by rw [ed]; exact DA1.same s2) (by rw [ed, upd_same]; rfl) hl0 (kp_dp (k1.trans (But.of_same s2))) (fresh_not DA1 hl)
theorem scGoBack : FnScope ["self"] ["self"] (defScope (sD 11)) := ⟨rfl, rfl, rfl, by decide +kernel, rfl, by decide +kernel, by decide +kernel⟩
theorem ok_goBack {f f1 : Addr} {fd fd1 : FuncData} (F : Fun K "go_back" "Depot.go_back" (sD 11) f fd) (T : TR K mg CS CR CT CP) (D : TD K mg CD CB CN)
    (m1 : Meth K CD "go_to" f1) (G1 : FnOk P w K mg base CX0 2 f1 fd1 ["self", "place"] (spGoTo CS CR CD CB CN)) (b1 : Binds K fd1 ["self", "place"] []) :
    FnOk P w K mg base CX0 3 f fd ["self"] (spGoBack CS CR CD CB CN) := by
  obtain ⟨t16, h16⟩ := D.i16
  obtain ⟨t17, h17⟩ := D.i17
  obtain ⟨tw, hw⟩ := T.works
  refine F.ok scGoBack (fun vs H Q E h => ?_) (fun cdv A outer s H vs Q E hr h => ?_)
  · obtain ⟨dp, F, b, a, rfl, _⟩ := h
    rfl
  · obtain ⟨dp, F, b, a, rfl, DA, k⟩ := h
    obtain ⟨dx, hdp⟩ := DA.ins
    refine ⟨_, pss_cons (ps_if (pt_cmpR op_eq (pe_fld (pv 0) rfl) (pe_glob (v := .int 0) rfl hw ⟨_, rfl⟩) (nomark _)) (pss_one (ps_ret (pe_lst (pa_cons (pe_glob (v := .int (-17)) rfl h17 ⟨_, rfl⟩) pa_nil)))) pss_nil)
      (pss_cons (ps_if (pt_cmpR op_gt (pe_callB call_len_seq (by rfl) T.len PySem.boot_len (pa_cons (pe_fld (pv 0) rfl) pa_nil)) pe_int (nomark _)) (pss_one (ps_ret (pe_lst (pa_cons (pe_glob (v := .int (-16)) rfl h16 ⟨_, rfl⟩) pa_nil)))) pss_nil)
      (pss_cons (ps_expr (pe_meth (pv 0) D.cl m1 G1 hr b1 .nil pass0 (pa_cons (pe_glob (v := .int 0) rfl hw ⟨_, rfl⟩) pa_nil)))
      (pss_one (ps_ret (pe_lst (pa_cons (pe_fld (pv 0) rfl) pa_nil)))))), ?_⟩
    have quit : ∀ (v : Int), Su75.does a .back = (a, Su75.no v) → ∀ l, H l = none → { nx := fun _ H' => Q .non H', rt := Q : Ends }.rt (.ref l) (upd H l (.lst [V.int v])) := fun v ed l hl => by
      have s1 : Same H (upd H l (.lst [V.int v])) := Same.laid hl
      exact k _ F l (by rw [ed]; exact DA.same s1) (by rw [ed, upd_same]; rfl) hl (Kp.of_same s1) (fresh_not DA hl)
    refine ⟨_, rfl, dp, CD, dx, _, _, rfl, hdp, D.cl, D.n5, rfl, rfl, _, rfl, ?_⟩
    refine ite2 (fun e => ?_) fun e => ?_
    · have e : a.place = 0 := vn_inj.mp (of_decide_eq_true e)
      exact ⟨(by show 1 ≤ sizeLine; decide), fun l hl => quit (-17) (if_pos e) l hl⟩
    · have e : ¬ a.place = 0 := fun z => e (decide_eq_true (vn_inj.mpr z))
      refine ⟨_, rfl, dp, CD, dx, _, _, rfl, hdp, D.cl, D.n7, rfl, F.lu, _, rfl, .inl (SqL.of DA.und), _, _, rfl, rfl, _, rfl, ?_⟩
      refine ite2 (fun e2 => ?_) fun e2 => ?_
      · have e2 : (0 : Int) < ((vns a.to_).length : Nat) := of_decide_eq_true e2
        rw [vns_len] at e2
        have e3 : a.to_ ≠ [] := fun z => by rw [z] at e2; simp at e2
        exact ⟨(by show 1 ≤ sizeLine; decide), fun l hl => quit (-16) ((if_neg e).trans (if_pos e3)) l hl⟩
      · have e2 : ¬ (0 : Int) < ((vns a.to_).length : Nat) := fun z => e2 (decide_eq_true z)
        rw [vns_len] at e2
        have e3 : ¬ a.to_ ≠ [] := fun z => by
          cases q : a.to_ with
          | nil => exact z q
          | cons n l => rw [q] at e2; simp at e2
        have ed : Su75.does a .back = ({ a with now_ := a.now_ + a.mins a.place 0, frost := a.frost - a.mins a.place 0 * a.run, place := 0 }, Su75.num (a.now_ + a.mins a.place 0) []) := (if_neg e).trans (if_neg e3)
        refine ⟨_, rfl, dp, dx, _, rfl, hdp, rfl, dp, F, b, a, 0, rfl, DA, Nat.zero_le _, fun H1 DA1 k1 => ?_⟩
        obtain ⟨dx1, hdp1⟩ := DA1.ins
        refine ⟨_, rfl, dp, CD, dx1, _, _, rfl, hdp1, D.cl, D.n4, rfl, (by show 1 ≤ sizeLine; decide), fun l hl => ?_⟩
        have s2 : Same H1 (upd H1 l (.lst [vn (a.now_ + a.mins a.place 0)])) := Same.laid hl
        have hl0 : H l = none := But.free k1 hl fun z => by rw [z, hdp1] at hl; cases hl
        exact k _ F l (by rw [ed]; exact DA1.same s2) (by rw [ed, upd_same]; rfl) hl0 (kp_dp (k1.trans (But.of_same s2))) (fresh_not DA1 hl)
end
end CD
end

section
set_option Elab.async false
set_option linter.all false
set_option maxRecDepth 100000
set_option maxHeartbeats 4000000
namespace CD
open PySem PySem.Spec PyProof.Rows L2

/-! ### the ways' dict and the specification's table -/
theorem nodup_le {α : Type} [DecidableEq α] : ∀ (l m : List α), l.Nodup → (∀ x ∈ l, x ∈ m) → l.length ≤ m.length
  | [], m, _, _ => Nat.zero_le _
  | x :: l, m, h, hm => by
    obtain ⟨h1, h2⟩ := List.nodup_cons.mp h
    have hx := hm x (.head _)
    have ih := nodup_le l (m.erase x) h2 fun y hy => by
      refine (List.mem_erase_of_ne fun e => ?_).mpr (hm y (.tail _ hy))
      subst e
      exact h1 hy
    rw [List.length_erase_of_mem hx] at ih
    have := List.length_pos_of_mem hx
    rw [List.length_cons]
    omega
abbrev wk (x y : Nat) : List Key := [Sum.inl (x : Int), Sum.inl (y : Int)]
theorem wk_inj {x y x' y' : Nat} : wk x y = wk x' y' ↔ x = x' ∧ y = y' := by
  constructor
  · intro h
    injection h with h1 h2
    injection h2 with h2 _
    have h1 := Sum.inl.inj h1
    have h2 := Sum.inl.inj h2
    omega
  · rintro ⟨rfl, rfl⟩
    rfl
theorem keys_few {kvs : List (List Key × V)} {n : Nat} (hn : n ≤ 7) (h1 : (kvs.map (·.1)).Nodup) (h2 : ∀ k ∈ kvs.map (·.1), ∃ x y : Nat, k = wk x y ∧ x ≤ n ∧ y ≤ n) : kvs.length < sizeLine := by
  have h := nodup_le (kvs.map (·.1)) ((List.range 8).flatMap fun x => (List.range 8).map fun y => wk x y) h1 fun k hk => by
    obtain ⟨x, y, rfl, hx, hy⟩ := h2 k hk
    exact List.mem_flatMap.mpr ⟨x, List.mem_range.mpr (by omega), List.mem_map.mpr ⟨y, List.mem_range.mpr (by omega), rfl⟩⟩
  rw [List.length_map] at h
  have e : ((List.range 8).flatMap fun x => (List.range 8).map fun y => wk x y).length = 64 := by decide
  rw [e] at h
  rw [sizeLine_eq]
  omega
theorem keys_putK (kvs : List (List Key × V)) (k : List Key) (v : V) : (k ∈ kvs.map (·.1) ∧ (putK kvs k v).map (·.1) = kvs.map (·.1)) ∨ (¬ k ∈ kvs.map (·.1) ∧ (putK kvs k v).map (·.1) = kvs.map (·.1) ++ [k]) := by
  unfold putK
  have e : (kvs.any fun kv => decide (kv.1 = k)) = true ↔ k ∈ kvs.map (·.1) := by
    rw [List.any_eq_true, List.mem_map]
    constructor
    · rintro ⟨p, hp, e⟩; exact ⟨p, hp, of_decide_eq_true e⟩
    · rintro ⟨p, hp, e⟩; exact ⟨p, hp, decide_eq_true e⟩
  by_cases h : k ∈ kvs.map (·.1)
  · refine .inl ⟨h, ?_⟩
    rw [if_pos (e.mpr h), List.map_map]
    refine List.map_congr_left fun p _ => ?_
    show (if p.1 = k then (p.1, v) else p).1 = p.1
    split <;> rfl
  · refine .inr ⟨h, ?_⟩
    rw [if_neg (fun z => h (e.mp z)), List.map_append]
    rfl
theorem mins_way {a : Su75.Abs} {x y m : Nat} (ok : AbsOk a) (hx : x ≤ a.stops.length) (hy : y ≤ a.stops.length) {x' y' : Nat} (hx' : x' ≤ a.stops.length) (hn : x' ≠ y') :
    ({ a with way := a.way.modify x fun r => r.set y m } : Su75.Abs).mins x' y' = if x' = x ∧ y' = y then m else a.mins x' y' := by
  unfold Su75.Abs.mins
  rw [if_neg hn, if_neg hn]
  show ((a.way.modify x fun r => r.set y m).getD x' []).getD y' 0 = _
  rw [List.getD_eq_getElem?_getD (l := a.way.modify x fun r => r.set y m), List.getElem?_modify]
  obtain ⟨r, hr⟩ : ∃ r, a.way[x']? = some r := ⟨_, List.getElem?_eq_getElem (by rw [ok.wl]; omega)⟩
  have hrl := ok.wr r (List.mem_of_getElem? hr)
  rw [List.getD_eq_getElem?_getD (l := a.way), hr]
  by_cases e1 : x = x'
  · subst e1
    show ((if x = x then (fun r => r.set y m) r else r)).getD y' 0 = _
    rw [if_pos rfl]
    show (r.set y m).getD y' 0 = if x = x ∧ y' = y then m else r.getD y' 0
    rw [List.getD_eq_getElem?_getD, List.getElem?_set]
    by_cases e2 : y = y'
    · subst e2
      rw [if_pos rfl, if_pos (by omega), if_pos ⟨rfl, rfl⟩]
      rfl
    · rw [if_neg e2, if_neg (fun z => e2 z.2.symm), List.getD_eq_getElem?_getD]
  · show ((if x = x' then (fun r => r.set y m) r else r)).getD y' 0 = _
    rw [if_neg e1, if_neg (fun z => e1 z.1.symm)]
    rfl
theorem way_ok {a : Su75.Abs} {x y m : Nat} (ok : AbsOk a) : AbsOk { a with way := a.way.modify x fun r => r.set y m } := by
  refine ⟨ok.to_, ok.nd, ok.six, ok.pl, by show (a.way.modify x _).length = _; rw [List.length_modify]; exact ok.wl, fun r hr => ?_, ok.dn⟩
  obtain ⟨i, hi, e⟩ := List.getElem_of_mem (show r ∈ a.way.modify x fun r => r.set y m from hr)
  rw [List.getElem_modify] at e
  rw [List.length_modify] at hi
  have h := ok.wr (a.way[i]) (List.getElem_mem hi)
  split at e
  · rw [← e, List.length_set]; exact h
  · rw [← e]; exact h

def spChangeWay (CS CR CD CB CN : Addr) : Sp := fun vs H Q _ => ∃ (dp : Addr) (F : Foot) (b : Bool) (a : Su75.Abs) (x y m : Nat), vs = [.ref dp, vn x, vn y, vn m] ∧ DepotAt CS CR CD CB CN H dp F b a ∧ Acts CS CR CD CB CN H dp F b a (.way x y m) Q
section
variable {P : Program} {w : World} {K : PySem.W.Frag} {mg : Str → Option Value} {base : Heap} {CS CR CT CP CD CB CN : Addr}
theorem scChangeWay : FnScope ["self", "start", "goal", "minutes", "before"] ["self", "start", "goal", "minutes"] (defScope (sD 4)) := ⟨rfl, rfl, rfl, by decide +kernel, rfl, by decide +kernel, by decide +kernel⟩
theorem ok_changeWay {f f1 f2 f3 : Addr} {fd fd1 fd2 fd3 : FuncData} (F : Fun K "change_way" "Depot.change_way" (sD 4) f fd) (T : TR K mg CS CR CT CP) (D : TD K mg CD CB CN)
    (m1 : Meth K CR "has_place" f1) (G1 : FnOk P w K mg base CX0 1 f1 fd1 ["self", "place"] (spHasPlace CS CR)) (b1 : Binds K fd1 ["self", "place"] [])
    (m2 : Meth K CR "minutes_between" f2) (G2 : FnOk P w K mg base CX0 1 f2 fd2 ["self", "start", "goal"] (spBetween CS CR)) (b2 : Binds K fd2 ["self", "start", "goal"] [])
    (m3 : Meth K CR "set_minutes" f3) (G3 : FnOk P w K mg base CX0 1 f3 fd3 ["self", "start", "goal", "minutes"] (spSetMin CS CR)) (b3 : Binds K fd3 ["self", "start", "goal", "minutes"] []) :
    FnOk P w K mg base CX0 2 f fd ["self", "start", "goal", "minutes"] (spChangeWay CS CR CD CB CN) := by
  obtain ⟨t2, h2⟩ := D.i2
  obtain ⟨t22, h22⟩ := D.i22
  obtain ⟨tM, hM⟩ := D.cM
  refine F.ok scChangeWay (fun vs H Q E h => ?_) (fun cdv A outer s H vs Q E hr h => ?_)
  · obtain ⟨dp, F, b, a, x, y, m, rfl, _⟩ := h
    rfl
  · obtain ⟨dp, F, b, a, x, y, m, rfl, DA, k⟩ := h
    obtain ⟨dx, hdp⟩ := DA.ins
    obtain ⟨rdx, hra⟩ := DA.roads.ins
    have nd := scChangeWay.nd
    refine ⟨_, pss_cons (ps_if (PW.pt (pw_or (pt_not (pt_val (pe_meth (pe_fld (pv 0) rfl) T.clR m1 G1 hr b1 .nil pass0 (pa_cons (pv 1) pa_nil)))) (pw_or1 (pt_not (pt_val (pe_meth (pe_fld (pv 0) rfl) T.clR m1 G1 hr b1 .nil pass0 (pa_cons (pv 2) pa_nil))))))) (pss_one (ps_ret (pe_lst (pa_cons (pe_glob (v := .int (-2)) rfl h2 ⟨_, rfl⟩) pa_nil)))) pss_nil)
      (pss_cons (ps_if (PW.pt (pw_or (pt_cmpR op_eq (pv 1) (pv 2) (nomark _)) (pw_or1 (pt_cmpR op_gt (pv 3) (pe_glob (v := .int 600) rfl hM ⟨_, rfl⟩) (nomark _))))) (pss_one (ps_ret (pe_lst (pa_cons (pe_glob (v := .int (-22)) rfl h22 ⟨_, rfl⟩) pa_nil)))) pss_nil)
      (pss_cons (ps_set (i := 4) nd rfl (Or.inl rfl) (pe_meth (pe_fld (pv 0) rfl) T.clR m2 G2 hr b2 .nil pass0 (pa_cons (pv 1) (pa_cons (pv 2) pa_nil))))
      (pss_cons (ps_expr (pe_meth (pe_fld (pv 0) rfl) T.clR m3 G3 hr b3 .nil pass0 (pa_cons (pv 1) (pa_cons (pv 2) (pa_cons (pv 3) pa_nil)))))
      (pss_one (ps_ret (pe_lst (pa_cons (pv 4) pa_nil))))))), ?_⟩
    have quit : ∀ (v : Int), Su75.does a (.way x y m) = (a, Su75.no v) → ∀ l, H l = none → { nx := fun _ H' => Q .non H', rt := Q : Ends }.rt (.ref l) (upd H l (.lst [V.int v])) := fun v ed l hl => by
      have s1 : Same H (upd H l (.lst [V.int v])) := Same.laid hl
      exact k _ F l (by rw [ed]; exact DA.same s1) (by rw [ed, upd_same]; rfl) hl (Kp.of_same s1) (fresh_not DA hl)
    refine ⟨_, rfl, dp, CD, dx, _, _, rfl, hdp, D.cl, D.n2, rfl, F.ra, rdx, _, rfl, hra, rfl, _, rfl, F.ra, F.ls, F.d, a, x, rfl, DA.roads, _, rfl, ?_⟩
    refine ite2 (fun e => iteT ?_) fun e => ?_
    · have e : a.isP x = false := by simpa using e
      exact ⟨(by show 1 ≤ sizeLine; decide), fun l hl => quit (-2) (if_pos (.inl e)) l hl⟩
    · have e : a.isP x = true := by simpa using e
      refine ⟨_, rfl, dp, CD, dx, _, _, rfl, hdp, D.cl, D.n2, rfl, F.ra, rdx, _, rfl, hra, rfl, _, rfl, F.ra, F.ls, F.d, a, y, rfl, DA.roads, _, rfl, ?_⟩
      refine ite2 (fun e2 => ?_) fun e2 => ?_
      · have e2 : a.isP y = false := by simpa using e2
        exact ⟨(by show 1 ≤ sizeLine; decide), fun l hl => quit (-2) (if_pos (.inr e2)) l hl⟩
      · have e2 : a.isP y = true := by simpa using e2
        have hx : x ≤ a.stops.length := of_decide_eq_true e
        have hy : y ≤ a.stops.length := of_decide_eq_true e2
        have eno : ¬ (a.isP x = false ∨ a.isP y = false) := by rw [e, e2]; simp
        refine ⟨_, rfl, _, rfl, rfl, _, rfl, ?_⟩
        refine ite2 (fun e3 => iteT ?_) fun e3 => ?_
        · have e3 : x = y := vn_inj.mp (of_decide_eq_true e3)
          exact ⟨(by show 1 ≤ sizeLine; decide), fun l hl => quit (-22) ((if_neg eno).trans (if_pos (.inl e3))) l hl⟩
        · have e3 : ¬ x = y := fun z => e3 (decide_eq_true (vn_inj.mpr z))
          refine ⟨_, rfl, _, _, rfl, rfl, _, rfl, ?_⟩
          refine ite2 (fun e4 => ?_) fun e4 => ?_
          · have e4 : (600 : Int) < (m : Int) := of_decide_eq_true e4
            exact ⟨(by show 1 ≤ sizeLine; decide), fun l hl => quit (-22) ((if_neg eno).trans (if_pos (.inr (by omega)))) l hl⟩
          · have e4 : ¬ (600 : Int) < (m : Int) := fun z => e4 (decide_eq_true z)
            have ed : Su75.does a (.way x y m) = ({ a with way := a.way.modify x fun r => r.set y m }, Su75.num (a.mins x y) []) := (if_neg eno).trans (if_neg (by rintro (z | z); exact e3 z; omega))
            refine ⟨_, rfl, dp, CD, dx, _, _, rfl, hdp, D.cl, D.n2, rfl, F.ra, rdx, _, rfl, hra, rfl, _, rfl, _, rfl, F.ra, F.ls, F.d, a, x, y, rfl, DA.roads, hx, hy, fun H1 s1 => ?_⟩
            obtain ⟨kvs, hd, hk1, hk2, hk3⟩ := DA.roads.dct
            have hfew := keys_few DA.roads.few hk1 hk2
            refine ⟨_, rfl, dp, CD, dx, _, _, rfl, s1 _ _ hdp, D.cl, D.n2, rfl, F.ra, rdx, _, rfl, s1 _ _ hra, rfl, _, rfl, _, rfl, _, rfl, F.ra, F.ls, F.d, a, x, y, m, kvs, rdx, rfl, s1 _ _ hra, s1 _ _ hd, hfew, fun H2 hd2 k2 => ?_⟩
            refine ⟨_, rfl, (by show 1 ≤ sizeLine; decide), fun l hl => ?_⟩
            have k2' : But F.d H H2 := (But.of_same s1).trans k2
            have s3 : Same H2 (upd H2 l (.lst [vn (a.mins x y)])) := Same.laid hl
            have DA2 : DepotAt CS CR CD CB CN H2 dp F b { a with way := a.way.modify x fun r => r.set y m } := by
              obtain ⟨ss, r2, r3, r4⟩ := DA.roads.lst
              refine ⟨⟨dx, k2' _ _ hdp (ne_of hdp hd (by intro z; cases z))⟩, ⟨⟨rdx, k2' _ _ hra (ne_of hra hd (by intro z; cases z))⟩, ⟨ss, k2' _ _ r2 (ne_of r2 hd (by intro z; cases z)), r3, fun i p st q1 q2 => ?_⟩, ⟨_, hd2, ?_, ?_, fun x' y' hx' hy' hn' => ?_⟩, DA.roads.few, DA.roads.run, DA.roads.opn⟩, k2' _ _ DA.und (ne_of DA.und hd (by intro z; cases z)), way_ok DA.ok, DA.ap, (DA.book.kind k2' hd True.intro).as rfl rfl (fun _ _ => rfl), DA.ap2, DA.ap3, DA.run1⟩
              · obtain ⟨sdx, h⟩ := r4 i p st q1 q2
                exact ⟨sdx, k2' _ _ h (ne_of h hd (by intro z; cases z))⟩
              · rcases keys_putK kvs (wk x y) (vn m) with ⟨_, e5⟩ | ⟨hno, e5⟩
                · rw [e5]; exact hk1
                · rw [e5]; exact nd_snoc hk1 hno
              · intro k hk
                rcases keys_putK kvs (wk x y) (vn m) with ⟨_, e5⟩ | ⟨hno, e5⟩
                · rw [e5] at hk; exact hk2 k hk
                · rw [e5] at hk
                  rcases List.mem_append.mp hk with hk | hk
                  · exact hk2 k hk
                  · rw [List.mem_singleton.mp hk]
                    exact ⟨x, y, rfl, hx, hy⟩
              · rw [mins_way DA.ok hx hy hx' hn', valV_put]
                by_cases q : x' = x ∧ y' = y
                · rw [if_pos (wk_inj.mpr q), if_pos q]
                  rfl
                · rw [if_neg (fun z => q (wk_inj.mp z)), if_neg q]
                  exact hk3 x' y' hx' hy' hn'
            have hl0 : H l = none := But.free k2' hl fun z => by rw [z, hd2] at hl; cases hl
            refine k _ F l (by rw [ed]; exact DA2.same s3) (by rw [ed, upd_same]; rfl) hl0 ⟨fun b' o h hb => s3 _ _ (k2' b' o h fun z => hb (by rw [z]; unfold Foot.all; simp)), fun b' h => .inl h⟩ (fresh_not DA2 hl)
end
end CD
end

section
set_option Elab.async false
set_option linter.all false
set_option maxRecDepth 100000
set_option maxHeartbeats 4000000
namespace CD
open PySem PySem.Spec PyProof.Rows L2

def withStop (a : Su75.Abs) (st : Su75.Stop) : Su75.Abs := { a with stops := a.stops ++ [st], way := (a.way.map fun r => r ++ [30]) ++ [List.replicate (a.stops.length + 2) 30] }
theorem withStop_len (a : Su75.Abs) (st : Su75.Stop) : (withStop a st).stops.length = a.stops.length + 1 := by
  show (a.stops ++ [st]).length = _
  rw [List.length_append]
  rfl
theorem withStop_halt (a : Su75.Abs) (st : Su75.Stop) {s : Nat} (h : s < a.stops.length) : (withStop a st).halt_ s = a.halt_ s := by
  show (a.stops ++ [st]).getD s ⟨0, 0, 0⟩ = a.stops.getD s ⟨0, 0, 0⟩
  rw [List.getD_eq_getElem?_getD, List.getD_eq_getElem?_getD, List.getElem?_append_left h]
theorem stop_ok {a : Su75.Abs} (st : Su75.Stop) (ok : AbsOk a) : AbsOk (withStop a st) := by
  refine ⟨fun s hs => ?_, ok.nd, ok.six, ?_, ?_, fun r hr => ?_, fun x hx => by rw [withStop_len]; exact Nat.lt_succ_of_lt (ok.dn x hx)⟩
  · rw [withStop_len]; exact Nat.lt_succ_of_lt (ok.to_ s hs)
  · rw [withStop_len]; exact Nat.le_succ_of_le ok.pl
  · rw [withStop_len]
    show ((a.way.map fun r => r ++ [30]) ++ [List.replicate (a.stops.length + 2) 30]).length = _
    rw [List.length_append, List.length_map, ok.wl]
    rfl
  · rw [withStop_len]
    rcases List.mem_append.mp (show r ∈ (a.way.map fun r => r ++ [30]) ++ [List.replicate (a.stops.length + 2) 30] from hr) with h | h
    · obtain ⟨q, hq, rfl⟩ := List.mem_map.mp h
      rw [List.length_append, ok.wr q hq]
      rfl
    · rw [List.mem_singleton.mp h, List.length_replicate]
theorem mins_stop {a : Su75.Abs} (st : Su75.Stop) (ok : AbsOk a) {x y : Nat} (hx : x ≤ a.stops.length + 1) (hy : y ≤ a.stops.length + 1) (hn : x ≠ y) :
    (withStop a st).mins x y = if x ≤ a.stops.length ∧ y ≤ a.stops.length then a.mins x y else 30 := by
  unfold Su75.Abs.mins
  rw [if_neg hn, if_neg hn]
  show (((a.way.map fun r => r ++ [30]) ++ [List.replicate (a.stops.length + 2) 30]).getD x []).getD y 0 = _
  rw [List.getD_eq_getElem?_getD (l := (a.way.map fun r => r ++ [30]) ++ [List.replicate (a.stops.length + 2) 30])]
  by_cases h : x ≤ a.stops.length
  · rw [List.getElem?_append_left (by rw [List.length_map, ok.wl]; omega), List.getElem?_map]
    obtain ⟨r, hr⟩ : ∃ r, a.way[x]? = some r := ⟨_, List.getElem?_eq_getElem (by rw [ok.wl]; omega)⟩
    have hrl := ok.wr r (List.mem_of_getElem? hr)
    rw [hr]
    show (r ++ [30]).getD y 0 = _
    rw [List.getD_eq_getElem?_getD]
    by_cases h2 : y ≤ a.stops.length
    · rw [List.getElem?_append_left (by omega), if_pos ⟨h, h2⟩, List.getD_eq_getElem?_getD (l := a.way), hr]
      show _ = r.getD y 0
      rw [List.getD_eq_getElem?_getD]
    · rw [List.getElem?_append_right (by omega), if_neg (fun z => h2 z.2)]
      rw [show y - r.length = 0 by omega]
      rfl
  · rw [List.getElem?_append_right (by rw [List.length_map, ok.wl]; omega), if_neg (fun z => h z.1), List.length_map, ok.wl]
    rw [show x - (a.stops.length + 1) = 0 by omega]
    show (List.replicate (a.stops.length + 2) 30).getD y 0 = 30
    rw [List.getD_eq_getElem?_getD, List.getElem?_replicate, if_pos (by omega)]
    rfl
def spAddStop (CS CR CD CB CN : Addr) : Sp := fun vs H Q _ => ∃ (dp : Addr) (F : Foot) (b : Bool) (a : Su75.Abs) (h w l : Nat), vs = [.ref dp, vn h, vn w, vn l] ∧ DepotAt CS CR CD CB CN H dp F b a ∧ Acts CS CR CD CB CN H dp F b a (.halt_ h w l) Q
section
variable {P : Program} {w : World} {K : PySem.W.Frag} {mg : Str → Option Value} {base : Heap} {CS CR CT CP CD CB CN : Addr}
theorem scAddStop : FnScope ["self", "door_minutes", "wanted", "litres", "number"] ["self", "door_minutes", "wanted", "litres"] (defScope (sD 3)) := ⟨rfl, rfl, rfl, by decide +kernel, rfl, by decide +kernel, by decide +kernel⟩
theorem ok_addStop {f f1 f2 : Addr} {fd fd1 fd2 : FuncData} (F : Fun K "add_stop" "Depot.add_stop" (sD 3) f fd) (T : TR K mg CS CR CT CP) (D : TD K mg CD CB CN)
    (M1 : Mk K CS f1) (G1 : FnOk P w K mg base CX0 1 f1 fd1 ["self", "door_minutes", "wanted", "litres"] (spStopInit CS)) (b1 : Binds K fd1 ["self", "door_minutes", "wanted", "litres"] [])
    (m2 : mg "within" = some (.ref f2)) (k2 : PySem.W.keepIn K (.ref f2) = true) (G2 : FnOk P w K mg base CX0 1 f2 fd2 ["value", "least", "most"] spWithin) (b2 : Binds K fd2 ["value", "least", "most"] []) :
    FnOk P w K mg base CX0 3 f fd ["self", "door_minutes", "wanted", "litres"] (spAddStop CS CR CD CB CN) := by
  obtain ⟨t22, h22⟩ := D.i22
  obtain ⟨t28, h28⟩ := D.i28
  obtain ⟨tA, hA⟩ := D.c120
  obtain ⟨tF, hF⟩ := D.cF
  obtain ⟨tL, hL⟩ := D.cL
  obtain ⟨t7, h7⟩ := D.c7
  refine F.ok scAddStop (fun vs H Q E h => ?_) (fun cdv A outer s H vs Q E hr h => ?_)
  · obtain ⟨dp, F, b, a, x, y, m, rfl, _⟩ := h
    rfl
  · obtain ⟨dp, F, b, a, hh, ww, ll, rfl, DA, k⟩ := h
    obtain ⟨dx, hdp⟩ := DA.ins
    obtain ⟨rdx, hra⟩ := DA.roads.ins
    obtain ⟨ss, hls, hss, hst⟩ := DA.roads.lst
    have nd := scAddStop.nd
    have hr1 : Room 1 _ := hr.mono (by decide)
    refine ⟨_, pss_cons (ps_if (PW.pt (pw_or (pt_not (pt_val (pe_call G2 hr1 rfl m2 k2 b2 .nil pass0 (pa_cons (pv 1) (pa_cons pe_int (pa_cons (pe_glob (v := .int 120) rfl hA ⟨_, rfl⟩) pa_nil)))))) (pw_or1 (pt_not (pt_val (pe_call G2 hr1 rfl m2 k2 b2 .nil pass0 (pa_cons (pv 2) (pa_cons pe_int (pa_cons (pe_glob (v := .int 600) rfl hF ⟨_, rfl⟩) pa_nil))))))))) (pss_one (ps_ret (pe_lst (pa_cons (pe_glob (v := .int (-22)) rfl h22 ⟨_, rfl⟩) pa_nil)))) pss_nil)
      (pss_cons (ps_if (pt_not (pt_val (pe_call G2 hr1 rfl m2 k2 b2 .nil pass0 (pa_cons (pv 3) (pa_cons pe_int (pa_cons (pe_glob (v := .int 10000) rfl hL ⟨_, rfl⟩) pa_nil)))))) (pss_one (ps_ret (pe_lst (pa_cons (pe_glob (v := .int (-22)) rfl h22 ⟨_, rfl⟩) pa_nil)))) pss_nil)
      (pss_cons (ps_set (i := 4) nd rfl (Or.inl rfl) (pe_callB call_len_seq (by rfl) T.len PySem.boot_len (pa_cons (pe_fld (pe_fld (pv 0) rfl) rfl) pa_nil)))
      (pss_cons (ps_if (pt_cmpR op_ge (pv 4) (pe_glob (v := .int 7) rfl h7 ⟨_, rfl⟩) (nomark _)) (pss_one (ps_ret (pe_lst (pa_cons (pe_glob (v := .int (-28)) rfl h28 ⟨_, rfl⟩) pa_nil)))) pss_nil)
      (pss_cons (ps_expr (pe_bm PySem.F.plainAttrs_list PySem.F.slot_list_append PySem.F.type_list_append mt_append (pe_fld (pe_fld (pv 0) rfl) rfl) (pa_cons (pe_make M1 G1 hr rfl T.mgS b1 .nil pass0 (pa_cons (pv 1) (pa_cons (pv 2) (pa_cons (pv 3) pa_nil)))) pa_nil)))
      (pss_one (ps_ret (pe_lst (pa_cons (pv 4) pa_nil)))))))), ?_⟩
    have quit : ∀ (v : Int), Su75.does a (.halt_ hh ww ll) = (a, Su75.no v) → ∀ l, H l = none → { nx := fun _ H' => Q .non H', rt := Q : Ends }.rt (.ref l) (upd H l (.lst [V.int v])) := fun v ed l hl => by
      have s1 : Same H (upd H l (.lst [V.int v])) := Same.laid hl
      exact k _ F l (by rw [ed]; exact DA.same s1) (by rw [ed, upd_same]; rfl) hl (Kp.of_same s1) (fresh_not DA hl)
    have bad22 : (¬ (1 ≤ hh ∧ hh ≤ 120) ∨ ¬ (1 ≤ ww ∧ ww ≤ 600) ∨ ¬ (1 ≤ ll ∧ ll ≤ 10000)) → Su75.does a (.halt_ hh ww ll) = (a, Su75.no (-22)) := fun h => if_pos (by
      show hh = 0 ∨ 120 < hh ∨ ww = 0 ∨ 600 < ww ∨ ll = 0 ∨ 10000 < ll
      omega)
    refine ⟨_, rfl, hh, 1, 120, rfl, _, rfl, ?_⟩
    refine ite2 (fun e => iteT ?_) fun e => ?_
    · have e : ¬ (1 ≤ hh ∧ hh ≤ 120) := by simp at e; omega
      exact ⟨(by show 1 ≤ sizeLine; decide), fun l hl => quit (-22) (bad22 (.inl e)) l hl⟩
    · have e : 1 ≤ hh ∧ hh ≤ 120 := by simp at e; omega
      refine ⟨_, rfl, ww, 1, 600, rfl, _, rfl, ?_⟩
      refine ite2 (fun e2 => ?_) fun e2 => ?_
      · have e2 : ¬ (1 ≤ ww ∧ ww ≤ 600) := by simp at e2; omega
        exact ⟨(by show 1 ≤ sizeLine; decide), fun l hl => quit (-22) (bad22 (.inr (.inl e2))) l hl⟩
      · have e2 : 1 ≤ ww ∧ ww ≤ 600 := by simp at e2; omega
        refine ⟨_, rfl, ll, 1, 10000, rfl, _, rfl, ?_⟩
        refine ite2 (fun e3 => ?_) fun e3 => ?_
        · have e3 : ¬ (1 ≤ ll ∧ ll ≤ 10000) := by simp at e3; omega
          exact ⟨(by show 1 ≤ sizeLine; decide), fun l hl => quit (-22) (bad22 (.inr (.inr e3))) l hl⟩
        · have e3 : 1 ≤ ll ∧ ll ≤ 10000 := by simp at e3; omega
          have eno : ¬ (hh = 0 ∨ 120 < hh ∨ ww = 0 ∨ Su75.COLD < ww ∨ ll = 0 ∨ 10000 < ll) := by
            show ¬ (hh = 0 ∨ 120 < hh ∨ ww = 0 ∨ 600 < ww ∨ ll = 0 ∨ 10000 < ll)
            omega
          refine ⟨_, rfl, dp, CD, dx, _, _, rfl, hdp, D.cl, D.n2, rfl, F.ra, CR, rdx, _, _, rfl, hra, T.clR, T.nR3, rfl, F.ls, _, rfl, .inl (SqL.of hls), ?_⟩
          refine ⟨_, rfl, _, _, rfl, rfl, _, rfl, ?_⟩
          refine ite2 (fun e4 => ?_) fun e4 => ?_
          · have e4 : (7 : Int) ≤ ((ss.map V.ref).length : Nat) := of_decide_eq_true e4
            rw [List.length_map, hss] at e4
            exact ⟨(by show 1 ≤ sizeLine; decide), fun l hl => quit (-28) ((if_neg eno).trans (if_pos (show 7 ≤ a.stops.length by omega))) l hl⟩
          · have e4 : ¬ (7 : Int) ≤ ((ss.map V.ref).length : Nat) := fun z => e4 (decide_eq_true z)
            rw [List.length_map, hss] at e4
            have e5 : ¬ Su75.STOPS ≤ a.stops.length := show ¬ 7 ≤ a.stops.length by omega
            have ed : Su75.does a (.halt_ hh ww ll) = (withStop a ⟨hh, ww, ll⟩, Su75.num a.stops.length []) := (if_neg eno).trans (if_neg e5)
            refine ⟨_, rfl, dp, CD, dx, _, _, rfl, hdp, D.cl, D.n2, rfl, F.ra, CR, rdx, _, _, rfl, hra, T.clR, T.nR3, rfl, .inl ⟨rfl, _, SqL.of hls⟩, _, rfl, _, rfl, _, rfl, fun x xd nx nxd nex => ?_⟩
            refine ⟨x, xd, ⟨hh, ww, ll⟩, rfl, upd_same, fun H1 hx hk => ⟨rfl, ?_⟩⟩
            obtain ⟨xd', hx⟩ := hx
            have s1 : Same H H1 := Same.made nx nxd hk
            refine ⟨F.ls, _, _, rfl, rfl, s1 _ _ hls, (by rw [List.length_map, hss, sizeLine_eq]; omega), ?_⟩
            refine ⟨_, rfl, (by show 1 ≤ sizeLine; decide), fun l hl => ?_⟩
            have nx1 : x ≠ F.ls := fun z => by rw [z, hls] at nx; cases nx
            have k3 : But F.ls H (upd H1 F.ls (.lst (ss.map V.ref ++ [V.ref x]))) := fun b' o h hb => by rw [upd_ne hb]; exact s1 b' o h
            have DA2 : DepotAt CS CR CD CB CN (upd H1 F.ls (.lst (ss.map V.ref ++ [V.ref x]))) dp F b (withStop a ⟨hh, ww, ll⟩) := by
              obtain ⟨kvs, hd, hk1, hk2, hk3⟩ := DA.roads.dct
              refine ⟨⟨dx, k3 _ _ hdp (ne_of hdp hls (by intro z; cases z))⟩, ⟨⟨rdx, k3 _ _ hra (ne_of hra hls (by intro z; cases z))⟩, ⟨ss ++ [x], by rw [upd_same, List.map_append]; rfl, by rw [withStop_len, List.length_append, hss]; rfl, fun i p st q1 q2 => ?_⟩, ⟨kvs, k3 _ _ hd (ne_of hd hls (by intro z; cases z)), hk1, fun k hk => ?_, fun x' y' hx' hy' hn' => ?_⟩, by rw [withStop_len]; omega, DA.roads.run, DA.roads.opn⟩, ?_, stop_ok _ DA.ok, DA.ap, ?_, DA.ap2, DA.ap3, DA.run1⟩
              · by_cases hi : i < ss.length
                · rw [List.getElem?_append_left hi] at q1
                  rw [show (withStop a ⟨hh, ww, ll⟩).stops = a.stops ++ [⟨hh, ww, ll⟩] from rfl, List.getElem?_append_left (by omega)] at q2
                  obtain ⟨sdx, h⟩ := hst i p st q1 q2
                  exact ⟨sdx, k3 _ _ h (ne_of h hls (by intro z; cases z))⟩
                · rw [List.getElem?_append_right (by omega)] at q1
                  rw [show (withStop a ⟨hh, ww, ll⟩).stops = a.stops ++ [⟨hh, ww, ll⟩] from rfl, List.getElem?_append_right (by omega), ← hss] at q2
                  have e : i - ss.length = 0 := by
                    rcases Nat.eq_zero_or_pos (i - ss.length) with z | z
                    · exact z
                    · rw [List.getElem?_eq_none (show [x].length ≤ i - ss.length from z)] at q1; cases q1
                  rw [e] at q1 q2
                  have e1 : x = p := by simpa using q1
                  have e2 : (⟨hh, ww, ll⟩ : Su75.Stop) = st := by simpa using q2
                  subst e1 e2
                  exact ⟨xd', by rw [upd_ne nx1]; exact hx⟩
              · obtain ⟨x', y', h1, h2, h3⟩ := hk2 k hk
                rw [withStop_len]
                exact ⟨x', y', h1, by omega, by omega⟩
              · rw [withStop_len] at hx' hy'
                rw [mins_stop _ DA.ok hx' hy' hn']
                by_cases q : x' ≤ a.stops.length ∧ y' ≤ a.stops.length
                · rw [if_pos q]
                  exact hk3 x' y' q.1 q.2 hn'
                · rw [if_neg q]
                  have : valV kvs (wk x' y') = none := by
                    cases h : valV kvs (wk x' y') with
                    | none => rfl
                    | some v =>
                      exfalso
                      unfold valV at h
                      cases h2 : kvs.find? (fun kv => decide (kv.1 = wk x' y')) with
                      | none => rw [h2] at h; cases h
                      | some p =>
                        have hp1 := List.mem_of_find?_eq_some h2
                        have hp2 : p.1 = wk x' y' := of_decide_eq_true (List.find?_some (p := fun kv : List Key × V => decide (kv.1 = wk x' y')) h2)
                        obtain ⟨x2, y2, h3, h4, h5⟩ := hk2 p.1 (List.mem_map_of_mem hp1)
                        rw [hp2] at h3
                        obtain ⟨rfl, rfl⟩ := wk_inj.mp h3
                        exact q ⟨h4, h5⟩
                  show (valV kvs (wk x' y')).getD (.int 30) = _
                  rw [this]
                  rfl
              · exact k3 _ _ DA.und DA.ap
              · obtain ⟨⟨bdx, b1⟩, ⟨dl, b2, b3⟩⟩ := id DA.book
                exact (DA.book.but k3 (ne_of b1 hls (by intro z; cases z)) DA.ap2 fun p dx lit y q => ne_of q hls (by intro z; cases z)).as rfl rfl fun x hx => withStop_halt a _ (DA.ok.dn x hx)
            have s4 : Same (upd H1 F.ls (.lst (ss.map V.ref ++ [V.ref x]))) (upd (upd H1 F.ls (.lst (ss.map V.ref ++ [V.ref x]))) l (.lst [vn (ss.map V.ref).length])) := Same.laid hl
            have hl0 : H l = none := But.free k3 hl fun z => by rw [z, upd_same] at hl; cases hl
            refine k _ F l (by rw [ed]; exact DA2.same s4) ?_ hl0 ⟨fun b' o h hb => s4 _ _ (k3 b' o h fun z => hb (by rw [z]; unfold Foot.all; simp)), fun b' h => .inl h⟩ (fresh_not DA2 hl)
            rw [ed, upd_same, ansV_num, ← hss, List.length_map]
            rfl
end
end CD
end

section
set_option Elab.async false
set_option linter.all false
namespace CD
/-! ### the calls in one list: how one is taken off -/
/-- how many whole numbers the call q has -/
def argN (q : Nat) : Nat := [3, 3, 3, 1, 1, 0, 1, 0, 0, 1, 1, 1, 0, 0, 0, 2, 1, 0, 0, 0, 0].getD q 0
/-- whether a row follows -/
def rowK (q : Nat) : Bool := [false, false, false, true, false, false, false, true, true, true, true, true, false, false, false, false, false, false, false, false, false].getD q false
/-- r, behind the number q, is this call's numbers, its row, and the rest t; used: how many of r they are -/
def Taken (q : Nat) (r nums row t : List Int) (used : Nat) : Prop :=
  nums.length = argN q ∧ (∀ z ∈ nums, 0 ≤ z) ∧ (∀ z ∈ row, 0 ≤ z) ∧ row.length ≤ 10 ∧
  ((rowK q = false ∧ row = [] ∧ r = nums ++ t ∧ used = argN q) ∨ (rowK q = true ∧ r = nums ++ ((row.length : Nat) : Int) :: (row ++ t) ∧ used = argN q + 1 + row.length))
theorem shape_some {p : Int} {x : Nat × Nat} (h : PySu75.shape p = some x) : ∃ q : Nat, q ≤ 20 ∧ p = (q : Int) ∧ x = (argN q, if rowK q then 1 else 0) := by
  by_cases h0 : p = 0
  · subst h0
    exact ⟨0, by decide, rfl, (Option.some.inj (show some (3, 0) = some x from h)).symm⟩
  by_cases h1 : p = 1
  · subst h1
    exact ⟨1, by decide, rfl, (Option.some.inj (show some (3, 0) = some x from h)).symm⟩
  by_cases h2 : p = 2
  · subst h2
    exact ⟨2, by decide, rfl, (Option.some.inj (show some (3, 0) = some x from h)).symm⟩
  by_cases h3 : p = 3
  · subst h3
    exact ⟨3, by decide, rfl, (Option.some.inj (show some (1, 1) = some x from h)).symm⟩
  by_cases h4 : p = 4
  · subst h4
    exact ⟨4, by decide, rfl, (Option.some.inj (show some (1, 0) = some x from h)).symm⟩
  by_cases h5 : p = 5
  · subst h5
    exact ⟨5, by decide, rfl, (Option.some.inj (show some (0, 0) = some x from h)).symm⟩
  by_cases h6 : p = 6
  · subst h6
    exact ⟨6, by decide, rfl, (Option.some.inj (show some (1, 0) = some x from h)).symm⟩
  by_cases h7 : p = 7
  · subst h7
    exact ⟨7, by decide, rfl, (Option.some.inj (show some (0, 1) = some x from h)).symm⟩
  by_cases h8 : p = 8
  · subst h8
    exact ⟨8, by decide, rfl, (Option.some.inj (show some (0, 1) = some x from h)).symm⟩
  by_cases h9 : p = 9
  · subst h9
    exact ⟨9, by decide, rfl, (Option.some.inj (show some (1, 1) = some x from h)).symm⟩
  by_cases h10 : p = 10
  · subst h10
    exact ⟨10, by decide, rfl, (Option.some.inj (show some (1, 1) = some x from h)).symm⟩
  by_cases h11 : p = 11
  · subst h11
    exact ⟨11, by decide, rfl, (Option.some.inj (show some (1, 1) = some x from h)).symm⟩
  by_cases h12 : p = 12
  · subst h12
    exact ⟨12, by decide, rfl, (Option.some.inj (show some (0, 0) = some x from h)).symm⟩
  by_cases h13 : p = 13
  · subst h13
    exact ⟨13, by decide, rfl, (Option.some.inj (show some (0, 0) = some x from h)).symm⟩
  by_cases h14 : p = 14
  · subst h14
    exact ⟨14, by decide, rfl, (Option.some.inj (show some (0, 0) = some x from h)).symm⟩
  by_cases h15 : p = 15
  · subst h15
    exact ⟨15, by decide, rfl, (Option.some.inj (show some (2, 0) = some x from h)).symm⟩
  by_cases h16 : p = 16
  · subst h16
    exact ⟨16, by decide, rfl, (Option.some.inj (show some (1, 0) = some x from h)).symm⟩
  by_cases h17 : p = 17
  · subst h17
    exact ⟨17, by decide, rfl, (Option.some.inj (show some (0, 0) = some x from h)).symm⟩
  by_cases h18 : p = 18
  · subst h18
    exact ⟨18, by decide, rfl, (Option.some.inj (show some (0, 0) = some x from h)).symm⟩
  by_cases h19 : p = 19
  · subst h19
    exact ⟨19, by decide, rfl, (Option.some.inj (show some (0, 0) = some x from h)).symm⟩
  by_cases h20 : p = 20
  · subst h20
    exact ⟨20, by decide, rfl, (Option.some.inj (show some (0, 0) = some x from h)).symm⟩
  exfalso
  unfold PySu75.shape at h
  rw [if_neg h0, if_neg h1, if_neg h2, if_neg h3, if_neg h4, if_neg h5, if_neg h6, if_neg h7, if_neg h8, if_neg h9, if_neg h10, if_neg h11, if_neg h12, if_neg h13, if_neg h14, if_neg h15, if_neg h16, if_neg h17, if_neg h18, if_neg h19, if_neg h20] at h
  cases h
theorem rowK_cases {q : Nat} (hq : q ≤ 20) (h : rowK q = true) : q = 3 ∨ q = 7 ∨ q = 8 ∨ q = 9 ∨ q = 10 ∨ q = 11 := by
  have : ∀ q : Fin 21, rowK q.1 = true → q.1 = 3 ∨ q.1 = 7 ∨ q.1 = 8 ∨ q.1 = 9 ∨ q.1 = 10 ∨ q.1 = 11 := by decide
  exact this ⟨q, by omega⟩ h
/-- one call taken off, where all numbers are at least 0 and the rows are short -/
theorem take_call {p : Int} {r : List Int} {c : List (List Int)} {t : List Int} (h : PyFlat.call PySu75.shape (p :: r) = some (c, t)) (hpos : ∀ z ∈ r, 0 ≤ z) (hb : PyInside.call PySu75.bound c = true) :
    ∃ (q : Nat) (nums row : List Int) (used : Nat), q ≤ 20 ∧ p = (q : Int) ∧ Taken q r nums row t used ∧ (PySu75.whole c).headD [] = (q : Int) :: (nums ++ row) := by
  unfold PyFlat.call at h
  dsimp only at h
  cases hs : PySu75.shape p with
  | none => rw [hs] at h; cases h
  | some x =>
    obtain ⟨q, hq, rfl, rfl⟩ := shape_some hs
    rw [hs] at h
    dsimp only at h
    by_cases hl : r.length < argN q
    · rw [if_pos hl] at h; cases h
    · rw [if_neg hl] at h
      have hn : (r.take (argN q)).length = argN q := by rw [List.length_take]; omega
      have hp1 : ∀ z ∈ r.take (argN q), 0 ≤ z := fun z hz => hpos z (List.mem_of_mem_take hz)
      cases hk : rowK q with
      | false =>
        rw [hk] at h
        have h : some (([(q : Int) :: r.take (argN q)] : List (List Int)), r.drop (argN q)) = some (c, t) := h
        cases h
        refine ⟨q, r.take (argN q), [], argN q, hq, rfl, ⟨hn, hp1, (fun z hz => by cases hz), Nat.zero_le _, .inl ⟨hk, rfl, (List.take_append_drop _ _).symm, rfl⟩⟩, ?_⟩
        rw [List.append_nil]
        generalize r.take (argN q) = u at hn
        match q, hq, hk, u, hn with
        | 0, _, _, [_, _, _], _ => rfl
        | 1, _, _, [_, _, _], _ => rfl
        | 2, _, _, [_, _, _], _ => rfl
        | 4, _, _, [_], _ => rfl
        | 5, _, _, [], _ => rfl
        | 6, _, _, [_], _ => rfl
        | 12, _, _, [], _ => rfl
        | 13, _, _, [], _ => rfl
        | 14, _, _, [], _ => rfl
        | 15, _, _, [_, _], _ => rfl
        | 16, _, _, [_], _ => rfl
        | 17, _, _, [], _ => rfl
        | 18, _, _, [], _ => rfl
        | 19, _, _, [], _ => rfl
        | 20, _, _, [], _ => rfl
      | true =>
        rw [hk] at h
        have h : (match PyFlat.rows 1 (r.drop (argN q)) with
          | none => none
          | some (xs, t) => some ((((q : Int) :: r.take (argN q)) :: xs : List (List Int)), t)) = some (c, t) := h
        cases hd : r.drop (argN q) with
        | nil => rw [hd] at h; cases h
        | cons m r' =>
          rw [hd] at h
          have hm0 : 0 ≤ m := hpos m (List.mem_of_mem_drop (by rw [hd]; exact .head _))
          unfold PyFlat.rows PyFlat.row at h
          dsimp only at h
          by_cases hm : 0 ≤ m ∧ m.toNat ≤ r'.length
          · rw [if_pos hm] at h
            have h : some ((((q : Int) :: r.take (argN q)) :: [r'.take m.toNat] : List (List Int)), r'.drop m.toNat) = some (c, t) := h
            cases h
            have hrl : (r'.take m.toNat).length = m.toNat := by rw [List.length_take]; omega
            have hrr : r = r.take (argN q) ++ (((r'.take m.toNat).length : Nat) : Int) :: (r'.take m.toNat ++ r'.drop m.toNat) := by
              rw [hrl, List.take_append_drop, Int.toNat_of_nonneg hm0, ← hd, List.take_append_drop]
            have hpr : ∀ z ∈ r'.take m.toNat, 0 ≤ z := fun z hz => hpos z (List.mem_of_mem_drop (by rw [hd]; exact .tail _ (List.mem_of_mem_take hz)))
            have h10 : (r'.take m.toNat).length ≤ 10 := by
              generalize r.take (argN q) = u at hb hn
              generalize r'.take m.toNat = v at hb
              rcases rowK_cases hq hk with rfl | rfl | rfl | rfl | rfl | rfl
              · match u, hn with
                | [_], _ => simp [PyInside.call, PySu75.bound, PyInside.each, PyInside.lists] at hb; omega
              · match u, hn with
                | [], _ => simp [PyInside.call, PySu75.bound, PyInside.each, PyInside.lists] at hb; omega
              · match u, hn with
                | [], _ => simp [PyInside.call, PySu75.bound, PyInside.each, PyInside.lists] at hb; omega
              · match u, hn with
                | [_], _ => simp [PyInside.call, PySu75.bound, PyInside.each, PyInside.lists] at hb; omega
              · match u, hn with
                | [_], _ => simp [PyInside.call, PySu75.bound, PyInside.each, PyInside.lists] at hb; omega
              · match u, hn with
                | [_], _ => simp [PyInside.call, PySu75.bound, PyInside.each, PyInside.lists] at hb; omega
            refine ⟨q, r.take (argN q), r'.take m.toNat, _, hq, rfl, ⟨hn, hp1, hpr, h10, .inr ⟨hk, hrr, rfl⟩⟩, ?_⟩
            generalize r.take (argN q) = u at hn
            rcases rowK_cases hq hk with rfl | rfl | rfl | rfl | rfl | rfl
            · match u, hn with
              | [_], _ => rfl
            · match u, hn with
              | [], _ => rfl
            · match u, hn with
              | [], _ => rfl
            · match u, hn with
              | [_], _ => rfl
            · match u, hn with
              | [_], _ => rfl
            · match u, hn with
              | [_], _ => rfl
          · rw [if_neg hm] at h; cases h
end CD
end

section
set_option Elab.async false
set_option linter.all false
namespace CD
abbrev stepC (s : Su75Neutral.S) (c : List (List Int)) : Su75Neutral.S × List Int := Su75Neutral.step s (c.headD [])
/-- what is due for the calls that l still holds, from the state s on -/
def Rest (s : Su75Neutral.S) (l out : List Int) : Prop := ∃ (f : Nat) (cs : List (List (List Int))), PyFlat.calls PySu75.shape f l = some cs ∧ PyInside.calls PySu75.bound cs = true ∧ out = PyFlat.told (PyFlat.played stepC s (cs.map PySu75.whole))
abbrev asI (l : List Nat) : List Int := l.map fun n : Nat => (n : Int)
theorem asI_of : ∀ {l : List Int}, (∀ z ∈ l, 0 ≤ z) → l = asI (l.map Int.toNat)
  | [], _ => rfl
  | z :: l, h => by
    show z :: l = ((z.toNat : Nat) : Int) :: asI (l.map Int.toNat)
    rw [← asI_of fun y hy => h y (.tail _ hy), Int.toNat_of_nonneg (h z (.head _))]
theorem rest_nil {s : Su75Neutral.S} {out : List Int} (h : Rest s [] out) : out = [] := by
  obtain ⟨f, cs, h1, _, h3⟩ := h
  have e : cs = [] := by
    unfold PyFlat.calls at h1
    cases f <;> (cases h1; rfl)
  rw [h3, e]
  rfl
/-- a call: its number, its numbers, its row, all of them at least 0; t: the calls behind it -/
structure Next (r t : List Int) (q : Nat) (ns row : List Nat) (used : Nat) : Prop where
  q20 : q ≤ 20
  len : ns.length = argN q
  r10 : row.length ≤ 10
  eq : (rowK q = false ∧ row = [] ∧ r = asI ns ++ t ∧ used = argN q) ∨ (rowK q = true ∧ r = asI ns ++ ((row.length : Nat) : Int) :: (asI row ++ t) ∧ used = argN q + 1 + row.length)
theorem rest_cons {s : Su75Neutral.S} {p : Int} {r out : List Int} (h : Rest s (p :: r) out) (hpos : ∀ z ∈ r, 0 ≤ z) :
    ∃ (q : Nat) (ns row : List Nat) (t : List Int) (used : Nat) (out' : List Int), p = (q : Int) ∧ Next r t q ns row used ∧
      out = (((Su75Neutral.step s ((q : Int) :: (asI ns ++ asI row))).2.length : Nat) : Int) :: ((Su75Neutral.step s ((q : Int) :: (asI ns ++ asI row))).2 ++ out') ∧ Rest (Su75Neutral.step s ((q : Int) :: (asI ns ++ asI row))).1 t out' := by
  obtain ⟨f, cs, h1, h2, h3⟩ := h
  cases f with
  | zero => unfold PyFlat.calls at h1; cases h1
  | succ f =>
    unfold PyFlat.calls at h1
    cases hc : PyFlat.call PySu75.shape (p :: r) with
    | none => rw [hc] at h1; cases h1
    | some x =>
      obtain ⟨c, t⟩ := x
      rw [hc] at h1
      dsimp only at h1
      cases hr : PyFlat.calls PySu75.shape f t with
      | none => rw [hr] at h1; cases h1
      | some cs' =>
        rw [hr] at h1
        cases h1
        have h2' : PyInside.call PySu75.bound c = true ∧ PyInside.calls PySu75.bound cs' = true := by
          have : (c :: cs').all (PyInside.call PySu75.bound) = true := h2
          rw [List.all_cons, Bool.and_eq_true] at this
          exact this
        obtain ⟨q, nums, row, used, hq, rfl, ⟨t1, t2, t3, t4, t5⟩, hw⟩ := take_call hc hpos h2'.1
        have e1 := asI_of t2
        have e2 := asI_of t3
        refine ⟨q, nums.map Int.toNat, row.map Int.toNat, t, used, _, rfl, ⟨hq, by rw [List.length_map]; exact t1, by rw [List.length_map]; exact t4, ?_⟩, ?_, f, cs', hr, h2'.2, rfl⟩
        · rw [← e1, ← e2, List.length_map]
          rcases t5 with ⟨a, b, c, d⟩ | t5
          · exact .inl ⟨a, by rw [b]; rfl, c, d⟩
          · exact .inr t5
        · rw [← e1, ← e2, ← hw, h3]
          rfl
theorem rest_start {l : List Int} (h : PySu75.answers_asked l = true) : Rest none l (PySu75.answers l) ∧ (PySu75.answers l).length ≤ 10000000 := by
  unfold PySu75.answers_asked at h
  cases hc : PyFlat.calls PySu75.shape l.length l with
  | none => rw [hc] at h; cases h
  | some raw =>
    rw [hc] at h
    simp only [Bool.and_eq_true] at h
    obtain ⟨⟨⟨⟨_, _⟩, h3⟩, _⟩, h5⟩ := h
    refine ⟨⟨l.length, raw, hc, h3, ?_⟩, of_decide_eq_true h5⟩
    unfold PySu75.answers PySu75.calls
    rw [hc]
    rfl
end CD
end

section
set_option Elab.async false
set_option linter.all false
set_option maxRecDepth 100000
set_option maxHeartbeats 4000000
namespace CD
open PySem PySem.Spec PyProof.Rows L2

abbrev sCallInit : Stmt := inClass (top 47) 0
abbrev sReadCall : Stmt := top 48
def fCall (q : Nat) (ln lr : Addr) (e : Nat) : List (Str × V) := [("number", vn q), ("numbers", .ref ln), ("row", .ref lr), ("end", vn e)]
structure TC (K : PySem.W.Frag) (mg : Str → Option Value) (CC SH : Addr) : Prop where
  cl : Cls K CC
  n1 : NoAttr K CC "number"
  n2 : NoAttr K CC "numbers"
  n3 : NoAttr K CC "row"
  n4 : NoAttr K CC "end"
  mgC : mg "Call" = some (.ref CC)
  mgS : mg "SHAPES" = some (.ref SH)
  shp : ∃ xs : List V, (∀ H, SqT K H SH xs) ∧ ∀ q, q ≤ 20 → ∃ (p : Addr) (nm : Str), xs[q]? = some (.ref p) ∧ ∀ H, SqT K H p [.str nm, vn (argN q), .bl (rowK q)]
theorem cut_mid {pre mid post : List V} : cutV (pre ++ (mid ++ post)) (some ((pre.length : Nat) : Int)) (some ((pre.length + mid.length : Nat) : Int)) = mid := by
  unfold cutV
  rw [HT.sIx_nat, HT.sIx_nat, List.length_append, List.length_append, Nat.min_eq_left (by omega), Nat.min_eq_left (by omega), List.drop_left, show pre.length + mid.length - pre.length = mid.length by omega, List.take_left]
def spCallInit (CC : Addr) : Sp := fun vs H Q _ => ∃ (p dx ln lr : Addr) (q e : Nat), vs = [.ref p, vn q, .ref ln, .ref lr, vn e] ∧ H p = some (.ins CC dx []) ∧ Init1 CC p H (fCall q ln lr e) Q
def spReadCall (CC : Addr) (K : PySem.W.Frag) : Sp := fun vs H Q _ => ∃ (lc : Addr) (L pre r t : List Int) (q : Nat) (ns row : List Nat) (used : Nat), vs = [.ref lc, vn pre.length] ∧ SqL K H lc (L.map V.int) ∧ L = pre ++ (q : Int) :: r ∧ Next r t q ns row used ∧
  ∀ (H' : Hp) (p dx ln lr : Addr), Same H H' → H p = none → H' p = some (.ins CC dx (fCall q ln lr (pre.length + 1 + used))) → H' ln = some (.lst (vns ns)) → H' lr = some (.lst (vns row)) → Q (.ref p) H'
section
variable {P : Program} {w : World} {K : PySem.W.Frag} {mg : Str → Option Value} {base : Heap} {CS CR CT CP CD CB CN CC SH : Addr}
theorem scCallInit : FnScope ["self", "number", "numbers", "row", "end"] ["self", "number", "numbers", "row", "end"] (defScope sCallInit) := ⟨rfl, rfl, rfl, by decide +kernel, rfl, by decide +kernel, by decide +kernel⟩
theorem ok_callInit {f : Addr} {fd : FuncData} (F : Fun K "__init__" "Call.__init__" sCallInit f fd) (T : TC K mg CC SH) : FnOk P w K mg base CX0 1 f fd ["self", "number", "numbers", "row", "end"] (spCallInit CC) := by
  refine F.ok scCallInit (fun vs H Q E h => ?_) (fun cdv A outer s H vs Q E hr h => ?_)
  · obtain ⟨p, dx, ln, lr, q, e, rfl, _⟩ := h
    rfl
  · obtain ⟨p, dx, ln, lr, q, e, rfl, hp, k⟩ := h
    refine ⟨_, pss_cons (ps_fld (pv 0) (pv 1) rfl) (pss_cons (ps_fld (pv 0) (pv 2) rfl) (pss_cons (ps_fld (pv 0) (pv 3) rfl) (pss_one (ps_fld (pv 0) (pv 4) rfl)))), ?_⟩
    refine ⟨_, rfl, _, rfl, p, CC, dx, _, rfl, hp, T.cl, T.n1, (by decide), ?_⟩
    refine ⟨_, rfl, _, rfl, p, CC, dx, _, rfl, upd_same, T.cl, T.n2, (by show 1 < 1000; decide), ?_⟩
    refine ⟨_, rfl, _, rfl, p, CC, dx, _, rfl, upd_same, T.cl, T.n3, (by show 2 < 1000; decide), ?_⟩
    refine ⟨_, rfl, _, rfl, p, CC, dx, _, rfl, upd_same, T.cl, T.n4, (by show 3 < 1000; decide), ?_⟩
    exact k _ ⟨dx, upd_same⟩ fun b o e hb => by rw [upd_ne hb, upd_ne hb, upd_ne hb, upd_ne hb]; exact e
theorem scReadCall : FnScope ["calls", "start", "number", "shape", "end", "numbers", "row_start", "row_end"] ["calls", "start"] (defScope sReadCall) := ⟨rfl, rfl, rfl, by decide +kernel, rfl, by decide +kernel, by decide +kernel⟩
theorem ok_readCall {f fI : Addr} {fd fdI : FuncData} (F : Fun K "read_call" "read_call" sReadCall f fd) (T : TC K mg CC SH) (M : Mk K CC fI) (GI : FnOk P w K mg base CX0 1 fI fdI ["self", "number", "numbers", "row", "end"] (spCallInit CC)) (bI : Binds K fdI ["self", "number", "numbers", "row", "end"] []) :
    FnOk P w K mg base CX0 3 f fd ["calls", "start"] (spReadCall CC K) := by
  obtain ⟨sxs, hSx, hSq⟩ := T.shp
  refine F.ok scReadCall (fun vs H Q E h => ?_) (fun cdv A outer s H vs Q E hr h => ?_)
  · obtain ⟨lc, L, pre, r, t, q, ns, row, used, rfl, _⟩ := h
    rfl
  · obtain ⟨lc, L, pre, r, t, q, ns, row, used, rfl, hL, eL, N, k⟩ := h
    obtain ⟨sp, nm, hsp, hsT⟩ := hSq q N.q20
    have nd := scReadCall.nd
    refine ⟨_, pss_cons (ps_set (i := 2) nd rfl (Or.inl rfl) (pe_ix ix_list (pv 0) (pv 1) (fun _ _ => rfl)))
      (pss_cons (ps_set (i := 3) nd rfl (Or.inl rfl) (pe_ix ix_tup (pe_glob (v := .ref SH) rfl T.mgS rfl) (pv 2) (fun _ _ => rfl)))
      (pss_cons (ps_set (i := 4) nd rfl (Or.inl rfl) (pe_op op_add (pe_op op_add (pv 1) pe_int) (pe_ix ix_tup (pv 3) pe_int (fun _ _ => rfl))))
      (pss_cons (ps_set (i := 5) nd rfl (Or.inl rfl) (pe_slice sl_list (pv 0) (po_some (pe_op op_add (pv 1) pe_int)) (po_some (pv 4))))
      (pss_cons (ps_if (pt_not (pt_val (pe_ix ix_tup (pv 3) pe_int (fun _ _ => rfl)))) (pss_one (ps_ret (pe_make M GI hr rfl T.mgC bI .nil pass0 (pa_cons (pv 2) (pa_cons (pv 5) (pa_cons (pe_lst pa_nil) (pa_cons (pv 4) pa_nil))))))) pss_nil)
      (pss_cons (ps_set (i := 6) nd rfl (Or.inl rfl) (pe_op op_add (pv 4) pe_int))
      (pss_cons (ps_set (i := 7) nd rfl (Or.inl rfl) (pe_op op_add (pv 6) (pe_ix ix_list (pv 0) (pv 4) (fun _ _ => rfl))))
      (pss_one (ps_ret (pe_make M GI hr rfl T.mgC bI .nil pass0 (pa_cons (pv 2) (pa_cons (pv 5) (pa_cons (pe_slice sl_list (pv 0) (po_some (pv 6)) (po_some (pv 7))) (pa_cons (pv 7) pa_nil))))))))))))), ?_⟩
    have eLv : L.map V.int = pre.map V.int ++ (vn q :: r.map V.int) := by rw [eL, List.map_append]; rfl
    have plen : (pre.map V.int).length = pre.length := List.length_map ..
    -- number, shape, end
    refine ⟨_, rfl, _, rfl, lc, _, _, _, rfl, rfl, hL, atI_nat (v := vn q) (by rw [eLv, List.getElem?_append_right (by omega), plen, Nat.sub_self]; rfl), ?_⟩
    refine ⟨_, rfl, SH, _, _, _, rfl, rfl, hSx H, atI_nat hsp, ?_⟩
    refine ⟨_, rfl, _, _, rfl, rfl, _, rfl, sp, _, _, _, rfl, rfl, hsT H, atI_nat (j := 1) (v := vn (argN q)) rfl, _, _, rfl, rfl, ?_⟩
    -- numbers
    refine ⟨_, rfl, _, rfl, _, _, rfl, rfl, _, rfl, _, rfl, _, rfl, lc, _, rfl, hL, fun ln hln => ?_⟩
    have ecut : cutV (L.map V.int) (some ((pre.length : Int) + 1)) (some ((pre.length : Int) + 1 + (argN q : Int))) = vns ns := by
      have e1 : L.map V.int = (pre.map V.int ++ [vn q]) ++ (vns ns ++ ((r.drop (argN q)).map V.int)) := by
        rw [eLv, List.append_assoc]
        congr 1
        show vn q :: r.map V.int = vn q :: (vns ns ++ (r.drop (argN q)).map V.int)
        congr 1
        have : r = asI ns ++ r.drop (argN q) := by
          rcases N.eq with ⟨_, _, e, _⟩ | ⟨_, e, _⟩ <;>
          · rw [e, ← N.len]
            have hl : ns.length = (asI ns).length := (List.length_map ..).symm
            rw [hl, List.drop_left]
        rw [vns_ints]
        rw (config := { occs := .pos [1] }) [this]
        rw [List.map_append]
      have e2 := cut_mid (pre := pre.map V.int ++ [vn q]) (mid := vns ns) (post := (r.drop (argN q)).map V.int)
      rw [← e1, List.length_append, plen, vns_len, N.len] at e2
      exact e2
    have s1 : Same H (upd H ln (.lst (cutV (L.map V.int) (some ((pre.length : Int) + 1)) (some ((pre.length : Int) + 1 + (argN q : Int)))))) := Same.laid hln
    have hln1 : upd H ln (.lst (cutV (L.map V.int) (some ((pre.length : Int) + 1)) (some ((pre.length : Int) + 1 + (argN q : Int))))) ln = some (.lst (vns ns)) := by rw [upd_same, ecut]
    generalize upd H ln (.lst (cutV (L.map V.int) (some ((pre.length : Int) + 1)) (some ((pre.length : Int) + 1 + (argN q : Int))))) = H1 at s1 hln1
    refine ⟨_, rfl, sp, _, _, _, rfl, rfl, hsT _, atI_nat (j := 2) (v := .bl (rowK q)) rfl, _, rfl, ?_⟩
    refine ite2 (fun e => ?_) fun e => ?_
    · have e : rowK q = false := by simpa using e
      obtain ⟨er, eu⟩ : row = [] ∧ used = argN q := by
        rcases N.eq with ⟨_, a, _, b⟩ | ⟨a, _, _⟩
        · exact ⟨a, b⟩
        · rw [e] at a; cases a
      subst er eu
      refine ⟨_, rfl, _, rfl, Nat.zero_le _, fun lr hlr => ⟨_, rfl, fun x xd nx nxd nex => ?_⟩⟩
      have s2 : Same H1 (upd H1 lr (.lst [])) := Same.laid hlr
      refine ⟨x, xd, ln, lr, q, pre.length + 1 + argN q, rfl, upd_same, fun H2 hx hk => ⟨rfl, ?_⟩⟩
      obtain ⟨xd', hx⟩ := hx
      have s3 : Same (upd H1 lr (.lst [])) H2 := Same.made nx nxd hk
      have s4 := (s1.trans s2).trans s3
      exact k H2 x xd' ln lr s4 ((s1.trans s2).free nx) hx (s3 _ _ (s2 _ _ hln1)) (s3 _ _ upd_same)
    · have e : rowK q = true := by simpa using e
      obtain ⟨er, eu⟩ : r = asI ns ++ ((row.length : Nat) : Int) :: (asI row ++ t) ∧ used = argN q + 1 + row.length := by
        rcases N.eq with ⟨a, _, _, _⟩ | ⟨_, a, b⟩
        · rw [e] at a; cases a
        · exact ⟨a, b⟩
      subst eu
      have hnl : (vns ns).length = argN q := by rw [vns_len]; exact N.len
      have e1 : L.map V.int = (pre.map V.int ++ vn q :: vns ns) ++ vn row.length :: (vns row ++ t.map V.int) := by
        rw [eLv, er, List.map_append, List.map_cons, List.map_append, ← vns_ints, ← vns_ints, List.append_assoc]
        rfl
      have hpl : (pre.map V.int ++ vn q :: vns ns).length = pre.length + 1 + argN q := by rw [List.length_append, List.length_cons, hnl, plen]; omega
      refine ⟨_, rfl, _, _, rfl, rfl, ?_⟩
      refine ⟨_, rfl, _, rfl, _, rfl, lc, _, _, _, rfl, rfl, s1.seq hL, atI_nat (j := pre.length + 1 + argN q) (v := vn row.length) (by rw [e1, List.getElem?_append_right (by omega), hpl, Nat.sub_self]; rfl), _, _, rfl, rfl, ?_⟩
      have ecut2 : cutV (L.map V.int) (some (((pre.length + 1 + argN q + 1 : Nat)) : Int)) (some (((pre.length + 1 + argN q + 1 + row.length : Nat)) : Int)) = vns row := by
        have e2 := cut_mid (pre := (pre.map V.int ++ vn q :: vns ns) ++ [vn row.length]) (mid := vns row) (post := t.map V.int)
        rw [List.append_assoc, List.singleton_append, ← e1, List.length_append, hpl, vns_len] at e2
        exact e2
      refine ⟨_, rfl, _, rfl, _, rfl, _, rfl, _, rfl, _, rfl, _, rfl, lc, _, rfl, s1.seq hL, fun lr hlr => ⟨_, rfl, fun x xd nx nxd nex => ?_⟩⟩
      have s2 : Same H1 (upd H1 lr (.lst (cutV (L.map V.int) (some (((pre.length + 1 + argN q + 1 : Nat)) : Int)) (some (((pre.length + 1 + argN q + 1 + row.length : Nat)) : Int))))) := Same.laid hlr
      refine ⟨x, xd, ln, lr, q, pre.length + 1 + (argN q + 1 + row.length), ?_, upd_same, fun H2 hx hk => ⟨rfl, ?_⟩⟩
      · have e9 : ((pre.length : Int) + 1 + (argN q : Int) + 1 + (row.length : Int)) = ((pre.length + 1 + (argN q + 1 + row.length) : Nat) : Int) := by omega
        show [V.ref x, vn q, .ref ln, .ref lr, V.int ((pre.length : Int) + 1 + (argN q : Int) + 1 + (row.length : Int))] = _
        rw [e9]
      · obtain ⟨xd', hx⟩ := hx
        have s3 : Same (upd H1 lr (.lst (cutV (L.map V.int) (some (((pre.length + 1 + argN q + 1 : Nat)) : Int)) (some (((pre.length + 1 + argN q + 1 + row.length : Nat)) : Int))))) H2 := Same.made nx nxd hk
        have s4 := (s1.trans s2).trans s3
        refine k H2 x xd' ln lr s4 ((s1.trans s2).free nx) hx (s3 _ _ (s2 _ _ hln1)) (s3 _ _ ?_)
        rw [upd_same, ecut2]
end
end CD
end

section
set_option Elab.async false
set_option linter.all false
set_option maxRecDepth 100000
set_option maxHeartbeats 4000000
namespace CD
open PySem PySem.Spec PyProof.Rows L2

abbrev sAnswers : Stmt := top 72
/-- the depot's state: begun or not -/
def DSt (CS CR CD CB CN : Addr) (H : Hp) (dp : Addr) (F : Foot) (s : Su75Neutral.S) : Prop := match s with
  | none => ∃ a, DepotAt CS CR CD CB CN H dp F false a
  | some a => DepotAt CS CR CD CB CN H dp F true a
def isT : HO → Prop
  | .tbl _ => True
  | .ext _ => True
  | _ => False
/-- what is so of the tables goes on being so while they and the codes stand -/
def Stab (TB : Hp → Prop) : Prop := ∀ H H', TB H → (∀ b o, H b = some o → isT o → H' b = some o) → TB H'
theorem DSt.some_at {CS CR CD CB CN : Addr} {H : Hp} {dp : Addr} {F : Foot} {s : Su75Neutral.S} (h : DSt CS CR CD CB CN H dp F s) : ∃ b a, DepotAt CS CR CD CB CN H dp F b a := by
  cases s with
  | none => obtain ⟨a, h⟩ := h; exact ⟨false, a, h⟩
  | some a => exact ⟨true, a, h⟩
theorem DSt.keep {CS CR CD CB CN : Addr} {H H' : Hp} {dp : Addr} {F : Foot} {s : Su75Neutral.S} (h : DSt CS CR CD CB CN H dp F s) (k : ∀ b a, DepotAt CS CR CD CB CN H dp F b a → DepotAt CS CR CD CB CN H' dp F b a) : DSt CS CR CD CB CN H' dp F s := by
  cases s with
  | none => obtain ⟨a, h⟩ := h; exact ⟨a, k _ _ h⟩
  | some a => exact k _ _ h
/-- a list that's not the depot's is changed -/
theorem depot_put {CS CR CD CB CN : Addr} {H : Hp} {dp l : Addr} {F : Foot} {b : Bool} {a : Su75.Abs} {xs : List V} {o : HO} (D : DepotAt CS CR CD CB CN H dp F b a) (hl : H l = some (.lst xs)) (hn : l ∉ F.all dp) : DepotAt CS CR CD CB CN (upd H l o) dp F b a := by
  have hb := fun k => D.book.but (x := l) (H' := upd H l o) k
  obtain ⟨⟨dx, h1⟩, ⟨⟨rdx, r1⟩, ⟨ss, r2, r3, r4⟩, ⟨kvs, r5, r6⟩, r7, r8, r9⟩, h3, h4, h5, h6, h7, h8, h9⟩ := D
  unfold Foot.all at hn
  simp only [List.mem_cons, List.not_mem_nil, or_false, not_or] at hn
  obtain ⟨n1, n2, n3, n4, n5, n6, n7⟩ := hn
  refine ⟨⟨dx, by rw [upd_ne (Ne.symm n1)]; exact h1⟩, ⟨⟨rdx, by rw [upd_ne (Ne.symm n2)]; exact r1⟩, ⟨ss, by rw [upd_ne (Ne.symm n3)]; exact r2, r3, fun i p st q1 q2 => ?_⟩, ⟨kvs, by rw [upd_ne (Ne.symm n4)]; exact r5, r6⟩, r7, r8, r9⟩, by rw [upd_ne (Ne.symm n5)]; exact h3, h4, h5, hb (fun b o h hx => by rw [upd_ne hx]; exact h) (Ne.symm n6) (Ne.symm n7) (fun p dx lit y q => ne_of q hl (by intro z; cases z)), h7, h8, h9⟩
  obtain ⟨sdx, h⟩ := r4 i p st q1 q2
  exact ⟨sdx, by rw [upd_ne (ne_of h hl (by intro z; cases z))]; exact h⟩
theorem own_kind {CS CR CD CB CN : Addr} {H : Hp} {dp x : Addr} {F : Foot} {b : Bool} {a : Su75.Abs} {ob : Obj} {u : HO} (D : DepotAt CS CR CD CB CN H dp F b a) (h : H x = some (.frz ob u)) : x ∉ F.all dp := by
  obtain ⟨⟨dx, h1⟩, ⟨⟨rdx, r1⟩, ⟨ss, r2, r3, r4⟩, ⟨kvs, r5, r6⟩, r7, r8, r9⟩, h3, h4, h5, ⟨⟨bdx, b1⟩, ⟨bds, b2, _⟩⟩, _⟩ := D
  unfold Foot.all
  simp only [List.mem_cons, List.not_mem_nil, or_false, not_or]
  exact ⟨ne_of h h1 (by intro z; cases z), ne_of h r1 (by intro z; cases z), ne_of h r2 (by intro z; cases z), ne_of h r5 (by intro z; cases z), ne_of h h3 (by intro z; cases z), ne_of h b1 (by intro z; cases z), ne_of h b2 (by intro z; cases z)⟩
theorem Next.split {r t : List Int} {q : Nat} {ns row : List Nat} {used : Nat} (N : Next r t q ns row used) : ∃ mid : List Int, r = mid ++ t ∧ mid.length = used := by
  have hl : (asI ns).length = argN q := by rw [List.length_map]; exact N.len
  rcases N.eq with ⟨_, _, e, eu⟩ | ⟨_, e, eu⟩
  · exact ⟨asI ns, e, by rw [hl, eu]⟩
  · refine ⟨asI ns ++ ((row.length : Nat) : Int) :: asI row, by rw [e, List.append_assoc]; rfl, ?_⟩
    rw [List.length_append, List.length_cons, List.length_map (as := row), hl, eu]
    omega
/-- how many drops there were -/
def dnS : Su75Neutral.S → Nat
  | none => 0
  | some a => a.done.length
theorem does_done (a : Su75.Abs) (c : Su75.Call) : (Su75.does a c).1.done.length ≤ a.done.length + 1 := by
  cases c <;> simp only [Su75.does] <;> (repeat' split) <;> simp [Su75.new]
theorem step_done (s : Su75Neutral.S) (c : Su75Neutral.Call) : dnS (Su75Neutral.step s c).1 ≤ dnS s + 1 := by
  unfold Su75Neutral.step
  cases Su75Neutral.callOf c with
  | none => exact Nat.le_succ _
  | some x =>
    show dnS (Su75.step s x).1 ≤ _
    cases s with
    | some a => exact does_done a x
    | none =>
      cases x with
      | begin_ r o l =>
        show dnS (if (Su75.does (Su75.new 1 1 1) (.begin_ r o l)).2.value < 0 then none else some (Su75.does (Su75.new 1 1 1) (.begin_ r o l)).1) ≤ _
        split
        · exact Nat.zero_le _
        · exact does_done (Su75.new 1 1 1) (.begin_ r o l)
      | _ => exact Nat.zero_le _
/-- what answer_call promises -/
def spAnswerCall (CS CR CD CB CN CC : Addr) (TB : Hp → Prop) : Sp := fun vs H Q _ => ∃ (dp cp dx ln lr : Addr) (F : Foot) (s : Su75Neutral.S) (q e : Nat) (ns row : List Nat), vs = [.ref dp, .ref cp] ∧ DSt CS CR CD CB CN H dp F s ∧ TB H ∧ H cp = some (.ins CC dx (fCall q ln lr e)) ∧ H ln = some (.lst (vns ns)) ∧ H lr = some (.lst (vns row)) ∧
  q ≤ 20 ∧ ns.length = argN q ∧ row.length ≤ 10 ∧ (rowK q = false → row = []) ∧ dnS s ≤ 10000 ∧
  ∀ (H' : Hp) (F' : Foot) (l : Addr), DSt CS CR CD CB CN H' dp F' (Su75Neutral.step s ((q : Int) :: (asI ns ++ asI row))).1 → TB H' → H' l = some (.lst ((Su75Neutral.step s ((q : Int) :: (asI ns ++ asI row))).2.map V.int)) →
    (∀ b o, H b = some o → b ∉ F.all dp → ¬ isT o → H' b = some o) → (∀ b ∈ F'.all dp, b ∈ F.all dp ∨ H b = none) → H l = none → l ∉ F'.all dp → Q (.ref l) H'
/-- the list handed in: known to the object, or written in the text -/
def Given (K : PySem.W.Frag) (H : Hp) (a : Addr) (xs : List V) : Prop := (∃ o, H a = some (.frz o (.lst xs))) ∨ ∀ H', SqL K H' a xs
theorem Given.seq {K : PySem.W.Frag} {H : Hp} {a : Addr} {xs : List V} (g : Given K H a xs) : SqL K H a xs := by
  rcases g with ⟨o, h⟩ | h
  · exact .inl (.inr ⟨o, h⟩)
  · exact h H
def spAnswers (TB : Hp → Prop) (K : PySem.W.Frag) : Sp := fun vs H Q _ => ∃ (a : Addr) (L : List Int), vs = [.ref a] ∧ Given K H a (L.map V.int) ∧ TB H ∧ PySu75.answers_asked L = true ∧ (∀ z ∈ L, 0 ≤ z) ∧ L.length ≤ 5300 ∧
  ∀ (H' : Hp) (p : Addr), H' p = some (.lst ((PySu75.answers L).map V.int)) → Q (.ref p) H'
/-- a new depot: not begun -/
def spDepotInit (CS CR CD CB CN : Addr) : Sp := fun vs H Q _ => ∃ (p dx : Addr), vs = [.ref p] ∧ H p = some (.ins CD dx []) ∧
  ∀ (H' : Hp) (F : Foot) (a : Su75.Abs), DepotAt CS CR CD CB CN H' p F false a → (∀ b o, H b = some o → b ≠ p → H' b = some o) → (∀ b ∈ F.all p, b = p ∨ H b = none) → Q .non H'
section
variable {P : Program} {w : World} {K : PySem.W.Frag} {mg : Str → Option Value} {base : Heap} {CS CR CT CP CD CB CN CC SH : Addr} {TB : Hp → Prop}
theorem scAnswers : FnScope ["calls", "depot", "told", "start", "call", "answer"] ["calls"] (defScope sAnswers) := ⟨rfl, rfl, rfl, by decide +kernel, rfl, by decide +kernel, by decide +kernel⟩
theorem ok_answers {f fI f1 f2 : Addr} {fd fdI fd1 fd2 : FuncData} (F : Fun K "answers" "answers" sAnswers f fd) (T : TR K mg CS CR CT CP) (D : TD K mg CD CB CN) (C : TC K mg CC SH) (hTB : Stab TB)
    (M : Mk K CD fI) (GI : FnOk P w K mg base CX0 5 fI fdI ["self"] (spDepotInit CS CR CD CB CN)) (bI : Binds K fdI ["self"] [])
    (m1 : mg "read_call" = some (.ref f1)) (k1 : PySem.W.keepIn K (.ref f1) = true) (G1 : FnOk P w K mg base CX0 3 f1 fd1 ["calls", "start"] (spReadCall CC K)) (b1 : Binds K fd1 ["calls", "start"] [])
    (m2 : mg "answer_call" = some (.ref f2)) (k2 : PySem.W.keepIn K (.ref f2) = true) (G2 : FnOk P w K mg base CX0 10 f2 fd2 ["depot", "call"] (spAnswerCall CS CR CD CB CN CC TB)) (b2 : Binds K fd2 ["depot", "call"] []) :
    FnOk P w K mg base CX0 11 f fd ["calls"] (spAnswers TB K) := by
  refine F.ok scAnswers (fun vs H Q E h => ?_) (fun cdv A outer s H vs Q E hr h => ?_)
  · obtain ⟨a, L, rfl, _⟩ := h
    rfl
  · obtain ⟨lc, L, rfl, hG, hTB0, hask, hpos, hL, k⟩ := h
    obtain ⟨hrest, hbig⟩ := rest_start hask
    have nd := scAnswers.nd
    refine ⟨_, pss_cons (ps_set (i := 1) nd rfl (Or.inl rfl) (pe_make0 M GI (hr.mono (by decide)) rfl D.mgD bI .nil pass0))
      (pss_cons (ps_set (i := 2) nd rfl (Or.inl rfl) (pe_lst pa_nil))
      (pss_cons (ps_set (i := 3) nd rfl (Or.inl rfl) pe_int)
      (pss_cons (ps_while PassesOwn.never (pt_cmpR op_lt (pv 3) (pe_callB call_len_seq (by rfl) T.len PySem.boot_len (pa_cons (pv 0) pa_nil)) (nomark _))
        (pss_cons (ps_set (i := 4) nd rfl (Or.inl rfl) (pe_call G1 (hr.mono (by decide)) rfl m1 k1 b1 .nil pass0 (pa_cons (pv 0) (pa_cons (pv 3) pa_nil))))
        (pss_cons (ps_set (i := 5) nd rfl (Or.inl rfl) (pe_call G2 hr rfl m2 k2 b2 .nil pass0 (pa_cons (pv 1) (pa_cons (pv 4) pa_nil))))
        (pss_cons (ps_expr (pe_bm PySem.F.plainAttrs_list PySem.F.slot_list_append PySem.F.type_list_append mt_append (pv 2) (pa_cons (pe_callB call_len_seq (by rfl) T.len PySem.boot_len (pa_cons (pv 5) pa_nil)) pa_nil)))
        (pss_cons (ps_expr (pe_bm PySem.F.plainAttrs_list PySem.F.slot_list_extend PySem.F.type_list_extend mt_extend (pv 2) (pa_cons (pv 5) pa_nil)))
        (pss_one (ps_set (i := 3) nd rfl (Or.inl rfl) (pe_fld (pv 4) rfl))))))))
      (pss_one (ps_ret (pv 2)))))), ?_⟩
    intro dp ddx nx nxd nex
    refine ⟨dp, ddx, rfl, upd_same, fun H1 F0 a0 D0 kk hF0 => ⟨rfl, ?_⟩⟩
    have s1 : Same H H1 := Same.made nx nxd kk
    refine ⟨Nat.zero_le _, fun lt hlt => ?_⟩
    have hlt0 : lt ∉ F0.all dp := fresh_not D0 hlt
    have s2 : Same H1 (upd H1 lt (.lst [])) := Same.laid hlt
    -- the loop
    let Pv : L2.St → Hp → Prop := fun σ H' => ∃ (pre rest out told : List Int) (Fo : Foot) (sn : Su75Neutral.S) (v4 v5 : Option V), σ = [some (.ref lc), some (.ref dp), some (.ref lt), some (vn pre.length), v4, v5] ∧ L = pre ++ rest ∧ Given K H' lc (L.map V.int) ∧ TB H' ∧ DSt CS CR CD CB CN H' dp Fo sn ∧ lt ∉ Fo.all dp ∧
      H' lt = some (.lst (told.map V.int)) ∧ Rest sn rest out ∧ told ++ out = PySu75.answers L ∧ dnS sn ≤ pre.length
    refine while_by Pv (fun σ _ => L.length - (match σ with | [_, _, _, some (.int i), _, _] => i.toNat | _ => 0)) ?_ ?_ ?_
    · refine ⟨[], L, _, [], F0, none, none, none, rfl, rfl, ?_, ?_, ?_, hlt0, upd_same, hrest, rfl, Nat.le_refl _⟩
      · rcases hG with ⟨o, h⟩ | h
        · exact .inl ⟨o, s2 _ _ (s1 _ _ h)⟩
        · exact .inr h
      · exact hTB _ _ hTB0 fun b o h _ => s2 _ _ (s1 _ _ h)
      · exact ⟨a0, D0.same s2⟩
    · rintro σ H2 ⟨pre, rest, out, told, Fo, sn, v4, v5, rfl, eL, hG2, hTB2, hD2, hlt2, htold, hR, hout, hdn⟩
      refine ⟨_, rfl, _, rfl, lc, _, rfl, .inl hG2.seq, _, _, rfl, rfl, _, rfl, ?_⟩
      refine ite2 (fun e => ?_) fun e => ?_
      · have e : (pre.length : Int) < ((L.map V.int).length : Nat) := of_decide_eq_true e
        rw [List.length_map] at e
        cases rest with
        | nil => rw [eL, List.append_nil] at e; omega
        | cons p r =>
          obtain ⟨q, ns, row, t, used, out', rfl, N, hans, hR'⟩ := rest_cons hR fun z hz => hpos z (by rw [eL]; exact List.mem_append_right _ (.tail _ hz))
          -- call = read_call(calls, start)
          refine ⟨_, rfl, _, rfl, lc, L, pre, r, t, q, ns, row, used, rfl, hG2.seq, eL, N, fun H3 cp cdx ln lr s3 hcp0 hcp hln hlr => ?_⟩
          obtain ⟨bb, ab, hDa⟩ := hD2.some_at
          have hTB3 : TB H3 := hTB _ _ hTB2 fun b o h _ => s3 _ _ h
          have hrow0 : rowK q = false → row = [] := fun h => by
            rcases N.eq with ⟨_, a, _, _⟩ | ⟨a, _, _⟩
            · exact a
            · rw [h] at a; cases a
          -- answer = answer_call(depot, call)
          refine ⟨_, rfl, _, rfl, dp, cp, cdx, ln, lr, Fo, sn, q, _, ns, row, rfl, hD2.keep (fun b a h => h.same s3), hTB3, hcp, hln, hlr, N.q20, N.len, N.r10, hrow0, (by have e9 := congrArg List.length eL; rw [List.length_append] at e9; omega), fun H4 F4 la hD4 hTB4 hla k4 hF4 hla0 hlaF => ?_⟩
          have hlt3 : H3 lt = some (.lst (told.map V.int)) := s3 _ _ htold
          have hlt4 : H4 lt = some (.lst (told.map V.int)) := k4 _ _ hlt3 hlt2 (fun z => z)
          have hlaN : la ≠ lt := fun z => by rw [z, hlt3] at hla0; cases hla0
          have hcp4 : H4 cp = some (.ins CC cdx (fCall q ln lr (pre.length + 1 + used))) := k4 _ _ hcp (fresh_not hDa hcp0) (fun z => z)
          have hcpN : cp ≠ lt := ne_of hcp4 hlt4 (by intro z; cases z)
          have hltF4 : lt ∉ F4.all dp := fun z => by
            rcases hF4 lt z with y | y
            · exact hlt2 y
            · rw [hlt3] at y; cases y
          generalize hAns : (Su75Neutral.step sn ((q : Int) :: (asI ns ++ asI row))).2 = ans at hla hans
          have hlen : told.length + (1 + (ans.length + out'.length)) ≤ 10000000 := by
            have e9 := congrArg List.length hout
            rw [List.length_append, hans, List.length_cons, List.length_append] at e9
            omega
          -- told.append(len(answer))
          refine ⟨_, rfl, .inl ⟨rfl, _, SqL.of hlt4⟩, _, rfl, la, _, rfl, .inl (SqL.of hla), lt, _, _, rfl, rfl, hlt4, (by rw [List.length_map, sizeLine_eq]; omega), ?_⟩
          -- told.extend(answer)
          refine ⟨_, rfl, .inl ⟨rfl, _, SqL.of upd_same⟩, _, rfl, lt, la, _, _, rfl, rfl, upd_same, (upd_ne hlaN).trans hla, (by rw [List.length_append, List.length_map, List.length_map, List.length_singleton, sizeLine_eq]; omega), ?_⟩
          -- start = call.end
          refine ⟨_, rfl, cp, CC, cdx, _, _, rfl, (upd_ne hcpN).trans ((upd_ne hcpN).trans hcp4), C.cl, C.n4, rfl, ?_⟩
          obtain ⟨mid, em, hml⟩ := N.split
          have el : (pre ++ (q : Int) :: mid).length = pre.length + 1 + used := by rw [List.length_append, List.length_cons, hml]; omega
          refine ⟨⟨pre ++ (q : Int) :: mid, t, out', told ++ ((ans.length : Nat) : Int) :: ans, F4, _, some (.ref cp), some (.ref la), (by rw [el]; rfl), ?_, ?_, ?_, ?_, hltF4, ?_, hR', ?_, (by rw [el]; exact Nat.le_trans (step_done sn _) (by omega))⟩, ?_⟩
          · rw [eL, em, List.append_assoc]; rfl
          · rcases hG2 with ⟨o, h⟩ | h
            · refine .inl ⟨o, ?_⟩
              have h3 := s3 _ _ h
              have h4 := k4 _ _ h3 (own_kind (hDa.same s3) h3) (fun z => z)
              rw [upd_ne (ne_of h4 hlt4 (by intro z; cases z)), upd_ne (ne_of h4 hlt4 (by intro z; cases z))]
              exact h4
            · exact .inr h
          · refine hTB _ _ hTB4 fun b o h ht => ?_
            have hb : b ≠ lt := fun z => by rw [z, hlt4] at h; cases h; exact ht
            rw [upd_ne hb, upd_ne hb]
            exact h
          · exact hD4.keep fun b a h => depot_put (depot_put h hlt4 hltF4) upd_same hltF4
          · rw [upd_same]
            refine congrArg (fun z => some (HO.lst z)) ?_
            rw [List.map_append, List.map_cons, List.append_assoc, List.length_map]
            rfl
          · rw [← hout, hans, List.append_assoc]
            rfl
          · show L.length - (((pre.length + 1 + used : Nat) : Int)).toNat < L.length - ((pre.length : Nat) : Int).toNat
            rw [Int.toNat_natCast, Int.toNat_natCast]
            omega
      · have e : ¬ (pre.length : Int) < ((L.map V.int).length : Nat) := fun z => e (decide_eq_true z)
        rw [List.length_map] at e
        have er : rest = [] := by
          cases rest with
          | nil => rfl
          | cons p r => rw [eL, List.length_append, List.length_cons] at e; omega
        subst er
        have eo := rest_nil hR
        subst eo
        rw [List.append_nil] at hout
        subst hout
        exact ⟨_, rfl, k H2 lt htold⟩
    · rintro σ H2 Q1 Q2 hQ ⟨v, e1, v2, e2, p, ys, e3, e4, i, j, e5, e6, b, e7, hq⟩
      exact ⟨v, e1, v2, e2, p, ys, e3, e4, i, j, e5, e6, b, e7, hQ _ _ hq⟩
end
end CD
end

section
set_option Elab.async false
set_option linter.all false
set_option maxRecDepth 100000
set_option maxHeartbeats 4000000
namespace CD
open PySem PySem.Spec PyProof.Rows L2

abbrev sDoneInit : Stmt := inClass (top 1) 0
abbrev sB (j : Nat) : Stmt := inClass (top 2) j
def spDoneInit (CN : Addr) : Sp := fun vs H Q _ => ∃ (p dx : Addr) (lit : Nat) (x : Su75.Drop), vs = [.ref p, vn x.halt_, vn lit, vn x.at_, vn x.frost, vn x.short] ∧ H p = some (.ins CN dx []) ∧ Init1 CN p H (fDone lit x) Q
def spBookInit (CB : Addr) : Sp := fun vs H Q _ => ∃ (p dx : Addr), vs = [.ref p] ∧ H p = some (.ins CB dx []) ∧
  ∀ (H' : Hp) (ld : Addr), H ld = none → (∃ dx, H' p = some (.ins CB dx (fBook 0 ld))) → H' ld = some (.lst []) → (∀ b o, H b = some o → b ≠ p → H' b = some o) → Q .non H'
def spAddLoad (CB : Addr) : Sp := fun vs H Q _ => ∃ (p dx ld : Addr) (n : Nat), vs = [.ref p] ∧ H p = some (.ins CB dx (fBook n ld)) ∧
  ∀ H', H' p = some (.ins CB dx (fBook (n + 1) ld)) → But p H H' → Q .non H'
def spAddDrop (CB : Addr) : Sp := fun vs H Q _ => ∃ (p dx ld q : Addr) (n : Nat) (xs : List V), vs = [.ref p, .ref q] ∧ H p = some (.ins CB dx (fBook n ld)) ∧ H ld = some (.lst xs) ∧ xs.length < 1000000 ∧
  ∀ H', H' ld = some (.lst (xs ++ [.ref q])) → But ld H H' → Q .non H'
def spLitres (CB CN : Addr) : Sp := fun vs H Q _ => ∃ (bk ld : Addr) (a : Su75.Abs), vs = [.ref bk] ∧ BookAt CB CN H bk ld a ∧ a.done.length ≤ 1000000 ∧
  ∀ H', Same H H' → Q (vn (a.done.map fun x => (a.halt_ x.halt_).litres).sum) H'
def warms (l : List Su75.Drop) : List Nat := (l.filter fun x => x.short != 0).map Su75.Drop.short
def spTenths (CB CN : Addr) : Sp := fun vs H Q _ => ∃ (bk ld : Addr) (a : Su75.Abs), vs = [.ref bk] ∧ BookAt CB CN H bk ld a ∧ a.done.length ≤ 1000000 ∧
  ∀ H' l, Same H H' → H' l = some (.lst (vns (warms a.done))) → H l = none → Q (.ref l) H'
theorem sum_cast : ∀ (l : List Nat), (l.map fun n : Nat => (n : Int)).sum = ((l.sum : Nat) : Int)
  | [] => rfl
  | n :: l => by
    rw [List.map_cons, List.sum_cons, List.sum_cons, sum_cast l]
    omega
section
variable {P : Program} {w : World} {K : PySem.W.Frag} {mg : Str → Option Value} {base : Heap} {CS CR CT CP CD CB CN : Addr}
theorem scDoneInit : FnScope ["self", "number", "litres", "minute", "frost", "too_warm"] ["self", "number", "litres", "minute", "frost", "too_warm"] (defScope sDoneInit) := ⟨rfl, rfl, rfl, by decide +kernel, rfl, by decide +kernel, by decide +kernel⟩
theorem ok_doneInit {f : Addr} {fd : FuncData} (F : Fun K "__init__" "DoneDrop.__init__" sDoneInit f fd) (D : TD K mg CD CB CN) : FnOk P w K mg base CX0 1 f fd ["self", "number", "litres", "minute", "frost", "too_warm"] (spDoneInit CN) := by
  refine F.ok scDoneInit (fun vs H Q E h => ?_) (fun cdv A outer s H vs Q E hr h => ?_)
  · obtain ⟨p, dx, lit, x, rfl, _⟩ := h
    rfl
  · obtain ⟨p, dx, lit, x, rfl, hp, k⟩ := h
    refine ⟨_, pss_cons (ps_fld (pv 0) (pv 1) rfl) (pss_cons (ps_fld (pv 0) (pv 2) rfl) (pss_cons (ps_fld (pv 0) (pv 3) rfl) (pss_cons (ps_fld (pv 0) (pv 4) rfl) (pss_one (ps_fld (pv 0) (pv 5) rfl))))), ?_⟩
    refine ⟨_, rfl, _, rfl, p, CN, dx, _, rfl, hp, D.clN, D.nN1, (by decide), ?_⟩
    refine ⟨_, rfl, _, rfl, p, CN, dx, _, rfl, upd_same, D.clN, D.nN2, (by show 1 < 1000; decide), ?_⟩
    refine ⟨_, rfl, _, rfl, p, CN, dx, _, rfl, upd_same, D.clN, D.nN3, (by show 2 < 1000; decide), ?_⟩
    refine ⟨_, rfl, _, rfl, p, CN, dx, _, rfl, upd_same, D.clN, D.nN4, (by show 3 < 1000; decide), ?_⟩
    refine ⟨_, rfl, _, rfl, p, CN, dx, _, rfl, upd_same, D.clN, D.nN5, (by show 4 < 1000; decide), ?_⟩
    exact k _ ⟨dx, upd_same⟩ fun b o e hb => by rw [upd_ne hb, upd_ne hb, upd_ne hb, upd_ne hb, upd_ne hb]; exact e
theorem scBookInit : FnScope ["self"] ["self"] (defScope (sB 0)) := ⟨rfl, rfl, rfl, by decide +kernel, rfl, by decide +kernel, by decide +kernel⟩
theorem ok_bookInit {f : Addr} {fd : FuncData} (F : Fun K "__init__" "Book.__init__" (sB 0) f fd) (D : TD K mg CD CB CN) : FnOk P w K mg base CX0 1 f fd ["self"] (spBookInit CB) := by
  refine F.ok scBookInit (fun vs H Q E h => ?_) (fun cdv A outer s H vs Q E hr h => ?_)
  · obtain ⟨p, dx, rfl, _⟩ := h
    rfl
  · obtain ⟨p, dx, rfl, hp, k⟩ := h
    refine ⟨_, pss_cons (ps_fld (pv 0) pe_int rfl) (pss_one (ps_fld (pv 0) (pe_lst pa_nil) rfl)), ?_⟩
    refine ⟨_, rfl, p, CB, dx, _, rfl, hp, D.clB, D.nB1, (by decide), ?_⟩
    refine ⟨Nat.zero_le _, fun ld hld => ?_⟩
    obtain ⟨n1, hld0⟩ := ne_upd hld
    refine ⟨_, rfl, p, CB, dx, _, rfl, (upd_ne n1.symm).trans upd_same, D.clB, D.nB2, (by show 1 < 1000; decide), ?_⟩
    refine k _ ld hld0 ⟨dx, upd_same⟩ (by rw [upd_ne n1, upd_same]) fun b o e hb => ?_
    rw [upd_ne hb, upd_ne (ne_of_none e hld0), upd_ne hb]
    exact e
theorem scAddLoad : FnScope ["self"] ["self"] (defScope (sB 1)) := ⟨rfl, rfl, rfl, by decide +kernel, rfl, by decide +kernel, by decide +kernel⟩
theorem ok_addLoad {f : Addr} {fd : FuncData} (F : Fun K "add_load" "Book.add_load" (sB 1) f fd) (D : TD K mg CD CB CN) : FnOk P w K mg base CX0 1 f fd ["self"] (spAddLoad CB) := by
  refine F.ok scAddLoad (fun vs H Q E h => ?_) (fun cdv A outer s H vs Q E hr h => ?_)
  · obtain ⟨p, dx, ld, n, rfl, _⟩ := h
    rfl
  · obtain ⟨p, dx, ld, n, rfl, hp, k⟩ := h
    refine ⟨_, pss_one (ps_fldaug (pv 0) pe_int in_add), ?_⟩
    refine ⟨_, rfl, p, CB, dx, _, _, rfl, hp, D.clB, D.nB1, rfl, _, _, rfl, rfl, dx, _, hp, (by show 2 < 1000; decide), ?_⟩
    exact k _ upd_same fun b o h hb => by rw [upd_ne hb]; exact h
theorem scAddDrop : FnScope ["self", "drop"] ["self", "drop"] (defScope (sB 2)) := ⟨rfl, rfl, rfl, by decide +kernel, rfl, by decide +kernel, by decide +kernel⟩
theorem ok_addDrop {f : Addr} {fd : FuncData} (F : Fun K "add_drop" "Book.add_drop" (sB 2) f fd) (D : TD K mg CD CB CN) : FnOk P w K mg base CX0 1 f fd ["self", "drop"] (spAddDrop CB) := by
  refine F.ok scAddDrop (fun vs H Q E h => ?_) (fun cdv A outer s H vs Q E hr h => ?_)
  · obtain ⟨p, dx, ld, q, n, xs, rfl, _⟩ := h
    rfl
  · obtain ⟨p, dx, ld, q, n, xs, rfl, hp, hl, hlen, k⟩ := h
    refine ⟨_, pss_one (ps_expr (pe_bm PySem.F.plainAttrs_list PySem.F.slot_list_append PySem.F.type_list_append mt_append (pe_fld (pv 0) rfl) (pa_cons (pv 1) pa_nil))), ?_⟩
    refine ⟨_, rfl, p, CB, dx, _, _, rfl, hp, D.clB, D.nB2, rfl, .inl ⟨rfl, _, SqL.of hl⟩, _, rfl, ld, _, _, rfl, rfl, hl, (by rw [sizeLine_eq]; omega), ?_⟩
    exact k _ upd_same fun b o h hb => by rw [upd_ne hb]; exact h
theorem scLitres : FnScope ["self", "drop"] ["self"] (defScope (sB 3)) := ⟨rfl, rfl, rfl, by decide +kernel, rfl, by decide +kernel, by decide +kernel⟩
theorem blkLitres : BlkOk ["self", "drop"] (defScope (sB 3)) (lcScope (defBody (sB 3))) [("drop", 1)] := ⟨rfl, by decide +kernel, by decide +kernel, by decide +kernel, by decide +kernel⟩
theorem ok_litres {f : Addr} {fd : FuncData} (F : Fun K "litres_dropped" "Book.litres_dropped" (sB 3) f fd) (D : TD K mg CD CB CN) : FnOk P w K mg base CX0 1 f fd ["self"] (spLitres CB CN) := by
  refine F.ok scLitres (fun vs H Q E h => ?_) (fun cdv A outer s H vs Q E hr h => ?_)
  · obtain ⟨bk, ld, a, rfl, _⟩ := h
    rfl
  · obtain ⟨bk, ld, a, rfl, ⟨⟨dx, h1⟩, ⟨ds, h2, h3⟩⟩, hlen, k⟩ := h
    refine ⟨_, pss_one (ps_ret (pe_callB (cr_sum rfl) (by rfl) D.sum_ (by rfl) (pa_cons (pe_lc (own := [("drop", 1)]) (te := tFld K (tVar 1) "litres") rfl scLitres.nd (pi_list (pe_fld (pv 0) rfl)) blkLitres
      (fun _ _ _ _ _ => pg_name (i := 1) scLitres.nd rfl (Or.inl rfl)) (fun _ _ _ _ _ => pts_nil) (fun _ _ _ _ _ => pe_fld (pv 1) rfl)) pa_nil))), ?_⟩
    refine ⟨_, rfl, bk, CB, dx, _, _, rfl, h1, D.clB, D.nB2, rfl, ld, rfl, ⟨_, SqL.of h2⟩, fun L hL => ?_⟩
    refine lc_list (K := K) (a := ld) (xs := ds.map V.ref) (fun i H' => Same H H' ∧ H' L = some (.lst ((((a.done.take i).map fun x => (a.halt_ x.halt_).litres).map fun n : Nat => (n : Int)).map V.int))) ⟨Same.laid hL, upd_same⟩ (fun i H' _ h => Same.seq h.1 (SqL.of h2)) ?_ ?_
    · rintro i y H' hi ⟨s2, hL'⟩
      obtain ⟨p, x, rfl, hx, ⟨pdx, hp⟩⟩ := h3.at hi
      refine ⟨rfl, ?_⟩
      unfold tYes
      dsimp only
      rw [if_pos (rfl : true = true)]
      refine ⟨_, rfl, p, CN, pdx, _, _, rfl, s2 _ _ hp, D.clN, D.nN2, rfl, _, hL', ?_, fun b o q => ?_, ?_⟩
      · rw [List.length_map, List.length_map, List.length_map, List.length_take, sizeLine_eq]; omega
      · rw [upd_ne (fun z => by rw [z, hL] at q; cases q)]
        exact s2 b o q
      · rw [upd_same, take_snoc hx, List.map_append, List.map_append, List.map_append]
        rfl
    · rintro H' ⟨s2, hL'⟩
      rw [List.length_map, h3.1, List.take_length] at hL'
      refine ⟨L, _, rfl, SqL.of hL', ?_⟩
      rw [sum_cast]
      exact k H' s2
theorem scTenths : FnScope ["self", "drop"] ["self"] (defScope (sB 4)) := ⟨rfl, rfl, rfl, by decide +kernel, rfl, by decide +kernel, by decide +kernel⟩
theorem blkTenths : BlkOk ["self", "drop"] (defScope (sB 4)) (lcScope (defBody (sB 4))) [("drop", 1)] := ⟨rfl, by decide +kernel, by decide +kernel, by decide +kernel, by decide +kernel⟩
theorem ok_tenths {f : Addr} {fd : FuncData} (F : Fun K "tenths_too_warm" "Book.tenths_too_warm" (sB 4) f fd) (D : TD K mg CD CB CN) : FnOk P w K mg base CX0 1 f fd ["self"] (spTenths CB CN) := by
  refine F.ok scTenths (fun vs H Q E h => ?_) (fun cdv A outer s H vs Q E hr h => ?_)
  · obtain ⟨bk, ld, a, rfl, _⟩ := h
    rfl
  · obtain ⟨bk, ld, a, rfl, ⟨⟨dx, h1⟩, ⟨ds, h2, h3⟩⟩, hlen, k⟩ := h
    refine ⟨_, pss_one (ps_ret (pe_lc (own := [("drop", 1)]) (te := tFld K (tVar 1) "too_warm") rfl scTenths.nd (pi_list (pe_fld (pv 0) rfl)) blkTenths
      (fun _ _ _ _ _ => pg_name (i := 1) scTenths.nd rfl (Or.inl rfl)) (tt := tTest (tOp (rI0 fun i j => .bl (decide (j < i))) (tFld K (tVar 1) "too_warm") (tC (.int 0)))) (fun _ _ _ _ _ => pts_one (pt_cmpR op_gt (pe_fld (pv 1) rfl) pe_int (nomark _))) (fun _ _ _ _ _ => pe_fld (pv 1) rfl))), ?_⟩
    refine ⟨_, rfl, bk, CB, dx, _, _, rfl, h1, D.clB, D.nB2, rfl, ld, rfl, ⟨_, SqL.of h2⟩, fun L hL => ?_⟩
    refine lc_list (K := K) (a := ld) (xs := ds.map V.ref) (fun i H' => Same H H' ∧ H' L = some (.lst (vns (warms (a.done.take i))))) ⟨Same.laid hL, upd_same⟩ (fun i H' _ h => Same.seq h.1 (SqL.of h2)) ?_ ?_
    · rintro i y H' hi ⟨s2, hL'⟩
      obtain ⟨p, x, rfl, hx, ⟨pdx, hp⟩⟩ := h3.at hi
      refine ⟨rfl, _, rfl, p, CN, pdx, _, _, rfl, s2 _ _ hp, D.clN, D.nN5, rfl, _, _, rfl, rfl, _, rfl, ?_⟩
      refine ite2 (fun e => ?_) fun e => ?_
      · have e : (0 : Int) < (x.short : Int) := of_decide_eq_true e
        have e' : (x.short != 0) = true := by simp; omega
        refine ⟨_, rfl, p, CN, pdx, _, _, rfl, s2 _ _ hp, D.clN, D.nN5, rfl, _, hL', ?_, fun b o q => ?_, ?_⟩
        · rw [vns_len]
          unfold warms
          rw [List.length_map]
          have h1 := List.length_filter_le (fun x : Su75.Drop => x.short != 0) (a.done.take i)
          have h2 : (a.done.take i).length ≤ 1000000 := by rw [List.length_take]; omega
          rw [sizeLine_eq]; omega
        · rw [upd_ne (fun z => by rw [z, hL] at q; cases q)]
          exact s2 b o q
        · rw [upd_same]
          refine congrArg (fun z => some (HO.lst z)) ?_
          unfold warms
          rw [take_snoc hx, List.filter_append, List.filter_cons, if_pos e', List.map_append]
          show _ = List.map vn (_ ++ _)
          rw [List.map_append]
          rfl
      · have e' : ¬ (x.short != 0) = true := fun q => e (decide_eq_true (by simp at q; omega))
        refine ⟨s2, ?_⟩
        rw [hL']
        unfold warms
        rw [take_snoc hx, List.filter_append, List.filter_cons, if_neg e', List.filter_nil, List.append_nil]
    · rintro H' ⟨s2, hL'⟩
      rw [List.length_map, h3.1, List.take_length] at hL'
      exact k H' L s2 hL' hL
end
end CD
end

section
set_option Elab.async false
set_option linter.all false
set_option maxRecDepth 100000
set_option maxHeartbeats 4000000
namespace CD
open PySem PySem.Spec PyProof.Rows L2

theorem new_ok (r o l : Nat) : AbsOk (Su75.new r o l) := ⟨(fun s hs => by cases hs), List.nodup_nil, Nat.zero_le _, Nat.le_refl _, rfl, (fun q hq => by rw [List.mem_singleton.mp (show q ∈ [[0]] from hq)]; rfl), (fun x hx => by cases hx)⟩
theorem new_roads {CS CR : Addr} {H : Hp} {ra ls d rdx : Addr} {r o l : Nat} (h1 : H ra = some (.ins CR rdx (fRoads r o ls d))) (h2 : H ls = some (.lst [])) (h3 : H d = some (.dT [])) (hr : r ≤ 20) (ho : o ≤ 100) : RoadsAt CS CR H ra ls d (Su75.new r o l) := by
  refine ⟨⟨rdx, h1⟩, ⟨[], h2, rfl, (fun i p st q _ => by simp at q)⟩, ⟨[], h3, List.nodup_nil, (fun k hk => by cases hk), fun x y hx hy hn => ?_⟩, Nat.zero_le _, hr, ho⟩
  have hx : x ≤ 0 := hx
  have hy : y ≤ 0 := hy
  omega
/-- what clear_all finds -/
def Old (b : Bool) (fs : List (Str × V)) : Prop := fs = ([(("begun" : Str), V.bl b)] : List (Str × V)) ∨ ∃ F a, fs = fDepot b F a
def spClearAll (CS CR CD CB CN : Addr) : Sp := fun vs H Q _ => ∃ (dp dx : Addr) (b : Bool) (fs : List (Str × V)) (r o l : Nat), vs = [.ref dp, vn r, vn o, vn l] ∧ H dp = some (.ins CD dx fs) ∧ Old b fs ∧ r ≤ 20 ∧ o ≤ 100 ∧ (b = true → 0 < r) ∧
  ∀ (H' : Hp) (F : Foot), DepotAt CS CR CD CB CN H' dp F b (Su75.new r o l) → But dp H H' → (∀ x ∈ F.all dp, x = dp ∨ H x = none) → Q .non H'
theorem old_put (b : Bool) {fs : List (Str × V)} (h : Old b fs) (F : Foot) (r o l : Nat) : putF "book" (.ref F.bk) (putF "undelivered" (.ref F.lu) (putF "frost" (.int 0) (putF "place" (.int 0) (putF "minute" (.int 0) (putF "room" (vn l) (putF "roads" (.ref F.ra) fs)))))) = fDepot b F (Su75.new r o l) := by
  rcases h with rfl | ⟨F0, a, rfl⟩
  · rfl
  · rfl
theorem old_len (b : Bool) {fs : List (Str × V)} (h : Old b fs) : fs.length ≤ 8 := by
  rcases h with rfl | ⟨F0, a, rfl⟩
  · show 1 ≤ 8; decide
  · show 8 ≤ 8; decide
theorem put_len {f : Str} {v : V} {fs : List (Str × V)} {n : Nat} (h : fs.length ≤ n) : (putF f v fs).length ≤ n + 1 := Nat.le_trans (length_putF f v fs) (by omega)
section
variable {P : Program} {w : World} {K : PySem.W.Frag} {mg : Str → Option Value} {base : Heap} {CS CR CT CP CD CB CN : Addr}
theorem scClearAll : FnScope ["self", "way_loss", "door_loss", "room"] ["self", "way_loss", "door_loss", "room"] (defScope (sD 1)) := ⟨rfl, rfl, rfl, by decide +kernel, rfl, by decide +kernel, by decide +kernel⟩
theorem ok_clearAll {f fI fB : Addr} {fd fdI fdB : FuncData} (F : Fun K "clear_all" "Depot.clear_all" (sD 1) f fd) (T : TR K mg CS CR CT CP) (D : TD K mg CD CB CN)
    (M : Mk K CR fI) (GI : FnOk P w K mg base CX0 1 fI fdI ["self", "way_loss", "door_loss"] (spRoadsInit CR)) (bI : Binds K fdI ["self", "way_loss", "door_loss"] [])
    (MB : Mk K CB fB) (GB : FnOk P w K mg base CX0 1 fB fdB ["self"] (spBookInit CB)) (bB : Binds K fdB ["self"] []) :
    FnOk P w K mg base CX0 3 f fd ["self", "way_loss", "door_loss", "room"] (spClearAll CS CR CD CB CN) := by
  obtain ⟨tw, hw⟩ := T.works
  refine F.ok scClearAll (fun vs H Q E h => ?_) (fun cdv A outer s H vs Q E hr h => ?_)
  · obtain ⟨dp, dx, b, fs, r, o, l, rfl, _⟩ := h
    rfl
  · obtain ⟨dp, dx, b, fs, r, o, l, rfl, hdp, hold, hr20, ho, hr1, k⟩ := h
    have hfs := old_len b hold
    refine ⟨_, pss_cons (ps_fld (pv 0) (pe_make M GI hr rfl T.mgR bI .nil pass0 (pa_cons (pv 1) (pa_cons (pv 2) pa_nil))) rfl)
      (pss_cons (ps_fld (pv 0) (pv 3) rfl) (pss_cons (ps_fld (pv 0) pe_int rfl) (pss_cons (ps_fld (pv 0) (pe_glob (v := .int 0) rfl hw ⟨_, rfl⟩) rfl) (pss_cons (ps_fld (pv 0) pe_int rfl) (pss_cons (ps_fld (pv 0) (pe_lst pa_nil) rfl) (pss_one (ps_fld (pv 0) (pe_make0 MB GB hr rfl D.mgB bB .nil pass0) rfl))))))), ?_⟩
    refine ⟨_, rfl, _, rfl, fun x xd nx nxd nex => ⟨x, xd, r, o, rfl, upd_same, fun H1 ls d hls hd hx h1 h2 hk => ⟨rfl, ?_⟩⟩⟩
    obtain ⟨xd', hx⟩ := hx
    have s1 : Same H H1 := Same.made nx nxd hk
    have ndp : x ≠ dp := fun z => by rw [z, hdp] at nx; cases nx
    have hls0 : H ls = none := (ne_upd (ne_upd hls).2).2
    have hd0 : H d = none := (ne_upd (ne_upd hd).2).2
    have l1 : (putF "roads" (.ref x) fs).length ≤ 9 := put_len hfs
    have l2 : (putF "room" (vn l) (putF "roads" (.ref x) fs)).length ≤ 10 := put_len l1
    have l3 : (putF "minute" (.int 0) (putF "room" (vn l) (putF "roads" (.ref x) fs))).length ≤ 11 := put_len l2
    have l4 : (putF "place" (.int 0) (putF "minute" (.int 0) (putF "room" (vn l) (putF "roads" (.ref x) fs)))).length ≤ 12 := put_len l3
    have l5 : (putF "frost" (.int 0) (putF "place" (.int 0) (putF "minute" (.int 0) (putF "room" (vn l) (putF "roads" (.ref x) fs))))).length ≤ 13 := put_len l4
    refine ⟨_, rfl, dp, CD, dx, _, rfl, s1 _ _ hdp, D.cl, D.n2, (by omega), ?_⟩
    refine ⟨_, rfl, _, rfl, dp, CD, dx, _, rfl, upd_same, D.cl, D.n3, (by omega), ?_⟩
    refine ⟨_, rfl, dp, CD, dx, _, rfl, upd_same, D.cl, D.n4, (by omega), ?_⟩
    refine ⟨_, rfl, dp, CD, dx, _, rfl, upd_same, D.cl, D.n5, (by omega), ?_⟩
    refine ⟨_, rfl, dp, CD, dx, _, rfl, upd_same, D.cl, D.n6, (by omega), ?_⟩
    refine ⟨Nat.zero_le _, fun lu hlu => ?_⟩
    obtain ⟨u1, hlu⟩ := ne_upd hlu
    obtain ⟨_, hlu⟩ := ne_upd hlu
    obtain ⟨_, hlu⟩ := ne_upd hlu
    obtain ⟨_, hlu⟩ := ne_upd hlu
    obtain ⟨_, hlu⟩ := ne_upd hlu
    have l6 : (putF "undelivered" (.ref lu) (putF "frost" (.int 0) (putF "place" (.int 0) (putF "minute" (.int 0) (putF "room" (vn l) (putF "roads" (.ref x) fs)))))).length ≤ 14 := put_len l5
    refine ⟨_, rfl, dp, CD, dx, _, rfl, (upd_ne u1.symm).trans upd_same, D.cl, D.n7, (by omega), ?_⟩
    have kk : ∀ (b' : Addr) (ob : HO), H1 b' = some ob → b' ≠ dp → ∀ fs1 fs2 fs3 fs4 fs5 fs6 : HO, upd (upd (upd (upd (upd (upd (upd H1 dp fs1) dp fs2) dp fs3) dp fs4) dp fs5) lu (.lst [])) dp fs6 b' = some ob := fun b' ob h hb fs1 fs2 fs3 fs4 fs5 fs6 => by
      rw [upd_ne hb, upd_ne (ne_of_none h hlu), upd_ne hb, upd_ne hb, upd_ne hb, upd_ne hb, upd_ne hb]
      exact h
    have hxl : x ≠ ls := fun z => by rw [z, h1] at hx; cases hx
    have nls : ls ≠ dp := fun z => by rw [z, hdp] at hls0; cases hls0
    have ndd : d ≠ dp := fun z => by rw [z, hdp] at hd0; cases hd0
    -- the book
    intro y yd ny nyd ney
    refine ⟨y, yd, rfl, upd_same, fun H7 ld hld hy hldl hk7 => ⟨rfl, ?_⟩⟩
    have s7 := Same.made ny nyd hk7
    have hdp7 := s7 _ _ upd_same
    have fl : ∀ b' ob, H1 b' = some ob → b' ≠ dp → H7 b' = some ob := fun b' ob h hb => s7 _ _ (kk b' ob h hb _ _ _ _ _ _)
    have hlu7 : H7 lu = some (.lst []) := s7 _ _ ((upd_ne u1).trans upd_same)
    obtain ⟨yd', hy⟩ := hy
    have ydp : y ≠ dp := fun z => by rw [z, upd_same] at ny; cases ny
    have ny1 : H1 y = none := by
      cases e : H1 y with
      | none => rfl
      | some ob => rw [kk y ob e ydp _ _ _ _ _ _] at ny; cases ny
    have hld6 := (ne_upd (ne_upd hld).2).2
    have ldp : ld ≠ dp := fun z => by rw [z, upd_same] at hld6; cases hld6
    have hld1 : H1 ld = none := by
      cases e : H1 ld with
      | none => rfl
      | some ob => rw [kk ld ob e ldp _ _ _ _ _ _] at hld6; cases hld6
    have ldu : ld ≠ lu := fun z => by rw [z, upd_ne u1, upd_same] at hld6; cases hld6
    refine ⟨_, rfl, dp, CD, dx, _, rfl, hdp7, D.cl, D.n8, (by omega), ?_⟩
    have up : ∀ b' ob o1, H7 b' = some ob → b' ≠ dp → upd H7 dp o1 b' = some ob := fun b' ob o1 h hb => by rw [upd_ne hb]; exact h
    refine k _ ⟨x, ls, d, lu, y, ld⟩ ⟨⟨dx, ?_⟩, new_roads (up _ _ _ (fl _ _ hx ndp) ndp) (up _ _ _ (fl _ _ h1 nls) nls) (up _ _ _ (fl _ _ h2 ndd) ndd) hr20 ho, up _ _ _ hlu7 u1, new_ok r o l, ?_, ⟨⟨yd', up _ _ _ hy ydp⟩, ⟨[], up _ _ _ hldl ldp, Each.nil⟩⟩, ?_, ldu, hr1⟩ (fun b' ob h hb => up _ _ _ (fl b' ob (s1 _ _ h) hb) hb) fun z hz => ?_
    · rw [upd_same]
      exact congrArg (fun z => some (HO.ins CD dx z)) (old_put b hold ⟨x, ls, d, lu, y, ld⟩ r o l)
    · exact fun z => by
        have z : lu = ls := z
        rw [z, h1] at hlu; cases hlu
    · exact fun z => by
        have z : ld = ls := z
        rw [z, h1] at hld1; cases hld1
    · unfold Foot.all at hz
      simp only [List.mem_cons, List.not_mem_nil, or_false] at hz
      rcases hz with z | z | z | z | z | z | z
      · exact .inl z
      · rw [z]; exact .inr nx
      · rw [z]; exact .inr hls0
      · rw [z]; exact .inr hd0
      · rw [z]; exact .inr (s1.free hlu)
      · rw [z]; exact .inr (s1.free ny1)
      · rw [z]; exact .inr (s1.free hld1)
theorem scDepotInit : FnScope ["self"] ["self"] (defScope (sD 0)) := ⟨rfl, rfl, rfl, by decide +kernel, rfl, by decide +kernel, by decide +kernel⟩
theorem ok_depotInit {f f1 : Addr} {fd fd1 : FuncData} (F : Fun K "__init__" "Depot.__init__" (sD 0) f fd) (D : TD K mg CD CB CN)
    (m1 : Meth K CD "clear_all" f1) (G1 : FnOk P w K mg base CX0 3 f1 fd1 ["self", "way_loss", "door_loss", "room"] (spClearAll CS CR CD CB CN)) (b1 : Binds K fd1 ["self", "way_loss", "door_loss", "room"] []) :
    FnOk P w K mg base CX0 4 f fd ["self"] (spDepotInit CS CR CD CB CN) := by
  refine F.ok scDepotInit (fun vs H Q E h => ?_) (fun cdv A outer s H vs Q E hr h => ?_)
  · obtain ⟨p, dx, rfl, _⟩ := h
    rfl
  · obtain ⟨p, dx, rfl, hp, k⟩ := h
    refine ⟨_, pss_cons (ps_fld (pv 0) pe_bl rfl) (pss_one (ps_expr (pe_meth (pv 0) D.cl m1 G1 hr b1 .nil pass0 (pa_cons pe_int (pa_cons pe_int (pa_cons pe_int pa_nil)))))), ?_⟩
    refine ⟨_, rfl, p, CD, dx, _, rfl, hp, D.cl, D.n1, (by decide), ?_⟩
    refine ⟨_, rfl, p, dx, _, rfl, upd_same, rfl, p, dx, false, _, 0, 0, 0, rfl, upd_same, .inl rfl, by decide, by decide, (fun z => by cases z), fun H' F hD hk hF => ?_⟩
    refine k H' F _ hD (fun b o h hb => hk b o (by rw [upd_ne hb]; exact h) hb) fun b hb => ?_
    rcases hF b hb with z | z
    · exact .inl z
    · exact .inr (ne_upd z).2
def spBegin (CS CR CD CB CN : Addr) : Sp := fun vs H Q _ => ∃ (dp : Addr) (F : Foot) (b : Bool) (a : Su75.Abs) (r o l : Nat), vs = [.ref dp, vn r, vn o, vn l] ∧ DepotAt CS CR CD CB CN H dp F b a ∧
  (∀ (H' : Hp) (ll : Addr), (r = 0 ∨ 20 < r ∨ o < r ∨ 100 < o ∨ l = 0 ∨ 100000 < l) → Same H H' → H' ll = some (.lst [V.int (-22)]) → H ll = none → Q (.ref ll) H') ∧
  ∀ (H' : Hp) (F' : Foot) (ll : Addr), ¬ (r = 0 ∨ 20 < r ∨ o < r ∨ 100 < o ∨ l = 0 ∨ 100000 < l) → DepotAt CS CR CD CB CN H' dp F' true (Su75.new r o l) → H' ll = some (.lst [V.int 0]) → H ll = none → Kp H H' (F.all dp) (F'.all dp) → ll ∉ F'.all dp → Q (.ref ll) H'
theorem scBegin : FnScope ["self", "way_loss", "door_loss", "room"] ["self", "way_loss", "door_loss", "room"] (defScope (sD 2)) := ⟨rfl, rfl, rfl, by decide +kernel, rfl, by decide +kernel, by decide +kernel⟩
theorem ok_begin {f f1 f2 : Addr} {fd fd1 fd2 : FuncData} (F : Fun K "begin" "Depot.begin" (sD 2) f fd) (D : TD K mg CD CB CN)
    (m1 : Meth K CD "clear_all" f1) (G1 : FnOk P w K mg base CX0 3 f1 fd1 ["self", "way_loss", "door_loss", "room"] (spClearAll CS CR CD CB CN)) (b1 : Binds K fd1 ["self", "way_loss", "door_loss", "room"] [])
    (m2 : mg "within" = some (.ref f2)) (k2 : PySem.W.keepIn K (.ref f2) = true) (G2 : FnOk P w K mg base CX0 1 f2 fd2 ["value", "least", "most"] spWithin) (b2 : Binds K fd2 ["value", "least", "most"] []) :
    FnOk P w K mg base CX0 4 f fd ["self", "way_loss", "door_loss", "room"] (spBegin CS CR CD CB CN) := by
  obtain ⟨t22, h22⟩ := D.i22
  obtain ⟨tA, hA⟩ := D.c20
  obtain ⟨tB, hB⟩ := D.c100
  obtain ⟨tC, hC⟩ := D.c100000
  refine F.ok scBegin (fun vs H Q E h => ?_) (fun cdv A outer s H vs Q E hr h => ?_)
  · obtain ⟨dp, F, b, a, r, o, l, rfl, _⟩ := h
    rfl
  · obtain ⟨dp, F, b, a, r, o, l, rfl, DA, kno, kyes⟩ := h
    obtain ⟨dx, hdp⟩ := DA.ins
    have hr1 : Room 1 _ := hr.mono (by decide)
    refine ⟨_, pss_cons (ps_if (pt_not (pt_val (pe_call G2 hr1 rfl m2 k2 b2 .nil pass0 (pa_cons (pv 1) (pa_cons pe_int (pa_cons (pe_glob (v := .int 20) rfl hA ⟨_, rfl⟩) pa_nil)))))) (pss_one (ps_ret (pe_lst (pa_cons (pe_glob (v := .int (-22)) rfl h22 ⟨_, rfl⟩) pa_nil)))) pss_nil)
      (pss_cons (ps_if (PW.pt (pw_or (pt_not (pt_val (pe_call G2 hr1 rfl m2 k2 b2 .nil pass0 (pa_cons (pv 2) (pa_cons (pv 1) (pa_cons (pe_glob (v := .int 100) rfl hB ⟨_, rfl⟩) pa_nil)))))) (pw_or1 (pt_not (pt_val (pe_call G2 hr1 rfl m2 k2 b2 .nil pass0 (pa_cons (pv 3) (pa_cons pe_int (pa_cons (pe_glob (v := .int 100000) rfl hC ⟨_, rfl⟩) pa_nil))))))))) (pss_one (ps_ret (pe_lst (pa_cons (pe_glob (v := .int (-22)) rfl h22 ⟨_, rfl⟩) pa_nil)))) pss_nil)
      (pss_cons (ps_fld (pv 0) pe_bl rfl)
      (pss_cons (ps_expr (pe_meth (pv 0) D.cl m1 G1 hr b1 .nil pass0 (pa_cons (pv 1) (pa_cons (pv 2) (pa_cons (pv 3) pa_nil)))))
      (pss_one (ps_ret (pe_lst (pa_cons pe_int pa_nil))))))), ?_⟩
    refine ⟨_, rfl, r, 1, 20, rfl, _, rfl, ?_⟩
    refine ite2 (fun e => ?_) fun e => ?_
    · have e : ¬ (1 ≤ r ∧ r ≤ 20) := by simp at e; omega
      exact ⟨(by show 1 ≤ sizeLine; decide), fun ll hl => kno _ ll (by omega) (Same.laid hl) upd_same hl⟩
    · have e : 1 ≤ r ∧ r ≤ 20 := by simp at e; omega
      refine ⟨_, rfl, _, rfl, o, r, 100, rfl, _, rfl, ?_⟩
      refine ite2 (fun e2 => iteT ?_) fun e2 => ?_
      · have e2 : ¬ (r ≤ o ∧ o ≤ 100) := by simp at e2; omega
        exact ⟨(by show 1 ≤ sizeLine; decide), fun ll hl => kno _ ll (by omega) (Same.laid hl) upd_same hl⟩
      · have e2 : r ≤ o ∧ o ≤ 100 := by simp at e2; omega
        refine ⟨_, rfl, l, 1, 100000, rfl, _, rfl, ?_⟩
        refine ite2 (fun e3 => ?_) fun e3 => ?_
        · have e3 : ¬ (1 ≤ l ∧ l ≤ 100000) := by simp at e3; omega
          exact ⟨(by show 1 ≤ sizeLine; decide), fun ll hl => kno _ ll (by omega) (Same.laid hl) upd_same hl⟩
        · have e3 : 1 ≤ l ∧ l ≤ 100000 := by simp at e3; omega
          refine ⟨_, rfl, dp, CD, dx, _, rfl, hdp, D.cl, D.n1, (by show 8 < 1000; decide), ?_⟩
          refine ⟨_, rfl, dp, dx, _, rfl, upd_same, rfl, _, rfl, _, rfl, _, rfl, dp, dx, true, _, r, o, l, rfl, upd_same, .inr ⟨F, a, rfl⟩, e.2, e2.2, (fun _ => e.1), fun H' F' hD hk hF => ?_⟩
          refine ⟨(by show 1 ≤ sizeLine; decide), fun ll hl => ?_⟩
          have kb : But dp H H' := fun b' ob h hb => hk b' ob (by rw [upd_ne hb]; exact h) hb
          have s2 : Same H' (upd H' ll (.lst [V.int 0])) := Same.laid hl
          obtain ⟨dx', hdp'⟩ := hD.ins
          have hl0 : H ll = none := But.free kb hl fun z => by rw [z, hdp'] at hl; cases hl
          refine kyes _ F' ll (by omega) (hD.same s2) upd_same hl0 ⟨fun b' ob h hb => s2 _ _ (kb b' ob h fun z => hb (by rw [z]; exact .head _)), fun b' hb => ?_⟩ (fresh_not hD hl)
          rcases hF b' hb with z | z
          · rw [z]; exact .inl (.head _)
          · exact .inr (ne_upd z).2
end
end CD
end

section
set_option Elab.async false
set_option linter.all false
set_option maxRecDepth 100000
set_option maxHeartbeats 4000000
namespace CD
open PySem PySem.Spec PyProof.Rows L2

def spDriveTo (CS CR CD CB CN : Addr) : Sp := fun vs H Q _ => ∃ (dp : Addr) (F : Foot) (b : Bool) (a : Su75.Abs) (n : Nat), vs = [.ref dp, vn n] ∧ DepotAt CS CR CD CB CN H dp F b a ∧ a.done.length ≤ 10000 ∧ Acts CS CR CD CB CN H dp F b a (.drive n) Q
theorem erase_filter {l : List Nat} (h : l.Nodup) (n : Nat) : l.erase n = l.filter fun x => x != n := List.Nodup.erase_eq_filter h n
theorem vns_erase (l : List Nat) (n : Nat) : ((l.map fun m : Nat => (m : Int)).erase (n : Int)).map V.int = vns (l.erase n) := by
  induction l with
  | nil => rfl
  | cons m l ih =>
    by_cases e : m = n
    · subst e
      rw [List.map_cons, List.erase_cons_head, List.erase_cons_head, vns_ints]
    · rw [List.map_cons, List.erase_cons_tail (by simpa using fun q : (m : Int) = (n : Int) => e (by omega)), List.erase_cons_tail (by simpa using e), List.map_cons, ih]
      rfl
theorem roads_lst {CS CR : Addr} {H H' : Hp} {ra ls d l : Addr} {a : Su75.Abs} {xs : List V} (R : RoadsAt CS CR H ra ls d a) (hl : H l = some (.lst xs)) (hn : l ≠ ls) (k : But l H H') : RoadsAt CS CR H' ra ls d a := by
  obtain ⟨⟨rdx, r1⟩, ⟨ss, r2, r3, r4⟩, ⟨kvs, r5, r6⟩, r7, r8, r9⟩ := R
  refine ⟨⟨rdx, k _ _ r1 (ne_of r1 hl (by intro z; cases z))⟩, ⟨ss, k _ _ r2 (Ne.symm hn), r3, fun i p st q1 q2 => ?_⟩, ⟨kvs, k _ _ r5 (ne_of r5 hl (by intro z; cases z)), r6⟩, r7, r8, r9⟩
  obtain ⟨sdx, h⟩ := r4 i p st q1 q2
  exact ⟨sdx, k _ _ h (ne_of h hl (by intro z; cases z))⟩
/-- where the door has been opened -/
def atDrop (a : Su75.Abs) (n want : Nat) : Su75.Abs := { a with now_ := a.now_ + a.mins a.place (n + 1), frost := a.frost - a.mins a.place (n + 1) * a.run, place := n + 1, done := a.done ++ [⟨n, a.now_ + a.mins a.place (n + 1), a.frost - a.mins a.place (n + 1) * a.run, want - (a.frost - a.mins a.place (n + 1) * a.run)⟩] }
theorem but_upd {H : Hp} {l : Addr} {o : HO} : But l H (upd H l o) := fun b u h hb => by rw [upd_ne hb]; exact h
section
variable {P : Program} {w : World} {K : PySem.W.Frag} {mg : Str → Option Value} {base : Heap} {CS CR CT CP CD CB CN : Addr}
theorem scDriveTo : FnScope ["self", "number", "stop", "drop"] ["self", "number"] (defScope (sD 10)) := ⟨rfl, rfl, rfl, by decide +kernel, rfl, by decide +kernel, by decide +kernel⟩
theorem ok_driveTo {f f1 f2 f3 f4 f5 : Addr} {fd fd1 fd2 fd3 fd4 fd5 : FuncData} (F : Fun K "drive_to" "Depot.drive_to" (sD 10) f fd) (T : TR K mg CS CR CT CP) (D : TD K mg CD CB CN)
    (m1 : Meth K CD "go_to" f1) (G1 : FnOk P w K mg base CX0 2 f1 fd1 ["self", "place"] (spGoTo CS CR CD CB CN)) (b1 : Binds K fd1 ["self", "place"] [])
    (m2 : Meth K CD "pass_minutes" f2) (G2 : FnOk P w K mg base CX0 1 f2 fd2 ["self", "minutes", "loss"] (spPass CD)) (b2 : Binds K fd2 ["self", "minutes", "loss"] [])
    (m3 : mg "place_of" = some (.ref f3)) (k3 : PySem.W.keepIn K (.ref f3) = true) (G3 : FnOk P w K mg base CX0 1 f3 fd3 ["number"] spPlaceOf) (b3 : Binds K fd3 ["number"] [])
    (M4 : Mk K CN f4) (G4 : FnOk P w K mg base CX0 1 f4 fd4 ["self", "number", "litres", "minute", "frost", "too_warm"] (spDoneInit CN)) (b4 : Binds K fd4 ["self", "number", "litres", "minute", "frost", "too_warm"] [])
    (m5 : Meth K CB "add_drop" f5) (G5 : FnOk P w K mg base CX0 1 f5 fd5 ["self", "drop"] (spAddDrop CB)) (b5 : Binds K fd5 ["self", "drop"] []) :
    FnOk P w K mg base CX0 3 f fd ["self", "number"] (spDriveTo CS CR CD CB CN) := by
  obtain ⟨t2, h2⟩ := D.i2
  refine F.ok scDriveTo (fun vs H Q E h => ?_) (fun cdv A outer s H vs Q E hr h => ?_)
  · obtain ⟨dp, F, b, a, n, rfl, _⟩ := h
    rfl
  · obtain ⟨dp, F, b, a, n, rfl, DA, hdn, k⟩ := h
    obtain ⟨dx, hdp⟩ := DA.ins
    obtain ⟨rdx, hra⟩ := DA.roads.ins
    obtain ⟨ss, hls, hss, hst⟩ := DA.roads.lst
    have nd := scDriveTo.nd
    have hr1 : Room 1 _ := hr.mono (by decide)
    refine ⟨_, pss_cons (ps_if (pt_cmpR op_notIn_seq (pv 1) (pe_fld (pv 0) rfl) (by with_unfolding_all rfl)) (pss_one (ps_ret (pe_lst (pa_cons (pe_glob (v := .int (-2)) rfl h2 ⟨_, rfl⟩) pa_nil)))) pss_nil)
      (pss_cons (ps_set (i := 2) nd rfl (Or.inl rfl) (pe_ix ix_list (pe_fld (pe_fld (pv 0) rfl) rfl) (pv 1) (fun _ _ => rfl)))
      (pss_cons (ps_expr (pe_meth (pv 0) D.cl m1 G1 hr b1 .nil pass0 (pa_cons (pe_call G3 hr1 rfl m3 k3 b3 .nil pass0 (pa_cons (pv 1) pa_nil)) pa_nil)))
      (pss_cons (ps_set (i := 3) nd rfl (Or.inl rfl) (pe_make M4 G4 hr rfl D.mgN b4 .nil pass0 (pa_cons (pv 1) (pa_cons (pe_fld (pv 2) rfl) (pa_cons (pe_fld (pv 0) rfl) (pa_cons (pe_fld (pv 0) rfl) (pa_cons (pe_callB (call_max2 rfl) (by rfl) T.max (by rfl) (pa_cons pe_int (pa_cons (pe_op op_sub (pe_fld (pv 2) rfl) (pe_fld (pv 0) rfl)) pa_nil))) pa_nil)))))))
      (pss_cons (ps_expr (pe_meth (pe_fld (pv 0) rfl) D.clB m5 G5 hr1 b5 .nil pass0 (pa_cons (pv 3) pa_nil)))
      (pss_cons (ps_expr (pe_meth (pv 0) D.cl m2 G2 hr1 b2 .nil pass0 (pa_cons (pe_fld (pv 2) rfl) (pa_cons (pe_fld (pe_fld (pv 0) rfl) rfl) pa_nil))))
      (pss_cons (ps_expr (pe_bm PySem.F.plainAttrs_list PySem.F.slot_list_remove PySem.F.type_list_remove mt_remove (pe_fld (pv 0) rfl) (pa_cons (pv 1) pa_nil)))
      (pss_one (ps_ret (pe_lst (pa_cons (pe_fld (pv 3) rfl) (pa_cons (pe_fld (pv 3) rfl) (pa_cons (pe_fld (pv 3) rfl) pa_nil)))))))))))), ?_⟩
    refine ⟨_, rfl, _, rfl, dp, CD, dx, _, _, rfl, hdp, D.cl, D.n7, rfl, F.lu, _, rfl, .inl (SqL.of DA.und), rfl, flat_vns _, _, rfl, ?_⟩
    have ein := in_vns n a.to_
    refine ite2 (fun e => ?_) fun e => ?_
    · have e : a.to_.contains n = false := by rw [← ein]; simpa using e
      have ed : Su75.does a (.drive n) = (a, Su75.no (-2)) := if_pos e
      refine ⟨(by show 1 ≤ sizeLine; decide), fun l hl => ?_⟩
      have s1 : Same H (upd H l (.lst [V.int (-2)])) := Same.laid hl
      exact k _ F l (by rw [ed]; exact DA.same s1) (by rw [ed, upd_same]; rfl) hl (Kp.of_same s1) (fresh_not DA hl)
    · have e : a.to_.contains n = true := by rw [← ein]; simpa using e
      have hn : n ∈ a.to_ := by simpa using e
      have hns := DA.ok.to_ n hn
      obtain ⟨sp, hsp⟩ : ∃ sp, ss[n]? = some sp := ⟨_, List.getElem?_eq_getElem (by omega)⟩
      obtain ⟨st, hstn⟩ : ∃ st, a.stops[n]? = some st := ⟨_, List.getElem?_eq_getElem hns⟩
      obtain ⟨sdx, hs⟩ := hst n sp st hsp hstn
      have eh := halt_of hstn
      -- stop = ..; self.go_to(place_of(number))
      refine ⟨_, rfl, dp, CD, dx, _, _, rfl, hdp, D.cl, D.n2, rfl, F.ra, CR, rdx, _, _, rfl, hra, T.clR, T.nR3, rfl, _, rfl, F.ls, _, _, _, rfl, rfl, SqL.of hls, atI_nat (v := .ref sp) (by rw [List.getElem?_map, hsp]; rfl), ?_⟩
      refine ⟨_, rfl, dp, dx, _, rfl, hdp, rfl, _, rfl, n, rfl, dp, F, b, a, n + 1, rfl, DA, hns, fun H1 DA1 k1 => ?_⟩
      obtain ⟨dx1, hdp1⟩ := DA1.ins
      obtain ⟨rdx1, hra1⟩ := DA1.roads.ins
      have hs1 : H1 sp = some (.ins CS sdx (fStop st)) := k1 _ _ hs (dp_ne_st hdp hs)
      -- drop = DoneDrop(..)
      refine ⟨_, rfl, _, rfl, sp, CS, sdx, _, _, rfl, hs1, T.clS, T.nS3, rfl, _, rfl, dp, CD, dx1, _, _, rfl, hdp1, D.cl, D.n4, rfl, _, rfl, dp, CD, dx1, _, _, rfl, hdp1, D.cl, D.n6, rfl,
        _, rfl, sp, CS, sdx, _, _, rfl, hs1, T.clS, T.nS2, rfl, _, rfl, dp, CD, dx1, _, _, rfl, hdp1, D.cl, D.n6, rfl, _, _, rfl, rfl, _, _, rfl, fun x xd nx nxd nex => ?_⟩
      refine ⟨x, xd, st.litres, ⟨n, a.now_ + a.mins a.place (n + 1), a.frost - a.mins a.place (n + 1) * a.run, st.want - (a.frost - a.mins a.place (n + 1) * a.run)⟩, ?_, upd_same, fun H2 hx hk => ⟨rfl, ?_⟩⟩
      · rw [max0]; rfl
      obtain ⟨xd', hx⟩ := hx
      have s2 : Same H1 H2 := Same.made nx nxd hk
      have DA2 := DA1.same s2
      have hdp2 := s2 _ _ hdp1
      have hs2 := s2 _ _ hs1
      obtain ⟨⟨bdx, hbk2⟩, ⟨dl, hld2, hdl2⟩⟩ := id DA2.book
      -- self.book.add_drop(drop)
      refine ⟨_, rfl, dp, CD, dx1, _, _, rfl, hdp2, D.cl, D.n8, rfl, F.bk, bdx, _, rfl, hbk2, rfl, _, rfl, F.bk, bdx, F.ld, x, a.trips, _, rfl, hbk2, hld2, (by rw [List.length_map, hdl2.1]; show a.done.length < _; omega), fun H3 hld3 k3 => ?_⟩
      have hdp3 := k3 _ _ hdp2 (ne_of hdp2 hld2 (by intro z; cases z))
      have hs3 := k3 _ _ hs2 (ne_of hs2 hld2 (by intro z; cases z))
      have hx3 := k3 _ _ hx (ne_of hx hld2 (by intro z; cases z))
      have ok3 : AbsOk (atDrop a n st.want) :=
        ⟨DA.ok.to_, DA.ok.nd, DA.ok.six, hns, DA.ok.wl, DA.ok.wr, fun y hy => by
          rcases List.mem_append.mp hy with hy | hy
          · exact DA.ok.dn y hy
          · rw [List.mem_singleton.mp hy]; exact hns⟩
      have DA3 : DepotAt CS CR CD CB CN H3 dp F b (atDrop a n st.want) := by
        refine ⟨⟨dx1, hdp3⟩, roads_as (roads_lst DA2.roads hld2 DA.ap2 k3) rfl rfl rfl rfl, k3 _ _ DA2.und (Ne.symm DA.ap3), ok3, DA.ap, ⟨⟨bdx, k3 _ _ hbk2 (ne_of hbk2 hld2 (by intro z; cases z))⟩, ⟨dl ++ [x], by rw [hld3, List.map_append]; rfl, ?_⟩⟩, DA.ap2, DA.ap3, DA.run1⟩
        refine Each.snoc (hdl2.mono fun p y _ ⟨dy, q⟩ => ⟨dy, k3 _ _ q (ne_of q hld2 (by intro z; cases z))⟩) ⟨xd', ?_⟩
        rw [hx3]
        have e9 : st.litres = (Su75.Abs.halt_ (atDrop a n st.want) n).litres := by
          rw [← eh]; rfl
        rw [e9]
      obtain ⟨rdx3, hra3⟩ := DA3.roads.ins
      -- self.pass_minutes(..)
      refine ⟨_, rfl, dp, dx1, _, rfl, hdp3, rfl, _, rfl, sp, CS, sdx, _, _, rfl, hs3, T.clS, T.nS1, rfl, _, rfl, dp, CD, dx1, _, _, rfl, hdp3, D.cl, D.n2, rfl, F.ra, CR, rdx3, _, _, rfl, hra3, T.clR, T.nR2, rfl, dp, dx1, F, b, atDrop a n st.want, st.hold, a.open_, rfl, hdp3, (by have := DA.roads.opn; omega), fun H4 h4 k4 => ?_⟩
      have DA4 := depot_as DA3 h4 k4 rfl rfl rfl rfl rfl rfl rfl ⟨ok3.to_, ok3.nd, ok3.six, ok3.pl, ok3.wl, ok3.wr, ok3.dn⟩
      have hund4 : H4 F.lu = some (.lst (vns a.to_)) := DA4.und
      have hx4 := k4 _ _ hx3 (ne_of hx3 hdp3 (by
        intro z
        injection z with _ _ z
        have := congrArg List.length z
        cases this))
      -- self.undelivered.remove(number)
      refine ⟨_, rfl, dp, CD, dx1, _, _, rfl, h4, D.cl, D.n7, rfl, .inl ⟨rfl, _, SqL.of hund4⟩, _, rfl, F.lu, a.to_.map (fun m : Nat => (m : Int)), (n : Int), rfl, rfl, (by rw [← vns_ints]; exact hund4), List.mem_map_of_mem hn, ?_⟩
      rw [vns_erase, erase_filter DA.ok.nd]
      have hx5 : upd H4 F.lu (.lst (vns (a.to_.filter fun x => x != n))) x = _ := (upd_ne (ne_of hx4 hund4 (by intro z; cases z))).trans hx4
      have k5 : But F.lu H4 (upd H4 F.lu (.lst (vns (a.to_.filter fun x => x != n)))) := but_upd
      have hlu5 : upd H4 F.lu (.lst (vns (a.to_.filter fun x => x != n))) F.lu = some (.lst (vns (a.to_.filter fun x => x != n))) := upd_same
      generalize upd H4 F.lu (.lst (vns (a.to_.filter fun x => x != n))) = H5 at hx5 k5 hlu5
      have ed : Su75.does a (.drive n) = ({ a with place := n + 1, now_ := a.now_ + a.mins a.place (n + 1) + (a.halt_ n).hold, frost := a.frost - a.mins a.place (n + 1) * a.run - (a.halt_ n).hold * a.open_, to_ := a.to_.filter (fun x => x != n), done := a.done ++ [⟨n, a.now_ + a.mins a.place (n + 1), a.frost - a.mins a.place (n + 1) * a.run, (a.halt_ n).want - (a.frost - a.mins a.place (n + 1) * a.run)⟩] }, Su75.num (a.frost - a.mins a.place (n + 1) * a.run) [a.now_ + a.mins a.place (n + 1), (a.halt_ n).want - (a.frost - a.mins a.place (n + 1) * a.run)]) := if_neg (by rw [e]; decide)
      have DA5 : DepotAt CS CR CD CB CN H5 dp F b (Su75.does a (.drive n)).1 := by
        obtain ⟨⟨bdx4, hbk4⟩, ⟨dl4, hld4, hdl4⟩⟩ := id DA4.book
        rw [ed, eh]
        refine ⟨⟨dx1, k5 _ _ h4 (ne_of h4 hund4 (by intro z; cases z))⟩, roads_as (roads_lst DA4.roads hund4 DA.ap k5) rfl rfl rfl rfl, hlu5, ⟨fun x hx => DA.ok.to_ x (List.mem_filter.mp hx).1, DA.ok.nd.filter _, Nat.le_trans (List.length_filter_le ..) DA.ok.six, hns, DA.ok.wl, DA.ok.wr, ok3.dn⟩, DA.ap, ?_, DA.ap2, DA.ap3, DA.run1⟩
        exact (DA4.book.but k5 (ne_of hbk4 hund4 (by intro z; cases z)) DA.ap3 fun p dx lit y q => ne_of q hund4 (by intro z; cases z)).as rfl rfl fun _ _ => rfl
      -- return [..]
      refine ⟨_, rfl, x, CN, xd', _, _, rfl, hx5, D.clN, D.nN4, rfl, _, rfl, x, CN, xd', _, _, rfl, hx5, D.clN, D.nN3, rfl, _, rfl, x, CN, xd', _, _, rfl, hx5, D.clN, D.nN5, rfl, (by show 3 ≤ sizeLine; decide), fun la hla => ?_⟩
      have s6 : Same H5 (upd H5 la (.lst [vn (a.frost - a.mins a.place (n + 1) * a.run), vn (a.now_ + a.mins a.place (n + 1)), vn (st.want - (a.frost - a.mins a.place (n + 1) * a.run))])) := Same.laid hla
      have nla := fresh_not DA5 hla
      have nlD : la ≠ dp := fun z => nla (by rw [z]; exact .head _)
      have nlU : la ≠ F.lu := fun z => nla (by rw [z]; unfold Foot.all; simp)
      have nlL : la ≠ F.ld := fun z => nla (by rw [z]; unfold Foot.all; simp)
      have hla0 : H la = none := But.free k1 (s2.free (But.free k3 (But.free k4 (But.free k5 hla nlU) nlD) nlL)) nlD
      refine k _ F la (DA5.same s6) ?_ hla0 ⟨fun b' o h hb => ?_, fun b' h => .inl h⟩ nla
      · rw [upd_same, ed, eh]
        rfl
      · have n1 : b' ≠ dp := fun z => hb (by rw [z]; exact .head _)
        have n2 : b' ≠ F.lu := fun z => hb (by rw [z]; unfold Foot.all; simp)
        have n3 : b' ≠ F.ld := fun z => hb (by rw [z]; unfold Foot.all; simp)
        exact s6 _ _ (k5 _ _ (k4 _ _ (k3 _ _ (s2 _ _ (k1 _ _ h n1)) n3) n1) n2)
end
end CD
end

section
set_option Elab.async false
set_option linter.all false
set_option maxRecDepth 100000
set_option maxHeartbeats 4000000
namespace CD
open PySem PySem.Spec PyProof.Rows L2

def spLoadUp (CS CR CD CB CN : Addr) (K : PySem.W.Frag) : Sp := fun vs H Q _ => ∃ (dp lr : Addr) (F : Foot) (b : Bool) (a : Su75.Abs) (f : Nat) (row : List Nat), vs = [.ref dp, vn f, .ref lr] ∧ DepotAt CS CR CD CB CN H dp F b a ∧ H lr = some (.lst (vns row)) ∧ row.length ≤ 10 ∧ Acts CS CR CD CB CN H dp F b a (.load f row) Q
def lcIn (b : List Stmt) : Scope := match b with
  | [_, _, _, _, .Assign _ (.Call _ [.ListComp _ _ sc _] _ _) _, _, _, _, _, _] => sc
  | _ => { kind := .function, names := [], isGenerator := false, isCoroutine := false }
theorem bk_notRoads {CR CB bdx rdx bk ra ls d ld : Addr} {H : Hp} {n r o : Nat} (h1 : H bk = some (.ins CB bdx (fBook n ld))) (h2 : H ra = some (.ins CR rdx (fRoads r o ls d))) : ra ≠ bk :=
  ne_of h2 h1 (by
    intro z
    injection z with _ _ z
    have := congrArg List.length z
    cases this)
theorem roads_bk {CS CR CB : Addr} {H H' : Hp} {bk bdx ld ra ls d : Addr} {n : Nat} {a : Su75.Abs} (h1 : H bk = some (.ins CB bdx (fBook n ld))) (k : But bk H H') (R : RoadsAt CS CR H ra ls d a) : RoadsAt CS CR H' ra ls d a := by
  obtain ⟨⟨rdx, r1⟩, ⟨ss, r2, r3, r4⟩, ⟨kvs, r5, r6⟩, r7, r8, r9⟩ := R
  refine ⟨⟨rdx, k _ _ r1 (bk_notRoads h1 r1)⟩, ⟨ss, k _ _ r2 (ne_of r2 h1 (by intro z; cases z)), r3, fun i p st q1 q2 => ?_⟩, ⟨kvs, k _ _ r5 (ne_of r5 h1 (by intro z; cases z)), r6⟩, r7, r8, r9⟩
  obtain ⟨sdx, h⟩ := r4 i p st q1 q2
  refine ⟨sdx, k _ _ h (ne_of h h1 ?_)⟩
  intro z
  injection z with _ _ z
  have := congrArg List.length z
  cases this
theorem sum_snocN : ∀ (l : List Int) (z : Int), (l ++ [z]).sum = l.sum + z
  | [], z => by simp
  | a :: l, z => by
    rw [List.cons_append, List.sum_cons, List.sum_cons, sum_snocN l z]
    omega
theorem litres_sum (a : Su75.Abs) : ∀ (row : List Nat), (row.map fun s => (((a.halt_ s).litres : Nat) : Int)).sum = ((a.litres row : Nat) : Int)
  | [] => rfl
  | s :: row => by
    rw [List.map_cons, List.sum_cons, litres_sum a row]
    show _ = ((((s :: row).map fun s => (a.halt_ s).litres).sum : Nat) : Int)
    rw [List.map_cons, List.sum_cons]
    unfold Su75.Abs.litres
    omega
section
variable {P : Program} {w : World} {K : PySem.W.Frag} {mg : Str → Option Value} {base : Heap} {CS CR CT CP CD CB CN : Addr}
theorem scLoadUp : FnScope ["self", "frost", "row", "refusal", "litres", "number"] ["self", "frost", "row"] (defScope (sD 7)) := ⟨rfl, rfl, rfl, by decide +kernel, rfl, by decide +kernel, by decide +kernel⟩
theorem blkLoadUp : BlkOk ["self", "frost", "row", "refusal", "litres", "number"] (defScope (sD 7)) (lcIn (defBody (sD 7))) [("number", 5)] := ⟨rfl, by decide +kernel, by decide +kernel, by decide +kernel, by decide +kernel⟩
theorem ok_loadUp {f f1 f2 : Addr} {fd fd1 fd2 : FuncData} (F : Fun K "load_up" "Depot.load_up" (sD 7) f fd) (T : TR K mg CS CR CT CP) (D : TD K mg CD CB CN)
    (m2 : Meth K CB "add_load" f2) (G2 : FnOk P w K mg base CX0 1 f2 fd2 ["self"] (spAddLoad CB)) (b2 : Binds K fd2 ["self"] [])
    (m1 : Meth K CD "frost_and_row_refusal" f1) (G1 : FnOk P w K mg base CX0 3 f1 fd1 ["self", "frost", "row"] (spFrostRow CS CR CD CB CN K)) (b1 : Binds K fd1 ["self", "frost", "row"] []) :
    FnOk P w K mg base CX0 4 f fd ["self", "frost", "row"] (spLoadUp CS CR CD CB CN K) := by
  obtain ⟨t22, h22⟩ := D.i22
  obtain ⟨t16, h16⟩ := D.i16
  obtain ⟨t28, h28⟩ := D.i28
  obtain ⟨tw, hw⟩ := T.works
  refine F.ok scLoadUp (fun vs H Q E h => ?_) (fun cdv A outer s H vs Q E hr h => ?_)
  · obtain ⟨dp, lr, F, b, a, fr, row, rfl, _⟩ := h
    rfl
  · obtain ⟨dp, lr, F, b, a, fr, row, rfl, DA, hlr, hlen, k⟩ := h
    obtain ⟨dx, hdp⟩ := DA.ins
    obtain ⟨rdx, hra⟩ := DA.roads.ins
    obtain ⟨ss, hls, hss, hst⟩ := DA.roads.lst
    have nd := scLoadUp.nd
    refine ⟨_, pss_cons (ps_set (i := 3) nd rfl (Or.inl rfl) (pe_meth (pv 0) D.cl m1 G1 hr b1 .nil pass0 (pa_cons (pv 1) (pa_cons (pv 2) pa_nil))))
      (pss_cons (ps_if (pt_cmpR op_ne (pv 3) pe_int (nomark _)) (pss_one (ps_ret (pe_lst (pa_cons (pv 3) pa_nil)))) pss_nil)
      (pss_cons (ps_if (pt_cmpR op_eq (pe_callB call_len_seq (by rfl) T.len PySem.boot_len (pa_cons (pv 2) pa_nil)) pe_int (nomark _)) (pss_one (ps_ret (pe_lst (pa_cons (pe_glob (v := .int (-22)) rfl h22 ⟨_, rfl⟩) pa_nil)))) pss_nil)
      (pss_cons (ps_if (PW.pt (pw_or (pt_cmpR op_gt (pe_callB call_len_seq (by rfl) T.len PySem.boot_len (pa_cons (pe_fld (pv 0) rfl) pa_nil)) pe_int (nomark _)) (pw_or1 (pt_cmpR op_ne (pe_fld (pv 0) rfl) (pe_glob (v := .int 0) rfl hw ⟨_, rfl⟩) (nomark _))))) (pss_one (ps_ret (pe_lst (pa_cons (pe_glob (v := .int (-16)) rfl h16 ⟨_, rfl⟩) pa_nil)))) pss_nil)
      (pss_cons (ps_set (i := 4) nd rfl (Or.inl rfl) (pe_callB (cr_sum rfl) (by rfl) D.sum_ (by rfl) (pa_cons (pe_lc (own := [("number", 5)]) (te := tFld K (tOp (rIxL K) (tFld K (tFld K (tVar 0) "roads") "stops") (tVar 5)) "litres") rfl nd (pi_list (pv 2)) blkLoadUp (fun _ _ _ _ _ => pg_name (i := 5) nd rfl (Or.inl rfl)) (fun _ _ _ _ _ => pts_nil)
        (fun _ _ _ _ _ => pe_fld (pe_ix ix_list (pe_fld (pe_fld (pv 0) rfl) rfl) (pv 5) (fun _ _ => rfl)) rfl)) pa_nil)))
      (pss_cons (ps_if (pt_cmpR op_gt (pv 4) (pe_fld (pv 0) rfl) (nomark _)) (pss_one (ps_ret (pe_lst (pa_cons (pe_glob (v := .int (-28)) rfl h28 ⟨_, rfl⟩) pa_nil)))) pss_nil)
      (pss_cons (ps_fld (pv 0) (pe_callTy call_list_of (by rfl) D.list_ (by rfl) (pa_cons (pv 2) pa_nil)) rfl)
      (pss_cons (ps_fld (pv 0) (pv 1) rfl)
      (pss_cons (ps_expr (pe_meth0 (pe_fld (pv 0) rfl) D.clB m2 G2 (hr.mono (by decide)) b2 .nil pass0))
      (pss_one (ps_ret (pe_lst (pa_cons (pv 4) pa_nil)))))))))))), ?_⟩
    have quit : ∀ (H1 : Hp), Same H H1 → ∀ (v : Int), Su75.does a (.load fr row) = (a, Su75.no v) → ∀ l, H1 l = none → { nx := fun _ H' => Q .non H', rt := Q : Ends }.rt (.ref l) (upd H1 l (.lst [V.int v])) := fun H1 s1 v ed l hl => by
      have s2 : Same H1 (upd H1 l (.lst [V.int v])) := Same.laid hl
      have s3 := s1.trans s2
      exact k _ F l (by rw [ed]; exact DA.same s3) (by rw [ed, upd_same]; rfl) (s1.free hl) (Kp.of_same s3) (fresh_not DA (s1.free hl))
    refine ⟨_, rfl, dp, dx, _, rfl, hdp, rfl, _, rfl, _, rfl, dp, lr, F, b, a, fr, row, rfl, DA, SqL.of hlr, hlen, fun H1 s1 => ?_⟩
    refine ⟨_, rfl, rfl, _, rfl, ?_⟩
    refine ite2 (fun e => ?_) fun e => ?_
    · have e := ne_zero_of e
      refine ⟨_, rfl, (by show 1 ≤ sizeLine; decide), fun l hl => ?_⟩
      refine quit H1 s1 _ ?_ l hl
      by_cases h : a.bad row ≠ 0
      · rw [if_pos h]; exact if_pos h
      · rw [if_neg h] at e ⊢
        by_cases h2 : 600 < fr
        · rw [if_pos h2]; exact (if_neg h).trans (if_pos (.inr h2))
        · rw [if_neg h2] at e; exact absurd rfl e
    · obtain ⟨e, h600⟩ := frost_ref (zero_of e)
      obtain ⟨h6, hnd, hrow⟩ := bad_zero e
      have eno : ¬ a.bad row ≠ 0 := fun z => z e
      refine ⟨_, rfl, lr, _, rfl, .inl (SqL.of (s1 _ _ hlr)), rfl, _, rfl, ?_⟩
      refine ite2 (fun e2 => ?_) fun e2 => ?_
      · have e2 : (vns row).length = 0 := by
          have := of_decide_eq_true e2
          injection this with this
          exact Int.ofNat.inj this
        rw [vns_len] at e2
        exact ⟨(by show 1 ≤ sizeLine; decide), fun l hl => quit H1 s1 (-22) ((if_neg eno).trans (if_pos (.inl (List.length_eq_zero_iff.mp e2)))) l hl⟩
      · have e2 : row ≠ [] := fun z => by
          subst z
          exact e2 (decide_eq_true rfl)
        have eno2 : ¬ (row = [] ∨ Su75.COLD < fr) := by rintro (z | z); exact e2 z; exact h600 z
        refine ⟨_, rfl, dp, CD, dx, _, _, rfl, s1 _ _ hdp, D.cl, D.n7, rfl, F.lu, _, rfl, .inl (SqL.of (s1 _ _ DA.und)), _, _, rfl, rfl, _, rfl, ?_⟩
        refine ite2 (fun e3 => iteT ?_) fun e3 => ?_
        · have e3 : (0 : Int) < ((vns a.to_).length : Nat) := of_decide_eq_true e3
          rw [vns_len] at e3
          have e4 : a.to_ ≠ [] := fun z => by rw [z] at e3; simp at e3
          exact ⟨(by show 1 ≤ sizeLine; decide), fun l hl => quit H1 s1 (-16) ((if_neg eno).trans ((if_neg eno2).trans (if_pos (.inl e4)))) l hl⟩
        · have e3 : ¬ (0 : Int) < ((vns a.to_).length : Nat) := fun z => e3 (decide_eq_true z)
          rw [vns_len] at e3
          have e4 : a.to_ = [] := by
            cases q : a.to_ with
            | nil => rfl
            | cons n l => rw [q] at e3; simp at e3
          refine ⟨_, rfl, dp, CD, dx, _, _, rfl, s1 _ _ hdp, D.cl, D.n5, rfl, rfl, _, rfl, ?_⟩
          refine ite2 (fun e5 => ?_) fun e5 => ?_
          · have e5 : a.place ≠ 0 := fun z => by
              rw [z] at e5
              exact absurd e5 (by decide)
            exact ⟨(by show 1 ≤ sizeLine; decide), fun l hl => quit H1 s1 (-16) ((if_neg eno).trans ((if_neg eno2).trans (if_pos (.inr e5)))) l hl⟩
          · have e5 : a.place = 0 := by
              have := zero_of (z := (a.place : Int)) e5
              omega
            have eno3 : ¬ (a.to_ ≠ [] ∨ a.place ≠ 0) := by rintro (z | z); exact z e4; exact z e5
            -- litres
            refine ⟨_, rfl, lr, rfl, ⟨_, SqL.of (s1 _ _ hlr)⟩, fun Dl hDl => ?_⟩
            refine lc_list (K := K) (a := lr) (xs := vns row) (fun i H' => Same H1 H' ∧ H' Dl = some (.lst ((((row.take i).map fun s => (((a.halt_ s).litres : Nat) : Int))).map V.int))) ⟨Same.laid hDl, upd_same⟩ (fun i H' _ h => Same.seq h.1 (SqL.of (s1 _ _ hlr))) ?_ ?_
            · rintro i y H2 hi ⟨s2, hD2⟩
              obtain ⟨z, hz, rfl⟩ : ∃ z, row[i]? = some z ∧ y = vn z := by
                rw [List.getElem?_map] at hi
                cases e : row[i]? with
                | none => rw [e] at hi; cases hi
                | some z => rw [e] at hi; exact ⟨z, rfl, (Option.some.inj hi).symm⟩
              have hzn := hrow z (List.mem_of_getElem? hz)
              obtain ⟨sp, hsp⟩ : ∃ sp, ss[z]? = some sp := ⟨_, List.getElem?_eq_getElem (by omega)⟩
              obtain ⟨st, hstn⟩ : ∃ st, a.stops[z]? = some st := ⟨_, List.getElem?_eq_getElem hzn⟩
              obtain ⟨sdx, hs⟩ := hst z sp st hsp hstn
              have eh := halt_of hstn
              have s3 := s1.trans s2
              refine ⟨rfl, ?_⟩
              unfold tYes
              dsimp only
              rw [if_pos (rfl : true = true)]
              refine ⟨_, rfl, dp, CD, dx, _, _, rfl, s3 _ _ hdp, D.cl, D.n2, rfl, F.ra, CR, rdx, _, _, rfl, s3 _ _ hra, T.clR, T.nR3, rfl, _, rfl, F.ls, _, _, _, rfl, rfl, SqL.of (s3 _ _ hls), atI_nat (v := .ref sp) (by rw [List.getElem?_map, hsp]; rfl), sp, CS, sdx, _, _, rfl, s3 _ _ hs, T.clS, T.nS3, rfl, _, hD2, ?_, fun b' o q => ?_, ?_⟩
              · rw [List.length_map, List.length_map, List.length_take, sizeLine_eq]; omega
              · rw [upd_ne (fun z => by rw [z, hDl] at q; cases q)]
                exact s2 b' o q
              · rw [upd_same, take_snoc hz, List.map_append, List.map_append, ← eh]
                rfl
            · rintro H2 ⟨s2, hD2⟩
              rw [vns_len, List.take_length] at hD2
              refine ⟨Dl, _, rfl, SqL.of hD2, ?_⟩
              rw [litres_sum]
              have s3 := s1.trans s2
              refine ⟨_, rfl, _, rfl, dp, CD, dx, _, _, rfl, s3 _ _ hdp, D.cl, D.n3, rfl, _, _, rfl, rfl, _, rfl, ?_⟩
              refine ite2 (fun e6 => ?_) fun e6 => ?_
              · have e6 : ((a.room : Nat) : Int) < ((a.litres row : Nat) : Int) := of_decide_eq_true e6
                exact ⟨(by show 1 ≤ sizeLine; decide), fun l hl => quit H2 s3 (-28) ((if_neg eno).trans ((if_neg eno2).trans ((if_neg eno3).trans (if_pos (by omega))))) l hl⟩
              · have e6 : ¬ ((a.room : Nat) : Int) < ((a.litres row : Nat) : Int) := fun z => e6 (decide_eq_true z)
                have ed : Su75.does a (.load fr row) = ({ a with frost := fr, to_ := row, trips := a.trips + 1 }, Su75.num (a.litres row) []) := (if_neg eno).trans ((if_neg eno2).trans ((if_neg eno3).trans (if_neg (by omega))))
                refine ⟨_, rfl, lr, _, rfl, .inl (SqL.of (s3 _ _ hlr)), fun lu hlu => ?_⟩
                have hluD : lu ≠ dp := fun z => by rw [z, s3 _ _ hdp] at hlu; cases hlu
                refine ⟨_, rfl, dp, CD, dx, _, rfl, (upd_ne hluD.symm).trans (s3 _ _ hdp), D.cl, D.n7, (by show 8 < 1000; decide), ?_⟩
                refine ⟨_, rfl, _, rfl, dp, CD, dx, _, rfl, upd_same, D.cl, D.n6, (by show 8 < 1000; decide), ?_⟩
                have kk0 : But dp H (upd (upd (upd H2 lu (.lst (vns row))) dp (.ins CD dx (putF "undelivered" (.ref lu) (fDepot b F a)))) dp (.ins CD dx (putF "frost" (vn fr) (putF "undelivered" (.ref lu) (fDepot b F a))))) := fun b' ob h hb => by
                  have h3 := s3 _ _ h
                  rw [upd_ne hb, upd_ne hb, upd_ne (ne_of_none h3 hlu)]
                  exact h3
                have hdp4 : upd (upd (upd H2 lu (.lst (vns row))) dp (.ins CD dx (putF "undelivered" (.ref lu) (fDepot b F a)))) dp (.ins CD dx (putF "frost" (vn fr) (putF "undelivered" (.ref lu) (fDepot b F a)))) dp = some (.ins CD dx (putF "frost" (vn fr) (putF "undelivered" (.ref lu) (fDepot b F a)))) := upd_same
                have hlu4 : upd (upd (upd H2 lu (.lst (vns row))) dp (.ins CD dx (putF "undelivered" (.ref lu) (fDepot b F a)))) dp (.ins CD dx (putF "frost" (vn fr) (putF "undelivered" (.ref lu) (fDepot b F a)))) lu = some (.lst (vns row)) := by rw [upd_ne hluD, upd_ne hluD, upd_same]
                generalize upd (upd (upd H2 lu (.lst (vns row))) dp (.ins CD dx (putF "undelivered" (.ref lu) (fDepot b F a)))) dp (.ins CD dx (putF "frost" (vn fr) (putF "undelivered" (.ref lu) (fDepot b F a)))) = H4 at kk0 hdp4 hlu4
                have R4 : RoadsAt CS CR H4 F.ra F.ls F.d a := roads_keep hdp kk0 DA.roads
                have B4 : BookAt CB CN H4 F.bk F.ld a := DA.book.kind kk0 hdp dp_notBook
                obtain ⟨⟨bdx, hbk4⟩, ⟨dl, hld4, hdl4⟩⟩ := id B4
                -- self.book.add_load()
                refine ⟨_, rfl, dp, CD, dx, _, _, rfl, hdp4, D.cl, D.n8, rfl, F.bk, bdx, _, rfl, hbk4, rfl, F.bk, bdx, F.ld, a.trips, rfl, hbk4, fun H5 hbk5 k5 => ?_⟩
                have nbd : dp ≠ F.bk := ne_of hdp4 hbk4 (by
                  intro z
                  injection z with _ _ z
                  have := congrArg List.length z
                  cases this)
                have nbu : lu ≠ F.bk := ne_of hlu4 hbk4 (by intro z; cases z)
                have hluN : lu ≠ F.ld := fun z => by
                  obtain ⟨_, ⟨dl0, hld0, _⟩⟩ := DA.book
                  rw [z, s3 _ _ hld0] at hlu; cases hlu
                have DA5 : DepotAt CS CR CD CB CN H5 dp ⟨F.ra, F.ls, F.d, lu, F.bk, F.ld⟩ b (Su75.does a (.load fr row)).1 := by
                  rw [ed]
                  refine ⟨⟨dx, k5 _ _ hdp4 nbd⟩, roads_as (roads_bk hbk4 k5 R4) rfl rfl rfl rfl, k5 _ _ hlu4 nbu, ⟨hrow, hnd, h6, DA.ok.pl, DA.ok.wl, DA.ok.wr, DA.ok.dn⟩, ?_, ⟨⟨bdx, hbk5⟩, ⟨dl, k5 _ _ hld4 (ne_of hld4 hbk4 (by intro z; cases z)), hdl4.mono fun p y _ ⟨dy, q⟩ => ⟨dy, k5 _ _ q (ne_of q hbk4 (by
                    intro z
                    injection z with _ _ z
                    have := congrArg List.length z
                    cases this))⟩⟩⟩, DA.ap2, Ne.symm hluN, DA.run1⟩
                  exact fun z => by
                    have z : lu = F.ls := z
                    rw [z, s3 _ _ hls] at hlu; cases hlu
                refine ⟨_, rfl, (by show 1 ≤ sizeLine; decide), fun l hl => ?_⟩
                have s6 : Same H5 (upd H5 l (.lst [vn (a.litres row)])) := Same.laid hl
                have nl := fresh_not DA5 hl
                have nlD : l ≠ dp := fun z => nl (by rw [z]; exact .head _)
                have nlB : l ≠ F.bk := fun z => nl (by rw [z]; unfold Foot.all; simp)
                have hl0 : H l = none := But.free kk0 (But.free k5 hl nlB) nlD
                refine k _ ⟨F.ra, F.ls, F.d, lu, F.bk, F.ld⟩ l (DA5.same s6) ?_ hl0 ⟨fun b' o h hb => ?_, fun x hx => ?_⟩ nl
                · rw [ed, upd_same]; rfl
                · have n1 : b' ≠ dp := fun z => hb (by rw [z]; exact .head _)
                  have n2 : b' ≠ F.bk := fun z => hb (by rw [z]; unfold Foot.all; simp)
                  exact s6 _ _ (k5 _ _ (kk0 _ _ h n1) n2)
                · unfold Foot.all at hx ⊢
                  simp only [List.mem_cons, List.not_mem_nil, or_false] at hx ⊢
                  rcases hx with z | z | z | z | z | z | z
                  · exact .inl (.inl z)
                  · exact .inl (.inr (.inl z))
                  · exact .inl (.inr (.inr (.inl z)))
                  · exact .inl (.inr (.inr (.inr (.inl z))))
                  · rw [z]; exact .inr (s3.free hlu)
                  · exact .inl (.inr (.inr (.inr (.inr (.inr (.inl z))))))
                  · exact .inl (.inr (.inr (.inr (.inr (.inr (.inr z))))))
end
end CD
end

section
set_option Elab.async false
set_option linter.all false
set_option maxRecDepth 100000
set_option maxHeartbeats 4000000
namespace CD
open PySem PySem.Spec PyProof.Rows L2

/-! ### the call that number, numbers and row stand for -/
def cq (q : Nat) (ns row : List Nat) : Su75.Call := match q, ns with
  | 0, [r, o, l] => .begin_ r o l
  | 1, [h, w, l] => .halt_ h w l
  | 2, [x, y, m] => .way x y m
  | 3, [f] => .load f row
  | 4, [s] => .drive s
  | 5, _ => .back
  | 6, [n] => .wait n
  | 7, _ => .need row
  | 8, _ => .mild row
  | 9, [f] => .quick f row
  | 10, [f] => .most f row
  | 11, [f] => .drops f row
  | 12, _ => .now
  | 13, _ => .left
  | 14, _ => .slack
  | 15, [x, y] => .mins x y
  | 16, [s] => .look s
  | 17, _ => .done
  | 18, _ => .warm
  | 19, _ => .sums
  | _, _ => .state
theorem asI_toNat : ∀ l : List Nat, (asI l).map Int.toNat = l
  | [] => rfl
  | n :: l => by
    show ((n : Int).toNat) :: (asI l).map Int.toNat = n :: l
    rw [asI_toNat l]
    rfl
theorem len0 {α : Type} {l : List α} (h : l.length = 0) : l = [] := List.length_eq_zero_iff.mp h
theorem len1 {α : Type} {l : List α} (h : l.length = 1) : ∃ a, l = [a] := by
  match l, h with
  | [a], _ => exact ⟨a, rfl⟩
theorem len2 {α : Type} {l : List α} (h : l.length = 2) : ∃ a b, l = [a, b] := by
  match l, h with
  | [a, b], _ => exact ⟨a, b, rfl⟩
theorem len3 {α : Type} {l : List α} (h : l.length = 3) : ∃ a b c, l = [a, b, c] := by
  match l, h with
  | [a, b, c], _ => exact ⟨a, b, c, rfl⟩
theorem callOf_cq : ∀ (q : Nat) (ns row : List Nat), q ≤ 20 → ns.length = argN q → (rowK q = false → row = []) → Su75Neutral.callOf ((q : Int) :: (asI ns ++ asI row)) = some (cq q ns row)
  | 0, ns, row, _, h, hr => by obtain ⟨a, b, c, rfl⟩ := len3 h; rw [hr rfl]; rfl
  | 1, ns, row, _, h, hr => by obtain ⟨a, b, c, rfl⟩ := len3 h; rw [hr rfl]; rfl
  | 2, ns, row, _, h, hr => by obtain ⟨a, b, c, rfl⟩ := len3 h; rw [hr rfl]; rfl
  | 3, ns, row, _, h, hr => by
    obtain ⟨a, rfl⟩ := len1 h
    show some (Su75.Call.load a ((asI row).map Int.toNat)) = _
    rw [asI_toNat]; rfl
  | 4, ns, row, _, h, hr => by obtain ⟨a, rfl⟩ := len1 h; rw [hr rfl]; rfl
  | 5, ns, row, _, h, hr => by rw [len0 h, hr rfl]; rfl
  | 6, ns, row, _, h, hr => by obtain ⟨a, rfl⟩ := len1 h; rw [hr rfl]; rfl
  | 7, ns, row, _, h, hr => by
    rw [len0 h]
    show some (Su75.Call.need ((asI row).map Int.toNat)) = _
    rw [asI_toNat]; rfl
  | 8, ns, row, _, h, hr => by
    rw [len0 h]
    show some (Su75.Call.mild ((asI row).map Int.toNat)) = _
    rw [asI_toNat]; rfl
  | 9, ns, row, _, h, hr => by
    obtain ⟨a, rfl⟩ := len1 h
    show some (Su75.Call.quick a ((asI row).map Int.toNat)) = _
    rw [asI_toNat]; rfl
  | 10, ns, row, _, h, hr => by
    obtain ⟨a, rfl⟩ := len1 h
    show some (Su75.Call.most a ((asI row).map Int.toNat)) = _
    rw [asI_toNat]; rfl
  | 11, ns, row, _, h, hr => by
    obtain ⟨a, rfl⟩ := len1 h
    show some (Su75.Call.drops a ((asI row).map Int.toNat)) = _
    rw [asI_toNat]; rfl
  | 12, ns, row, _, h, hr => by rw [len0 h, hr rfl]; rfl
  | 13, ns, row, _, h, hr => by rw [len0 h, hr rfl]; rfl
  | 14, ns, row, _, h, hr => by rw [len0 h, hr rfl]; rfl
  | 15, ns, row, _, h, hr => by obtain ⟨a, b, rfl⟩ := len2 h; rw [hr rfl]; rfl
  | 16, ns, row, _, h, hr => by obtain ⟨a, rfl⟩ := len1 h; rw [hr rfl]; rfl
  | 17, ns, row, _, h, hr => by rw [len0 h, hr rfl]; rfl
  | 18, ns, row, _, h, hr => by rw [len0 h, hr rfl]; rfl
  | 19, ns, row, _, h, hr => by rw [len0 h, hr rfl]; rfl
  | 20, ns, row, _, h, hr => by rw [len0 h, hr rfl]; rfl
  | q + 21, ns, row, hq, _, _ => by omega
theorem step_cq (s : Su75Neutral.S) {q : Nat} {ns row : List Nat} (h1 : q ≤ 20) (h2 : ns.length = argN q) (h3 : rowK q = false → row = []) :
    (Su75Neutral.step s ((q : Int) :: (asI ns ++ asI row))).1 = (Su75.step s (cq q ns row)).1 ∧ (Su75Neutral.step s ((q : Int) :: (asI ns ++ asI row))).2.map V.int = ansV (Su75.step s (cq q ns row)).2 := by
  unfold Su75Neutral.step
  rw [callOf_cq q ns row h1 h2 h3]
  refine ⟨rfl, ?_⟩
  show V.int _ :: (Su75Neutral.outs _).map V.int = _
  unfold ansV Su75Neutral.outs
  rw [vns_ints]
theorem step_some (a : Su75.Abs) (c : Su75.Call) : Su75.step (some a) c = (some (Su75.does a c).1, (Su75.does a c).2) := rfl
theorem step_none {q : Nat} {ns row : List Nat} (h1 : q ≤ 20) (h2 : ns.length = argN q) (h0 : q ≠ 0) : Su75.step none (cq q ns row) = (none, Su75.no (-11)) := by
  match q, ns, h1, h2, h0 with
  | 0, _, _, _, h0 => exact absurd rfl h0
  | 1, [_, _, _], _, _, _ => rfl
  | 2, [_, _, _], _, _, _ => rfl
  | 3, [_], _, _, _ => rfl
  | 4, [_], _, _, _ => rfl
  | 5, [], _, _, _ => rfl
  | 6, [_], _, _, _ => rfl
  | 7, [], _, _, _ => rfl
  | 8, [], _, _, _ => rfl
  | 9, [_], _, _, _ => rfl
  | 10, [_], _, _, _ => rfl
  | 11, [_], _, _, _ => rfl
  | 12, [], _, _, _ => rfl
  | 13, [], _, _, _ => rfl
  | 14, [], _, _, _ => rfl
  | 15, [_, _], _, _, _ => rfl
  | 16, [_], _, _, _ => rfl
  | 17, [], _, _, _ => rfl
  | 18, [], _, _, _ => rfl
  | 19, [], _, _, _ => rfl
  | 20, [], _, _, _ => rfl
  | q + 21, _, h, _, _ => omega
end CD
end

section
set_option Elab.async false
set_option linter.all false
set_option maxRecDepth 100000
set_option maxHeartbeats 4000000
namespace CD
open PySem PySem.Spec PyProof.Rows L2

/-! ### the calls that ask, without a table -/
def spTell0 (CS CR CD CB CN : Addr) (c : Su75.Call) : Sp := fun vs H Q _ => ∃ (dp : Addr) (F : Foot) (b : Bool) (a : Su75.Abs), vs = [.ref dp] ∧ DepotAt CS CR CD CB CN H dp F b a ∧ a.done.length ≤ 10000 ∧ TellsS H (ansV (Su75.does a c).2) Q
def spTellMins (CS CR CD CB CN : Addr) : Sp := fun vs H Q _ => ∃ (dp : Addr) (F : Foot) (b : Bool) (a : Su75.Abs) (x y : Nat), vs = [.ref dp, vn x, vn y] ∧ DepotAt CS CR CD CB CN H dp F b a ∧ TellsS H (ansV (Su75.does a (.mins x y)).2) Q
def spLookAt (CS CR CD CB CN : Addr) : Sp := fun vs H Q _ => ∃ (dp : Addr) (F : Foot) (b : Bool) (a : Su75.Abs) (n : Nat), vs = [.ref dp, vn n] ∧ DepotAt CS CR CD CB CN H dp F b a ∧ TellsS H (ansV (Su75.does a (.look n)).2) Q
def spTellDrops (CS CR CD CB CN : Addr) (K : PySem.W.Frag) : Sp := fun vs H Q _ => ∃ (dp lr : Addr) (F : Foot) (b : Bool) (a : Su75.Abs) (f : Nat) (row : List Nat), vs = [.ref dp, vn f, .ref lr] ∧ DepotAt CS CR CD CB CN H dp F b a ∧ SqL K H lr (vns row) ∧ row.length ≤ 10 ∧ TellsS H (ansV (Su75.does a (.drops f row)).2) Q
/-- what done tells of some drops -/
def doneOut (l : List Su75.Drop) : List Nat := l.flatMap fun x => [x.halt_, x.at_, x.frost, x.short]
def dropsOut (f : Nat) (l : List Dr) : List Nat := l.flatMap fun x => [x.minutes, f - x.lost]
theorem flat_len4 : ∀ (l : List Su75.Drop), (doneOut l).length = 4 * l.length
  | [] => rfl
  | x :: l => by
    show ([x.halt_, x.at_, x.frost, x.short] ++ doneOut l).length = _
    rw [List.length_append, flat_len4 l]
    show 4 + 4 * l.length = 4 * (l.length + 1)
    omega
theorem flat_len2 (f : Nat) : ∀ (l : List Dr), (dropsOut f l).length = 2 * l.length
  | [] => rfl
  | x :: l => by
    show ([x.minutes, f - x.lost] ++ dropsOut f l).length = _
    rw [List.length_append, flat_len2 f l]
    show 2 + 2 * l.length = 2 * (l.length + 1)
    omega
theorem vns_app (l m : List Nat) : vns (l ++ m) = vns l ++ vns m := List.map_append
theorem warms_sum : ∀ (l : List Su75.Drop), (warms l).sum = (l.map Su75.Drop.short).sum
  | [] => rfl
  | x :: l => by
    have ih := warms_sum l
    unfold warms at ih ⊢
    rw [List.map_cons, List.sum_cons, List.filter_cons]
    by_cases h : (x.short != 0) = true
    · rw [if_pos h, List.map_cons, List.sum_cons, ih]
    · rw [if_neg h, ih]
      have : x.short = 0 := by simpa using h
      omega
theorem warms_max : ∀ (l : List Su75.Drop) (b : Nat), (warms l).foldl Nat.max b = (l.map Su75.Drop.short).foldl max b
  | [], b => rfl
  | x :: l, b => by
    have ih := warms_max l
    unfold warms at ih ⊢
    rw [List.map_cons, List.foldl_cons, List.filter_cons]
    by_cases h : (x.short != 0) = true
    · rw [if_pos h, List.map_cons, List.foldl_cons]
      exact ih _
    · rw [if_neg h, ih]
      have : x.short = 0 := by simpa using h
      rw [this]
      congr 1
      omega
theorem drops_out (f : Nat) (l : List Dr) : dropsOut f l = (l.map fun x => (x.minutes, x.lost)).flatMap fun x => [x.1, f - x.2] := by
  unfold dropsOut
  rw [List.flatMap_map]
section
variable {P : Program} {w : World} {K : PySem.W.Frag} {mg : Str → Option Value} {base : Heap} {CS CR CT CP CD CB CN P1 P2 P3 : Addr}
theorem scTellLeft : FnScope ["self"] ["self"] (defScope (sD 20)) := ⟨rfl, rfl, rfl, by decide +kernel, rfl, by decide +kernel, by decide +kernel⟩
theorem ok_tellLeft {f : Addr} {fd : FuncData} (F : Fun K "tell_left" "Depot.tell_left" (sD 20) f fd) (T : TR K mg CS CR CT CP) (D : TD K mg CD CB CN) : FnOk P w K mg base CX0 1 f fd ["self"] (spTell0 CS CR CD CB CN .left) := by
  refine F.ok scTellLeft (fun vs H Q E h => ?_) (fun cdv A outer s H vs Q E hr h => ?_)
  · obtain ⟨dp, F, b, a, rfl, _⟩ := h
    rfl
  · obtain ⟨dp, F, b, a, rfl, DA, hdn, k⟩ := h
    obtain ⟨dx, hdp⟩ := DA.ins
    refine ⟨_, pss_one (ps_ret (pe_op op_cat (pe_lst (pa_cons (pe_callB call_len_seq (by rfl) T.len PySem.boot_len (pa_cons (pe_fld (pv 0) rfl) pa_nil)) pa_nil)) (pe_fld (pv 0) rfl))), ?_⟩
    refine ⟨_, rfl, dp, CD, dx, _, _, rfl, hdp, D.cl, D.n7, rfl, F.lu, _, rfl, .inl (SqL.of DA.und), (by show 1 ≤ sizeLine; decide), fun q hq => ?_⟩
    have s1 : Same H (upd H q (.lst [vn (vns a.to_).length])) := Same.laid hq
    refine ⟨_, rfl, dp, CD, dx, _, _, rfl, s1 _ _ hdp, D.cl, D.n7, rfl, q, F.lu, _, _, rfl, rfl, upd_same, s1 _ _ DA.und, (by rw [vns_len, sizeLine_eq]; have := DA.ok.six; show 1 + _ ≤ _; omega), fun l hl => ?_⟩
    refine k _ l (s1.trans (Same.laid hl)) ?_ (s1.free hl)
    rw [upd_same, vns_len]
    rfl
theorem scTellState : FnScope ["self"] ["self"] (defScope (sD 27)) := ⟨rfl, rfl, rfl, by decide +kernel, rfl, by decide +kernel, by decide +kernel⟩
theorem ok_tellState {f : Addr} {fd : FuncData} (F : Fun K "tell_state" "Depot.tell_state" (sD 27) f fd) (T : TR K mg CS CR CT CP) (D : TD K mg CD CB CN) : FnOk P w K mg base CX0 1 f fd ["self"] (spTell0 CS CR CD CB CN .state) := by
  refine F.ok scTellState (fun vs H Q E h => ?_) (fun cdv A outer s H vs Q E hr h => ?_)
  · obtain ⟨dp, F, b, a, rfl, _⟩ := h
    rfl
  · obtain ⟨dp, F, b, a, rfl, DA, hdn, k⟩ := h
    obtain ⟨dx, hdp⟩ := DA.ins
    obtain ⟨rdx, hra⟩ := DA.roads.ins
    obtain ⟨ss, hls, hss, hst⟩ := DA.roads.lst
    refine ⟨_, pss_one (ps_ret (pe_lst (pa_cons (pe_fld (pv 0) rfl) (pa_cons (pe_callB call_len_seq (by rfl) T.len PySem.boot_len (pa_cons (pe_fld (pe_fld (pv 0) rfl) rfl) pa_nil)) (pa_cons (pe_fld (pv 0) rfl) (pa_cons (pe_callB call_len_seq (by rfl) T.len PySem.boot_len (pa_cons (pe_fld (pv 0) rfl) pa_nil)) (pa_cons (pe_fld (pv 0) rfl) pa_nil))))))), ?_⟩
    refine ⟨_, rfl, dp, CD, dx, _, _, rfl, hdp, D.cl, D.n4, rfl, _, rfl, dp, CD, dx, _, _, rfl, hdp, D.cl, D.n2, rfl, F.ra, CR, rdx, _, _, rfl, hra, T.clR, T.nR3, rfl, F.ls, _, rfl, .inl (SqL.of hls),
      _, rfl, dp, CD, dx, _, _, rfl, hdp, D.cl, D.n5, rfl, _, rfl, dp, CD, dx, _, _, rfl, hdp, D.cl, D.n7, rfl, F.lu, _, rfl, .inl (SqL.of DA.und), _, rfl, dp, CD, dx, _, _, rfl, hdp, D.cl, D.n6, rfl, (by show 5 ≤ sizeLine; decide), fun l hl => ?_⟩
    refine k _ l (Same.laid hl) ?_ hl
    rw [upd_same, vns_len, List.length_map, hss]
    rfl
theorem scTellSums : FnScope ["self"] ["self"] (defScope (sD 26)) := ⟨rfl, rfl, rfl, by decide +kernel, rfl, by decide +kernel, by decide +kernel⟩
theorem ok_tellSums {f f1 : Addr} {fd fd1 : FuncData} (F : Fun K "tell_sums" "Depot.tell_sums" (sD 26) f fd) (T : TR K mg CS CR CT CP) (D : TD K mg CD CB CN)
    (m1 : Meth K CB "litres_dropped" f1) (G1 : FnOk P w K mg base CX0 1 f1 fd1 ["self"] (spLitres CB CN)) (b1 : Binds K fd1 ["self"] []) : FnOk P w K mg base CX0 2 f fd ["self"] (spTell0 CS CR CD CB CN .sums) := by
  refine F.ok scTellSums (fun vs H Q E h => ?_) (fun cdv A outer s H vs Q E hr h => ?_)
  · obtain ⟨dp, F, b, a, rfl, _⟩ := h
    rfl
  · obtain ⟨dp, F, b, a, rfl, DA, hdn, k⟩ := h
    obtain ⟨dx, hdp⟩ := DA.ins
    obtain ⟨⟨bdx, hbk⟩, ⟨ds, hld, hds⟩⟩ := id DA.book
    refine ⟨_, pss_one (ps_ret (pe_lst (pa_cons pe_int (pa_cons (pe_fld (pe_fld (pv 0) rfl) rfl) (pa_cons (pe_callB call_len_seq (by rfl) T.len PySem.boot_len (pa_cons (pe_fld (pe_fld (pv 0) rfl) rfl) pa_nil)) (pa_cons (pe_meth0 (pe_fld (pv 0) rfl) D.clB m1 G1 hr b1 .nil pass0) (pa_cons (pe_fld (pv 0) rfl) pa_nil))))))), ?_⟩
    refine ⟨_, rfl, dp, CD, dx, _, _, rfl, hdp, D.cl, D.n8, rfl, F.bk, CB, bdx, _, _, rfl, hbk, D.clB, D.nB1, rfl, _, rfl, dp, CD, dx, _, _, rfl, hdp, D.cl, D.n8, rfl, F.bk, CB, bdx, _, _, rfl, hbk, D.clB, D.nB2, rfl, F.ld, _, rfl, .inl (SqL.of hld),
      _, rfl, dp, CD, dx, _, _, rfl, hdp, D.cl, D.n8, rfl, F.bk, bdx, _, rfl, hbk, rfl, F.bk, F.ld, a, rfl, DA.book, (by omega), fun H1 s1 => ?_⟩
    refine ⟨_, rfl, dp, CD, dx, _, _, rfl, s1 _ _ hdp, D.cl, D.n4, rfl, (by show 5 ≤ sizeLine; decide), fun l hl => ?_⟩
    refine k _ l (s1.trans (Same.laid hl)) ?_ (s1.free hl)
    rw [upd_same, List.length_map, hds.1]
    rfl
theorem scTellWarm : FnScope ["self", "tenths"] ["self"] (defScope (sD 25)) := ⟨rfl, rfl, rfl, by decide +kernel, rfl, by decide +kernel, by decide +kernel⟩
theorem ok_tellWarm {f f1 : Addr} {fd fd1 : FuncData} (F : Fun K "tell_warm" "Depot.tell_warm" (sD 25) f fd) (T : TR K mg CS CR CT CP) (D : TD K mg CD CB CN)
    (m1 : Meth K CB "tenths_too_warm" f1) (G1 : FnOk P w K mg base CX0 1 f1 fd1 ["self"] (spTenths CB CN)) (b1 : Binds K fd1 ["self"] []) : FnOk P w K mg base CX0 2 f fd ["self"] (spTell0 CS CR CD CB CN .warm) := by
  refine F.ok scTellWarm (fun vs H Q E h => ?_) (fun cdv A outer s H vs Q E hr h => ?_)
  · obtain ⟨dp, F, b, a, rfl, _⟩ := h
    rfl
  · obtain ⟨dp, F, b, a, rfl, DA, hdn, k⟩ := h
    obtain ⟨dx, hdp⟩ := DA.ins
    obtain ⟨⟨bdx, hbk⟩, ⟨ds, hld, hds⟩⟩ := id DA.book
    have nd := scTellWarm.nd
    refine ⟨_, pss_cons (ps_set (i := 1) nd rfl (Or.inl rfl) (pe_meth0 (pe_fld (pv 0) rfl) D.clB m1 G1 hr b1 .nil pass0))
      (pss_one (ps_ret (pe_lst (pa_cons (pe_callB call_len_seq (by rfl) T.len PySem.boot_len (pa_cons (pv 1) pa_nil)) (pa_cons (pe_callB (cr_sum rfl) (by rfl) D.sum_ (by rfl) (pa_cons (pv 1) pa_nil)) (pa_cons (pe_maxD (pv 1) pe_int rfl rfl T.max) pa_nil)))))), ?_⟩
    refine ⟨_, rfl, dp, CD, dx, _, _, rfl, hdp, D.cl, D.n8, rfl, F.bk, bdx, _, rfl, hbk, rfl, F.bk, F.ld, a, rfl, DA.book, (by omega), fun H1 q s1 hq hq0 => ?_⟩
    refine ⟨_, rfl, q, _, rfl, .inl (SqL.of hq), _, rfl, q, (warms a.done).map fun n : Nat => (n : Int), rfl, SqL.of (by rw [hq, vns_ints]), ?_⟩
    have fin : ∀ M : Nat, M = (warms a.done).foldl Nat.max 0 → ∀ (hz : 3 ≤ sizeLine), 3 ≤ sizeLine ∧ ∀ l, H1 l = none → Q (.ref l) (upd H1 l (.lst [V.int ((vns (warms a.done)).length : Nat), V.int ((warms a.done).map fun n : Nat => (n : Int)).sum, vn M])) := fun M hM hz => ⟨hz, fun l hl => by
      refine k _ l (s1.trans (Same.laid hl)) ?_ (s1.free hl)
      rw [upd_same, vns_len, sum_cast, hM, warms_max, warms_sum]
      show some (HO.lst [vn (warms a.done).length, _, _]) = some (HO.lst (vn (a.done.filter fun x => x.short != 0).length :: _))
      have e : (warms a.done).length = (a.done.filter fun x => x.short != 0).length := by unfold warms; rw [List.length_map]
      rw [e]
      rfl⟩
    refine ⟨_, rfl, q, (warms a.done).map fun n : Nat => (n : Int), rfl, SqL.of (by rw [hq, vns_ints]), fun e => ?_, fun M h1 h2 => ?_⟩
    · have e : warms a.done = [] := List.map_eq_nil_iff.mp e
      exact fin 0 (by rw [e]; rfl) (by decide)
    · rw [max_of h1 h2]
      exact fin _ rfl (by decide)
theorem scTellMins : FnScope ["self", "start", "goal"] ["self", "start", "goal"] (defScope (sD 22)) := ⟨rfl, rfl, rfl, by decide +kernel, rfl, by decide +kernel, by decide +kernel⟩
theorem ok_tellMins {f f1 f2 : Addr} {fd fd1 fd2 : FuncData} (F : Fun K "tell_mins" "Depot.tell_mins" (sD 22) f fd) (T : TR K mg CS CR CT CP) (D : TD K mg CD CB CN)
    (m1 : Meth K CR "has_place" f1) (G1 : FnOk P w K mg base CX0 1 f1 fd1 ["self", "place"] (spHasPlace CS CR)) (b1 : Binds K fd1 ["self", "place"] [])
    (m2 : Meth K CR "minutes_between" f2) (G2 : FnOk P w K mg base CX0 1 f2 fd2 ["self", "start", "goal"] (spBetween CS CR)) (b2 : Binds K fd2 ["self", "start", "goal"] []) :
    FnOk P w K mg base CX0 2 f fd ["self", "start", "goal"] (spTellMins CS CR CD CB CN) := by
  obtain ⟨t2, h2⟩ := D.i2
  refine F.ok scTellMins (fun vs H Q E h => ?_) (fun cdv A outer s H vs Q E hr h => ?_)
  · obtain ⟨dp, F, b, a, x, y, rfl, _⟩ := h
    rfl
  · obtain ⟨dp, F, b, a, x, y, rfl, DA, k⟩ := h
    obtain ⟨dx, hdp⟩ := DA.ins
    obtain ⟨rdx, hra⟩ := DA.roads.ins
    refine ⟨_, pss_cons (ps_if (PW.pt (pw_or (pt_not (pt_val (pe_meth (pe_fld (pv 0) rfl) T.clR m1 G1 hr b1 .nil pass0 (pa_cons (pv 1) pa_nil)))) (pw_or1 (pt_not (pt_val (pe_meth (pe_fld (pv 0) rfl) T.clR m1 G1 hr b1 .nil pass0 (pa_cons (pv 2) pa_nil))))))) (pss_one (ps_ret (pe_lst (pa_cons (pe_glob (v := .int (-2)) rfl h2 ⟨_, rfl⟩) pa_nil)))) pss_nil)
      (pss_one (ps_ret (pe_lst (pa_cons (pe_meth (pe_fld (pv 0) rfl) T.clR m2 G2 hr b2 .nil pass0 (pa_cons (pv 1) (pa_cons (pv 2) pa_nil))) pa_nil)))), ?_⟩
    have quit : (a.isP x = false ∨ a.isP y = false) → ∀ l, H l = none → { nx := fun _ H' => Q .non H', rt := Q : Ends }.rt (.ref l) (upd H l (.lst [V.int (-2)])) := fun e l hl => by
      refine k _ l (Same.laid hl) ?_ hl
      rw [upd_same, show Su75.does a (.mins x y) = (a, Su75.no (-2)) from if_pos e]
      rfl
    refine ⟨_, rfl, dp, CD, dx, _, _, rfl, hdp, D.cl, D.n2, rfl, F.ra, rdx, _, rfl, hra, rfl, _, rfl, F.ra, F.ls, F.d, a, x, rfl, DA.roads, _, rfl, ?_⟩
    refine ite2 (fun e => iteT ?_) fun e => ?_
    · have e : a.isP x = false := by simpa using e
      exact ⟨(by show 1 ≤ sizeLine; decide), fun l hl => quit (.inl e) l hl⟩
    · have e : a.isP x = true := by simpa using e
      refine ⟨_, rfl, dp, CD, dx, _, _, rfl, hdp, D.cl, D.n2, rfl, F.ra, rdx, _, rfl, hra, rfl, _, rfl, F.ra, F.ls, F.d, a, y, rfl, DA.roads, _, rfl, ?_⟩
      refine ite2 (fun e2 => ?_) fun e2 => ?_
      · have e2 : a.isP y = false := by simpa using e2
        exact ⟨(by show 1 ≤ sizeLine; decide), fun l hl => quit (.inr e2) l hl⟩
      · have e2 : a.isP y = true := by simpa using e2
        have hx : x ≤ a.stops.length := of_decide_eq_true e
        have hy : y ≤ a.stops.length := of_decide_eq_true e2
        have eno : ¬ (a.isP x = false ∨ a.isP y = false) := by rw [e, e2]; simp
        refine ⟨_, rfl, dp, CD, dx, _, _, rfl, hdp, D.cl, D.n2, rfl, F.ra, rdx, _, rfl, hra, rfl, _, rfl, _, rfl, F.ra, F.ls, F.d, a, x, y, rfl, DA.roads, hx, hy, fun H1 s1 => ⟨(by show 1 ≤ sizeLine; decide), fun l hl => ?_⟩⟩
        refine k _ l (s1.trans (Same.laid hl)) ?_ (s1.free hl)
        rw [upd_same, show Su75.does a (.mins x y) = (a, Su75.num (a.mins x y) []) from if_neg eno]
        rfl
theorem scLookAt : FnScope ["self", "number", "stop"] ["self", "number"] (defScope (sD 23)) := ⟨rfl, rfl, rfl, by decide +kernel, rfl, by decide +kernel, by decide +kernel⟩
theorem ok_lookAt {f f1 : Addr} {fd fd1 : FuncData} (F : Fun K "look_at" "Depot.look_at" (sD 23) f fd) (T : TR K mg CS CR CT CP) (D : TD K mg CD CB CN)
    (m1 : Meth K CR "has_stop" f1) (G1 : FnOk P w K mg base CX0 1 f1 fd1 ["self", "number"] (spHasStop CS CR)) (b1 : Binds K fd1 ["self", "number"] []) :
    FnOk P w K mg base CX0 2 f fd ["self", "number"] (spLookAt CS CR CD CB CN) := by
  obtain ⟨t2, h2⟩ := D.i2
  refine F.ok scLookAt (fun vs H Q E h => ?_) (fun cdv A outer s H vs Q E hr h => ?_)
  · obtain ⟨dp, F, b, a, n, rfl, _⟩ := h
    rfl
  · obtain ⟨dp, F, b, a, n, rfl, DA, k⟩ := h
    obtain ⟨dx, hdp⟩ := DA.ins
    obtain ⟨rdx, hra⟩ := DA.roads.ins
    obtain ⟨ss, hls, hss, hst⟩ := DA.roads.lst
    have nd := scLookAt.nd
    refine ⟨_, pss_cons (ps_if (pt_not (pt_val (pe_meth (pe_fld (pv 0) rfl) T.clR m1 G1 hr b1 .nil pass0 (pa_cons (pv 1) pa_nil)))) (pss_one (ps_ret (pe_lst (pa_cons (pe_glob (v := .int (-2)) rfl h2 ⟨_, rfl⟩) pa_nil)))) pss_nil)
      (pss_cons (ps_set (i := 2) nd rfl (Or.inl rfl) (pe_ix ix_list (pe_fld (pe_fld (pv 0) rfl) rfl) (pv 1) (fun _ _ => rfl)))
      (pss_one (ps_ret (pe_lst (pa_cons (pe_fld (pv 2) rfl) (pa_cons (pe_fld (pv 2) rfl) (pa_cons (pe_fld (pv 2) rfl) pa_nil))))))), ?_⟩
    refine ⟨_, rfl, dp, CD, dx, _, _, rfl, hdp, D.cl, D.n2, rfl, F.ra, rdx, _, rfl, hra, rfl, _, rfl, F.ra, F.ls, F.d, a, n, rfl, DA.roads, _, rfl, ?_⟩
    refine ite2 (fun e => ?_) fun e => ?_
    · have e : a.isS n = false := by simpa using e
      refine ⟨(by show 1 ≤ sizeLine; decide), fun l hl => k _ l (Same.laid hl) ?_ hl⟩
      rw [upd_same, show Su75.does a (.look n) = (a, Su75.no (-2)) from if_pos e]
      rfl
    · have e : a.isS n = true := by simpa using e
      have hns : n < a.stops.length := of_decide_eq_true e
      obtain ⟨sp, hsp⟩ : ∃ sp, ss[n]? = some sp := ⟨_, List.getElem?_eq_getElem (by omega)⟩
      obtain ⟨st, hstn⟩ : ∃ st, a.stops[n]? = some st := ⟨_, List.getElem?_eq_getElem hns⟩
      obtain ⟨sdx, hs⟩ := hst n sp st hsp hstn
      have eh := halt_of hstn
      refine ⟨_, rfl, dp, CD, dx, _, _, rfl, hdp, D.cl, D.n2, rfl, F.ra, CR, rdx, _, _, rfl, hra, T.clR, T.nR3, rfl, _, rfl, F.ls, _, _, _, rfl, rfl, SqL.of hls, atI_nat (v := .ref sp) (by rw [List.getElem?_map, hsp]; rfl), ?_⟩
      refine ⟨_, rfl, sp, CS, sdx, _, _, rfl, hs, T.clS, T.nS1, rfl, _, rfl, sp, CS, sdx, _, _, rfl, hs, T.clS, T.nS2, rfl, _, rfl, sp, CS, sdx, _, _, rfl, hs, T.clS, T.nS3, rfl, (by show 3 ≤ sizeLine; decide), fun l hl => k _ l (Same.laid hl) ?_ hl⟩
      rw [upd_same, show Su75.does a (.look n) = (a, Su75.num (a.halt_ n).hold [(a.halt_ n).want, (a.halt_ n).litres]) from if_neg (by rw [e]; decide), eh]
      rfl
theorem scTellDone : FnScope ["self", "told", "drop"] ["self"] (defScope (sD 24)) := ⟨rfl, rfl, rfl, by decide +kernel, rfl, by decide +kernel, by decide +kernel⟩
theorem ok_tellDone {f : Addr} {fd : FuncData} (F : Fun K "tell_done" "Depot.tell_done" (sD 24) f fd) (T : TR K mg CS CR CT CP) (D : TD K mg CD CB CN) : FnOk P w K mg base CX0 1 f fd ["self"] (spTell0 CS CR CD CB CN .done) := by
  refine F.ok scTellDone (fun vs H Q E h => ?_) (fun cdv A outer s H vs Q E hr h => ?_)
  · obtain ⟨dp, F, b, a, rfl, _⟩ := h
    rfl
  · obtain ⟨dp, F, b, a, rfl, DA, hdn, k⟩ := h
    obtain ⟨dx, hdp⟩ := DA.ins
    obtain ⟨⟨bdx, hbk⟩, ⟨ds, hld, hds⟩⟩ := id DA.book
    have nd := scTellDone.nd
    refine ⟨_, pss_cons (ps_set (i := 1) nd rfl (Or.inl rfl) (pe_lst (pa_cons (pe_callB call_len_seq (by rfl) T.len PySem.boot_len (pa_cons (pe_fld (pe_fld (pv 0) rfl) rfl) pa_nil)) pa_nil)))
      (pss_cons (ps_for PassesOwn.never rfl (pi_list (pe_fld (pe_fld (pv 0) rfl) rfl)) (pg_name (i := 2) nd rfl (Or.inl rfl))
        (pss_one (ps_expr (pe_bm PySem.F.plainAttrs_list PySem.F.slot_list_extend PySem.F.type_list_extend mt_extend (pv 1) (pa_cons (pe_lst (pa_cons (pe_fld (pv 2) rfl) (pa_cons (pe_fld (pv 2) rfl) (pa_cons (pe_fld (pv 2) rfl) (pa_cons (pe_fld (pv 2) rfl) pa_nil))))) pa_nil)))))
      (pss_one (ps_ret (pv 1)))), ?_⟩
    refine ⟨_, rfl, dp, CD, dx, _, _, rfl, hdp, D.cl, D.n8, rfl, F.bk, CB, bdx, _, _, rfl, hbk, D.clB, D.nB2, rfl, F.ld, _, rfl, .inl (SqL.of hld), (by show 1 ≤ sizeLine; decide), fun l hl => ?_⟩
    have s1 : Same H (upd H l (.lst [vn (ds.map V.ref).length])) := Same.laid hl
    refine ⟨_, rfl, dp, CD, dx, _, _, rfl, s1 _ _ hdp, D.cl, D.n8, rfl, F.bk, CB, bdx, _, _, rfl, s1 _ _ hbk, D.clB, D.nB2, rfl, F.ld, rfl, ⟨_, SqL.of (s1 _ _ hld)⟩, for_list (K := K) (a := F.ld) (xs := ds.map V.ref)
      (fun i σ H' => ∃ v, σ = [some (.ref dp), some (.ref l), v] ∧ Same H H' ∧ H' l = some (.lst (vn (ds.map V.ref).length :: vns (doneOut (a.done.take i)))))
      ⟨none, rfl, s1, upd_same⟩ (fun i σ H' _ ⟨_, _, s2, _⟩ => SqL.of (s2 _ _ hld)) ?_ ?_⟩
    · rintro i y σ H2 hi ⟨v, rfl, s2, hl2⟩
      obtain ⟨p, x, rfl, hx, ⟨pdx, hp⟩⟩ := hds.at hi
      have hp2 := s2 _ _ hp
      refine ⟨_, rfl, .inl ⟨rfl, _, SqL.of hl2⟩, _, rfl, p, CN, pdx, _, _, rfl, hp2, D.clN, D.nN1, rfl, _, rfl, p, CN, pdx, _, _, rfl, hp2, D.clN, D.nN3, rfl, _, rfl, p, CN, pdx, _, _, rfl, hp2, D.clN, D.nN4, rfl, _, rfl, p, CN, pdx, _, _, rfl, hp2, D.clN, D.nN5, rfl, (by show 4 ≤ sizeLine; decide), fun q hq => ?_⟩
      have nq : l ≠ q := ne_of_none hl2 hq
      refine ⟨l, q, _, _, rfl, rfl, (upd_ne nq).trans hl2, upd_same, ?_, ?_⟩
      · rw [List.length_cons, vns_len, flat_len4, List.length_take, sizeLine_eq]
        show _ + 4 ≤ _
        omega
      · refine ⟨_, rfl, fun b' o h => ?_, ?_⟩
        · rw [upd_ne (ne_of_none h hl)]
          exact Same.laid hq _ _ (s2 _ _ h)
        · rw [upd_same, take_snoc hx]
          refine congrArg (fun z => some (HO.lst z)) ?_
          unfold doneOut
          rw [List.flatMap_append, vns_app]
          rfl
    · rintro σ H2 ⟨v, rfl, s2, hl2⟩
      rw [List.length_map, hds.1, List.take_length] at hl2
      exact ⟨_, rfl, k H2 l s2 hl2 hl⟩
theorem scTellDrops : FnScope ["self", "frost", "row", "refusal", "trip", "told", "drop"] ["self", "frost", "row"] (defScope (sD 17)) := ⟨rfl, rfl, rfl, by decide +kernel, rfl, by decide +kernel, by decide +kernel⟩
theorem ok_tellDrops {f f1 : Addr} {fd fd1 : FuncData} (F : Fun K "tell_drops" "Depot.tell_drops" (sD 17) f fd) (G : GT P w K mg base CS CR CT CP P1 P2 P3) (D : TD K mg CD CB CN)
    (m1 : Meth K CD "frost_and_row_refusal" f1) (G1 : FnOk P w K mg base CX0 3 f1 fd1 ["self", "frost", "row"] (spFrostRow CS CR CD CB CN K)) (b1 : Binds K fd1 ["self", "frost", "row"] []) :
    FnOk P w K mg base CX0 5 f fd ["self", "frost", "row"] (spTellDrops CS CR CD CB CN K) := by
  have T := G.T
  obtain ⟨fa, fda, ma, ka, Ga, ba⟩ := G.along
  obtain ⟨fn, fdn, mn, kn, Gn, bn⟩ := G.cold
  obtain ⟨fh, fdh, mh, kh, Gh, bh⟩ := G.frostAt
  obtain ⟨tw, hw⟩ := T.works
  refine F.ok scTellDrops (fun vs H Q E h => ?_) (fun cdv A outer s H vs Q E hr h => ?_)
  · obtain ⟨dp, lr, F, b, a, fr, row, rfl, _⟩ := h
    rfl
  · obtain ⟨dp, lr, F, b, a, fr, row, rfl, DA, hL, hlen, k⟩ := h
    obtain ⟨dx, hdp⟩ := DA.ins
    have nd := scTellDrops.nd
    refine ⟨_, pss_cons (ps_set (i := 3) nd rfl (Or.inl rfl) (pe_meth (pv 0) D.cl m1 G1 (hr.mono (by decide)) b1 .nil pass0 (pa_cons (pv 1) (pa_cons (pv 2) pa_nil))))
      (pss_cons (ps_if (pt_cmpR op_ne (pv 3) pe_int (nomark _)) (pss_one (ps_ret (pe_lst (pa_cons (pv 3) pa_nil)))) pss_nil)
      (pss_cons (ps_set (i := 4) nd rfl (Or.inl rfl) (pe_call Ga hr rfl ma ka ba .nil pass0 (pa_cons (pe_fld (pv 0) rfl) (pa_cons (pe_glob (v := .int 0) rfl hw ⟨_, rfl⟩) (pa_cons (pv 2) pa_nil)))))
      (pss_cons (ps_set (i := 5) nd rfl (Or.inl rfl) (pe_lst (pa_cons (pe_call Gn (hr.mono (by decide)) rfl mn kn bn .nil pass0 (pa_cons (pv 4) (pa_cons (pv 1) pa_nil))) pa_nil)))
      (pss_cons (ps_for PassesOwn.never rfl (pi_list (pe_fld (pv 4) rfl)) (pg_name (i := 6) nd rfl (Or.inl rfl))
        (pss_one (ps_expr (pe_bm PySem.F.plainAttrs_list PySem.F.slot_list_extend PySem.F.type_list_extend mt_extend (pv 5) (pa_cons (pe_lst (pa_cons (pe_fld (pv 6) rfl) (pa_cons (pe_call Gh (hr.mono (by decide)) rfl mh kh bh .nil pass0 (pa_cons (pv 6) (pa_cons (pv 1) pa_nil))) pa_nil))) pa_nil)))))
      (pss_one (ps_ret (pv 5))))))), ?_⟩
    refine ⟨_, rfl, dp, dx, _, rfl, hdp, rfl, _, rfl, _, rfl, dp, lr, F, b, a, fr, row, rfl, DA, hL, hlen, fun H1 s1 => ?_⟩
    refine ⟨_, rfl, rfl, _, rfl, ?_⟩
    refine ite2 (fun e => ?_) fun e => ?_
    · have e := ne_zero_of e
      refine ⟨_, rfl, (by show 1 ≤ sizeLine; decide), fun l hl => ?_⟩
      refine k _ l (s1.trans (Same.laid hl)) ?_ (s1.free hl)
      rw [upd_same]
      refine congrArg (fun z => some (HO.lst z)) ?_
      by_cases h : a.bad row ≠ 0
      · rw [show Su75.does a (.drops fr row) = (a, Su75.no (a.bad row)) from if_pos h, if_pos h]
        rfl
      · rw [if_neg h] at e
        by_cases h2 : 600 < fr
        · rw [show Su75.does a (.drops fr row) = (a, Su75.no (-22)) from (if_neg h).trans (if_pos h2), if_neg h, if_pos h2]
          rfl
        · rw [if_neg h2] at e; exact absurd rfl e
    · obtain ⟨e, h600⟩ := frost_ref (zero_of e)
      obtain ⟨h6, hnd, hrow⟩ := bad_zero e
      refine ⟨_, rfl, dp, CD, dx, _, _, rfl, s1 _ _ hdp, D.cl, D.n2, rfl, _, rfl, F.ra, F.ls, F.d, lr, a, 0, row, rfl, DA.roads.same s1, Nat.zero_le _, s1.seq hL, hrow, by omega, fun H2 tp s2 ht => ?_⟩
      have s3 := s1.trans s2
      have hdl : (tripAlong a 0 row).drops.length = row.length := (along_row a 0 row).2
      refine ⟨_, rfl, _, rfl, tp, _, fr, rfl, ht, (by rw [hdl]; omega), fun H3 s4 => ⟨(by show 1 ≤ sizeLine; decide), fun l hl => ?_⟩⟩
      have s5 := s3.trans s4
      have hl0 : H l = none := s5.free hl
      have s6 : Same H3 (upd H3 l (.lst [vn ((tripAlong a 0 row).good fr)])) := Same.laid hl
      obtain ⟨tdx, tlr, tln, tds, t1, t2, t3, t4⟩ := ht.same s4
      have ntl : tln ≠ l := ne_of_none t3 hl
      have t1 := s6 _ _ t1
      have t3 := s6 _ _ t3
      have t4 := t4.mono fun _ _ _ q => DropAt.same s6 q
      have s7 := s5.trans s6
      refine ⟨_, rfl, tp, CT, tdx, _, _, rfl, t1, T.clT, T.nT5, rfl, tln, rfl, ⟨_, SqL.of t3⟩, for_list (K := K) (a := tln) (xs := tds.map V.ref)
        (fun i σ H' => ∃ v, σ = [some (.ref dp), some (vn fr), some (.ref lr), some (.int _), some (.ref tp), some (.ref l), v] ∧ (∀ b' o, upd H3 l (.lst [vn ((tripAlong a 0 row).good fr)]) b' = some o → b' ≠ l → H' b' = some o) ∧ H' l = some (.lst (vn ((tripAlong a 0 row).good fr) :: vns (dropsOut fr ((tripAlong a 0 row).drops.take i)))))
        ⟨none, rfl, fun b' o h _ => h, upd_same⟩ (fun i σ H' _ ⟨_, _, s2, _⟩ => SqL.of (s2 _ _ t3 ntl)) ?_ ?_⟩
      · rintro i y σ H4 hi ⟨v, rfl, s8, hl4⟩
        obtain ⟨p, x, rfl, hx, ⟨pdx, hp⟩⟩ := t4.at hi
        have hp4 : H4 p = some (.ins CP pdx (fDrop x)) := s8 _ _ hp (ne_of hp upd_same (by intro z; cases z))
        refine ⟨_, rfl, .inl ⟨rfl, _, SqL.of hl4⟩, _, rfl, p, CP, pdx, _, _, rfl, hp4, T.clP, T.nP1, rfl, _, rfl, _, rfl, p, x, fr, rfl, ⟨pdx, hp4⟩, (by show 2 ≤ sizeLine; decide), fun q hq => ?_⟩
        have nq : l ≠ q := ne_of_none hl4 hq
        refine ⟨l, q, _, _, rfl, rfl, (upd_ne nq).trans hl4, upd_same, ?_, ?_⟩
        · rw [List.length_cons, vns_len, flat_len2, List.length_take, sizeLine_eq]
          show _ + 2 ≤ _
          omega
        · refine ⟨_, rfl, fun b' o h hb => ?_, ?_⟩
          · rw [upd_ne hb]
            exact Same.laid hq _ _ (s8 _ _ h hb)
          · rw [upd_same, take_snoc hx]
            refine congrArg (fun z => some (HO.lst z)) ?_
            unfold dropsOut
            rw [List.flatMap_append, vns_app]
            rfl
      · rintro σ H4 ⟨v, rfl, s8, hl4⟩
        rw [List.length_map, t4.1, List.take_length] at hl4
        refine ⟨_, rfl, k H4 l (fun b' o h => s8 _ _ (s7 _ _ h) (ne_of_none h hl0)) ?_ hl0⟩
        rw [hl4, drops_out, along_drops, show Su75.does a (.drops fr row) = (a, Su75.num (a.good 0 fr row) ((a.drops 0 row).flatMap fun x => [x.1, fr - x.2])) from (if_neg (fun z => z e)).trans (if_neg h600), ansV_num, along_good]
end
end CD
end

section
set_option Elab.async false
set_option linter.all false
set_option maxRecDepth 100000
set_option maxHeartbeats 4000000
namespace CD
open PySem PySem.Spec PyProof.Rows L2

theorem leastBy_min (f : List Nat → Nat × Nat) (L : List (List Nat)) (v : List Nat) (h : Su75.leastBy f L = some v) : ∀ w ∈ L, (f v).1 ≤ (f w).1 := by
  have key : ∀ (L : List (List Nat)) (b : Option (List Nat)), (L.foldl (fun b w => match b with
      | none => some w
      | some v => if (f w).1 < (f v).1 ∨ ((f w).1 = (f v).1 ∧ (f w).2 < (f v).2) then some w else some v) b) = some v → (∀ w ∈ L, (f v).1 ≤ (f w).1) ∧ ∀ u, b = some u → (f v).1 ≤ (f u).1 := by
    intro L
    induction L with
    | nil => intro b h; exact ⟨fun w hw => (by cases hw), fun u hu => by have h : b = some v := h; rw [hu] at h; cases h; exact Nat.le_refl _⟩
    | cons w L ih =>
      intro b h
      rw [List.foldl_cons] at h
      obtain ⟨h1, h2⟩ := ih _ h
      cases b with
      | none =>
        have h3 := h2 w rfl
        refine ⟨fun x hx => ?_, fun u hu => by cases hu⟩
        rcases List.mem_cons.mp hx with rfl | hx
        · exact h3
        · exact h1 x hx
      | some u =>
        have h2 : ∀ z, (if (f w).1 < (f u).1 ∨ ((f w).1 = (f u).1 ∧ (f w).2 < (f u).2) then some w else some u) = some z → (f v).1 ≤ (f z).1 := h2
        by_cases c : (f w).1 < (f u).1 ∨ ((f w).1 = (f u).1 ∧ (f w).2 < (f u).2)
        · have h3 := h2 w (if_pos c)
          refine ⟨fun x hx => ?_, fun y hy => ?_⟩
          · rcases List.mem_cons.mp hx with rfl | hx
            · exact h3
            · exact h1 x hx
          · cases hy
            omega
        · have h3 := h2 u (if_neg c)
          refine ⟨fun x hx => ?_, fun y hy => ?_⟩
          · rcases List.mem_cons.mp hx with rfl | hx
            · omega
            · exact h1 x hx
          · cases hy
            exact h3
  exact (key L none h).1
theorem leastBy_some (f : List Nat → Nat × Nat) (L : List (List Nat)) (h : 0 < L.length) : ∃ v, Su75.leastBy f L = some v := by
  have key : ∀ (L : List (List Nat)) (u : List Nat), ∃ v, (L.foldl (fun b w => match b with
      | none => some w
      | some v => if (f w).1 < (f v).1 ∨ ((f w).1 = (f v).1 ∧ (f w).2 < (f v).2) then some w else some v) (some u)) = some v := by
    intro L
    induction L with
    | nil => intro u; exact ⟨u, rfl⟩
    | cons w L ih =>
      intro u
      rw [List.foldl_cons]
      show ∃ v, List.foldl _ (if (f w).1 < (f u).1 ∨ ((f w).1 = (f u).1 ∧ (f w).2 < (f u).2) then some w else some u) L = some v
      split
      · exact ih w
      · exact ih u
  cases L with
  | nil => cases h
  | cons w L => exact key L w
/-- of the same least need, whichever row has it -/
theorem slack_is {a : Su75.Abs} {v : List Nat} (h : Su75.leastBy (fun w => (a.need a.place w, a.home a.place w)) (Su75.orders a.to_.length a.to_) = some v) :
    a.slack = if a.frost < a.need a.place v then none else some (if a.run = 0 then 0 else (a.frost - a.need a.place v) / a.run) := by
  obtain ⟨w, hw⟩ := leastBy_some (fun w => (a.need a.place w, 0)) (Su75.orders a.to_.length a.to_) (orders_pos _ _)
  have e : a.need a.place w = a.need a.place v := Nat.le_antisymm (leastBy_min _ _ _ hw v (leastBy_mem _ _ _ h)) (leastBy_min _ _ _ h w (leastBy_mem _ _ _ hw))
  unfold Su75.Abs.slack
  rw [hw, ← e]
def spTripsLeft (CS CR CT CP CD CB CN : Addr) : Sp := fun vs H Q _ => ∃ (dp : Addr) (F : Foot) (b : Bool) (a : Su75.Abs), vs = [.ref dp] ∧ DepotAt CS CR CD CB CN H dp F b a ∧
  ∀ H' l ps, Same H H' → H' l = some (.lst (ps.map V.ref)) → TripsAt CT CP H' ps (allTrips a a.place a.to_) → Q (.ref l) H'
def spTellNow (CS CR CD CB CN P : Addr) : Sp := fun vs H Q _ => ∃ (dp : Addr) (F : Foot) (b : Bool) (a : Su75.Abs), vs = [.ref dp] ∧ DepotAt CS CR CD CB CN H dp F b a ∧ TabOk H P lQuickest.pos qQuickest ∧
  Tells P H (fun H' => TabOk H' P lQuickest.pos qQuickest) (ansV (Su75.does a .now).2) Q
def spTellSlack (CS CR CD CB CN P : Addr) : Sp := fun vs H Q _ => ∃ (dp : Addr) (F : Foot) (a : Su75.Abs), vs = [.ref dp] ∧ DepotAt CS CR CD CB CN H dp F true a ∧ TabOk H P lMildest.pos qMildest ∧
  Tells P H (fun H' => TabOk H' P lMildest.pos qMildest) (ansV (Su75.does a .slack).2) Q
section
variable {P : Program} {w : World} {K : PySem.W.Frag} {mg : Str → Option Value} {base : Heap} {CS CR CT CP CD CB CN P1 P2 P3 : Addr}
theorem scTripsLeft : FnScope ["self"] ["self"] (defScope (sD 18)) := ⟨rfl, rfl, rfl, by decide +kernel, rfl, by decide +kernel, by decide +kernel⟩
theorem ok_tripsLeft {f : Addr} {fd : FuncData} (F : Fun K "trips_left" "Depot.trips_left" (sD 18) f fd) (G : GT P w K mg base CS CR CT CP P1 P2 P3) (D : TD K mg CD CB CN) : FnOk P w K mg base CX0 5 f fd ["self"] (spTripsLeft CS CR CT CP CD CB CN) := by
  obtain ⟨fa, fda, ma, ka, Ga, ba⟩ := G.all
  refine F.ok scTripsLeft (fun vs H Q E h => ?_) (fun cdv A outer s H vs Q E hr h => ?_)
  · obtain ⟨dp, F, b, a, rfl, _⟩ := h
    rfl
  · obtain ⟨dp, F, b, a, rfl, DA, k⟩ := h
    obtain ⟨dx, hdp⟩ := DA.ins
    refine ⟨_, pss_one (ps_ret (pe_call Ga hr rfl ma ka ba .nil pass0 (pa_cons (pe_fld (pv 0) rfl) (pa_cons (pe_fld (pv 0) rfl) (pa_cons (pe_fld (pv 0) rfl) pa_nil))))), ?_⟩
    exact ⟨_, rfl, dp, CD, dx, _, _, rfl, hdp, D.cl, D.n2, rfl, _, rfl, dp, CD, dx, _, _, rfl, hdp, D.cl, D.n5, rfl, _, rfl, dp, CD, dx, _, _, rfl, hdp, D.cl, D.n7, rfl, F.ra, F.ls, F.d, F.lu, a, a.place, a.to_, rfl, DA.roads, DA.ok.pl, SqL.of DA.und, DA.ok.to_, DA.ok.six, fun H' l ps s1 hl hT => k H' l ps s1 hl hT⟩
theorem scTellNow : FnScope ["self", "trips", "trip"] ["self"] (defScope (sD 19)) := ⟨rfl, rfl, rfl, by decide +kernel, rfl, by decide +kernel, by decide +kernel⟩
theorem ok_tellNow {f f1 : Addr} {fd fd1 : FuncData} (F : Fun K "tell_now" "Depot.tell_now" (sD 19) f fd) (G : GT P w K mg base CS CR CT CP P1 P2 P3) (D : TD K mg CD CB CN)
    (m1 : Meth K CD "trips_left" f1) (G1 : FnOk P w K mg base CX0 5 f1 fd1 ["self"] (spTripsLeft CS CR CT CP CD CB CN)) (b1 : Binds K fd1 ["self"] []) :
    FnOk P w K mg base CX0 6 f fd ["self"] (spTellNow CS CR CD CB CN P2) := by
  have T := G.T
  obtain ⟨fh, fdh, mh, kh, Gh, bh⟩ := G.home
  obtain ⟨fm, fdm, mm, km, Gm, bm⟩ := G.quick
  obtain ⟨fc, fdc, mc, kc, Gc, bc⟩ := G.coldT
  obtain ⟨t33, h33⟩ := D.i33
  obtain ⟨t6, h6'⟩ := D.i6
  refine F.ok scTellNow (fun vs H Q E h => ?_) (fun cdv A outer s H vs Q E hr h => ?_)
  · obtain ⟨dp, F, b, a, rfl, _⟩ := h
    rfl
  · obtain ⟨dp, F, b, a, rfl, DA, hTab, k⟩ := h
    obtain ⟨dx, hdp⟩ := DA.ins
    obtain ⟨ps0, eP, _⟩ := id hTab
    have nd := scTellNow.nd
    refine ⟨_, pss_cons (ps_if (pt_cmpR op_eq (pe_callB call_len_seq (by rfl) T.len PySem.boot_len (pa_cons (pe_fld (pv 0) rfl) pa_nil)) pe_int (nomark _)) (pss_one (ps_ret (pe_lst (pa_cons (pe_glob (v := .int (-6)) rfl h6' ⟨_, rfl⟩) pa_nil)))) pss_nil)
      (pss_cons (ps_set (i := 1) nd rfl (Or.inl rfl) (pe_call Gc (hr.mono (by decide)) rfl mc kc bc .nil pass0 (pa_cons (pe_meth0 (pv 0) D.cl m1 G1 hr b1 .nil pass0) (pa_cons (pe_fld (pv 0) rfl) pa_nil))))
      (pss_cons (ps_if (pt_cmpR op_eq (pe_callB call_len_seq (by rfl) T.len PySem.boot_len (pa_cons (pv 1) pa_nil)) pe_int (nomark _)) (pss_one (ps_ret (pe_lst (pa_cons (pe_glob (v := .int (-33)) rfl h33 ⟨_, rfl⟩) pa_nil)))) pss_nil)
      (pss_cons (ps_set (i := 2) nd rfl (Or.inl rfl) (pe_call Gm hr rfl mm km bm .nil pass0 (pa_cons (pe_fld (pv 0) rfl) (pa_cons (pv 1) pa_nil))))
      (pss_one (ps_ret (pe_op op_cat (pe_lst (pa_cons (pe_call Gh (hr.mono (by decide)) rfl mh kh bh .nil pass0 (pa_cons (pe_fld (pv 0) rfl) (pa_cons (pv 2) pa_nil))) pa_nil)) (pe_fld (pv 2) rfl))))))), ?_⟩
    refine ⟨_, rfl, dp, CD, dx, _, _, rfl, hdp, D.cl, D.n7, rfl, F.lu, _, rfl, .inl (SqL.of DA.und), rfl, _, rfl, ?_⟩
    refine ite2 (fun e => ?_) fun e => ?_
    · have e : (vns a.to_).length = 0 := by
        have := of_decide_eq_true e
        injection this with this
        exact Int.ofNat.inj this
      rw [vns_len] at e
      have e : a.to_ = [] := List.length_eq_zero_iff.mp e
      refine ⟨(by show 1 ≤ sizeLine; decide), fun l hl => ?_⟩
      have s2 : Same H (upd H l (.lst [V.int (-6)])) := Same.laid hl
      refine k _ l (But.of_same s2) (hTab.same s2) ?_ hl
      rw [upd_same, show Su75.does a .now = (a, Su75.no (-6)) from if_pos e]
      rfl
    · have e : a.to_ ≠ [] := fun z => by
        rw [z] at e
        exact e (decide_eq_true rfl)
      have hnd := DA.ok.nd
      have hrow := DA.ok.to_
      have h6 := DA.ok.six
      have hpl := DA.ok.pl
      have edoes : Su75.does a .now = (match a.quick a.place a.frost a.to_ with
          | none => (a, Su75.no (-33))
          | some w => (a, Su75.num (a.home a.place w) w)) := if_neg e
      refine ⟨_, rfl, dp, dx, _, rfl, hdp, rfl, dp, F, b, a, rfl, DA, fun H2 l2 ps s2 hl2 hT => ?_⟩
      have hcount : (allTrips a a.place a.to_).length ≤ 46656 := by
        have h1 := iter_len (a := a) (x := a.place) h6 a.to_.length
        have h2 : 6 ^ a.to_.length ≤ 6 ^ 6 := Nat.pow_le_pow_right (by decide) h6
        have h3 : (6 : Nat) ^ 6 = 46656 := by decide
        unfold allTrips
        omega
      refine ⟨_, rfl, dp, CD, dx, _, _, rfl, s2 _ _ hdp, D.cl, D.n6, rfl, l2, ps, allTrips a a.place a.to_, a.frost, rfl, hl2, hT, by omega, (fun t ht => by rw [(iter_ok (a := a) hpl hrow _ t ht).2.2]; omega), fun H3 l3 ps3 s4 hl3 hT3 => ?_⟩
      have s5 := s2.trans s4
      refine ⟨_, rfl, l3, _, rfl, .inl (SqL.of hl3), rfl, _, rfl, ?_⟩
      have hbq := best_quick a a.place a.frost hnd
      refine ite2 (fun e2 => ?_) fun e2 => ?_
      · have e2 : (ps3.map V.ref).length = 0 := by
          have := of_decide_eq_true e2
          injection this with this
          exact Int.ofNat.inj this
        rw [List.length_map, hT3.1] at e2
        have e3 : (allTrips a a.place a.to_).filter (fun t => decide (t.need ≤ a.frost)) = [] := List.length_eq_zero_iff.mp e2
        rw [e3] at hbq
        have e4 : a.quick a.place a.frost a.to_ = none := by
          cases q : a.quick a.place a.frost a.to_ with
          | none => rfl
          | some v => rw [q] at hbq; cases hbq
        refine ⟨(by show 1 ≤ sizeLine; decide), fun l hl => ?_⟩
        have s6 := s5.trans (Same.laid (o := .lst [V.int (-33)]) hl)
        refine k _ l (But.of_same s6) (hTab.same s6) ?_ (s5.free hl)
        rw [upd_same, edoes, e4]
        rfl
      · have hpos : 0 < ((allTrips a a.place a.to_).filter fun t => decide (t.need ≤ a.frost)).length := by
          rcases Nat.eq_zero_or_pos ((allTrips a a.place a.to_).filter fun t => decide (t.need ≤ a.frost)).length with z | z
          · refine absurd (decide_eq_true ?_) e2
            rw [List.length_map, hT3.1, z]
            rfl
          · exact z
        refine ⟨_, rfl, dp, CD, dx, _, _, rfl, s5 _ _ hdp, D.cl, D.n2, rfl, _, rfl, F.ra, F.ls, F.d, l3, a, ps3, _, rfl, DA.roads.same s5, hl3, hT3, hpos, fun t ht => (let h := iter_ok (a := a) hpl hrow _ t (List.mem_filter.mp ht).1; ⟨h.1, by rw [h.2.2]; omega⟩), hTab.same s5, fun H4 tp t k4 hTab4 hbest ht => ?_⟩
        rw [hbq] at hbest
        cases hw2 : a.quick a.place a.frost a.to_ with
        | none => rw [hw2] at hbest; cases hbest
        | some v =>
          rw [hw2] at hbest
          have hbest : tripAlong a a.place v = t := Option.some.inj hbest
          subst hbest
          have eP4 : H3 P2 = some (.tbl ps0) := s5 _ _ eP
          have k4' : But P2 H H4 := (But.of_same s5).trans k4
          have hdp4 : H4 dp = some (.ins CD dx (fDepot b F a)) := k4' _ _ hdp (ne_of hdp eP (by intro z; cases z))
          have R4 : RoadsAt CS CR H4 F.ra F.ls F.d a := roads_but eP4 k4 (DA.roads.same s5)
          have hvo : v ∈ Su75.orders a.to_.length a.to_ := (List.mem_filter.mp (leastBy_mem _ _ _ hw2)).1
          have hvm : ∀ s ∈ v, s < a.stops.length := fun s hs => hrow s (orders_mem _ _ v hvo s hs)
          have hvl := orders_len _ _ v hvo
          have hvr := (along_row a a.place v).1
          obtain ⟨tdx, tlr, tln, tds, t1, t2, t3, t4⟩ := id ht
          refine ⟨_, rfl, dp, CD, dx, _, _, rfl, hdp4, D.cl, D.n2, rfl, _, rfl, F.ra, F.ls, F.d, tp, a, _, rfl, R4, ht, along_place hpl _ hvm, fun H5 s6 => ⟨(by show 1 ≤ sizeLine; decide), fun l hl => ?_⟩⟩
          have s7 := s6.trans (Same.laid (o := .lst [vn ((tripAlong a a.place v).home a)]) hl)
          refine ⟨_, rfl, tp, CT, tdx, _, _, rfl, s7 _ _ t1, T.clT, T.nT1, rfl, l, tlr, _, _, rfl, rfl, upd_same, s7 _ _ t2, ?_, fun q hq => ?_⟩
          · rw [vns_len, hvr, sizeLine_eq]; show 1 + v.length ≤ _; omega
          · have s8 := s7.trans (Same.laid (o := .lst ([vn ((tripAlong a a.place v).home a)] ++ vns (tripAlong a a.place v).row)) hq)
            have hqP : q ≠ P2 := fun z => by
              obtain ⟨_, e3, _⟩ := hTab4
              rw [z, s7 _ _ e3] at hq; cases hq
            have b8 : But P2 H _ := k4'.trans (But.of_same s8)
            refine k _ q b8 (hTab4.same s8) ?_ (But.free (k4'.trans (But.of_same s7)) hq hqP)
            rw [upd_same, edoes, hw2, along_home, hvr]
            rfl
theorem scTellSlack : FnScope ["self", "spare"] ["self"] (defScope (sD 21)) := ⟨rfl, rfl, rfl, by decide +kernel, rfl, by decide +kernel, by decide +kernel⟩
theorem ok_tellSlack {f f1 : Addr} {fd fd1 : FuncData} (F : Fun K "tell_slack" "Depot.tell_slack" (sD 21) f fd) (G : GT P w K mg base CS CR CT CP P1 P2 P3) (D : TD K mg CD CB CN)
    (m1 : Meth K CD "trips_left" f1) (G1 : FnOk P w K mg base CX0 5 f1 fd1 ["self"] (spTripsLeft CS CR CT CP CD CB CN)) (b1 : Binds K fd1 ["self"] []) :
    FnOk P w K mg base CX0 6 f fd ["self"] (spTellSlack CS CR CD CB CN P1) := by
  have T := G.T
  obtain ⟨fn, fdn, mn, kn, Gn, bn⟩ := G.need
  obtain ⟨fm, fdm, mm, km, Gm, bm⟩ := G.mild
  obtain ⟨t33, h33⟩ := D.i33
  obtain ⟨t6, h6'⟩ := D.i6
  refine F.ok scTellSlack (fun vs H Q E h => ?_) (fun cdv A outer s H vs Q E hr h => ?_)
  · obtain ⟨dp, F, a, rfl, _⟩ := h
    rfl
  · obtain ⟨dp, F, a, rfl, DA, hTab, k⟩ := h
    obtain ⟨dx, hdp⟩ := DA.ins
    obtain ⟨rdx, hra⟩ := DA.roads.ins
    obtain ⟨ps0, eP, _⟩ := id hTab
    have nd := scTellSlack.nd
    have hrun : 0 < a.run := DA.run1 rfl
    have hrun2 := DA.roads.run
    refine ⟨_, pss_cons (ps_if (pt_cmpR op_eq (pe_callB call_len_seq (by rfl) T.len PySem.boot_len (pa_cons (pe_fld (pv 0) rfl) pa_nil)) pe_int (nomark _)) (pss_one (ps_ret (pe_lst (pa_cons (pe_glob (v := .int (-6)) rfl h6' ⟨_, rfl⟩) pa_nil)))) pss_nil)
      (pss_cons (ps_set (i := 1) nd rfl (Or.inl rfl) (pe_op op_sub (pe_fld (pv 0) rfl) (pe_call Gn (hr.mono (by decide)) rfl mn kn bn .nil pass0 (pa_cons (pe_call Gm hr rfl mm km bm .nil pass0 (pa_cons (pe_fld (pv 0) rfl) (pa_cons (pe_meth0 (pv 0) D.cl m1 G1 hr b1 .nil pass0) pa_nil))) pa_nil))))
      (pss_cons (ps_if (pt_cmpR op_lt (pv 1) pe_int (nomark _)) (pss_one (ps_ret (pe_lst (pa_cons (pe_glob (v := .int (-33)) rfl h33 ⟨_, rfl⟩) pa_nil)))) pss_nil)
      (pss_one (ps_ret (pe_lst (pa_cons (pe_op op_fdiv (pv 1) (pe_fld (pe_fld (pv 0) rfl) rfl)) pa_nil)))))), ?_⟩
    refine ⟨_, rfl, dp, CD, dx, _, _, rfl, hdp, D.cl, D.n7, rfl, F.lu, _, rfl, .inl (SqL.of DA.und), rfl, _, rfl, ?_⟩
    refine ite2 (fun e => ?_) fun e => ?_
    · have e : (vns a.to_).length = 0 := by
        have := of_decide_eq_true e
        injection this with this
        exact Int.ofNat.inj this
      rw [vns_len] at e
      have e : a.to_ = [] := List.length_eq_zero_iff.mp e
      refine ⟨(by show 1 ≤ sizeLine; decide), fun l hl => ?_⟩
      have s2 : Same H (upd H l (.lst [V.int (-6)])) := Same.laid hl
      refine k _ l (But.of_same s2) (hTab.same s2) ?_ hl
      rw [upd_same, show Su75.does a .slack = (a, Su75.no (-6)) from if_pos e]
      rfl
    · have e : a.to_ ≠ [] := fun z => by
        rw [z] at e
        exact e (decide_eq_true rfl)
      have hnd := DA.ok.nd
      have hrow := DA.ok.to_
      have h6 := DA.ok.six
      have hpl := DA.ok.pl
      have edoes : Su75.does a .slack = (match a.slack with
          | none => (a, Su75.no (-33))
          | some n => (a, Su75.num n [])) := if_neg e
      refine ⟨_, rfl, dp, CD, dx, _, _, rfl, hdp, D.cl, D.n6, rfl, _, rfl, dp, CD, dx, _, _, rfl, hdp, D.cl, D.n2, rfl, _, rfl, dp, dx, _, rfl, hdp, rfl, dp, F, true, a, rfl, DA, fun H2 l2 ps s2 hl2 hT => ?_⟩
      refine ⟨F.ra, F.ls, F.d, l2, a, ps, allTrips a a.place a.to_, rfl, DA.roads.same s2, hl2, hT, allTrips_pos a a.place hnd, fun t ht => (let h := iter_ok (a := a) hpl hrow _ t ht; ⟨h.1, by rw [h.2.2]; omega⟩), hTab.same s2, fun H3 tp t k3 hTab3 hbest ht => ?_⟩
      rw [best_mild a a.place hnd] at hbest
      cases hw2 : Su75.leastBy (fun w => (a.need a.place w, a.home a.place w)) (Su75.orders a.to_.length a.to_) with
      | none => rw [hw2] at hbest; cases hbest
      | some v =>
        rw [hw2] at hbest
        have hbest : tripAlong a a.place v = t := Option.some.inj hbest
        subst hbest
        have esl := slack_is hw2
        have eP3 : H2 P1 = some (.tbl ps0) := s2 _ _ eP
        have k3' : But P1 H H3 := (But.of_same s2).trans k3
        have hdp3 : H3 dp = some (.ins CD dx (fDepot true F a)) := k3' _ _ hdp (ne_of hdp eP (by intro z; cases z))
        have hra3 : H3 F.ra = some (.ins CR rdx (fRoads a.run a.open_ F.ls F.d)) := k3' _ _ hra (ne_of hra eP (by intro z; cases z))
        have hvo := leastBy_mem _ _ _ hw2
        have hvl := orders_len _ _ v hvo
        refine ⟨tp, _, rfl, ht, (by rw [(along_row a a.place v).2]; omega), fun H4 s4 => ⟨_, _, rfl, rfl, ?_⟩⟩
        have fin : ∀ (z : Int) (l : Addr), H4 l = none → ansV (Su75.does a .slack).2 = [V.int z] → { nx := fun _ H' => Q .non H', rt := Q : Ends }.rt (.ref l) (upd H4 l (.lst [V.int z])) := fun z l hl ez => by
          have s5 := s4.trans (Same.laid (o := .lst [V.int z]) hl)
          have hlP : l ≠ P1 := fun y => by
            obtain ⟨_, e3, _⟩ := hTab3
            rw [y, s4 _ _ e3] at hl; cases hl
          refine k _ l (k3'.trans (But.of_same s5)) (hTab3.same s5) ?_ (But.free (k3'.trans (But.of_same s4)) hl hlP)
          rw [upd_same, ez]
        refine ⟨_, rfl, _, _, rfl, rfl, _, rfl, ?_⟩
        have en := along_need a a.place v
        refine ite2 (fun e2 => ?_) fun e2 => ?_
        · have e2 : (a.frost : Int) - ((tripAlong a a.place v).need : Int) < 0 := of_decide_eq_true e2
          rw [en] at e2
          refine ⟨(by show 1 ≤ sizeLine; decide), fun l hl => fin (-33) l hl ?_⟩
          rw [edoes, esl, if_pos (by omega)]
          rfl
        · have e2 : ¬ (a.frost : Int) - ((tripAlong a a.place v).need : Int) < 0 := fun z => e2 (decide_eq_true z)
          rw [en] at e2
          refine ⟨_, rfl, _, rfl, dp, CD, dx, _, _, rfl, s4 _ _ hdp3, D.cl, D.n2, rfl, F.ra, CR, rdx, _, _, rfl, s4 _ _ hra3, T.clR, T.nR1, rfl, _, _, rfl, rfl, ⟨by omega, by omega⟩, (by show 1 ≤ sizeLine; decide), fun l hl => fin _ l hl ?_⟩
          rw [edoes, esl, if_neg (by omega), if_neg (by omega), en]
          have e3 : (a.frost : Int) - ((a.need a.place v : Nat) : Int) = ((a.frost - a.need a.place v : Nat) : Int) := by omega
          rw [e3]
          rfl
end
end CD
end

section
set_option Elab.async false
set_option linter.all false
set_option maxRecDepth 100000
set_option maxHeartbeats 4000000
namespace CD
open PySem PySem.Spec PyProof.Rows L2

/-- what an answer to the call c leaves, and tells -/
def Post (CS CR CD CB CN : Addr) (TB : Hp → Prop) (H : Hp) (dp : Addr) (F : Foot) (s : Su75Neutral.S) (c : Su75.Call) (Q : VK) : Prop :=
  ∀ (H' : Hp) (F' : Foot) (l : Addr), DSt CS CR CD CB CN H' dp F' (Su75.step s c).1 → TB H' → H' l = some (.lst (ansV (Su75.step s c).2)) →
    (∀ b o, H b = some o → b ∉ F.all dp → ¬ isT o → H' b = some o) → (∀ b ∈ F'.all dp, b ∈ F.all dp ∨ H b = none) → H l = none → l ∉ F'.all dp → Q (.ref l) H'
def spAns (CS CR CD CB CN : Addr) (TB : Hp → Prop) (q : Nat) : Sp := fun vs H Q _ => ∃ (dp ln lr : Addr) (F : Foot) (s : Su75Neutral.S) (ns row : List Nat), vs = [.ref dp, .ref ln, .ref lr] ∧ DSt CS CR CD CB CN H dp F s ∧ (q ≠ 0 → ∃ a, s = some a) ∧ TB H ∧ H ln = some (.lst (vns ns)) ∧ H lr = some (.lst (vns row)) ∧
  ns.length = argN q ∧ row.length ≤ 10 ∧ dnS s ≤ 10000 ∧ Post CS CR CD CB CN TB H dp F s (cq q ns row) Q
theorem own_T {CS CR CD CB CN : Addr} {H : Hp} {dp x : Addr} {F : Foot} {b : Bool} {a : Su75.Abs} {o : HO} (D : DepotAt CS CR CD CB CN H dp F b a) (h : H x = some o) (ht : isT o) : x ∉ F.all dp := by
  obtain ⟨⟨dx, h1⟩, ⟨⟨rdx, r1⟩, ⟨ss, r2, r3, r4⟩, ⟨kvs, r5, r6⟩, r7, r8, r9⟩, h3, h4, h5, ⟨⟨bdx, b1⟩, ⟨bds, b2, _⟩⟩, _⟩ := D
  unfold Foot.all
  simp only [List.mem_cons, List.not_mem_nil, or_false, not_or]
  refine ⟨ne_of h h1 ?_, ne_of h r1 ?_, ne_of h r2 ?_, ne_of h r5 ?_, ne_of h h3 ?_, ne_of h b1 ?_, ne_of h b2 ?_⟩ <;>
  · intro z
    subst z
    exact ht
theorem acts_post {CS CR CD CB CN : Addr} {TB : Hp → Prop} (hTB : Stab TB) {H : Hp} {dp : Addr} {F : Foot} {a : Su75.Abs} {c : Su75.Call} {Q : VK} (hT : TB H) (D : DepotAt CS CR CD CB CN H dp F true a) (k : Post CS CR CD CB CN TB H dp F (some a) c Q) : Acts CS CR CD CB CN H dp F true a c Q :=
  fun H' F' l hD hl hl0 kp hlF => k H' F' l hD (hTB _ _ hT fun b o h ht => kp.1 b o h (own_T D h ht)) hl (fun b o h hb _ => kp.1 b o h hb) kp.2 hl0 hlF
theorem tellsS_post {CS CR CD CB CN : Addr} {TB : Hp → Prop} (hTB : Stab TB) {H : Hp} {dp : Addr} {F : Foot} {a : Su75.Abs} {c : Su75.Call} {Q : VK} (hT : TB H) (D : DepotAt CS CR CD CB CN H dp F true a) (e : (Su75.does a c).1 = a) (k : Post CS CR CD CB CN TB H dp F (some a) c Q) : TellsS H (ansV (Su75.does a c).2) Q :=
  fun H' l s hl hl0 => k H' F l (by rw [step_some, e]; exact D.same s) (hTB _ _ hT fun b o h _ => s b o h) hl (fun b o h _ _ => s b o h) (fun b hb => .inl hb) hl0 (fresh_not D hl0)
/-- of a call that asks, with a table at P that may grow -/
theorem tells_post {CS CR CD CB CN P : Addr} {TB ok : Hp → Prop} {H : Hp} {dp : Addr} {F : Foot} {a : Su75.Abs} {c : Su75.Call} {Q : VK} {ps : Array Value} (hP : H P = some (.tbl ps)) (hok : ∀ H', But P H H' → ok H' → TB H') (D : DepotAt CS CR CD CB CN H dp F true a) (e : (Su75.does a c).1 = a) (k : Post CS CR CD CB CN TB H dp F (some a) c Q) : Tells P H ok (ansV (Su75.does a c).2) Q :=
  fun H' l s ho hl hl0 => k H' F l (by rw [step_some, e]; exact depot_but hP s D) (hok H' s ho) hl (fun b o h _ ht => s b o h fun z => ht (by rw [z, hP] at h; cases h; exact True.intro)) (fun b hb => .inl hb) hl0 (fresh_not D hl0)
theorem asks_need (a : Su75.Abs) (row : List Nat) : (Su75.does a (.need row)).1 = a := by
  show (if a.bad row ≠ 0 then (a, Su75.no (a.bad row)) else (a, Su75.num (a.need 0 row) [a.home 0 row])).1 = a
  split <;> rfl
theorem asks_mild (a : Su75.Abs) (row : List Nat) : (Su75.does a (.mild row)).1 = a := by
  show (if a.bad row ≠ 0 then (a, Su75.no (a.bad row)) else (a, Su75.num (a.need 0 (a.mild row)) (a.home 0 (a.mild row) :: a.mild row))).1 = a
  split <;> rfl
theorem asks_most (a : Su75.Abs) (f : Nat) (row : List Nat) : (Su75.does a (.most f row)).1 = a := by
  show (if a.bad row ≠ 0 then (a, Su75.no (a.bad row)) else if Su75.COLD < f then (a, Su75.no (-22)) else (a, Su75.num (a.good 0 f (a.most 0 f row)) (a.home 0 (a.most 0 f row) :: a.most 0 f row))).1 = a
  split
  · rfl
  · split <;> rfl
theorem asks_quick (a : Su75.Abs) (f : Nat) (row : List Nat) : (Su75.does a (.quick f row)).1 = a := by
  show (if a.bad row ≠ 0 then (a, Su75.no (a.bad row)) else if Su75.COLD < f then (a, Su75.no (-22)) else (match a.quick 0 f row with
    | none => (a, Su75.no (-33))
    | some w => (a, Su75.num (a.home 0 w) (a.need 0 w :: w)))).1 = a
  split
  · rfl
  · split
    · rfl
    · split <;> rfl
theorem asks_drops (a : Su75.Abs) (f : Nat) (row : List Nat) : (Su75.does a (.drops f row)).1 = a := by
  simp only [Su75.does]
  repeat' split
  all_goals rfl
theorem asks_now (a : Su75.Abs) : (Su75.does a .now).1 = a := by
  simp only [Su75.does]
  repeat' split
  all_goals rfl
theorem asks_slack (a : Su75.Abs) : (Su75.does a .slack).1 = a := by
  simp only [Su75.does]
  repeat' split
  all_goals rfl
theorem asks_mins (a : Su75.Abs) (x y : Nat) : (Su75.does a (.mins x y)).1 = a := by
  simp only [Su75.does]
  repeat' split
  all_goals rfl
theorem asks_look (a : Su75.Abs) (s : Nat) : (Su75.does a (.look s)).1 = a := by
  simp only [Su75.does]
  repeat' split
  all_goals rfl
/-- the three tables -/
def TB3 (P1 P2 P3 : Addr) (H : Hp) : Prop := TabOk H P1 lMildest.pos qMildest ∧ TabOk H P2 lQuickest.pos qQuickest ∧ TabOk H P3 lColdest.pos qColdest
theorem tab_stab {P : Addr} {pos : Pos} {qual : Str} {H H' : Hp} (t : TabOk H P pos qual) (k : ∀ b o, H b = some o → isT o → H' b = some o) : TabOk H' P pos qual := by
  obtain ⟨ps, e, h1, h2⟩ := t
  refine ⟨ps, k _ _ e True.intro, h1, ?_⟩
  rcases h2 with h2 | ⟨c', h2, h3⟩
  · exact .inl h2
  · exact .inr ⟨c', h2, k _ _ h3 True.intro⟩
theorem stab3 (P1 P2 P3 : Addr) : Stab (TB3 P1 P2 P3) := fun H H' t k => ⟨tab_stab t.1 k, tab_stab t.2.1 k, tab_stab t.2.2 k⟩
section
variable {P : Program} {w : World} {K : PySem.W.Frag} {mg : Str → Option Value} {base : Heap} {CS CR CT CP CD CB CN P1 P2 P3 : Addr} {TB : Hp → Prop}

abbrev sAStop : Stmt := top 50
theorem scAStop : FnScope ["depot", "numbers", "row"] ["depot", "numbers", "row"] (defScope sAStop) := ⟨rfl, rfl, rfl, by decide +kernel, rfl, by decide +kernel, by decide +kernel⟩
theorem ok_AStop {f f1 : Addr} {fd fd1 : FuncData} (F : Fun K "answer_stop" "answer_stop" sAStop f fd) (D : TD K mg CD CB CN) (hTB : Stab TB)
    (m1 : Meth K CD "add_stop" f1) (G1 : FnOk P w K mg base CX0 3 f1 fd1 ["self", "door_minutes", "wanted", "litres"] (spAddStop CS CR CD CB CN)) (b1 : Binds K fd1 ["self", "door_minutes", "wanted", "litres"] []) :
    FnOk P w K mg base CX0 4 f fd ["depot", "numbers", "row"] (spAns CS CR CD CB CN TB 1) := by
  refine F.ok scAStop (fun vs H Q E h => ?_) (fun cdv A outer s H vs Q E hr h => ?_)
  · obtain ⟨dp, ln, lr, F, s, ns, row, rfl, _⟩ := h
    rfl
  · obtain ⟨dp, ln, lr, F, s, ns, row, rfl, hD, hs, hT, hln, hlr, hlen, h10, hdn, k⟩ := h
    obtain ⟨x, y, z, rfl⟩ := len3 hlen
    obtain ⟨a, rfl⟩ := hs (by decide)
    have hD : DepotAt CS CR CD CB CN H dp F true a := hD
    obtain ⟨dx, hdp⟩ := hD.ins
    refine ⟨_, pss_one (ps_ret (pe_meth (pv 0) D.cl m1 G1 hr b1 .nil pass0 (pa_cons (pe_ix ix_list (pv 1) pe_int (fun _ _ => rfl)) (pa_cons (pe_ix ix_list (pv 1) pe_int (fun _ _ => rfl)) (pa_cons (pe_ix ix_list (pv 1) pe_int (fun _ _ => rfl)) pa_nil))))), ?_⟩
    exact ⟨_, rfl, dp, dx, _, rfl, hdp, rfl, _, rfl, ln, _, _, _, rfl, rfl, SqL.of hln, atI_nat (j := 0) (v := vn x) rfl, _, rfl, ln, _, _, _, rfl, rfl, SqL.of hln, atI_nat (j := 1) (v := vn y) rfl, _, rfl, ln, _, _, _, rfl, rfl, SqL.of hln, atI_nat (j := 2) (v := vn z) rfl, dp, F, true, a, x, y, z, rfl, hD, acts_post hTB hT hD k⟩

abbrev sAWay : Stmt := top 51
theorem scAWay : FnScope ["depot", "numbers", "row"] ["depot", "numbers", "row"] (defScope sAWay) := ⟨rfl, rfl, rfl, by decide +kernel, rfl, by decide +kernel, by decide +kernel⟩
theorem ok_AWay {f f1 : Addr} {fd fd1 : FuncData} (F : Fun K "answer_way" "answer_way" sAWay f fd) (D : TD K mg CD CB CN) (hTB : Stab TB)
    (m1 : Meth K CD "change_way" f1) (G1 : FnOk P w K mg base CX0 2 f1 fd1 ["self", "start", "goal", "minutes"] (spChangeWay CS CR CD CB CN)) (b1 : Binds K fd1 ["self", "start", "goal", "minutes"] []) :
    FnOk P w K mg base CX0 3 f fd ["depot", "numbers", "row"] (spAns CS CR CD CB CN TB 2) := by
  refine F.ok scAWay (fun vs H Q E h => ?_) (fun cdv A outer s H vs Q E hr h => ?_)
  · obtain ⟨dp, ln, lr, F, s, ns, row, rfl, _⟩ := h
    rfl
  · obtain ⟨dp, ln, lr, F, s, ns, row, rfl, hD, hs, hT, hln, hlr, hlen, h10, hdn, k⟩ := h
    obtain ⟨x, y, z, rfl⟩ := len3 hlen
    obtain ⟨a, rfl⟩ := hs (by decide)
    have hD : DepotAt CS CR CD CB CN H dp F true a := hD
    obtain ⟨dx, hdp⟩ := hD.ins
    refine ⟨_, pss_one (ps_ret (pe_meth (pv 0) D.cl m1 G1 hr b1 .nil pass0 (pa_cons (pe_ix ix_list (pv 1) pe_int (fun _ _ => rfl)) (pa_cons (pe_ix ix_list (pv 1) pe_int (fun _ _ => rfl)) (pa_cons (pe_ix ix_list (pv 1) pe_int (fun _ _ => rfl)) pa_nil))))), ?_⟩
    exact ⟨_, rfl, dp, dx, _, rfl, hdp, rfl, _, rfl, ln, _, _, _, rfl, rfl, SqL.of hln, atI_nat (j := 0) (v := vn x) rfl, _, rfl, ln, _, _, _, rfl, rfl, SqL.of hln, atI_nat (j := 1) (v := vn y) rfl, _, rfl, ln, _, _, _, rfl, rfl, SqL.of hln, atI_nat (j := 2) (v := vn z) rfl, dp, F, true, a, x, y, z, rfl, hD, acts_post hTB hT hD k⟩

abbrev sALoad : Stmt := top 52
theorem scALoad : FnScope ["depot", "numbers", "row"] ["depot", "numbers", "row"] (defScope sALoad) := ⟨rfl, rfl, rfl, by decide +kernel, rfl, by decide +kernel, by decide +kernel⟩
theorem ok_ALoad {f f1 : Addr} {fd fd1 : FuncData} (F : Fun K "answer_load" "answer_load" sALoad f fd) (D : TD K mg CD CB CN) (hTB : Stab TB)
    (m1 : Meth K CD "load_up" f1) (G1 : FnOk P w K mg base CX0 4 f1 fd1 ["self", "frost", "row"] (spLoadUp CS CR CD CB CN K)) (b1 : Binds K fd1 ["self", "frost", "row"] []) :
    FnOk P w K mg base CX0 5 f fd ["depot", "numbers", "row"] (spAns CS CR CD CB CN TB 3) := by
  refine F.ok scALoad (fun vs H Q E h => ?_) (fun cdv A outer s H vs Q E hr h => ?_)
  · obtain ⟨dp, ln, lr, F, s, ns, row, rfl, _⟩ := h
    rfl
  · obtain ⟨dp, ln, lr, F, s, ns, row, rfl, hD, hs, hT, hln, hlr, hlen, h10, hdn, k⟩ := h
    obtain ⟨x, rfl⟩ := len1 hlen
    obtain ⟨a, rfl⟩ := hs (by decide)
    have hD : DepotAt CS CR CD CB CN H dp F true a := hD
    obtain ⟨dx, hdp⟩ := hD.ins
    refine ⟨_, pss_one (ps_ret (pe_meth (pv 0) D.cl m1 G1 hr b1 .nil pass0 (pa_cons (pe_ix ix_list (pv 1) pe_int (fun _ _ => rfl)) (pa_cons (pv 2) pa_nil)))), ?_⟩
    exact ⟨_, rfl, dp, dx, _, rfl, hdp, rfl, _, rfl, ln, _, _, _, rfl, rfl, SqL.of hln, atI_nat (j := 0) (v := vn x) rfl, _, rfl, dp, lr, F, true, a, x, row, rfl, hD, hlr, h10, acts_post hTB hT hD k⟩

abbrev sADrive : Stmt := top 53
theorem scADrive : FnScope ["depot", "numbers", "row"] ["depot", "numbers", "row"] (defScope sADrive) := ⟨rfl, rfl, rfl, by decide +kernel, rfl, by decide +kernel, by decide +kernel⟩
theorem ok_ADrive {f f1 : Addr} {fd fd1 : FuncData} (F : Fun K "answer_drive" "answer_drive" sADrive f fd) (D : TD K mg CD CB CN) (hTB : Stab TB)
    (m1 : Meth K CD "drive_to" f1) (G1 : FnOk P w K mg base CX0 3 f1 fd1 ["self", "number"] (spDriveTo CS CR CD CB CN)) (b1 : Binds K fd1 ["self", "number"] []) :
    FnOk P w K mg base CX0 4 f fd ["depot", "numbers", "row"] (spAns CS CR CD CB CN TB 4) := by
  refine F.ok scADrive (fun vs H Q E h => ?_) (fun cdv A outer s H vs Q E hr h => ?_)
  · obtain ⟨dp, ln, lr, F, s, ns, row, rfl, _⟩ := h
    rfl
  · obtain ⟨dp, ln, lr, F, s, ns, row, rfl, hD, hs, hT, hln, hlr, hlen, h10, hdn, k⟩ := h
    obtain ⟨x, rfl⟩ := len1 hlen
    obtain ⟨a, rfl⟩ := hs (by decide)
    have hD : DepotAt CS CR CD CB CN H dp F true a := hD
    obtain ⟨dx, hdp⟩ := hD.ins
    refine ⟨_, pss_one (ps_ret (pe_meth (pv 0) D.cl m1 G1 hr b1 .nil pass0 (pa_cons (pe_ix ix_list (pv 1) pe_int (fun _ _ => rfl)) pa_nil))), ?_⟩
    exact ⟨_, rfl, dp, dx, _, rfl, hdp, rfl, _, rfl, ln, _, _, _, rfl, rfl, SqL.of hln, atI_nat (j := 0) (v := vn x) rfl, dp, F, true, a, x, rfl, hD, hdn, acts_post hTB hT hD k⟩

abbrev sABack : Stmt := top 54
theorem scABack : FnScope ["depot", "numbers", "row"] ["depot", "numbers", "row"] (defScope sABack) := ⟨rfl, rfl, rfl, by decide +kernel, rfl, by decide +kernel, by decide +kernel⟩
theorem ok_ABack {f f1 : Addr} {fd fd1 : FuncData} (F : Fun K "answer_back" "answer_back" sABack f fd) (D : TD K mg CD CB CN) (hTB : Stab TB)
    (m1 : Meth K CD "go_back" f1) (G1 : FnOk P w K mg base CX0 3 f1 fd1 ["self"] (spGoBack CS CR CD CB CN)) (b1 : Binds K fd1 ["self"] []) :
    FnOk P w K mg base CX0 4 f fd ["depot", "numbers", "row"] (spAns CS CR CD CB CN TB 5) := by
  refine F.ok scABack (fun vs H Q E h => ?_) (fun cdv A outer s H vs Q E hr h => ?_)
  · obtain ⟨dp, ln, lr, F, s, ns, row, rfl, _⟩ := h
    rfl
  · obtain ⟨dp, ln, lr, F, s, ns, row, rfl, hD, hs, hT, hln, hlr, hlen, h10, hdn, k⟩ := h
    have hns := len0 hlen; subst hns
    obtain ⟨a, rfl⟩ := hs (by decide)
    have hD : DepotAt CS CR CD CB CN H dp F true a := hD
    obtain ⟨dx, hdp⟩ := hD.ins
    refine ⟨_, pss_one (ps_ret (pe_meth0 (pv 0) D.cl m1 G1 hr b1 .nil pass0)), ?_⟩
    exact ⟨_, rfl, dp, dx, _, rfl, hdp, rfl, dp, F, true, a, rfl, hD, acts_post hTB hT hD k⟩

abbrev sAWait : Stmt := top 55
theorem scAWait : FnScope ["depot", "numbers", "row"] ["depot", "numbers", "row"] (defScope sAWait) := ⟨rfl, rfl, rfl, by decide +kernel, rfl, by decide +kernel, by decide +kernel⟩
theorem ok_AWait {f f1 : Addr} {fd fd1 : FuncData} (F : Fun K "answer_wait" "answer_wait" sAWait f fd) (D : TD K mg CD CB CN) (hTB : Stab TB)
    (m1 : Meth K CD "wait_here" f1) (G1 : FnOk P w K mg base CX0 2 f1 fd1 ["self", "minutes"] (spWaitHere CS CR CD CB CN)) (b1 : Binds K fd1 ["self", "minutes"] []) :
    FnOk P w K mg base CX0 3 f fd ["depot", "numbers", "row"] (spAns CS CR CD CB CN TB 6) := by
  refine F.ok scAWait (fun vs H Q E h => ?_) (fun cdv A outer s H vs Q E hr h => ?_)
  · obtain ⟨dp, ln, lr, F, s, ns, row, rfl, _⟩ := h
    rfl
  · obtain ⟨dp, ln, lr, F, s, ns, row, rfl, hD, hs, hT, hln, hlr, hlen, h10, hdn, k⟩ := h
    obtain ⟨x, rfl⟩ := len1 hlen
    obtain ⟨a, rfl⟩ := hs (by decide)
    have hD : DepotAt CS CR CD CB CN H dp F true a := hD
    obtain ⟨dx, hdp⟩ := hD.ins
    refine ⟨_, pss_one (ps_ret (pe_meth (pv 0) D.cl m1 G1 hr b1 .nil pass0 (pa_cons (pe_ix ix_list (pv 1) pe_int (fun _ _ => rfl)) pa_nil))), ?_⟩
    exact ⟨_, rfl, dp, dx, _, rfl, hdp, rfl, _, rfl, ln, _, _, _, rfl, rfl, SqL.of hln, atI_nat (j := 0) (v := vn x) rfl, dp, F, true, a, x, rfl, hD, acts_post hTB hT hD k⟩

abbrev sANeed : Stmt := top 56
theorem scANeed : FnScope ["depot", "numbers", "row"] ["depot", "numbers", "row"] (defScope sANeed) := ⟨rfl, rfl, rfl, by decide +kernel, rfl, by decide +kernel, by decide +kernel⟩
theorem ok_ANeed {f f1 : Addr} {fd fd1 : FuncData} (F : Fun K "answer_need" "answer_need" sANeed f fd) (D : TD K mg CD CB CN) (hTB : Stab TB)
    (m1 : Meth K CD "tell_need" f1) (G1 : FnOk P w K mg base CX0 5 f1 fd1 ["self", "row"] (spTellNeed CS CR CD CB CN K)) (b1 : Binds K fd1 ["self", "row"] []) :
    FnOk P w K mg base CX0 6 f fd ["depot", "numbers", "row"] (spAns CS CR CD CB CN TB 7) := by
  refine F.ok scANeed (fun vs H Q E h => ?_) (fun cdv A outer s H vs Q E hr h => ?_)
  · obtain ⟨dp, ln, lr, F, s, ns, row, rfl, _⟩ := h
    rfl
  · obtain ⟨dp, ln, lr, F, s, ns, row, rfl, hD, hs, hT, hln, hlr, hlen, h10, hdn, k⟩ := h
    have hns := len0 hlen; subst hns
    obtain ⟨a, rfl⟩ := hs (by decide)
    have hD : DepotAt CS CR CD CB CN H dp F true a := hD
    obtain ⟨dx, hdp⟩ := hD.ins
    refine ⟨_, pss_one (ps_ret (pe_meth (pv 0) D.cl m1 G1 hr b1 .nil pass0 (pa_cons (pv 2) pa_nil))), ?_⟩
    exact ⟨_, rfl, dp, dx, _, rfl, hdp, rfl, _, rfl, dp, lr, F, true, a, row, rfl, hD, SqL.of hlr, h10, tellsS_post hTB hT hD (asks_need a row) k⟩

abbrev sAMild : Stmt := top 57
theorem scAMild : FnScope ["depot", "numbers", "row"] ["depot", "numbers", "row"] (defScope sAMild) := ⟨rfl, rfl, rfl, by decide +kernel, rfl, by decide +kernel, by decide +kernel⟩
theorem ok_AMild {f f1 : Addr} {fd fd1 : FuncData} (F : Fun K "answer_mild" "answer_mild" sAMild f fd) (D : TD K mg CD CB CN) (n12 : P1 ≠ P2) (n13 : P1 ≠ P3) (n23 : P2 ≠ P3)
    (m1 : Meth K CD "tell_mild" f1) (G1 : FnOk P w K mg base CX0 6 f1 fd1 ["self", "row"] (spTellMild CS CR CD CB CN P1 K)) (b1 : Binds K fd1 ["self", "row"] []) :
    FnOk P w K mg base CX0 7 f fd ["depot", "numbers", "row"] (spAns CS CR CD CB CN (TB3 P1 P2 P3) 8) := by
  refine F.ok scAMild (fun vs H Q E h => ?_) (fun cdv A outer s H vs Q E hr h => ?_)
  · obtain ⟨dp, ln, lr, F, s, ns, row, rfl, _⟩ := h
    rfl
  · obtain ⟨dp, ln, lr, F, s, ns, row, rfl, hD, hs, hT, hln, hlr, hlen, h10, hdn, k⟩ := h
    have hns := len0 hlen; subst hns
    obtain ⟨a, rfl⟩ := hs (by decide)
    have hD : DepotAt CS CR CD CB CN H dp F true a := hD
    obtain ⟨dx, hdp⟩ := hD.ins
    refine ⟨_, pss_one (ps_ret (pe_meth (pv 0) D.cl m1 G1 hr b1 .nil pass0 (pa_cons (pv 2) pa_nil))), ?_⟩
    exact ⟨_, rfl, dp, dx, _, rfl, hdp, rfl, _, rfl, dp, lr, F, true, a, row, rfl, hD, SqL.of hlr, h10, hT.1, (let ⟨_, eP, _⟩ := hT.1; tells_post eP (fun H1 kb ok => ⟨ok, TabOk.but eP kb n12.symm hT.2.1, TabOk.but eP kb n13.symm hT.2.2⟩) hD (asks_mild a row) k)⟩

abbrev sAQuick : Stmt := top 58
theorem scAQuick : FnScope ["depot", "numbers", "row"] ["depot", "numbers", "row"] (defScope sAQuick) := ⟨rfl, rfl, rfl, by decide +kernel, rfl, by decide +kernel, by decide +kernel⟩
theorem ok_AQuick {f f1 : Addr} {fd fd1 : FuncData} (F : Fun K "answer_quick" "answer_quick" sAQuick f fd) (D : TD K mg CD CB CN) (n12 : P1 ≠ P2) (n13 : P1 ≠ P3) (n23 : P2 ≠ P3)
    (m1 : Meth K CD "tell_quick" f1) (G1 : FnOk P w K mg base CX0 6 f1 fd1 ["self", "frost", "row"] (spTellQuick CS CR CD CB CN P2 K)) (b1 : Binds K fd1 ["self", "frost", "row"] []) :
    FnOk P w K mg base CX0 7 f fd ["depot", "numbers", "row"] (spAns CS CR CD CB CN (TB3 P1 P2 P3) 9) := by
  refine F.ok scAQuick (fun vs H Q E h => ?_) (fun cdv A outer s H vs Q E hr h => ?_)
  · obtain ⟨dp, ln, lr, F, s, ns, row, rfl, _⟩ := h
    rfl
  · obtain ⟨dp, ln, lr, F, s, ns, row, rfl, hD, hs, hT, hln, hlr, hlen, h10, hdn, k⟩ := h
    obtain ⟨x, rfl⟩ := len1 hlen
    obtain ⟨a, rfl⟩ := hs (by decide)
    have hD : DepotAt CS CR CD CB CN H dp F true a := hD
    obtain ⟨dx, hdp⟩ := hD.ins
    refine ⟨_, pss_one (ps_ret (pe_meth (pv 0) D.cl m1 G1 hr b1 .nil pass0 (pa_cons (pe_ix ix_list (pv 1) pe_int (fun _ _ => rfl)) (pa_cons (pv 2) pa_nil)))), ?_⟩
    exact ⟨_, rfl, dp, dx, _, rfl, hdp, rfl, _, rfl, ln, _, _, _, rfl, rfl, SqL.of hln, atI_nat (j := 0) (v := vn x) rfl, _, rfl, dp, lr, F, true, a, x, row, rfl, hD, SqL.of hlr, h10, hT.2.1, (let ⟨_, eP, _⟩ := hT.2.1; tells_post eP (fun H1 kb ok => ⟨TabOk.but eP kb n12 hT.1, ok, TabOk.but eP kb n23.symm hT.2.2⟩) hD (asks_quick a x row) k)⟩

abbrev sAMost : Stmt := top 59
theorem scAMost : FnScope ["depot", "numbers", "row"] ["depot", "numbers", "row"] (defScope sAMost) := ⟨rfl, rfl, rfl, by decide +kernel, rfl, by decide +kernel, by decide +kernel⟩
theorem ok_AMost {f f1 : Addr} {fd fd1 : FuncData} (F : Fun K "answer_most" "answer_most" sAMost f fd) (D : TD K mg CD CB CN) (n12 : P1 ≠ P2) (n13 : P1 ≠ P3) (n23 : P2 ≠ P3)
    (m1 : Meth K CD "tell_most" f1) (G1 : FnOk P w K mg base CX0 6 f1 fd1 ["self", "frost", "row"] (spTellMost CS CR CD CB CN P3 K)) (b1 : Binds K fd1 ["self", "frost", "row"] []) :
    FnOk P w K mg base CX0 7 f fd ["depot", "numbers", "row"] (spAns CS CR CD CB CN (TB3 P1 P2 P3) 10) := by
  refine F.ok scAMost (fun vs H Q E h => ?_) (fun cdv A outer s H vs Q E hr h => ?_)
  · obtain ⟨dp, ln, lr, F, s, ns, row, rfl, _⟩ := h
    rfl
  · obtain ⟨dp, ln, lr, F, s, ns, row, rfl, hD, hs, hT, hln, hlr, hlen, h10, hdn, k⟩ := h
    obtain ⟨x, rfl⟩ := len1 hlen
    obtain ⟨a, rfl⟩ := hs (by decide)
    have hD : DepotAt CS CR CD CB CN H dp F true a := hD
    obtain ⟨dx, hdp⟩ := hD.ins
    refine ⟨_, pss_one (ps_ret (pe_meth (pv 0) D.cl m1 G1 hr b1 .nil pass0 (pa_cons (pe_ix ix_list (pv 1) pe_int (fun _ _ => rfl)) (pa_cons (pv 2) pa_nil)))), ?_⟩
    exact ⟨_, rfl, dp, dx, _, rfl, hdp, rfl, _, rfl, ln, _, _, _, rfl, rfl, SqL.of hln, atI_nat (j := 0) (v := vn x) rfl, _, rfl, dp, lr, F, true, a, x, row, rfl, hD, SqL.of hlr, h10, hT.2.2, (let ⟨_, eP, _⟩ := hT.2.2; tells_post eP (fun H1 kb ok => ⟨TabOk.but eP kb n13 hT.1, TabOk.but eP kb n23 hT.2.1, ok⟩) hD (asks_most a x row) k)⟩

abbrev sADrops : Stmt := top 60
theorem scADrops : FnScope ["depot", "numbers", "row"] ["depot", "numbers", "row"] (defScope sADrops) := ⟨rfl, rfl, rfl, by decide +kernel, rfl, by decide +kernel, by decide +kernel⟩
theorem ok_ADrops {f f1 : Addr} {fd fd1 : FuncData} (F : Fun K "answer_drops" "answer_drops" sADrops f fd) (D : TD K mg CD CB CN) (hTB : Stab TB)
    (m1 : Meth K CD "tell_drops" f1) (G1 : FnOk P w K mg base CX0 5 f1 fd1 ["self", "frost", "row"] (spTellDrops CS CR CD CB CN K)) (b1 : Binds K fd1 ["self", "frost", "row"] []) :
    FnOk P w K mg base CX0 6 f fd ["depot", "numbers", "row"] (spAns CS CR CD CB CN TB 11) := by
  refine F.ok scADrops (fun vs H Q E h => ?_) (fun cdv A outer s H vs Q E hr h => ?_)
  · obtain ⟨dp, ln, lr, F, s, ns, row, rfl, _⟩ := h
    rfl
  · obtain ⟨dp, ln, lr, F, s, ns, row, rfl, hD, hs, hT, hln, hlr, hlen, h10, hdn, k⟩ := h
    obtain ⟨x, rfl⟩ := len1 hlen
    obtain ⟨a, rfl⟩ := hs (by decide)
    have hD : DepotAt CS CR CD CB CN H dp F true a := hD
    obtain ⟨dx, hdp⟩ := hD.ins
    refine ⟨_, pss_one (ps_ret (pe_meth (pv 0) D.cl m1 G1 hr b1 .nil pass0 (pa_cons (pe_ix ix_list (pv 1) pe_int (fun _ _ => rfl)) (pa_cons (pv 2) pa_nil)))), ?_⟩
    exact ⟨_, rfl, dp, dx, _, rfl, hdp, rfl, _, rfl, ln, _, _, _, rfl, rfl, SqL.of hln, atI_nat (j := 0) (v := vn x) rfl, _, rfl, dp, lr, F, true, a, x, row, rfl, hD, SqL.of hlr, h10, tellsS_post hTB hT hD (asks_drops a x row) k⟩

abbrev sANow : Stmt := top 61
theorem scANow : FnScope ["depot", "numbers", "row"] ["depot", "numbers", "row"] (defScope sANow) := ⟨rfl, rfl, rfl, by decide +kernel, rfl, by decide +kernel, by decide +kernel⟩
theorem ok_ANow {f f1 : Addr} {fd fd1 : FuncData} (F : Fun K "answer_now" "answer_now" sANow f fd) (D : TD K mg CD CB CN) (n12 : P1 ≠ P2) (n13 : P1 ≠ P3) (n23 : P2 ≠ P3)
    (m1 : Meth K CD "tell_now" f1) (G1 : FnOk P w K mg base CX0 6 f1 fd1 ["self"] (spTellNow CS CR CD CB CN P2)) (b1 : Binds K fd1 ["self"] []) :
    FnOk P w K mg base CX0 7 f fd ["depot", "numbers", "row"] (spAns CS CR CD CB CN (TB3 P1 P2 P3) 12) := by
  refine F.ok scANow (fun vs H Q E h => ?_) (fun cdv A outer s H vs Q E hr h => ?_)
  · obtain ⟨dp, ln, lr, F, s, ns, row, rfl, _⟩ := h
    rfl
  · obtain ⟨dp, ln, lr, F, s, ns, row, rfl, hD, hs, hT, hln, hlr, hlen, h10, hdn, k⟩ := h
    have hns := len0 hlen; subst hns
    obtain ⟨a, rfl⟩ := hs (by decide)
    have hD : DepotAt CS CR CD CB CN H dp F true a := hD
    obtain ⟨dx, hdp⟩ := hD.ins
    refine ⟨_, pss_one (ps_ret (pe_meth0 (pv 0) D.cl m1 G1 hr b1 .nil pass0)), ?_⟩
    exact ⟨_, rfl, dp, dx, _, rfl, hdp, rfl, dp, F, true, a, rfl, hD, hT.2.1, (let ⟨_, eP, _⟩ := hT.2.1; tells_post eP (fun H1 kb ok => ⟨TabOk.but eP kb n12 hT.1, ok, TabOk.but eP kb n23.symm hT.2.2⟩) hD (asks_now a) k)⟩

abbrev sALeft : Stmt := top 62
theorem scALeft : FnScope ["depot", "numbers", "row"] ["depot", "numbers", "row"] (defScope sALeft) := ⟨rfl, rfl, rfl, by decide +kernel, rfl, by decide +kernel, by decide +kernel⟩
theorem ok_ALeft {f f1 : Addr} {fd fd1 : FuncData} (F : Fun K "answer_left" "answer_left" sALeft f fd) (D : TD K mg CD CB CN) (hTB : Stab TB)
    (m1 : Meth K CD "tell_left" f1) (G1 : FnOk P w K mg base CX0 1 f1 fd1 ["self"] (spTell0 CS CR CD CB CN .left)) (b1 : Binds K fd1 ["self"] []) :
    FnOk P w K mg base CX0 2 f fd ["depot", "numbers", "row"] (spAns CS CR CD CB CN TB 13) := by
  refine F.ok scALeft (fun vs H Q E h => ?_) (fun cdv A outer s H vs Q E hr h => ?_)
  · obtain ⟨dp, ln, lr, F, s, ns, row, rfl, _⟩ := h
    rfl
  · obtain ⟨dp, ln, lr, F, s, ns, row, rfl, hD, hs, hT, hln, hlr, hlen, h10, hdn, k⟩ := h
    have hns := len0 hlen; subst hns
    obtain ⟨a, rfl⟩ := hs (by decide)
    have hD : DepotAt CS CR CD CB CN H dp F true a := hD
    obtain ⟨dx, hdp⟩ := hD.ins
    refine ⟨_, pss_one (ps_ret (pe_meth0 (pv 0) D.cl m1 G1 hr b1 .nil pass0)), ?_⟩
    exact ⟨_, rfl, dp, dx, _, rfl, hdp, rfl, dp, F, true, a, rfl, hD, hdn, tellsS_post hTB hT hD rfl k⟩

abbrev sASlack : Stmt := top 63
theorem scASlack : FnScope ["depot", "numbers", "row"] ["depot", "numbers", "row"] (defScope sASlack) := ⟨rfl, rfl, rfl, by decide +kernel, rfl, by decide +kernel, by decide +kernel⟩
theorem ok_ASlack {f f1 : Addr} {fd fd1 : FuncData} (F : Fun K "answer_slack" "answer_slack" sASlack f fd) (D : TD K mg CD CB CN) (n12 : P1 ≠ P2) (n13 : P1 ≠ P3) (n23 : P2 ≠ P3)
    (m1 : Meth K CD "tell_slack" f1) (G1 : FnOk P w K mg base CX0 6 f1 fd1 ["self"] (spTellSlack CS CR CD CB CN P1)) (b1 : Binds K fd1 ["self"] []) :
    FnOk P w K mg base CX0 7 f fd ["depot", "numbers", "row"] (spAns CS CR CD CB CN (TB3 P1 P2 P3) 14) := by
  refine F.ok scASlack (fun vs H Q E h => ?_) (fun cdv A outer s H vs Q E hr h => ?_)
  · obtain ⟨dp, ln, lr, F, s, ns, row, rfl, _⟩ := h
    rfl
  · obtain ⟨dp, ln, lr, F, s, ns, row, rfl, hD, hs, hT, hln, hlr, hlen, h10, hdn, k⟩ := h
    have hns := len0 hlen; subst hns
    obtain ⟨a, rfl⟩ := hs (by decide)
    have hD : DepotAt CS CR CD CB CN H dp F true a := hD
    obtain ⟨dx, hdp⟩ := hD.ins
    refine ⟨_, pss_one (ps_ret (pe_meth0 (pv 0) D.cl m1 G1 hr b1 .nil pass0)), ?_⟩
    exact ⟨_, rfl, dp, dx, _, rfl, hdp, rfl, dp, F, a, rfl, hD, hT.1, (let ⟨_, eP, _⟩ := hT.1; tells_post eP (fun H1 kb ok => ⟨ok, TabOk.but eP kb n12.symm hT.2.1, TabOk.but eP kb n13.symm hT.2.2⟩) hD (asks_slack a) k)⟩

abbrev sAMins : Stmt := top 64
theorem scAMins : FnScope ["depot", "numbers", "row"] ["depot", "numbers", "row"] (defScope sAMins) := ⟨rfl, rfl, rfl, by decide +kernel, rfl, by decide +kernel, by decide +kernel⟩
theorem ok_AMins {f f1 : Addr} {fd fd1 : FuncData} (F : Fun K "answer_mins" "answer_mins" sAMins f fd) (D : TD K mg CD CB CN) (hTB : Stab TB)
    (m1 : Meth K CD "tell_mins" f1) (G1 : FnOk P w K mg base CX0 2 f1 fd1 ["self", "start", "goal"] (spTellMins CS CR CD CB CN)) (b1 : Binds K fd1 ["self", "start", "goal"] []) :
    FnOk P w K mg base CX0 3 f fd ["depot", "numbers", "row"] (spAns CS CR CD CB CN TB 15) := by
  refine F.ok scAMins (fun vs H Q E h => ?_) (fun cdv A outer s H vs Q E hr h => ?_)
  · obtain ⟨dp, ln, lr, F, s, ns, row, rfl, _⟩ := h
    rfl
  · obtain ⟨dp, ln, lr, F, s, ns, row, rfl, hD, hs, hT, hln, hlr, hlen, h10, hdn, k⟩ := h
    obtain ⟨x, y, rfl⟩ := len2 hlen
    obtain ⟨a, rfl⟩ := hs (by decide)
    have hD : DepotAt CS CR CD CB CN H dp F true a := hD
    obtain ⟨dx, hdp⟩ := hD.ins
    refine ⟨_, pss_one (ps_ret (pe_meth (pv 0) D.cl m1 G1 hr b1 .nil pass0 (pa_cons (pe_ix ix_list (pv 1) pe_int (fun _ _ => rfl)) (pa_cons (pe_ix ix_list (pv 1) pe_int (fun _ _ => rfl)) pa_nil)))), ?_⟩
    exact ⟨_, rfl, dp, dx, _, rfl, hdp, rfl, _, rfl, ln, _, _, _, rfl, rfl, SqL.of hln, atI_nat (j := 0) (v := vn x) rfl, _, rfl, ln, _, _, _, rfl, rfl, SqL.of hln, atI_nat (j := 1) (v := vn y) rfl, dp, F, true, a, x, y, rfl, hD, tellsS_post hTB hT hD (asks_mins a x y) k⟩

abbrev sALook : Stmt := top 65
theorem scALook : FnScope ["depot", "numbers", "row"] ["depot", "numbers", "row"] (defScope sALook) := ⟨rfl, rfl, rfl, by decide +kernel, rfl, by decide +kernel, by decide +kernel⟩
theorem ok_ALook {f f1 : Addr} {fd fd1 : FuncData} (F : Fun K "answer_look" "answer_look" sALook f fd) (D : TD K mg CD CB CN) (hTB : Stab TB)
    (m1 : Meth K CD "look_at" f1) (G1 : FnOk P w K mg base CX0 2 f1 fd1 ["self", "number"] (spLookAt CS CR CD CB CN)) (b1 : Binds K fd1 ["self", "number"] []) :
    FnOk P w K mg base CX0 3 f fd ["depot", "numbers", "row"] (spAns CS CR CD CB CN TB 16) := by
  refine F.ok scALook (fun vs H Q E h => ?_) (fun cdv A outer s H vs Q E hr h => ?_)
  · obtain ⟨dp, ln, lr, F, s, ns, row, rfl, _⟩ := h
    rfl
  · obtain ⟨dp, ln, lr, F, s, ns, row, rfl, hD, hs, hT, hln, hlr, hlen, h10, hdn, k⟩ := h
    obtain ⟨x, rfl⟩ := len1 hlen
    obtain ⟨a, rfl⟩ := hs (by decide)
    have hD : DepotAt CS CR CD CB CN H dp F true a := hD
    obtain ⟨dx, hdp⟩ := hD.ins
    refine ⟨_, pss_one (ps_ret (pe_meth (pv 0) D.cl m1 G1 hr b1 .nil pass0 (pa_cons (pe_ix ix_list (pv 1) pe_int (fun _ _ => rfl)) pa_nil))), ?_⟩
    exact ⟨_, rfl, dp, dx, _, rfl, hdp, rfl, _, rfl, ln, _, _, _, rfl, rfl, SqL.of hln, atI_nat (j := 0) (v := vn x) rfl, dp, F, true, a, x, rfl, hD, tellsS_post hTB hT hD (asks_look a x) k⟩

abbrev sADone : Stmt := top 66
theorem scADone : FnScope ["depot", "numbers", "row"] ["depot", "numbers", "row"] (defScope sADone) := ⟨rfl, rfl, rfl, by decide +kernel, rfl, by decide +kernel, by decide +kernel⟩
theorem ok_ADone {f f1 : Addr} {fd fd1 : FuncData} (F : Fun K "answer_done" "answer_done" sADone f fd) (D : TD K mg CD CB CN) (hTB : Stab TB)
    (m1 : Meth K CD "tell_done" f1) (G1 : FnOk P w K mg base CX0 1 f1 fd1 ["self"] (spTell0 CS CR CD CB CN .done)) (b1 : Binds K fd1 ["self"] []) :
    FnOk P w K mg base CX0 2 f fd ["depot", "numbers", "row"] (spAns CS CR CD CB CN TB 17) := by
  refine F.ok scADone (fun vs H Q E h => ?_) (fun cdv A outer s H vs Q E hr h => ?_)
  · obtain ⟨dp, ln, lr, F, s, ns, row, rfl, _⟩ := h
    rfl
  · obtain ⟨dp, ln, lr, F, s, ns, row, rfl, hD, hs, hT, hln, hlr, hlen, h10, hdn, k⟩ := h
    have hns := len0 hlen; subst hns
    obtain ⟨a, rfl⟩ := hs (by decide)
    have hD : DepotAt CS CR CD CB CN H dp F true a := hD
    obtain ⟨dx, hdp⟩ := hD.ins
    refine ⟨_, pss_one (ps_ret (pe_meth0 (pv 0) D.cl m1 G1 hr b1 .nil pass0)), ?_⟩
    exact ⟨_, rfl, dp, dx, _, rfl, hdp, rfl, dp, F, true, a, rfl, hD, hdn, tellsS_post hTB hT hD rfl k⟩

abbrev sAWarm : Stmt := top 67
theorem scAWarm : FnScope ["depot", "numbers", "row"] ["depot", "numbers", "row"] (defScope sAWarm) := ⟨rfl, rfl, rfl, by decide +kernel, rfl, by decide +kernel, by decide +kernel⟩
theorem ok_AWarm {f f1 : Addr} {fd fd1 : FuncData} (F : Fun K "answer_warm" "answer_warm" sAWarm f fd) (D : TD K mg CD CB CN) (hTB : Stab TB)
    (m1 : Meth K CD "tell_warm" f1) (G1 : FnOk P w K mg base CX0 2 f1 fd1 ["self"] (spTell0 CS CR CD CB CN .warm)) (b1 : Binds K fd1 ["self"] []) :
    FnOk P w K mg base CX0 3 f fd ["depot", "numbers", "row"] (spAns CS CR CD CB CN TB 18) := by
  refine F.ok scAWarm (fun vs H Q E h => ?_) (fun cdv A outer s H vs Q E hr h => ?_)
  · obtain ⟨dp, ln, lr, F, s, ns, row, rfl, _⟩ := h
    rfl
  · obtain ⟨dp, ln, lr, F, s, ns, row, rfl, hD, hs, hT, hln, hlr, hlen, h10, hdn, k⟩ := h
    have hns := len0 hlen; subst hns
    obtain ⟨a, rfl⟩ := hs (by decide)
    have hD : DepotAt CS CR CD CB CN H dp F true a := hD
    obtain ⟨dx, hdp⟩ := hD.ins
    refine ⟨_, pss_one (ps_ret (pe_meth0 (pv 0) D.cl m1 G1 hr b1 .nil pass0)), ?_⟩
    exact ⟨_, rfl, dp, dx, _, rfl, hdp, rfl, dp, F, true, a, rfl, hD, hdn, tellsS_post hTB hT hD rfl k⟩

abbrev sASums : Stmt := top 68
theorem scASums : FnScope ["depot", "numbers", "row"] ["depot", "numbers", "row"] (defScope sASums) := ⟨rfl, rfl, rfl, by decide +kernel, rfl, by decide +kernel, by decide +kernel⟩
theorem ok_ASums {f f1 : Addr} {fd fd1 : FuncData} (F : Fun K "answer_sums" "answer_sums" sASums f fd) (D : TD K mg CD CB CN) (hTB : Stab TB)
    (m1 : Meth K CD "tell_sums" f1) (G1 : FnOk P w K mg base CX0 2 f1 fd1 ["self"] (spTell0 CS CR CD CB CN .sums)) (b1 : Binds K fd1 ["self"] []) :
    FnOk P w K mg base CX0 3 f fd ["depot", "numbers", "row"] (spAns CS CR CD CB CN TB 19) := by
  refine F.ok scASums (fun vs H Q E h => ?_) (fun cdv A outer s H vs Q E hr h => ?_)
  · obtain ⟨dp, ln, lr, F, s, ns, row, rfl, _⟩ := h
    rfl
  · obtain ⟨dp, ln, lr, F, s, ns, row, rfl, hD, hs, hT, hln, hlr, hlen, h10, hdn, k⟩ := h
    have hns := len0 hlen; subst hns
    obtain ⟨a, rfl⟩ := hs (by decide)
    have hD : DepotAt CS CR CD CB CN H dp F true a := hD
    obtain ⟨dx, hdp⟩ := hD.ins
    refine ⟨_, pss_one (ps_ret (pe_meth0 (pv 0) D.cl m1 G1 hr b1 .nil pass0)), ?_⟩
    exact ⟨_, rfl, dp, dx, _, rfl, hdp, rfl, dp, F, true, a, rfl, hD, hdn, tellsS_post hTB hT hD rfl k⟩

abbrev sAState : Stmt := top 69
theorem scAState : FnScope ["depot", "numbers", "row"] ["depot", "numbers", "row"] (defScope sAState) := ⟨rfl, rfl, rfl, by decide +kernel, rfl, by decide +kernel, by decide +kernel⟩
theorem ok_AState {f f1 : Addr} {fd fd1 : FuncData} (F : Fun K "answer_state" "answer_state" sAState f fd) (D : TD K mg CD CB CN) (hTB : Stab TB)
    (m1 : Meth K CD "tell_state" f1) (G1 : FnOk P w K mg base CX0 1 f1 fd1 ["self"] (spTell0 CS CR CD CB CN .state)) (b1 : Binds K fd1 ["self"] []) :
    FnOk P w K mg base CX0 2 f fd ["depot", "numbers", "row"] (spAns CS CR CD CB CN TB 20) := by
  refine F.ok scAState (fun vs H Q E h => ?_) (fun cdv A outer s H vs Q E hr h => ?_)
  · obtain ⟨dp, ln, lr, F, s, ns, row, rfl, _⟩ := h
    rfl
  · obtain ⟨dp, ln, lr, F, s, ns, row, rfl, hD, hs, hT, hln, hlr, hlen, h10, hdn, k⟩ := h
    have hns := len0 hlen; subst hns
    obtain ⟨a, rfl⟩ := hs (by decide)
    have hD : DepotAt CS CR CD CB CN H dp F true a := hD
    obtain ⟨dx, hdp⟩ := hD.ins
    refine ⟨_, pss_one (ps_ret (pe_meth0 (pv 0) D.cl m1 G1 hr b1 .nil pass0)), ?_⟩
    exact ⟨_, rfl, dp, dx, _, rfl, hdp, rfl, dp, F, true, a, rfl, hD, hdn, tellsS_post hTB hT hD rfl k⟩
end
end CD
end

section
set_option Elab.async false
set_option linter.all false
set_option maxRecDepth 100000
set_option maxHeartbeats 4000000
namespace CD
open PySem PySem.Spec PyProof.Rows L2
section
variable {P : Program} {w : World} {K : PySem.W.Frag} {mg : Str → Option Value} {base : Heap} {CS CR CT CP CD CB CN : Addr} {TB : Hp → Prop}
abbrev sABegin : Stmt := top 49
theorem scABegin : FnScope ["depot", "numbers", "row"] ["depot", "numbers", "row"] (defScope sABegin) := ⟨rfl, rfl, rfl, by decide +kernel, rfl, by decide +kernel, by decide +kernel⟩
theorem ok_ABegin {f f1 : Addr} {fd fd1 : FuncData} (F : Fun K "answer_begin" "answer_begin" sABegin f fd) (D : TD K mg CD CB CN) (hTB : Stab TB)
    (m1 : Meth K CD "begin" f1) (G1 : FnOk P w K mg base CX0 4 f1 fd1 ["self", "way_loss", "door_loss", "room"] (spBegin CS CR CD CB CN)) (b1 : Binds K fd1 ["self", "way_loss", "door_loss", "room"] []) :
    FnOk P w K mg base CX0 5 f fd ["depot", "numbers", "row"] (spAns CS CR CD CB CN TB 0) := by
  refine F.ok scABegin (fun vs H Q E h => ?_) (fun cdv A outer s H vs Q E hr h => ?_)
  · obtain ⟨dp, ln, lr, F, s, ns, row, rfl, _⟩ := h
    rfl
  · obtain ⟨dp, ln, lr, F, s, ns, row, rfl, hD, hs, hT, hln, hlr, hlen, h10, hdn, k⟩ := h
    obtain ⟨x, y, z, rfl⟩ := len3 hlen
    obtain ⟨b, a, hDa⟩ := hD.some_at
    obtain ⟨dx, hdp⟩ := hDa.ins
    refine ⟨_, pss_one (ps_ret (pe_meth (pv 0) D.cl m1 G1 hr b1 .nil pass0 (pa_cons (pe_ix ix_list (pv 1) pe_int (fun _ _ => rfl)) (pa_cons (pe_ix ix_list (pv 1) pe_int (fun _ _ => rfl)) (pa_cons (pe_ix ix_list (pv 1) pe_int (fun _ _ => rfl)) pa_nil))))), ?_⟩
    refine ⟨_, rfl, dp, dx, _, rfl, hdp, rfl, _, rfl, ln, _, _, _, rfl, rfl, SqL.of hln, atI_nat (j := 0) (v := vn x) rfl, _, rfl, ln, _, _, _, rfl, rfl, SqL.of hln, atI_nat (j := 1) (v := vn y) rfl, _, rfl, ln, _, _, _, rfl, rfl, SqL.of hln, atI_nat (j := 2) (v := vn z) rfl, dp, F, b, a, x, y, z, rfl, hDa, fun H' l hbad s1 hl hl0 => ?_, fun H' F' l hgood hD' hl hl0 kp hlF => ?_⟩
    · have e : (Su75.step s (cq 0 [x, y, z] row)) = (s, Su75.no (-22)) := by
        cases s with
        | none =>
          have ed : Su75.does (Su75.new 1 1 1) (.begin_ x y z) = (Su75.new 1 1 1, Su75.no (-22)) := if_pos hbad
          show (if (Su75.does (Su75.new 1 1 1) (.begin_ x y z)).2.value < 0 then none else some (Su75.does (Su75.new 1 1 1) (.begin_ x y z)).1, (Su75.does (Su75.new 1 1 1) (.begin_ x y z)).2) = _
          rw [ed]
          rfl
        | some a1 =>
          have ed : Su75.does a1 (.begin_ x y z) = (a1, Su75.no (-22)) := if_pos hbad
          show (some (Su75.does a1 (.begin_ x y z)).1, (Su75.does a1 (.begin_ x y z)).2) = _
          rw [ed]
      refine k H' F l (by rw [e]; exact hD.keep fun b a h => h.same s1) (hTB _ _ hT fun b o h _ => s1 b o h) (by rw [e]; exact hl) (fun b o h _ _ => s1 b o h) (fun b h => .inl h) hl0 (fresh_not hDa hl0)
    · have e : (Su75.step s (cq 0 [x, y, z] row)) = (some (Su75.new x y z), Su75.no 0) := by
        cases s with
        | none =>
          have ed : Su75.does (Su75.new 1 1 1) (.begin_ x y z) = (Su75.new x y z, Su75.no 0) := if_neg hgood
          show (if (Su75.does (Su75.new 1 1 1) (.begin_ x y z)).2.value < 0 then none else some (Su75.does (Su75.new 1 1 1) (.begin_ x y z)).1, (Su75.does (Su75.new 1 1 1) (.begin_ x y z)).2) = _
          rw [ed]
          rfl
        | some a1 =>
          have ed : Su75.does a1 (.begin_ x y z) = (Su75.new x y z, Su75.no 0) := if_neg hgood
          show (some (Su75.does a1 (.begin_ x y z)).1, (Su75.does a1 (.begin_ x y z)).2) = _
          rw [ed]
      refine k H' F' l (by rw [e]; exact hD') (hTB _ _ hT fun b o h ht => kp.1 b o h (own_T hDa h ht)) (by rw [e]; exact hl) (fun b o h hb _ => kp.1 b o h hb) kp.2 hl0 hlF
end
end CD
end

section
set_option Elab.async false
set_option linter.all false
set_option maxRecDepth 100000
set_option maxHeartbeats 4000000
namespace CD
open PySem PySem.Spec PyProof.Rows L2

abbrev sAnswerCall : Stmt := top 71
/-- the answerers by their numbers -/
structure TA (P : Program) (w : World) (K : PySem.W.Frag) (mg : Str → Option Value) (base : Heap) (CS CR CD CB CN AN : Addr) (TB : Hp → Prop) : Prop where
  mgA : mg "ANSWERERS" = some (.ref AN)
  ans : ∃ xs : List V, (∀ H, SqT K H AN xs) ∧ ∀ q, q ≤ 20 → ∃ (f : Addr) (fd : FuncData) (k : Nat), xs[q]? = some (.ref f) ∧ k ≤ 8 ∧ FnOk P w K mg base CX0 k f fd ["depot", "numbers", "row"] (spAns CS CR CD CB CN TB q) ∧ PySem.W.keepIn K (.ref f) = true ∧ Binds K fd ["depot", "numbers", "row"] []
section
variable {P : Program} {w : World} {K : PySem.W.Frag} {mg : Str → Option Value} {base : Heap} {CS CR CT CP CD CB CN CC SH AN : Addr} {TB : Hp → Prop}
theorem scAnswerCall : FnScope ["depot", "call"] ["depot", "call"] (defScope sAnswerCall) := ⟨rfl, rfl, rfl, by decide +kernel, rfl, by decide +kernel, by decide +kernel⟩
theorem ok_answerCall {f : Addr} {fd : FuncData} (F : Fun K "answer_call" "answer_call" sAnswerCall f fd) (D : TD K mg CD CB CN) (C : TC K mg CC SH) (hTB : Stab TB) (AA : TA P w K mg base CS CR CD CB CN AN TB) :
    FnOk P w K mg base CX0 10 f fd ["depot", "call"] (spAnswerCall CS CR CD CB CN CC TB) := by
  obtain ⟨t11, h11⟩ := D.i11
  obtain ⟨tB, hB⟩ := D.cB
  obtain ⟨axs, hAx, hAq⟩ := AA.ans
  refine F.ok scAnswerCall (fun vs H Q E h => ?_) (fun cdv A outer s H vs Q E hr h => ?_)
  · obtain ⟨dp, cp, dx, ln, lr, F, s, q, e, ns, row, rfl, _⟩ := h
    rfl
  · obtain ⟨dp, cp, cdx, ln, lr, F, s, q, e, ns, row, rfl, hD, hT, hcp, hln, hlr, hq, hns, h10, hrow0, hdn, k⟩ := h
    obtain ⟨bb, ab, hDa⟩ := hD.some_at
    obtain ⟨ddx, hdp⟩ := hDa.ins
    obtain ⟨st1, st2⟩ := step_cq s hq hns hrow0
    refine ⟨_, pss_cons (ps_if (PW.pt (pw_and (pt_cmpR op_ne (pe_fld (pv 1) rfl) (pe_glob (v := .int 0) rfl hB ⟨_, rfl⟩) (nomark _)) (pw_and1 (pt_not (pt_val (pe_fld (pv 0) rfl)))))) (pss_one (ps_ret (pe_lst (pa_cons (pe_glob (v := .int (-11)) rfl h11 ⟨_, rfl⟩) pa_nil)))) pss_nil)
      (pss_one (ps_ret (pe_callV (pe_ix ix_tup (pe_glob (v := .ref AN) rfl AA.mgA rfl) (pe_fld (pv 1) rfl) (fun _ _ => rfl)) (pa_cons (pv 0) (pa_cons (pe_fld (pv 1) rfl) (pa_cons (pe_fld (pv 1) rfl) pa_nil)))))), ?_⟩
    -- the answerer is called
    have go : (q ≠ 0 → ∃ a, s = some a) → ∃ (f : Addr) (fd : FuncData) (kk : Nat), axs[q]? = some (.ref f) ∧ kk ≤ 8 ∧ FnOk P w K mg base CX0 kk f fd ["depot", "numbers", "row"] (spAns CS CR CD CB CN TB q) ∧ PySem.W.keepIn K (.ref f) = true ∧ Binds K fd ["depot", "numbers", "row"] [] ∧ spAns CS CR CD CB CN TB q [.ref dp, .ref ln, .ref lr] H Q E0 := fun hs => by
      obtain ⟨f, fd, kk, h1, h2, h3, h4, h5⟩ := hAq q hq
      exact ⟨f, fd, kk, h1, h2, h3, h4, h5, dp, ln, lr, F, s, ns, row, rfl, hD, hs, hT, hln, hlr, hns, h10, hdn, fun H' F' l g1 g2 g3 g4 g5 g6 g7 => k H' F' l (by rw [st1]; exact g1) g2 (by rw [st2]; exact g3) g4 g5 g6 g7⟩
    refine ⟨_, rfl, cp, CC, cdx, _, _, rfl, hcp, C.cl, C.n1, rfl, rfl, _, rfl, ?_⟩
    refine ite2 (fun e1 => ?_) fun e1 => iteF ?_
    · have e1 : q ≠ 0 := fun z => by rw [z] at e1; exact absurd e1 (by decide)
      refine ⟨_, rfl, dp, CD, ddx, _, _, rfl, hdp, D.cl, D.n1, rfl, _, rfl, ?_⟩
      cases s with
      | none =>
        obtain ⟨a0, hD0⟩ := hD
        have ebb : bb = false := by
          obtain ⟨dx0, h0⟩ := hD0.ins
          rw [hdp] at h0
          have h0 := Option.some.inj h0
          injection h0 with _ _ h0
          injection h0 with h0 _
          injection h0 with _ h0
          injection h0
        subst ebb
        refine iteT ?_
        refine ⟨(by show 1 ≤ sizeLine; decide), fun l hl => ?_⟩
        have s1 : Same H (upd H l (.lst [V.int (-11)])) := Same.laid hl
        have en := step_none (row := row) hq hns e1
        refine k _ F l ?_ (hTB _ _ hT fun b o h _ => s1 b o h) ?_ (fun b o h _ _ => s1 b o h) (fun b h => .inl h) hl (fresh_not hDa hl)
        · rw [st1, en]
          exact ⟨a0, hD0.same s1⟩
        · rw [st2, en, upd_same]
          rfl
      | some a =>
        have ebb : bb = true := by
          obtain ⟨dx0, h0⟩ := (show DepotAt CS CR CD CB CN H dp F true a from hD).ins
          rw [hdp] at h0
          have h0 := Option.some.inj h0
          injection h0 with _ _ h0
          injection h0 with h0 _
          injection h0 with _ h0
          injection h0
        subst ebb
        refine iteF ?_
        obtain ⟨f', fd', kk, g1, g2, g3, g4, g5, g6⟩ := go fun _ => ⟨a, rfl⟩
        exact ⟨_, rfl, cp, CC, cdx, _, _, rfl, hcp, C.cl, C.n1, rfl, AN, _, _, _, rfl, rfl, hAx H, atI_nat g1, f', fd', _, _, kk, rfl, g3, hr.mono (by omega), g4, g5, _, rfl, _, rfl, cp, CC, cdx, _, _, rfl, hcp, C.cl, C.n2, rfl, _, rfl, cp, CC, cdx, _, _, rfl, hcp, C.cl, C.n3, rfl, g6⟩
    · have e1 : q = 0 := by
        have := zero_of (z := (q : Int)) e1
        omega
      obtain ⟨f', fd', kk, g1, g2, g3, g4, g5, g6⟩ := go fun z => absurd e1 z
      exact ⟨_, rfl, cp, CC, cdx, _, _, rfl, hcp, C.cl, C.n1, rfl, AN, _, _, _, rfl, rfl, hAx H, atI_nat g1, f', fd', _, _, kk, rfl, g3, hr.mono (by omega), g4, g5, _, rfl, _, rfl, cp, CC, cdx, _, _, rfl, hcp, C.cl, C.n2, rfl, _, rfl, cp, CC, cdx, _, _, rfl, hcp, C.cl, C.n3, rfl, g6⟩
end
end CD
end

section
set_option Elab.async false
set_option linter.all false
set_option maxRecDepth 100000
set_option maxHeartbeats 4000000
namespace CD
open PySem PySem.Spec PyProof.Rows L2
open PySem.W (WData Codec OpenSpec)

/-! ### the tuple of the shapes, as the text has written it -/
def tupOf (K : PySem.W.Frag) (p : Addr) : Option (List Value) := match K.lookup p with
  | some o => (match o.data with
    | .seq its _ => if o.cls = .type "tuple" ∧ its.size ≤ 1000 then some its.toList else none
    | _ => none)
  | none => none
theorem tupOf_ok {K : PySem.W.Frag} {p : Addr} {us : List Value} {xs : List V} (h : tupOf K p = some us) (hv : Vals xs us) (H : Hp) : SqT K H p xs := by
  unfold tupOf at h
  cases hK : K.lookup p with
  | none => rw [hK] at h; cases h
  | some o =>
    rw [hK] at h
    dsimp only at h
    cases hd : o.data with
    | seq its n =>
      rw [hd] at h
      dsimp only at h
      by_cases hc : o.cls = .type "tuple" ∧ its.size ≤ 1000
      · rw [if_pos hc] at h
        cases h
        exact .inr ⟨o, its, n, hK, hc.1, hd, by rw [sizeLine_eq]; omega, hv⟩
      · rw [if_neg hc] at h; cases h
    | _ => rw [hd] at h; cases h
def refOf : Value → Option Addr
  | .ref p => some p
  | _ => none
def allRefs : List Value → Option (List Addr)
  | [] => some []
  | u :: us => match refOf u, allRefs us with
    | some p, some ps => some (p :: ps)
    | _, _ => none
theorem refs_vals : ∀ {us : List Value} {ps : List Addr}, allRefs us = some ps → Vals (ps.map V.ref) us
  | [], ps, h => by
    cases h
    exact .nil
  | u :: us, ps, h => by
    unfold allRefs at h
    cases hu : refOf u with
    | none => rw [hu] at h; cases h
    | some p =>
      cases hr : allRefs us with
      | none => rw [hu, hr] at h; cases h
      | some qs =>
        rw [hu, hr] at h
        cases h
        refine .cons ?_ (refs_vals hr)
        cases u with
        | ref p' => cases hu; rfl
        | _ => cases hu
/-- a name, a number, a truth value -/
def tripleOf : List Value → Option (Str × Int × Bool)
  | [.str x _, .int n _, .bool b] => some (x, n, b)
  | _ => none
theorem triple_vals {us : List Value} {x : Str} {n : Int} {b : Bool} (h : tripleOf us = some (x, n, b)) : Vals [.str x, .int n, .bl b] us := by
  unfold tripleOf at h
  split at h
  · cases h
    exact .cons ⟨_, rfl⟩ (.cons ⟨_, rfl⟩ (.cons rfl .nil))
  · cases h
/-- the q-th of the tuples -/
def shapeIn (K : PySem.W.Frag) (p : Addr) : Option (Int × Bool) := match tupOf K p with
  | some us => (match tripleOf us with
    | some (_, n, b) => some (n, b)
    | none => none)
  | none => none
theorem shapes_ok {K : PySem.W.Frag} {S : Addr} {us : List Value} {ps : List Addr} (h1 : tupOf K S = some us) (h2 : allRefs us = some ps) (h3 : ps.map (shapeIn K) = (List.range 21).map fun q => some ((argN q : Int), rowK q)) :
    ∃ xs : List V, (∀ H, SqT K H S xs) ∧ ∀ q, q ≤ 20 → ∃ (p : Addr) (nm : Str), xs[q]? = some (.ref p) ∧ ∀ H, SqT K H p [.str nm, vn (argN q), .bl (rowK q)] := by
  refine ⟨ps.map V.ref, fun H => tupOf_ok h1 (refs_vals h2) H, fun q hq => ?_⟩
  have h := congrArg (fun l => l[q]?) h3
  rw [List.getElem?_map, List.getElem?_map, List.getElem?_range (by omega)] at h
  cases hp : ps[q]? with
  | none => rw [hp] at h; cases h
  | some p =>
    rw [hp] at h
    have h : shapeIn K p = some ((argN q : Int), rowK q) := Option.some.inj h
    unfold shapeIn at h
    cases ht : tupOf K p with
    | none => rw [ht] at h; cases h
    | some us =>
      rw [ht] at h
      dsimp only at h
      cases hj : tripleOf us with
      | none => rw [hj] at h; cases h
      | some x =>
        obtain ⟨nm, n, b⟩ := x
        rw [hj] at h
        have h := Option.some.inj h
        injection h with ha hb
        subst ha hb
        exact ⟨p, nm, by rw [List.getElem?_map, hp]; rfl, fun H => tupOf_ok ht (triple_vals hj) H⟩
end CD
end

section
set_option Elab.async false
set_option linter.all false
set_option maxRecDepth 100000
set_option maxHeartbeats 4000000
namespace CD
open PySem PySem.Spec PyProof.Rows L2
open PySem.W (WData Codec OpenSpec)

/-- answers' promise, by the three tables -/
def spTop (K : PySem.W.Frag) (tabs : List Addr) : Sp := match tabs with
  | [P1, P2, P3] => spAnswers (TB3 P1 P2 P3) K
  | _ => fun _ _ _ _ => False
theorem tab_new {H : Hp} {P : Addr} {pos : Pos} {qual : Str} (h : H P = some (.tbl #[])) : TabOk H P pos qual := ⟨#[], h, True.intro, .inl rfl⟩
theorem given_of {K : PySem.W.Frag} {H : Hp} {tabs : List Addr} {a : Addr} {xs : List V} (hO : OnlyT H tabs) (h : SqL K H a xs) : Given K H a xs := by
  rcases h with (h | ⟨o, h⟩) | h
  · exfalso
    by_cases hm : a ∈ tabs
    · rw [hO.1 a hm] at h; cases h
    · rcases hO.2 a hm with z | ⟨o, u, z⟩
      · rw [z] at h; cases h
      · rw [z] at h; cases h
  · exact .inl ⟨o, h⟩
  · exact .inr fun H' => .inr h
theorem top_S (P1 P2 P3 : Addr) (K : PySem.W.Frag) (H : Hp) (xs : List V) (a : Codec.denoteAll PySem.Challenge.rw_colddrops_s01_answers.args) (hO : OnlyT H [P1, P2, P3]) (hwi : Codec.withinAll PySem.Challenge.rw_colddrops_s01_answers.args a = true)
    (hask : Codec.app PySem.Challenge.rw_colddrops_s01_answers.args PySem.Challenge.rw_colddrops_s01_answers.asked a = true) (hx : DwAll K H xs (Codec.encAll PySem.Challenge.rw_colddrops_s01_answers.args a)) :
    spTop K [P1, P2, P3] xs H (fun v H' => Dw K H' v (PySem.Challenge.rw_colddrops_s01_answers.ret.enc (Codec.app PySem.Challenge.rw_colddrops_s01_answers.args PySem.Challenge.rw_colddrops_s01_answers.f a))) fun _ _ _ => False := by
  cases hx with
  | cons h1 h2 =>
    cases h2
    cases h1 with
    | lst hs ha =>
      have e := ints_dw a.1 _ ha
      subst e
      have q : ((Codec.inLen 0 5300 a.1 && a.1.all (Codec.inInt 0 4294967295)) && true) = true := hwi
      rw [Bool.and_eq_true, Bool.and_eq_true] at q
      have hpos : ∀ z ∈ a.1, 0 ≤ z := fun z hz => by
        have := List.all_eq_true.mp q.1.2 z hz
        unfold Codec.inInt at this
        rw [Bool.and_eq_true] at this
        exact of_decide_eq_true this.1
      exact ⟨_, a.1, rfl, given_of hO hs, ⟨tab_new (hO.1 _ (by simp)), tab_new (hO.1 _ (by simp)), tab_new (hO.1 _ (by simp))⟩, hask, hpos, (Codec.inNat_iff.mp q.1.1).2, fun H' p hp => .lst (SqL.of hp) (dw_ints _)⟩
end CD
end

section
set_option Elab.async false
set_option linter.all false
set_option maxRecDepth 100000
set_option maxHeartbeats 8000000
namespace CD
open PySem PySem.Spec PyProof.Rows L2
theorem all_mk {P : Program} {w : World} {K : PySem.W.Frag} {h : Heap} {mg : Str → Option Value} {fa0_ CS CR CT CP CD CB CN CC fsi fri fhs fhp fbt fsm fpo fpi fti ftf ftw fta fat ffn fft fmh fcd fmi cmi pmi fct fqu cqu pqu fco cco pco fwi fni fb0 fb1 fb2 fb3 fb4 fd0 fd1 fd2 fd3 fd4 fd5 fd6 fd7 fd8 fd9 fd10 fd11 fd12 fd13 fd14 fd15 fd16 fd17 fd18 fd19 fd20 fd21 fd22 fd23 fd24 fd25 fd26 fd27 fci frc fa0 fa1 fa2 fa3 fa4 fa5 fa6 fa7 fa8 fa9 fa10 fa11 fa12 fa13 fa14 fa15 fa16 fa17 fa18 fa19 fa20 fac fan SH AN : Addr} {ocsi kVsi dcsi pmsi ctsi cdsi : Value} {odsi ansi : Option Addr} {slsi : Array (Option Value)} {ocri kVri dcri pmri ctri cdri : Value} {odri anri : Option Addr} {slri : Array (Option Value)} {ochs kVhs dchs pmhs cths cdhs : Value} {odhs anhs : Option Addr} {slhs : Array (Option Value)} {ochp kVhp dchp pmhp cthp cdhp : Value} {odhp anhp : Option Addr} {slhp : Array (Option Value)} {ocbt kVbt dcbt pmbt ctbt cdbt : Value} {odbt anbt : Option Addr} {slbt : Array (Option Value)} {ocsm kVsm dcsm pmsm ctsm cdsm : Value} {odsm ansm : Option Addr} {slsm : Array (Option Value)} {ocpo kVpo dcpo pmpo ctpo cdpo : Value} {odpo anpo : Option Addr} {slpo : Array (Option Value)} {ocpi kVpi dcpi pmpi ctpi cdpi : Value} {odpi anpi : Option Addr} {slpi : Array (Option Value)} {octi kVti dcti pmti ctti cdti : Value} {odti anti : Option Addr} {slti : Array (Option Value)} {octf kVtf dctf pmtf cttf cdtf : Value} {odtf antf : Option Addr} {sltf : Array (Option Value)} {octw kVtw dctw pmtw cttw cdtw : Value} {odtw antw : Option Addr} {sltw : Array (Option Value)} {octa kVta dcta pmta ctta cdta : Value} {odta anta : Option Addr} {slta : Array (Option Value)} {ocat kVat dcat pmat ctat cdat : Value} {odat anat : Option Addr} {slat : Array (Option Value)} {ocfn kVfn dcfn pmfn ctfn cdfn : Value} {odfn anfn : Option Addr} {slfn : Array (Option Value)} {ocft kVft dcft pmft ctft cdft : Value} {odft anft : Option Addr} {slft : Array (Option Value)} {ocmh kVmh dcmh pmmh ctmh cdmh : Value} {odmh anmh : Option Addr} {slmh : Array (Option Value)} {occd kVcd dccd pmcd ctcd cdcd : Value} {odcd ancd : Option Addr} {slcd : Array (Option Value)} {ocmi kVmi dcmi pmmi ctmi : Value} {odmi anmi : Option Addr} {slmi : Array (Option Value)} {occt kVct dcct pmct ctct cdct : Value} {odct anct : Option Addr} {slct : Array (Option Value)} {ocqu kVqu dcqu pmqu ctqu : Value} {odqu anqu : Option Addr} {slqu : Array (Option Value)} {occo kVco dcco pmco ctco : Value} {odco anco : Option Addr} {slco : Array (Option Value)} {ocwi kVwi dcwi pmwi ctwi cdwi : Value} {odwi anwi : Option Addr} {slwi : Array (Option Value)} {ocni kVni dcni pmni ctni cdni : Value} {odni anni : Option Addr} {slni : Array (Option Value)} {ocb0 kVb0 dcb0 pmb0 ctb0 cdb0 : Value} {odb0 anb0 : Option Addr} {slb0 : Array (Option Value)} {ocb1 kVb1 dcb1 pmb1 ctb1 cdb1 : Value} {odb1 anb1 : Option Addr} {slb1 : Array (Option Value)} {ocb2 kVb2 dcb2 pmb2 ctb2 cdb2 : Value} {odb2 anb2 : Option Addr} {slb2 : Array (Option Value)} {ocb3 kVb3 dcb3 pmb3 ctb3 cdb3 : Value} {odb3 anb3 : Option Addr} {slb3 : Array (Option Value)} {ocb4 kVb4 dcb4 pmb4 ctb4 cdb4 : Value} {odb4 anb4 : Option Addr} {slb4 : Array (Option Value)} {ocd0 kVd0 dcd0 pmd0 ctd0 cdd0 : Value} {odd0 and0 : Option Addr} {sld0 : Array (Option Value)} {ocd1 kVd1 dcd1 pmd1 ctd1 cdd1 : Value} {odd1 and1 : Option Addr} {sld1 : Array (Option Value)} {ocd2 kVd2 dcd2 pmd2 ctd2 cdd2 : Value} {odd2 and2 : Option Addr} {sld2 : Array (Option Value)} {ocd3 kVd3 dcd3 pmd3 ctd3 cdd3 : Value} {odd3 and3 : Option Addr} {sld3 : Array (Option Value)} {ocd4 kVd4 dcd4 pmd4 ctd4 cdd4 : Value} {odd4 and4 : Option Addr} {sld4 : Array (Option Value)} {ocd5 kVd5 dcd5 pmd5 ctd5 cdd5 : Value} {odd5 and5 : Option Addr} {sld5 : Array (Option Value)} {ocd6 kVd6 dcd6 pmd6 ctd6 cdd6 : Value} {odd6 and6 : Option Addr} {sld6 : Array (Option Value)} {ocd7 kVd7 dcd7 pmd7 ctd7 cdd7 : Value} {odd7 and7 : Option Addr} {sld7 : Array (Option Value)} {ocd8 kVd8 dcd8 pmd8 ctd8 cdd8 : Value} {odd8 and8 : Option Addr} {sld8 : Array (Option Value)} {ocd9 kVd9 dcd9 pmd9 ctd9 cdd9 : Value} {odd9 and9 : Option Addr} {sld9 : Array (Option Value)} {ocd10 kVd10 dcd10 pmd10 ctd10 cdd10 : Value} {odd10 and10 : Option Addr} {sld10 : Array (Option Value)} {ocd11 kVd11 dcd11 pmd11 ctd11 cdd11 : Value} {odd11 and11 : Option Addr} {sld11 : Array (Option Value)} {ocd12 kVd12 dcd12 pmd12 ctd12 cdd12 : Value} {odd12 and12 : Option Addr} {sld12 : Array (Option Value)} {ocd13 kVd13 dcd13 pmd13 ctd13 cdd13 : Value} {odd13 and13 : Option Addr} {sld13 : Array (Option Value)} {ocd14 kVd14 dcd14 pmd14 ctd14 cdd14 : Value} {odd14 and14 : Option Addr} {sld14 : Array (Option Value)} {ocd15 kVd15 dcd15 pmd15 ctd15 cdd15 : Value} {odd15 and15 : Option Addr} {sld15 : Array (Option Value)} {ocd16 kVd16 dcd16 pmd16 ctd16 cdd16 : Value} {odd16 and16 : Option Addr} {sld16 : Array (Option Value)} {ocd17 kVd17 dcd17 pmd17 ctd17 cdd17 : Value} {odd17 and17 : Option Addr} {sld17 : Array (Option Value)} {ocd18 kVd18 dcd18 pmd18 ctd18 cdd18 : Value} {odd18 and18 : Option Addr} {sld18 : Array (Option Value)} {ocd19 kVd19 dcd19 pmd19 ctd19 cdd19 : Value} {odd19 and19 : Option Addr} {sld19 : Array (Option Value)} {ocd20 kVd20 dcd20 pmd20 ctd20 cdd20 : Value} {odd20 and20 : Option Addr} {sld20 : Array (Option Value)} {ocd21 kVd21 dcd21 pmd21 ctd21 cdd21 : Value} {odd21 and21 : Option Addr} {sld21 : Array (Option Value)} {ocd22 kVd22 dcd22 pmd22 ctd22 cdd22 : Value} {odd22 and22 : Option Addr} {sld22 : Array (Option Value)} {ocd23 kVd23 dcd23 pmd23 ctd23 cdd23 : Value} {odd23 and23 : Option Addr} {sld23 : Array (Option Value)} {ocd24 kVd24 dcd24 pmd24 ctd24 cdd24 : Value} {odd24 and24 : Option Addr} {sld24 : Array (Option Value)} {ocd25 kVd25 dcd25 pmd25 ctd25 cdd25 : Value} {odd25 and25 : Option Addr} {sld25 : Array (Option Value)} {ocd26 kVd26 dcd26 pmd26 ctd26 cdd26 : Value} {odd26 and26 : Option Addr} {sld26 : Array (Option Value)} {ocd27 kVd27 dcd27 pmd27 ctd27 cdd27 : Value} {odd27 and27 : Option Addr} {sld27 : Array (Option Value)} {occi kVci dcci pmci ctci cdci : Value} {odci anci : Option Addr} {slci : Array (Option Value)} {ocrc kVrc dcrc pmrc ctrc cdrc : Value} {odrc anrc : Option Addr} {slrc : Array (Option Value)} {oca0 kVa0 dca0 pma0 cta0 cda0 : Value} {oda0 ana0 : Option Addr} {sla0 : Array (Option Value)} {oca1 kVa1 dca1 pma1 cta1 cda1 : Value} {oda1 ana1 : Option Addr} {sla1 : Array (Option Value)} {oca2 kVa2 dca2 pma2 cta2 cda2 : Value} {oda2 ana2 : Option Addr} {sla2 : Array (Option Value)} {oca3 kVa3 dca3 pma3 cta3 cda3 : Value} {oda3 ana3 : Option Addr} {sla3 : Array (Option Value)} {oca4 kVa4 dca4 pma4 cta4 cda4 : Value} {oda4 ana4 : Option Addr} {sla4 : Array (Option Value)} {oca5 kVa5 dca5 pma5 cta5 cda5 : Value} {oda5 ana5 : Option Addr} {sla5 : Array (Option Value)} {oca6 kVa6 dca6 pma6 cta6 cda6 : Value} {oda6 ana6 : Option Addr} {sla6 : Array (Option Value)} {oca7 kVa7 dca7 pma7 cta7 cda7 : Value} {oda7 ana7 : Option Addr} {sla7 : Array (Option Value)} {oca8 kVa8 dca8 pma8 cta8 cda8 : Value} {oda8 ana8 : Option Addr} {sla8 : Array (Option Value)} {oca9 kVa9 dca9 pma9 cta9 cda9 : Value} {oda9 ana9 : Option Addr} {sla9 : Array (Option Value)} {oca10 kVa10 dca10 pma10 cta10 cda10 : Value} {oda10 ana10 : Option Addr} {sla10 : Array (Option Value)} {oca11 kVa11 dca11 pma11 cta11 cda11 : Value} {oda11 ana11 : Option Addr} {sla11 : Array (Option Value)} {oca12 kVa12 dca12 pma12 cta12 cda12 : Value} {oda12 ana12 : Option Addr} {sla12 : Array (Option Value)} {oca13 kVa13 dca13 pma13 cta13 cda13 : Value} {oda13 ana13 : Option Addr} {sla13 : Array (Option Value)} {oca14 kVa14 dca14 pma14 cta14 cda14 : Value} {oda14 ana14 : Option Addr} {sla14 : Array (Option Value)} {oca15 kVa15 dca15 pma15 cta15 cda15 : Value} {oda15 ana15 : Option Addr} {sla15 : Array (Option Value)} {oca16 kVa16 dca16 pma16 cta16 cda16 : Value} {oda16 ana16 : Option Addr} {sla16 : Array (Option Value)} {oca17 kVa17 dca17 pma17 cta17 cda17 : Value} {oda17 ana17 : Option Addr} {sla17 : Array (Option Value)} {oca18 kVa18 dca18 pma18 cta18 cda18 : Value} {oda18 ana18 : Option Addr} {sla18 : Array (Option Value)} {oca19 kVa19 dca19 pma19 cta19 cda19 : Value} {oda19 ana19 : Option Addr} {sla19 : Array (Option Value)} {oca20 kVa20 dca20 pma20 cta20 cda20 : Value} {oda20 ana20 : Option Addr} {sla20 : Array (Option Value)} {ocac kVac dcac pmac ctac cdac : Value} {odac anac : Option Addr} {slac : Array (Option Value)} {ocan kVan dcan pman ctan cdan : Value} {odan anan : Option Addr} {slan : Array (Option Value)} {obmi : Obj} {obqu : Obj} {obco : Obj} {tWORKS tFIRST_WAY tNONE_SUCH tNOTHING tNOT_BEGUN tNOT_NOW tSO_ALREADY tOUT_OF_RANGE tTOO_MANY tCANNOT_BE tMOST_WAY_LOSS tMOST_DOOR_LOSS tMOST_ROOM tMOST_DOOR_MINUTES tMOST_FROST tMOST_LITRES tMOST_MINUTES tLONGEST_ROW tMOST_STOPS tBEGIN : Tok} {usA : List Value}
    (X : K.In h) (G : h.Ns mainGlobals mg) (hfa : mg "answers" = some (.ref fa0_))
    (aCS : PySem.W.nsIn K mainGlobals "Stop" = some (some (.ref CS)))
    (pgCS : PySem.W.plainGet K CS Str.empty = true)
    (hdCS : PySem.W.hasDictIn K CS = true)
    (poCS : PySem.W.plainOver K CS = true)
    (saCS : PySem.W.findIn K (.ref CS) "__setattr__" = some (some (.builtin "object.__setattr__")))
    (mkCS : PySem.W.makesIn K CS = true)
    (kcCS : PySem.W.keepIn K (.ref CS) = true)
    (nCS0 : PySem.W.findIn K (.ref CS) "door_minutes" = some none)
    (nCS1 : PySem.W.findIn K (.ref CS) "wanted" = some none)
    (nCS2 : PySem.W.findIn K (.ref CS) "litres" = some none)
    (aCR : PySem.W.nsIn K mainGlobals "Roads" = some (some (.ref CR)))
    (pgCR : PySem.W.plainGet K CR Str.empty = true)
    (hdCR : PySem.W.hasDictIn K CR = true)
    (poCR : PySem.W.plainOver K CR = true)
    (saCR : PySem.W.findIn K (.ref CR) "__setattr__" = some (some (.builtin "object.__setattr__")))
    (mkCR : PySem.W.makesIn K CR = true)
    (kcCR : PySem.W.keepIn K (.ref CR) = true)
    (nCR0 : PySem.W.findIn K (.ref CR) "way_loss" = some none)
    (nCR1 : PySem.W.findIn K (.ref CR) "door_loss" = some none)
    (nCR2 : PySem.W.findIn K (.ref CR) "stops" = some none)
    (nCR3 : PySem.W.findIn K (.ref CR) "ways" = some none)
    (aCT : PySem.W.nsIn K mainGlobals "Trip" = some (some (.ref CT)))
    (pgCT : PySem.W.plainGet K CT Str.empty = true)
    (hdCT : PySem.W.hasDictIn K CT = true)
    (poCT : PySem.W.plainOver K CT = true)
    (saCT : PySem.W.findIn K (.ref CT) "__setattr__" = some (some (.builtin "object.__setattr__")))
    (mkCT : PySem.W.makesIn K CT = true)
    (kcCT : PySem.W.keepIn K (.ref CT) = true)
    (nCT0 : PySem.W.findIn K (.ref CT) "row" = some none)
    (nCT1 : PySem.W.findIn K (.ref CT) "place" = some none)
    (nCT2 : PySem.W.findIn K (.ref CT) "minutes" = some none)
    (nCT3 : PySem.W.findIn K (.ref CT) "lost" = some none)
    (nCT4 : PySem.W.findIn K (.ref CT) "drops" = some none)
    (aCP : PySem.W.nsIn K mainGlobals "Drop" = some (some (.ref CP)))
    (pgCP : PySem.W.plainGet K CP Str.empty = true)
    (hdCP : PySem.W.hasDictIn K CP = true)
    (poCP : PySem.W.plainOver K CP = true)
    (saCP : PySem.W.findIn K (.ref CP) "__setattr__" = some (some (.builtin "object.__setattr__")))
    (mkCP : PySem.W.makesIn K CP = true)
    (kcCP : PySem.W.keepIn K (.ref CP) = true)
    (nCP0 : PySem.W.findIn K (.ref CP) "minutes" = some none)
    (nCP1 : PySem.W.findIn K (.ref CP) "lost" = some none)
    (nCP2 : PySem.W.findIn K (.ref CP) "needed" = some none)
    (aCD : PySem.W.nsIn K mainGlobals "Depot" = some (some (.ref CD)))
    (pgCD : PySem.W.plainGet K CD Str.empty = true)
    (hdCD : PySem.W.hasDictIn K CD = true)
    (poCD : PySem.W.plainOver K CD = true)
    (saCD : PySem.W.findIn K (.ref CD) "__setattr__" = some (some (.builtin "object.__setattr__")))
    (mkCD : PySem.W.makesIn K CD = true)
    (kcCD : PySem.W.keepIn K (.ref CD) = true)
    (nCD0 : PySem.W.findIn K (.ref CD) "begun" = some none)
    (nCD1 : PySem.W.findIn K (.ref CD) "roads" = some none)
    (nCD2 : PySem.W.findIn K (.ref CD) "room" = some none)
    (nCD3 : PySem.W.findIn K (.ref CD) "minute" = some none)
    (nCD4 : PySem.W.findIn K (.ref CD) "place" = some none)
    (nCD5 : PySem.W.findIn K (.ref CD) "frost" = some none)
    (nCD6 : PySem.W.findIn K (.ref CD) "undelivered" = some none)
    (nCD7 : PySem.W.findIn K (.ref CD) "book" = some none)
    (aCB : PySem.W.nsIn K mainGlobals "Book" = some (some (.ref CB)))
    (pgCB : PySem.W.plainGet K CB Str.empty = true)
    (hdCB : PySem.W.hasDictIn K CB = true)
    (poCB : PySem.W.plainOver K CB = true)
    (saCB : PySem.W.findIn K (.ref CB) "__setattr__" = some (some (.builtin "object.__setattr__")))
    (mkCB : PySem.W.makesIn K CB = true)
    (kcCB : PySem.W.keepIn K (.ref CB) = true)
    (nCB0 : PySem.W.findIn K (.ref CB) "loads" = some none)
    (nCB1 : PySem.W.findIn K (.ref CB) "done_drops" = some none)
    (aCN : PySem.W.nsIn K mainGlobals "DoneDrop" = some (some (.ref CN)))
    (pgCN : PySem.W.plainGet K CN Str.empty = true)
    (hdCN : PySem.W.hasDictIn K CN = true)
    (poCN : PySem.W.plainOver K CN = true)
    (saCN : PySem.W.findIn K (.ref CN) "__setattr__" = some (some (.builtin "object.__setattr__")))
    (mkCN : PySem.W.makesIn K CN = true)
    (kcCN : PySem.W.keepIn K (.ref CN) = true)
    (nCN0 : PySem.W.findIn K (.ref CN) "number" = some none)
    (nCN1 : PySem.W.findIn K (.ref CN) "litres" = some none)
    (nCN2 : PySem.W.findIn K (.ref CN) "minute" = some none)
    (nCN3 : PySem.W.findIn K (.ref CN) "frost" = some none)
    (nCN4 : PySem.W.findIn K (.ref CN) "too_warm" = some none)
    (aCC : PySem.W.nsIn K mainGlobals "Call" = some (some (.ref CC)))
    (pgCC : PySem.W.plainGet K CC Str.empty = true)
    (hdCC : PySem.W.hasDictIn K CC = true)
    (poCC : PySem.W.plainOver K CC = true)
    (saCC : PySem.W.findIn K (.ref CC) "__setattr__" = some (some (.builtin "object.__setattr__")))
    (mkCC : PySem.W.makesIn K CC = true)
    (kcCC : PySem.W.keepIn K (.ref CC) = true)
    (nCC0 : PySem.W.findIn K (.ref CC) "number" = some none)
    (nCC1 : PySem.W.findIn K (.ref CC) "numbers" = some none)
    (nCC2 : PySem.W.findIn K (.ref CC) "row" = some none)
    (nCC3 : PySem.W.findIn K (.ref CC) "end" = some none)
    (asi : PySem.W.findIn K (.ref CS) "__init__" = some (some (.ref fsi)))
    (isi : PySem.W.isFn K (.ref fsi) = true)
    (lsi : K.lookup fsi = some ⟨ocsi, odsi, .func (PySem.W.fnOf "__init__" "Stop.__init__" (defArgs sStopInit) (defBody sStopInit) (defScope sStopInit) .none kVsi dcsi pmsi ansi cdsi ctsi), slsi⟩)
    (csid : PySem.W.codeIn K cdsi "Stop.__init__" = true)
    (ksi : PySem.W.keepIn K (.ref fsi) = true)
    (ari : PySem.W.findIn K (.ref CR) "__init__" = some (some (.ref fri)))
    (iri : PySem.W.isFn K (.ref fri) = true)
    (lri : K.lookup fri = some ⟨ocri, odri, .func (PySem.W.fnOf "__init__" "Roads.__init__" (defArgs sRoadsInit) (defBody sRoadsInit) (defScope sRoadsInit) .none kVri dcri pmri anri cdri ctri), slri⟩)
    (crid : PySem.W.codeIn K cdri "Roads.__init__" = true)
    (kri : PySem.W.keepIn K (.ref fri) = true)
    (ahs : PySem.W.findIn K (.ref CR) "has_stop" = some (some (.ref fhs)))
    (ihs : PySem.W.isFn K (.ref fhs) = true)
    (lhs : K.lookup fhs = some ⟨ochs, odhs, .func (PySem.W.fnOf "has_stop" "Roads.has_stop" (defArgs sHasStop) (defBody sHasStop) (defScope sHasStop) .none kVhs dchs pmhs anhs cdhs cths), slhs⟩)
    (chsd : PySem.W.codeIn K cdhs "Roads.has_stop" = true)
    (khs : PySem.W.keepIn K (.ref fhs) = true)
    (ahp : PySem.W.findIn K (.ref CR) "has_place" = some (some (.ref fhp)))
    (ihp : PySem.W.isFn K (.ref fhp) = true)
    (lhp : K.lookup fhp = some ⟨ochp, odhp, .func (PySem.W.fnOf "has_place" "Roads.has_place" (defArgs sHasPlace) (defBody sHasPlace) (defScope sHasPlace) .none kVhp dchp pmhp anhp cdhp cthp), slhp⟩)
    (chpd : PySem.W.codeIn K cdhp "Roads.has_place" = true)
    (khp : PySem.W.keepIn K (.ref fhp) = true)
    (abt : PySem.W.findIn K (.ref CR) "minutes_between" = some (some (.ref fbt)))
    (ibt : PySem.W.isFn K (.ref fbt) = true)
    (lbt : K.lookup fbt = some ⟨ocbt, odbt, .func (PySem.W.fnOf "minutes_between" "Roads.minutes_between" (defArgs sBetween) (defBody sBetween) (defScope sBetween) .none kVbt dcbt pmbt anbt cdbt ctbt), slbt⟩)
    (cbtd : PySem.W.codeIn K cdbt "Roads.minutes_between" = true)
    (kbt : PySem.W.keepIn K (.ref fbt) = true)
    (asm : PySem.W.findIn K (.ref CR) "set_minutes" = some (some (.ref fsm)))
    (ism : PySem.W.isFn K (.ref fsm) = true)
    (lsm : K.lookup fsm = some ⟨ocsm, odsm, .func (PySem.W.fnOf "set_minutes" "Roads.set_minutes" (defArgs sSetMin) (defBody sSetMin) (defScope sSetMin) .none kVsm dcsm pmsm ansm cdsm ctsm), slsm⟩)
    (csmd : PySem.W.codeIn K cdsm "Roads.set_minutes" = true)
    (ksm : PySem.W.keepIn K (.ref fsm) = true)
    (apo : PySem.W.nsIn K mainGlobals "place_of" = some (some (.ref fpo)))
    (lpo : K.lookup fpo = some ⟨ocpo, odpo, .func (PySem.W.fnOf "place_of" "place_of" (defArgs sPlaceOf) (defBody sPlaceOf) (defScope sPlaceOf) .none kVpo dcpo pmpo anpo cdpo ctpo), slpo⟩)
    (cpod : PySem.W.codeIn K cdpo "place_of" = true)
    (kpo : PySem.W.keepIn K (.ref fpo) = true)
    (api : PySem.W.findIn K (.ref CP) "__init__" = some (some (.ref fpi)))
    (ipi : PySem.W.isFn K (.ref fpi) = true)
    (lpi : K.lookup fpi = some ⟨ocpi, odpi, .func (PySem.W.fnOf "__init__" "Drop.__init__" (defArgs sDropInit) (defBody sDropInit) (defScope sDropInit) .none kVpi dcpi pmpi anpi cdpi ctpi), slpi⟩)
    (cpid : PySem.W.codeIn K cdpi "Drop.__init__" = true)
    (kpi : PySem.W.keepIn K (.ref fpi) = true)
    (ati : PySem.W.findIn K (.ref CT) "__init__" = some (some (.ref fti)))
    (iti : PySem.W.isFn K (.ref fti) = true)
    (lti : K.lookup fti = some ⟨octi, odti, .func (PySem.W.fnOf "__init__" "Trip.__init__" (defArgs sTripInit) (defBody sTripInit) (defScope sTripInit) .none kVti dcti pmti anti cdti ctti), slti⟩)
    (ctid : PySem.W.codeIn K cdti "Trip.__init__" = true)
    (kti : PySem.W.keepIn K (.ref fti) = true)
    (atf : PySem.W.nsIn K mainGlobals "trip_from" = some (some (.ref ftf)))
    (ltf : K.lookup ftf = some ⟨octf, odtf, .func (PySem.W.fnOf "trip_from" "trip_from" (defArgs sTripFrom) (defBody sTripFrom) (defScope sTripFrom) .none kVtf dctf pmtf antf cdtf cttf), sltf⟩)
    (ctfd : PySem.W.codeIn K cdtf "trip_from" = true)
    (ktf : PySem.W.keepIn K (.ref ftf) = true)
    (atw : PySem.W.nsIn K mainGlobals "trip_with" = some (some (.ref ftw)))
    (ltw : K.lookup ftw = some ⟨octw, odtw, .func (PySem.W.fnOf "trip_with" "trip_with" (defArgs sTripWith) (defBody sTripWith) (defScope sTripWith) .none kVtw dctw pmtw antw cdtw cttw), sltw⟩)
    (ctwd : PySem.W.codeIn K cdtw "trip_with" = true)
    (ktw : PySem.W.keepIn K (.ref ftw) = true)
    (ata : PySem.W.nsIn K mainGlobals "trip_along" = some (some (.ref fta)))
    (lta : K.lookup fta = some ⟨octa, odta, .func (PySem.W.fnOf "trip_along" "trip_along" (defArgs sTripAlong) (defBody sTripAlong) (defScope sTripAlong) .none kVta dcta pmta anta cdta ctta), slta⟩)
    (ctad : PySem.W.codeIn K cdta "trip_along" = true)
    (kta : PySem.W.keepIn K (.ref fta) = true)
    (aat : PySem.W.nsIn K mainGlobals "all_trips" = some (some (.ref fat)))
    (lat : K.lookup fat = some ⟨ocat, odat, .func (PySem.W.fnOf "all_trips" "all_trips" (defArgs sAllTrips) (defBody sAllTrips) (defScope sAllTrips) .none kVat dcat pmat anat cdat ctat), slat⟩)
    (catd : PySem.W.codeIn K cdat "all_trips" = true)
    (kat : PySem.W.keepIn K (.ref fat) = true)
    (afn : PySem.W.nsIn K mainGlobals "frost_needed" = some (some (.ref ffn)))
    (lfn : K.lookup ffn = some ⟨ocfn, odfn, .func (PySem.W.fnOf "frost_needed" "frost_needed" (defArgs sFrostNeeded) (defBody sFrostNeeded) (defScope sFrostNeeded) .none kVfn dcfn pmfn anfn cdfn ctfn), slfn⟩)
    (cfnd : PySem.W.codeIn K cdfn "frost_needed" = true)
    (kfn : PySem.W.keepIn K (.ref ffn) = true)
    (aft : PySem.W.nsIn K mainGlobals "frost_at_drop" = some (some (.ref fft)))
    (lft : K.lookup fft = some ⟨ocft, odft, .func (PySem.W.fnOf "frost_at_drop" "frost_at_drop" (defArgs sFrostAt) (defBody sFrostAt) (defScope sFrostAt) .none kVft dcft pmft anft cdft ctft), slft⟩)
    (cftd : PySem.W.codeIn K cdft "frost_at_drop" = true)
    (kft : PySem.W.keepIn K (.ref fft) = true)
    (amh : PySem.W.nsIn K mainGlobals "minutes_home" = some (some (.ref fmh)))
    (lmh : K.lookup fmh = some ⟨ocmh, odmh, .func (PySem.W.fnOf "minutes_home" "minutes_home" (defArgs sMinutesHome) (defBody sMinutesHome) (defScope sMinutesHome) .none kVmh dcmh pmmh anmh cdmh ctmh), slmh⟩)
    (cmhd : PySem.W.codeIn K cdmh "minutes_home" = true)
    (kmh : PySem.W.keepIn K (.ref fmh) = true)
    (acd : PySem.W.nsIn K mainGlobals "cold_drops" = some (some (.ref fcd)))
    (lcd : K.lookup fcd = some ⟨occd, odcd, .func (PySem.W.fnOf "cold_drops" "cold_drops" (defArgs sColdDrops) (defBody sColdDrops) (defScope sColdDrops) .none kVcd dccd pmcd ancd cdcd ctcd), slcd⟩)
    (ccdd : PySem.W.codeIn K cdcd "cold_drops" = true)
    (kcd : PySem.W.keepIn K (.ref fcd) = true)
    (ami : PySem.W.nsIn K mainGlobals "mildest" = some (some (.ref fmi)))
    (lmi : K.lookup fmi = some ⟨ocmi, odmi, .func (PySem.W.fnOf "mildest" "mildest" (defArgs sMildest) (defBody sMildest) (defScope sMildest) .none kVmi dcmi pmmi anmi (.ref cmi) ctmi), slmi⟩)
    (cmid : PySem.W.codeIn K (.ref cmi) "mildest" = true)
    (kmi : PySem.W.keepIn K (.ref fmi) = true)
    (lcmi : K.lookup cmi = some obmi)
    (hcmi : hdOf cmi obmi = some pmi)
    (act : PySem.W.nsIn K mainGlobals "cold_trips" = some (some (.ref fct)))
    (lct : K.lookup fct = some ⟨occt, odct, .func (PySem.W.fnOf "cold_trips" "cold_trips" (defArgs sColdTrips) (defBody sColdTrips) (defScope sColdTrips) .none kVct dcct pmct anct cdct ctct), slct⟩)
    (cctd : PySem.W.codeIn K cdct "cold_trips" = true)
    (kct : PySem.W.keepIn K (.ref fct) = true)
    (aqu : PySem.W.nsIn K mainGlobals "quickest" = some (some (.ref fqu)))
    (lqu : K.lookup fqu = some ⟨ocqu, odqu, .func (PySem.W.fnOf "quickest" "quickest" (defArgs sQuickest) (defBody sQuickest) (defScope sQuickest) .none kVqu dcqu pmqu anqu (.ref cqu) ctqu), slqu⟩)
    (cqud : PySem.W.codeIn K (.ref cqu) "quickest" = true)
    (kqu : PySem.W.keepIn K (.ref fqu) = true)
    (lcqu : K.lookup cqu = some obqu)
    (hcqu : hdOf cqu obqu = some pqu)
    (aco : PySem.W.nsIn K mainGlobals "coldest" = some (some (.ref fco)))
    (lco : K.lookup fco = some ⟨occo, odco, .func (PySem.W.fnOf "coldest" "coldest" (defArgs sColdest) (defBody sColdest) (defScope sColdest) .none kVco dcco pmco anco (.ref cco) ctco), slco⟩)
    (ccod : PySem.W.codeIn K (.ref cco) "coldest" = true)
    (kco : PySem.W.keepIn K (.ref fco) = true)
    (lcco : K.lookup cco = some obco)
    (hcco : hdOf cco obco = some pco)
    (awi : PySem.W.nsIn K mainGlobals "within" = some (some (.ref fwi)))
    (lwi : K.lookup fwi = some ⟨ocwi, odwi, .func (PySem.W.fnOf "within" "within" (defArgs sWithin) (defBody sWithin) (defScope sWithin) .none kVwi dcwi pmwi anwi cdwi ctwi), slwi⟩)
    (cwid : PySem.W.codeIn K cdwi "within" = true)
    (kwi : PySem.W.keepIn K (.ref fwi) = true)
    (ani : PySem.W.findIn K (.ref CN) "__init__" = some (some (.ref fni)))
    (ini : PySem.W.isFn K (.ref fni) = true)
    (lni : K.lookup fni = some ⟨ocni, odni, .func (PySem.W.fnOf "__init__" "DoneDrop.__init__" (defArgs sDoneInit) (defBody sDoneInit) (defScope sDoneInit) .none kVni dcni pmni anni cdni ctni), slni⟩)
    (cnid : PySem.W.codeIn K cdni "DoneDrop.__init__" = true)
    (kni : PySem.W.keepIn K (.ref fni) = true)
    (ab0 : PySem.W.findIn K (.ref CB) "__init__" = some (some (.ref fb0)))
    (ib0 : PySem.W.isFn K (.ref fb0) = true)
    (lb0 : K.lookup fb0 = some ⟨ocb0, odb0, .func (PySem.W.fnOf "__init__" "Book.__init__" (defArgs (sB 0)) (defBody (sB 0)) (defScope (sB 0)) .none kVb0 dcb0 pmb0 anb0 cdb0 ctb0), slb0⟩)
    (cb0d : PySem.W.codeIn K cdb0 "Book.__init__" = true)
    (kb0 : PySem.W.keepIn K (.ref fb0) = true)
    (ab1 : PySem.W.findIn K (.ref CB) "add_load" = some (some (.ref fb1)))
    (ib1 : PySem.W.isFn K (.ref fb1) = true)
    (lb1 : K.lookup fb1 = some ⟨ocb1, odb1, .func (PySem.W.fnOf "add_load" "Book.add_load" (defArgs (sB 1)) (defBody (sB 1)) (defScope (sB 1)) .none kVb1 dcb1 pmb1 anb1 cdb1 ctb1), slb1⟩)
    (cb1d : PySem.W.codeIn K cdb1 "Book.add_load" = true)
    (kb1 : PySem.W.keepIn K (.ref fb1) = true)
    (ab2 : PySem.W.findIn K (.ref CB) "add_drop" = some (some (.ref fb2)))
    (ib2 : PySem.W.isFn K (.ref fb2) = true)
    (lb2 : K.lookup fb2 = some ⟨ocb2, odb2, .func (PySem.W.fnOf "add_drop" "Book.add_drop" (defArgs (sB 2)) (defBody (sB 2)) (defScope (sB 2)) .none kVb2 dcb2 pmb2 anb2 cdb2 ctb2), slb2⟩)
    (cb2d : PySem.W.codeIn K cdb2 "Book.add_drop" = true)
    (kb2 : PySem.W.keepIn K (.ref fb2) = true)
    (ab3 : PySem.W.findIn K (.ref CB) "litres_dropped" = some (some (.ref fb3)))
    (ib3 : PySem.W.isFn K (.ref fb3) = true)
    (lb3 : K.lookup fb3 = some ⟨ocb3, odb3, .func (PySem.W.fnOf "litres_dropped" "Book.litres_dropped" (defArgs (sB 3)) (defBody (sB 3)) (defScope (sB 3)) .none kVb3 dcb3 pmb3 anb3 cdb3 ctb3), slb3⟩)
    (cb3d : PySem.W.codeIn K cdb3 "Book.litres_dropped" = true)
    (kb3 : PySem.W.keepIn K (.ref fb3) = true)
    (ab4 : PySem.W.findIn K (.ref CB) "tenths_too_warm" = some (some (.ref fb4)))
    (ib4 : PySem.W.isFn K (.ref fb4) = true)
    (lb4 : K.lookup fb4 = some ⟨ocb4, odb4, .func (PySem.W.fnOf "tenths_too_warm" "Book.tenths_too_warm" (defArgs (sB 4)) (defBody (sB 4)) (defScope (sB 4)) .none kVb4 dcb4 pmb4 anb4 cdb4 ctb4), slb4⟩)
    (cb4d : PySem.W.codeIn K cdb4 "Book.tenths_too_warm" = true)
    (kb4 : PySem.W.keepIn K (.ref fb4) = true)
    (ad0 : PySem.W.findIn K (.ref CD) "__init__" = some (some (.ref fd0)))
    (id0 : PySem.W.isFn K (.ref fd0) = true)
    (ld0 : K.lookup fd0 = some ⟨ocd0, odd0, .func (PySem.W.fnOf "__init__" "Depot.__init__" (defArgs (sD 0)) (defBody (sD 0)) (defScope (sD 0)) .none kVd0 dcd0 pmd0 and0 cdd0 ctd0), sld0⟩)
    (cd0d : PySem.W.codeIn K cdd0 "Depot.__init__" = true)
    (kd0 : PySem.W.keepIn K (.ref fd0) = true)
    (ad1 : PySem.W.findIn K (.ref CD) "clear_all" = some (some (.ref fd1)))
    (id1 : PySem.W.isFn K (.ref fd1) = true)
    (ld1 : K.lookup fd1 = some ⟨ocd1, odd1, .func (PySem.W.fnOf "clear_all" "Depot.clear_all" (defArgs (sD 1)) (defBody (sD 1)) (defScope (sD 1)) .none kVd1 dcd1 pmd1 and1 cdd1 ctd1), sld1⟩)
    (cd1d : PySem.W.codeIn K cdd1 "Depot.clear_all" = true)
    (kd1 : PySem.W.keepIn K (.ref fd1) = true)
    (ad2 : PySem.W.findIn K (.ref CD) "begin" = some (some (.ref fd2)))
    (id2 : PySem.W.isFn K (.ref fd2) = true)
    (ld2 : K.lookup fd2 = some ⟨ocd2, odd2, .func (PySem.W.fnOf "begin" "Depot.begin" (defArgs (sD 2)) (defBody (sD 2)) (defScope (sD 2)) .none kVd2 dcd2 pmd2 and2 cdd2 ctd2), sld2⟩)
    (cd2d : PySem.W.codeIn K cdd2 "Depot.begin" = true)
    (kd2 : PySem.W.keepIn K (.ref fd2) = true)
    (ad3 : PySem.W.findIn K (.ref CD) "add_stop" = some (some (.ref fd3)))
    (id3 : PySem.W.isFn K (.ref fd3) = true)
    (ld3 : K.lookup fd3 = some ⟨ocd3, odd3, .func (PySem.W.fnOf "add_stop" "Depot.add_stop" (defArgs (sD 3)) (defBody (sD 3)) (defScope (sD 3)) .none kVd3 dcd3 pmd3 and3 cdd3 ctd3), sld3⟩)
    (cd3d : PySem.W.codeIn K cdd3 "Depot.add_stop" = true)
    (kd3 : PySem.W.keepIn K (.ref fd3) = true)
    (ad4 : PySem.W.findIn K (.ref CD) "change_way" = some (some (.ref fd4)))
    (id4 : PySem.W.isFn K (.ref fd4) = true)
    (ld4 : K.lookup fd4 = some ⟨ocd4, odd4, .func (PySem.W.fnOf "change_way" "Depot.change_way" (defArgs (sD 4)) (defBody (sD 4)) (defScope (sD 4)) .none kVd4 dcd4 pmd4 and4 cdd4 ctd4), sld4⟩)
    (cd4d : PySem.W.codeIn K cdd4 "Depot.change_way" = true)
    (kd4 : PySem.W.keepIn K (.ref fd4) = true)
    (ad5 : PySem.W.findIn K (.ref CD) "row_refusal" = some (some (.ref fd5)))
    (id5 : PySem.W.isFn K (.ref fd5) = true)
    (ld5 : K.lookup fd5 = some ⟨ocd5, odd5, .func (PySem.W.fnOf "row_refusal" "Depot.row_refusal" (defArgs (sD 5)) (defBody (sD 5)) (defScope (sD 5)) .none kVd5 dcd5 pmd5 and5 cdd5 ctd5), sld5⟩)
    (cd5d : PySem.W.codeIn K cdd5 "Depot.row_refusal" = true)
    (kd5 : PySem.W.keepIn K (.ref fd5) = true)
    (ad6 : PySem.W.findIn K (.ref CD) "frost_and_row_refusal" = some (some (.ref fd6)))
    (id6 : PySem.W.isFn K (.ref fd6) = true)
    (ld6 : K.lookup fd6 = some ⟨ocd6, odd6, .func (PySem.W.fnOf "frost_and_row_refusal" "Depot.frost_and_row_refusal" (defArgs (sD 6)) (defBody (sD 6)) (defScope (sD 6)) .none kVd6 dcd6 pmd6 and6 cdd6 ctd6), sld6⟩)
    (cd6d : PySem.W.codeIn K cdd6 "Depot.frost_and_row_refusal" = true)
    (kd6 : PySem.W.keepIn K (.ref fd6) = true)
    (ad7 : PySem.W.findIn K (.ref CD) "load_up" = some (some (.ref fd7)))
    (id7 : PySem.W.isFn K (.ref fd7) = true)
    (ld7 : K.lookup fd7 = some ⟨ocd7, odd7, .func (PySem.W.fnOf "load_up" "Depot.load_up" (defArgs (sD 7)) (defBody (sD 7)) (defScope (sD 7)) .none kVd7 dcd7 pmd7 and7 cdd7 ctd7), sld7⟩)
    (cd7d : PySem.W.codeIn K cdd7 "Depot.load_up" = true)
    (kd7 : PySem.W.keepIn K (.ref fd7) = true)
    (ad8 : PySem.W.findIn K (.ref CD) "pass_minutes" = some (some (.ref fd8)))
    (id8 : PySem.W.isFn K (.ref fd8) = true)
    (ld8 : K.lookup fd8 = some ⟨ocd8, odd8, .func (PySem.W.fnOf "pass_minutes" "Depot.pass_minutes" (defArgs (sD 8)) (defBody (sD 8)) (defScope (sD 8)) .none kVd8 dcd8 pmd8 and8 cdd8 ctd8), sld8⟩)
    (cd8d : PySem.W.codeIn K cdd8 "Depot.pass_minutes" = true)
    (kd8 : PySem.W.keepIn K (.ref fd8) = true)
    (ad9 : PySem.W.findIn K (.ref CD) "go_to" = some (some (.ref fd9)))
    (id9 : PySem.W.isFn K (.ref fd9) = true)
    (ld9 : K.lookup fd9 = some ⟨ocd9, odd9, .func (PySem.W.fnOf "go_to" "Depot.go_to" (defArgs (sD 9)) (defBody (sD 9)) (defScope (sD 9)) .none kVd9 dcd9 pmd9 and9 cdd9 ctd9), sld9⟩)
    (cd9d : PySem.W.codeIn K cdd9 "Depot.go_to" = true)
    (kd9 : PySem.W.keepIn K (.ref fd9) = true)
    (ad10 : PySem.W.findIn K (.ref CD) "drive_to" = some (some (.ref fd10)))
    (id10 : PySem.W.isFn K (.ref fd10) = true)
    (ld10 : K.lookup fd10 = some ⟨ocd10, odd10, .func (PySem.W.fnOf "drive_to" "Depot.drive_to" (defArgs (sD 10)) (defBody (sD 10)) (defScope (sD 10)) .none kVd10 dcd10 pmd10 and10 cdd10 ctd10), sld10⟩)
    (cd10d : PySem.W.codeIn K cdd10 "Depot.drive_to" = true)
    (kd10 : PySem.W.keepIn K (.ref fd10) = true)
    (ad11 : PySem.W.findIn K (.ref CD) "go_back" = some (some (.ref fd11)))
    (id11 : PySem.W.isFn K (.ref fd11) = true)
    (ld11 : K.lookup fd11 = some ⟨ocd11, odd11, .func (PySem.W.fnOf "go_back" "Depot.go_back" (defArgs (sD 11)) (defBody (sD 11)) (defScope (sD 11)) .none kVd11 dcd11 pmd11 and11 cdd11 ctd11), sld11⟩)
    (cd11d : PySem.W.codeIn K cdd11 "Depot.go_back" = true)
    (kd11 : PySem.W.keepIn K (.ref fd11) = true)
    (ad12 : PySem.W.findIn K (.ref CD) "wait_here" = some (some (.ref fd12)))
    (id12 : PySem.W.isFn K (.ref fd12) = true)
    (ld12 : K.lookup fd12 = some ⟨ocd12, odd12, .func (PySem.W.fnOf "wait_here" "Depot.wait_here" (defArgs (sD 12)) (defBody (sD 12)) (defScope (sD 12)) .none kVd12 dcd12 pmd12 and12 cdd12 ctd12), sld12⟩)
    (cd12d : PySem.W.codeIn K cdd12 "Depot.wait_here" = true)
    (kd12 : PySem.W.keepIn K (.ref fd12) = true)
    (ad13 : PySem.W.findIn K (.ref CD) "tell_need" = some (some (.ref fd13)))
    (id13 : PySem.W.isFn K (.ref fd13) = true)
    (ld13 : K.lookup fd13 = some ⟨ocd13, odd13, .func (PySem.W.fnOf "tell_need" "Depot.tell_need" (defArgs (sD 13)) (defBody (sD 13)) (defScope (sD 13)) .none kVd13 dcd13 pmd13 and13 cdd13 ctd13), sld13⟩)
    (cd13d : PySem.W.codeIn K cdd13 "Depot.tell_need" = true)
    (kd13 : PySem.W.keepIn K (.ref fd13) = true)
    (ad14 : PySem.W.findIn K (.ref CD) "tell_mild" = some (some (.ref fd14)))
    (id14 : PySem.W.isFn K (.ref fd14) = true)
    (ld14 : K.lookup fd14 = some ⟨ocd14, odd14, .func (PySem.W.fnOf "tell_mild" "Depot.tell_mild" (defArgs (sD 14)) (defBody (sD 14)) (defScope (sD 14)) .none kVd14 dcd14 pmd14 and14 cdd14 ctd14), sld14⟩)
    (cd14d : PySem.W.codeIn K cdd14 "Depot.tell_mild" = true)
    (kd14 : PySem.W.keepIn K (.ref fd14) = true)
    (ad15 : PySem.W.findIn K (.ref CD) "tell_quick" = some (some (.ref fd15)))
    (id15 : PySem.W.isFn K (.ref fd15) = true)
    (ld15 : K.lookup fd15 = some ⟨ocd15, odd15, .func (PySem.W.fnOf "tell_quick" "Depot.tell_quick" (defArgs (sD 15)) (defBody (sD 15)) (defScope (sD 15)) .none kVd15 dcd15 pmd15 and15 cdd15 ctd15), sld15⟩)
    (cd15d : PySem.W.codeIn K cdd15 "Depot.tell_quick" = true)
    (kd15 : PySem.W.keepIn K (.ref fd15) = true)
    (ad16 : PySem.W.findIn K (.ref CD) "tell_most" = some (some (.ref fd16)))
    (id16 : PySem.W.isFn K (.ref fd16) = true)
    (ld16 : K.lookup fd16 = some ⟨ocd16, odd16, .func (PySem.W.fnOf "tell_most" "Depot.tell_most" (defArgs (sD 16)) (defBody (sD 16)) (defScope (sD 16)) .none kVd16 dcd16 pmd16 and16 cdd16 ctd16), sld16⟩)
    (cd16d : PySem.W.codeIn K cdd16 "Depot.tell_most" = true)
    (kd16 : PySem.W.keepIn K (.ref fd16) = true)
    (ad17 : PySem.W.findIn K (.ref CD) "tell_drops" = some (some (.ref fd17)))
    (id17 : PySem.W.isFn K (.ref fd17) = true)
    (ld17 : K.lookup fd17 = some ⟨ocd17, odd17, .func (PySem.W.fnOf "tell_drops" "Depot.tell_drops" (defArgs (sD 17)) (defBody (sD 17)) (defScope (sD 17)) .none kVd17 dcd17 pmd17 and17 cdd17 ctd17), sld17⟩)
    (cd17d : PySem.W.codeIn K cdd17 "Depot.tell_drops" = true)
    (kd17 : PySem.W.keepIn K (.ref fd17) = true)
    (ad18 : PySem.W.findIn K (.ref CD) "trips_left" = some (some (.ref fd18)))
    (id18 : PySem.W.isFn K (.ref fd18) = true)
    (ld18 : K.lookup fd18 = some ⟨ocd18, odd18, .func (PySem.W.fnOf "trips_left" "Depot.trips_left" (defArgs (sD 18)) (defBody (sD 18)) (defScope (sD 18)) .none kVd18 dcd18 pmd18 and18 cdd18 ctd18), sld18⟩)
    (cd18d : PySem.W.codeIn K cdd18 "Depot.trips_left" = true)
    (kd18 : PySem.W.keepIn K (.ref fd18) = true)
    (ad19 : PySem.W.findIn K (.ref CD) "tell_now" = some (some (.ref fd19)))
    (id19 : PySem.W.isFn K (.ref fd19) = true)
    (ld19 : K.lookup fd19 = some ⟨ocd19, odd19, .func (PySem.W.fnOf "tell_now" "Depot.tell_now" (defArgs (sD 19)) (defBody (sD 19)) (defScope (sD 19)) .none kVd19 dcd19 pmd19 and19 cdd19 ctd19), sld19⟩)
    (cd19d : PySem.W.codeIn K cdd19 "Depot.tell_now" = true)
    (kd19 : PySem.W.keepIn K (.ref fd19) = true)
    (ad20 : PySem.W.findIn K (.ref CD) "tell_left" = some (some (.ref fd20)))
    (id20 : PySem.W.isFn K (.ref fd20) = true)
    (ld20 : K.lookup fd20 = some ⟨ocd20, odd20, .func (PySem.W.fnOf "tell_left" "Depot.tell_left" (defArgs (sD 20)) (defBody (sD 20)) (defScope (sD 20)) .none kVd20 dcd20 pmd20 and20 cdd20 ctd20), sld20⟩)
    (cd20d : PySem.W.codeIn K cdd20 "Depot.tell_left" = true)
    (kd20 : PySem.W.keepIn K (.ref fd20) = true)
    (ad21 : PySem.W.findIn K (.ref CD) "tell_slack" = some (some (.ref fd21)))
    (id21 : PySem.W.isFn K (.ref fd21) = true)
    (ld21 : K.lookup fd21 = some ⟨ocd21, odd21, .func (PySem.W.fnOf "tell_slack" "Depot.tell_slack" (defArgs (sD 21)) (defBody (sD 21)) (defScope (sD 21)) .none kVd21 dcd21 pmd21 and21 cdd21 ctd21), sld21⟩)
    (cd21d : PySem.W.codeIn K cdd21 "Depot.tell_slack" = true)
    (kd21 : PySem.W.keepIn K (.ref fd21) = true)
    (ad22 : PySem.W.findIn K (.ref CD) "tell_mins" = some (some (.ref fd22)))
    (id22 : PySem.W.isFn K (.ref fd22) = true)
    (ld22 : K.lookup fd22 = some ⟨ocd22, odd22, .func (PySem.W.fnOf "tell_mins" "Depot.tell_mins" (defArgs (sD 22)) (defBody (sD 22)) (defScope (sD 22)) .none kVd22 dcd22 pmd22 and22 cdd22 ctd22), sld22⟩)
    (cd22d : PySem.W.codeIn K cdd22 "Depot.tell_mins" = true)
    (kd22 : PySem.W.keepIn K (.ref fd22) = true)
    (ad23 : PySem.W.findIn K (.ref CD) "look_at" = some (some (.ref fd23)))
    (id23 : PySem.W.isFn K (.ref fd23) = true)
    (ld23 : K.lookup fd23 = some ⟨ocd23, odd23, .func (PySem.W.fnOf "look_at" "Depot.look_at" (defArgs (sD 23)) (defBody (sD 23)) (defScope (sD 23)) .none kVd23 dcd23 pmd23 and23 cdd23 ctd23), sld23⟩)
    (cd23d : PySem.W.codeIn K cdd23 "Depot.look_at" = true)
    (kd23 : PySem.W.keepIn K (.ref fd23) = true)
    (ad24 : PySem.W.findIn K (.ref CD) "tell_done" = some (some (.ref fd24)))
    (id24 : PySem.W.isFn K (.ref fd24) = true)
    (ld24 : K.lookup fd24 = some ⟨ocd24, odd24, .func (PySem.W.fnOf "tell_done" "Depot.tell_done" (defArgs (sD 24)) (defBody (sD 24)) (defScope (sD 24)) .none kVd24 dcd24 pmd24 and24 cdd24 ctd24), sld24⟩)
    (cd24d : PySem.W.codeIn K cdd24 "Depot.tell_done" = true)
    (kd24 : PySem.W.keepIn K (.ref fd24) = true)
    (ad25 : PySem.W.findIn K (.ref CD) "tell_warm" = some (some (.ref fd25)))
    (id25 : PySem.W.isFn K (.ref fd25) = true)
    (ld25 : K.lookup fd25 = some ⟨ocd25, odd25, .func (PySem.W.fnOf "tell_warm" "Depot.tell_warm" (defArgs (sD 25)) (defBody (sD 25)) (defScope (sD 25)) .none kVd25 dcd25 pmd25 and25 cdd25 ctd25), sld25⟩)
    (cd25d : PySem.W.codeIn K cdd25 "Depot.tell_warm" = true)
    (kd25 : PySem.W.keepIn K (.ref fd25) = true)
    (ad26 : PySem.W.findIn K (.ref CD) "tell_sums" = some (some (.ref fd26)))
    (id26 : PySem.W.isFn K (.ref fd26) = true)
    (ld26 : K.lookup fd26 = some ⟨ocd26, odd26, .func (PySem.W.fnOf "tell_sums" "Depot.tell_sums" (defArgs (sD 26)) (defBody (sD 26)) (defScope (sD 26)) .none kVd26 dcd26 pmd26 and26 cdd26 ctd26), sld26⟩)
    (cd26d : PySem.W.codeIn K cdd26 "Depot.tell_sums" = true)
    (kd26 : PySem.W.keepIn K (.ref fd26) = true)
    (ad27 : PySem.W.findIn K (.ref CD) "tell_state" = some (some (.ref fd27)))
    (id27 : PySem.W.isFn K (.ref fd27) = true)
    (ld27 : K.lookup fd27 = some ⟨ocd27, odd27, .func (PySem.W.fnOf "tell_state" "Depot.tell_state" (defArgs (sD 27)) (defBody (sD 27)) (defScope (sD 27)) .none kVd27 dcd27 pmd27 and27 cdd27 ctd27), sld27⟩)
    (cd27d : PySem.W.codeIn K cdd27 "Depot.tell_state" = true)
    (kd27 : PySem.W.keepIn K (.ref fd27) = true)
    (aci : PySem.W.findIn K (.ref CC) "__init__" = some (some (.ref fci)))
    (ici : PySem.W.isFn K (.ref fci) = true)
    (lci : K.lookup fci = some ⟨occi, odci, .func (PySem.W.fnOf "__init__" "Call.__init__" (defArgs sCallInit) (defBody sCallInit) (defScope sCallInit) .none kVci dcci pmci anci cdci ctci), slci⟩)
    (ccid : PySem.W.codeIn K cdci "Call.__init__" = true)
    (kci : PySem.W.keepIn K (.ref fci) = true)
    (arc : PySem.W.nsIn K mainGlobals "read_call" = some (some (.ref frc)))
    (lrc : K.lookup frc = some ⟨ocrc, odrc, .func (PySem.W.fnOf "read_call" "read_call" (defArgs sReadCall) (defBody sReadCall) (defScope sReadCall) .none kVrc dcrc pmrc anrc cdrc ctrc), slrc⟩)
    (crcd : PySem.W.codeIn K cdrc "read_call" = true)
    (krc : PySem.W.keepIn K (.ref frc) = true)
    (aa0 : PySem.W.nsIn K mainGlobals "answer_begin" = some (some (.ref fa0)))
    (la0 : K.lookup fa0 = some ⟨oca0, oda0, .func (PySem.W.fnOf "answer_begin" "answer_begin" (defArgs sABegin) (defBody sABegin) (defScope sABegin) .none kVa0 dca0 pma0 ana0 cda0 cta0), sla0⟩)
    (ca0d : PySem.W.codeIn K cda0 "answer_begin" = true)
    (ka0 : PySem.W.keepIn K (.ref fa0) = true)
    (aa1 : PySem.W.nsIn K mainGlobals "answer_stop" = some (some (.ref fa1)))
    (la1 : K.lookup fa1 = some ⟨oca1, oda1, .func (PySem.W.fnOf "answer_stop" "answer_stop" (defArgs sAStop) (defBody sAStop) (defScope sAStop) .none kVa1 dca1 pma1 ana1 cda1 cta1), sla1⟩)
    (ca1d : PySem.W.codeIn K cda1 "answer_stop" = true)
    (ka1 : PySem.W.keepIn K (.ref fa1) = true)
    (aa2 : PySem.W.nsIn K mainGlobals "answer_way" = some (some (.ref fa2)))
    (la2 : K.lookup fa2 = some ⟨oca2, oda2, .func (PySem.W.fnOf "answer_way" "answer_way" (defArgs sAWay) (defBody sAWay) (defScope sAWay) .none kVa2 dca2 pma2 ana2 cda2 cta2), sla2⟩)
    (ca2d : PySem.W.codeIn K cda2 "answer_way" = true)
    (ka2 : PySem.W.keepIn K (.ref fa2) = true)
    (aa3 : PySem.W.nsIn K mainGlobals "answer_load" = some (some (.ref fa3)))
    (la3 : K.lookup fa3 = some ⟨oca3, oda3, .func (PySem.W.fnOf "answer_load" "answer_load" (defArgs sALoad) (defBody sALoad) (defScope sALoad) .none kVa3 dca3 pma3 ana3 cda3 cta3), sla3⟩)
    (ca3d : PySem.W.codeIn K cda3 "answer_load" = true)
    (ka3 : PySem.W.keepIn K (.ref fa3) = true)
    (aa4 : PySem.W.nsIn K mainGlobals "answer_drive" = some (some (.ref fa4)))
    (la4 : K.lookup fa4 = some ⟨oca4, oda4, .func (PySem.W.fnOf "answer_drive" "answer_drive" (defArgs sADrive) (defBody sADrive) (defScope sADrive) .none kVa4 dca4 pma4 ana4 cda4 cta4), sla4⟩)
    (ca4d : PySem.W.codeIn K cda4 "answer_drive" = true)
    (ka4 : PySem.W.keepIn K (.ref fa4) = true)
    (aa5 : PySem.W.nsIn K mainGlobals "answer_back" = some (some (.ref fa5)))
    (la5 : K.lookup fa5 = some ⟨oca5, oda5, .func (PySem.W.fnOf "answer_back" "answer_back" (defArgs sABack) (defBody sABack) (defScope sABack) .none kVa5 dca5 pma5 ana5 cda5 cta5), sla5⟩)
    (ca5d : PySem.W.codeIn K cda5 "answer_back" = true)
    (ka5 : PySem.W.keepIn K (.ref fa5) = true)
    (aa6 : PySem.W.nsIn K mainGlobals "answer_wait" = some (some (.ref fa6)))
    (la6 : K.lookup fa6 = some ⟨oca6, oda6, .func (PySem.W.fnOf "answer_wait" "answer_wait" (defArgs sAWait) (defBody sAWait) (defScope sAWait) .none kVa6 dca6 pma6 ana6 cda6 cta6), sla6⟩)
    (ca6d : PySem.W.codeIn K cda6 "answer_wait" = true)
    (ka6 : PySem.W.keepIn K (.ref fa6) = true)
    (aa7 : PySem.W.nsIn K mainGlobals "answer_need" = some (some (.ref fa7)))
    (la7 : K.lookup fa7 = some ⟨oca7, oda7, .func (PySem.W.fnOf "answer_need" "answer_need" (defArgs sANeed) (defBody sANeed) (defScope sANeed) .none kVa7 dca7 pma7 ana7 cda7 cta7), sla7⟩)
    (ca7d : PySem.W.codeIn K cda7 "answer_need" = true)
    (ka7 : PySem.W.keepIn K (.ref fa7) = true)
    (aa8 : PySem.W.nsIn K mainGlobals "answer_mild" = some (some (.ref fa8)))
    (la8 : K.lookup fa8 = some ⟨oca8, oda8, .func (PySem.W.fnOf "answer_mild" "answer_mild" (defArgs sAMild) (defBody sAMild) (defScope sAMild) .none kVa8 dca8 pma8 ana8 cda8 cta8), sla8⟩)
    (ca8d : PySem.W.codeIn K cda8 "answer_mild" = true)
    (ka8 : PySem.W.keepIn K (.ref fa8) = true)
    (aa9 : PySem.W.nsIn K mainGlobals "answer_quick" = some (some (.ref fa9)))
    (la9 : K.lookup fa9 = some ⟨oca9, oda9, .func (PySem.W.fnOf "answer_quick" "answer_quick" (defArgs sAQuick) (defBody sAQuick) (defScope sAQuick) .none kVa9 dca9 pma9 ana9 cda9 cta9), sla9⟩)
    (ca9d : PySem.W.codeIn K cda9 "answer_quick" = true)
    (ka9 : PySem.W.keepIn K (.ref fa9) = true)
    (aa10 : PySem.W.nsIn K mainGlobals "answer_most" = some (some (.ref fa10)))
    (la10 : K.lookup fa10 = some ⟨oca10, oda10, .func (PySem.W.fnOf "answer_most" "answer_most" (defArgs sAMost) (defBody sAMost) (defScope sAMost) .none kVa10 dca10 pma10 ana10 cda10 cta10), sla10⟩)
    (ca10d : PySem.W.codeIn K cda10 "answer_most" = true)
    (ka10 : PySem.W.keepIn K (.ref fa10) = true)
    (aa11 : PySem.W.nsIn K mainGlobals "answer_drops" = some (some (.ref fa11)))
    (la11 : K.lookup fa11 = some ⟨oca11, oda11, .func (PySem.W.fnOf "answer_drops" "answer_drops" (defArgs sADrops) (defBody sADrops) (defScope sADrops) .none kVa11 dca11 pma11 ana11 cda11 cta11), sla11⟩)
    (ca11d : PySem.W.codeIn K cda11 "answer_drops" = true)
    (ka11 : PySem.W.keepIn K (.ref fa11) = true)
    (aa12 : PySem.W.nsIn K mainGlobals "answer_now" = some (some (.ref fa12)))
    (la12 : K.lookup fa12 = some ⟨oca12, oda12, .func (PySem.W.fnOf "answer_now" "answer_now" (defArgs sANow) (defBody sANow) (defScope sANow) .none kVa12 dca12 pma12 ana12 cda12 cta12), sla12⟩)
    (ca12d : PySem.W.codeIn K cda12 "answer_now" = true)
    (ka12 : PySem.W.keepIn K (.ref fa12) = true)
    (aa13 : PySem.W.nsIn K mainGlobals "answer_left" = some (some (.ref fa13)))
    (la13 : K.lookup fa13 = some ⟨oca13, oda13, .func (PySem.W.fnOf "answer_left" "answer_left" (defArgs sALeft) (defBody sALeft) (defScope sALeft) .none kVa13 dca13 pma13 ana13 cda13 cta13), sla13⟩)
    (ca13d : PySem.W.codeIn K cda13 "answer_left" = true)
    (ka13 : PySem.W.keepIn K (.ref fa13) = true)
    (aa14 : PySem.W.nsIn K mainGlobals "answer_slack" = some (some (.ref fa14)))
    (la14 : K.lookup fa14 = some ⟨oca14, oda14, .func (PySem.W.fnOf "answer_slack" "answer_slack" (defArgs sASlack) (defBody sASlack) (defScope sASlack) .none kVa14 dca14 pma14 ana14 cda14 cta14), sla14⟩)
    (ca14d : PySem.W.codeIn K cda14 "answer_slack" = true)
    (ka14 : PySem.W.keepIn K (.ref fa14) = true)
    (aa15 : PySem.W.nsIn K mainGlobals "answer_mins" = some (some (.ref fa15)))
    (la15 : K.lookup fa15 = some ⟨oca15, oda15, .func (PySem.W.fnOf "answer_mins" "answer_mins" (defArgs sAMins) (defBody sAMins) (defScope sAMins) .none kVa15 dca15 pma15 ana15 cda15 cta15), sla15⟩)
    (ca15d : PySem.W.codeIn K cda15 "answer_mins" = true)
    (ka15 : PySem.W.keepIn K (.ref fa15) = true)
    (aa16 : PySem.W.nsIn K mainGlobals "answer_look" = some (some (.ref fa16)))
    (la16 : K.lookup fa16 = some ⟨oca16, oda16, .func (PySem.W.fnOf "answer_look" "answer_look" (defArgs sALook) (defBody sALook) (defScope sALook) .none kVa16 dca16 pma16 ana16 cda16 cta16), sla16⟩)
    (ca16d : PySem.W.codeIn K cda16 "answer_look" = true)
    (ka16 : PySem.W.keepIn K (.ref fa16) = true)
    (aa17 : PySem.W.nsIn K mainGlobals "answer_done" = some (some (.ref fa17)))
    (la17 : K.lookup fa17 = some ⟨oca17, oda17, .func (PySem.W.fnOf "answer_done" "answer_done" (defArgs sADone) (defBody sADone) (defScope sADone) .none kVa17 dca17 pma17 ana17 cda17 cta17), sla17⟩)
    (ca17d : PySem.W.codeIn K cda17 "answer_done" = true)
    (ka17 : PySem.W.keepIn K (.ref fa17) = true)
    (aa18 : PySem.W.nsIn K mainGlobals "answer_warm" = some (some (.ref fa18)))
    (la18 : K.lookup fa18 = some ⟨oca18, oda18, .func (PySem.W.fnOf "answer_warm" "answer_warm" (defArgs sAWarm) (defBody sAWarm) (defScope sAWarm) .none kVa18 dca18 pma18 ana18 cda18 cta18), sla18⟩)
    (ca18d : PySem.W.codeIn K cda18 "answer_warm" = true)
    (ka18 : PySem.W.keepIn K (.ref fa18) = true)
    (aa19 : PySem.W.nsIn K mainGlobals "answer_sums" = some (some (.ref fa19)))
    (la19 : K.lookup fa19 = some ⟨oca19, oda19, .func (PySem.W.fnOf "answer_sums" "answer_sums" (defArgs sASums) (defBody sASums) (defScope sASums) .none kVa19 dca19 pma19 ana19 cda19 cta19), sla19⟩)
    (ca19d : PySem.W.codeIn K cda19 "answer_sums" = true)
    (ka19 : PySem.W.keepIn K (.ref fa19) = true)
    (aa20 : PySem.W.nsIn K mainGlobals "answer_state" = some (some (.ref fa20)))
    (la20 : K.lookup fa20 = some ⟨oca20, oda20, .func (PySem.W.fnOf "answer_state" "answer_state" (defArgs sAState) (defBody sAState) (defScope sAState) .none kVa20 dca20 pma20 ana20 cda20 cta20), sla20⟩)
    (ca20d : PySem.W.codeIn K cda20 "answer_state" = true)
    (ka20 : PySem.W.keepIn K (.ref fa20) = true)
    (aac : PySem.W.nsIn K mainGlobals "answer_call" = some (some (.ref fac)))
    (lac : K.lookup fac = some ⟨ocac, odac, .func (PySem.W.fnOf "answer_call" "answer_call" (defArgs sAnswerCall) (defBody sAnswerCall) (defScope sAnswerCall) .none kVac dcac pmac anac cdac ctac), slac⟩)
    (cacd : PySem.W.codeIn K cdac "answer_call" = true)
    (kac : PySem.W.keepIn K (.ref fac) = true)
    (aan : PySem.W.nsIn K mainGlobals "answers" = some (some (.ref fan)))
    (lan : K.lookup fan = some ⟨ocan, odan, .func (PySem.W.fnOf "answers" "answers" (defArgs sAnswers) (defBody sAnswers) (defScope sAnswers) .none kVan dcan pman anan cdan ctan), slan⟩)
    (cand : PySem.W.codeIn K cdan "answers" = true)
    (kan : PySem.W.keepIn K (.ref fan) = true)
    (gWORKS : PySem.W.nsIn K mainGlobals "WORKS" = some (some (.int (0) tWORKS)))
    (gFIRST_WAY : PySem.W.nsIn K mainGlobals "FIRST_WAY" = some (some (.int (30) tFIRST_WAY)))
    (gNONE_SUCH : PySem.W.nsIn K mainGlobals "NONE_SUCH" = some (some (.int (-2) tNONE_SUCH)))
    (gNOTHING : PySem.W.nsIn K mainGlobals "NOTHING" = some (some (.int (-6) tNOTHING)))
    (gNOT_BEGUN : PySem.W.nsIn K mainGlobals "NOT_BEGUN" = some (some (.int (-11) tNOT_BEGUN)))
    (gNOT_NOW : PySem.W.nsIn K mainGlobals "NOT_NOW" = some (some (.int (-16) tNOT_NOW)))
    (gSO_ALREADY : PySem.W.nsIn K mainGlobals "SO_ALREADY" = some (some (.int (-17) tSO_ALREADY)))
    (gOUT_OF_RANGE : PySem.W.nsIn K mainGlobals "OUT_OF_RANGE" = some (some (.int (-22) tOUT_OF_RANGE)))
    (gTOO_MANY : PySem.W.nsIn K mainGlobals "TOO_MANY" = some (some (.int (-28) tTOO_MANY)))
    (gCANNOT_BE : PySem.W.nsIn K mainGlobals "CANNOT_BE" = some (some (.int (-33) tCANNOT_BE)))
    (gMOST_WAY_LOSS : PySem.W.nsIn K mainGlobals "MOST_WAY_LOSS" = some (some (.int (20) tMOST_WAY_LOSS)))
    (gMOST_DOOR_LOSS : PySem.W.nsIn K mainGlobals "MOST_DOOR_LOSS" = some (some (.int (100) tMOST_DOOR_LOSS)))
    (gMOST_ROOM : PySem.W.nsIn K mainGlobals "MOST_ROOM" = some (some (.int (100000) tMOST_ROOM)))
    (gMOST_DOOR_MINUTES : PySem.W.nsIn K mainGlobals "MOST_DOOR_MINUTES" = some (some (.int (120) tMOST_DOOR_MINUTES)))
    (gMOST_FROST : PySem.W.nsIn K mainGlobals "MOST_FROST" = some (some (.int (600) tMOST_FROST)))
    (gMOST_LITRES : PySem.W.nsIn K mainGlobals "MOST_LITRES" = some (some (.int (10000) tMOST_LITRES)))
    (gMOST_MINUTES : PySem.W.nsIn K mainGlobals "MOST_MINUTES" = some (some (.int (600) tMOST_MINUTES)))
    (gLONGEST_ROW : PySem.W.nsIn K mainGlobals "LONGEST_ROW" = some (some (.int (6) tLONGEST_ROW)))
    (gMOST_STOPS : PySem.W.nsIn K mainGlobals "MOST_STOPS" = some (some (.int (7) tMOST_STOPS)))
    (gBEGIN : PySem.W.nsIn K mainGlobals "BEGIN" = some (some (.int (0) tBEGIN)))
    (zlen : PySem.W.nsIn K mainGlobals "len" = some none)
    (zmax : PySem.W.nsIn K mainGlobals "max" = some none)
    (zmin : PySem.W.nsIn K mainGlobals "min" = some none)
    (zrange : PySem.W.nsIn K mainGlobals "range" = some none)
    (zset : PySem.W.nsIn K mainGlobals "set" = some none)
    (zsum : PySem.W.nsIn K mainGlobals "sum" = some none)
    (zlist : PySem.W.nsIn K mainGlobals "list" = some none)
    (aSH : PySem.W.nsIn K mainGlobals "SHAPES" = some (some (.ref SH)))
    (aAN : PySem.W.nsIn K mainGlobals "ANSWERERS" = some (some (.ref AN)))
    (n12 : pmi ≠ pqu) (n13 : pmi ≠ pco) (n23 : pqu ≠ pco)
    (hAN1 : tupOf K AN = some usA) (hAN2 : allRefs usA = some [fa0, fa1, fa2, fa3, fa4, fa5, fa6, fa7, fa8, fa9, fa10, fa11, fa12, fa13, fa14, fa15, fa16, fa17, fa18, fa19, fa20])
    (hSH : ∃ xs : List V, (∀ H, SqT K H SH xs) ∧ ∀ q, q ≤ 20 → ∃ (p : Addr) (nm : Str), xs[q]? = some (.ref p) ∧ ∀ H, SqT K H p [.str nm, vn (argN q), .bl (rowK q)]) :
    ∃ fd : FuncData, (∀ (s : Shared) (us : List Value), us.length = (["calls"] : List Str).length → BindsTo s fd ⟨us, []⟩ ((["calls"] : List Str).zip us)) ∧ ∀ base : Heap, K.In base → base.Ns mainGlobals mg → BMain mg base → FnOk P w K mg base CX0 11 fa0_ fd ["calls"] (spTop K [pmi, pqu, pco]) := by
  have efa := hfa.symm.trans (PySem.W.mg_of X G aan)
  cases efa
  have Fsi := fun_mk (st := sStopInit) lsi csid ksi
  have bsi := Fsi.binds (ps := (["self", "door_minutes", "wanted", "litres"] : List Str)) fun _ _ _ _ _ _ us hl => match us, hl with | [_, _, _, _], _ => rfl
  have Msi : Mk K CS fsi := ⟨mkCS, asi, isi, kcCS⟩
  have Fri := fun_mk (st := sRoadsInit) lri crid kri
  have bri := Fri.binds (ps := (["self", "way_loss", "door_loss"] : List Str)) fun _ _ _ _ _ _ us hl => match us, hl with | [_, _, _], _ => rfl
  have Mri : Mk K CR fri := ⟨mkCR, ari, iri, kcCR⟩
  have Fhs := fun_mk (st := sHasStop) lhs chsd khs
  have bhs := Fhs.binds (ps := (["self", "number"] : List Str)) fun _ _ _ _ _ _ us hl => match us, hl with | [_, _], _ => rfl
  have mhs : Meth K CR "has_stop" fhs := ⟨ahs, ihs, khs⟩
  have Fhp := fun_mk (st := sHasPlace) lhp chpd khp
  have bhp := Fhp.binds (ps := (["self", "place"] : List Str)) fun _ _ _ _ _ _ us hl => match us, hl with | [_, _], _ => rfl
  have mhp : Meth K CR "has_place" fhp := ⟨ahp, ihp, khp⟩
  have Fbt := fun_mk (st := sBetween) lbt cbtd kbt
  have bbt := Fbt.binds (ps := (["self", "start", "goal"] : List Str)) fun _ _ _ _ _ _ us hl => match us, hl with | [_, _, _], _ => rfl
  have mbt : Meth K CR "minutes_between" fbt := ⟨abt, ibt, kbt⟩
  have Fsm := fun_mk (st := sSetMin) lsm csmd ksm
  have bsm := Fsm.binds (ps := (["self", "start", "goal", "minutes"] : List Str)) fun _ _ _ _ _ _ us hl => match us, hl with | [_, _, _, _], _ => rfl
  have msm : Meth K CR "set_minutes" fsm := ⟨asm, ism, ksm⟩
  have Fpo := fun_mk (st := sPlaceOf) lpo cpod kpo
  have bpo := Fpo.binds (ps := (["number"] : List Str)) fun _ _ _ _ _ _ us hl => match us, hl with | [_], _ => rfl
  have gpo := PySem.W.mg_of X G apo
  have Fpi := fun_mk (st := sDropInit) lpi cpid kpi
  have bpi := Fpi.binds (ps := (["self", "minutes", "lost", "wanted"] : List Str)) fun _ _ _ _ _ _ us hl => match us, hl with | [_, _, _, _], _ => rfl
  have Mpi : Mk K CP fpi := ⟨mkCP, api, ipi, kcCP⟩
  have Fti := fun_mk (st := sTripInit) lti ctid kti
  have bti := Fti.binds (ps := (["self", "row", "place", "minutes", "lost", "drops"] : List Str)) fun _ _ _ _ _ _ us hl => match us, hl with | [_, _, _, _, _, _], _ => rfl
  have Mti : Mk K CT fti := ⟨mkCT, ati, iti, kcCT⟩
  have Ftf := fun_mk (st := sTripFrom) ltf ctfd ktf
  have btf := Ftf.binds (ps := (["place"] : List Str)) fun _ _ _ _ _ _ us hl => match us, hl with | [_], _ => rfl
  have gtf := PySem.W.mg_of X G atf
  have Ftw := fun_mk (st := sTripWith) ltw ctwd ktw
  have btw := Ftw.binds (ps := (["roads", "trip", "number"] : List Str)) fun _ _ _ _ _ _ us hl => match us, hl with | [_, _, _], _ => rfl
  have gtw := PySem.W.mg_of X G atw
  have Fta := fun_mk (st := sTripAlong) lta ctad kta
  have bta := Fta.binds (ps := (["roads", "place", "row"] : List Str)) fun _ _ _ _ _ _ us hl => match us, hl with | [_, _, _], _ => rfl
  have gta := PySem.W.mg_of X G ata
  have Fat := fun_mk (st := sAllTrips) lat catd kat
  have bat := Fat.binds (ps := (["roads", "place", "row"] : List Str)) fun _ _ _ _ _ _ us hl => match us, hl with | [_, _, _], _ => rfl
  have gat := PySem.W.mg_of X G aat
  have Ffn := fun_mk (st := sFrostNeeded) lfn cfnd kfn
  have bfn := Ffn.binds (ps := (["trip"] : List Str)) fun _ _ _ _ _ _ us hl => match us, hl with | [_], _ => rfl
  have gfn := PySem.W.mg_of X G afn
  have Fft := fun_mk (st := sFrostAt) lft cftd kft
  have bft := Fft.binds (ps := (["drop", "frost"] : List Str)) fun _ _ _ _ _ _ us hl => match us, hl with | [_, _], _ => rfl
  have gft := PySem.W.mg_of X G aft
  have Fmh := fun_mk (st := sMinutesHome) lmh cmhd kmh
  have bmh := Fmh.binds (ps := (["roads", "trip"] : List Str)) fun _ _ _ _ _ _ us hl => match us, hl with | [_, _], _ => rfl
  have gmh := PySem.W.mg_of X G amh
  have Fcd := fun_mk (st := sColdDrops) lcd ccdd kcd
  have bcd := Fcd.binds (ps := (["trip", "frost"] : List Str)) fun _ _ _ _ _ _ us hl => match us, hl with | [_, _], _ => rfl
  have gcd := PySem.W.mg_of X G acd
  have Fmi := fun_mk (st := sMildest) lmi cmid kmi
  have bmi := Fmi.binds (ps := (["roads", "trips"] : List Str)) fun _ _ _ _ _ _ us hl => match us, hl with | [_, _], _ => rfl
  have gmi := PySem.W.mg_of X G ami
  have Fct := fun_mk (st := sColdTrips) lct cctd kct
  have bct := Fct.binds (ps := (["trips", "frost"] : List Str)) fun _ _ _ _ _ _ us hl => match us, hl with | [_, _], _ => rfl
  have gct := PySem.W.mg_of X G act
  have Fqu := fun_mk (st := sQuickest) lqu cqud kqu
  have bqu := Fqu.binds (ps := (["roads", "trips"] : List Str)) fun _ _ _ _ _ _ us hl => match us, hl with | [_, _], _ => rfl
  have gqu := PySem.W.mg_of X G aqu
  have Fco := fun_mk (st := sColdest) lco ccod kco
  have bco := Fco.binds (ps := (["roads", "trips", "frost"] : List Str)) fun _ _ _ _ _ _ us hl => match us, hl with | [_, _, _], _ => rfl
  have gco := PySem.W.mg_of X G aco
  have Fwi := fun_mk (st := sWithin) lwi cwid kwi
  have bwi := Fwi.binds (ps := (["value", "least", "most"] : List Str)) fun _ _ _ _ _ _ us hl => match us, hl with | [_, _, _], _ => rfl
  have gwi := PySem.W.mg_of X G awi
  have Fni := fun_mk (st := sDoneInit) lni cnid kni
  have bni := Fni.binds (ps := (["self", "number", "litres", "minute", "frost", "too_warm"] : List Str)) fun _ _ _ _ _ _ us hl => match us, hl with | [_, _, _, _, _, _], _ => rfl
  have Mni : Mk K CN fni := ⟨mkCN, ani, ini, kcCN⟩
  have Fb0 := fun_mk (st := (sB 0)) lb0 cb0d kb0
  have bb0 := Fb0.binds (ps := (["self"] : List Str)) fun _ _ _ _ _ _ us hl => match us, hl with | [_], _ => rfl
  have Mb0 : Mk K CB fb0 := ⟨mkCB, ab0, ib0, kcCB⟩
  have Fb1 := fun_mk (st := (sB 1)) lb1 cb1d kb1
  have bb1 := Fb1.binds (ps := (["self"] : List Str)) fun _ _ _ _ _ _ us hl => match us, hl with | [_], _ => rfl
  have mb1 : Meth K CB "add_load" fb1 := ⟨ab1, ib1, kb1⟩
  have Fb2 := fun_mk (st := (sB 2)) lb2 cb2d kb2
  have bb2 := Fb2.binds (ps := (["self", "drop"] : List Str)) fun _ _ _ _ _ _ us hl => match us, hl with | [_, _], _ => rfl
  have mb2 : Meth K CB "add_drop" fb2 := ⟨ab2, ib2, kb2⟩
  have Fb3 := fun_mk (st := (sB 3)) lb3 cb3d kb3
  have bb3 := Fb3.binds (ps := (["self"] : List Str)) fun _ _ _ _ _ _ us hl => match us, hl with | [_], _ => rfl
  have mb3 : Meth K CB "litres_dropped" fb3 := ⟨ab3, ib3, kb3⟩
  have Fb4 := fun_mk (st := (sB 4)) lb4 cb4d kb4
  have bb4 := Fb4.binds (ps := (["self"] : List Str)) fun _ _ _ _ _ _ us hl => match us, hl with | [_], _ => rfl
  have mb4 : Meth K CB "tenths_too_warm" fb4 := ⟨ab4, ib4, kb4⟩
  have Fd0 := fun_mk (st := (sD 0)) ld0 cd0d kd0
  have bd0 := Fd0.binds (ps := (["self"] : List Str)) fun _ _ _ _ _ _ us hl => match us, hl with | [_], _ => rfl
  have Md0 : Mk K CD fd0 := ⟨mkCD, ad0, id0, kcCD⟩
  have Fd1 := fun_mk (st := (sD 1)) ld1 cd1d kd1
  have bd1 := Fd1.binds (ps := (["self", "way_loss", "door_loss", "room"] : List Str)) fun _ _ _ _ _ _ us hl => match us, hl with | [_, _, _, _], _ => rfl
  have md1 : Meth K CD "clear_all" fd1 := ⟨ad1, id1, kd1⟩
  have Fd2 := fun_mk (st := (sD 2)) ld2 cd2d kd2
  have bd2 := Fd2.binds (ps := (["self", "way_loss", "door_loss", "room"] : List Str)) fun _ _ _ _ _ _ us hl => match us, hl with | [_, _, _, _], _ => rfl
  have md2 : Meth K CD "begin" fd2 := ⟨ad2, id2, kd2⟩
  have Fd3 := fun_mk (st := (sD 3)) ld3 cd3d kd3
  have bd3 := Fd3.binds (ps := (["self", "door_minutes", "wanted", "litres"] : List Str)) fun _ _ _ _ _ _ us hl => match us, hl with | [_, _, _, _], _ => rfl
  have md3 : Meth K CD "add_stop" fd3 := ⟨ad3, id3, kd3⟩
  have Fd4 := fun_mk (st := (sD 4)) ld4 cd4d kd4
  have bd4 := Fd4.binds (ps := (["self", "start", "goal", "minutes"] : List Str)) fun _ _ _ _ _ _ us hl => match us, hl with | [_, _, _, _], _ => rfl
  have md4 : Meth K CD "change_way" fd4 := ⟨ad4, id4, kd4⟩
  have Fd5 := fun_mk (st := (sD 5)) ld5 cd5d kd5
  have bd5 := Fd5.binds (ps := (["self", "row"] : List Str)) fun _ _ _ _ _ _ us hl => match us, hl with | [_, _], _ => rfl
  have md5 : Meth K CD "row_refusal" fd5 := ⟨ad5, id5, kd5⟩
  have Fd6 := fun_mk (st := (sD 6)) ld6 cd6d kd6
  have bd6 := Fd6.binds (ps := (["self", "frost", "row"] : List Str)) fun _ _ _ _ _ _ us hl => match us, hl with | [_, _, _], _ => rfl
  have md6 : Meth K CD "frost_and_row_refusal" fd6 := ⟨ad6, id6, kd6⟩
  have Fd7 := fun_mk (st := (sD 7)) ld7 cd7d kd7
  have bd7 := Fd7.binds (ps := (["self", "frost", "row"] : List Str)) fun _ _ _ _ _ _ us hl => match us, hl with | [_, _, _], _ => rfl
  have md7 : Meth K CD "load_up" fd7 := ⟨ad7, id7, kd7⟩
  have Fd8 := fun_mk (st := (sD 8)) ld8 cd8d kd8
  have bd8 := Fd8.binds (ps := (["self", "minutes", "loss"] : List Str)) fun _ _ _ _ _ _ us hl => match us, hl with | [_, _, _], _ => rfl
  have md8 : Meth K CD "pass_minutes" fd8 := ⟨ad8, id8, kd8⟩
  have Fd9 := fun_mk (st := (sD 9)) ld9 cd9d kd9
  have bd9 := Fd9.binds (ps := (["self", "place"] : List Str)) fun _ _ _ _ _ _ us hl => match us, hl with | [_, _], _ => rfl
  have md9 : Meth K CD "go_to" fd9 := ⟨ad9, id9, kd9⟩
  have Fd10 := fun_mk (st := (sD 10)) ld10 cd10d kd10
  have bd10 := Fd10.binds (ps := (["self", "number"] : List Str)) fun _ _ _ _ _ _ us hl => match us, hl with | [_, _], _ => rfl
  have md10 : Meth K CD "drive_to" fd10 := ⟨ad10, id10, kd10⟩
  have Fd11 := fun_mk (st := (sD 11)) ld11 cd11d kd11
  have bd11 := Fd11.binds (ps := (["self"] : List Str)) fun _ _ _ _ _ _ us hl => match us, hl with | [_], _ => rfl
  have md11 : Meth K CD "go_back" fd11 := ⟨ad11, id11, kd11⟩
  have Fd12 := fun_mk (st := (sD 12)) ld12 cd12d kd12
  have bd12 := Fd12.binds (ps := (["self", "minutes"] : List Str)) fun _ _ _ _ _ _ us hl => match us, hl with | [_, _], _ => rfl
  have md12 : Meth K CD "wait_here" fd12 := ⟨ad12, id12, kd12⟩
  have Fd13 := fun_mk (st := (sD 13)) ld13 cd13d kd13
  have bd13 := Fd13.binds (ps := (["self", "row"] : List Str)) fun _ _ _ _ _ _ us hl => match us, hl with | [_, _], _ => rfl
  have md13 : Meth K CD "tell_need" fd13 := ⟨ad13, id13, kd13⟩
  have Fd14 := fun_mk (st := (sD 14)) ld14 cd14d kd14
  have bd14 := Fd14.binds (ps := (["self", "row"] : List Str)) fun _ _ _ _ _ _ us hl => match us, hl with | [_, _], _ => rfl
  have md14 : Meth K CD "tell_mild" fd14 := ⟨ad14, id14, kd14⟩
  have Fd15 := fun_mk (st := (sD 15)) ld15 cd15d kd15
  have bd15 := Fd15.binds (ps := (["self", "frost", "row"] : List Str)) fun _ _ _ _ _ _ us hl => match us, hl with | [_, _, _], _ => rfl
  have md15 : Meth K CD "tell_quick" fd15 := ⟨ad15, id15, kd15⟩
  have Fd16 := fun_mk (st := (sD 16)) ld16 cd16d kd16
  have bd16 := Fd16.binds (ps := (["self", "frost", "row"] : List Str)) fun _ _ _ _ _ _ us hl => match us, hl with | [_, _, _], _ => rfl
  have md16 : Meth K CD "tell_most" fd16 := ⟨ad16, id16, kd16⟩
  have Fd17 := fun_mk (st := (sD 17)) ld17 cd17d kd17
  have bd17 := Fd17.binds (ps := (["self", "frost", "row"] : List Str)) fun _ _ _ _ _ _ us hl => match us, hl with | [_, _, _], _ => rfl
  have md17 : Meth K CD "tell_drops" fd17 := ⟨ad17, id17, kd17⟩
  have Fd18 := fun_mk (st := (sD 18)) ld18 cd18d kd18
  have bd18 := Fd18.binds (ps := (["self"] : List Str)) fun _ _ _ _ _ _ us hl => match us, hl with | [_], _ => rfl
  have md18 : Meth K CD "trips_left" fd18 := ⟨ad18, id18, kd18⟩
  have Fd19 := fun_mk (st := (sD 19)) ld19 cd19d kd19
  have bd19 := Fd19.binds (ps := (["self"] : List Str)) fun _ _ _ _ _ _ us hl => match us, hl with | [_], _ => rfl
  have md19 : Meth K CD "tell_now" fd19 := ⟨ad19, id19, kd19⟩
  have Fd20 := fun_mk (st := (sD 20)) ld20 cd20d kd20
  have bd20 := Fd20.binds (ps := (["self"] : List Str)) fun _ _ _ _ _ _ us hl => match us, hl with | [_], _ => rfl
  have md20 : Meth K CD "tell_left" fd20 := ⟨ad20, id20, kd20⟩
  have Fd21 := fun_mk (st := (sD 21)) ld21 cd21d kd21
  have bd21 := Fd21.binds (ps := (["self"] : List Str)) fun _ _ _ _ _ _ us hl => match us, hl with | [_], _ => rfl
  have md21 : Meth K CD "tell_slack" fd21 := ⟨ad21, id21, kd21⟩
  have Fd22 := fun_mk (st := (sD 22)) ld22 cd22d kd22
  have bd22 := Fd22.binds (ps := (["self", "start", "goal"] : List Str)) fun _ _ _ _ _ _ us hl => match us, hl with | [_, _, _], _ => rfl
  have md22 : Meth K CD "tell_mins" fd22 := ⟨ad22, id22, kd22⟩
  have Fd23 := fun_mk (st := (sD 23)) ld23 cd23d kd23
  have bd23 := Fd23.binds (ps := (["self", "number"] : List Str)) fun _ _ _ _ _ _ us hl => match us, hl with | [_, _], _ => rfl
  have md23 : Meth K CD "look_at" fd23 := ⟨ad23, id23, kd23⟩
  have Fd24 := fun_mk (st := (sD 24)) ld24 cd24d kd24
  have bd24 := Fd24.binds (ps := (["self"] : List Str)) fun _ _ _ _ _ _ us hl => match us, hl with | [_], _ => rfl
  have md24 : Meth K CD "tell_done" fd24 := ⟨ad24, id24, kd24⟩
  have Fd25 := fun_mk (st := (sD 25)) ld25 cd25d kd25
  have bd25 := Fd25.binds (ps := (["self"] : List Str)) fun _ _ _ _ _ _ us hl => match us, hl with | [_], _ => rfl
  have md25 : Meth K CD "tell_warm" fd25 := ⟨ad25, id25, kd25⟩
  have Fd26 := fun_mk (st := (sD 26)) ld26 cd26d kd26
  have bd26 := Fd26.binds (ps := (["self"] : List Str)) fun _ _ _ _ _ _ us hl => match us, hl with | [_], _ => rfl
  have md26 : Meth K CD "tell_sums" fd26 := ⟨ad26, id26, kd26⟩
  have Fd27 := fun_mk (st := (sD 27)) ld27 cd27d kd27
  have bd27 := Fd27.binds (ps := (["self"] : List Str)) fun _ _ _ _ _ _ us hl => match us, hl with | [_], _ => rfl
  have md27 : Meth K CD "tell_state" fd27 := ⟨ad27, id27, kd27⟩
  have Fci := fun_mk (st := sCallInit) lci ccid kci
  have bci := Fci.binds (ps := (["self", "number", "numbers", "row", "end"] : List Str)) fun _ _ _ _ _ _ us hl => match us, hl with | [_, _, _, _, _], _ => rfl
  have Mci : Mk K CC fci := ⟨mkCC, aci, ici, kcCC⟩
  have Frc := fun_mk (st := sReadCall) lrc crcd krc
  have brc := Frc.binds (ps := (["calls", "start"] : List Str)) fun _ _ _ _ _ _ us hl => match us, hl with | [_, _], _ => rfl
  have grc := PySem.W.mg_of X G arc
  have Fa0 := fun_mk (st := sABegin) la0 ca0d ka0
  have ba0 := Fa0.binds (ps := (["depot", "numbers", "row"] : List Str)) fun _ _ _ _ _ _ us hl => match us, hl with | [_, _, _], _ => rfl
  have ga0 := PySem.W.mg_of X G aa0
  have Fa1 := fun_mk (st := sAStop) la1 ca1d ka1
  have ba1 := Fa1.binds (ps := (["depot", "numbers", "row"] : List Str)) fun _ _ _ _ _ _ us hl => match us, hl with | [_, _, _], _ => rfl
  have ga1 := PySem.W.mg_of X G aa1
  have Fa2 := fun_mk (st := sAWay) la2 ca2d ka2
  have ba2 := Fa2.binds (ps := (["depot", "numbers", "row"] : List Str)) fun _ _ _ _ _ _ us hl => match us, hl with | [_, _, _], _ => rfl
  have ga2 := PySem.W.mg_of X G aa2
  have Fa3 := fun_mk (st := sALoad) la3 ca3d ka3
  have ba3 := Fa3.binds (ps := (["depot", "numbers", "row"] : List Str)) fun _ _ _ _ _ _ us hl => match us, hl with | [_, _, _], _ => rfl
  have ga3 := PySem.W.mg_of X G aa3
  have Fa4 := fun_mk (st := sADrive) la4 ca4d ka4
  have ba4 := Fa4.binds (ps := (["depot", "numbers", "row"] : List Str)) fun _ _ _ _ _ _ us hl => match us, hl with | [_, _, _], _ => rfl
  have ga4 := PySem.W.mg_of X G aa4
  have Fa5 := fun_mk (st := sABack) la5 ca5d ka5
  have ba5 := Fa5.binds (ps := (["depot", "numbers", "row"] : List Str)) fun _ _ _ _ _ _ us hl => match us, hl with | [_, _, _], _ => rfl
  have ga5 := PySem.W.mg_of X G aa5
  have Fa6 := fun_mk (st := sAWait) la6 ca6d ka6
  have ba6 := Fa6.binds (ps := (["depot", "numbers", "row"] : List Str)) fun _ _ _ _ _ _ us hl => match us, hl with | [_, _, _], _ => rfl
  have ga6 := PySem.W.mg_of X G aa6
  have Fa7 := fun_mk (st := sANeed) la7 ca7d ka7
  have ba7 := Fa7.binds (ps := (["depot", "numbers", "row"] : List Str)) fun _ _ _ _ _ _ us hl => match us, hl with | [_, _, _], _ => rfl
  have ga7 := PySem.W.mg_of X G aa7
  have Fa8 := fun_mk (st := sAMild) la8 ca8d ka8
  have ba8 := Fa8.binds (ps := (["depot", "numbers", "row"] : List Str)) fun _ _ _ _ _ _ us hl => match us, hl with | [_, _, _], _ => rfl
  have ga8 := PySem.W.mg_of X G aa8
  have Fa9 := fun_mk (st := sAQuick) la9 ca9d ka9
  have ba9 := Fa9.binds (ps := (["depot", "numbers", "row"] : List Str)) fun _ _ _ _ _ _ us hl => match us, hl with | [_, _, _], _ => rfl
  have ga9 := PySem.W.mg_of X G aa9
  have Fa10 := fun_mk (st := sAMost) la10 ca10d ka10
  have ba10 := Fa10.binds (ps := (["depot", "numbers", "row"] : List Str)) fun _ _ _ _ _ _ us hl => match us, hl with | [_, _, _], _ => rfl
  have ga10 := PySem.W.mg_of X G aa10
  have Fa11 := fun_mk (st := sADrops) la11 ca11d ka11
  have ba11 := Fa11.binds (ps := (["depot", "numbers", "row"] : List Str)) fun _ _ _ _ _ _ us hl => match us, hl with | [_, _, _], _ => rfl
  have ga11 := PySem.W.mg_of X G aa11
  have Fa12 := fun_mk (st := sANow) la12 ca12d ka12
  have ba12 := Fa12.binds (ps := (["depot", "numbers", "row"] : List Str)) fun _ _ _ _ _ _ us hl => match us, hl with | [_, _, _], _ => rfl
  have ga12 := PySem.W.mg_of X G aa12
  have Fa13 := fun_mk (st := sALeft) la13 ca13d ka13
  have ba13 := Fa13.binds (ps := (["depot", "numbers", "row"] : List Str)) fun _ _ _ _ _ _ us hl => match us, hl with | [_, _, _], _ => rfl
  have ga13 := PySem.W.mg_of X G aa13
  have Fa14 := fun_mk (st := sASlack) la14 ca14d ka14
  have ba14 := Fa14.binds (ps := (["depot", "numbers", "row"] : List Str)) fun _ _ _ _ _ _ us hl => match us, hl with | [_, _, _], _ => rfl
  have ga14 := PySem.W.mg_of X G aa14
  have Fa15 := fun_mk (st := sAMins) la15 ca15d ka15
  have ba15 := Fa15.binds (ps := (["depot", "numbers", "row"] : List Str)) fun _ _ _ _ _ _ us hl => match us, hl with | [_, _, _], _ => rfl
  have ga15 := PySem.W.mg_of X G aa15
  have Fa16 := fun_mk (st := sALook) la16 ca16d ka16
  have ba16 := Fa16.binds (ps := (["depot", "numbers", "row"] : List Str)) fun _ _ _ _ _ _ us hl => match us, hl with | [_, _, _], _ => rfl
  have ga16 := PySem.W.mg_of X G aa16
  have Fa17 := fun_mk (st := sADone) la17 ca17d ka17
  have ba17 := Fa17.binds (ps := (["depot", "numbers", "row"] : List Str)) fun _ _ _ _ _ _ us hl => match us, hl with | [_, _, _], _ => rfl
  have ga17 := PySem.W.mg_of X G aa17
  have Fa18 := fun_mk (st := sAWarm) la18 ca18d ka18
  have ba18 := Fa18.binds (ps := (["depot", "numbers", "row"] : List Str)) fun _ _ _ _ _ _ us hl => match us, hl with | [_, _, _], _ => rfl
  have ga18 := PySem.W.mg_of X G aa18
  have Fa19 := fun_mk (st := sASums) la19 ca19d ka19
  have ba19 := Fa19.binds (ps := (["depot", "numbers", "row"] : List Str)) fun _ _ _ _ _ _ us hl => match us, hl with | [_, _, _], _ => rfl
  have ga19 := PySem.W.mg_of X G aa19
  have Fa20 := fun_mk (st := sAState) la20 ca20d ka20
  have ba20 := Fa20.binds (ps := (["depot", "numbers", "row"] : List Str)) fun _ _ _ _ _ _ us hl => match us, hl with | [_, _, _], _ => rfl
  have ga20 := PySem.W.mg_of X G aa20
  have Fac := fun_mk (st := sAnswerCall) lac cacd kac
  have bac := Fac.binds (ps := (["depot", "call"] : List Str)) fun _ _ _ _ _ _ us hl => match us, hl with | [_, _], _ => rfl
  have gac := PySem.W.mg_of X G aac
  have Fan := fun_mk (st := sAnswers) lan cand kan
  have T : TR K mg CS CR CT CP := ⟨⟨pgCS, hdCS, poCS, saCS⟩, nCS0, nCS1, nCS2, PySem.W.mg_of X G aCS, ⟨pgCR, hdCR, poCR, saCR⟩, nCR0, nCR1, nCR2, nCR3, PySem.W.mg_of X G aCR, ⟨pgCT, hdCT, poCT, saCT⟩, nCT0, nCT1, nCT2, nCT3, nCT4, PySem.W.mg_of X G aCT, ⟨pgCP, hdCP, poCP, saCP⟩, nCP0, nCP1, nCP2, PySem.W.mg_of X G aCP, PySem.W.mg_none_of X G zlen, PySem.W.mg_none_of X G zmax, PySem.W.mg_none_of X G zmin, PySem.W.mg_none_of X G zrange, ⟨_, PySem.W.mg_of X G gWORKS⟩, ⟨_, PySem.W.mg_of X G gFIRST_WAY⟩⟩
  have D : TD K mg CD CB CN := ⟨⟨pgCD, hdCD, poCD, saCD⟩, nCD0, nCD1, nCD2, nCD3, nCD4, nCD5, nCD6, nCD7, ⟨pgCB, hdCB, poCB, saCB⟩, nCB0, nCB1, PySem.W.mg_of X G aCB, ⟨pgCN, hdCN, poCN, saCN⟩, nCN0, nCN1, nCN2, nCN3, nCN4, PySem.W.mg_of X G aCN, PySem.W.mg_of X G aCD, ⟨_, PySem.W.mg_of X G gNONE_SUCH⟩, ⟨_, PySem.W.mg_of X G gNOTHING⟩, ⟨_, PySem.W.mg_of X G gNOT_BEGUN⟩, ⟨_, PySem.W.mg_of X G gNOT_NOW⟩, ⟨_, PySem.W.mg_of X G gSO_ALREADY⟩, ⟨_, PySem.W.mg_of X G gOUT_OF_RANGE⟩, ⟨_, PySem.W.mg_of X G gTOO_MANY⟩, ⟨_, PySem.W.mg_of X G gCANNOT_BE⟩, ⟨_, PySem.W.mg_of X G gMOST_WAY_LOSS⟩, ⟨_, PySem.W.mg_of X G gMOST_DOOR_LOSS⟩, ⟨_, PySem.W.mg_of X G gMOST_ROOM⟩, ⟨_, PySem.W.mg_of X G gMOST_DOOR_MINUTES⟩, ⟨_, PySem.W.mg_of X G gMOST_FROST⟩, ⟨_, PySem.W.mg_of X G gMOST_LITRES⟩, ⟨_, PySem.W.mg_of X G gMOST_MINUTES⟩, ⟨_, PySem.W.mg_of X G gLONGEST_ROW⟩, ⟨_, PySem.W.mg_of X G gMOST_STOPS⟩, ⟨_, PySem.W.mg_of X G gBEGIN⟩, PySem.W.mg_none_of X G zset, PySem.W.mg_none_of X G zsum, PySem.W.mg_none_of X G zlist⟩
  have C : TC K mg CC SH := ⟨⟨pgCC, hdCC, poCC, saCC⟩, nCC0, nCC1, nCC2, nCC3, PySem.W.mg_of X G aCC, PySem.W.mg_of X G aSH, hSH⟩
  refine ⟨PySem.W.fnOf "answers" "answers" (defArgs sAnswers) (defBody sAnswers) (defScope sAnswers) .none kVan dcan pman anan cdan ctan, fun s us hu => (match us, hu with | [_], _ => .of_eq rfl), fun base KB NB BM => ?_⟩
  have Gsi := ok_stopInit (P := P) (w := w) (K := K) (mg := mg) (base := base) Fsi T
  have Gri := ok_roadsInit (P := P) (w := w) (K := K) (mg := mg) (base := base) Fri T
  have Ghs := ok_hasStop (P := P) (w := w) (K := K) (mg := mg) (base := base) Fhs T
  have Ghp := ok_hasPlace (P := P) (w := w) (K := K) (mg := mg) (base := base) Fhp T
  have Gbt := ok_between (P := P) (w := w) (K := K) (mg := mg) (base := base) Fbt T
  have Gsm := ok_setMin (P := P) (w := w) (K := K) (mg := mg) (base := base) Fsm T
  have Gpo := ok_placeOf (P := P) (w := w) (K := K) (mg := mg) (base := base) Fpo
  have Gpi := ok_dropInit (P := P) (w := w) (K := K) (mg := mg) (base := base) Fpi T
  have Gti := ok_tripInit (P := P) (w := w) (K := K) (mg := mg) (base := base) Fti T
  have Gtf := ok_tripFrom (P := P) (w := w) (K := K) (mg := mg) (base := base) Ftf T Mti Gti bti
  have R : GR P w K mg base CS CR CT CP := ⟨T, ⟨_, _, mbt, Gbt, bbt⟩, ⟨_, _, gpo, kpo, Gpo, bpo⟩, ⟨_, _, Mti, Gti, bti⟩, ⟨_, _, Mpi, Gpi, bpi⟩⟩
  have Gtw := ok_tripWith Ftw R
  have Gta := ok_tripAlong Fta gtf ktf Gtf btf gtw ktw Gtw btw
  have Gat := ok_allTrips Fat T gtf ktf Gtf btf gtw ktw Gtw btw
  have Gfn := ok_frostNeeded (P := P) (w := w) (K := K) (mg := mg) (base := base) Ffn T
  have Gft := ok_frostAt (P := P) (w := w) (K := K) (mg := mg) (base := base) Fft T
  have Gmh := ok_minutesHome Fmh R
  have Gcd := ok_coldDrops (P := P) (w := w) (K := K) (mg := mg) (base := base) Fcd T
  have Gmi := ok_mildest lmi cmid lcmi hcmi KB BM T gfn kfn Gfn bfn gmh kmh Gmh bmh
  have Gqu := ok_quickest lqu cqud lcqu hcqu KB BM T gfn kfn Gfn bfn gmh kmh Gmh bmh
  have Gco := ok_coldest lco ccod lcco hcco KB BM T gcd kcd Gcd bcd gmh kmh Gmh bmh
  have Gct := ok_coldTrips Fct gfn kfn Gfn bfn
  have GTx : GT P w K mg base CS CR CT CP pmi pqu pco := ⟨T, ⟨_, _, gta, kta, Gta, bta⟩, ⟨_, _, gat, kat, Gat, bat⟩, ⟨_, _, gfn, kfn, Gfn, bfn⟩, ⟨_, _, gmh, kmh, Gmh, bmh⟩, ⟨_, _, gcd, kcd, Gcd, bcd⟩, ⟨_, _, gmi, kmi, Gmi, bmi⟩, ⟨_, _, gqu, kqu, Gqu, bqu⟩, ⟨_, _, gco, kco, Gco, bco⟩, ⟨_, _, gft, kft, Gft, bft⟩, ⟨_, _, gct, kct, Gct, bct⟩⟩
  have Gwi := ok_within (P := P) (w := w) (K := K) (mg := mg) (base := base) Fwi
  have Gni := ok_doneInit (P := P) (w := w) (K := K) (mg := mg) (base := base) Fni D
  have Gb0 := ok_bookInit (P := P) (w := w) (K := K) (mg := mg) (base := base) Fb0 D
  have Gb1 := ok_addLoad (P := P) (w := w) (K := K) (mg := mg) (base := base) Fb1 D
  have Gb2 := ok_addDrop (P := P) (w := w) (K := K) (mg := mg) (base := base) Fb2 D
  have Gb3 := ok_litres (P := P) (w := w) (K := K) (mg := mg) (base := base) Fb3 D
  have Gb4 := ok_tenths (P := P) (w := w) (K := K) (mg := mg) (base := base) Fb4 D
  have Gd1 := ok_clearAll Fd1 T D Mri Gri bri Mb0 Gb0 bb0
  have Gd0 := ok_depotInit Fd0 D md1 Gd1 bd1
  have Gd2 := ok_begin Fd2 D md1 Gd1 bd1 gwi kwi Gwi bwi
  have Gd3 := ok_addStop Fd3 T D Msi Gsi bsi gwi kwi Gwi bwi
  have Gd4 := ok_changeWay Fd4 T D mhp Ghp bhp mbt Gbt bbt msm Gsm bsm
  have Gd5 := ok_rowRef Fd5 T D mhs Ghs bhs
  have Gd6 := ok_frostRow Fd6 D md5 Gd5 bd5
  have Gd7 := ok_loadUp Fd7 T D mb1 Gb1 bb1 md6 Gd6 bd6
  have Gd8 := ok_pass (P := P) (w := w) (K := K) (mg := mg) (base := base) Fd8 T D
  have Gd9 := ok_goTo Fd9 T D md8 Gd8 bd8 mbt Gbt bbt
  have Gd10 := ok_driveTo Fd10 T D md9 Gd9 bd9 md8 Gd8 bd8 gpo kpo Gpo bpo Mni Gni bni mb2 Gb2 bb2
  have Gd11 := ok_goBack Fd11 T D md9 Gd9 bd9
  have Gd12 := ok_waitHere Fd12 T D md8 Gd8 bd8 gwi kwi Gwi bwi
  have Gd13 := ok_tellNeed Fd13 GTx D md5 Gd5 bd5
  have Gd14 := ok_tellMild Fd14 GTx D md5 Gd5 bd5
  have Gd15 := ok_tellQuick Fd15 GTx D md6 Gd6 bd6
  have Gd16 := ok_tellMost Fd16 GTx D md6 Gd6 bd6
  have Gd17 := ok_tellDrops Fd17 GTx D md6 Gd6 bd6
  have Gd18 := ok_tripsLeft Fd18 GTx D
  have Gd19 := ok_tellNow Fd19 GTx D md18 Gd18 bd18
  have Gd20 := ok_tellLeft (P := P) (w := w) (K := K) (mg := mg) (base := base) Fd20 T D
  have Gd21 := ok_tellSlack Fd21 GTx D md18 Gd18 bd18
  have Gd22 := ok_tellMins Fd22 T D mhp Ghp bhp mbt Gbt bbt
  have Gd23 := ok_lookAt Fd23 T D mhs Ghs bhs
  have Gd24 := ok_tellDone (P := P) (w := w) (K := K) (mg := mg) (base := base) Fd24 T D
  have Gd25 := ok_tellWarm Fd25 T D mb4 Gb4 bb4
  have Gd26 := ok_tellSums Fd26 T D mb3 Gb3 bb3
  have Gd27 := ok_tellState (P := P) (w := w) (K := K) (mg := mg) (base := base) Fd27 T D
  have Gci := ok_callInit (P := P) (w := w) (K := K) (mg := mg) (base := base) Fci C
  have Grc := ok_readCall Frc C Mci Gci bci
  have ST := stab3 pmi pqu pco
  have Ga0 := ok_ABegin Fa0 D ST md2 Gd2 bd2
  have Ga1 := ok_AStop Fa1 D ST md3 Gd3 bd3
  have Ga2 := ok_AWay Fa2 D ST md4 Gd4 bd4
  have Ga3 := ok_ALoad Fa3 D ST md7 Gd7 bd7
  have Ga4 := ok_ADrive Fa4 D ST md10 Gd10 bd10
  have Ga5 := ok_ABack Fa5 D ST md11 Gd11 bd11
  have Ga6 := ok_AWait Fa6 D ST md12 Gd12 bd12
  have Ga7 := ok_ANeed Fa7 D ST md13 Gd13 bd13
  have Ga8 := ok_AMild Fa8 D n12 n13 n23 md14 Gd14 bd14
  have Ga9 := ok_AQuick Fa9 D n12 n13 n23 md15 Gd15 bd15
  have Ga10 := ok_AMost Fa10 D n12 n13 n23 md16 Gd16 bd16
  have Ga11 := ok_ADrops Fa11 D ST md17 Gd17 bd17
  have Ga12 := ok_ANow Fa12 D n12 n13 n23 md19 Gd19 bd19
  have Ga13 := ok_ALeft Fa13 D ST md20 Gd20 bd20
  have Ga14 := ok_ASlack Fa14 D n12 n13 n23 md21 Gd21 bd21
  have Ga15 := ok_AMins Fa15 D ST md22 Gd22 bd22
  have Ga16 := ok_ALook Fa16 D ST md23 Gd23 bd23
  have Ga17 := ok_ADone Fa17 D ST md24 Gd24 bd24
  have Ga18 := ok_AWarm Fa18 D ST md25 Gd25 bd25
  have Ga19 := ok_ASums Fa19 D ST md26 Gd26 bd26
  have Ga20 := ok_AState Fa20 D ST md27 Gd27 bd27
  have AA : TA P w K mg base CS CR CD CB CN AN (TB3 pmi pqu pco) := ⟨PySem.W.mg_of X G aAN, _, fun H => tupOf_ok hAN1 (refs_vals hAN2) H, fun q hq => match q, hq with
    | 0, _ => ⟨_, _, _, rfl, by decide, Ga0, ka0, ba0⟩
    | 1, _ => ⟨_, _, _, rfl, by decide, Ga1, ka1, ba1⟩
    | 2, _ => ⟨_, _, _, rfl, by decide, Ga2, ka2, ba2⟩
    | 3, _ => ⟨_, _, _, rfl, by decide, Ga3, ka3, ba3⟩
    | 4, _ => ⟨_, _, _, rfl, by decide, Ga4, ka4, ba4⟩
    | 5, _ => ⟨_, _, _, rfl, by decide, Ga5, ka5, ba5⟩
    | 6, _ => ⟨_, _, _, rfl, by decide, Ga6, ka6, ba6⟩
    | 7, _ => ⟨_, _, _, rfl, by decide, Ga7, ka7, ba7⟩
    | 8, _ => ⟨_, _, _, rfl, by decide, Ga8, ka8, ba8⟩
    | 9, _ => ⟨_, _, _, rfl, by decide, Ga9, ka9, ba9⟩
    | 10, _ => ⟨_, _, _, rfl, by decide, Ga10, ka10, ba10⟩
    | 11, _ => ⟨_, _, _, rfl, by decide, Ga11, ka11, ba11⟩
    | 12, _ => ⟨_, _, _, rfl, by decide, Ga12, ka12, ba12⟩
    | 13, _ => ⟨_, _, _, rfl, by decide, Ga13, ka13, ba13⟩
    | 14, _ => ⟨_, _, _, rfl, by decide, Ga14, ka14, ba14⟩
    | 15, _ => ⟨_, _, _, rfl, by decide, Ga15, ka15, ba15⟩
    | 16, _ => ⟨_, _, _, rfl, by decide, Ga16, ka16, ba16⟩
    | 17, _ => ⟨_, _, _, rfl, by decide, Ga17, ka17, ba17⟩
    | 18, _ => ⟨_, _, _, rfl, by decide, Ga18, ka18, ba18⟩
    | 19, _ => ⟨_, _, _, rfl, by decide, Ga19, ka19, ba19⟩
    | 20, _ => ⟨_, _, _, rfl, by decide, Ga20, ka20, ba20⟩
    | q + 21, h => absurd h (by omega)⟩
  have Gac := ok_answerCall Fac D C ST AA
  exact ok_answers Fan T D C ST Md0 (Gd0.mono (by decide)) bd0 grc krc Grc brc gac kac Gac bac
end CD
end

section
set_option Elab.async false
set_option linter.all false
namespace CD
open PySem PySem.Spec PyProof.Rows L2
theorem tab_T {p : Program} {loose : List Str} {mean : ExcName → Option Value} {mg mb : Str → Option Value} {h : Heap} {K : PySem.W.Frag} {d : DefRec} {x : Str} {Pt : Addr} (T : Top p loose mean mg mb h) (X : K.In h) (hr : (recsOf p).find? (fun e => e.name == x) = some d) (ht : (PySem.W.tabIn K x).map Prod.snd = some Pt) :
    ∃ c, PySem.W.CodeHd h c Pt ∧ h.TableAt c Pt #[] := by
  cases e : PySem.W.tabIn K x with
  | none => rw [e] at ht; cases ht
  | some cp =>
    rw [e] at ht
    obtain ⟨c, P'⟩ := cp
    have ht : P' = Pt := Option.some.inj ht
    subst ht
    obtain ⟨a, b⟩ := PySem.W.tab_of T X hr e
    exact ⟨c, a, a.tab b⟩
end CD
end
/-! Names that the head's search would give to its quick forms of nineteen large terms (the program's text, its view, the heaps between its pieces): taken ahead, so that it goes on with these terms as they are. Nothing leans on what stands here; the proofs of the quick forms alone would make the compiled text larger than a hand-in may be. -/
namespace PySem.W.Fast
def tw3395816086057386177 : Unit := ()
def tw7227901284893957861 : Unit := ()
def tw8831218857326360552 : Unit := ()
def tw10310511389556818377 : Unit := ()
def tw16337754794788090251 : Unit := ()
def tw1512973489466348046 : Unit := ()
def tw8891551605074006734 : Unit := ()
def tw10352730659365403984 : Unit := ()
def tw11371788485251705328 : Unit := ()
def tw6516461008201117905 : Unit := ()
def tw1340878624775659825 : Unit := ()
def tw2629374846914669457 : Unit := ()
def tw13223874507895401268 : Unit := ()
def tw13722263660499987989 : Unit := ()
def tw10094479342039379544 : Unit := ()
def tw3214450384578128536 : Unit := ()
def tw10590827947414214424 : Unit := ()
def tw3993267720660533050 : Unit := ()
def tw10586561613716509201 : Unit := ()
end PySem.W.Fast
open PySem PySem.W PyProof.Rows
set_option Elab.async false
set_option maxRecDepth 100000 in
set_option maxHeartbeats 0 in
theorem PySem.Challenge.cw_colddrops_s01_answers_holds : PySem.Challenge.rw_colddrops_s01_answers.Holds := by
  w_on; k_headS; (case hw => exact ⟨[.list [.int 20]], by decide +kernel, by decide +kernel⟩)
  k_fillS
  refine L2.walk_specT (r := PySem.Challenge.rw_colddrops_s01_answers) (k := 11) (tabs := [253, 265, 272]) (ps := ["calls"]) (sp := CD.spTop) (by decide +kernel) rfl rfl ⟨rfl, by decide, by decide⟩ (fun w h Y => PySem.W.kIn_of Y) ?T ?F ?S
  case F =>
    intro w mg fa h Y KX G hmg
    refine' CD.all_mk (P := PySem.Challenge.rw_colddrops_s01_answers.prog) (w := w) KX G hmg ?aCS ?pgCS ?hdCS ?poCS ?saCS ?mkCS ?kcCS ?nCS0 ?nCS1 ?nCS2 ?aCR ?pgCR ?hdCR ?poCR ?saCR ?mkCR ?kcCR ?nCR0 ?nCR1 ?nCR2 ?nCR3 ?aCT ?pgCT ?hdCT ?poCT ?saCT ?mkCT ?kcCT ?nCT0 ?nCT1 ?nCT2 ?nCT3 ?nCT4 ?aCP ?pgCP ?hdCP ?poCP ?saCP ?mkCP ?kcCP ?nCP0 ?nCP1 ?nCP2 ?aCD ?pgCD ?hdCD ?poCD ?saCD ?mkCD ?kcCD ?nCD0 ?nCD1 ?nCD2 ?nCD3 ?nCD4 ?nCD5 ?nCD6 ?nCD7 ?aCB ?pgCB ?hdCB ?poCB ?saCB ?mkCB ?kcCB ?nCB0 ?nCB1 ?aCN ?pgCN ?hdCN ?poCN ?saCN ?mkCN ?kcCN ?nCN0 ?nCN1 ?nCN2 ?nCN3 ?nCN4 ?aCC ?pgCC ?hdCC ?poCC ?saCC ?mkCC ?kcCC ?nCC0 ?nCC1 ?nCC2 ?nCC3 ?asi ?isi ?lsi ?csid ?ksi ?ari ?iri ?lri ?crid ?kri ?ahs ?ihs ?lhs ?chsd ?khs ?ahp ?ihp ?lhp ?chpd ?khp ?abt ?ibt ?lbt ?cbtd ?kbt ?asm ?ism ?lsm ?csmd ?ksm ?apo ?lpo ?cpod ?kpo ?api ?ipi ?lpi ?cpid ?kpi ?ati ?iti ?lti ?ctid ?kti ?atf ?ltf ?ctfd ?ktf ?atw ?ltw ?ctwd ?ktw ?ata ?lta ?ctad ?kta ?aat ?lat ?catd ?kat ?afn ?lfn ?cfnd ?kfn ?aft ?lft ?cftd ?kft ?amh ?lmh ?cmhd ?kmh ?acd ?lcd ?ccdd ?kcd ?ami ?lmi ?cmid ?kmi ?lcmi ?hcmi ?act ?lct ?cctd ?kct ?aqu ?lqu ?cqud ?kqu ?lcqu ?hcqu ?aco ?lco ?ccod ?kco ?lcco ?hcco ?awi ?lwi ?cwid ?kwi ?ani ?ini ?lni ?cnid ?kni ?ab0 ?ib0 ?lb0 ?cb0d ?kb0 ?ab1 ?ib1 ?lb1 ?cb1d ?kb1 ?ab2 ?ib2 ?lb2 ?cb2d ?kb2 ?ab3 ?ib3 ?lb3 ?cb3d ?kb3 ?ab4 ?ib4 ?lb4 ?cb4d ?kb4 ?ad0 ?id0 ?ld0 ?cd0d ?kd0 ?ad1 ?id1 ?ld1 ?cd1d ?kd1 ?ad2 ?id2 ?ld2 ?cd2d ?kd2 ?ad3 ?id3 ?ld3 ?cd3d ?kd3 ?ad4 ?id4 ?ld4 ?cd4d ?kd4 ?ad5 ?id5 ?ld5 ?cd5d ?kd5 ?ad6 ?id6 ?ld6 ?cd6d ?kd6 ?ad7 ?id7 ?ld7 ?cd7d ?kd7 ?ad8 ?id8 ?ld8 ?cd8d ?kd8 ?ad9 ?id9 ?ld9 ?cd9d ?kd9 ?ad10 ?id10 ?ld10 ?cd10d ?kd10 ?ad11 ?id11 ?ld11 ?cd11d ?kd11 ?ad12 ?id12 ?ld12 ?cd12d ?kd12 ?ad13 ?id13 ?ld13 ?cd13d ?kd13 ?ad14 ?id14 ?ld14 ?cd14d ?kd14 ?ad15 ?id15 ?ld15 ?cd15d ?kd15 ?ad16 ?id16 ?ld16 ?cd16d ?kd16 ?ad17 ?id17 ?ld17 ?cd17d ?kd17 ?ad18 ?id18 ?ld18 ?cd18d ?kd18 ?ad19 ?id19 ?ld19 ?cd19d ?kd19 ?ad20 ?id20 ?ld20 ?cd20d ?kd20 ?ad21 ?id21 ?ld21 ?cd21d ?kd21 ?ad22 ?id22 ?ld22 ?cd22d ?kd22 ?ad23 ?id23 ?ld23 ?cd23d ?kd23 ?ad24 ?id24 ?ld24 ?cd24d ?kd24 ?ad25 ?id25 ?ld25 ?cd25d ?kd25 ?ad26 ?id26 ?ld26 ?cd26d ?kd26 ?ad27 ?id27 ?ld27 ?cd27d ?kd27 ?aci ?ici ?lci ?ccid ?kci ?arc ?lrc ?crcd ?krc ?aa0 ?la0 ?ca0d ?ka0 ?aa1 ?la1 ?ca1d ?ka1 ?aa2 ?la2 ?ca2d ?ka2 ?aa3 ?la3 ?ca3d ?ka3 ?aa4 ?la4 ?ca4d ?ka4 ?aa5 ?la5 ?ca5d ?ka5 ?aa6 ?la6 ?ca6d ?ka6 ?aa7 ?la7 ?ca7d ?ka7 ?aa8 ?la8 ?ca8d ?ka8 ?aa9 ?la9 ?ca9d ?ka9 ?aa10 ?la10 ?ca10d ?ka10 ?aa11 ?la11 ?ca11d ?ka11 ?aa12 ?la12 ?ca12d ?ka12 ?aa13 ?la13 ?ca13d ?ka13 ?aa14 ?la14 ?ca14d ?ka14 ?aa15 ?la15 ?ca15d ?ka15 ?aa16 ?la16 ?ca16d ?ka16 ?aa17 ?la17 ?ca17d ?ka17 ?aa18 ?la18 ?ca18d ?ka18 ?aa19 ?la19 ?ca19d ?ka19 ?aa20 ?la20 ?ca20d ?ka20 ?aac ?lac ?cacd ?kac ?aan ?lan ?cand ?kan ?gWORKS ?gFIRST_WAY ?gNONE_SUCH ?gNOTHING ?gNOT_BEGUN ?gNOT_NOW ?gSO_ALREADY ?gOUT_OF_RANGE ?gTOO_MANY ?gCANNOT_BE ?gMOST_WAY_LOSS ?gMOST_DOOR_LOSS ?gMOST_ROOM ?gMOST_DOOR_MINUTES ?gMOST_FROST ?gMOST_LITRES ?gMOST_MINUTES ?gLONGEST_ROW ?gMOST_STOPS ?gBEGIN ?zlen ?zmax ?zmin ?zrange ?zset ?zsum ?zlist ?aSH ?aAN ?n12 ?n13 ?n23 ?hAN1 ?hAN2 ?hSH
    (case aCS => k_is)
    (case pgCS => k_is)
    (case hdCS => k_is)
    (case poCS => k_is)
    (case saCS => k_is)
    (case mkCS => k_is)
    (case kcCS => k_is)
    (case nCS0 => k_is)
    (case nCS1 => k_is)
    (case nCS2 => k_is)
    (case aCR => k_is)
    (case pgCR => k_is)
    (case hdCR => k_is)
    (case poCR => k_is)
    (case saCR => k_is)
    (case mkCR => k_is)
    (case kcCR => k_is)
    (case nCR0 => k_is)
    (case nCR1 => k_is)
    (case nCR2 => k_is)
    (case nCR3 => k_is)
    (case aCT => k_is)
    (case pgCT => k_is)
    (case hdCT => k_is)
    (case poCT => k_is)
    (case saCT => k_is)
    (case mkCT => k_is)
    (case kcCT => k_is)
    (case nCT0 => k_is)
    (case nCT1 => k_is)
    (case nCT2 => k_is)
    (case nCT3 => k_is)
    (case nCT4 => k_is)
    (case aCP => k_is)
    (case pgCP => k_is)
    (case hdCP => k_is)
    (case poCP => k_is)
    (case saCP => k_is)
    (case mkCP => k_is)
    (case kcCP => k_is)
    (case nCP0 => k_is)
    (case nCP1 => k_is)
    (case nCP2 => k_is)
    (case aCD => k_is)
    (case pgCD => k_is)
    (case hdCD => k_is)
    (case poCD => k_is)
    (case saCD => k_is)
    (case mkCD => k_is)
    (case kcCD => k_is)
    (case nCD0 => k_is)
    (case nCD1 => k_is)
    (case nCD2 => k_is)
    (case nCD3 => k_is)
    (case nCD4 => k_is)
    (case nCD5 => k_is)
    (case nCD6 => k_is)
    (case nCD7 => k_is)
    (case aCB => k_is)
    (case pgCB => k_is)
    (case hdCB => k_is)
    (case poCB => k_is)
    (case saCB => k_is)
    (case mkCB => k_is)
    (case kcCB => k_is)
    (case nCB0 => k_is)
    (case nCB1 => k_is)
    (case aCN => k_is)
    (case pgCN => k_is)
    (case hdCN => k_is)
    (case poCN => k_is)
    (case saCN => k_is)
    (case mkCN => k_is)
    (case kcCN => k_is)
    (case nCN0 => k_is)
    (case nCN1 => k_is)
    (case nCN2 => k_is)
    (case nCN3 => k_is)
    (case nCN4 => k_is)
    (case aCC => k_is)
    (case pgCC => k_is)
    (case hdCC => k_is)
    (case poCC => k_is)
    (case saCC => k_is)
    (case mkCC => k_is)
    (case kcCC => k_is)
    (case nCC0 => k_is)
    (case nCC1 => k_is)
    (case nCC2 => k_is)
    (case nCC3 => k_is)
    (case asi => k_is)
    (case isi => k_is)
    (case lsi => k_is)
    (case csid => k_is)
    (case ksi => k_is)
    (case ari => k_is)
    (case iri => k_is)
    (case lri => k_is)
    (case crid => k_is)
    (case kri => k_is)
    (case ahs => k_is)
    (case ihs => k_is)
    (case lhs => k_is)
    (case chsd => k_is)
    (case khs => k_is)
    (case ahp => k_is)
    (case ihp => k_is)
    (case lhp => k_is)
    (case chpd => k_is)
    (case khp => k_is)
    (case abt => k_is)
    (case ibt => k_is)
    (case lbt => k_is)
    (case cbtd => k_is)
    (case kbt => k_is)
    (case asm => k_is)
    (case ism => k_is)
    (case lsm => k_is)
    (case csmd => k_is)
    (case ksm => k_is)
    (case apo => k_is)
    (case lpo => k_is)
    (case cpod => k_is)
    (case kpo => k_is)
    (case api => k_is)
    (case ipi => k_is)
    (case lpi => k_is)
    (case cpid => k_is)
    (case kpi => k_is)
    (case ati => k_is)
    (case iti => k_is)
    (case lti => k_is)
    (case ctid => k_is)
    (case kti => k_is)
    (case atf => k_is)
    (case ltf => k_is)
    (case ctfd => k_is)
    (case ktf => k_is)
    (case atw => k_is)
    (case ltw => k_is)
    (case ctwd => k_is)
    (case ktw => k_is)
    (case ata => k_is)
    (case lta => k_is)
    (case ctad => k_is)
    (case kta => k_is)
    (case aat => k_is)
    (case lat => k_is)
    (case catd => k_is)
    (case kat => k_is)
    (case afn => k_is)
    (case lfn => k_is)
    (case cfnd => k_is)
    (case kfn => k_is)
    (case aft => k_is)
    (case lft => k_is)
    (case cftd => k_is)
    (case kft => k_is)
    (case amh => k_is)
    (case lmh => k_is)
    (case cmhd => k_is)
    (case kmh => k_is)
    (case acd => k_is)
    (case lcd => k_is)
    (case ccdd => k_is)
    (case kcd => k_is)
    (case ami => k_is)
    (case lmi => k_is)
    (case cmid => k_is)
    (case kmi => k_is)
    (case lcmi => k_is)
    (case hcmi => rfl)
    (case act => k_is)
    (case lct => k_is)
    (case cctd => k_is)
    (case kct => k_is)
    (case aqu => k_is)
    (case lqu => k_is)
    (case cqud => k_is)
    (case kqu => k_is)
    (case lcqu => k_is)
    (case hcqu => rfl)
    (case aco => k_is)
    (case lco => k_is)
    (case ccod => k_is)
    (case kco => k_is)
    (case lcco => k_is)
    (case hcco => rfl)
    (case awi => k_is)
    (case lwi => k_is)
    (case cwid => k_is)
    (case kwi => k_is)
    (case ani => k_is)
    (case ini => k_is)
    (case lni => k_is)
    (case cnid => k_is)
    (case kni => k_is)
    (case ab0 => k_is)
    (case ib0 => k_is)
    (case lb0 => k_is)
    (case cb0d => k_is)
    (case kb0 => k_is)
    (case ab1 => k_is)
    (case ib1 => k_is)
    (case lb1 => k_is)
    (case cb1d => k_is)
    (case kb1 => k_is)
    (case ab2 => k_is)
    (case ib2 => k_is)
    (case lb2 => k_is)
    (case cb2d => k_is)
    (case kb2 => k_is)
    (case ab3 => k_is)
    (case ib3 => k_is)
    (case lb3 => k_is)
    (case cb3d => k_is)
    (case kb3 => k_is)
    (case ab4 => k_is)
    (case ib4 => k_is)
    (case lb4 => k_is)
    (case cb4d => k_is)
    (case kb4 => k_is)
    (case ad0 => k_is)
    (case id0 => k_is)
    (case ld0 => k_is)
    (case cd0d => k_is)
    (case kd0 => k_is)
    (case ad1 => k_is)
    (case id1 => k_is)
    (case ld1 => k_is)
    (case cd1d => k_is)
    (case kd1 => k_is)
    (case ad2 => k_is)
    (case id2 => k_is)
    (case ld2 => k_is)
    (case cd2d => k_is)
    (case kd2 => k_is)
    (case ad3 => k_is)
    (case id3 => k_is)
    (case ld3 => k_is)
    (case cd3d => k_is)
    (case kd3 => k_is)
    (case ad4 => k_is)
    (case id4 => k_is)
    (case ld4 => k_is)
    (case cd4d => k_is)
    (case kd4 => k_is)
    (case ad5 => k_is)
    (case id5 => k_is)
    (case ld5 => k_is)
    (case cd5d => k_is)
    (case kd5 => k_is)
    (case ad6 => k_is)
    (case id6 => k_is)
    (case ld6 => k_is)
    (case cd6d => k_is)
    (case kd6 => k_is)
    (case ad7 => k_is)
    (case id7 => k_is)
    (case ld7 => k_is)
    (case cd7d => k_is)
    (case kd7 => k_is)
    (case ad8 => k_is)
    (case id8 => k_is)
    (case ld8 => k_is)
    (case cd8d => k_is)
    (case kd8 => k_is)
    (case ad9 => k_is)
    (case id9 => k_is)
    (case ld9 => k_is)
    (case cd9d => k_is)
    (case kd9 => k_is)
    (case ad10 => k_is)
    (case id10 => k_is)
    (case ld10 => k_is)
    (case cd10d => k_is)
    (case kd10 => k_is)
    (case ad11 => k_is)
    (case id11 => k_is)
    (case ld11 => k_is)
    (case cd11d => k_is)
    (case kd11 => k_is)
    (case ad12 => k_is)
    (case id12 => k_is)
    (case ld12 => k_is)
    (case cd12d => k_is)
    (case kd12 => k_is)
    (case ad13 => k_is)
    (case id13 => k_is)
    (case ld13 => k_is)
    (case cd13d => k_is)
    (case kd13 => k_is)
    (case ad14 => k_is)
    (case id14 => k_is)
    (case ld14 => k_is)
    (case cd14d => k_is)
    (case kd14 => k_is)
    (case ad15 => k_is)
    (case id15 => k_is)
    (case ld15 => k_is)
    (case cd15d => k_is)
    (case kd15 => k_is)
    (case ad16 => k_is)
    (case id16 => k_is)
    (case ld16 => k_is)
    (case cd16d => k_is)
    (case kd16 => k_is)
    (case ad17 => k_is)
    (case id17 => k_is)
    (case ld17 => k_is)
    (case cd17d => k_is)
    (case kd17 => k_is)
    (case ad18 => k_is)
    (case id18 => k_is)
    (case ld18 => k_is)
    (case cd18d => k_is)
    (case kd18 => k_is)
    (case ad19 => k_is)
    (case id19 => k_is)
    (case ld19 => k_is)
    (case cd19d => k_is)
    (case kd19 => k_is)
    (case ad20 => k_is)
    (case id20 => k_is)
    (case ld20 => k_is)
    (case cd20d => k_is)
    (case kd20 => k_is)
    (case ad21 => k_is)
    (case id21 => k_is)
    (case ld21 => k_is)
    (case cd21d => k_is)
    (case kd21 => k_is)
    (case ad22 => k_is)
    (case id22 => k_is)
    (case ld22 => k_is)
    (case cd22d => k_is)
    (case kd22 => k_is)
    (case ad23 => k_is)
    (case id23 => k_is)
    (case ld23 => k_is)
    (case cd23d => k_is)
    (case kd23 => k_is)
    (case ad24 => k_is)
    (case id24 => k_is)
    (case ld24 => k_is)
    (case cd24d => k_is)
    (case kd24 => k_is)
    (case ad25 => k_is)
    (case id25 => k_is)
    (case ld25 => k_is)
    (case cd25d => k_is)
    (case kd25 => k_is)
    (case ad26 => k_is)
    (case id26 => k_is)
    (case ld26 => k_is)
    (case cd26d => k_is)
    (case kd26 => k_is)
    (case ad27 => k_is)
    (case id27 => k_is)
    (case ld27 => k_is)
    (case cd27d => k_is)
    (case kd27 => k_is)
    (case aci => k_is)
    (case ici => k_is)
    (case lci => k_is)
    (case ccid => k_is)
    (case kci => k_is)
    (case arc => k_is)
    (case lrc => k_is)
    (case crcd => k_is)
    (case krc => k_is)
    (case aa0 => k_is)
    (case la0 => k_is)
    (case ca0d => k_is)
    (case ka0 => k_is)
    (case aa1 => k_is)
    (case la1 => k_is)
    (case ca1d => k_is)
    (case ka1 => k_is)
    (case aa2 => k_is)
    (case la2 => k_is)
    (case ca2d => k_is)
    (case ka2 => k_is)
    (case aa3 => k_is)
    (case la3 => k_is)
    (case ca3d => k_is)
    (case ka3 => k_is)
    (case aa4 => k_is)
    (case la4 => k_is)
    (case ca4d => k_is)
    (case ka4 => k_is)
    (case aa5 => k_is)
    (case la5 => k_is)
    (case ca5d => k_is)
    (case ka5 => k_is)
    (case aa6 => k_is)
    (case la6 => k_is)
    (case ca6d => k_is)
    (case ka6 => k_is)
    (case aa7 => k_is)
    (case la7 => k_is)
    (case ca7d => k_is)
    (case ka7 => k_is)
    (case aa8 => k_is)
    (case la8 => k_is)
    (case ca8d => k_is)
    (case ka8 => k_is)
    (case aa9 => k_is)
    (case la9 => k_is)
    (case ca9d => k_is)
    (case ka9 => k_is)
    (case aa10 => k_is)
    (case la10 => k_is)
    (case ca10d => k_is)
    (case ka10 => k_is)
    (case aa11 => k_is)
    (case la11 => k_is)
    (case ca11d => k_is)
    (case ka11 => k_is)
    (case aa12 => k_is)
    (case la12 => k_is)
    (case ca12d => k_is)
    (case ka12 => k_is)
    (case aa13 => k_is)
    (case la13 => k_is)
    (case ca13d => k_is)
    (case ka13 => k_is)
    (case aa14 => k_is)
    (case la14 => k_is)
    (case ca14d => k_is)
    (case ka14 => k_is)
    (case aa15 => k_is)
    (case la15 => k_is)
    (case ca15d => k_is)
    (case ka15 => k_is)
    (case aa16 => k_is)
    (case la16 => k_is)
    (case ca16d => k_is)
    (case ka16 => k_is)
    (case aa17 => k_is)
    (case la17 => k_is)
    (case ca17d => k_is)
    (case ka17 => k_is)
    (case aa18 => k_is)
    (case la18 => k_is)
    (case ca18d => k_is)
    (case ka18 => k_is)
    (case aa19 => k_is)
    (case la19 => k_is)
    (case ca19d => k_is)
    (case ka19 => k_is)
    (case aa20 => k_is)
    (case la20 => k_is)
    (case ca20d => k_is)
    (case ka20 => k_is)
    (case aac => k_is)
    (case lac => k_is)
    (case cacd => k_is)
    (case kac => k_is)
    (case aan => k_is)
    (case lan => k_is)
    (case cand => k_is)
    (case kan => k_is)
    (case gWORKS => k_is)
    (case gFIRST_WAY => k_is)
    (case gNONE_SUCH => k_is)
    (case gNOTHING => k_is)
    (case gNOT_BEGUN => k_is)
    (case gNOT_NOW => k_is)
    (case gSO_ALREADY => k_is)
    (case gOUT_OF_RANGE => k_is)
    (case gTOO_MANY => k_is)
    (case gCANNOT_BE => k_is)
    (case gMOST_WAY_LOSS => k_is)
    (case gMOST_DOOR_LOSS => k_is)
    (case gMOST_ROOM => k_is)
    (case gMOST_DOOR_MINUTES => k_is)
    (case gMOST_FROST => k_is)
    (case gMOST_LITRES => k_is)
    (case gMOST_MINUTES => k_is)
    (case gLONGEST_ROW => k_is)
    (case gMOST_STOPS => k_is)
    (case gBEGIN => k_is)
    (case zlen => k_is)
    (case zmax => k_is)
    (case zmin => k_is)
    (case zrange => k_is)
    (case zset => k_is)
    (case zsum => k_is)
    (case zlist => k_is)
    (case aSH => k_is)
    (case aAN => k_is)
    (case n12 => decide)
    (case n13 => decide)
    (case n23 => decide)
    (case hAN1 => rfl)
    (case hAN2 => rfl)
    (case hSH => exact CD.shapes_ok rfl rfl (by kernel_rfl))
  case T =>
    intro w s0 mg mb h G KX P hP
    simp only [List.mem_cons, List.not_mem_nil, or_false] at hP
    rcases hP with rfl | rfl | rfl
    · exact ⟨by kernel_rfl, CD.tab_T (x := "mildest") G.T KX rfl (by kernel_rfl)⟩
    · exact ⟨by kernel_rfl, CD.tab_T (x := "quickest") G.T KX rfl (by kernel_rfl)⟩
    · exact ⟨by kernel_rfl, CD.tab_T (x := "coldest") G.T KX rfl (by kernel_rfl)⟩
  case S => exact fun K H xs a hO hwi hask hx => CD.top_S _ _ _ K H xs a hO hwi hask hx

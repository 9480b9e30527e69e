import PyProof.Rows.All
import Wide.All
import OpenK.AllK
import Wide.FinOn
import PyProof.EqAt
import PyProof.EqKinds
import PyProof.TupleCall
import KE.BitLaws
import Open.SpecLaws
import KE.OsHead
import KE.OsGo
import PySem.Challenge.RW_assemblyhall_s01_answers
import PySi50
set_option Elab.async false
set_option linter.all false
section
set_option Elab.async false
set_option linter.all false
set_option maxRecDepth 100000
namespace L2
open PySem PySem.Spec PyProof.Rows

/-- a key: an int or a str -/
abbrev Key := Sum Int Str
def keyIs : Key → Value → Bool
  | .inl k, v => Value.isInt k v
  | .inr x, v => Value.isStrOf x v
def keyH (w : World) : Key → Int
  | .inl k => hashInt k
  | .inr x => hashStr w x
theorem keyIs_shape : ∀ {k : Key} {v : Value}, keyIs k v = true → (∃ i t, k = Sum.inl i ∧ v = Value.int i t) ∨ (∃ x t, k = Sum.inr x ∧ v = Value.str x t)
  | .inl i, v, h => by
    obtain ⟨t, e⟩ := Value.isInt_shape (k := i) (v := v) h
    exact .inl ⟨i, t, rfl, e⟩
  | .inr x, v, h => by
    obtain ⟨t, e⟩ := Value.isStrOf_shape (x := x) (v := v) h
    exact .inr ⟨x, t, rfl, e⟩
theorem keyIs_int (i : Int) (t : Tok) : keyIs (.inl i) (.int i t) = true := by simp [keyIs, Value.isInt]
theorem keyIs_str (x : Str) (t : Tok) : keyIs (.inr x) (.str x t) = true := by simp [keyIs, Value.isStrOf]
theorem key_ll (a b : Int) : decide ((Sum.inl a : Key) = Sum.inl b) = (a == b) := by
  by_cases e : a = b
  · subst e; simp
  · have h : ¬ (Sum.inl a : Key) = Sum.inl b := fun q => e (Sum.inl.inj q)
    rw [decide_eq_false h]
    exact (beq_eq_false_iff_ne.mpr e).symm
theorem key_rr (a b : Str) : decide ((Sum.inr a : Key) = Sum.inr b) = decide (a = b) := by
  by_cases e : a = b
  · subst e; simp
  · have h : ¬ (Sum.inr a : Key) = Sum.inr b := fun q => e (Sum.inr.inj q)
    rw [decide_eq_false h, decide_eq_false e]
theorem key_lr (a : Int) (b : Str) : decide ((Sum.inl a : Key) = Sum.inr b) = false := decide_eq_false (fun q => nomatch q)
theorem key_rl (a : Str) (b : Int) : decide ((Sum.inr a : Key) = Sum.inl b) = false := decide_eq_false (fun q => nomatch q)

def mixKind (prog : Program) (w : World) : PySem.KeyKind prog w Key where
  is := keyIs
  hash := keyH w
  inj := fun v a b ha hb => by
    rcases keyIs_shape ha with ⟨i, t, rfl, rfl⟩ | ⟨x, t, rfl, rfl⟩
    · rcases keyIs_shape hb with ⟨j, u, rfl, e⟩ | ⟨y, u, rfl, e⟩
      · injection e with e1 _; rw [e1]
      · exact nomatch e
    · rcases keyIs_shape hb with ⟨j, u, rfl, e⟩ | ⟨y, u, rfl, e⟩
      · exact nomatch e
      · injection e with e1 _; rw [e1]
  byValue := fun k v h => by
    rcases keyIs_shape h with ⟨i, t, rfl, rfl⟩ | ⟨x, t, rfl, rfl⟩ <;> rfl
  pyHash := fun hv h => by
    rcases keyIs_shape hv with ⟨i, t, rfl, rfl⟩ | ⟨x, t, rfl, rfl⟩
    · exact wpAny_pyHash_int h
    · exact wpAny_pyHash_str h
  eqBool := fun hu hv h => by
    rcases keyIs_shape hu with ⟨i, t, rfl, rfl⟩ | ⟨x, t, rfl, rfl⟩
    · rcases keyIs_shape hv with ⟨j, u, rfl, rfl⟩ | ⟨y, u, rfl, rfl⟩
      · rw [key_ll] at h; exact wpAny_eqBool_int h
      · rw [key_lr] at h; exact SeqAt.EqAt.int_str i t y u _ _ _ _ h
    · rcases keyIs_shape hv with ⟨j, u, rfl, rfl⟩ | ⟨y, u, rfl, rfl⟩
      · rw [key_rl] at h; exact SeqAt.EqAt.str_int x t j u _ _ _ _ h
      · rw [key_rr] at h; exact wpAny_eqBool_str h
  «strs» := fun k x t v h => by
    rcases keyIs_shape h with ⟨i, u, rfl, e⟩ | ⟨y, u, rfl, e⟩
    · exact nomatch e
    · injection e with e1 _
      subst e1
      cases v <;> rfl

theorem mixKind_int (prog : Program) (w : World) (i : Int) (t : Tok) : (mixKind prog w).is (.inl i) (.int i t) = true := keyIs_int i t
theorem mixKind_str (prog : Program) (w : World) (x : Str) (t : Tok) : (mixKind prog w).is (.inr x) (.str x t) = true := keyIs_str x t
end L2

namespace L2
open PySem PySem.Spec PyProof.Rows

/-- a value, without the heap -/
inductive V where
  | non | bl (b : Bool) | int (i : Int) | str (x : Str) | byt (b : Array UInt8) | flt (b : UInt64) | ref (a : Addr) | ty (n : String)
  deriving DecidableEq

def RelV : V → Value → Prop
  | .non, u => u = Value.none
  | .bl b, u => u = Value.bool b
  | .int i, u => ∃ t, u = Value.int i t
  | .str x, u => ∃ t, u = Value.str x t
  | .byt b, u => ∃ t, u = Value.bytes b t
  | .flt b, u => ∃ t, u = Value.float b t
  | .ref a, u => u = Value.ref a
  | .ty n, u => u = Value.type n

abbrev Vals : List V → List Value → Prop := Paired RelV
theorem Vals.length {xs : List V} {us : List Value} (r : Vals xs us) : xs.length = us.length := Paired.length r
theorem Vals.get : ∀ {xs : List V} {us : List Value} {i : Nat} {x : V}, Vals xs us → xs[i]? = some x → ∃ u, us[i]? = some u ∧ RelV x u
  | _, _, _, _, .nil, e => by simp at e
  | _, _, 0, _, .cons r _, e => by simp at e; subst e; exact ⟨_, rfl, r⟩
  | _, _, i + 1, x, .cons _ t, e => by
    obtain ⟨u, h1, h2⟩ := Vals.get (i := i) (x := x) t (by simpa using e)
    exact ⟨u, by simpa using h1, h2⟩
theorem Vals.set {x : V} {u : Value} (r : RelV x u) : ∀ {xs : List V} {us : List Value} (i : Nat), Vals xs us → Vals (xs.set i x) (us.set i u)
  | _, _, _, .nil => .nil
  | _, _, 0, .cons _ t => .cons r t
  | _, _, i + 1, .cons q t => .cons q (Vals.set r i t)
theorem Vals.append : ∀ {xs ys : List V} {us ws : List Value}, Vals xs us → Vals ys ws → Vals (xs ++ ys) (us ++ ws)
  | _, _, _, _, .nil, s => s
  | _, _, _, _, .cons r t, s => .cons r (Vals.append t s)
theorem Vals.take : ∀ {xs : List V} {us : List Value} (n : Nat), Vals xs us → Vals (xs.take n) (us.take n)
  | _, _, 0, _ => .nil
  | _, _, _ + 1, .nil => .nil
  | _, _, n + 1, .cons r t => .cons r (Vals.take n t)
theorem Vals.drop : ∀ {xs : List V} {us : List Value} (n : Nat), Vals xs us → Vals (xs.drop n) (us.drop n)
  | _, _, 0, r => r
  | _, _, _ + 1, .nil => .nil
  | _, _, n + 1, .cons _ t => Vals.drop n t

def RelO : Option V → Option Value → Prop
  | some v, some u => RelV v u
  | none, none => True
  | _, _ => False
def KV {κ : Type} : List (κ × V) → List (κ × Value) → Prop := Paired fun (p : κ × V) (q : κ × Value) => p.1 = q.1 ∧ RelV p.2 q.2

/-- a key of a dict (00_mix): an int or a text -/
def kV : Key → V
  | .inl i => .int i
  | .inr x => .str x

/-- what stands at a tracked address -/
inductive HO where
  /-- a list -/
  | lst (xs : List V)
  /-- a tuple (never changes) -/
  | tup (xs : List V)
  /-- a dict whose keys are ints and texts; one whose keys are tuples of ints and texts (the empty one is both) -/
  | dK (kvs : List (Key × V)) | dT (kvs : List (List Key × V))
  /-- a set of ints: its members, its size -/
  | set (S : Int → Bool) (n : Nat)
  /-- an instance of the class at C, its dict at dx, its attributes -/
  | ins (C dx : Addr) (fs : List (Str × V))
  /-- the dict of the instance at x -/
  | own (x : Addr)
  /-- the dict of an exception -/
  | xd (fs : List (Str × V))
  /-- a bound method, f of x -/
  | met (f x : Addr)
  /-- a range object lo, lo + 1, .. below hi -/
  | rng (lo hi : Int)
  /-- a thing that is known to the object (the script; a dict while a loop walks it): read, never written while it is so -/
  | frz (o : Obj) (u : HO)
  /-- a code object's table -/
  | tbl (ps : Array Value)
  /-- any other thing, by what is true of its one object (a def of one's own: SetO a S n := HO.ext fun h => ..) -/
  | ext (φ : Heap → Prop)

abbrev Hp := Addr → Option HO
def upd (H : Hp) (a : Addr) (o : HO) : Hp := fun b => if b = a then some o else H b
theorem upd_same {H : Hp} {a : Addr} {o : HO} : upd H a o a = some o := by unfold upd; rw [if_pos rfl]
theorem upd_ne {H : Hp} {a b : Addr} {o : HO} (h : b ≠ a) : upd H a o b = H b := by unfold upd; rw [if_neg h]
theorem upd_upd {H : Hp} {a : Addr} {o u : HO} : upd (upd H a o) a u = upd H a u := by
  funext b; unfold upd; split <;> rfl
/-- two objects of different content stand apart -/
theorem ne_of {H : Hp} {a b : Addr} {o u : HO} (h : H a = some o) (h' : H b = some u) (d : o ≠ u) : a ≠ b := by
  intro e; subst e; rw [h] at h'; exact d (Option.some.inj h')
theorem ne_of_none {H : Hp} {a b : Addr} {o : HO} (h : H a = some o) (h' : H b = none) : a ≠ b := by
  intro e; subst e; rw [h] at h'; cases h'

section
variable (P : Program) (w : World)
def ObjOk (H : Hp) (h : Heap) (a : Addr) : HO → Prop
  | .lst xs => xs.length ≤ sizeLine ∧ ∃ (its : List Value) (n : Nat), Vals xs its ∧ h.get? a = some { cls := .type "list", data := .seq its.toArray n }
  | .tup xs => xs.length ≤ sizeLine ∧ ∃ its : List Value, Vals xs its ∧ IsTup h a its.toArray
  | .dK kvs => kvs.length ≤ sizeLine ∧ (a == sysModules) = false ∧ ∃ vs, KV kvs vs ∧ h.DictOf (mixKind P w) a vs
  | .dT kvs => kvs.length ≤ sizeLine ∧ (a == sysModules) = false ∧ ∃ xs : List (List Key × Addr × Value),
      Paired (fun (p : List Key × V) (q : List Key × Addr × Value) => p.1 = q.1 ∧ H q.2.1 = some (.tup (p.1.map kV)) ∧ RelV p.2 q.2.2) kvs xs ∧
      ∃ o es ep, h.get? a = some o ∧ o.ExactDict ∧ o.data = .dict es ep ∧ es.toList = xs.map (entryOfKey (tupleKind (mixKind P w))) ∧ (xs.map (·.1)).Nodup
  | .set S n => h.SetOf (intKind P w) a S n
  | .ins C dx fs => H dx = some (.own a) ∧ fs.length ≤ 1000 ∧ dx ≠ a ∧ h.get? a = some (PySem.W.instObj C dx) ∧
      ∃ mA, h.Ns1 dx mA ∧ (∀ f, RelO (fs.lookup f) (mA f)) ∧ PySem.Within mA (fs.map (·.1))
  | .own _ => ∃ o, h.get? a = some o
  | .xd fs => ∃ mA, h.Ns1 a mA ∧ ∀ f, RelO (fs.lookup f) (mA f)
  | .rng lo hi => ∃ t u v, h.get? a = some { cls := .type "range", data := .fields #[.int lo t, .int hi u, .int 1 v] }
  | .frz o u => h.get? a = some o ∧ ObjOk H h a u
  | .tbl ps => h.get? a = some { cls := .none, data := .fields ps }
  | .met f x => h.get? a = some (PySem.W.methodObj (.ref f) (.ref x))
  | .ext φ => φ h ∧ (∃ o, h.get? a = some o) ∧ ∀ h1 h2 : Heap, φ h1 → (∀ o, h1.get? a = some o → h2.get? a = some o) → φ h2
/-- the abstract heap is held -/
def HOk (H : Hp) (h : Heap) : Prop := ∀ a o, H a = some o → ObjOk P w H h a o
end

section
variable {P : Program} {w : World} {H H' : Hp} {h h' : Heap} {a : Addr} {o : HO}
theorem ObjOk.lt (x : ObjOk P w H h a o) : a < h.objs.size := by
  cases o with
  | lst xs => obtain ⟨_, _, _, _, e⟩ := x; exact Heap.lt_size e
  | tup xs => obtain ⟨_, _, _, p⟩ := x; exact p.lt
  | dK kvs => obtain ⟨_, _, _, _, o, _, _, e, _⟩ := x; exact Heap.lt_size e
  | dT kvs => obtain ⟨_, _, _, _, o, _, _, e, _⟩ := x; exact Heap.lt_size e
  | set S n => obtain ⟨o, _, _, _, e, _⟩ := x; exact Heap.lt_size e
  | ins C dx fs => obtain ⟨_, _, _, e, _⟩ := x; exact Heap.lt_size e
  | own y => obtain ⟨_, e⟩ := x; exact Heap.lt_size e
  | xd fs => obtain ⟨_, ⟨_, _, _, e, _⟩, _⟩ := x; exact Heap.lt_size e
  | rng lo hi => obtain ⟨_, _, _, e⟩ := x; exact Heap.lt_size e
  | frz ob u => obtain ⟨e, _⟩ := x; exact Heap.lt_size e
  | tbl ps => exact Heap.lt_size (show h.get? a = some _ from x)
  | met f y => exact Heap.lt_size (show h.get? a = some _ from x)
  | ext φ => obtain ⟨_, ⟨_, e⟩, _⟩ := x; exact Heap.lt_size e
theorem Paired.mapP {α β : Type} {F G : α → β → Prop} : ∀ {l₁ : List α} {l₂ : List β}, Paired F l₁ l₂ → (∀ a b, F a b → G a b) → Paired G l₁ l₂
  | _, _, .nil, _ => .nil
  | _, _, .cons r t, f => .cons (f _ _ r) (Paired.mapP t f)
/-- what an object's description leans on: its own object, its own dict, the tuples -/
theorem ObjOk.stay (x : ObjOk P w H h a o) (k : ∀ b u, (b = a ∨ H b = some (.own a)) → h.get? b = some u → h'.get? b = some u)
    (ho : ∀ b, H b = some (.own a) → H' b = some (.own a)) (ht : ∀ b xs, H b = some (.tup xs) → H' b = some (.tup xs)) : ObjOk P w H' h' a o := by
  induction o with
  | lst xs => obtain ⟨z, its, n, r, e⟩ := x; exact ⟨z, its, n, r, k _ _ (.inl rfl) e⟩
  | tup xs => obtain ⟨z, its, r, ob, e, c⟩ := x; exact ⟨z, its, r, ob, k _ _ (.inl rfl) e, c⟩
  | dK kvs => obtain ⟨z, y, vs, r, ob, es, ep, e, c⟩ := x; exact ⟨z, y, vs, r, ob, es, ep, k _ _ (.inl rfl) e, c⟩
  | dT kvs =>
    obtain ⟨z, y, xs, r, ob, es, ep, e, c⟩ := x
    exact ⟨z, y, xs, Paired.mapP r fun p q z => ⟨z.1, ht _ _ z.2.1, z.2.2⟩, ob, es, ep, k _ _ (.inl rfl) e, c⟩
  | set S n => obtain ⟨ob, es, ep, t, e, c⟩ := x; exact ⟨ob, es, ep, t, k _ _ (.inl rfl) e, c⟩
  | ins C dx fs =>
    obtain ⟨d, z, ne, e, mA, ⟨od, es, ep, e2, c⟩, r⟩ := x
    exact ⟨ho _ d, z, ne, k _ _ (.inl rfl) e, mA, ⟨od, es, ep, k _ _ (.inr d) e2, c⟩, r⟩
  | own y => obtain ⟨ob, e⟩ := x; exact ⟨ob, k _ _ (.inl rfl) e⟩
  | xd fs => obtain ⟨mA, ⟨od, es, ep, e, c⟩, r⟩ := x; exact ⟨mA, ⟨od, es, ep, k _ _ (.inl rfl) e, c⟩, r⟩
  | rng lo hi => obtain ⟨t, u, v, e⟩ := x; exact ⟨t, u, v, k _ _ (.inl rfl) e⟩
  | frz ob u ih => obtain ⟨e, q⟩ := x; exact ⟨k _ _ (.inl rfl) e, ih q⟩
  | tbl ps =>
    have e : h.get? a = some { cls := .none, data := .fields ps } := x
    show h'.get? a = some { cls := .none, data := .fields ps }
    exact k a _ (.inl rfl) e
  | met f y =>
    have e : h.get? a = some (PySem.W.methodObj (.ref f) (.ref y)) := x
    show h'.get? a = some (PySem.W.methodObj (.ref f) (.ref y))
    exact k a _ (.inl rfl) e
  | ext φ => obtain ⟨p, ⟨o, e⟩, st⟩ := x; exact ⟨st _ _ p fun o q => k _ _ (.inl rfl) q, ⟨o, k _ _ (.inl rfl) e⟩, st⟩
theorem HOk.lt (x : HOk P w H h) (e : H a = some o) : a < h.objs.size := (x a o e).lt
theorem HOk.fresh (x : HOk P w H h) (e : h.objs.size ≤ a) : H a = none := by
  cases q : H a with
  | none => rfl
  | some u => exact absurd (Nat.lt_of_lt_of_le (x.lt q) e) (Nat.lt_irrefl _)
/-- every object of the heap is kept -/
theorem HOk.kept (x : HOk P w H h) (k : ∀ b u, h.get? b = some u → h'.get? b = some u) : HOk P w H h' := fun a o e =>
  (x a o e).stay (fun b u _ q => k b u q) (fun _ q => q) fun _ _ q => q
/-- a new object is laid and tracked -/
theorem HOk.laid (x : HOk P w H h) (k : ∀ b u, h.get? b = some u → h'.get? b = some u) (hp : h.objs.size ≤ a) (new : ObjOk P w (upd H a o) h' a o) : HOk P w (upd H a o) h' := fun b u e => by
  have hn := x.fresh hp
  by_cases hb : b = a
  · subst hb; rw [upd_same] at e; cases e; exact new
  · rw [upd_ne hb] at e
    exact (x b u e).stay (fun c v _ q => k c v q) (fun c q => by rw [upd_ne (ne_of_none q hn)]; exact q) fun c xs q => by rw [upd_ne (ne_of_none q hn)]; exact q
end

/-- what may be read as u: it is u, or a known u -/
def Rd (H : Hp) (a : Addr) (u : HO) : Prop := H a = some u ∨ ∃ o, H a = some (.frz o u)
theorem Rd.ok {P : Program} {w : World} {H : Hp} {h : Heap} {a : Addr} {u : HO} (r : Rd H a u) (x : HOk P w H h) : ObjOk P w H h a u := by
  rcases r with r | ⟨o, r⟩
  · exact x a u r
  · obtain ⟨_, q⟩ := x a _ r
    exact q
/-- what may be written -/
def Mut : Option HO → Prop
  | some (.lst _) => True
  | some (.dK _) => True
  | some (.dT _) => True
  | some (.set _ _) => True
  | some (.ins _ _ _) => True
  | some (.ext _) => True
  | _ => False
section
variable {P : Program} {w : World} {H : Hp} {h h' : Heap} {x e : Addr} {o' : HO}
/-- the object at e is changed: x itself, or the dict of the instance x -/
theorem HOk.write (ok : HOk P w H h) (mu : Mut (H x)) (he : e = x ∨ H e = some (.own x)) (k : ∀ b u, b ≠ e → h.get? b = some u → h'.get? b = some u) (heo : ∃ u, h'.get? e = some u)
    (new : ObjOk P w (upd H x o') h' x o') : HOk P w (upd H x o') h' := fun b u q => by
  have nown : ∀ c y, H c = some (.own y) → c ≠ x := fun c y r z => by subst z; rw [r] at mu; exact mu
  have ntup : ∀ c xs, H c = some (.tup xs) → c ≠ x := fun c xs r z => by subst z; rw [r] at mu; exact mu
  by_cases hb : b = x
  · subst hb; rw [upd_same] at q; cases q; exact new
  · rw [upd_ne hb] at q
    by_cases hbe : b = e
    · have q' : H b = some (.own x) := by
        rcases he with z | z
        · exact absurd (hbe.trans z) hb
        · rw [hbe]; exact z
      rw [q] at q'; cases q'
      obtain ⟨v, hv⟩ := heo
      exact ⟨v, by rw [hbe]; exact hv⟩
    · refine (ok b u q).stay (fun c v hc r => k c v ?_ r) (fun c r => by rw [upd_ne (nown c b r)]; exact r) fun c xs r => by rw [upd_ne (ntup c xs r)]; exact r
      rcases hc with rfl | hc
      · exact hbe
      · rintro rfl
        rcases he with z | z
        · exact nown c b hc z
        · rw [hc] at z; cases z; exact hb rfl
end

structure Un (fs ex : List Addr) (H H' : Hp) (h h' : Heap) : Prop where
  keep : ∀ b o, h.get? b = some o → H b = none → b ∉ fs → b ∉ ex → h'.get? b = some o
  slot : ∀ b o, h.get? b = some o → H b = none → b ∈ fs → b ∉ ex → ∃ sl, h'.get? b = some { o with slots := sl }
  free : ∀ b o, h.get? b = some o → H b = none → b ∉ ex → H' b = none
  there : ∀ b o, h.get? b = some o → b ∉ ex → ∃ o', h'.get? b = some o'
  tups : ∀ b xs, H b = some (.tup xs) → H' b = some (.tup xs)
  frzs : ∀ b o u, H b = some (.frz o u) → H' b = some (.frz o u)
  tbls : ∀ b ps, H b = some (.tbl ps) → ∃ more, H' b = some (.tbl (ps ++ more))
section
variable {fs fs' ex ex' : List Addr} {H H1 H2 : Hp} {h h1 h2 h' : Heap} {a x e : Addr} {o : HO}
theorem Un.any (u : Un fs ex H H1 h h1) {b : Addr} {ob : Obj} (q : h.get? b = some ob) (n : H b = none) (hx : b ∉ ex) : ∃ sl, h1.get? b = some { ob with slots := sl } := by
  by_cases hb : b ∈ fs
  · exact u.slot b ob q n hb hx
  · exact ⟨ob.slots, u.keep b ob q n hb hx⟩
theorem Un.kept (k : ∀ b u, h.get? b = some u → h'.get? b = some u) : Un fs ex H H h h' :=
  ⟨fun b ob q _ _ _ => k b ob q, fun b ob q _ _ _ => ⟨ob.slots, k b ob q⟩, fun _ _ _ n _ => n, fun b ob q _ => ⟨ob, k b ob q⟩, fun _ _ q => q, fun _ _ _ q => q, fun _ ps q => ⟨#[], by rw [q]; simp⟩⟩
theorem Un.refl : Un fs ex H H h h := Un.kept fun _ _ q => q
theorem Un.laid (k : ∀ b u, h.get? b = some u → h'.get? b = some u) (hp : h.objs.size ≤ a) (hn : H a = none) : Un fs ex H (upd H a o) h h' where
  keep := fun b u q _ _ _ => k b u q
  slot := fun b u q _ _ _ => ⟨u.slots, k b u q⟩
  free := fun b u q n _ => by rw [upd_ne (Nat.ne_of_lt (Nat.lt_of_lt_of_le (Heap.lt_size q) hp))]; exact n
  there := fun b u q _ => ⟨u, k b u q⟩
  tups := fun b xs q => by rw [upd_ne (ne_of_none q hn)]; exact q
  frzs := fun b u xs q => by rw [upd_ne (ne_of_none q hn)]; exact q
  tbls := fun b ps q => ⟨#[], by rw [upd_ne (ne_of_none q hn), q]; simp⟩
theorem Un.write (mu : Mut (H x)) (he : e = x ∨ H e = some (.own x)) (k : ∀ b u, b ≠ e → h.get? b = some u → h'.get? b = some u) (heo : ∃ u, h'.get? e = some u) : Un fs ex H (upd H x o) h h' := by
  have hx : ∀ b, H b = none → b ≠ x := fun b n z => by subst z; rw [n] at mu; exact mu
  have hb : ∀ b, H b = none → b ≠ e := fun b n z => by
    subst z
    rcases he with r | r
    · exact hx b n r
    · rw [n] at r; cases r
  have hm : ∀ b u, H b = some u → ¬ Mut (some u) → b ≠ x := fun b u q nm z => by subst z; rw [q] at mu; exact nm mu
  refine ⟨fun b u q n _ _ => k b u (hb b n) q, fun b u q n _ _ => ⟨u.slots, k b u (hb b n) q⟩, fun b u q n _ => by rw [upd_ne (hx b n)]; exact n, fun b u q _ => ?_,
    fun b xs q => by rw [upd_ne (hm b _ q fun z => z)]; exact q, fun b u xs q => by rw [upd_ne (hm b _ q fun z => z)]; exact q, fun b ps q => ⟨#[], by rw [upd_ne (hm b _ q fun z => z), q]; simp⟩⟩
  by_cases hbe : b = e
  · subst hbe; exact heo
  · exact ⟨u, k b u hbe q⟩
end

def trk (h : Heap) (H : Hp) : List Addr := (List.range h.objs.size).filter fun a => (H a).isSome
def hidT (h : Heap) (H : Hp) : Heap := PySem.W.hideAll h (trk h H)
theorem hidT_size (h : Heap) (H : Hp) : (hidT h H).objs.size = h.objs.size := PySem.W.hideAll_size _ _
theorem hidT_get {h : Heap} {H : Hp} {b : Addr} {o : Obj} (e : h.get? b = some o) (n : H b = none) : (hidT h H).get? b = some o :=
  PySem.W.hideAll_get _ e fun hm => by
    have q : (H b).isSome = true := (List.mem_filter.mp hm).2
    rw [n] at q; simp at q
theorem of_hidT {h : Heap} {H : Hp} {b : Addr} {o : Obj} (e : (hidT h H).get? b = some o) : h.get? b = some o ∧ H b = none := by
  have e' : h.get? b = some o := PySem.W.of_hideAll (trk h H) e
  refine ⟨e', ?_⟩
  cases q : H b with
  | none => rfl
  | some x =>
    have hm : b ∈ trk h H := List.mem_filter.mpr ⟨List.mem_range.mpr (Heap.lt_size e'), by simp [q]⟩
    have z : (hidT h H).get? b = none := PySem.W.hideAll_none (trk h H) hm
    rw [z] at e; cases e

end L2

namespace L2
open PySem PySem.Spec PyProof.Rows

/-- the module's facts, over the base: the heap at the law's entry without what is tracked there -/
structure Mod (K : PySem.W.Frag) (mg : Str → Option Value) (base : Heap) : Prop where
  kin : K.In base
  glob : base.Ns mainGlobals mg
  blt : ∃ mb, base.Ns builtinsNs mb ∧ ∀ x : Str, x ≠ "__name__" → mb x = bootBuiltins x
  nolimit : base.NoLimit

/-- the context: a def's body (or a comprehension's block) running. base: fixed through the whole law; s₀, H₀: the entry; outer: the frames whose slots others may change (a def's callers); stack: all frames that run;
   ex: iterators that were made ahead of the entry and are walked here (a comprehension's); fn: the names whose cells were made at the entry (a def: all; a comprehension's block: its own); calm: not within an except suite; pn: pins that every state bears; xe: what is wanted of an exception that leaves the code -/
structure Cx where
  prog : Program
  w : World
  K : PySem.W.Frag
  mg : Str → Option Value
  base : Heap
  A : Around
  N : List Str
  s_0 : Shared
  H_0 : Hp
  env : Env
  outer : List Env
  stack : List Env
  ex : List Addr
  fn : Str → Bool
  calm : Bool
  pn : List (Addr × Obj)
  xe : Value → Shared → Prop
/-- the callers' frames -/
def frs (l : List Env) : List Addr := l.filterMap (·.frame)
abbrev Cx.fs (X : Cx) : List Addr := frs X.outer

def Vis (sc : Scope) (x : Str) : Prop := sc.names.lookup x = some .local ∨ sc.names.lookup x = some .cell ∨ sc.names.lookup x = some .free
def Loc (sc : Scope) (x : Str) : Prop := sc.names.lookup x = some .local ∨ sc.names.lookup x = some .cell
def Look (env : Env) (h : Heap) (m : Str → Option Value) (x : Str) (u : Value) : Prop :=
  (env.kindOf x = some .local ∧ m x = some u) ∨ ((env.kindOf x = some .cell ∨ env.kindOf x = some .free) ∧ ∃ c, env.cells.lookup x = some c ∧ h.IsCell c (some u))

structure Cx.Ok (X : Cx) : Prop where
  mod : Mod X.K X.mg X.base
  kind : X.env.scope.kind = .function
  glob : X.env.globals = mainGlobals
  blt : X.env.builtins = builtinsNs
  above : X.s_0.heap.objs.size ≤ X.env.locals
  inj : ∀ x y c, X.env.cells.lookup x = some c → X.env.cells.lookup y = some c → x = y
  has : ∀ x, (X.env.kindOf x = some .cell ∨ X.env.kindOf x = some .free) → ∃ c, X.env.cells.lookup x = some c
  cab : ∀ x c, X.fn x = true → X.env.cells.lookup x = some c → X.s_0.heap.objs.size ≤ c
  hd : X.calm = true → X.A.handled = none
  frames : X.A.frames = some X.stack
  stk : X.stack = X.outer ∨ (X.stack = X.env :: X.outer ∧ X.env.frame = some X.env.locals)
  exf : ∀ b ∈ X.ex, b ≠ X.env.locals ∧ ∀ x c, X.env.cells.lookup x = some c → c ≠ b
  bs : ∀ b o, X.base.get? b = some o → X.s_0.heap.get? b = some o ∧ X.H_0 b = none
  bsz : X.base.objs.size ≤ X.s_0.heap.objs.size
  noex : ∀ b o, X.base.get? b = some o → b ∉ X.ex
  exfs : ∀ b ∈ X.ex, b ∉ X.fs
  funs : X.s_0.heap.FunFrames X.base X.outer
  frf : ∀ b ∈ X.fs, X.H_0 b = none

structure Inv (X : Cx) (pins : List (Addr × Obj)) (σ : List (Option V)) (H : Hp) (s : Shared) : Prop where
  ok : X.Ok
  os : s.os = X.s_0.os
  bare : AllBare s.gens
  base : Un X.fs X.ex X.H_0 H X.s_0.heap s.heap
  loc : ∃ m, s.heap.Ns X.env.locals m ∧ ∀ (i : Nat) (x : Str) (v : V), X.N[i]? = some x → σ[i]? = some (some v) → Vis X.env.scope x → ∃ u, RelV v u ∧ Look X.env s.heap m x u
  cell : ∀ x c, X.env.cells.lookup x = some c → ∃ v, s.heap.IsCell c v
  free : H X.env.locals = none
  freeC : ∀ x c, X.env.cells.lookup x = some c → H c = none
  pin : ∀ p ∈ X.pn ++ pins, s.heap.get? p.1 = some p.2 ∧ H p.1 = none ∧ p.1 ≠ X.env.locals ∧ p.1 ∉ X.fs ∧ ∀ v, p.2.data ≠ .cell v
  hok : HOk X.prog X.w H s.heap
  len : σ.length = X.N.length

section
variable {X : Cx} {pins : List (Addr × Obj)} {σ : List (Option V)} {H H' : Hp} {s : Shared} {h' : Heap}

theorem Cx.Ok.nofr (ok : X.Ok) {b : Addr} {o : Obj} (e : X.base.get? b = some o) : b ∉ X.fs := fun hb => by
  have := (ok.funs.mem hb).1
  rw [e] at this; cases this
theorem Inv.bs (I : Inv X pins σ H s) : ∀ b o, X.base.get? b = some o → s.heap.get? b = some o ∧ H b = none := fun b o e =>
  ⟨I.base.keep b o (I.ok.bs b o e).1 (I.ok.bs b o e).2 (I.ok.nofr e) (I.ok.noex b o e), I.base.free b o (I.ok.bs b o e).1 (I.ok.bs b o e).2 (I.ok.noex b o e)⟩
theorem Inv.bk (I : Inv X pins σ H s) : ∀ b o, X.base.get? b = some o → s.heap.get? b = some o := fun b o e => (I.bs b o e).1
theorem Inv.mod (I : Inv X pins σ H s) : Mod X.K X.mg X.base := I.ok.mod
theorem Inv.kIn (I : Inv X pins σ H s) : X.K.In s.heap := I.ok.mod.kin.keeps I.bk
/-- the frame over the base: for OpenK's rules (K.In X.base is I.mod.kin) -/
theorem Inv.fr (I : Inv X pins σ H s) : ∃ m, Fr X.base X.env.locals s.heap m :=
  let ⟨m, hn, _⟩ := I.loc
  ⟨m, hn, I.bk, Nat.le_trans I.ok.bsz I.ok.above⟩
theorem Inv.lt (I : Inv X pins σ H s) : X.env.locals < s.heap.objs.size := let ⟨_, hn, _⟩ := I.loc; hn.lt
theorem Inv.sz (I : Inv X pins σ H s) : X.s_0.heap.objs.size ≤ s.heap.objs.size := Nat.le_trans I.ok.above (Nat.le_of_lt I.lt)
theorem Inv.nofs (I : Inv X pins σ H s) {a : Addr} (h : s.heap.objs.size ≤ a) : a ∉ X.fs := fun hb => by
  obtain ⟨_, o, ho, _⟩ := I.ok.funs.mem hb
  exact absurd (Nat.lt_of_lt_of_le (Heap.lt_size ho) (Nat.le_trans I.sz h)) (Nat.lt_irrefl _)
theorem Inv.cne (I : Inv X pins σ H s) : ∀ x c, X.env.cells.lookup x = some c → c ≠ X.env.locals := fun x c e z => by
  obtain ⟨v, o, ho, hd⟩ := I.cell x c e
  obtain ⟨m, ⟨o', es, ep, ho', hd', _⟩, _⟩ := I.loc
  rw [z, ho'] at ho; cases ho; rw [hd'] at hd; cases hd
theorem Inv.funs (I : Inv X pins σ H s) : s.heap.FunFrames X.base X.outer := by
  have all : ∀ (l : List Env), (∀ b ∈ frs l, b ∈ X.fs) → X.s_0.heap.FunFrames X.base l → s.heap.FunFrames X.base l := by
    intro l
    induction l with
    | nil => intro _ _; trivial
    | cons env r ih =>
      intro hs hl
      obtain ⟨hk, ⟨L, o, hf, hn, ho, hd⟩, hr⟩ := hl
      have hL : L ∈ X.fs := hs L (by unfold frs; rw [List.filterMap_cons, hf]; exact List.mem_cons_self)
      obtain ⟨sl, e⟩ := I.base.slot L o ho (I.ok.frf L hL) hL fun z => I.ok.exfs L z hL
      exact ⟨hk, ⟨L, _, hf, hn, e, hd⟩, ih (fun b hb => hs b (by unfold frs; rw [List.filterMap_cons, hf]; exact List.mem_cons_of_mem _ hb)) hr⟩
  exact all X.outer (fun _ hb => hb) I.ok.funs

/-- the frames that run, for a call -/
theorem Inv.stack (I : Inv X pins σ H s) : s.heap.FunFrames X.base X.stack := by
  rcases I.ok.stk with e | ⟨e, hf⟩
  · rw [e]; exact I.funs
  · rw [e]
    obtain ⟨m, hn, _⟩ := I.loc
    refine .cons (by rw [I.ok.kind]; decide) hf hn ?_ I.funs
    exact Heap.get?_none_of_le (Nat.le_trans I.ok.bsz I.ok.above)
theorem Inv.stkSub (I : Inv X pins σ H s) : ∀ b ∈ frs X.stack, b ∈ X.env.locals :: X.fs := fun b hb => by
  rcases I.ok.stk with e | ⟨e, hf⟩
  · rw [e] at hb; exact List.mem_cons_of_mem _ hb
  · rw [e] at hb
    unfold frs at hb
    rw [List.filterMap_cons, hf] at hb
    exact hb
theorem Inv.stkFree (I : Inv X pins σ H s) : ∀ b ∈ frs X.stack, H b = none := fun b hb => by
  rcases List.mem_cons.mp (I.stkSub b hb) with e | hb
  · rw [e]; exact I.free
  · obtain ⟨_, o, ho, _⟩ := I.ok.funs.mem hb
    exact I.base.free b o ho (I.ok.frf b hb) fun z => I.ok.exfs b z hb

/-- THE STEP: the untracked objects but the frame and the records at ch are kept (the callers' frames up to slots), the frame's map is kept, the new abstract heap is held -/
theorem Inv.step {g' : Array GenState} {t' : Nat} {d' : Drawn} {ch : List Addr} (I : Inv X pins σ H s)
    (hch : ∀ b ∈ ch, (b ∈ X.ex ∨ X.s_0.heap.objs.size ≤ b) ∧ b ≠ X.env.locals ∧ (∀ x c, X.env.cells.lookup x = some c → c ≠ b) ∧ ∀ p ∈ X.pn ++ pins, p.1 ≠ b)
    (keep : ∀ b o, b ≠ X.env.locals → b ∉ X.fs → b ∉ ch → s.heap.get? b = some o → H b = none → h'.get? b = some o)
    (slot : ∀ b o, b ≠ X.env.locals → b ∈ X.fs → b ∉ ch → s.heap.get? b = some o → H b = none → ∃ sl, h'.get? b = some { o with slots := sl }) (free : ∀ b o, b ∉ ch → s.heap.get? b = some o → H b = none → H' b = none)
    (there : ∀ b o, b ∉ ch → s.heap.get? b = some o → ∃ o', h'.get? b = some o')
    (tups : ∀ b xs, H b = some (.tup xs) → H' b = some (.tup xs)) (frzs : ∀ b o u, H b = some (.frz o u) → H' b = some (.frz o u)) (tbls : ∀ b ps, H b = some (.tbl ps) → ∃ more, H' b = some (.tbl (ps ++ more)))
    (ns : ∀ m, s.heap.Ns X.env.locals m → h'.Ns X.env.locals m) (hok : HOk X.prog X.w H' h') (hg : AllBare g') :
    Inv X pins σ H' { s with heap := h', gens := g', drawn := d', toks := t' } := by
  have neL : ∀ b o, X.s_0.heap.get? b = some o → b ≠ X.env.locals := fun b o e => Nat.ne_of_lt (Nat.lt_of_lt_of_le (Heap.lt_size e) I.ok.above)
  have neC : ∀ b o, X.s_0.heap.get? b = some o → b ∉ X.ex → b ∉ ch := fun b o e hx hb => by
    rcases (hch b hb).1 with z | z
    · exact hx z
    · exact absurd (Nat.lt_of_lt_of_le (Heap.lt_size e) z) (Nat.lt_irrefl _)
  have cellK : ∀ x c, X.env.cells.lookup x = some c → ∀ v, s.heap.IsCell c v → h'.IsCell c v := fun x c e v ⟨o, ho, hd⟩ => by
    have nch : c ∉ ch := fun z => (hch c z).2.2.1 x c e rfl
    by_cases hc : c ∈ X.fs
    · obtain ⟨sl, q⟩ := slot c o (I.cne x c e) hc nch ho (I.freeC x c e)
      exact ⟨_, q, hd⟩
    · exact ⟨o, keep c o (I.cne x c e) hc nch ho (I.freeC x c e), hd⟩
  refine ⟨I.ok, I.os, hg, ⟨fun b o e n hb hx => ?_, fun b o e n hb hx => ?_, fun b o e n hx => ?_, fun b o e hx => ?_, fun b xs e => tups b xs (I.base.tups b xs e), fun b o xs e => frzs b o xs (I.base.frzs b o xs e), fun b ps e => ?_⟩, ?_, fun x c e => ?_, ?_, fun x c e => ?_, fun p hp => ?_, hok, I.len⟩
  · exact keep b o (neL b o e) hb (neC b o e hx) (I.base.keep b o e n hb hx) (I.base.free b o e n hx)
  · obtain ⟨sl, e1⟩ := I.base.slot b o e n hb hx
    obtain ⟨sl', e2⟩ := slot b _ (neL b o e) hb (neC b o e hx) e1 (I.base.free b o e n hx)
    exact ⟨sl', e2⟩
  · obtain ⟨o', e1⟩ := I.base.there b o e hx
    exact free b o' (neC b o e hx) e1 (I.base.free b o e n hx)
  · obtain ⟨o', e1⟩ := I.base.there b o e hx
    exact there b o' (neC b o e hx) e1
  · obtain ⟨m1, e1⟩ := I.base.tbls b ps e
    obtain ⟨m2, e2⟩ := tbls b _ e1
    exact ⟨m1 ++ m2, by rw [e2, Array.append_assoc]⟩
  · obtain ⟨m, hn, hl⟩ := I.loc
    refine ⟨m, ns m hn, fun i x v e1 e2 e3 => ?_⟩
    obtain ⟨u, r, l⟩ := hl i x v e1 e2 e3
    refine ⟨u, r, ?_⟩
    rcases l with l | ⟨k, c, e, z⟩
    · exact .inl l
    · exact .inr ⟨k, c, e, cellK x c e _ z⟩
  · obtain ⟨v, z⟩ := I.cell x c e
    exact ⟨v, cellK x c e v z⟩
  · obtain ⟨m, ⟨o, _, _, ho, _⟩, _⟩ := I.loc
    exact free _ o (fun z => (hch _ z).2.1 rfl) ho I.free
  · obtain ⟨v, o, ho, hd⟩ := I.cell x c e
    exact free c o (fun z => (hch c z).2.2.1 x c e rfl) ho (I.freeC x c e)
  · obtain ⟨e, n, ne, nf, d⟩ := I.pin p hp
    have nch : p.1 ∉ ch := fun z => (hch p.1 z).2.2.2 p hp rfl
    exact ⟨keep p.1 p.2 ne nf nch e n, free p.1 p.2 nch e n, ne, nf, d⟩
/-- .. where the frame's own object is kept too -/
theorem Inv.un {t' : Nat} (I : Inv X pins σ H s) (u : Un X.fs [] H H' s.heap h') (hok : HOk X.prog X.w H' h') : Inv X pins σ H' { s with heap := h', toks := t' } := by
  obtain ⟨m, ⟨o, es, ep, ho, r⟩, _⟩ := id I.loc
  obtain ⟨sl, hL⟩ := u.any ho I.free (by simp)
  exact I.step (g' := s.gens) (d' := s.drawn) (ch := []) (fun _ z => nomatch z) (fun b o _ hb _ e n => u.keep b o e n hb (by simp)) (fun b o _ hb _ e n => u.slot b o e n hb (by simp)) (fun b o _ e n => u.free b o e n (by simp)) (fun b o _ e => u.there b o e (by simp)) u.tups u.frzs u.tbls (fun m' hm => by
    obtain ⟨o', es', ep', ho', r'⟩ := hm
    rw [ho] at ho'; cases ho'
    exact ⟨_, es', ep', hL, r'⟩) hok I.bare
/-- behind a call (or a comprehension's block): the slots of this frame may have changed too, the records at ch may have turned -/
theorem Inv.call {g' : Array GenState} {t' : Nat} {d' : Drawn} {ch : List Addr} (I : Inv X pins σ H s) (u : Un (frs X.stack) ch H H' s.heap h') (hok : HOk X.prog X.w H' h') (hg : AllBare g')
    (hch : ∀ b ∈ ch, (b ∈ X.ex ∨ X.s_0.heap.objs.size ≤ b) ∧ b ≠ X.env.locals ∧ (∀ x c, X.env.cells.lookup x = some c → c ≠ b) ∧ ∀ p ∈ X.pn ++ pins, p.1 ≠ b) :
    Inv X pins σ H' { s with heap := h', gens := g', drawn := d', toks := t' } := by
  obtain ⟨m, ⟨o, es, ep, ho, r⟩, _⟩ := id I.loc
  obtain ⟨sl, hL⟩ := u.any ho I.free fun z => (hch _ z).2.1 rfl
  exact I.step (ch := ch) hch (fun b o hL hb hc e n => u.keep b o e n (fun z => (List.mem_cons.mp (I.stkSub b z)).elim hL hb) hc) (fun b o _ _ hc e n => u.any e n hc) (fun b o hc e n => u.free b o e n hc) (fun b o hc e => u.there b o e hc) u.tups u.frzs u.tbls (fun m' hm => by
    obtain ⟨o', es', ep', ho', r'⟩ := hm
    rw [ho] at ho'; cases ho'
    exact ⟨_, es', ep', hL, r'⟩) hok hg
/-- an untracked record of ours (an iterator) has turned -/
theorem Inv.turned {t' : Nat} {it : Addr} (I : Inv X pins σ H s) (k : ∀ b o, b ≠ it → s.heap.get? b = some o → h'.get? b = some o) (hn : H it = none) (hL : it ≠ X.env.locals)
    (h1 : it ∈ X.ex ∨ X.s_0.heap.objs.size ≤ it) (h2 : ∀ x c, X.env.cells.lookup x = some c → c ≠ it) (h3 : ∀ p ∈ X.pn ++ pins, p.1 ≠ it) : Inv X pins σ H { s with heap := h', toks := t' } := by
  have nit : ∀ b u, H b = some u → b ≠ it := fun b u e z => by rw [z, hn] at e; cases e
  refine I.step (g' := s.gens) (d' := s.drawn) (ch := [it]) (fun b hb => ?_) (fun b o _ _ hc e _ => k b o (fun z => hc (by simp [z])) e) (fun b o _ _ hc e _ => ⟨o.slots, k b o (fun z => hc (by simp [z])) e⟩) (fun _ _ _ _ n => n)
    (fun b o hc e => ⟨o, k b o (fun z => hc (by simp [z])) e⟩) (fun _ _ e => e) (fun _ _ _ e => e) (fun b ps e => ⟨#[], by rw [e]; simp⟩) (fun m hm => ?_) (fun b u e => ?_) I.bare
  · have e : b = it := by simpa using hb
    subst e
    exact ⟨h1, hL, h2, h3⟩
  · obtain ⟨o, es, ep, ho, r⟩ := hm
    exact ⟨o, es, ep, k _ o (Ne.symm hL) ho, r⟩
  · refine (I.hok b u e).stay (fun c v hc q => k c v ?_ q) (fun _ q => q) fun _ _ q => q
    rcases hc with z | z
    · rw [z]; exact nit b u e
    · exact nit c _ z
theorem Inv.tok (I : Inv X pins σ H s) (t : Nat) : Inv X pins σ H { s with toks := t } := I.un (h' := s.heap) (t' := t) Un.refl I.hok
/-- all objects kept -/
theorem Inv.kept {t' : Nat} (I : Inv X pins σ H s) (k : ∀ b u, s.heap.get? b = some u → h'.get? b = some u) : Inv X pins σ H { s with heap := h', toks := t' } := I.un (Un.kept k) (I.hok.kept k)
/-- a new object laid and tracked -/
theorem Inv.laid {a : Addr} {o : HO} {t' : Nat} (I : Inv X pins σ H s) (k : ∀ b u, s.heap.get? b = some u → h'.get? b = some u) (hp : s.heap.objs.size ≤ a) (new : ObjOk X.prog X.w (upd H a o) h' a o) :
    Inv X pins σ (upd H a o) { s with heap := h', toks := t' } := I.un (Un.laid k hp (I.hok.fresh hp)) (I.hok.laid k hp new)
/-- an object written -/
theorem Inv.write {x e : Addr} {o : HO} {t' : Nat} (I : Inv X pins σ H s) (mu : Mut (H x)) (he : e = x ∨ H e = some (.own x)) (k : ∀ b u, b ≠ e → s.heap.get? b = some u → h'.get? b = some u) (heo : ∃ u, h'.get? e = some u)
    (new : ObjOk X.prog X.w (upd H x o) h' x o) : Inv X pins σ (upd H x o) { s with heap := h', toks := t' } := I.un (Un.write mu he k heo) (I.hok.write mu he k heo new)
/-- forgetting slots, pins -/
theorem Inv.weak {σ' : List (Option V)} (I : Inv X pins σ H s) (hl : σ'.length = σ.length) (w : ∀ (i : Nat) v, σ'[i]? = some (some v) → σ[i]? = some (some v)) : Inv X pins σ' H s :=
  ⟨I.ok, I.os, I.bare, I.base, let ⟨m, hn, hl'⟩ := I.loc; ⟨m, hn, fun i x v e1 e2 e3 => hl' i x v e1 (w i v e2) e3⟩, I.cell, I.free, I.freeC, I.pin, I.hok, hl.trans I.len⟩
theorem Inv.pins_of {pins' : List (Addr × Obj)} (I : Inv X pins σ H s) (h : ∀ p ∈ pins', s.heap.get? p.1 = some p.2 ∧ H p.1 = none ∧ p.1 ≠ X.env.locals ∧ p.1 ∉ X.fs ∧ ∀ v, p.2.data ≠ .cell v) : Inv X pins' σ H s :=
  ⟨I.ok, I.os, I.bare, I.base, I.loc, I.cell, I.free, I.freeC, fun p hp => (List.mem_append.mp hp).elim (fun z => I.pin p (List.mem_append_left _ z)) (h p), I.hok, I.len⟩

theorem nodup_ix {N : List Str} (hN : N.Nodup) {i j : Nat} {x : Str} (a : N[i]? = some x) (b : N[j]? = some x) : i = j := by
  obtain ⟨h1, e1⟩ := List.getElem?_eq_some_iff.mp a
  obtain ⟨h2, e2⟩ := List.getElem?_eq_some_iff.mp b
  exact (List.getElem_inj hN).mp (e1.trans e2.symm)

/-- a name is stored; what changed -/
theorem store_ok2 {M : Model} {A : Around} {E : Value → Shared → Prop} {i : Nat} {x : Str} {v : V} {u : Value} {Q : Unit → Shared → Prop} (I : Inv X pins σ H s) (hN : X.N.Nodup) (hi : X.N[i]? = some x) (hx : Loc X.env.scope x) (r : RelV v u)
    (h : ∀ s', Inv X pins (σ.set i (some v)) H s' → (∃ a, Heap.SameBut a s.heap s'.heap ∧ (a = X.env.locals ∨ X.env.cells.lookup x = some a)) → Q () s') (hf : X.fn x = true ∨ X.env.scope.names.lookup x = some .local := by first | exact .inl rfl | exact .inr rfl | assumption) : wpAny M A (storeName X.env x u) Q E s := by
  obtain ⟨m, hn, hl⟩ := id I.loc
  have hcls : (X.env.scope.kind == .class || (X.env.scope.kind == .module && X.env.locals != X.env.globals)) = false := by rw [I.ok.kind]; rfl
  have hiσ : i < σ.length := by rw [I.len]; exact (List.getElem?_eq_some_iff.mp hi).1
  have cne := I.cne
  have tracked : ∀ {a : Addr} {h' : Heap}, (∃ o, s.heap.get? a = some o ∧ H a = none) → Heap.SameBut a s.heap h' → HOk X.prog X.w H h' := fun {a h'} ha hs b ob e => by
    obtain ⟨_, _, hfree⟩ := ha
    refine (I.hok b ob e).stay (fun c w' hc q => (hs.2 c ?_).trans q) (fun _ q => q) fun _ _ q => q
    rintro rfl
    rcases hc with rfl | hc
    · rw [hfree] at e; cases e
    · rw [hfree] at hc; cases hc
  rcases hx with hk | hk
  · refine wpAny_storeName_local hk hn (fun h' hn' hs => ?_) hcls
    obtain ⟨oL, _, _, hoL, _⟩ := id hn
    refine h _ ⟨I.ok, I.os, I.bare, ⟨fun b o e n hb hx => ?_, fun b o e n hb hx => ?_, I.base.free, fun b o e hx => ?_, I.base.tups, I.base.frzs, I.base.tbls⟩, ⟨_, hn', fun j y v' e1 e2 e3 => ?_⟩, fun y c e => ?_, I.free, I.freeC, fun p hp => ?_, tracked ⟨oL, hoL, I.free⟩ hs, by simpa using I.len⟩ ⟨_, hs, .inl rfl⟩
    · exact (hs.2 b (Nat.ne_of_lt (Nat.lt_of_lt_of_le (Heap.lt_size e) I.ok.above))).trans (I.base.keep b o e n hb hx)
    · obtain ⟨sl, e1⟩ := I.base.slot b o e n hb hx
      exact ⟨sl, (hs.2 b (Nat.ne_of_lt (Nat.lt_of_lt_of_le (Heap.lt_size e) I.ok.above))).trans e1⟩
    · obtain ⟨o', e1⟩ := I.base.there b o e hx
      exact ⟨o', (hs.2 b (Nat.ne_of_lt (Nat.lt_of_lt_of_le (Heap.lt_size e) I.ok.above))).trans e1⟩
    · by_cases hj : j = i
      · subst hj
        rw [hi] at e1; cases e1
        rw [List.getElem?_set_self hiσ] at e2
        cases e2
        exact ⟨u, r, .inl ⟨hk, by simp⟩⟩
      · rw [List.getElem?_set_ne (Ne.symm hj)] at e2
        obtain ⟨u', r', q⟩ := hl j y v' e1 e2 e3
        refine ⟨u', r', ?_⟩
        rcases q with ⟨k, e⟩ | ⟨k, c, e, z⟩
        · refine .inl ⟨k, ?_⟩
          have : y ≠ x := fun e => hj (nodup_ix hN e1 (e ▸ hi))
          simp [this, e]
        · exact .inr ⟨k, c, e, z.sameBut hs (cne y c e)⟩
    · obtain ⟨w', z⟩ := I.cell y c e
      exact ⟨w', z.sameBut hs (cne y c e)⟩
    · obtain ⟨e, n, ne, nf, d⟩ := I.pin p hp
      exact ⟨(hs.2 p.1 ne).trans e, n, ne, nf, d⟩
  · have hfn : X.fn x = true := by
      rcases hf with z | z
      · exact z
      · rw [z] at hk; cases hk
    obtain ⟨c, hc⟩ := I.ok.has x (.inl hk)
    obtain ⟨w', z⟩ := I.cell x c hc
    refine wpAny_storeName_cell I.ok.kind hk hc z (fun h' hc' hs => ?_)
    obtain ⟨oc, hoc, hocd⟩ := id z
    refine h { s with heap := h' } ⟨I.ok, I.os, I.bare, ⟨fun b o e n hb hx => ?_, fun b o e n hb hx => ?_, I.base.free, fun b o e hx => ?_, I.base.tups, I.base.frzs, I.base.tbls⟩, ⟨m, hn.sameBut hs (Ne.symm (cne x c hc)), fun j y v' e1 e2 e3 => ?_⟩, fun y c' e => ?_, I.free, I.freeC, fun p hp => ?_, tracked ⟨oc, hoc, I.freeC x c hc⟩ hs, by simpa using I.len⟩ ⟨c, hs, .inr hc⟩
    · exact (hs.2 b (Nat.ne_of_lt (Nat.lt_of_lt_of_le (Heap.lt_size e) (I.ok.cab x c hfn hc)))).trans (I.base.keep b o e n hb hx)
    · obtain ⟨sl, e1⟩ := I.base.slot b o e n hb hx
      exact ⟨sl, (hs.2 b (Nat.ne_of_lt (Nat.lt_of_lt_of_le (Heap.lt_size e) (I.ok.cab x c hfn hc)))).trans e1⟩
    · obtain ⟨o', e1⟩ := I.base.there b o e hx
      exact ⟨o', (hs.2 b (Nat.ne_of_lt (Nat.lt_of_lt_of_le (Heap.lt_size e) (I.ok.cab x c hfn hc)))).trans e1⟩
    · by_cases hj : j = i
      · subst hj
        rw [hi] at e1; cases e1
        rw [List.getElem?_set_self hiσ] at e2
        cases e2
        exact ⟨u, r, .inr ⟨.inl hk, c, hc, hc'⟩⟩
      · rw [List.getElem?_set_ne (Ne.symm hj)] at e2
        obtain ⟨u', r', q⟩ := hl j y v' e1 e2 e3
        refine ⟨u', r', ?_⟩
        rcases q with q | ⟨k, c', e, z'⟩
        · exact .inl q
        · refine .inr ⟨k, c', e, z'.sameBut hs ?_⟩
          rintro rfl
          exact hj (nodup_ix hN e1 (I.ok.inj _ _ _ e hc ▸ hi))
    · by_cases hcc : c' = c
      · subst hcc; exact ⟨_, hc'⟩
      · obtain ⟨w2, z2⟩ := I.cell y c' e
        exact ⟨w2, z2.sameBut hs hcc⟩
    · obtain ⟨e, n, ne, nf, d⟩ := I.pin p hp
      refine ⟨(hs.2 p.1 ?_).trans e, n, ne, nf, d⟩
      intro q
      rw [q, hoc] at e
      have q' : oc = p.2 := Option.some.inj e
      exact d w' (by rw [← q']; exact hocd)
theorem store_ok {M : Model} {A : Around} {E : Value → Shared → Prop} {i : Nat} {x : Str} {v : V} {u : Value} {Q : Unit → Shared → Prop} (I : Inv X pins σ H s) (hN : X.N.Nodup) (hi : X.N[i]? = some x) (hx : Loc X.env.scope x) (r : RelV v u)
    (h : ∀ s', Inv X pins (σ.set i (some v)) H s' → Q () s') (hf : X.fn x = true ∨ X.env.scope.names.lookup x = some .local := by first | exact .inl rfl | exact .inr rfl | assumption) : wpAny M A (storeName X.env x u) Q E s :=
  store_ok2 I hN hi hx r (fun s' I' _ => h s' I') hf
/-- behind a call or a block, the state as it is -/
theorem Inv.call' {s' : Shared} {ch : List Addr} (I : Inv X pins σ H s) (ho : s'.os = s.os) (u : Un (frs X.stack) ch H H' s.heap s'.heap) (hok : HOk X.prog X.w H' s'.heap) (hg : AllBare s'.gens)
    (hch : ∀ b ∈ ch, (b ∈ X.ex ∨ X.s_0.heap.objs.size ≤ b) ∧ b ≠ X.env.locals ∧ (∀ x c, X.env.cells.lookup x = some c → c ≠ b) ∧ ∀ p ∈ X.pn ++ pins, p.1 ≠ b) : Inv X pins σ H' s' := by
  obtain ⟨h', g', d', t', o'⟩ := s'
  have e : o' = s.os := ho
  subst e
  exact I.call (g' := g') (t' := t') (d' := d') u hok hg hch
end

/-- an exception: its class, its own dict's address (where it has one), the abstract heap behind it -/
abbrev XK := Value → Option Addr → Hp → Prop
abbrev St := List (Option V)
abbrev VK := V → Hp → Prop
/-- an expression's reading; a test's; an argument list's -/
abbrev TE := St → Hp → VK → Prop
abbrev TT := St → Hp → (Bool → Hp → Prop) → Prop
abbrev TA := St → Hp → (List V → Hp → Prop) → Prop
/-- what is wanted behind a statement -/
structure Ends where
  nx : St → Hp → Prop
  rt : VK
  bk : St → Hp → Prop := fun _ _ => False
  ct : St → Hp → Prop := fun _ _ => False
abbrev TS := Ends → St → Hp → Prop

def EP (X : Cx) (pins : List (Addr × Obj)) (σ : St) (Q : VK) (u : Value) (s' : Shared) : Prop := ∃ v H', Inv X pins σ H' s' ∧ RelV v u ∧ Q v H'
def TP (X : Cx) (pins : List (Addr × Obj)) (σ : St) (Q : Bool → Hp → Prop) (b : Bool) (s' : Shared) : Prop := ∃ H', Inv X pins σ H' s' ∧ Q b H'
def AP (X : Cx) (pins : List (Addr × Obj)) (σ : St) (Q : List V → Hp → Prop) (us : List Value) (s' : Shared) : Prop := ∃ vs H', Inv X pins σ H' s' ∧ Vals vs us ∧ Q vs H'
def SP (X : Cx) (pins : List (Addr × Obj)) (D : Ends) (f : Flow) (s' : Shared) : Prop :=
  match f with
  | .next => ∃ σ' H', Inv X pins σ' H' s' ∧ D.nx σ' H'
  | .brk => ∃ σ' H', Inv X pins σ' H' s' ∧ D.bk σ' H'
  | .cont => ∃ σ' H', Inv X pins σ' H' s' ∧ D.ct σ' H'
  | .ret u => ∃ v σ' H', Inv X pins σ' H' s' ∧ RelV v u ∧ D.rt v H'

def PE (X : Cx) (e : Expr) (t : TE) : Prop :=
  ∀ (pins : List (Addr × Obj)) (s : Shared) (σ : St) (H : Hp) (Q : VK), Inv X pins σ H s → t σ H Q → wpAny (model X.prog X.w) X.A (eval e X.env) (EP X pins σ Q) X.xe s
def PT (X : Cx) (e : Expr) (t : TT) : Prop :=
  ∀ (pins : List (Addr × Obj)) (s : Shared) (σ : St) (H : Hp) (Q : Bool → Hp → Prop), Inv X pins σ H s → t σ H Q → wpAny (model X.prog X.w) X.A (isTrue e X.env (eval e X.env)) (TP X pins σ Q) X.xe s
/-- a test whatever its 'whole' is (and, or) -/
def PW (X : Cx) (e : Expr) (t : TT) : Prop :=
  ∀ (whole : Sem Value) (pins : List (Addr × Obj)) (s : Shared) (σ : St) (H : Hp) (Q : Bool → Hp → Prop), Inv X pins σ H s → t σ H Q → wpAny (model X.prog X.w) X.A (isTrue e X.env whole) (TP X pins σ Q) X.xe s
theorem PW.pt {X : Cx} {e : Expr} {t : TT} (h : PW X e t) : PT X e t := h _
/-- an argument list (no star), from the left -/
def PA (X : Cx) (es : List Expr) (t : TA) : Prop :=
  ∀ (pos : Pos) (pins : List (Addr × Obj)) (s : Shared) (σ : St) (H : Hp) (Q : List V → Hp → Prop), Inv X pins σ H s → t σ H Q → wpAny (model X.prog X.w) X.A (spliced (backTo pos (starEach es X.env))) (AP X pins σ Q) X.xe s
def PS (X : Cx) (st : Stmt) (t : TS) : Prop :=
  ∀ (pins : List (Addr × Obj)) (s : Shared) (σ : St) (H : Hp) (D : Ends), Inv X pins σ H s → t D σ H → wpAny (model X.prog X.w) X.A (exec st X.env) (SP X pins D) X.xe s
def PSs (X : Cx) (st : List Stmt) (t : TS) : Prop :=
  ∀ (pins : List (Addr × Obj)) (s : Shared) (σ : St) (H : Hp) (D : Ends), Inv X pins σ H s → t D σ H → wpAny (model X.prog X.w) X.A (execs st X.env) (SP X pins D) X.xe s
/-- weaken the end -/
theorem thn {α : Type} {t : Sem α} {Q Q' : α → Shared → Prop} {M : Model} {A : Around} {E : Value → Shared → Prop} {s : Shared} (h : wpAny M A t Q E s) (hQ : ∀ a s, Q a s → Q' a s) : wpAny M A t Q' E s := wpAny_mono h hQ fun _ _ x => x
end L2

namespace L2
open PySem PySem.Spec PyProof.Rows
section
variable {X : Cx}

/-- two expressions in a row -/
theorem bin {a b : Expr} {ta tb : TE} (ha : PE X a ta) (hb : PE X b tb) {pins : List (Addr × Obj)} {s : Shared} {σ : St} {H : Hp} {R : V → V → Hp → Prop} (I : Inv X pins σ H s) (h : ta σ H fun x H1 => tb σ H1 fun y H2 => R x y H2)
    {α : Type} {Q : α → Shared → Prop} {f : Value → Value → Sem α}
    (hf : ∀ v u s2 x y H2, Inv X pins σ H2 s2 → RelV x v → RelV y u → R x y H2 → wpAny (model X.prog X.w) X.A (f v u) Q X.xe s2) :
    wpAny (model X.prog X.w) X.A (eval a X.env) (fun v s₁ => wpAny (model X.prog X.w) X.A (eval b X.env) (fun u s₂ => wpAny (model X.prog X.w) X.A (f v u) Q X.xe s₂) X.xe s₁) X.xe s := by
  refine thn (ha pins s σ H _ I h) fun v s1 ⟨x, H1, I1, r1, q1⟩ => ?_
  refine thn (hb pins s1 σ H1 _ I1 q1) fun u s2 ⟨y, H2, I2, r2, q2⟩ => ?_
  exact hf v u s2 x y H2 I2 r1 r2 q2

def tVar (i : Nat) : TE := fun σ H Q => ∃ v, σ[i]? = some (some v) ∧ Q v H
def tC (v : V) : TE := fun _ H Q => Q v H
theorem pe_var {i : Nat} {x : Str} {pos : Pos} (hN : X.N[i]? = some x) (hv : Vis X.env.scope x) (hd : (x == ("__debug__" : Str)) = false := by decide) (hcd : (x == ("__classdict__" : Str)) = false := by decide) : PE X (.Name x pos) (tVar i) := by
  intro pins s σ H Q I h
  obtain ⟨v, e, h⟩ := h
  obtain ⟨m, hn, hl⟩ := I.loc
  obtain ⟨u, r, l⟩ := hl i x v hN e hv
  have fin : EP X pins σ Q u s := ⟨v, H, I, r, h⟩
  rcases l with ⟨hk, hm⟩ | ⟨hk, c, hc, hcell⟩
  · exact wpAny_Name (wpAny_loadName_local I.ok.kind hk hn hm fin) hd
  · rcases hk with hk | hk
    · exact wpAny_Name (wpAny_loadName_cell I.ok.kind hk hc hcell fin) hd
    · exact wpAny_Name (wpAny_loadName_free I.ok.kind hk hc hcell fin hcd) hd
theorem pe_int {i j pos} : PE X (.Constant (.int i) j pos) (tC (.int i)) := fun _ _ _ H _ I h => wpAny_Constant_int ⟨.int i, H, I.tok _, ⟨_, rfl⟩, h⟩
theorem pe_bl {b j pos} : PE X (.Constant (.bool b) j pos) (tC (.bl b)) := fun _ _ _ H _ I h => Constant_bool ⟨.bl b, H, I, rfl, h⟩
theorem pe_non {j pos} : PE X (.Constant .none j pos) (tC .non) := fun _ _ _ H _ I h => Constant_none ⟨.non, H, I, rfl, h⟩

/-- a global name of the def -/
def Gl (X : Cx) (x : Str) : Prop := X.env.kindOf x = some .globalImplicit
theorem ld_glob {E : Value → Shared → Prop} {pins : List (Addr × Obj)} {s : Shared} {σ : St} {H : Hp} {x : Str} {u : Value} {pos : Pos} {Q : Value → Shared → Prop} (I : Inv X pins σ H s) (hg : Gl X x) (hm : X.mg x = some u) (h : Q u s)
    (hd : (x == ("__debug__" : Str)) = false := by decide) : wpAny (model X.prog X.w) X.A (eval (.Name x pos) X.env) Q E s :=
  Calls.Name_function_global I.ok.kind hg (Calls.loadGlobal_global (by rw [I.ok.glob]; exact I.mod.glob.keeps I.bk) hm h) hd
theorem ld_blt {E : Value → Shared → Prop} {pins : List (Addr × Obj)} {s : Shared} {σ : St} {H : Hp} {x : Str} {u : Value} {pos : Pos} {Q : Value → Shared → Prop} (I : Inv X pins σ H s) (hg : Gl X x) (hm : X.mg x = none) (hv : bootBuiltins x = some u) (h : Q u s)
    (hn : x ≠ "__name__" := by decide) (hd : (x == ("__debug__" : Str)) = false := by decide) : wpAny (model X.prog X.w) X.A (eval (.Name x pos) X.env) Q E s := by
  obtain ⟨mb, h1, h2⟩ := I.mod.blt
  exact Calls.Name_function_global I.ok.kind hg (Calls.loadGlobal_builtin (by rw [I.ok.glob]; exact I.mod.glob.keeps I.bk) hm (by rw [I.ok.blt]; exact h1.keeps I.bk) ((h2 x hn).trans hv) h) hd
/-- a module's constant, a class, a function, as a value -/
theorem pe_glob {x : Str} {v : V} {u : Value} {pos : Pos} (hg : Gl X x) (hm : X.mg x = some u) (r : RelV v u) (hd : (x == ("__debug__" : Str)) = false := by decide) : PE X (.Name x pos) (tC v) :=
  fun _ _ _ H _ I h => ld_glob I hg hm ⟨v, H, I, r, h⟩ hd

variable {a b : Expr} {ta tb : TE} {pos : Pos}

/-- is None -/
def tIsN (ta : TE) : TE := fun σ H Q => ta σ H fun x H1 => Q (.bl (decide (x = .non))) H1
def tNotN (ta : TE) : TE := fun σ H Q => ta σ H fun x H1 => Q (.bl (!decide (x = .non))) H1
/-- a comparison as a value, as a test -/
def tB (t : TE) : TT := fun σ H Q => t σ H fun x H1 => ∃ c, x = .bl c ∧ Q c H1
/-- an expression whose value is a bool, as a test -/
theorem pt_val {e : Expr} {t : TE} (h : PE X e t) (he : ∀ whole, isTrue e X.env whole = (do let v ← whole; standAt e.pos; holding [v] (truthy v)) := by intro _; rfl) : PT X e (tB t) := by
  intro pins s σ H Q I hw
  refine isTrue_plain (thn (h pins s σ H _ I hw) fun v s1 ⟨x, H1, I1, r1, q1⟩ => ?_) (he _)
  obtain ⟨d, rfl, q⟩ := q1
  cases r1
  exact wpAny_truthy_bool ⟨H1, I1, q⟩

variable {tA tB' : TT} {rest : List Expr}
def tAnd (t u : TT) : TT := fun σ H Q => t σ H fun c H1 => if c = true then u σ H1 Q else Q false H1
def tOr (t u : TT) : TT := fun σ H Q => t σ H fun c H1 => if c = true then Q true H1 else u σ H1 Q
def tNot (t : TT) : TT := fun σ H Q => t σ H fun c H1 => Q (!c) H1
theorem pw_and1 (ha : PT X a tA) : PW X (.BoolOp .And [a] pos) tA := by
  intro wh pins s σ H Q I h
  refine isTrue_and (thn (ha pins s σ H Q I h) fun c s1 e => ?_)
  cases c with
  | true => exact isTrue_and_nil e
  | false => exact e
theorem pw_or1 (ha : PT X a tA) : PW X (.BoolOp .Or [a] pos) tA := by
  intro wh pins s σ H Q I h
  refine isTrue_or (thn (ha pins s σ H Q I h) fun c s1 e => ?_)
  cases c with
  | false => exact isTrue_or_nil e
  | true => exact e
theorem pw_and (ha : PT X a tA) (hb : PW X (.BoolOp .And (b :: rest) pos) tB') : PW X (.BoolOp .And (a :: b :: rest) pos) (tAnd tA tB') := by
  intro wh pins s σ H Q I h
  refine isTrue_and (thn (ha pins s σ H _ I h) fun c s1 ⟨H1, I1, q1⟩ => ?_)
  cases c with
  | true => exact hb wh pins s1 σ H1 Q I1 q1
  | false => exact ⟨H1, I1, q1⟩
theorem pw_or (ha : PT X a tA) (hb : PW X (.BoolOp .Or (b :: rest) pos) tB') : PW X (.BoolOp .Or (a :: b :: rest) pos) (tOr tA tB') := by
  intro wh pins s σ H Q I h
  refine isTrue_or (thn (ha pins s σ H _ I h) fun c s1 ⟨H1, I1, q1⟩ => ?_)
  cases c with
  | true => exact ⟨H1, I1, q1⟩
  | false => exact hb wh pins s1 σ H1 Q I1 q1
theorem pt_not (ha : PT X a tA) : PT X (.UnaryOp .Not a pos) (tNot tA) := by
  intro pins s σ H Q I h
  exact isTrue_not (ha pins s σ H (fun c H1 => Q (!c) H1) I h)
/-- .. as values (bools) -/
def tAndV (ta tb : TE) : TE := fun σ H Q => ta σ H fun x H1 => ∃ c, x = .bl c ∧ if c = true then tb σ H1 Q else Q (.bl false) H1
def tOrV (ta tb : TE) : TE := fun σ H Q => ta σ H fun x H1 => ∃ c, x = .bl c ∧ if c = true then Q (.bl true) H1 else tb σ H1 Q
def tNotV (ta : TE) : TE := fun σ H Q => ta σ H fun x H1 => ∃ c, x = .bl c ∧ Q (.bl (!c)) H1
theorem pe_one {op} {t : TE} (h : PE X a t) : PE X (.BoolOp op [a] pos) t := fun pins s σ H Q I hw => BoolOp_one (h pins s σ H Q I hw)
theorem pe_and (ha : PE X a ta) (hb : PE X (.BoolOp .And (b :: rest) pos) tb) : PE X (.BoolOp .And (a :: b :: rest) pos) (tAndV ta tb) := by
  intro pins s σ H Q I h
  refine BoolOp_and (thn (ha pins s σ H _ I h) fun v s1 ⟨x, H1, I1, r1, q1⟩ => ?_)
  obtain ⟨c, rfl, q1⟩ := q1
  cases r1
  refine wpAny_truthy_bool ?_
  cases c with
  | true => exact hb pins s1 σ H1 Q I1 q1
  | false => exact ⟨.bl false, H1, I1, rfl, q1⟩
theorem pe_or (ha : PE X a ta) (hb : PE X (.BoolOp .Or (b :: rest) pos) tb) : PE X (.BoolOp .Or (a :: b :: rest) pos) (tOrV ta tb) := by
  intro pins s σ H Q I h
  refine BoolOp_or (thn (ha pins s σ H _ I h) fun v s1 ⟨x, H1, I1, r1, q1⟩ => ?_)
  obtain ⟨c, rfl, q1⟩ := q1
  cases r1
  refine wpAny_truthy_bool ?_
  cases c with
  | false => exact hb pins s1 σ H1 Q I1 q1
  | true => exact ⟨.bl true, H1, I1, rfl, q1⟩
/-- a if t else b -/
def tIf (t : TT) (ta tb : TE) : TE := fun σ H Q => t σ H fun c H1 => if c = true then ta σ H1 Q else tb σ H1 Q
theorem pe_ifExp {c : Expr} (hc : PT X c tA) (ha : PE X a ta) (hb : PE X b tb) : PE X (.IfExp c a b pos) (tIf tA ta tb) := by
  intro pins s σ H Q I h
  refine wpAny_IfExp (thn (hc pins s σ H _ I h) fun d s1 ⟨H1, I1, q1⟩ => ?_)
  cases d with
  | true => exact ha pins s1 σ H1 Q I1 q1
  | false => exact hb pins s1 σ H1 Q I1 q1
end
end L2

namespace L2
open PySem PySem.Spec PyProof.Rows

def SqL (K : PySem.W.Frag) (H : Hp) (a : Addr) (xs : List V) : Prop :=
  Rd H a (.lst xs) ∨
    ∃ (o : Obj) (its : Array Value) (n : Nat), K.lookup a = some o ∧ o.cls = .type "list" ∧ o.dict = none ∧ o.data = .seq its n ∧ its.size ≤ sizeLine ∧ Vals xs its.toList
def SqT (K : PySem.W.Frag) (H : Hp) (a : Addr) (xs : List V) : Prop :=
  Rd H a (.tup xs) ∨
    ∃ (o : Obj) (its : Array Value) (n : Nat), K.lookup a = some o ∧ o.cls = .type "tuple" ∧ o.data = .seq its n ∧ its.size ≤ sizeLine ∧ Vals xs its.toList
def absV : Value → Option V
  | .none => some .non
  | .bool b => some (.bl b)
  | .int i _ => some (.int i)
  | .str x _ => some (.str x)
  | .bytes b _ => some (.byt b)
  | .float b _ => some (.flt b)
  | .ref a => some (.ref a)
  | .type n => some (.ty n)
  | _ => none
theorem RelV.abs {x : V} {u : Value} (r : RelV x u) : absV u = some x := by
  cases x with
  | non => cases r; rfl
  | bl _ => cases r; rfl
  | int _ => obtain ⟨t, rfl⟩ := r; rfl
  | str _ => obtain ⟨t, rfl⟩ := r; rfl
  | byt _ => obtain ⟨t, rfl⟩ := r; rfl
  | flt _ => obtain ⟨t, rfl⟩ := r; rfl
  | ref _ => cases r; rfl
  | ty _ => cases r; rfl
theorem RelV.inj {x y : V} {u : Value} (r : RelV x u) (q : RelV y u) : x = y := Option.some.inj (r.abs.symm.trans q.abs)
theorem Vals.inj : ∀ {xs ys : List V} {us : List Value}, Vals xs us → Vals ys us → xs = ys
  | _, _, _, .nil, .nil => rfl
  | _, _, _, .cons r t, .cons r' t' => by rw [r.inj r', Vals.inj t t']
section
variable {X : Cx} {pins : List (Addr × Obj)} {σ : St} {H : Hp} {s : Shared} {a : Addr} {xs ys : List V}
theorem SqL.of {K : PySem.W.Frag} (h : H a = some (.lst xs)) : SqL K H a xs := .inl (.inl h)
theorem SqT.of {K : PySem.W.Frag} (h : H a = some (.tup xs)) : SqT K H a xs := .inl (.inl h)
theorem Inv.list (I : Inv X pins σ H s) (h : SqL X.K H a xs) : ∃ its : List Value, Vals xs its ∧ PlainL s.heap a its.toArray ∧ xs.length ≤ sizeLine := by
  rcases h with h | ⟨o, its, n, hk, hc, hd, hs, hz, r⟩
  · obtain ⟨z, its, n, r, e⟩ := h.ok I.hok
    exact ⟨its, r, ⟨_, n, e, rfl, rfl, rfl⟩, z⟩
  · refine ⟨its.toList, r, ⟨o, n, I.kIn a o hk, hc, hd, by simpa using hs⟩, ?_⟩
    have e := r.length
    simp only [Array.length_toList] at e
    omega
theorem Inv.tuple (I : Inv X pins σ H s) (h : SqT X.K H a xs) : ∃ its : List Value, Vals xs its ∧ IsTup s.heap a its.toArray ∧ xs.length ≤ sizeLine := by
  rcases h with h | ⟨o, its, n, hk, hc, hs, hz, r⟩
  · obtain ⟨z, its, r, p⟩ := h.ok I.hok
    exact ⟨its, r, p, z⟩
  · refine ⟨its.toList, r, ⟨o, I.kIn a o hk, hc, n, by simpa using hs⟩, ?_⟩
    have e := r.length
    simp only [Array.length_toList] at e
    omega
theorem Inv.list_inj (I : Inv X pins σ H s) (h : SqL X.K H a xs) (h' : SqL X.K H a ys) : xs = ys := by
  obtain ⟨its, r, ⟨o, n, e, _, _, d⟩, _⟩ := I.list h
  obtain ⟨its', r', ⟨o', n', e', _, _, d'⟩, _⟩ := I.list h'
  rw [e] at e'; cases e'
  rw [d] at d'
  injection d' with d1 _
  have : its = its' := by simpa using congrArg Array.toList d1
  subst this
  exact r.inj r'
end

abbrev Cx.wish (X : Cx) (E : Value → Shared → Prop) : Cx := { X with xe := E }
/-- no exception leaves -/
abbrev Cx.nox (X : Cx) : Cx := X.wish fun _ _ => False
theorem Cx.Ok.wish {X : Cx} (ok : X.Ok) (E : Value → Shared → Prop) : (X.wish E).Ok :=
  ⟨ok.mod, ok.kind, ok.glob, ok.blt, ok.above, ok.inj, ok.has, ok.cab, ok.hd, ok.frames, ok.stk, ok.exf, ok.bs, ok.bsz, ok.noex, ok.exfs, ok.funs, ok.frf⟩
theorem Cx.Ok.unwish {X : Cx} {E : Value → Shared → Prop} (ok : (X.wish E).Ok) : X.Ok :=
  ⟨ok.mod, ok.kind, ok.glob, ok.blt, ok.above, ok.inj, ok.has, ok.cab, ok.hd, ok.frames, ok.stk, ok.exf, ok.bs, ok.bsz, ok.noex, ok.exfs, ok.funs, ok.frf⟩
section
variable {X : Cx} {pins : List (Addr × Obj)} {σ : St} {H : Hp} {s : Shared} {E : Value → Shared → Prop}
theorem Inv.wish (I : Inv X pins σ H s) (E : Value → Shared → Prop) : Inv (X.wish E) pins σ H s := ⟨I.ok.wish E, I.os, I.bare, I.base, I.loc, I.cell, I.free, I.freeC, I.pin, I.hok, I.len⟩
theorem Inv.unwish (I : Inv (X.wish E) pins σ H s) : Inv X pins σ H s := ⟨I.ok.unwish, I.os, I.bare, I.base, I.loc, I.cell, I.free, I.freeC, I.pin, I.hok, I.len⟩
theorem SP.unwish {D : Ends} {f : Flow} {s' : Shared} (h : SP (X.wish E) pins D f s') : SP X pins D f s' := by
  cases f with
  | next => obtain ⟨σ', H', I, q⟩ := h; exact ⟨σ', H', I.unwish, q⟩
  | brk => obtain ⟨σ', H', I, q⟩ := h; exact ⟨σ', H', I.unwish, q⟩
  | cont => obtain ⟨σ', H', I, q⟩ := h; exact ⟨σ', H', I.unwish, q⟩
  | ret u => obtain ⟨v, σ', H', I, r, q⟩ := h; exact ⟨v, σ', H', I.unwish, r, q⟩
theorem PSs.nox {st : List Stmt} {t : TS} (h : PSs X.nox st t) : PSs X st t := fun pins s σ H D I hw =>
  wpAny_mono (h pins s σ H D (I.wish _) hw) (fun _ _ q => q.unwish) fun _ _ z => False.elim z
end

section
variable {X : Cx} {st : Stmt} {rest : List Stmt} {t u : TS} {e : Expr} {te : TE} {pos : Pos}
def tNext : TS := fun D σ H => D.nx σ H
def tSeq (t u : TS) : TS := fun D σ H => t { D with nx := u D } σ H
theorem pss_nil : PSs X [] tNext := fun _ _ σ H _ I h => wpAny_execs_nil ⟨σ, H, I, h⟩
theorem pss_cons (h1 : PS X st t) (h2 : PSs X rest u) : PSs X (st :: rest) (tSeq t u) := by
  intro pins s σ H D I h
  refine wpAny_execs_cons (thn (h1 pins s σ H { D with nx := u D } I h) fun f s1 q => ?_)
  cases f with
  | next =>
    obtain ⟨σ', H', I', q⟩ := q
    exact h2 pins s1 σ' H' D I' q
  | ret v => exact q
  | brk => exact q
  | cont => exact q
theorem pss_one (h1 : PS X st t) : PSs X [st] t := by
  intro pins s σ H D I h
  refine wpAny_execs_cons (thn (h1 pins s σ H D I h) fun f s1 q => ?_)
  cases f with
  | next => exact wpAny_execs_nil q
  | ret v => exact q
  | brk => exact q
  | cont => exact q
/-- in a def's body nothing is shown -/
theorem Inv.quiet {pins : List (Addr × Obj)} {σ : St} {H : Hp} {s : Shared} (I : Inv X pins σ H s) : interactive X.env = false := by simp [interactive, I.ok.kind]
/-- an expression whose value is dropped -/
def tDrop (te : TE) : TS := fun D σ H => te σ H fun _ H1 => D.nx σ H1
theorem ps_expr (he : PE X e te) (hs : swapsWith e none pos.line X.env = pure false := by rfl) : PS X (.Expr e pos) (tDrop te) := by
  intro pins s σ H D I h
  exact wpAny_Expr_any (thn (he pins s σ H _ I h) fun v s1 ⟨x, H1, I1, r1, q1⟩ => ⟨σ, H1, I1, q1⟩) I.quiet hs
def tRet (te : TE) : TS := fun D σ H => te σ H D.rt
theorem ps_ret (he : PE X e te) : PS X (.Return (some e) pos) (tRet te) := by
  intro pins s σ H D I h
  exact wpAny_Return_some (thn (he pins s σ H _ I h) fun v s1 ⟨x, H1, I1, r1, q1⟩ => ⟨x, σ, H1, I1, r1, q1⟩)
def tRetN : TS := fun D _ H => D.rt .non H
def tIfS (c : TT) (t u : TS) : TS := fun D σ H => c σ H fun b H1 => if b = true then t D σ H1 else u D σ H1
theorem ps_if {c : Expr} {a b : List Stmt} {tc : TT} (hc : PT X c tc) (ha : PSs X a t) (hb : PSs X b u) : PS X (.If c a b pos) (tIfS tc t u) := by
  intro pins s σ H D I h
  refine wpAny_If (thn (hc pins s σ H _ I h) fun d s1 ⟨H1, I1, q1⟩ => ?_)
  cases d with
  | true => exact ha pins s1 σ H1 D I1 q1
  | false => exact hb pins s1 σ H1 D I1 q1
end

abbrev TG := V → St → Hp → (St → Hp → Prop) → Prop
def PG (X : Cx) (target : Expr) (t : TG) : Prop :=
  ∀ (pins : List (Addr × Obj)) (s : Shared) (σ : St) (H : Hp) (v : V) (u : Value) (Q : St → Hp → Prop), Inv X pins σ H s → RelV v u → t v σ H Q →
    wpAny (model X.prog X.w) X.A (assign target X.env u) (fun _ s' => ∃ σ' H', Inv X pins σ' H' s' ∧ Q σ' H') X.xe s
/-- o[i] = v, by values -/
abbrev TSet := V → V → V → Hp → (Hp → Prop) → Prop
def PSet (X : Cx) (t : TSet) : Prop :=
  ∀ (pins : List (Addr × Obj)) (s : Shared) (σ : St) (H : Hp) (o i v : V) (ov iv u : Value) (Q : Hp → Prop), Inv X pins σ H s → RelV o ov → RelV i iv → RelV v u → t o i v H Q →
    wpAny (model X.prog X.w) X.A (setItem ov iv u) (fun _ s' => ∃ H', Inv X pins σ H' s' ∧ Q H') X.xe s
/-- a op= b, by values -/
abbrev TIp := V → V → Hp → VK → Prop
section
variable {X : Cx} {pos : Pos}
def gName (i : Nat) : TG := fun v σ H Q => Q (σ.set i (some v)) H
theorem pg_name {i : Nat} {x : Str} (hN : X.N.Nodup) (hi : X.N[i]? = some x) (hx : Loc X.env.scope x) (hf : X.fn x = true ∨ X.env.scope.names.lookup x = some .local := by first | exact .inl rfl | exact .inr rfl | assumption) : PG X (.Name x pos) (gName i) := by
  intro pins s σ H v u Q I r h
  exact wpAny_assign_Name (store_ok I hN hi hx r (fun s' I' => ⟨_, H, I', h⟩) hf)
/-- o[i] = .. -/
def gSub (to ti : TE) (t : TSet) : TG := fun v σ H Q => to σ H fun o H1 => ti σ H1 fun i H2 => t o i v H2 fun H3 => Q σ H3
theorem pg_sub {o i : Expr} {to ti : TE} {t : TSet} (ho : PE X o to) (hi : PE X i ti) (hs : PSet X t)
    (ha : ∀ v, assign (.Subscript o i pos) X.env v = (do
      let ov ← holding [v] (eval o X.env)
      let iv ← holding [v, ov] (eval i X.env)
      standAt pos
      holding [v, ov, iv] (setItem ov iv v)
      release [v, ov, iv] []) := by intro _; rfl) : PG X (.Subscript o i pos) (gSub to ti t) := by
  intro pins s σ H v u Q I r h
  rw [ha]
  refine wpAny_bind (wpAny_holding (thn (ho pins s σ H _ I h) fun ov s1 ⟨x, H1, I1, r1, q1⟩ => ?_))
  refine wpAny_bind (wpAny_holding (thn (hi pins s1 σ H1 _ I1 q1) fun iv s2 ⟨y, H2, I2, r2, q2⟩ => ?_))
  refine wpAny_bind (wpAny_standAt (wpAny_bind (wpAny_holding (thn (hs pins s2 σ H2 x y v ov iv u _ I2 r1 r2 r q2) fun _ s3 ⟨H3, I3, q3⟩ => ?_))))
  exact wpAny_release ⟨σ, H3, I3, q3⟩
/-- target = value -/
def tAsg (te : TE) (g : TG) : TS := fun D σ H => te σ H fun x H1 => g x σ H1 D.nx
theorem ps_asg {tg e : Expr} {te : TE} {g : TG} (he : PE X e te) (hg : PG X tg g) (hs : swapsWithSole [tg] e pos.line X.env = pure false := by rfl) (hw : swappedStores [tg] e X.env = pure none := by rfl)
    (h1 : (assignEach [tg] X.env).map (·.2) = [assign tg X.env] := by rfl) : PS X (.Assign [tg] e pos) (tAsg te g) := by
  intro pins s σ H D I h
  refine wpAny_Assign_stores (thn (he pins s σ H _ I h) fun v s1 ⟨x, H1, I1, r1, q1⟩ => ?_) hs hw
  rw [h1]
  exact thn (hg pins s1 σ H1 x v _ I1 r1 q1) fun _ s2 q => q
/-- name = value -/
theorem ps_set {i : Nat} {x : Str} {e : Expr} {te : TE} {pos' : Pos} (hN : X.N.Nodup) (hi : X.N[i]? = some x) (hx : Loc X.env.scope x) (he : PE X e te) (hs : swapsWith e (some (.Name x pos')) pos.line X.env = pure false := by rfl) (hf : X.fn x = true ∨ X.env.scope.names.lookup x = some .local := by first | exact .inl rfl | exact .inr rfl | assumption) :
    PS X (.Assign [.Name x pos'] e pos) (tAsg te (gName i)) := by
  intro pins s σ H D I h
  refine wpAny_Assign_Name (thn (he pins s σ H _ I h) fun v s1 ⟨y, H1, I1, r1, q1⟩ => ?_) hs
  exact store_ok I1 hN hi hx r1 (fun s2 I2 => ⟨_, H1, I2, q1⟩) hf
/-- name op= e -/
def tAug (i : Nat) (te : TE) (ti : TIp) : TS := fun D σ H => ∃ x, σ[i]? = some (some x) ∧ te σ H fun y H1 => ti x y H1 fun z H2 => D.nx (σ.set i (some z)) H2
/-- ints -/
def ipI (f : Int → Int → Int) : TIp := fun x y H Q => ∃ i j, x = .int i ∧ y = .int j ∧ Q (.int (f i j)) H
end

section
variable {X : Cx} {pos : Pos}
/-- the invariant W with its measure -/
def tWhile (c : TT) (tb : TS) : TS := fun D σ H => ∃ W : Nat → St → Hp → Prop, (∃ m, W m σ H) ∧ ∀ m σ H, W m σ H →
  c σ H fun b H1 => if b = true then ∃ N : St → Hp → Prop, (∀ σ' H', N σ' H' → ∃ m', m' < m ∧ W m' σ' H') ∧ tb { D with nx := N, ct := N, bk := D.nx } σ H1 else D.nx σ H1
theorem ps_while {c : Expr} {body : List Stmt} {tc : TT} {tb : TS} (hp : PassesOwn (model X.prog X.w) X.A X.env X.xe) (hc : PT X c tc) (hb : PSs X body tb) : PS X (.While c body [] pos) (tWhile tc tb) := by
  intro pins s σ H D I h
  obtain ⟨W, ⟨m0, w0⟩, turn⟩ := h
  refine wpAny_While (codeAny_whileLoop (fun n s' => ∃ σ' H', Inv X pins σ' H' s' ∧ W n σ' H') ?_ m0 ⟨σ, H, I, w0⟩)
  rintro n s1 ⟨σ1, H1, I1, w1⟩
  refine wpAny_passesOwn hp (thn (hc pins s1 σ1 H1 _ I1 (turn n σ1 H1 w1)) fun b s2 ⟨H2, I2, q2⟩ => ?_)
  cases b with
  | true =>
    obtain ⟨N, hN, q2⟩ := q2
    rw [if_pos rfl]
    refine wpAny_passesOwn hp (thn (hb pins s2 σ1 H2 _ I2 q2) fun f s3 q3 => ?_)
    cases f with
    | next =>
      obtain ⟨σ3, H3, I3, n3⟩ := q3
      obtain ⟨m', hm, w3⟩ := hN σ3 H3 n3
      exact ⟨m', hm, σ3, H3, I3, w3⟩
    | cont =>
      obtain ⟨σ3, H3, I3, n3⟩ := q3
      obtain ⟨m', hm, w3⟩ := hN σ3 H3 n3
      exact ⟨m', hm, σ3, H3, I3, w3⟩
    | brk => exact q3
    | ret v => exact q3
  | false =>
    rw [if_neg Bool.false_ne_true]
    exact wpAny_execs_nil ⟨σ1, H2, I2, q2⟩
end

/-- at turn i: it yields x (the heap may grow), or it stops -/
structure It where
  go : Nat → Hp → Prop
  yld : Nat → Hp → V → Hp → Prop
  stop : Nat → Hp → Prop
/-- the iterator's own objects may turn: they are not the frame's, not pinned, younger than the entry (or a comprehension's own) -/
def FpOk (X : Cx) (pins : List (Addr × Obj)) (H : Hp) (b : Addr) : Prop :=
  H b = none ∧ b ≠ X.env.locals ∧ b ∉ X.fs ∧ (b ∈ X.ex ∨ X.s_0.heap.objs.size ≤ b) ∧ (∀ x c, X.env.cells.lookup x = some c → c ≠ b) ∧ ∀ p ∈ X.pn ++ pins, p.1 ≠ b
theorem Inv.fpOk {X : Cx} {pins : List (Addr × Obj)} {σ : St} {H H' : Hp} {s : Shared} {b : Addr} (I : Inv X pins σ H s) (hb : s.heap.objs.size ≤ b) (hn : H' b = none) : FpOk X pins H' b := by
  refine ⟨hn, Nat.ne_of_gt (Nat.lt_of_lt_of_le I.lt hb), I.nofs hb, .inr (Nat.le_trans I.sz hb), fun x c e z => ?_, fun p hp z => ?_⟩
  · obtain ⟨v, q⟩ := I.cell x c e
    exact absurd (Nat.lt_of_lt_of_le q.lt (by rw [z]; exact hb)) (Nat.lt_irrefl _)
  · exact absurd (Nat.lt_of_lt_of_le (Heap.lt_size (I.pin p hp).1) (by rw [z]; exact hb)) (Nat.lt_irrefl _)
structure Turn (P : Program) (w : World) (K : PySem.W.Frag) (tg : Expr) (J : It) (fp : List Addr) (it : Addr) (tn : Nat → Heap → Prop) : Prop where
  mem : it ∈ fp
  obj : ∀ i h, tn i h → ∀ b ∈ fp, ∃ o, h.get? b = some o ∧ ∀ v, o.data ≠ .cell v
  keep : ∀ i h h', tn i h → (∀ b ∈ fp, ∀ o, h.get? b = some o → h'.get? b = some o) → tn i h'
  item : ∀ (X : Cx), X.prog = P → X.w = w → X.K = K → X.calm = true → ∀ (i : Nat) (pins : List (Addr × Obj)) (s : Shared) (σ : St) (H : Hp) (E : Value → Shared → Prop), Inv X pins σ H s → (∀ b ∈ fp, FpOk X pins H b) → tn i s.heap → J.go i H →
    wpAny (model P w) X.A (pyNext (.ref it)) (fun r s1 => ∃ u, r = some u ∧
      wpAny (model P w) X.A (letOwnedTupleGo tg (.ref it) u) (fun _ s2 => ∃ x H', Inv X pins σ H' s2 ∧ RelV x u ∧ J.yld i H x H' ∧ tn (i + 1) s2.heap ∧ ∀ b ∈ fp, H' b = none) E s1) E s
  done : ∀ (X : Cx), X.prog = P → X.w = w → X.K = K → X.calm = true → ∀ (i : Nat) (pins : List (Addr × Obj)) (s : Shared) (σ : St) (H : Hp) (E : Value → Shared → Prop), Inv X pins σ H s → (∀ b ∈ fp, FpOk X pins H b) → tn i s.heap → J.stop i H →
    wpAny (model P w) X.A (pyNext (.ref it)) (fun r s1 => r = none ∧ Inv X pins σ H s1) E s
  self : ∀ (A : Around) (i : Nat) (s : Shared) (Q : Value → Shared → Prop) (E : Value → Shared → Prop), tn i s.heap → Q (.ref it) s → wpAny (model P w) A (pyIter (.ref it)) Q E s
abbrev TI := St → Hp → (It → Hp → Prop) → Prop
/-- an iterator has come -/
def PIE (X : Cx) (pins : List (Addr × Obj)) (σ : St) (tg : Expr) (R : It → Hp → Prop) (itv : Value) (s2 : Shared) : Prop :=
  ∃ (it : Addr) (fp : List Addr) (tn : Nat → Heap → Prop) (J : It) (H' : Hp), itv = .ref it ∧ Inv X pins σ H' s2 ∧ Turn X.prog X.w X.K tg J fp it tn ∧ tn 0 s2.heap ∧ (∀ b ∈ fp, FpOk X pins H' b) ∧ R J H'
def PI (X : Cx) (tg iter : Expr) (wi : TI) : Prop :=
  ∀ (pins : List (Addr × Obj)) (s : Shared) (σ : St) (H : Hp) (R : It → Hp → Prop), Inv X pins σ H s → wi σ H R →
    wpAny (model X.prog X.w) X.A (eval iter X.env) (fun v s1 => wpAny (model X.prog X.w) X.A (pyIter v) (PIE X pins σ tg R) X.xe s1) X.xe s

/-- the step ahead of the store is nothing for an iterator that keeps no tuple -/
theorem go_of {M : Model} {A : Around} {E : Value → Shared → Prop} {s : Shared} {tg : Expr} {it : Addr} {u : Value} {o : Obj} {n : String} {vs : Array Value} {Q : Unit → Shared → Prop} (ho : s.heap.get? it = some o) (hc : o.cls = .type n) (hd : o.data = .fields vs)
    (hn : ["enumerate", "zip", "dict_itemiterator", "dict_reverseitemiterator", "odict_iterator", "itertools.zip_longest", "itertools.pairwise"].contains n = false) (hQ : Q () s) : wpAny M A (letOwnedTupleGo tg (.ref it) u) Q E s := by
  unfold letOwnedTupleGo
  cases tg <;> first
    | exact wpAny_pure hQ
    | (cases u <;> first
        | exact wpAny_pure hQ
        | (refine wpAny_bind (wpAny_load ho ?_)
           rw [hc, hd]
           show wpAny M A (if (["enumerate", "zip", "dict_itemiterator", "dict_reverseitemiterator", "odict_iterator", "itertools.zip_longest", "itertools.pairwise"].contains n && vs[0]? == some (rawInt _)) = true then _ else _) Q E s
           rw [if_neg (by intro h; rw [hn, Bool.false_and] at h; cases h)]
           exact wpAny_pure hQ))

/-- the list at a, as it stands at each turn (a loop may append to it) -/
def Itl (K : PySem.W.Frag) (a : Addr) : It :=
  ⟨fun i H => ∃ xs x, SqL K H a xs ∧ xs[i]? = some x, fun i H x H' => H' = H ∧ ∀ xs, SqL K H a xs → xs[i]? = some x, fun i H => ∃ xs, SqL K H a xs ∧ xs.length ≤ i⟩
/-- lo, lo + 1, .. (n of them) -/
def Itr (lo : Int) (n : Nat) : It := ⟨fun i _ => i < n, fun i H x H' => H' = H ∧ x = .int (lo + i), fun i _ => n ≤ i⟩
theorem turn_list {P : Program} {w : World} {K : PySem.W.Frag} {tg : Expr} (a it : Addr) : Turn P w K tg (Itl K a) [it] it (fun i h => h.IsListIter it a i) where
  mem := by simp
  obj := fun i h st b hb => by
    have e : b = it := by simpa using hb
    subst e
    obtain ⟨o, e, c, d⟩ := st
    exact ⟨o, e, fun v z => by rw [d] at z; cases z⟩
  keep := fun i h h' st k => st.at fun o e => k it (by simp) o e
  item := by
    intro X hP hw hK hc i pins s σ H E I hf st hg
    subst hP hw hK
    obtain ⟨xs, x, hq, hx⟩ := hg
    obtain ⟨its, rv, p, hz⟩ := I.list hq
    obtain ⟨u, hu, ru⟩ := rv.get hx
    obtain ⟨f0, f1, f2, f3, f4, f5⟩ := hf it (by simp)
    refine wpAny_pyNext_list_item st p.isList (x := u) (by simpa using hu) fun h' st' sb => ?_
    have I1 : Inv X pins σ H { s with heap := h' } := I.turned (t' := s.toks) (fun b o hb e => (sb.2 b hb).trans e) f0 f1 f3 f4 f5
    obtain ⟨o, e, c, d⟩ := id st'
    exact ⟨u, rfl, go_of (s := { s with heap := h' }) e c d (by decide) ⟨x, H, I1, ru, ⟨rfl, fun ys hy => by rw [I.list_inj hy hq]; exact hx⟩, st', fun b hb => (hf b hb).1⟩⟩
  done := by
    intro X hP hw hK hc i pins s σ H E I hf st hg
    subst hP hw hK
    obtain ⟨xs, hq, hx⟩ := hg
    obtain ⟨its, rv, p, hz⟩ := I.list hq
    obtain ⟨f0, f1, f2, f3, f4, f5⟩ := hf it (by simp)
    have hl := rv.length
    exact wpAny_pyNext_list_end (I.ok.hd hc) st p.isList (by simp; omega) fun h' eb => ⟨rfl, I.turned (t' := s.toks) (fun b o hb e => eb b o hb e) f0 f1 f3 f4 f5⟩
  self := fun _ _ _ _ _ st h => wpAny_pyIter_listiter st h
theorem turn_range {P : Program} {w : World} {K : PySem.W.Frag} {tg : Expr} (it : Addr) (lo : Int) (n : Nat) : Turn P w K tg (Itr lo n) [it] it (fun i h => IsRangeIter h it (lo + (i : Nat) * 1) ((n : Int) - (i : Nat)) 1) where
  mem := by simp
  obj := fun i h st b hb => by
    have e : b = it := by simpa using hb
    subst e
    exact ⟨_, st, fun v z => by
      have z' : Data.fields _ = Data.cell v := z
      cases z'⟩
  keep := fun i h h' st k => k it (by simp) _ st
  item := by
    intro X hP hw hK hc i pins s σ H E I hf st hg
    subst hP hw hK
    obtain ⟨f0, f1, f2, f3, f4, f5⟩ := hf it (by simp)
    have W := Walks.range (prog := X.prog) (w := X.w) (I.ok.hd hc) it lo 1 n
    refine W.item i s _ _ hg st fun v h' tk hv st' kk => ?_
    obtain ⟨t, rfl⟩ := hv
    have I1 : Inv X pins σ H { s with heap := h', toks := tk } := I.turned (fun b o hb e => kk b o (by simpa using hb) e) f0 f1 f3 f4 f5
    refine ⟨_, rfl, go_of (s := { s with heap := h', toks := tk }) (n := "range_iterator") st' rfl rfl (by decide) ⟨.int (lo + i), H, I1, ⟨t, ?_⟩, ⟨rfl, rfl⟩, st', fun b hb => (hf b hb).1⟩⟩
    rw [Int.mul_one]
  done := by
    intro X hP hw hK hc i pins s σ H E I hf st hg
    subst hP hw hK
    obtain ⟨f0, f1, f2, f3, f4, f5⟩ := hf it (by simp)
    exact wpAny_pyNext_range_end (I.ok.hd hc) st (by have : n ≤ i := hg; omega) fun h' eb => ⟨rfl, I.turned (t' := s.toks) (fun b o hb e => eb b o hb e) f0 f1 f3 f4 f5⟩
  self := fun _ _ _ _ _ st h => wpAny_pyIter_rangeiter st h
end L2

namespace L2
open PySem PySem.Spec PyProof.Rows
section
variable {X : Cx} {tg : Expr}
def iList (K : PySem.W.Frag) (tl : TE) : TI := fun σ H R => tl σ H fun x H1 => ∃ a, x = .ref a ∧ (∃ xs, SqL K H1 a xs) ∧ R (Itl K a) H1
theorem pi_list {l : Expr} {tl : TE} (hl : PE X l tl) : PI X tg l (iList X.K tl) := by
  intro pins s σ H R I h
  refine thn (hl pins s σ H _ I h) fun v s1 ⟨x, H1, I1, r1, q1⟩ => ?_
  obtain ⟨a, e, ⟨xs, hq⟩, q⟩ := q1
  subst e
  cases r1
  obtain ⟨its, rv, p, hz⟩ := I1.list hq
  refine wpAny_pyIter_list p.isList ?_
  refine ⟨s1.heap.objs.size, [s1.heap.objs.size], _, _, H1, rfl, I1.kept (t' := s1.toks) fun b o e => Heap.get?_push_of_some _ e, turn_list a _, ⟨_, Heap.get?_push_size _ rfl, rfl, rfl⟩, fun b hb => ?_, q⟩
  have e : b = s1.heap.objs.size := by simpa using hb
  subst e
  exact I1.fpOk (Nat.le_refl _) (I1.hok.fresh (Nat.le_refl _))
/-- a range object just made, walked -/
theorem range_it {pins : List (Addr × Obj)} {σ : St} {H : Hp} {s : Shared} {R : It → Hp → Prop} {E : Value → Shared → Prop} {lo hi : Int} {t u v : Tok} {tk : Nat} (I : Inv X pins σ H s) (h1 : -(2 ^ 62) ≤ lo) (h2 : lo < 2 ^ 62) (h3 : -(2 ^ 62) ≤ hi) (h4 : hi < 2 ^ 62)
    (q : R (Itr lo (hi - lo).toNat) H) : wpAny (model X.prog X.w) X.A (pyIter (.ref s.heap.objs.size)) (PIE X pins σ tg R) E { s with heap := s.heap.push { cls := .type "range", data := .fields #[.int lo t, .int hi u, .int 1 v] }, toks := tk } := by
  refine wpAny_pyIter_range (IsRange.new ..) (small_one h1 h2 h3 h4) ?_
  have I1 : Inv X pins σ H { s with heap := s.heap.push { cls := .type "range", data := .fields #[.int lo t, .int hi u, .int 1 v] }, toks := tk } := I.kept fun b o e => Heap.get?_push_of_some _ e
  refine ⟨(s.heap.push { cls := .type "range", data := .fields #[.int lo t, .int hi u, .int 1 v] }).objs.size, [(s.heap.push { cls := .type "range", data := .fields #[.int lo t, .int hi u, .int 1 v] }).objs.size], _, _, H, rfl,
    I1.kept (t' := tk) fun b o e => Heap.get?_push_of_some _ e, turn_range _ lo (hi - lo).toNat, ?_, fun b hb => ?_, q⟩
  · have e1 : lo + ((0 : Nat) : Int) * 1 = lo := by simp
    have e2 : (((hi - lo).toNat : Nat) : Int) - ((0 : Nat) : Int) = Builtin.Range.rangeSize lo hi 1 := by rw [rangeSize_one]; split <;> omega
    show IsRangeIter _ _ (lo + ((0 : Nat) : Int) * 1) ((((hi - lo).toNat : Nat) : Int) - ((0 : Nat) : Int)) 1
    rw [e1, e2]
    exact Heap.get?_push_size _ rfl
  · have e : b = (s.heap.push { cls := .type "range", data := .fields #[.int lo t, .int hi u, .int 1 v] }).objs.size := by simpa using hb
    subst e
    exact I1.fpOk (Nat.le_refl _) (I1.hok.fresh (Nat.le_refl _))
def iRng1 (ta : TA) : TI := fun σ H R => ta σ H fun vs H1 => ∃ j : Int, vs = [.int j] ∧ -(2 ^ 62) ≤ j ∧ j < 2 ^ 62 ∧ R (Itr 0 j.toNat) H1
theorem pi_range1 {a : Expr} {ta : TA} {p pos : Pos} (hg : Gl X "range") (hm : X.mg "range" = none) (ha : PA X [a] ta) (hs : starEach [a] X.env = [(false, eval a X.env)] := by rfl) : PI X tg (.Call (.Name "range" p) [a] [] pos) (iRng1 ta) := by
  intro pins s σ H R I h
  refine Call_ (ld_blt I hg hm boot_range (PyProof.Rows.callWith_type1 (thn (ha pos pins s σ H _ I h) fun us s1 ⟨vs, H1, I1, r1, q1⟩ => ?_) hs rfl))
  obtain ⟨j, e, q1, q2, q⟩ := q1
  subst e
  cases r1 with
  | cons r rr =>
    cases rr
    obtain ⟨t, rfl⟩ := r
    exact call_range_1 (range_it I1 (by omega) (by omega) q1 q2 (by simpa using q))

/-- W: the invariant by the turn and a measure; N: what the body is to reach -/
def tFor (wi : TI) (g : TG) (tb : TS) : TS := fun D σ H => wi σ H fun J H1 => ∃ W : Nat → Nat → St → Hp → Prop, (∃ m, W 0 m σ H1) ∧ ∀ i m σ H, W i m σ H →
  (J.stop i H ∧ D.nx σ H) ∨ (J.go i H ∧ ∃ N : St → Hp → Prop, (∀ σ' H', N σ' H' → ∃ m', m' < m ∧ W (i + 1) m' σ' H') ∧ ∀ x H', J.yld i H x H' → g x σ H' fun σ2 H2 => tb { D with nx := N, ct := N, bk := D.nx } σ2 H2)
/-- the records at fp as they stand -/
def pinsAt (fp : List Addr) (h : Heap) : List (Addr × Obj) := fp.filterMap fun b => (h.get? b).map fun o => (b, o)
theorem mem_pinsAt {fp : List Addr} {h : Heap} {b : Addr} {o : Obj} (hb : b ∈ fp) (e : h.get? b = some o) : (b, o) ∈ pinsAt fp h := List.mem_filterMap.mpr ⟨b, hb, by rw [e]; rfl⟩
theorem of_pinsAt {fp : List Addr} {h : Heap} {p : Addr × Obj} (hp : p ∈ pinsAt fp h) : p.1 ∈ fp ∧ h.get? p.1 = some p.2 := by
  obtain ⟨b, hb, e⟩ := List.mem_filterMap.mp hp
  cases q : h.get? b with
  | none => rw [q] at e; cases e
  | some o =>
    rw [q] at e
    have e' : (b, o) = p := Option.some.inj e
    subst e'
    exact ⟨hb, q⟩
theorem Inv.pinned {pins : List (Addr × Obj)} {σ : St} {H : Hp} {s : Shared} {fp : List Addr} (I : Inv X pins σ H s) (hf : ∀ b ∈ fp, FpOk X pins H b) (ho : ∀ b ∈ fp, ∃ o, s.heap.get? b = some o ∧ ∀ v, o.data ≠ .cell v) : Inv X (pins ++ pinsAt fp s.heap) σ H s :=
  I.pins_of fun p hp => (List.mem_append.mp hp).elim (fun z => I.pin p (List.mem_append_right _ z)) fun z => by
    obtain ⟨hb, e⟩ := of_pinsAt z
    obtain ⟨f0, f1, f2, _⟩ := hf p.1 hb
    obtain ⟨o, e', d⟩ := ho p.1 hb
    rw [e] at e'; cases e'
    exact ⟨e, f0, f1, f2, d⟩
theorem Inv.unpinned {pins pl : List (Addr × Obj)} {σ : St} {H : Hp} {s : Shared} (I : Inv X (pins ++ pl) σ H s) : Inv X pins σ H s := I.pins_of fun p hp => I.pin p (List.mem_append_right _ (List.mem_append_left _ hp))
theorem ps_for {iter : Expr} {body : List Stmt} {wi : TI} {g : TG} {tb : TS} {pos : Pos} (hp : PassesOwn (model X.prog X.w) X.A X.env X.xe) (hc : X.calm = true) (hi : PI X tg iter wi) (hg : PG X tg g) (hb : PSs X body tb)
    (hs : ∀ x, foldedSetIterable iter X.env x = pure x := by intro _; rfl) : PS X (.For tg iter body [] pos) (tFor wi g tb) := by
  intro pins s σ H D I h
  refine wpAny_For (thn (hi pins s σ H _ I h) fun v s1 h1 => thn h1 fun itv s2 h2 => ?_) hs
  obtain ⟨it, fp, tn, J, H2, e, I2, T, st2, f2, W, ⟨m0, w0⟩, turn⟩ := h2
  subst e
  -- what stays true of the iterator's objects through the loop
  have stat : ∀ {H' : Hp}, (∀ b ∈ fp, H' b = none) → ∀ b ∈ fp, FpOk X pins H' b := fun hn b hb => ⟨hn b hb, (f2 b hb).2⟩
  refine codeAny_forLoop_any (fun n s' => ∃ i σ' H', Inv X pins σ' H' s' ∧ tn i s'.heap ∧ (∀ b ∈ fp, H' b = none) ∧ W i n σ' H') ?_ m0 ⟨0, σ, H2, I2, st2, fun b hb => (f2 b hb).1, w0⟩
  rintro n s3 ⟨i, σ3, H3, I3, st3, fr3, w3⟩
  rcases turn i n σ3 H3 w3 with ⟨stop, qn⟩ | ⟨go, N, hN, step⟩
  · refine wpAny_passesOwn hp (thn (T.done X rfl rfl rfl hc i pins s3 σ3 H3 X.xe I3 (stat fr3) st3 stop) fun r s4 ⟨hr, I4⟩ => ?_)
    subst hr
    exact wpAny_execs_nil ⟨σ3, H3, I4, qn⟩
  · refine wpAny_passesOwn hp (thn (T.item X rfl rfl rfl hc i pins s3 σ3 H3 X.xe I3 (stat fr3) st3 go) fun r s4 ⟨u, hr, h4⟩ => ?_)
    subst hr
    refine wpAny_passesOwn hp (thn h4 fun _ s5 ⟨x, H5, I5, r5, y5, st5, fr5⟩ => ?_)
    have I5' := I5.pinned (stat fr5) (T.obj _ _ st5)
    refine wpAny_passesOwn hp (thn (hg _ s5 σ3 H5 x u _ I5' r5 (step x H5 y5)) fun _ s6 ⟨σ6, H6, I6, q6⟩ => ?_)
    refine wpAny_passesOwn hp (thn (hb _ s6 σ6 H6 _ I6 q6) fun f s7 q7 => ?_)
    have again : ∀ {σ7 : St} {H7 : Hp}, Inv X (pins ++ pinsAt fp s5.heap) σ7 H7 s7 → N σ7 H7 → ∃ m, m < n ∧ ∃ i σ' H', Inv X pins σ' H' s7 ∧ tn i s7.heap ∧ (∀ b ∈ fp, H' b = none) ∧ W i m σ' H' := fun {σ7 H7} I7 n7 => by
      obtain ⟨m', hm, w7⟩ := hN σ7 H7 n7
      refine ⟨m', hm, i + 1, σ7, H7, I7.unpinned, T.keep _ _ _ st5 fun b hb o e => (I7.pin (b, o) (List.mem_append_right _ (List.mem_append_right _ (mem_pinsAt hb e)))).1, fun b hb => ?_, w7⟩
      obtain ⟨o, e, d⟩ := T.obj _ _ st5 b hb
      exact (I7.pin (b, o) (List.mem_append_right _ (List.mem_append_right _ (mem_pinsAt hb e)))).2.1
    cases f with
    | next => obtain ⟨σ7, H7, I7, n7⟩ := q7; exact again I7 n7
    | cont => obtain ⟨σ7, H7, I7, n7⟩ := q7; exact again I7 n7
    | brk => obtain ⟨σ7, H7, I7, q7⟩ := q7; exact ⟨σ7, H7, I7.unpinned, q7⟩
    | ret v => obtain ⟨x7, σ7, H7, I7, r7, q7⟩ := q7; exact ⟨x7, σ7, H7, I7.unpinned, r7, q7⟩
end

/-- over a list that the body leaves as it is -/
theorem for_list {K : PySem.W.Frag} {a : Addr} {xs : List V} {g : TG} {tb : TS} {D : Ends} {σ : St} {H : Hp} (Pv : Nat → St → Hp → Prop) (h0 : Pv 0 σ H) (hl : ∀ i σ H, i ≤ xs.length → Pv i σ H → SqL K H a xs)
    (hs : ∀ i x σ H, xs[i]? = some x → Pv i σ H → g x σ H fun σ2 H2 => tb { D with nx := Pv (i + 1), ct := Pv (i + 1), bk := D.nx } σ2 H2) (hd : ∀ σ H, Pv xs.length σ H → D.nx σ H) :
    ∃ W : Nat → Nat → St → Hp → Prop, (∃ m, W 0 m σ H) ∧ ∀ i m σ H, W i m σ H →
      ((Itl K a).stop i H ∧ D.nx σ H) ∨ ((Itl K a).go i H ∧ ∃ N : St → Hp → Prop, (∀ σ' H', N σ' H' → ∃ m', m' < m ∧ W (i + 1) m' σ' H') ∧ ∀ x H', (Itl K a).yld i H x H' → g x σ H' fun σ2 H2 => tb { D with nx := N, ct := N, bk := D.nx } σ2 H2) := by
  refine ⟨fun i m σ H => m = xs.length - i ∧ i ≤ xs.length ∧ Pv i σ H, ⟨xs.length, by simp, Nat.zero_le _, h0⟩, ?_⟩
  rintro i m σ H ⟨rfl, hi, p⟩
  have q := hl i σ H hi p
  by_cases hlt : i < xs.length
  · refine .inr ⟨⟨xs, xs[i], q, by simp [hlt]⟩, Pv (i + 1), fun σ' H' p' => ⟨xs.length - (i + 1), by omega, rfl, hlt, p'⟩, fun x H' y => ?_⟩
    obtain ⟨e, y⟩ := y
    subst e
    exact hs i x σ _ (y xs q) p
  · have e : i = xs.length := by omega
    subst e
    exact .inl ⟨⟨xs, q, Nat.le_refl _⟩, hd σ H p⟩
theorem for_range {lo : Int} {n : Nat} {g : TG} {tb : TS} {D : Ends} {σ : St} {H : Hp} (Pv : Nat → St → Hp → Prop) (h0 : Pv 0 σ H)
    (hs : ∀ i σ H, i < n → Pv i σ H → g (.int (lo + i)) σ H fun σ2 H2 => tb { D with nx := Pv (i + 1), ct := Pv (i + 1), bk := D.nx } σ2 H2) (hd : ∀ σ H, Pv n σ H → D.nx σ H) :
    ∃ W : Nat → Nat → St → Hp → Prop, (∃ m, W 0 m σ H) ∧ ∀ i m σ H, W i m σ H →
      ((Itr lo n).stop i H ∧ D.nx σ H) ∨ ((Itr lo n).go i H ∧ ∃ N : St → Hp → Prop, (∀ σ' H', N σ' H' → ∃ m', m' < m ∧ W (i + 1) m' σ' H') ∧ ∀ x H', (Itr lo n).yld i H x H' → g x σ H' fun σ2 H2 => tb { D with nx := N, ct := N, bk := D.nx } σ2 H2) := by
  refine ⟨fun i m σ H => m = n - i ∧ i ≤ n ∧ Pv i σ H, ⟨n, by simp, Nat.zero_le _, h0⟩, ?_⟩
  rintro i m σ H ⟨rfl, hi, p⟩
  by_cases hlt : i < n
  · refine .inr ⟨hlt, Pv (i + 1), fun σ' H' p' => ⟨n - (i + 1), by omega, rfl, hlt, p'⟩, fun x H' y => ?_⟩
    obtain ⟨e, y⟩ := y
    subst e y
    exact hs i σ _ hlt p
  · have e : i = n := by omega
    subst e
    exact .inl ⟨Nat.le_refl _, hd σ H p⟩
end L2

namespace L2
open PySem PySem.Spec PyProof.Rows

abbrev R2 := V → V → Hp → VK → Prop
/-- a two-place operation on values: f is binaryOp op, inplaceOp op or compareOp op -/
def OpR (X : Cx) (f : Value → Value → Sem Value) (r : R2) : Prop :=
  ∀ (pins : List (Addr × Obj)) (s : Shared) (σ : St) (H : Hp) (x y : V) (v u : Value) (Q : VK), Inv X pins σ H s → RelV x v → RelV y u → r x y H Q →
    wpAny (model X.prog X.w) X.A (f v u) (EP X pins σ Q) X.xe s
/-- a one-place operation -/
def UnR (X : Cx) (f : Value → Sem Value) (r : V → Hp → VK → Prop) : Prop :=
  ∀ (pins : List (Addr × Obj)) (s : Shared) (σ : St) (H : Hp) (x : V) (v : Value) (Q : VK), Inv X pins σ H s → RelV x v → r x H Q →
    wpAny (model X.prog X.w) X.A (f v) (EP X pins σ Q) X.xe s
/-- a call of a value that is known (a builtin, a type) with values -/
def CallR (X : Cx) (f : Value) (r : List V → Hp → VK → Prop) : Prop :=
  ∀ (pins : List (Addr × Obj)) (s : Shared) (σ : St) (H : Hp) (xs : List V) (us : List Value) (Q : VK), Inv X pins σ H s → Vals xs us → r xs H Q →
    wpAny (model X.prog X.w) X.A (call f us) (EP X pins σ Q) X.xe s
/-- a value's truth -/
def TruR (X : Cx) (r : V → Hp → (Bool → Hp → Prop) → Prop) : Prop :=
  ∀ (pins : List (Addr × Obj)) (s : Shared) (σ : St) (H : Hp) (x : V) (v : Value) (Q : Bool → Hp → Prop), Inv X pins σ H s → RelV x v → r x H Q →
    wpAny (model X.prog X.w) X.A (truthy v) (TP X pins σ Q) X.xe s

def tOp (r : R2) (ta tb : TE) : TE := fun σ H Q => ta σ H fun x H1 => tb σ H1 fun y H2 => r x y H2 Q
def tUn (r : V → Hp → VK → Prop) (ta : TE) : TE := fun σ H Q => ta σ H fun x H1 => r x H1 Q
/-- ints in, under C, and a value out -/
def rI (C : Int → Int → Prop) (g : Int → Int → V) : R2 := fun x y H Q => ∃ i j, x = .int i ∧ y = .int j ∧ C i j ∧ Q (g i j) H
def rI0 (g : Int → Int → V) : R2 := fun x y H Q => ∃ i j, x = .int i ∧ y = .int j ∧ Q (g i j) H
def rU (g : Int → V) : V → Hp → VK → Prop := fun x H Q => ∃ i, x = .int i ∧ Q (g i) H

section
variable {X : Cx} {a b c : Expr} {ta tb tc : TE} {pos : Pos}

theorem binT (ha : PE X a ta) (hb : PE X b tb) {pins : List (Addr × Obj)} {s : Shared} {σ : St} {H : Hp} {R : V → V → Hp → Prop} (I : Inv X pins σ H s)
    (h : ta σ H fun x H1 => tb σ H1 fun y H2 => R x y H2) {Q : Value → Shared → Prop} {f : Value → Value → Sem Value}
    (hf : ∀ v u s2 x y H2, Inv X pins σ H2 s2 → RelV x v → RelV y u → R x y H2 → wpAny (model X.prog X.w) X.A (f v u) Q X.xe s2) :
    wpAny (model X.prog X.w) X.A (eval a X.env) (fun v s₁ => wpAny (model X.prog X.w) X.A (eval b X.env) (fun u s₂ => wpAny (model X.prog X.w) X.A (f v u) Q X.xe s₂) X.xe s₁) X.xe s := by
  refine thn (ha pins s σ H _ I h) fun v s1 ⟨x, H1, I1, r1, q1⟩ => ?_
  refine thn (hb pins s1 σ H1 _ I1 q1) fun u s2 ⟨y, H2, I2, r2, q2⟩ => ?_
  exact hf v u s2 x y H2 I2 r1 r2 q2

theorem pe_op {op : Operator} {r : R2} (ho : OpR X (binaryOp op) r) (ha : PE X a ta) (hb : PE X b tb) : PE X (.BinOp a op b pos) (tOp r ta tb) := by
  intro pins s σ H Q I h
  exact wpAny_BinOp (binT ha hb I h fun v u s2 x y H2 I2 rx ry q => ho pins s2 σ H2 x y v u Q I2 rx ry q)
theorem pe_un {op : UnaryOp} {r : V → Hp → VK → Prop} (ho : UnR X (unaryOp op) r) (ha : PE X a ta) : PE X (.UnaryOp op a pos) (tUn r ta) := by
  intro pins s σ H Q I h
  exact UnaryOp_ (thn (ha pins s σ H _ I h) fun v s1 ⟨x, H1, I1, r1, q1⟩ => ho pins s1 σ H1 x v Q I1 r1 q1)

theorem opI {f : Value → Value → Sem Value} {C : Int → Int → Prop} {g : Int → Int → Int}
    (rule : ∀ (i j : Int) (t u : Tok) (s : Shared) (Q : Value → Shared → Prop) (E : Value → Shared → Prop), C i j → Q (.int (g i j) s.toks) { s with toks := s.toks + 1 } → wpAny (model X.prog X.w) X.A (f (.int i t) (.int j u)) Q E s) :
    OpR X f (rI C fun i j => .int (g i j)) := by
  intro pins s σ H x y v u Q I rx ry h
  obtain ⟨i, j, rfl, rfl, hc, q⟩ := h
  obtain ⟨t, rfl⟩ := rx
  obtain ⟨t', rfl⟩ := ry
  exact rule i j t t' s _ _ hc ⟨.int (g i j), H, I.tok _, ⟨_, rfl⟩, q⟩
theorem opI0 {f : Value → Value → Sem Value} {g : Int → Int → Int}
    (rule : ∀ (i j : Int) (t u : Tok) (s : Shared) (Q : Value → Shared → Prop) (E : Value → Shared → Prop), Q (.int (g i j) s.toks) { s with toks := s.toks + 1 } → wpAny (model X.prog X.w) X.A (f (.int i t) (.int j u)) Q E s) :
    OpR X f (rI0 fun i j => .int (g i j)) := by
  intro pins s σ H x y v u Q I rx ry h
  obtain ⟨i, j, rfl, rfl, q⟩ := h
  obtain ⟨t, rfl⟩ := rx
  obtain ⟨t', rfl⟩ := ry
  exact rule i j t t' s _ _ ⟨.int (g i j), H, I.tok _, ⟨_, rfl⟩, q⟩
theorem opB0 {f : Value → Value → Sem Value} {g : Int → Int → Bool}
    (rule : ∀ (i j : Int) (t u : Tok) (s : Shared) (Q : Value → Shared → Prop) (E : Value → Shared → Prop), Q (.bool (g i j)) s → wpAny (model X.prog X.w) X.A (f (.int i t) (.int j u)) Q E s) :
    OpR X f (rI0 fun i j => .bl (g i j)) := by
  intro pins s σ H x y v u Q I rx ry h
  obtain ⟨i, j, rfl, rfl, q⟩ := h
  obtain ⟨t, rfl⟩ := rx
  obtain ⟨t', rfl⟩ := ry
  exact rule i j t t' s _ _ ⟨.bl (g i j), H, I, rfl, q⟩

def CMul (i j : Int) : Prop := (-(2 ^ 64) < i ∧ i < 2 ^ 64) ∨ (-(2 ^ 64) < j ∧ j < 2 ^ 64)
theorem CMul.ok {i j : Int} (h : CMul i j) : IntMulOk i j := by
  rcases h with ⟨h1, h2⟩ | ⟨h1, h2⟩
  · exact .of_left (intBits_le_64 h1 h2)
  · exact .of_right (intBits_le_64 h1 h2)

theorem op_add : OpR X (binaryOp .Add) (rI0 fun i j => .int (i + j)) := opI0 fun _ _ _ _ _ _ _ q => add_int q
theorem op_sub : OpR X (binaryOp .Sub) (rI0 fun i j => .int (i - j)) := opI0 fun _ _ _ _ _ _ _ q => sub_int q
theorem op_mul : OpR X (binaryOp .Mult) (rI CMul fun i j => .int (i * j)) := opI fun _ _ _ _ _ _ _ hc q => mul_int q hc.ok


theorem unI {f : Value → Sem Value} {g : Int → Int}
    (rule : ∀ (i : Int) (t : Tok) (s : Shared) (Q : Value → Shared → Prop) (E : Value → Shared → Prop), Q (.int (g i) s.toks) { s with toks := s.toks + 1 } → wpAny (model X.prog X.w) X.A (f (.int i t)) Q E s) :
    UnR X f (rU fun i => .int (g i)) := by
  intro pins s σ H x v Q I rx h
  obtain ⟨i, rfl, q⟩ := h
  obtain ⟨t, rfl⟩ := rx
  exact rule i t s _ _ ⟨.int (g i), H, I.tok _, ⟨_, rfl⟩, q⟩
theorem un_neg : UnR X (unaryOp .USub) (rU fun i => .int (-i)) := unI fun _ _ _ _ _ q => neg_int q

end

/-- the scalars that == tells apart as data does -/
def scal : V → V → Bool
  | .non, .non => true | .non, .int _ => true | .int _, .non => true | .non, .bl _ => true | .bl _, .non => true | .non, .str _ => true | .str _, .non => true
  | .int _, .int _ => true | .bl _, .bl _ => true | .str _, .str _ => true | .byt _, .byt _ => true
  | .int _, .str _ => true | .str _, .int _ => true | .bl _, .str _ => true | .str _, .bl _ => true
  | _, _ => false
def rEq : R2 := fun x y H Q => scal x y = true ∧ Q (.bl (decide (x = y))) H
def rNe : R2 := fun x y H Q => scal x y = true ∧ Q (.bl (!decide (x = y))) H

theorem dec_int {i j : Int} : decide (V.int i = V.int j) = (i == j) := by
  rw [Bool.eq_iff_iff]
  simp
theorem dec_bl {i j : Bool} : decide (V.bl i = V.bl j) = (i == j) := by
  rw [Bool.eq_iff_iff]
  simp
theorem dec_str {i j : Str} : decide (V.str i = V.str j) = (i == j) := by
  rw [Bool.eq_iff_iff]
  simp
theorem dec_byt {i j : Array UInt8} : decide (V.byt i = V.byt j) = (i.toList == j.toList) := by
  rw [Bool.eq_iff_iff]
  cases i
  cases j
  simp

section
variable {X : Cx} {a b c : Expr} {ta tb tc : TE} {pos : Pos}
theorem fin_bl {pins : List (Addr × Obj)} {σ : St} {H : Hp} {s : Shared} {Q : VK} {k k' : Bool} (I : Inv X pins σ H s) (q : Q (.bl k) H) (e : k = k') : EP X pins σ Q (.bool k') s := by
  subst e
  exact ⟨.bl k, H, I, rfl, q⟩
theorem op_eq : OpR X (compareOp .Eq) rEq := by
  intro pins s σ H x y v u Q I rx ry h
  obtain ⟨hs, q⟩ := h
  cases x with
  | non =>
    cases rx
    cases y with
    | non => cases ry; exact PySem.EqNone.eq_none_none (fin_bl I q (by simp))
    | bl j => cases ry; exact PySem.EqNone.eq_none_bool (fin_bl I q (by simp))
    | int j => obtain ⟨t', rfl⟩ := ry; exact PySem.EqNone.eq_none_int (fin_bl I q (by simp))
    | str j => obtain ⟨t', rfl⟩ := ry; exact PySem.EqNone.eq_none_str (fin_bl I q (by simp))
    | _ => exact absurd (show false = true from hs) Bool.false_ne_true
  | bl i =>
    cases rx
    cases y with
    | non => cases ry; exact PySem.EqNone.eq_bool_none (fin_bl I q (by simp))
    | bl j => cases ry; exact eq_bool (fin_bl I q dec_bl)
    | str j => obtain ⟨t', rfl⟩ := ry; exact PySem.EqMixed.eq_bool_str (fin_bl I q (by simp))
    | _ => exact absurd (show false = true from hs) Bool.false_ne_true
  | int i =>
    obtain ⟨t, rfl⟩ := rx
    cases y with
    | non => cases ry; exact PySem.EqNone.eq_int_none (fin_bl I q (by simp))
    | int j => obtain ⟨t', rfl⟩ := ry; exact eq_int (fin_bl I q dec_int)
    | str j => obtain ⟨t', rfl⟩ := ry; exact PySem.EqMixed.eq_int_str (fin_bl I q (by simp))
    | _ => exact absurd (show false = true from hs) Bool.false_ne_true
  | str i =>
    obtain ⟨t, rfl⟩ := rx
    cases y with
    | non => cases ry; exact PySem.EqNone.eq_str_none (fin_bl I q (by simp))
    | bl j => cases ry; exact PySem.EqMixed.eq_str_bool (fin_bl I q (by simp))
    | int j => obtain ⟨t', rfl⟩ := ry; exact PySem.EqMixed.eq_str_int (fin_bl I q (by simp))
    | str j => obtain ⟨t', rfl⟩ := ry; exact eq_str (fin_bl I q dec_str)
    | _ => exact absurd (show false = true from hs) Bool.false_ne_true
  | byt i =>
    obtain ⟨t, rfl⟩ := rx
    cases y with
    | byt j => obtain ⟨t', rfl⟩ := ry; exact PySem.W.eq_bytes (fin_bl I q dec_byt)
    | _ => exact absurd (show false = true from hs) Bool.false_ne_true
  | _ => cases y <;> exact absurd (show false = true from hs) Bool.false_ne_true
theorem op_ne : OpR X (compareOp .NotEq) rNe := by
  intro pins s σ H x y v u Q I rx ry h
  obtain ⟨hs, q⟩ := h
  cases x with
  | non =>
    cases rx
    cases y with
    | non => cases ry; exact PySem.EqNone.ne_none_none (fin_bl I q (by simp))
    | bl j => cases ry; exact PySem.EqNone.ne_none_bool (fin_bl I q (by simp))
    | int j => obtain ⟨t', rfl⟩ := ry; exact PySem.EqNone.ne_none_int (fin_bl I q (by simp))
    | str j => obtain ⟨t', rfl⟩ := ry; exact PySem.EqNone.ne_none_str (fin_bl I q (by simp))
    | _ => exact absurd (show false = true from hs) Bool.false_ne_true
  | bl i =>
    cases rx
    cases y with
    | non => cases ry; exact PySem.EqNone.ne_bool_none (fin_bl I q (by simp))
    | bl j => cases ry; exact ne_bool (fin_bl I q (congrArg not dec_bl))
    | str j => obtain ⟨t', rfl⟩ := ry; exact PySem.EqMixed.ne_bool_str (fin_bl I q (by simp))
    | _ => exact absurd (show false = true from hs) Bool.false_ne_true
  | int i =>
    obtain ⟨t, rfl⟩ := rx
    cases y with
    | non => cases ry; exact PySem.EqNone.ne_int_none (fin_bl I q (by simp))
    | int j => obtain ⟨t', rfl⟩ := ry; exact ne_int (fin_bl I q (congrArg not dec_int))
    | str j => obtain ⟨t', rfl⟩ := ry; exact PySem.EqMixed.ne_int_str (fin_bl I q (by simp))
    | _ => exact absurd (show false = true from hs) Bool.false_ne_true
  | str i =>
    obtain ⟨t, rfl⟩ := rx
    cases y with
    | non => cases ry; exact PySem.EqNone.ne_str_none (fin_bl I q (by simp))
    | bl j => cases ry; exact PySem.EqMixed.ne_str_bool (fin_bl I q (by simp))
    | int j => obtain ⟨t', rfl⟩ := ry; exact PySem.EqMixed.ne_str_int (fin_bl I q (by simp))
    | str j => obtain ⟨t', rfl⟩ := ry; exact ne_str (fin_bl I q (congrArg not dec_str))
    | _ => exact absurd (show false = true from hs) Bool.false_ne_true
  | byt i =>
    obtain ⟨t, rfl⟩ := rx
    cases y with
    | byt j => obtain ⟨t', rfl⟩ := ry; exact PySem.W.ne_bytes (fin_bl I q (congrArg not dec_byt))
    | _ => exact absurd (show false = true from hs) Bool.false_ne_true
  | _ => cases y <;> exact absurd (show false = true from hs) Bool.false_ne_true

theorem op_lt : OpR X (compareOp .Lt) (rI0 fun i j => .bl (decide (i < j))) := opB0 fun _ _ _ _ _ _ _ q => lt_int q
theorem op_gt : OpR X (compareOp .Gt) (rI0 fun i j => .bl (decide (j < i))) := opB0 fun _ _ _ _ _ _ _ q => gt_int q
theorem op_ge : OpR X (compareOp .GtE) (rI0 fun i j => .bl (decide (j ≤ i))) := opB0 fun _ _ _ _ _ _ _ q => ge_int q

/-- is None, is not None: the right side a value none -/
theorem op_isN : OpR X (compareOp .Is) (fun x y H Q => y = .non ∧ Q (.bl (decide (x = .non))) H) := by
  intro pins s σ H x y v u Q I rx ry h
  obtain ⟨rfl, q⟩ := h
  cases ry
  refine is_none_gen (fin_bl I q ?_)
  cases x <;> first
    | (cases rx; rfl)
    | (obtain ⟨t, rfl⟩ := rx; rfl)
theorem op_notN : OpR X (compareOp .IsNot) (fun x y H Q => y = .non ∧ Q (.bl (!decide (x = .non))) H) := by
  intro pins s σ H x y v u Q I rx ry h
  obtain ⟨rfl, q⟩ := h
  cases ry
  refine isnot_none_gen (fin_bl I q ?_)
  cases x <;> first
    | (cases rx; rfl)
    | (obtain ⟨t, rfl⟩ := rx; rfl)



theorem nomark (b : Expr) {op : CmpOp} (h : op ≠ .In := by decide) (h2 : op ≠ .NotIn := by decide) : behindInMarks op b = false := by
  have e1 : (op == CmpOp.In) = false := by cases op <;> first | rfl | exact absurd rfl h
  have e2 : (op == CmpOp.NotIn) = false := by cases op <;> first | rfl | exact absurd rfl h2
  cases b <;> simp [behindInMarks, e1, e2]
/-- a comparison as a value; hm: nomark b, or (for in, not in) by with_unfolding_all rfl -/
theorem pe_cmpR {op : CmpOp} {r : R2} (ho : OpR X (compareOp op) r) (ha : PE X a ta) (hb : PE X b tb) (hm : behindInMarks op b = false) : PE X (.Compare a [op] [b] pos) (tOp r ta tb) := by
  intro pins s σ H Q I h
  exact wpAny_Compare1 (binT ha hb I h fun v u s2 x y H2 I2 rx ry q => ho pins s2 σ H2 x y v u Q I2 rx ry q) hm
/-- a reading of a value as a test -/
def tTest (t : TE) : TT := fun σ H Q => t σ H fun x H' => ∃ k, x = .bl k ∧ Q k H'
theorem pt_cmpR {op : CmpOp} {r : R2} (ho : OpR X (compareOp op) r) (ha : PE X a ta) (hb : PE X b tb) (hm : behindInMarks op b = false) : PT X (.Compare a [op] [b] pos) (tTest (tOp r ta tb)) := by
  intro pins s σ H Q I h
  refine wpAny_isTrue_Compare1 (thn (ha pins s σ H _ I h) fun v s1 ⟨x, H1, I1, r1, q1⟩ => thn (hb pins s1 σ H1 _ I1 q1) fun u s2 ⟨y, H2, I2, r2, q2⟩ =>
    thn (ho pins s2 σ H2 x y v u _ I2 r1 r2 q2) fun c s3 ⟨z, H3, I3, r3, k, e, q3⟩ => ?_) hm
  subst e
  cases r3
  exact wpAny_truthy_bool ⟨H3, I3, q3⟩

/-- a value's truth by the abstract heap -/
def TruV (K : PySem.W.Frag) (x : V) (H : Hp) (k : Bool) : Prop :=
  match x with
  | .non => k = false
  | .bl b => k = b
  | .int i => k = (i != 0)
  | .str y => y.length ≤ sizeLine ∧ k = ((y.length : Int) != 0)
  | .byt y => y.size ≤ sizeLine ∧ k = ((y.size : Int) != 0)
  | .ref p => (∃ xs, SqL K H p xs ∧ k = !xs.isEmpty) ∨ (∃ xs, SqT K H p xs ∧ k = !xs.isEmpty) ∨ ∃ kvs, H p = some (.dK kvs) ∧ k = !kvs.isEmpty
  | _ => False
theorem isEmpty_kv {κ : Type} {kvs : List (κ × V)} {vs : List (κ × Value)} (r : KV kvs vs) : (!vs.isEmpty) = !kvs.isEmpty := by
  cases r <;> rfl
theorem isEmpty_of {xs : List V} {its : List Value} (r : Vals xs its) : (!its.toArray.isEmpty) = !xs.isEmpty := by
  cases r <;> simp
theorem line63 : (sizeLine : Nat) < 2 ^ 63 := by rw [sizeLine_eq]; decide
theorem tru_ok : TruR X (fun x H Q => ∃ k, TruV X.K x H k ∧ Q k H) := by
  intro pins s σ H x v Q I rx h
  obtain ⟨k, e, q⟩ := h
  have hl := line63
  have hs : sizeLine = 16777216 := sizeLine_eq
  cases x with
  | non =>
    cases rx
    have e' : k = false := e
    subst e'
    exact truthy_none ⟨H, I, q⟩
  | bl b =>
    cases rx
    have e' : k = b := e
    subst e'
    exact wpAny_truthy_bool ⟨H, I, q⟩
  | int i =>
    obtain ⟨t, rfl⟩ := rx
    have e' : k = (i != 0) := e
    subst e'
    exact PySem.P.truthy_int ⟨H, I, q⟩
  | str y =>
    obtain ⟨t, rfl⟩ := rx
    obtain ⟨hy, e'⟩ : y.length ≤ sizeLine ∧ k = ((y.length : Int) != 0) := e
    subst e'
    exact PySem.P.truthy_str (by omega) ⟨H, I.tok _, q⟩
  | byt y =>
    obtain ⟨t, rfl⟩ := rx
    obtain ⟨hy, e'⟩ : y.size ≤ sizeLine ∧ k = ((y.size : Int) != 0) := e
    subst e'
    exact PySem.W.truthy_bytes (by omega) ⟨H, I.tok _, q⟩
  | ref p =>
    cases rx
    have e' : (∃ xs, SqL X.K H p xs ∧ k = !xs.isEmpty) ∨ (∃ xs, SqT X.K H p xs ∧ k = !xs.isEmpty) ∨ ∃ kvs, H p = some (.dK kvs) ∧ k = !kvs.isEmpty := e
    rcases e' with ⟨xs, hx, e'⟩ | ⟨xs, hx, e'⟩ | ⟨kvs, hx, e'⟩
    · subst e'
      obtain ⟨its, r, pl, hz⟩ := I.list hx
      have hlen := r.length
      exact wpAny_truthy_list pl.isList (by simp only [List.size_toArray]; omega) ⟨H, I.tok _, by rw [isEmpty_of r]; exact q⟩
    · subst e'
      obtain ⟨its, r, pl, hz⟩ := I.tuple hx
      have hlen := r.length
      exact truthy_tuple pl (by simp only [List.size_toArray]; omega) ⟨H, I.tok _, by rw [isEmpty_of r]; exact q⟩
    · subst e'
      obtain ⟨hz, hS, vs, r, m⟩ : kvs.length ≤ sizeLine ∧ (p == sysModules) = false ∧ ∃ vs, KV kvs vs ∧ s.heap.DictOf (mixKind X.prog X.w) p vs := I.hok p _ hx
      have hlen : kvs.length = vs.length := Paired.length r
      exact wpAny_truthy_dict hS m (by omega) ⟨H, I.tok _, by rw [isEmpty_kv r]; exact q⟩
  | _ => exact (show False from e).elim



theorem vals1 {x : V} {us : List Value} (r : Vals [x] us) : ∃ u, us = [u] ∧ RelV x u := by
  cases r with
  | cons r1 r2 => cases r2; exact ⟨_, rfl, r1⟩
end
end L2

namespace L2
open PySem PySem.Spec PyProof.Rows

structure ObjM (h : Heap) (x dx C : Addr) (mA : Str → Option Value) : Prop where
  obj : h.get? x = some (PySem.W.instObj C dx)
  ns : h.Ns1 dx mA
  ne : dx ≠ x

theorem lookIn_ns {h : Heap} {dx : Addr} {mA : Str → Option Value} (n : h.Ns1 dx mA) : ∃ od, h.get? dx = some od ∧ ∀ name, PySem.W.lookIn name od = some (mA name) := by
  obtain ⟨o, es, ep, ho, hd, hk, _, hm⟩ := n
  refine ⟨o, ho, fun name => ?_⟩
  have e := hm name
  unfold nsFind findBy at e
  rw [← Array.find?_toList] at e
  unfold PySem.W.lookIn
  rw [hd]
  dsimp only
  split
  · rename_i y q
    rw [q] at e
    exact congrArg some e
  · rename_i q
    rw [q] at e
    have a : es.toList.any (·.refKey) = false := by
      rw [List.any_eq_false]
      intro y hy
      obtain ⟨z, t, hkey⟩ := hk y (Array.mem_toList_iff.mp hy)
      simp [DictEntry.refKey, hkey]
    have a' : ¬ es.toList.any (·.refKey) = true := by rw [a]; exact Bool.false_ne_true
    rw [if_neg a']
    exact congrArg some e

theorem ObjM.look {h : Heap} {x dx C : Addr} {mA : Str → Option Value} (I : ObjM h x dx C mA) : ∃ od, PySem.W.InstAt h x (PySem.W.instObj C dx) C (some od) ∧ ∀ name, PySem.W.lookIn name od = some (mA name) :=
  let ⟨od, ho, hl⟩ := lookIn_ns I.ns
  ⟨od, ⟨I.obj, rfl, rfl, ho⟩, hl⟩

section
variable {prog : Program} {w : World} {A : Around} {E : Value → Shared → Prop} {s : Shared} {K : PySem.W.Frag} {x dx C f : Addr} {mA : Str → Option Value} {name : Str} {v : Value}

theorem get_map {expr : Bool} {Q : Value → Shared → Prop} (X : K.In s.heap) (I : ObjM s.heap x dx C mA) (hg : PySem.W.plainGet K C name = true) (hh : PySem.W.hasDictIn K C = true)
    (ha : PySem.W.findIn K (.ref C) name = some none) (hv : mA name = some v) (hv' : PySem.W.handedIn v = true) (h : Q v { s with toks := s.toks + 1 }) :
    wpAny (model prog w) A (getAttr (.ref x) name expr) Q E s := by
  obtain ⟨od, J, hl⟩ := I.look
  exact PySem.W.get_value X J (PySem.W.plainGet_of hg).1 (PySem.W.findObj_own hh ha rfl (by rw [hl, hv])) hv' h


theorem get_meth {pl : Sem Bool} {Q : Value × List Value → Shared → Prop} (X : K.In s.heap) (I : ObjM s.heap x dx C mA) (hg : PySem.W.plainGet K C name = true)
    (hf : PySem.W.findIn K (.ref C) name = some (some (.ref f))) (ht : PySem.W.isFn K (.ref f) = true) (hv : mA name = none) (h : Q (.ref f, [.ref x]) s) :
    wpAny (model prog w) A (getMethod (.ref x) name pl) Q E s := by
  obtain ⟨od, J, hl⟩ := I.look
  exact PySem.W.method_fn X J (PySem.W.plainGet_of hg).1 (PySem.W.plainGet_of hg).2 hf (beq_iff_eq.mp ht) (by show (PySem.W.lookIn name od).map (·.isSome) = some false; rw [hl, hv]; rfl) h

theorem set_map {ns : List Str} {Q : Unit → Shared → Prop} (X : K.In s.heap) (I : ObjM s.heap x dx C mA)
    (hs : PySem.W.findIn K (.ref C) "__setattr__" = some (some (.builtin "object.__setattr__"))) (hp : PySem.W.plainOver K C = true) (ht : PySem.W.takerIn K C name = some none) (hh : PySem.W.hasDictIn K C = true)
    (hw : PySem.Within mA ns) (hsz : ns.length ≤ sizeLine)
    (h : ∀ h', ObjM h' x dx C (fun y => if y = name then some v else mA y) → Heap.SameBut dx s.heap h' → Q () { s with heap := h', toks := s.toks + 2 }) :
    wpAny (model prog w) A (setAttr (.ref x) name v) Q E s := by
  obtain ⟨od, J, hl⟩ := I.look
  refine PySem.W.set_plain X J hs (PySem.W.osa_open (s := { s with toks := s.toks + 1 }) (r := none) X J hp ht fun b => ?_)
  obtain ⟨cd, hc, hd'⟩ := PySem.W.any_some hh
  have hx : s.heap.get? x = some ⟨.ref C, some dx, .plain, #[]⟩ := I.obj
  refine wpAny_bind (wpAny_pure (wpAny_bind (wpAny_bind (wpAny_loadPart hx (wpAny_bind (PySem.W.Looks.here (s := { s with toks := s.toks + 1 }) (PySem.W.looks_clsIn X hc) ?_))))))
  rw [hd']
  refine wpAny_pure (a := some dx) (wpAny_bind (wpAny_pure (wpAny_bind ?_)))
  refine wpAny_nsSet1 (s := { s with toks := s.toks + 1 }) I.ns fun h' hn2 hs2 => ?_
  obtain ⟨oD, esD, epD, hoD, hdD, hcD⟩ := hn2.count (PySem.Within.cons name v hw)
  refine wpAny_bind (wpAny_lookBehind hoD (by rw [hdD]; exact pastItsLine_dict (Nat.le_trans hcD (by rw [List.length_cons]; omega))) ?_)
  exact wpAny_pure (h _ ⟨(hs2.2 _ (Ne.symm I.ne)).trans I.obj, hn2, I.ne⟩ hs2)

/-- C(..): the dict at the heap's end, the instance behind it; then its __init__ -/
theorem make_map {R : Result → Shared → Prop} {vs : List Value} {kw : List (Str × Value)} (X : K.In s.heap) (hm : PySem.W.makesIn K C = true)
    (hi : PySem.W.findIn K (.ref C) "__init__" = some (some (.ref f))) (hf : PySem.W.typeIn K (.ref f) = some (.type "function"))
    (h : codeAny (model prog w) (A.under (.builtin "type.__call__" ⟨.ref C :: vs, kw⟩)) (.call (.ref f) ⟨.ref (s.heap.objs.size + 1) :: vs, kw⟩) (PySem.W.InitBack (s.heap.objs.size + 1) R)
      { s with heap := (s.heap.push PySem.W.emptyDict).push (PySem.W.instObj C s.heap.objs.size) }) :
    codeAny (model prog w) A (.call (.ref C) ⟨vs, kw⟩) R s := by
  obtain ⟨hh, g, d, t, os⟩ := s
  exact PySem.W.make_core (PySem.W.makes_of X hm) (PySem.W.looks_findIn X hi) (fun self => PySem.W.bind_fn X self hf) (.inl rfl) h
end

def putF (f : Str) (v : V) : List (Str × V) → List (Str × V)
  | [] => [(f, v)]
  | (g, x) :: r => if g = f then (g, v) :: r else (g, x) :: putF f v r
theorem lookup_putF (f g : Str) (v : V) : ∀ fs : List (Str × V), (putF f v fs).lookup g = if g = f then some v else fs.lookup g
  | [] => by
    show List.lookup g [(f, v)] = _
    by_cases h : g = f
    · have hb : (g == f) = true := beq_iff_eq.mpr h
      simp only [List.lookup, hb, if_pos h]
    · have hb : (g == f) = false := beq_eq_false_iff_ne.mpr h
      simp only [List.lookup, hb, if_neg h]
  | (k, x) :: r => by
    have ih := lookup_putF f g v r
    rw [show putF f v ((k, x) :: r) = (if k = f then (k, v) :: r else (k, x) :: putF f v r) from rfl]
    by_cases hk : k = f
    · rw [if_pos hk]
      by_cases h : g = k
      · have hb : (g == k) = true := beq_iff_eq.mpr h
        simp only [List.lookup, hb, if_pos (h.trans hk)]
      · have hb : (g == k) = false := beq_eq_false_iff_ne.mpr h
        simp only [List.lookup, hb, if_neg (fun e : g = f => h (e.trans hk.symm))]
    · rw [if_neg hk]
      by_cases h : g = k
      · have hb : (g == k) = true := beq_iff_eq.mpr h
        simp only [List.lookup, hb, if_neg (fun e : g = f => hk (h.symm.trans e))]
      · have hb : (g == k) = false := beq_eq_false_iff_ne.mpr h
        simp only [List.lookup, hb]
        exact ih
theorem keys_putF (f : Str) (v : V) : ∀ fs : List (Str × V), f ∈ (putF f v fs).map (·.1) ∧ ∀ g, g ∈ fs.map (·.1) → g ∈ (putF f v fs).map (·.1)
  | [] => ⟨by simp [putF], fun g h => by simp at h⟩
  | (k, x) :: r => by
    obtain ⟨i1, i2⟩ := keys_putF f v r
    rw [show putF f v ((k, x) :: r) = (if k = f then (k, v) :: r else (k, x) :: putF f v r) from rfl]
    by_cases hk : k = f
    · rw [if_pos hk]
      subst hk
      exact ⟨by simp, fun g h => by simpa using h⟩
    · rw [if_neg hk]
      refine ⟨?_, fun g h => ?_⟩
      · rw [List.map_cons]
        exact List.mem_cons_of_mem _ i1
      · rw [List.map_cons] at h ⊢
        rcases List.mem_cons.mp h with e | e
        · exact List.mem_cons.mpr (.inl e)
        · exact List.mem_cons_of_mem _ (i2 g e)
theorem length_putF (f : Str) (v : V) : ∀ fs : List (Str × V), (putF f v fs).length ≤ fs.length + 1
  | [] => by simp [putF]
  | (k, x) :: r => by
    have ih := length_putF f v r
    rw [show putF f v ((k, x) :: r) = (if k = f then (k, v) :: r else (k, x) :: putF f v r) from rfl]
    by_cases hk : k = f
    · rw [if_pos hk, List.length_cons, List.length_cons]; omega
    · rw [if_neg hk, List.length_cons, List.length_cons]; omega

theorem RelO.some_of {v : V} {o : Option Value} (r : RelO (some v) o) : ∃ u, o = some u ∧ RelV v u := by
  cases o with
  | none => exact (show False from r).elim
  | some u => exact ⟨u, rfl, r⟩
theorem RelO.none_of {o : Option Value} (r : RelO none o) : o = none := by
  cases o with
  | none => rfl
  | some u => exact (show False from r).elim
theorem handed_of {v : V} {u : Value} (r : RelV v u) : PySem.W.handedIn u = true := by
  cases v with
  | non => cases (show u = Value.none from r); rfl
  | bl b => cases (show u = Value.bool b from r); rfl
  | int i => obtain ⟨t, e⟩ := (show ∃ t, u = Value.int i t from r); cases e; rfl
  | str x => obtain ⟨t, e⟩ := (show ∃ t, u = Value.str x t from r); cases e; rfl
  | byt b => obtain ⟨t, e⟩ := (show ∃ t, u = Value.bytes b t from r); cases e; rfl
  | flt b => obtain ⟨t, e⟩ := (show ∃ t, u = Value.float b t from r); cases e; rfl
  | ref a => cases (show u = Value.ref a from r); rfl
  | ty n => cases (show u = Value.type n from r); rfl

section
variable {P : Program} {w : World} {H H' : Hp} {h h' : Heap} {a C dx : Addr} {fs fs' : List (Str × V)}
theorem ins_get (hok : HOk P w H h) (e : H a = some (.ins C dx fs)) : ∃ mA, ObjM h a dx C mA ∧ (∀ f, RelO (fs.lookup f) (mA f)) ∧ PySem.Within mA (fs.map (·.1)) ∧ fs.length ≤ 1000 ∧ H dx = some (.own a) := by
  obtain ⟨d, z, ne, ob, mA, n, r, q⟩ := (show ObjOk P w H h a (.ins C dx fs) from hok a _ e)
  exact ⟨mA, ⟨ob, n, ne⟩, r, q, z, d⟩
end

structure Cls (K : PySem.W.Frag) (C : Addr) : Prop where
  pg : PySem.W.plainGet K C Str.empty = true
  hd : PySem.W.hasDictIn K C = true
  po : PySem.W.plainOver K C = true
  sa : PySem.W.findIn K (.ref C) "__setattr__" = some (some (.builtin "object.__setattr__"))
theorem Cls.get {K : PySem.W.Frag} {C : Addr} (c : Cls K C) (f : Str) : PySem.W.plainGet K C f = true := c.pg
/-- no class of it has the name -/
def NoAttr (K : PySem.W.Frag) (C : Addr) (f : Str) : Prop := PySem.W.findIn K (.ref C) f = some none
theorem NoAttr.taker {K : PySem.W.Frag} {C : Addr} {f : Str} (n : NoAttr K C f) : PySem.W.takerIn K C f = some none := by
  unfold PySem.W.takerIn
  rw [show PySem.W.findIn K (.ref C) f = some none from n]
  rfl
/-- a method: a plain def of the class or of one above it -/
structure Meth (K : PySem.W.Frag) (C : Addr) (m : Str) (f : Addr) : Prop where
  at_ : PySem.W.findIn K (.ref C) m = some (some (.ref f))
  fn : PySem.W.isFn K (.ref f) = true
  kp : PySem.W.keepIn K (.ref f) = true

section
variable {X : Cx} {pins : List (Addr × Obj)} {σ : St} {H : Hp} {s : Shared} {a C dx : Addr} {fs : List (Str × V)} {f : Str} {v : V} {A : Around} {E : Value → Shared → Prop}

theorem getattr_ok {b : Bool} {Q : Value → Shared → Prop} (I : Inv X pins σ H s) (e : H a = some (.ins C dx fs)) (c : Cls X.K C) (n : NoAttr X.K C f) (l : fs.lookup f = some v)
    (h : ∀ u s', Inv X pins σ H s' → RelV v u → Q u s') : wpAny (model X.prog X.w) A (getAttr (.ref a) f b) Q E s := by
  obtain ⟨mA, O, r, _, _, _⟩ := ins_get I.hok e
  obtain ⟨u, hu, ru⟩ := RelO.some_of (v := v) (o := mA f) (by rw [← l]; exact r f)
  exact get_map I.kIn O (c.get f) c.hd n hu (handed_of ru) (h u _ (I.tok _) ru)


theorem getmeth_ok {m : Str} {g : Addr} {pl : Sem Bool} {Q : Value × List Value → Shared → Prop} (I : Inv X pins σ H s) (e : H a = some (.ins C dx fs)) (c : Cls X.K C) (k : Meth X.K C m g) (l : fs.lookup m = none)
    (h : Q (.ref g, [.ref a]) s) : wpAny (model X.prog X.w) A (getMethod (.ref a) m pl) Q E s := by
  obtain ⟨mA, O, r, _, _, _⟩ := ins_get I.hok e
  have hn : mA m = none := RelO.none_of (by rw [← l]; exact r m)
  exact get_meth I.kIn O (c.get m) k.at_ k.fn hn h

theorem setattr_ok {y : V} {u : Value} {Q : Unit → Shared → Prop} (I : Inv X pins σ H s) (e : H a = some (.ins C dx fs)) (c : Cls X.K C) (n : NoAttr X.K C f) (hl : fs.length < 1000) (ry : RelV y u)
    (h : ∀ s', Inv X pins σ (upd H a (.ins C dx (putF f y fs))) s' → Q () s') : wpAny (model X.prog X.w) A (setAttr (.ref a) f u) Q E s := by
  obtain ⟨mA, O, r, wi, _, ho⟩ := ins_get I.hok e
  have hz : (fs.map (·.1)).length ≤ sizeLine := by rw [List.length_map, sizeLine_eq]; omega
  refine set_map I.kIn O c.sa c.po n.taker c.hd wi hz fun h' O' sb => h _ ?_
  have hd : ∃ o, h'.get? dx = some o := let ⟨o, _, _, e', _⟩ := O'.ns; ⟨o, e'⟩
  refine I.write (x := a) (e := dx) (by rw [e]; exact True.intro) (.inr ho) (fun b q hb z => (sb.2 b hb).trans z) hd ?_
  refine ⟨by rw [upd_ne O.ne]; exact ho, ?_, O.ne, O'.obj, _, O'.ns, fun g => ?_, fun g hg => ?_⟩
  · have := length_putF f y fs; omega
  · show RelO ((putF f y fs).lookup g) (if g = f then some u else mA g)
    rw [lookup_putF]
    by_cases q : g = f
    · rw [if_pos q, if_pos q]; exact ry
    · rw [if_neg q, if_neg q]; exact r g
  · by_cases q : g = f
    · rw [q]; exact (keys_putF f y fs).1
    · refine (keys_putF f y fs).2 g (wi g fun z => hg ?_)
      show (if g = f then some u else mA g) = none
      rw [if_neg q]; exact z

/-- a new instance, tracked, without attributes -/
theorem Inv.made (I : Inv X pins σ H s) : Inv X pins σ (upd (upd H s.heap.objs.size (.own (s.heap.objs.size + 1))) (s.heap.objs.size + 1) (.ins C s.heap.objs.size []))
    { s with heap := (s.heap.push PySem.W.emptyDict).push (PySem.W.instObj C s.heap.objs.size) } := by
  have e1 : (s.heap.push PySem.W.emptyDict).get? s.heap.objs.size = some PySem.W.emptyDict := Heap.get?_push_size s.heap rfl
  have e2 : ((s.heap.push PySem.W.emptyDict).push (PySem.W.instObj C s.heap.objs.size)).get? (s.heap.objs.size + 1) = some (PySem.W.instObj C s.heap.objs.size) := by
    have := Heap.get?_push_size (s.heap.push PySem.W.emptyDict) (o := PySem.W.instObj C s.heap.objs.size) rfl
    rwa [Heap.size_push] at this
  have e3 : (s.heap.push PySem.W.emptyDict).Ns s.heap.objs.size (fun _ => none) := ⟨PySem.W.emptyDict, #[], _, e1, rfl, (fun e he => absurd he (by simp)), fun _ => rfl⟩
  have I1 := I.laid (a := s.heap.objs.size) (o := .own (s.heap.objs.size + 1)) (h' := s.heap.push PySem.W.emptyDict) (t' := s.toks) (fun b u q => Heap.get?_push_of_some _ q) (Nat.le_refl _) ⟨_, e1⟩
  refine I1.laid (a := s.heap.objs.size + 1) (o := .ins C s.heap.objs.size []) (t' := s.toks) (fun b u q => Heap.get?_push_of_some _ q) (Nat.le_of_eq (Heap.size_push _ _)) ?_
  have ne : s.heap.objs.size ≠ s.heap.objs.size + 1 := Nat.ne_of_lt (Nat.lt_succ_self _)
  refine ⟨by rw [upd_ne ne, upd_same], Nat.zero_le _, ne, e2, fun _ => none, (Heap.Ns1.of_empty e3).at fun o q => Heap.get?_push_of_some _ q, fun _ => True.intro, fun y hy => absurd rfl hy⟩

/-- e.f where nothing but the object is asked: through attributeBase (super) and the last hold -/
theorem attr_of {prog : Program} {w : World} {env : Env} {e : Expr} {f : Str} {pos : Pos} {s : Shared} {Q : Value → Shared → Prop} (hb : attributeBase e f env (eval e env) = eval e env)
    (h : wpAny (model prog w) A (eval e env) (fun o s₁ => wpAny (model prog w) A (getAttr o f true) Q E s₁) E s) : wpAny (model prog w) A (eval (.Attribute e f pos) env) Q E s :=
  Attribute_any_ h (by rw [arm_eval_Attribute, hb])
end

/-- e.f, an attribute of the instance -/
def tFld (K : PySem.W.Frag) (ta : TE) (f : Str) : TE := fun σ H Q => ta σ H fun x H1 => ∃ a C dx fs v, x = .ref a ∧ H1 a = some (.ins C dx fs) ∧ Cls K C ∧ NoAttr K C f ∧ fs.lookup f = some v ∧ Q v H1
/-- e.f = value -/
def sFld (K : PySem.W.Frag) (ta tv : TE) (f : Str) : TS := fun D σ H => tv σ H fun y H1 => ta σ H1 fun x H2 => ∃ a C dx fs, x = .ref a ∧ H2 a = some (.ins C dx fs) ∧ Cls K C ∧ NoAttr K C f ∧ fs.length < 1000 ∧
  D.nx σ (upd H2 a (.ins C dx (putF f y fs)))

section
variable {X : Cx} {o e value : Expr} {f : Str} {pos pos' tpos : Pos} {ta tv : TE}
theorem pe_fld (he : PE X e ta) (hb : attributeBase e f X.env (eval e X.env) = eval e X.env) : PE X (.Attribute e f pos) (tFld X.K ta f) := by
  intro pins s σ H Q I h
  refine attr_of hb (thn (he pins s σ H _ I h) fun u s1 ⟨x, H1, I1, rx, a, C, dx, fs, v, ex, ea, c, n, l, q⟩ => ?_)
  subst ex
  obtain rfl : u = Value.ref a := rx
  exact getattr_ok I1 ea c n l fun u' s2 I2 ru => ⟨v, H1, I2, ru, q⟩
theorem ps_fld (ha : PE X o ta) (hv : PE X value tv) (hs : swapsWith value (some (.Attribute o f pos')) pos.line X.env = pure false) : PS X (.Assign [.Attribute o f pos'] value pos) (sFld X.K ta tv f) := by
  intro pins s σ H D I h
  refine plainObj_wpAny_Assign_Attribute (thn (hv pins s σ H _ I h) fun u s1 ⟨y, H1, I1, ry, q⟩ => thn (ha pins s1 σ H1 _ I1 q) fun ov s2 ⟨x, H2, I2, rx, a, C, dx, fs, ex, ea, c, n, l, q2⟩ => ?_) hs
  subst ex
  obtain rfl : ov = Value.ref a := rx
  exact setattr_ok I2 ea c n l ry fun s3 I3 => ⟨σ, _, I3, q2⟩

/-- what is between an instance and its method: the tree of a method call -/
theorem methcall_of {pl : Sem Bool} {m : Str} {apos : Pos} {args : List Expr} {pins : List (Addr × Obj)} {s : Shared} {σ : St} {H : Hp} {Q : Value → Shared → Prop} {te : TE} (he : PE X e te) (I : Inv X pins σ H s)
    (h : te σ H fun x H1 => ∃ a C dx fs g, x = .ref a ∧ H1 a = some (.ins C dx fs) ∧ Cls X.K C ∧ Meth X.K C m g ∧ fs.lookup m = none ∧
      ∀ s1, Inv X pins σ H1 s1 → wpAny (model X.prog X.w) X.A (callWith pos (.ref g) [.ref a] (backTo pos (starEach args X.env)) (backToKw pos (keywordEach [] X.env))) Q X.xe s1)
    (ht : eval (.Call (.Attribute e m apos) args [] pos) X.env = (do
      let ov ← eval e X.env
      standAt apos.atName
      let (f, first) ← holding [ov] (getMethod ov m pl)
      callWith pos f first (backTo pos (starEach args X.env)) (backToKw pos (keywordEach [] X.env)))) :
    wpAny (model X.prog X.w) X.A (eval (.Call (.Attribute e m apos) args [] pos) X.env) Q X.xe s := by
  refine PySem.W.methodCall_KW (pl := pl) (thn (he pins s σ H _ I h) fun u s1 ⟨x, H1, I1, rx, a, C, dx, fs, g, ex, ea, c, k, l, q⟩ => ?_) ht
  subst ex
  obtain rfl : u = Value.ref a := rx
  exact getmeth_ok I1 ea c k l (q s1 I1)
end

section
variable {X : Cx} {pins : List (Addr × Obj)} {σ : St} {H : Hp} {s : Shared} {A : Around} {E : Value → Shared → Prop} {Q : Value → Shared → Prop} {c : Value} {b : Bool}
end
end L2

namespace L2
open PySem PySem.Spec PyProof.Rows

structure Room (k : Nat) (A : Around) : Prop where
  hd : A.handled = none
  dp : A.depth + 3 * k + 5 < recursionLimit
  un : A.units + 16 * k + 200 < cLine
theorem Room.mono {j k : Nat} {A : Around} (r : Room k A) (h : j ≤ k) : Room j A := ⟨r.hd, by have := r.dp; omega, by have := r.un; omega⟩
theorem Room.deeper {k : Nat} {A : Around} (r : Room (k + 1) A) (env : Env) : Room k (A.deeper env) :=
  ⟨r.hd, by have := r.dp; show A.depth + 1 + 3 * k + 5 < _; omega, by have := r.un; show A.units + 3 + 16 * k + 200 < _; omega⟩
theorem make_depth {A : Around} {C : Addr} {us : List Value} {kw : List (Str × Value)} : (A.under (.builtin "type.__call__" ⟨.ref C :: us, kw⟩)).depth = A.depth + 1 := by
  first | rfl | simp [Around.under, Code.weight, Code.isCreation, Code.isGuard, Code.isCaller, Code.frames, Code.isFrame, guardIds]
theorem make_units {A : Around} {C : Addr} {us : List Value} {kw : List (Str × Value)} : (A.under (.builtin "type.__call__" ⟨.ref C :: us, kw⟩)).units = A.units + 1 := by
  first | rfl | simp [Around.under, Code.cUnits, Code.frames, Code.isFrame]
theorem Room.make {k : Nat} {A : Around} (r : Room (k + 1) A) (C : Addr) (us : List Value) (kw : List (Str × Value)) : Room k (A.under (.builtin "type.__call__" ⟨.ref C :: us, kw⟩)) :=
  ⟨r.hd, by have := r.dp; rw [make_depth]; omega, by have := r.un; rw [make_units]; omega⟩
theorem Room.depth {k : Nat} {A : Around} (r : Room k A) : A.depth < recursionLimit := by have := r.dp; omega
theorem Room.units {k : Nat} {A : Around} (r : Room k A) : A.units + 64 < cLine := by have := r.un; omega

def tNil : TA := fun _ H Q => Q [] H
def tCons (ta : TE) (tr : TA) : TA := fun σ H Q => ta σ H fun x H1 => tr σ H1 fun xs H2 => Q (x :: xs) H2
section
variable {X : Cx} {e : Expr} {es : List Expr} {te : TE} {t : TA} {pos : Pos}
theorem pa_nil : PA X [] tNil := fun _ _ _ _ H Q I h => Calls.spliced_nil ⟨[], H, I, .nil, h⟩
theorem pa_cons (ha : PE X e te) (hr : PA X es t) (hs : starEach (e :: es) X.env = (false, eval e X.env) :: starEach es X.env := by rfl) : PA X (e :: es) (tCons te t) := by
  intro pos pins s σ H Q I h
  rw [hs]
  show wpAny _ _ (spliced ((false, eval e X.env) :: backTo pos (starEach es X.env))) _ _ s
  refine Calls.spliced_cons (thn (ha pins s σ H _ I h) fun u s1 ⟨x, H1, I1, r1, q1⟩ => ?_)
  exact thn (hr pos pins s1 σ H1 _ I1 q1) fun us s2 ⟨xs, H2, I2, r2, q2⟩ => ⟨x :: xs, H2, I2, .cons r1 r2, q2⟩

/-- a tuple, a list of written items -/
def tTup (t : TA) : TE := fun σ H Q => t σ H fun xs H1 => xs.length ≤ sizeLine ∧ ∀ p, H1 p = none → Q (.ref p) (upd H1 p (.tup xs))
def tLst (t : TA) : TE := fun σ H Q => t σ H fun xs H1 => xs.length ≤ sizeLine ∧ ∀ p, H1 p = none → Q (.ref p) (upd H1 p (.lst xs))
theorem pe_lst (h : PA X es t) : PE X (.List es pos) (tLst t) := by
  intro pins s σ H Q I hq
  refine wpAny_List_spliced (thn (h pos pins s σ H _ I hq) fun us s1 ⟨xs, H1, I1, r, z, q⟩ => ⟨by rw [← r.length]; exact z, ?_⟩)
  have hf : H1 s1.heap.objs.size = none := I1.hok.fresh (Nat.le_refl _)
  refine ⟨.ref s1.heap.objs.size, upd H1 s1.heap.objs.size (.lst xs), I1.laid (t' := s1.toks) (fun b u e => Heap.get?_push_of_some _ e) (Nat.le_refl _) ?_, rfl, q _ hf⟩
  exact ⟨z, us, 0, r, Heap.get?_push_size _ rfl⟩
end

/-- a def's promise: the bound arguments in the parameters' order, the heap, the wanted end, the wanted exception -/
abbrev Sp := List V → Hp → VK → XK → Prop
/-- how an exception lies behind a call (file 08 gives it): the callers' frames, abstract heap and state ahead of the call, the wish, the exception, the state -/
abbrev CXT := List Env → Hp → Shared → XK → Value → Shared → Prop

/-- the state at a call -/
structure Env0 (P : Program) (w : World) (K : PySem.W.Frag) (mg : Str → Option Value) (base : Heap) (A : Around) (outer : List Env) (s : Shared) (H : Hp) : Prop where
  frames : A.frames = some outer
  mod : Mod K mg base
  bs : ∀ b o, base.get? b = some o → s.heap.get? b = some o ∧ H b = none
  bsz : base.objs.size ≤ s.heap.objs.size
  funs : s.heap.FunFrames base outer
  frf : ∀ b ∈ frs outer, H b = none
  hok : HOk P w H s.heap
  bare : AllBare s.gens
/-- a call's end -/
def CE (outer : List Env) (P : Program) (w : World) (H : Hp) (s : Shared) (Q : VK) (u : Value) (s' : Shared) : Prop :=
  ∃ v H', s'.os = s.os ∧ AllBare s'.gens ∧ Un (frs outer) [] H H' s.heap s'.heap ∧ HOk P w H' s'.heap ∧ RelV v u ∧ Q v H'
def CR (CX : CXT) (outer : List Env) (P : Program) (w : World) (H : Hp) (s : Shared) (Q : VK) (E : XK) (r : Result) (s' : Shared) : Prop :=
  match r with
  | .ok (.ret u) => CE outer P w H s Q u s'
  | .ok _ => False
  | .error e => CX outer H s E e s'
structure FnOk (P : Program) (w : World) (K : PySem.W.Frag) (mg : Str → Option Value) (base : Heap) (CX : CXT) (k : Nat) (f : Addr) (fd : FuncData) (ps : List Str) (sp : Sp) : Prop where
  len : ∀ vs H Q E, sp vs H Q E → vs.length = ps.length
  run : ∀ (A : Around) (outer : List Env) (s : Shared) (H : Hp) (args : Args) (us : List Value) (vs : List V) (Q : VK) (E : XK), Room k A → Env0 P w K mg base A outer s H → BindsTo s fd args (ps.zip us) → Vals vs us → sp vs H Q E →
    codeAny (model P w) A (.call (.ref f) args) (CR CX outer P w H s Q E) s
theorem FnOk.mono {P : Program} {w : World} {K : PySem.W.Frag} {mg : Str → Option Value} {base : Heap} {CX : CXT} {j k : Nat} {f : Addr} {fd : FuncData} {ps : List Str} {sp : Sp} (F : FnOk P w K mg base CX j f fd ps sp) (h : j ≤ k) :
    FnOk P w K mg base CX k f fd ps sp := ⟨F.len, fun A outer s H args us vs Q E hr => F.run A outer s H args us vs Q E (hr.mono h)⟩

theorem Env0.make {P : Program} {w : World} {K : PySem.W.Frag} {mg : Str → Option Value} {base : Heap} {A : Around} {outer : List Env} {s : Shared} {H : Hp} (e : Env0 P w K mg base A outer s H) (C : Addr) (us : List Value) (kw : List (Str × Value)) :
    Env0 P w K mg base (A.under (.builtin "type.__call__" ⟨.ref C :: us, kw⟩)) outer s H := ⟨by first | exact e.frames | (simpa [Around.under, Code.envs, Code.isFrame, pushEnvs] using e.frames), e.mod, e.bs, e.bsz, e.funs, e.frf, e.hok, e.bare⟩

section
variable {X : Cx} {pins : List (Addr × Obj)} {σ : St} {H : Hp} {s s' : Shared}
/-- from a body: what a callee wants -/
theorem Inv.env0 (I : Inv X pins σ H s) : Env0 X.prog X.w X.K X.mg X.base X.A X.stack s H :=
  ⟨I.ok.frames, I.ok.mod, I.bs, Nat.le_trans I.ok.bsz I.sz, I.stack, I.stkFree, I.hok, I.bare⟩
/-- behind a call -/
theorem Inv.after {Q : VK} {u : Value} (I : Inv X pins σ H s) (h : CE X.stack X.prog X.w H s Q u s') : EP X pins σ Q u s' := by
  obtain ⟨v, H', os, bare, un, hok, r, q⟩ := h
  obtain ⟨hh, g, d, t, os'⟩ := s'
  obtain rfl : os' = s.os := os
  exact ⟨v, H', I.call (h' := hh) (g' := g) (d' := d) (t' := t) (ch := []) un hok bare (fun b z => absurd z (by simp)), r, q⟩
end

/-- f(..): the written arguments, then the defaults dvs; E: what is wanted of an exception -/
def tCall (sp : Sp) (dvs : List V) (E : XK) (t : TA) : TE := fun σ H Q => t σ H fun vs H1 => sp (vs ++ dvs) H1 Q E
/-- o.m(..) of an instance of the class at C -/
def tMeth (C : Addr) (m : Str) (sp : Sp) (dvs : List V) (E : XK) (ta : TE) (t : TA) : TE := fun σ H Q => ta σ H fun x H1 => ∃ a dx fs, x = .ref a ∧ H1 a = some (.ins C dx fs) ∧ fs.lookup m = none ∧
  t σ H1 fun vs H2 => sp (x :: (vs ++ dvs)) H2 Q E
/-- C(..): a new instance and its dict, then __init__ -/
def tMake (C : Addr) (sp : Sp) (dvs : List V) (E : XK) (t : TA) : TE := fun σ H Q => t σ H fun vs H1 => ∀ x dx, H1 x = none → H1 dx = none → dx ≠ x →
  sp (.ref x :: (vs ++ dvs)) (upd (upd H1 dx (.own x)) x (.ins C dx [])) (fun v H2 => v = .non ∧ Q (.ref x) H2) E

/-- how the parameters are bound: us the positional arguments, kw the keywords' values by name, ds the defaults that fill up -/
def Binds (K : PySem.W.Frag) (fd : FuncData) (ps : List Str) (ds : List Value) : Prop :=
  ∀ (s : Shared) (us : List Value), K.In s.heap → (us ++ ds).length = ps.length → BindsTo s fd ⟨us, []⟩ (ps.zip (us ++ ds))
/-- every parameter is given -/
theorem Binds.all {K : PySem.W.Frag} {fd : FuncData} {ps : List Str} (h : ∀ us : List Value, us.length = ps.length → bindArgs fd ⟨us, []⟩ = pure (ps.zip us)) : Binds K fd ps [] := fun s us _ hl => by
  rw [List.append_nil] at hl ⊢
  exact .of_eq (h us hl)

/-- an exception of a callee reaches what this body wants of exceptions -/
def Passes (CX : CXT) (X : Cx) (E : XK) : Prop := ∀ (pins : List (Addr × Obj)) (σ : St) (H : Hp) (s : Shared) (e : Value) (s' : Shared), Inv X pins σ H s → CX X.stack H s E e s' → X.xe e s'

section
variable {X : Cx} {CX : CXT} {k : Nat} {f C : Addr} {fd : FuncData} {ps : List Str} {sp : Sp} {dvs : List V} {ds : List Value} {E : XK} {x m : Str} {p pos apos : Pos} {e o : Expr} {es : List Expr} {ta : TE} {t : TA}

/-- the callee runs -/
theorem run_fn {pins : List (Addr × Obj)} {σ : St} {H : Hp} {s : Shared} {Q : VK} {us : List Value} {vs : List V} (F : FnOk X.prog X.w X.K X.mg X.base CX k f fd ps sp) (hr : Room k X.A) (hb : Binds X.K fd ps ds) (hd : Vals dvs ds) (hx : Passes CX X E)
    (I : Inv X pins σ H s) (r : Vals vs us) (h : sp (vs ++ dvs) H Q E) : wpAny (model X.prog X.w) X.A (call (.ref f) us) (EP X pins σ Q) X.xe s := by
  have r2 : Vals (vs ++ dvs) (us ++ ds) := r.append hd
  have hl : (us ++ ds).length = ps.length := by rw [← r2.length]; exact F.len _ _ _ _ h
  refine wpAny_call (codeAny_mono (F.run X.A X.stack s H ⟨us, []⟩ (us ++ ds) (vs ++ dvs) Q E hr I.env0 (hb s us I.kIn hl) r2 h) fun r s' hq => ?_)
  cases r with
  | error e => exact hx pins σ H s e s' I hq
  | ok fl =>
    cases fl with
    | ret u => exact I.after hq
    | next => exact False.elim hq
    | brk => exact False.elim hq
    | cont => exact False.elim hq

theorem pe_call (F : FnOk X.prog X.w X.K X.mg X.base CX k f fd ps sp) (hr : Room k X.A) (hg : Gl X x) (hm : X.mg x = some (.ref f)) (hk : PySem.W.keepIn X.K (.ref f) = true) (hb : Binds X.K fd ps ds) (hd : Vals dvs ds) (hx : Passes CX X E)
    (ha : PA X (e :: es) t) (hdb : (x == ("__debug__" : Str)) = false := by decide) (he : starEach (e :: es) X.env = (false, eval e X.env) :: starEach es X.env := by rfl) (hpl : (backTo pos (starEach es X.env)).any (·.1) = false := by rfl) :
    PE X (.Call (.Name x p) (e :: es) [] pos) (tCall sp dvs E t) := by
  intro pins s σ H Q I h
  refine wpAny_Call_Name_kw (ld_glob I hg hm ?_ hdb)
  refine PySem.W.callWith_K (h₀ := X.base) I.ok.mod.kin hk (thn (ha pos pins s σ H _ I h) fun us s1 ⟨vs, H1, I1, r, q⟩ => ⟨I1.kIn, ?_⟩) he hpl
  exact run_fn F hr hb hd hx I1 r q

/-- o.m(e, ..) -/
theorem pe_meth {pl : Sem Bool} (he : PE X o ta) (c : Cls X.K C) (hm : Meth X.K C m f) (F : FnOk X.prog X.w X.K X.mg X.base CX k f fd ps sp) (hr : Room k X.A) (hb : Binds X.K fd ps ds) (hd : Vals dvs ds) (hx : Passes CX X E) (ha : PA X (e :: es) t)
    (hst : starEach (e :: es) X.env = (false, eval e X.env) :: starEach es X.env := by rfl) (hpl : (backTo pos (starEach es X.env)).any (·.1) = false := by rfl)
    (ht : eval (.Call (.Attribute o m apos) (e :: es) [] pos) X.env = (do
      let ov ← eval o X.env
      standAt apos.atName
      let (f, first) ← holding [ov] (getMethod ov m pl)
      callWith pos f first (backTo pos (starEach (e :: es) X.env)) (backToKw pos (keywordEach [] X.env))) := by rfl) :
    PE X (.Call (.Attribute o m apos) (e :: es) [] pos) (tMeth C m sp dvs E ta t) := by
  intro pins s σ H Q I h
  refine PySem.W.methodCall_KW (pl := pl) (thn (he pins s σ H _ I h) fun u s1 ⟨x, H1, I1, rx, a, dx, fs, ex, ea, l, q⟩ => ?_) ht
  subst ex
  obtain rfl : u = Value.ref a := rx
  refine getmeth_ok I1 ea c hm l ?_
  refine PySem.W.callWith_K (first := [.ref a]) (h₀ := X.base) I.ok.mod.kin hm.kp (thn (ha pos pins s1 σ H1 _ I1 q) fun us s2 ⟨vs, H2, I2, r, q2⟩ => ⟨I2.kIn, ?_⟩) hst hpl
  exact run_fn (us := .ref a :: us) (vs := .ref a :: vs) F hr hb hd hx I2 (.cons rfl r) q2

/-- what a class must have to be made -/
structure Mk (K : PySem.W.Frag) (C f : Addr) : Prop where
  makes : PySem.W.makesIn K C = true
  init : PySem.W.findIn K (.ref C) "__init__" = some (some (.ref f))
  fn : PySem.W.isFn K (.ref f) = true
  kp : PySem.W.keepIn K (.ref C) = true

theorem run_make {pins : List (Addr × Obj)} {σ : St} {H : Hp} {s : Shared} {Q : VK} {us : List Value} {vs : List V} (M : Mk X.K C f) (F : FnOk X.prog X.w X.K X.mg X.base CX k f fd ps sp) (hr : Room (k + 1) X.A) (hb : Binds X.K fd ps ds) (hd : Vals dvs ds)
    (hx : Passes CX X E) (I : Inv X pins σ H s) (r : Vals vs us)
    (h : ∀ x dx, H x = none → H dx = none → dx ≠ x → sp (.ref x :: (vs ++ dvs)) (upd (upd H dx (.own x)) x (.ins C dx [])) (fun v H2 => v = .non ∧ Q (.ref x) H2) E) :
    wpAny (model X.prog X.w) X.A (call (.ref C) us) (EP X pins σ Q) X.xe s := by
  have hq := h (s.heap.objs.size + 1) s.heap.objs.size (I.hok.fresh (Nat.le_succ _)) (I.hok.fresh (Nat.le_refl _)) (Nat.ne_of_lt (Nat.lt_succ_self _))
  have I2 := Inv.made (C := C) I
  have r2 : Vals (V.ref (s.heap.objs.size + 1) :: (vs ++ dvs)) (Value.ref (s.heap.objs.size + 1) :: (us ++ ds)) := .cons rfl (r.append hd)
  have hl : (Value.ref (s.heap.objs.size + 1) :: us ++ ds).length = ps.length := by
    have e := r2.length
    rw [F.len _ _ _ _ hq] at e
    exact e.symm
  refine wpAny_call (make_map (f := f) I.kIn M.makes M.init (beq_iff_eq.mp M.fn) (codeAny_mono (F.run _ X.stack _ _ ⟨Value.ref (s.heap.objs.size + 1) :: us, []⟩ (Value.ref (s.heap.objs.size + 1) :: (us ++ ds)) _ _ E (hr.make C us [])
    (I2.env0.make C us []) (hb _ (Value.ref (s.heap.objs.size + 1) :: us) I2.kIn hl) r2 hq) fun r s' hq' => ?_))
  cases r with
  | error e => exact hx pins σ _ _ e s' I2 hq'
  | ok fl =>
    cases fl with
    | ret u =>
      obtain ⟨v, H', I3, rv, ev, q3⟩ := I2.after hq'
      subst ev
      exact ⟨rv, ⟨V.ref (s.heap.objs.size + 1), H', I3, rfl, q3⟩⟩
    | next => exact False.elim hq'
    | brk => exact False.elim hq'
    | cont => exact False.elim hq'
theorem pe_make (M : Mk X.K C f) (F : FnOk X.prog X.w X.K X.mg X.base CX k f fd ps sp) (hr : Room (k + 1) X.A) (hg : Gl X x) (hm : X.mg x = some (.ref C)) (hb : Binds X.K fd ps ds) (hd : Vals dvs ds) (hx : Passes CX X E)
    (ha : PA X (e :: es) t) (hdb : (x == ("__debug__" : Str)) = false := by decide) (he : starEach (e :: es) X.env = (false, eval e X.env) :: starEach es X.env := by rfl) (hpl : (backTo pos (starEach es X.env)).any (·.1) = false := by rfl) :
    PE X (.Call (.Name x p) (e :: es) [] pos) (tMake C sp dvs E t) := by
  intro pins s σ H Q I h
  refine wpAny_Call_Name_kw (ld_glob I hg hm ?_ hdb)
  refine PySem.W.callWith_K (h₀ := X.base) I.ok.mod.kin M.kp (thn (ha pos pins s σ H _ I h) fun us s1 ⟨vs, H1, I1, r, q⟩ => ⟨I1.kIn, ?_⟩) he hpl
  exact run_make M F hr hb hd hx I1 r q
theorem pe_make0 (M : Mk X.K C f) (F : FnOk X.prog X.w X.K X.mg X.base CX k f fd ps sp) (hr : Room (k + 1) X.A) (hg : Gl X x) (hm : X.mg x = some (.ref C)) (hb : Binds X.K fd ps ds) (hd : Vals dvs ds) (hx : Passes CX X E)
    (hdb : (x == ("__debug__" : Str)) = false := by decide) : PE X (.Call (.Name x p) [] [] pos) (tMake C sp dvs E tNil) := by
  intro pins s σ H Q I h
  refine wpAny_Call_Name_kw (ld_glob I hg hm ?_ hdb)
  exact PySem.W.callWith_K0 I.kIn M.kp (run_make (us := []) M F hr hb hd hx I .nil h)
end

section
variable {X : Cx} {CX : CXT} {k : Nat} {f C : Addr} {fd : FuncData} {ps ks : List Str} {sp : Sp} {E : XK} {x m : Str} {p pos apos kpos : Pos} {e o : Expr} {es : List Expr} {kws : List Keyword} {te ta : TE} {t tk : TA} {nm : Option Str}

variable {g : List Value → List Value → List Value} {gV : List V → List V → List V}
end

/-- names: the parameters first -/
structure FnScope (N P : List Str) (sc : Scope) : Prop where
  kind : sc.kind = .function
  co : sc.isCoroutine = false
  gen : sc.isGenerator = false
  nd : N.Nodup
  pre : N.take P.length = P
  par : ∀ x ∈ P, sc.names.lookup x = some .local ∨ sc.names.lookup x = some .cell
  nofree : ∀ y ∈ sc.names, y.2 ≠ .free

theorem bindL_out {kindOf : Str → Option NameKind} {x : Str} : ∀ {binds : List (Str × Value)} {m : Str → Option Value}, (∀ v, (x, v) ∉ binds) → bindL kindOf binds m x = m x
  | [], _, _ => rfl
  | (n, v) :: r, m, h => by
    unfold bindL
    rw [bindL_out fun w hw => h w (List.mem_cons_of_mem _ hw)]
    split
    · have : x ≠ n := by rintro rfl; exact h v List.mem_cons_self
      simp [this]
    · rfl
theorem bindC_out {kindOf : Str → Option NameKind} {x : Str} : ∀ {binds : List (Str × Value)} {m : Str → Option Value}, (∀ v, (x, v) ∉ binds) → bindC kindOf binds m x = m x
  | [], _, _ => rfl
  | (n, v) :: r, m, h => by
    unfold bindC
    rw [bindC_out fun w hw => h w (List.mem_cons_of_mem _ hw)]
    split
    · rfl
    · have : x ≠ n := by rintro rfl; exact h v List.mem_cons_self
      simp [this]
theorem bindL_get {kindOf : Str → Option NameKind} {x : Str} {v : Value} : ∀ {P : List Str} {vs : List Value} {i : Nat} {m : Str → Option Value}, P.Nodup → P[i]? = some x → vs[i]? = some v → kindOf x = some .local →
    bindL kindOf (P.zip vs) m x = some v
  | [], _, _, _, _, h, _, _ => by simp at h
  | _ :: _, [], _, _, _, _, h, _ => by simp at h
  | p :: P, w :: vs, 0, m, nd, h1, h2, hk => by
    simp at h1 h2; subst h1; subst h2
    show bindL kindOf ((p, w) :: P.zip vs) m p = _
    unfold bindL
    rw [bindL_out fun v hv => (List.nodup_cons.mp nd).1 (List.of_mem_zip hv).1, if_pos hk]
    simp
  | p :: P, w :: vs, i + 1, m, nd, h1, h2, hk => by
    show bindL kindOf ((p, w) :: P.zip vs) m x = _
    unfold bindL
    exact bindL_get (i := i) (List.nodup_cons.mp nd).2 (by simpa using h1) (by simpa using h2) hk
theorem bindC_get {kindOf : Str → Option NameKind} {x : Str} {v : Value} : ∀ {P : List Str} {vs : List Value} {i : Nat} {m : Str → Option Value}, P.Nodup → P[i]? = some x → vs[i]? = some v → kindOf x ≠ some .local →
    bindC kindOf (P.zip vs) m x = some v
  | [], _, _, _, _, h, _, _ => by simp at h
  | _ :: _, [], _, _, _, _, h, _ => by simp at h
  | p :: P, w :: vs, 0, m, nd, h1, h2, hk => by
    simp at h1 h2; subst h1; subst h2
    show bindC kindOf ((p, w) :: P.zip vs) m p = _
    unfold bindC
    rw [bindC_out fun v hv => (List.nodup_cons.mp nd).1 (List.of_mem_zip hv).1, if_neg hk]
    simp
  | p :: P, w :: vs, i + 1, m, nd, h1, h2, hk => by
    show bindC kindOf ((p, w) :: P.zip vs) m x = _
    unfold bindC
    exact bindC_get (i := i) (List.nodup_cons.mp nd).2 (by simpa using h1) (by simpa using h2) hk

/-- the names' values at the entry -/
def start (N : List Str) (vs : List V) : St := vs.map some ++ List.replicate (N.length - vs.length) none

/-- the context of a def's body, at its entry; an exception leaves the frame, then lies as CX says -/
def cxOf (CX : CXT) (P : Program) (w : World) (K : PySem.W.Frag) (mg : Str → Option Value) (base : Heap) (N : List Str) (qual : Str) (scope : Scope) (f : Addr) (cd : Value) (A : Around) (outer : List Env) (s : Shared) (H : Hp) (E : XK) : Cx where
  prog := P
  w := w
  K := K
  mg := mg
  base := base
  A := A.deeper (envOfC qual scope s.heap.objs.size f cd)
  N := N
  s_0 := s
  H_0 := H
  env := envOfC qual scope s.heap.objs.size f cd
  outer := outer
  stack := envOfC qual scope s.heap.objs.size f cd :: outer
  ex := []
  calm := true
  fn := fun _ => true
  pn := []
  xe := fun e s' => wpAny (model P w) (A.deeper (envOfC qual scope s.heap.objs.size f cd)) (leaving (envOfC qual scope s.heap.objs.size f cd) e) (fun _ s'' => CX outer H s E e s'') (fun e' s'' => CX outer H s E e' s'') s'

theorem cell_has {sc : Scope} {n : Nat} {x : Str} (h : sc.names.lookup x = some .cell) : ∃ c, (cellsFrom n sc.names []).lookup x = some c := by
  have q := PySem.W.cellsFrom_some sc.names n [] (.inl h)
  exact Option.isSome_iff_exists.mp q

theorem inv_start {CX : CXT} {P : Program} {w : World} {K : PySem.W.Frag} {mg : Str → Option Value} {base : Heap} {N ps : List Str} {qual : Str} {scope : Scope} {f : Addr} {cd : Value} {A : Around} {outer : List Env} {s s1 : Shared} {H : Hp} {E : XK} {us : List Value} {vs : List V}
    (S : FnScope N ps scope) (hd : A.handled = none) (e0 : Env0 P w K mg base A outer s H) (hl : vs.length = ps.length) (r : Vals vs us)
    (x : InCallC s s.heap.objs.size (bindL (envOfC qual scope s.heap.objs.size f cd).kindOf (ps.zip us) fun _ => none) (cellsFrom (s.heap.objs.size + 1) scope.names []) (bindC (envOfC qual scope s.heap.objs.size f cd).kindOf (ps.zip us) fun _ => none) s1) :
    Inv (cxOf CX P w K mg base N qual scope f cd A outer s H E) [] (start N vs) H s1 := by
  have hpl : ps.length ≤ N.length := by have := congrArg List.length S.pre; rw [List.length_take] at this; omega
  obtain ⟨h1, tk, rfl, hk⟩ := x.done
  have noA : ∀ b : Addr, b ∉ (cxOf CX P w K mg base N qual scope f cd A outer s H E).ex := fun b z => absurd (show b ∈ ([] : List Addr) from z) (by simp)
  refine ⟨⟨e0.mod, S.kind, rfl, rfl, Nat.le_refl _, fun y z c h1 h2 => ?_, fun y hy => ?_, fun y c _ h => ?_, fun _ => hd, Around.frames_deeper e0.frames, .inr ⟨rfl, rfl⟩, fun b z => absurd z (noA b), e0.bs, e0.bsz, fun b _ _ => noA b, fun b z => absurd z (noA b), e0.funs, e0.frf⟩,
    rfl, e0.bare, Un.kept hk, ⟨_, x.toInCall.ns, fun i y v h1 h2 h3 => ?_⟩, fun y c h => ⟨_, x.cell y c h⟩, e0.hok.fresh (Nat.le_refl _), fun y c h => ?_, fun p hp => absurd (show p ∈ ([] : List (Addr × Obj)) from hp) (by simp), e0.hok.kept hk, ?_⟩
  · exact name_of_addr x.apart (PySem.mem_of_lookup h1) (PySem.mem_of_lookup h2)
  · have hy : scope.names.lookup y = some .cell ∨ scope.names.lookup y = some .free := hy
    rcases hy with hy | hy
    · exact cell_has hy
    · exact absurd rfl (S.nofree _ (PySem.mem_of_lookup hy))
  · exact Nat.le_of_lt (x.above y c (PySem.mem_of_lookup h))
  · have hi : i < vs.length := by
      unfold start at h2
      by_cases hi : i < vs.length
      · exact hi
      · rw [List.getElem?_append_right (by simpa using hi)] at h2
        rw [List.getElem?_replicate] at h2
        split at h2 <;> cases h2
    have ha : vs[i]? = some v := by
      unfold start at h2
      rw [List.getElem?_append_left (by simpa using hi), List.getElem?_map] at h2
      cases e : vs[i]? with
      | none => rw [e] at h2; cases h2
      | some a => rw [e] at h2; cases h2; rfl
    obtain ⟨u, hu, rv⟩ := r.get ha
    have hp : ps[i]? = some y := by
      rw [← S.pre, List.getElem?_take_of_lt (by omega)]; exact h1
    have ndP : ps.Nodup := by rw [← S.pre]; exact S.nd.sublist (List.take_sublist _ _)
    refine ⟨u, rv, ?_⟩
    rcases S.par y (List.mem_of_getElem? hp) with k | k
    · exact .inl ⟨k, bindL_get ndP hp hu k⟩
    · obtain ⟨c, e⟩ := cell_has (n := s.heap.objs.size + 1) k
      refine .inr ⟨.inl k, c, e, ?_⟩
      have q := x.cell y c e
      rw [bindC_get ndP hp hu (by show scope.names.lookup y ≠ _; rw [k]; decide)] at q
      exact q
  · exact e0.hok.fresh (Nat.le_of_lt (x.above y c (PySem.mem_of_lookup h)))
  · unfold start
    show _ = N.length
    rw [List.length_append, List.length_map, List.length_replicate]
    omega

/-- THE RULE: a def (or a method) of the text, by its body. The body's reading t is chosen for each entry; it is run at the parameters' values -/
theorem fn_of {CX : CXT} {P : Program} {w : World} {K : PySem.W.Frag} {mg : Str → Option Value} {base : Heap} {k : Nat} {f : Addr} {name qual : Str} {params : Arguments} {body : List Stmt} {scope : Scope} {dV kV doc pm cdv ct oc : Value} {an od : Option Addr}
    {osl : Array (Option Value)} {N ps : List Str} {sp : Sp} (lk : K.lookup f = some ⟨oc, od, .func (PySem.W.fnOf name qual params body scope dV kV doc pm an cdv ct), osl⟩) (hcd : PySem.W.codeIn K cdv qual = true) (S : FnScope N ps scope)
    (len : ∀ vs H Q E, sp vs H Q E → vs.length = ps.length)
    (hbody : ∀ (A : Around) (outer : List Env) (s : Shared) (H : Hp) (vs : List V) (Q : VK) (E : XK), Room k (A.deeper (envOfC qual scope s.heap.objs.size f cdv)) → sp vs H Q E →
      ∃ t, PSs (cxOf CX P w K mg base N qual scope f cdv A outer s H E) body t ∧ t { nx := fun _ H' => Q .non H', rt := Q } (start N vs) H) :
    FnOk P w K mg base CX (k + 1) f (PySem.W.fnOf name qual params body scope dV kV doc pm an cdv ct) ps sp := by
  refine ⟨len, fun A outer s H args us vs Q E hr e0 hb r hsp => ?_⟩
  have hl := len _ _ _ _ hsp
  have KX : K.In s.heap := e0.mod.kin.keeps fun b o e => (e0.bs b o e).1
  have lim : s.heap.NoLimit := e0.mod.nolimit.keeps fun b o e => (e0.bs b o e).1
  have hkind : ∀ y ∈ ps.zip us, scope.names.lookup y.1 = some .local ∨ (scope.names.lookup y.1 = some .cell ∧ ((cellsFrom (s.heap.objs.size + 1) scope.names []).lookup y.1).isSome = true) := fun ⟨n, v⟩ hy => by
    rcases S.par n (List.of_mem_zip hy).1 with q | q
    · exact .inl q
    · exact .inr ⟨q, PySem.W.cellsFrom_some _ _ _ (.inl q)⟩
  refine codeAny_call_function hr.depth (KX _ _ lk) rfl S.co S.gen rfl (PySem.W.codeRec_of KX hcd) (hb _ _ _ _ ?_)
  refine wpAny_newFunctionEnv_cells S.kind hkind fun env he s1 x => ?_
  subst he
  refine ⟨lim.keeps x.toInCall.keep, codeAny_func ?_⟩
  obtain ⟨t, ht, hq⟩ := hbody A outer s H vs Q E (hr.deeper _) hsp
  have I : Inv (cxOf CX P w K mg base N qual scope f cdv A outer s H E) [] (start N vs) H s1 := inv_start S hr.hd e0 hl r x
  refine wpAny_mono (ht [] s1 (start N vs) H _ I hq) (fun fl s' hs => ?_) fun e s' hs => hs
  have fin : ∀ {σ' : St} {H' : Hp} {v : V} {u : Value}, Inv (cxOf CX P w K mg base N qual scope f cdv A outer s H E) [] σ' H' s' → RelV v u → Q v H' → CE outer P w H s Q u s' :=
    fun {σ' H' v u} J rv q => ⟨v, H', J.os, J.bare, J.base, J.hok, rv, q⟩
  cases fl with
  | ret u =>
    obtain ⟨v, σ', H', J, rv, q⟩ := hs
    exact fin J rv q
  | next =>
    obtain ⟨σ', H', J, q⟩ := hs
    exact fin (v := V.non) (u := Value.none) J rfl q
  | brk =>
    obtain ⟨_, _, _, q⟩ := hs
    exact False.elim q
  | cont =>
    obtain ⟨_, _, _, q⟩ := hs
    exact False.elim q
end L2

namespace L2
open PySem PySem.Spec PyProof.Rows
section
variable {X : Cx} {x : Str} {p pos : Pos} {e : Expr} {es : List Expr} {t : TA} {id T : String} {r : List V → Hp → VK → Prop}

def tCB (r : List V → Hp → VK → Prop) (t : TA) : TE := fun σ H Q => t σ H fun vs H1 => r vs H1 Q
/-- f(e, ..), f a built-in function -/
theorem pe_callB (hc : CallR X (.builtin id) r) (hg : Gl X x) (hm : X.mg x = none) (hv : bootBuiltins x = some (.builtin id)) (ha : PA X (e :: es) t) (hn : x ≠ "__name__" := by decide) (hdb : (x == ("__debug__" : Str)) = false := by decide)
    (he : starEach (e :: es) X.env = (false, eval e X.env) :: starEach es X.env := by rfl) (hpl : (backTo pos (starEach es X.env)).any (·.1) = false := by rfl) : PE X (.Call (.Name x p) (e :: es) [] pos) (tCB r t) := by
  intro pins s σ H Q I h
  refine wpAny_Call_Name_kw (ld_blt I hg hm hv ?_ hn hdb)
  exact PyProof.Rows.callWith_builtin1 (thn (ha pos pins s σ H _ I h) fun us s1 ⟨vs, H1, I1, r1, q1⟩ => hc pins s1 σ H1 vs us Q I1 r1 q1) he hpl
/-- T(e, ..), T a built-in type -/
theorem pe_callTy (hc : CallR X (.type T) r) (hg : Gl X x) (hm : X.mg x = none) (hv : bootBuiltins x = some (.type T)) (ha : PA X (e :: es) t) (hn : x ≠ "__name__" := by decide) (hdb : (x == ("__debug__" : Str)) = false := by decide)
    (he : starEach (e :: es) X.env = (false, eval e X.env) :: starEach es X.env := by rfl) (hpl : (backTo pos (starEach es X.env)).any (·.1) = false := by rfl) : PE X (.Call (.Name x p) (e :: es) [] pos) (tCB r t) := by
  intro pins s σ H Q I h
  refine wpAny_Call_Name_kw (ld_blt I hg hm hv ?_ hn hdb)
  exact PyProof.Rows.callWith_type1 (thn (ha pos pins s σ H _ I h) fun us s1 ⟨vs, H1, I1, r1, q1⟩ => hc pins s1 σ H1 vs us Q I1 r1 q1) he hpl
end
end L2

namespace HT
open PySem PyProof.Rows



section
open PySem.SeqAt
open PySem.AutoSeq1 (wpAny_loadPart')
open PySem.MeetsSeq PySem.MeetsSeq2 PySem.MeetsSeq3

end

section
variable {prog : Program} {w : World} {A : Around} {E : Value → Shared → Prop} {s : Shared}



/-- a slice's bound as a place among n (d where it is left out) -/
def sIx (n d : Nat) : Option Int → Nat
  | none => d
  | some v => if v < 0 then (v + (n : Int)).toNat else min v.toNat n
theorem sIx_nat (n d k : Nat) : sIx n d (some (k : Int)) = min k n := by
  show (if (k : Int) < 0 then ((k : Int) + (n : Int)).toNat else min (k : Int).toNat n) = min k n
  rw [if_neg (by omega), Int.toNat_natCast]

end
end HT

namespace L2
open PySem PySem.Spec PyProof.Rows

abbrev TO := St → Hp → (Option Int → Hp → Prop) → Prop
/-- a slice's part (left out, or an int) -/
def PO (X : Cx) (e : Option Expr) (t : TO) : Prop :=
  ∀ (pins : List (Addr × Obj)) (s : Shared) (σ : St) (H : Hp) (Q : Option Int → Hp → Prop), Inv X pins σ H s → t σ H Q →
    wpAny (model X.prog X.w) X.A (evalPart e X.env) (fun u s' => ∃ o H', Inv X pins σ H' s' ∧ IsPart u o ∧ Q o H') X.xe s
def tNoPart : TO := fun _ H Q => Q none H
def tPart (t : TE) : TO := fun σ H Q => t σ H fun x H1 => ∃ i, x = .int i ∧ Q (some i) H1


section
variable {X : Cx} {e : Expr} {te : TE} {lo hi : Option Expr} {tl th : TO} {pos p2 : Pos}

theorem po_none : PO X none tNoPart := by
  intro pins s σ H Q I h
  rw [evalPart_none]
  exact wpAny_pure ⟨none, H, I, .none, h⟩
theorem po_some (h : PE X e te) : PO X (some e) (tPart te) := by
  intro pins s σ H Q I hw
  rw [evalPart_some]
  refine thn (h pins s σ H _ I hw) fun u s1 ⟨x, H1, I1, r1, q1⟩ => ?_
  obtain ⟨i, rfl, q⟩ := q1
  obtain ⟨t, rfl⟩ := r1
  exact ⟨some i, H1, I1, .int i t, q⟩

/-- what a slice of a value is, by values: the slice object stands at sl -/
def SlR (X : Cx) (r : V → Option Int → Option Int → Hp → VK → Prop) : Prop :=
  ∀ (pins : List (Addr × Obj)) (s : Shared) (σ : St) (H : Hp) (x : V) (v vl vu : Value) (lo hi : Option Int) (sl : Addr) (Q : VK), Inv X pins σ H s → RelV x v → s.heap.IsSliceOf sl vl vu .none → IsPart vl lo → IsPart vu hi → r x lo hi H Q →
    ∃ T id, typeLookup (.type T) "__getitem__" = pure (some (.builtin id)) ∧ s.TypeIs v T ∧ wpAny (model X.prog X.w) X.A (getItem v (.ref sl)) (EP X pins σ Q) X.xe s
def tSl (r : V → Option Int → Option Int → Hp → VK → Prop) (te : TE) (tl th : TO) : TE := fun σ H Q => te σ H fun x H1 => tl σ H1 fun l H2 => th σ H2 fun u H3 => r x l u H3 Q
/-- a[lo:hi], any a -/
theorem pe_slice {r : V → Option Int → Option Int → Hp → VK → Prop} (hr : SlR X r) (he : PE X e te) (hl : PO X lo tl) (hu : PO X hi th) : PE X (.Subscript e (.Slice lo hi none p2) pos) (tSl r te tl th) := by
  intro pins s σ H Q I h
  refine Subscript_ (thn (he pins s σ H _ I h) fun v s1 ⟨x, H1, I1, r1, q1⟩ => ?_)
  refine wpAny_Slice (thn (hl pins s1 σ H1 _ I1 q1) fun vl s2 ⟨l, H2, I2, pl, q2⟩ => thn (hu pins s2 σ H2 _ I2 q2) fun vu s3 ⟨u, H3, I3, pu, q3⟩ => ?_)
  rw [evalPart_none]
  refine wpAny_pure ?_
  have I4 : Inv X pins σ H3 { s3 with heap := s3.heap.push { cls := .type "slice", data := .fields #[vl, vu, .none] } } := I3.kept (t' := s3.toks) fun b ob q => Heap.get?_push_of_some _ q
  obtain ⟨T, id, hT, ht, hg⟩ := hr pins { s3 with heap := s3.heap.push { cls := .type "slice", data := .fields #[vl, vu, .none] } } σ H3 x v vl vu l u s3.heap.objs.size Q I4 r1 (Heap.IsSliceOf.new ..) pl pu q3
  show wpAny (model X.prog X.w) X.A (subscriptTail e (.Slice lo hi none p2) v (.ref s3.heap.objs.size)) (EP X pins σ Q) X.xe { s3 with heap := s3.heap.push { cls := .type "slice", data := .fields #[vl, vu, .none] } }
  exact tail_any (ops := [.ref s3.heap.objs.size, v]) ht hT hg (by with_unfolding_all rfl)

/-- the items of xs[lo:hi] -/
def cutV (xs : List V) (lo hi : Option Int) : List V := (xs.drop (HT.sIx xs.length 0 lo)).take (HT.sIx xs.length xs.length hi - HT.sIx xs.length 0 lo)
theorem cutV_length (xs : List V) (lo hi : Option Int) : (cutV xs lo hi).length ≤ xs.length := by
  unfold cutV
  rw [List.length_take, List.length_drop]
  omega

end
end L2

namespace L2
open PySem PySem.Spec PyProof.Rows

/-- the place that an index of any sign means -/
def ixN (n : Nat) (i : Int) : Option Nat := if 0 ≤ i then (if i < n then some i.toNat else none) else if -(n : Int) ≤ i then some (i + n).toNat else none
def atI {α : Type} (xs : List α) (i : Int) : Option α := (ixN xs.length i).bind fun j => xs[j]?
theorem ixN_seq {n : Nat} {i : Int} {j : Nat} (h : ixN n i = some j) : seqIndex? i n = some j ∧ j < n ∧ -(n : Int) ≤ i ∧ i < n := by
  unfold ixN at h
  by_cases h0 : 0 ≤ i
  · rw [if_pos h0] at h
    by_cases h1 : i < n
    · rw [if_pos h1] at h
      have e : i.toNat = j := Option.some.inj h
      exact ⟨by rw [seqIndex_of h0 h1, e], by omega, by omega, h1⟩
    · rw [if_neg h1] at h; cases h
  · rw [if_neg h0] at h
    by_cases h1 : -(n : Int) ≤ i
    · rw [if_pos h1] at h
      have e : (i + n).toNat = j := Option.some.inj h
      exact ⟨by rw [seqIndex_neg (by omega) h1, e], by omega, h1, by omega⟩
    · rw [if_neg h1] at h; cases h
theorem atI_get {α : Type} {xs : List α} {i : Int} {v : α} (h : atI xs i = some v) : ∃ j, seqIndex? i xs.length = some j ∧ xs[j]? = some v ∧ j < xs.length ∧ -(xs.length : Int) ≤ i ∧ i < xs.length := by
  unfold atI at h
  cases e : ixN xs.length i with
  | none => rw [e] at h; cases h
  | some j =>
    rw [e] at h
    obtain ⟨h1, h2, h3, h4⟩ := ixN_seq e
    exact ⟨j, h1, h, h2, h3, h4⟩
theorem atI_nat {α : Type} {xs : List α} {j : Nat} {v : α} (h : xs[j]? = some v) : atI xs (j : Int) = some v := by
  have hj : j < xs.length := (List.getElem?_eq_some_iff.mp h).1
  have e : ixN xs.length (j : Int) = some j := by
    unfold ixN
    rw [if_pos (by omega), if_pos (by omega)]; simp
  unfold atI; rw [e]; exact h
theorem atI_last {α : Type} (xs : List α) (v : α) : atI (xs ++ [v]) (-1) = some v := by
  have hl : (xs ++ [v]).length = xs.length + 1 := by simp
  have e : ixN (xs ++ [v]).length (-1) = some xs.length := by
    unfold ixN
    rw [hl, if_neg (by decide), if_pos (by omega)]
    congr 1
    omega
  unfold atI
  rw [e]
  show (xs ++ [v])[xs.length]? = some v
  simp

/-- what stands as an index of a plain subscript -/
def PlainIx (b : Expr) : Prop := ∀ o i, subscripted b false o i = operate [o, i] (getItem o i)
/-- a subscript by values -/
def IxR (X : Cx) (r : R2) : Prop :=
  ∀ (value slice : Expr) (pins : List (Addr × Obj)) (s : Shared) (σ : St) (H : Hp) (x y : V) (v u : Value) (Q : VK), Inv X pins σ H s → RelV x v → RelV y u → r x y H Q →
    subscripted slice false v u = operate [v, u] (getItem v u) → wpAny (model X.prog X.w) X.A (subscriptTail value slice v u) (EP X pins σ Q) X.xe s
section
variable {X : Cx} {a b : Expr} {ta tb : TE} {pos : Pos}
/-- a[b] -/
theorem pe_ix {r : R2} (hr : IxR X r) (ha : PE X a ta) (hb : PE X b tb) (hs : PlainIx b) : PE X (.Subscript a b pos) (tOp r ta tb) := by
  intro pins s σ H Q I h
  exact Subscript_ (binT ha hb I h fun v u s2 x y H2 I2 rx ry q => hr a b pins s2 σ H2 x y v u Q I2 rx ry q (hs _ _))

def rIxL (K : PySem.W.Frag) : R2 := fun x y H Q => ∃ p xs i v, x = .ref p ∧ y = .int i ∧ SqL K H p xs ∧ atI xs i = some v ∧ Q v H
def rIxT (K : PySem.W.Frag) : R2 := fun x y H Q => ∃ p xs i v, x = .ref p ∧ y = .int i ∧ SqT K H p xs ∧ atI xs i = some v ∧ Q v H
theorem ix_list : IxR X (rIxL X.K) := by
  intro value slice pins s σ H x y v u Q I rx ry h hs
  obtain ⟨p, xs, i, z, rfl, rfl, hq, he, q⟩ := h
  cases rx
  obtain ⟨t, rfl⟩ := ry
  obtain ⟨its, r, pl, hz⟩ := I.list hq
  obtain ⟨j, h1, h2, h3, h4, h5⟩ := atI_get he
  obtain ⟨w, ew, rw'⟩ := r.get h2
  have hl := r.length
  have hn := line63
  have fin : EP X pins σ Q w s := ⟨z, H, I, rw', q⟩
  by_cases h0 : 0 ≤ i
  · have hj : i.toNat = j := by
      rw [seqIndex_of h0 h5] at h1
      exact Option.some.inj h1
    exact item_listR pl.isList h0 (by omega) (by rw [hj]; simpa using ew) fin hs
  · have hj : (i + (its.toArray.size : Int)).toNat = j := by
      rw [seqIndex_neg (by omega) h4] at h1
      rw [List.size_toArray, ← hl]
      exact Option.some.inj h1
    exact subscriptTail_builtinR (x := w) pl.isList.typeIs slot_list_getitem.lookup
      (wpAny_getItem_list_neg (Q := fun r s' => r = w ∧ EP X pins σ Q r s') pl.isList (by omega) (by rw [List.size_toArray] <;> omega) (by omega) (by rw [hj]; simpa using ew) ⟨rfl, fin⟩) hs
theorem ix_tup : IxR X (rIxT X.K) := by
  intro value slice pins s σ H x y v u Q I rx ry h hs
  obtain ⟨p, xs, i, z, rfl, rfl, hq, he, q⟩ := h
  cases rx
  obtain ⟨t, rfl⟩ := ry
  obtain ⟨its, r, pl, hz⟩ := I.tuple hq
  obtain ⟨j, h1, h2, h3, h4, h5⟩ := atI_get he
  obtain ⟨w, ew, rw'⟩ := r.get h2
  have hl := r.length
  have hn := line63
  have fin : EP X pins σ Q w s := ⟨z, H, I, rw', q⟩
  exact subscriptTail_builtinR (x := w) pl.typeIs slot_tuple_getitem.lookup
    (getItem_tuple (j := j) (Q := fun r s' => r = w ∧ EP X pins σ Q r s') pl (by omega) (by omega) (by rw [List.size_toArray, ← hl]; exact h1) (by simpa using ew) ⟨rfl, fin⟩) hs

/-- the list's object behind a store -/
theorem mapSeq_set (its : List Value) (n j : Nat) (u : Value) : Obj.mapSeq (·.setIfInBounds j u) { cls := .type "list", data := .seq its.toArray n } = { cls := .type "list", data := .seq (its.set j u).toArray n } := by
  simp [Obj.mapSeq]
theorem Inv.lst {pins : List (Addr × Obj)} {σ : St} {H : Hp} {s : Shared} {p : Addr} {xs : List V} (I : Inv X pins σ H s) (h : H p = some (.lst xs)) :
    ∃ (its : List Value) (n : Nat), Vals xs its ∧ s.heap.get? p = some { cls := .type "list", data := .seq its.toArray n } ∧ xs.length ≤ sizeLine := by
  obtain ⟨z, its, n, r, e⟩ := I.hok p _ h
  exact ⟨its, n, r, e, z⟩
/-- the list at p is written by an update of its object -/
theorem Inv.lstUpd {pins : List (Addr × Obj)} {σ : St} {H : Hp} {s : Shared} {p : Addr} {xs ys : List V} {its its' : List Value} {n n' : Nat} {f : Obj → Obj} (I : Inv X pins σ H s) (h : H p = some (.lst xs))
    (ho : s.heap.get? p = some { cls := .type "list", data := .seq its.toArray n }) (hf : f { cls := .type "list", data := .seq its.toArray n } = { cls := .type "list", data := .seq its'.toArray n' }) (r : Vals ys its') (hz : ys.length ≤ sizeLine) (t : Nat) :
    Inv X pins σ (upd H p (.lst ys)) { s with heap := s.heap.update p f, toks := t } := by
  have e : (s.heap.update p f).get? p = some { cls := .type "list", data := .seq its'.toArray n' } := by
    rw [Heap.get?_update_self f ho (by rw [hf] <;> rfl), hf]
  refine I.write (x := p) (e := p) (by rw [h]; trivial) (.inl rfl) (fun b u hb q => (Heap.get?_update_other _ _ (Ne.symm hb)).trans q) ⟨_, e⟩ ?_
  exact ⟨hz, its', n', r, e⟩
def rSetL : V → V → V → Hp → (Hp → Prop) → Prop := fun o i v H Q => ∃ p xs k j, o = .ref p ∧ i = .int k ∧ H p = some (.lst xs) ∧ ixN xs.length k = some j ∧ Q (upd H p (.lst (xs.set j v)))
theorem set_list : PSet X rSetL := by
  intro pins s σ H o i v ov iv u Q I ro ri rv h
  obtain ⟨p, xs, k, j, rfl, rfl, hp, hj, q⟩ := h
  cases ro
  obtain ⟨t, rfl⟩ := ri
  obtain ⟨its, n, r, ho, hz⟩ := I.lst hp
  obtain ⟨h1, h2, h3, h4⟩ := ixN_seq hj
  have hl := r.length
  have hn := line63
  have I' : Inv X pins σ (upd H p (.lst (xs.set j v))) { s with heap := s.heap.update p (Obj.mapSeq (·.setIfInBounds j u)) } :=
    I.lstUpd hp ho (mapSeq_set its n j u) (r.set rv j) (by rw [List.length_set]; exact hz) s.toks
  by_cases h0 : 0 ≤ k
  · have hk : k.toNat = j := by
      rw [seqIndex_of h0 h4] at h1
      exact Option.some.inj h1
    exact PySem.W.ki_setAt ho h0 (by omega) (by rw [List.size_toArray, ← hl]; exact h4) (by rw [hk]; exact ⟨_, I', q⟩)
  · have hk : (k + (its.toArray.size : Int)).toNat = j := by
      rw [seqIndex_neg (by omega) h3] at h1
      rw [List.size_toArray, ← hl]
      exact Option.some.inj h1
    exact PySem.W.ki_setBack ho (by omega) (by rw [List.size_toArray, ← hl]; exact h3) (by omega) (by rw [hk]; exact ⟨_, I', q⟩)

theorem slice_bounds (lo hi : Option Int) (n : Nat) : (sliceBounds lo hi none n).1 = ((HT.sIx n 0 lo : Nat) : Int) ∧ (sliceBounds lo hi none n).2.1 = ((HT.sIx n n hi : Nat) : Int) ∧ (sliceBounds lo hi none n).2.2 = 1 := by
  refine ⟨?_, ?_, rfl⟩
  · cases lo with
    | none => simp [sliceBounds, HT.sIx]
    | some i =>
      simp only [sliceBounds, HT.sIx, Option.getD_none, show (1 : Int) > 0 by decide, if_true]
      by_cases h : i < 0
      · simp only [h, if_true] <;> omega
      · simp only [h, if_false] <;> omega
  · cases hi with
    | none => simp [sliceBounds, HT.sIx]
    | some i =>
      simp only [sliceBounds, HT.sIx, Option.getD_none, show (1 : Int) > 0 by decide, if_true]
      by_cases h : i < 0
      · simp only [h, if_true] <;> omega
      · simp only [h, if_false] <;> omega
theorem slicePick_cut (its : List Value) (lo hi : Option Int) : slicePick its.toArray lo hi none = ((its.drop (HT.sIx its.length 0 lo)).take (HT.sIx its.length its.length hi - HT.sIx its.length 0 lo)).toArray := by
  obtain ⟨h1, h2, h3⟩ := slice_bounds lo hi its.toArray.size
  unfold slicePick
  rw [h1, h2, h3]
  simp only [sliceRange_one, pick_run, List.size_toArray] <;> rfl
/-- xs[lo:hi] of a list: a new list -/
def rSlL (K : PySem.W.Frag) : V → Option Int → Option Int → Hp → VK → Prop := fun x lo hi H Q => ∃ a xs, x = .ref a ∧ SqL K H a xs ∧ ∀ p, H p = none → Q (.ref p) (upd H p (.lst (cutV xs lo hi)))
theorem sl_list : SlR X (rSlL X.K) := by
  intro pins s σ H x v vl vu lo hi sl Q I rx hs pl pu h
  obtain ⟨a, xs, rfl, hx, q⟩ := h
  cases rx
  obtain ⟨its, r, ht, hz⟩ := I.list hx
  have hlen := r.length
  refine ⟨"list", _, slot_list_getitem.lookup, ht.isList.typeIs, ?_⟩
  refine wpAny_getItem_list_slice ht.isList hs pl pu .none (by simp) ?_ (by rw [List.size_toArray] <;> omega)
  rw [slicePick_cut, ← hlen]
  refine ⟨.ref s.heap.objs.size, _, I.laid (t' := s.toks) (o := .lst (cutV xs lo hi)) (fun b ob q => Heap.get?_push_of_some _ q) (Nat.le_refl _) ?_, rfl, q _ (I.hok.fresh (Nat.le_refl _))⟩
  exact ⟨Nat.le_trans (cutV_length xs lo hi) hz, _, 0, (r.drop (HT.sIx xs.length 0 lo)).take (HT.sIx xs.length xs.length hi - HT.sIx xs.length 0 lo), Heap.get?_push_size _ rfl⟩


theorem call_len_seq : CallR X (.builtin "len") (fun xs H Q => ∃ p ys, xs = [.ref p] ∧ (SqL X.K H p ys ∨ SqT X.K H p ys) ∧ Q (.int ys.length) H) := by
  intro pins s σ H xs us Q I r h
  obtain ⟨p, ys, rfl, hq, q⟩ := h
  obtain ⟨u, rfl, rx⟩ := vals1 r
  cases rx
  have hn := line63
  rcases hq with hq | hq
  · obtain ⟨its, r', pl, hz⟩ := I.list hq
    have hlen := r'.length
    exact Calls.call_len_list pl.isList (by simp only [List.size_toArray] <;> omega) ⟨.int ys.length, H, I.tok _, ⟨s.toks + 1, by rw [List.size_toArray, hlen]⟩, q⟩
  · obtain ⟨its, r', pl, hz⟩ := I.tuple hq
    have hlen := r'.length
    exact len_tuple pl (by simp only [List.size_toArray] <;> omega) ⟨.int ys.length, H, I.tok _, ⟨s.toks + 1, by rw [List.size_toArray, hlen]⟩, q⟩
theorem call_tuple_of : CallR X (.type "tuple") (fun xs H Q => ∃ p ys, xs = [.ref p] ∧ ((SqL X.K H p ys ∧ ∀ l, H l = none → Q (.ref l) (upd H l (.tup ys))) ∨ (SqT X.K H p ys ∧ Q (.ref p) H))) := by
  intro pins s σ H xs us Q I r h
  obtain ⟨p, ys, rfl, h⟩ := h
  obtain ⟨u, rfl, rx⟩ := vals1 r
  cases rx
  rcases h with ⟨hq, q⟩ | ⟨hq, q⟩
  · obtain ⟨its, r', pl, hz⟩ := I.list hq
    have hlen := r'.length
    refine call_tuple_list pl.isList (fun h' kp => ?_) (by simp only [List.size_toArray] <;> omega)
    have I1 : Inv X pins σ H { s with heap := h' } := I.kept (t' := s.toks) kp
    have I2 : Inv X pins σ (upd H h'.objs.size (.tup ys)) { s with heap := h'.push { cls := .type "tuple", data := .seq its.toArray } } :=
      I1.laid (t' := s.toks) (fun b o e => Heap.get?_push_of_some _ e) (Nat.le_refl _) (show ObjOk X.prog X.w _ _ _ (.tup ys) from ⟨hz, its, r', IsTup.new _ _⟩)
    exact ⟨.ref h'.objs.size, _, I2, rfl, q _ (I1.hok.fresh (Nat.le_refl _))⟩
  · obtain ⟨its, r', pl, hz⟩ := I.tuple hq
    exact call_tuple_same pl ⟨.ref p, H, I, rfl, q⟩

/-- the value is of that builtin type -/
def tyV (K : PySem.W.Frag) (T : String) (x : V) (H : Hp) : Prop := match x with
  | .str _ => T = "str"
  | .int _ => T = "int"
  | .ref p => (T = "list" ∧ ∃ xs, SqL K H p xs) ∨ (T = "tuple" ∧ ∃ o, K.lookup p = some o ∧ o.cls = .type "tuple" ∧ o.dict = none) ∨
      (T = "dict" ∧ ((∃ kvs, H p = some (.dK kvs)) ∨ ∃ kvs, H p = some (.dT kvs))) ∨ (T = "set" ∧ ∃ S n, H p = some (.set S n))
  | _ => False
theorem tyV_is {pins : List (Addr × Obj)} {σ : St} {H : Hp} {s : Shared} {T : String} {x : V} {v : Value} (I : Inv X pins σ H s) (r : RelV x v) (ty : tyV X.K T x H) :
    s.TypeIs v T ∧ ∀ a, v = .ref a → ∃ ob, s.heap.get? a = some ob ∧ ob.dict = none := by
  cases x with
  | str z =>
    obtain ⟨t, rfl⟩ := r
    cases (show T = "str" from ty)
    exact ⟨typeIs_str s z t, fun _ e => nomatch e⟩
  | int i =>
    obtain ⟨t, rfl⟩ := r
    cases (show T = "int" from ty)
    exact ⟨typeIs_int s i t, fun _ e => nomatch e⟩
  | ref p =>
    cases r
    rcases ty with ⟨rfl, xs, hq⟩ | ⟨rfl, o, hk, hc, hd⟩ | ⟨rfl, hk⟩ | ⟨rfl, S, n, hk⟩
    · obtain ⟨its, _, pl, _⟩ := I.list hq
      refine ⟨pl.isList.typeIs, fun a e => ?_⟩
      cases e
      obtain ⟨o, n, e, c, hd, _⟩ := pl
      exact ⟨o, e, hd⟩
    · refine ⟨⟨o, I.kIn p o hk, hc⟩, fun a e => ?_⟩
      cases e
      exact ⟨o, I.kIn _ o hk, hd⟩
    · have z : ∃ o, s.heap.get? p = some o ∧ o.ExactDict := by
        rcases hk with ⟨kvs, hk⟩ | ⟨kvs, hk⟩
        · obtain ⟨_, _, _, _, o, _, _, e, ex, _⟩ := I.hok p _ hk
          exact ⟨o, e, ex⟩
        · obtain ⟨_, _, _, _, o, _, _, e, ex, _⟩ := I.hok p _ hk
          exact ⟨o, e, ex⟩
      obtain ⟨o, e, ex⟩ := z
      refine ⟨⟨o, e, ex.1⟩, fun a e2 => ?_⟩
      cases e2
      exact ⟨o, e, ex.2.1⟩
    · obtain ⟨o, _, _, _, e, ex, _⟩ := I.hok p _ hk
      refine ⟨⟨o, e, ex.1⟩, fun a e2 => ?_⟩
      cases e2
      exact ⟨o, e, ex.2.1⟩
  | _ => exact False.elim ty
variable {o e : Expr} {es : List Expr} {to : TE} {t : TA} {name : Str} {apos cpos : Pos} {T id : String} {r : V → List V → Hp → VK → Prop}
/- xs.append(e), list.index on a module's tuple .. are MtR facts of 06m -/
end
end L2

namespace L2
open PySem PySem.Spec PyProof.Rows

def MtM (X : Cx) (id : String) (r : V → List V → Hp → VK → Prop) : Prop :=
  ∀ (pins : List (Addr × Obj)) (s : Shared) (σ : St) (H : Hp) (x : V) (xs : List V) (v : Value) (us : List Value) (Q : VK), Inv X pins σ H s → RelV x v → Vals xs us → r x xs H Q →
    wpAny (model X.prog X.w) X.A (call (.builtin id) (v :: us)) (EP X pins σ Q) X.xe s

theorem Vals.one : ∀ {x : V} {us : List Value}, Vals [x] us → ∃ u, us = [u] ∧ RelV x u
  | _, _, .cons r .nil => ⟨_, rfl, r⟩
theorem Vals.two : ∀ {x y : V} {us : List Value}, Vals [x, y] us → ∃ u v, us = [u, v] ∧ RelV x u ∧ RelV y v
  | _, _, _, .cons r (.cons q .nil) => ⟨_, _, rfl, r, q⟩
theorem Vals.zero : ∀ {us : List Value}, Vals [] us → us = []
  | _, .nil => rfl
theorem Vals.dropLast {xs : List V} {us : List Value} (h : Vals xs us) : Vals xs.dropLast us.dropLast := by
  induction h with
  | nil => exact .nil
  | cons r t ih =>
    cases t with
    | nil => exact .nil
    | cons q t' => exact .cons r ih
theorem Vals.eraseIdx : ∀ {xs : List V} {us : List Value} (i : Nat), Vals xs us → Vals (xs.eraseIdx i) (us.eraseIdx i)
  | _, _, _, .nil => .nil
  | _, _, 0, .cons _ t => t
  | _, _, i + 1, .cons r t => .cons r (Vals.eraseIdx i t)
theorem erase_last {α : Type} (l : List α) : l.eraseIdx (l.length - 1) = l.dropLast := by
  induction l with
  | nil => rfl
  | cons a r ih =>
    cases r with
    | nil => rfl
    | cons b r =>
      have e : (a :: b :: r).length - 1 = ((b :: r).length - 1) + 1 := by
        have h1 : (a :: b :: r).length = r.length + 2 := rfl
        have h2 : (b :: r).length = r.length + 1 := rfl
        omega
      rw [e, List.eraseIdx_cons_succ, ih]
      all_goals rfl
theorem len_erase {α : Type} : ∀ (l : List α) (i : Nat), (l.eraseIdx i).length ≤ l.length
  | [], _ => Nat.le_refl _
  | _ :: _, 0 => Nat.le_succ _
  | _ :: r, i + 1 => Nat.succ_le_succ (len_erase r i)

section
variable {X : Cx} {pins : List (Addr × Obj)} {σ : St} {H : Hp} {s : Shared} {l b : Addr} {xs ys zs : List V}

theorem Inv.lset {its its' : List Value} {n : Nat} {f : Array Value → Array Value} {t' : Nat} (I : Inv X pins σ H s) (hH : H l = some (.lst xs))
    (e : s.heap.get? l = some { cls := .type "list", data := .seq its.toArray n }) (hf : f its.toArray = its'.toArray) (hv : Vals ys its') (hz : ys.length ≤ sizeLine) :
    Inv X pins σ (upd H l (.lst ys)) { s with heap := s.heap.update l (Obj.mapSeq f), toks := t' } := by
  have q := PySem.IsL.update e f
  rw [hf] at q
  refine I.write (x := l) (e := l) (by rw [hH]; exact trivial) (.inl rfl) (fun b' u hb hu => (Heap.get?_update_other s.heap (Obj.mapSeq f) (Ne.symm hb)).trans hu) ⟨_, q⟩ ?_
  exact ⟨hz, its', _, hv, q⟩
theorem Inv.lnew {its : List Value} {t' : Nat} (I : Inv X pins σ H s) (hv : Vals ys its) (hz : ys.length ≤ sizeLine) :
    Inv X pins σ (upd H s.heap.objs.size (.lst ys)) { s with heap := s.heap.push { cls := .type "list", data := .seq its.toArray }, toks := t' } :=
  I.laid (fun _ _ q => Heap.get?_push_of_some _ q) (Nat.le_refl _) ⟨hz, its, 0, hv, Heap.get?_push_size _ rfl⟩
theorem Inv.fresh (I : Inv X pins σ H s) : H s.heap.objs.size = none := I.hok.fresh (Nat.le_refl _)
theorem Inv.lstM (I : Inv X pins σ H s) (hH : H l = some (.lst xs)) : xs.length ≤ sizeLine ∧ ∃ (its : List Value) (n : Nat), Vals xs its ∧ xs.length = its.length ∧ s.heap.get? l = some { cls := .type "list", data := .seq its.toArray n } := by
  obtain ⟨z, its, n, r, e⟩ := I.hok l _ hH
  exact ⟨z, its, n, r, r.length, e⟩

theorem notLongL {n : Nat} (h : n ≤ sizeLine) : Builtin.List.listTooLong n = false := by
  unfold Builtin.List.listTooLong
  exact decide_eq_false (by omega)
end

section
variable {X : Cx}

def rAppend : V → List V → Hp → VK → Prop := fun x vs H Q => ∃ l xs y, x = .ref l ∧ vs = [y] ∧ H l = some (.lst xs) ∧ xs.length < sizeLine ∧ Q .non (upd H l (.lst (xs ++ [y])))
theorem mt_append : MtM X "list.append" rAppend := by
  intro pins s σ H x vs v us Q I rx rv h
  obtain ⟨l, xs, y, rfl, rfl, hH, hz, q⟩ := h
  cases rx
  obtain ⟨u, rfl, ru⟩ := rv.one
  obtain ⟨z, its, n, r, hl, e⟩ := I.lstM hH
  refine call_meets F.slot_list_append ⟨_, e, rfl⟩ F.entry_list_append (F.args_list_append_2 _ _) (PySem.list_append l its.toArray n u (by rw [List.size_toArray]; omega)) ⟨e, ?_⟩
  refine ⟨.non, _, I.lset (its' := its ++ [u]) hH e (by simp) (r.append (.cons ru .nil)) ?_, rfl, q⟩
  rw [List.length_append, List.length_singleton]
  omega

def rExtend : V → List V → Hp → VK → Prop := fun x vs H Q => ∃ l b xs zs, x = .ref l ∧ vs = [.ref b] ∧ H l = some (.lst xs) ∧ H b = some (.lst zs) ∧ xs.length + zs.length ≤ sizeLine ∧ Q .non (upd H l (.lst (xs ++ zs)))
theorem mt_extend : MtM X "list.extend" rExtend := by
  intro pins s σ H x vs v us Q I rx rv h
  obtain ⟨l, b, xs, zs, rfl, rfl, hH, hB, hz, q⟩ := h
  cases rx
  obtain ⟨u, rfl, ru⟩ := rv.one
  cases ru
  obtain ⟨z, its, n, r, hl, e⟩ := I.lstM hH
  obtain ⟨z2, its2, n2, r2, hl2, e2⟩ := I.lstM hB
  have hsz : its.toArray.size + its2.toArray.size ≤ sizeLine := by rw [List.size_toArray, List.size_toArray]; omega
  have hlong : ¬ (!its.toArray.isEmpty && Builtin.List.listTooLong (its.toArray.size + its2.toArray.size)) = true := by
    rw [notLongL hsz, Bool.and_false]
    exact Bool.false_ne_true
  refine call_meets F.slot_list_extend ⟨_, e, rfl⟩ F.entry_list_extend (F.args_list_extend_2 _ _)
    (AutoSeq1.list_extend_list_list_0 l its.toArray n b its2.toArray n2 hlong (by rw [List.size_toArray]; omega) (by omega)) ⟨e, e2, ?_⟩
  refine ⟨.non, _, I.lset (its' := its ++ its2) hH e (by simp) (r.append r2) ?_, rfl, q⟩
  rw [List.length_append]
  omega

def rPop : V → List V → Hp → VK → Prop := fun x vs H Q => ∃ l xs y, x = .ref l ∧ vs = [] ∧ H l = some (.lst xs) ∧ xs[xs.length - 1]? = some y ∧ Q y (upd H l (.lst xs.dropLast))
theorem mt_pop : MtM X "list.pop" rPop := by
  intro pins s σ H x vs v us Q I rx rv h
  obtain ⟨l, xs, y, rfl, rfl, hH, hy, q⟩ := h
  cases rx
  have hus := rv.zero
  subst hus
  obtain ⟨z, its, n, r, hl, e⟩ := I.lstM hH
  obtain ⟨u, hu, ru⟩ := r.get hy
  have hy' : its.toArray[its.toArray.size - 1]? = some u := by
    show its.toArray[its.length - 1]? = some u
    rw [← Array.getElem?_toList, ← hl]
    exact hu
  refine call_meets F.slot_list_pop ⟨_, e, rfl⟩ F.entry_list_pop (F.args_list_pop_1 _) (MeetsSeq.list_pop_last l its.toArray n u hy' (by rw [List.size_toArray]; omega)) ⟨e, ?_⟩
  refine ⟨y, _, I.lset (its' := its.dropLast) hH e ?_ r.dropLast ?_, ru, q⟩
  · show its.toArray.eraseIdxIfInBounds (its.toArray.size - 1) = its.dropLast.toArray
    rw [List.size_toArray, List.eraseIdxIfInBounds_toArray, erase_last]
  · rw [List.length_dropLast]
    omega

def rPopAt : V → List V → Hp → VK → Prop := fun x vs H Q => ∃ l xs i k y, x = .ref l ∧ vs = [.int i] ∧ H l = some (.lst xs) ∧ -(2 ^ 63) ≤ i ∧ i < 2 ^ 63 ∧ seqIndex? i xs.length = some k ∧ xs[k]? = some y ∧ Q y (upd H l (.lst (xs.eraseIdx k)))
theorem mt_popAt : MtM X "list.pop" rPopAt := by
  intro pins s σ H x vs v us Q I rx rv h
  obtain ⟨l, xs, i, k, y, rfl, rfl, hH, h1, h2, hk, hy, q⟩ := h
  cases rx
  obtain ⟨u, rfl, ru⟩ := rv.one
  obtain ⟨t, rfl⟩ := ru
  obtain ⟨z, its, n, r, hl, e⟩ := I.lstM hH
  obtain ⟨w, hw, rw'⟩ := r.get hy
  refine call_meets F.slot_list_pop ⟨_, e, rfl⟩ F.entry_list_pop (F.args_list_pop_2 _ _)
    (MeetsSeq.list_pop_at l its.toArray n i t k w (fitsIndex_both h1 h2) (by rw [List.size_toArray, ← hl]; exact hk) (by rw [← Array.getElem?_toList]; exact hw) (by rw [List.size_toArray]; omega)) ⟨e, ?_⟩
  refine ⟨y, _, I.lset (its' := its.eraseIdx k) hH e ?_ (r.eraseIdx k) ?_, rw', q⟩
  · show its.toArray.eraseIdxIfInBounds k = (its.eraseIdx k).toArray
    rw [List.eraseIdxIfInBounds_toArray]
  · have := len_erase xs k
    omega



def rCat : R2 := fun x y H Q => ∃ l b xs zs, x = .ref l ∧ y = .ref b ∧ H l = some (.lst xs) ∧ H b = some (.lst zs) ∧ xs.length + zs.length ≤ sizeLine ∧ ∀ p, H p = none → Q (.ref p) (upd H p (.lst (xs ++ zs)))
theorem op_cat : OpR X (binaryOp .Add) rCat := by
  intro pins s σ H x y v u Q I rx ry h
  obtain ⟨l, b, xs, zs, rfl, rfl, hH, hB, hz, q⟩ := h
  cases rx
  cases ry
  obtain ⟨z, its, n, r, hl, e⟩ := I.lstM hH
  obtain ⟨z2, its2, n2, r2, hl2, e2⟩ := I.lstM hB
  refine PySem.P.add_list e e2 ?_ (by rw [List.size_toArray, List.size_toArray]; omega)
  have ea : its.toArray ++ its2.toArray = (its ++ its2).toArray := by simp
  rw [ea]
  exact ⟨.ref _, _, I.lnew (t' := s.toks) (r.append r2) (by rw [List.length_append]; omega), rfl, q _ I.fresh⟩

end

section
variable {prog : Program} {w : World} {A : Around} {E : Value → Shared → Prop} {s : Shared}
set_option maxRecDepth 100000 in
end

section
variable {X : Cx}
end
end L2

namespace L2
open PySem PySem.Spec PyProof.Rows

theorem Vals.ints : ∀ {ns : List Int} {us : List Value}, Vals (ns.map V.int) us → IntsAre us ns
  | [], us, h => by
    rw [List.map_nil] at h
    cases h
    exact IntsAre.nil
  | n :: ns, us, h => by
    rw [List.map_cons] at h
    cases h with
    | cons r t =>
      obtain ⟨k, rfl⟩ := r
      exact IntsAre.cons n k (Vals.ints t)
theorem Vals.bls : ∀ {bs : List Bool} {us : List Value}, Vals (bs.map V.bl) us → us = bs.map Value.bool
  | [], us, h => by
    rw [List.map_nil] at h
    cases h
    rfl
  | b :: bs, us, h => by
    rw [List.map_cons] at h
    cases h with
    | cons r t =>
      cases r
      rw [Vals.bls t, List.map_cons]
theorem Vals.ref1 {a : Addr} {us : List Value} (r : Vals [V.ref a] us) : us = [Value.ref a] := by
  cases r with
  | cons r t =>
    cases t
    cases r
    rfl

section
variable {prog : Program} {w : World} {A : Around} {E : Value → Shared → Prop} {s : Shared} {l : Addr} {its : List Value} {ns : List Int} {Q : Value → Shared → Prop}
theorem sum_raw (hh : A.handled = none) (hl : s.heap.IsList l its.toArray) (hi : IntsAre its ns)
    (h : ∀ h' tk t', (∀ b o, s.heap.get? b = some o → h'.get? b = some o) → Q (.int ns.sum t') { s with heap := h', toks := tk }) : wpAny (model prog w) A (call (.builtin "sum") [.ref l]) Q E s := by
  obtain ⟨xs, e⟩ := hi.allInts.items
  have hn : numsOf (intItems xs).toList = ns := by rw [← e]; exact hi.numsOf
  rw [nums_intItems] at hn
  rw [e] at hl
  refine PySem.sum_intListG hh hl fun h' tk t' hk => ?_
  have := h h' tk t' hk
  rw [preSum_eq, List.take_of_length_le (by simp), hn]; exact this
end

section
variable {X : Cx}
/-- sum(xs) of a list of ints -/
def rSum (K : PySem.W.Frag) : List V → Hp → VK → Prop := fun vs H Q => ∃ (a : Addr) (ns : List Int), vs = [V.ref a] ∧ SqL K H a (ns.map V.int) ∧ Q (.int ns.sum) H
theorem cr_sum (hc : X.calm = true) : CallR X (.builtin "sum") (rSum X.K) := by
  intro pins s σ H vs us Q I r h
  obtain ⟨a, ns, rfl, hs, q⟩ := h
  obtain ⟨its, rv, hl, _⟩ := I.list hs
  rw [Vals.ref1 r]
  exact sum_raw (I.ok.hd hc) hl.isList rv.ints fun h' tk t' hk => ⟨.int _, H, I.kept hk, ⟨_, rfl⟩, q⟩

end

section
variable {X : Cx}
end

section
variable {X : Cx}
end

theorem iter_any {prog : Program} {w : World} {A : Around} {E : Value → Shared → Prop} {s : Shared} {l : Addr} {items : Array Value} {Q : Value → Shared → Prop} (hl : s.heap.IsList l items)
    (h : ∀ s₂ : Shared, s₂ = { s with heap := s.heap.push { cls := .type "list_iterator", data := .fields #[.ref l, .int 0 0] } } →
      (s₂.heap.IsListIter s.heap.objs.size l 0 ∧ s₂.heap.IsList l items) → l ≠ s.heap.objs.size → Q (.ref s.heap.objs.size) s₂) : wpAny (model prog w) A (pyIter (.ref l)) Q E s := by
  have hlt : l < s.heap.objs.size := by obtain ⟨_, e, _⟩ := hl; exact Heap.lt_size e
  exact wpAny_pyIter_list hl (h _ rfl ⟨⟨_, Heap.get?_push_size _ rfl, rfl, rfl⟩, hl.push _⟩ (Nat.ne_of_lt hlt))
theorem truth_bools {prog : Program} {w : World} {A : Around} {bs : List Bool} {its : List Value} (e : its = bs.map Value.bool) :
    TruthOf prog w A (fun i v => its.toArray[i]? = some v) (fun i => bs.getD i false) := fun i v s Q E hv hq => by
  have hv' : its[i]? = some v := by simpa using hv
  rw [e, List.getElem?_map] at hv'
  obtain ⟨b, hb, rfl⟩ := Option.map_eq_some_iff.mp hv'
  have hg : bs.getD i false = b := by rw [List.getD_eq_getElem?_getD, hb] <;> rfl
  have hq' : Q (bs.getD i false) s := hq
  rw [hg] at hq'
  exact wpAny_truthy_bool hq'
theorem any_range : ∀ bs : List Bool, (List.range bs.length).any (fun i => bs.getD i false) = bs.any id
  | [] => rfl
  | b :: bs => by
    rw [List.length_cons, List.range_succ_eq_map, List.any_cons, List.any_map, List.any_cons, ← any_range bs]
    all_goals rfl
theorem all_range : ∀ bs : List Bool, (List.range bs.length).all (fun i => bs.getD i false) = bs.all id
  | [] => rfl
  | b :: bs => by
    rw [List.length_cons, List.range_succ_eq_map, List.all_cons, List.all_map, List.all_cons, ← all_range bs]
    all_goals rfl
section
variable {X : Cx}
def rAll (K : PySem.W.Frag) : List V → Hp → VK → Prop := fun vs H Q => ∃ (a : Addr) (bs : List Bool), vs = [V.ref a] ∧ SqL K H a (bs.map V.bl) ∧ Q (.bl (bs.all id)) H
theorem cr_all (hc : X.calm = true) : CallR X (.builtin "all") (rAll X.K) := by
  intro pins s σ H vs us Q I r h
  obtain ⟨a, bs, rfl, hs, q⟩ := h
  obtain ⟨its, rv, hl, _⟩ := I.list hs
  rw [Vals.ref1 r]
  have hb := rv.bls
  refine call_all_walk (iter_any hl.isList fun s₂ e2 st hne => ?_)
  subst e2
  refine ⟨_, _, _, _, _, _, _, rfl, Walks.list (A := X.A.in1) (I.ok.hd hc) _ a hne its.toArray, st, truth_bools hb, fun h' tk hk => ?_⟩
  refine ⟨.bl _, H, I.kept fun b o eo => hk b o (fun hmem => ?_) (Heap.get?_push_of_some _ eo), ?_, q⟩
  · rcases List.mem_cons.mp hmem with e1 | hmem
    · exact absurd (e1 ▸ Heap.lt_size eo) (Nat.lt_irrefl _)
    · cases hmem
  · show Value.bool _ = Value.bool _
    rw [← all_range, hb, List.size_toArray, List.length_map]
end

section
variable {X : Cx} {pins : List (Addr × Obj)} {σ : St} {H : Hp} {s : Shared}
end
section
variable {X : Cx}
end
end L2

namespace L2
open PySem PySem.Spec PyProof.Rows
abbrev CellAt (h : Heap) (c : Addr) (v : Option Value) : Prop := h.IsCell c v
def relS (scope sc : Scope) : Scope :=
  { scope with names := scope.names.map fun (n, k) => if (k == .free && sc.kind == .function && sc.names.lookup n == some .cell) then (n, .cell) else (n, k) }

def cloFrom (cells : List (Str × Addr)) : List (Str × NameKind) → List (Str × Addr) → List (Str × Addr)
  | [], acc => acc
  | (n, k) :: r, acc => if k == .free then cloFrom cells r ((n, (cells.lookup n).getD 0) :: acc) else cloFrom cells r acc

theorem closure_loop (env : Env) (f : Str × NameKind → List (Str × Addr) → Sem (ForInStep (List (Str × Addr))))
    (hf : ∀ n k c, f (n, k) c = if k == .free then (do let a ← cellOf env n; pure (.yield ((n, a) :: c))) else pure (.yield c)) :
    ∀ (names : List (Str × NameKind)) (acc : List (Str × Addr)), (∀ y ∈ names, y.2 = .free → ∃ c, env.cells.lookup y.1 = some c) → forIn names acc f = pure (cloFrom env.cells names acc)
  | [], acc, _ => by rw [List.forIn_nil]; rfl
  | (n, k) :: r, acc, h => by
    rw [List.forIn_cons, hf]
    have ih := fun acc => closure_loop env f hf r acc fun y hy => h y (List.mem_cons_of_mem _ hy)
    unfold cloFrom
    by_cases hk : (k == NameKind.free) = true
    · rw [if_pos hk, if_pos hk]
      obtain ⟨c, hc⟩ := h (n, k) List.mem_cons_self (by simpa using hk)
      have e : cellOf env n = pure c := by unfold cellOf; rw [hc]
      rw [e]
      have e2 : (env.cells.lookup n).getD 0 = c := by rw [hc]; rfl
      rw [e2]
      exact ih _
    · rw [if_neg hk, if_neg hk]
      exact ih _
theorem closure_ok {scope : Scope} {env : Env} (h : ∀ y ∈ scope.names, y.2 = .free → ∃ c, env.cells.lookup y.1 = some c) : closureFor scope env = pure (cloFrom env.cells scope.names []) := by
  simp only [closureFor]
  rw [closure_loop env _ (fun n k c => rfl) scope.names [] h]
  rfl

theorem mem_lookup {α : Type} : ∀ {l : List (Str × α)} {n : Str} {c : α}, (n, c) ∈ l → ∃ c', l.lookup n = some c'
  | (k, v) :: r, n, c, h => by
    rw [List.lookup_cons]
    cases hb : n == k with
    | true => exact ⟨_, rfl⟩
    | false =>
      rcases List.mem_cons.mp h with e | h
      · cases e; simp at hb
      · exact mem_lookup h

theorem cloFrom_mem {cells : List (Str × Addr)} : ∀ {names : List (Str × NameKind)} {acc : List (Str × Addr)} {n : Str} {c : Addr}, (n, c) ∈ cloFrom cells names acc → (n, c) ∈ acc ∨ ((n, .free) ∈ names ∧ c = (cells.lookup n).getD 0)
  | [], _, _, _, h => .inl h
  | (m, k) :: r, acc, n, c, h => by
    unfold cloFrom at h
    split at h
    · rename_i hk
      have hk : k = .free := by simpa using hk
      rcases cloFrom_mem h with h | ⟨h1, h2⟩
      · rcases List.mem_cons.mp h with e | h
        · cases e; exact .inr ⟨hk ▸ List.mem_cons_self, rfl⟩
        · exact .inl h
      · exact .inr ⟨List.mem_cons_of_mem _ h1, h2⟩
    · rcases cloFrom_mem h with h | ⟨h1, h2⟩
      · exact .inl h
      · exact .inr ⟨List.mem_cons_of_mem _ h1, h2⟩
theorem cloFrom_acc {cells : List (Str × Addr)} : ∀ {names : List (Str × NameKind)} {acc : List (Str × Addr)} {p : Str × Addr}, p ∈ acc → p ∈ cloFrom cells names acc
  | [], _, _, h => h
  | (m, k) :: r, acc, p, h => by
    unfold cloFrom
    split
    · exact cloFrom_acc (List.mem_cons_of_mem _ h)
    · exact cloFrom_acc h
theorem cloFrom_has {cells : List (Str × Addr)} : ∀ {names : List (Str × NameKind)} {acc : List (Str × Addr)} {n : Str}, (n, .free) ∈ names → (n, (cells.lookup n).getD 0) ∈ cloFrom cells names acc
  | (m, k) :: r, acc, n, h => by
    unfold cloFrom
    rcases List.mem_cons.mp h with e | h
    · cases e
      exact cloFrom_acc List.mem_cons_self
    · split
      · exact cloFrom_has h
      · exact cloFrom_has h

theorem cells_mem : ∀ {names : List (Str × NameKind)} {h : Heap} {acc : List (Str × Addr)} {x : Str} {c : Addr}, (x, c) ∈ cellsFrom h.objs.size names acc →
    (x, c) ∈ acc ∨ ((x, .cell) ∈ names ∧ h.objs.size ≤ c ∧ CellAt (pushCells h names) c none)
  | [], _, _, _, _, h => .inl h
  | (n, k) :: r, h, acc, x, c, hm => by
    unfold cellsFrom at hm
    unfold pushCells
    split at hm
    · rename_i hk
      rw [if_pos hk]
      have hk : k = .cell := by simpa using hk
      rw [← Heap.size_push h { cls := .type "cell", data := .cell none }] at hm
      rcases cells_mem hm with hm | ⟨h1, h2, h3⟩
      · rcases List.mem_cons.mp hm with e | hm
        · cases e
          exact .inr ⟨hk ▸ List.mem_cons_self, Nat.le_refl _, _, pushCells_keeps r _ _ _ (Heap.get?_push_size _ rfl), rfl⟩
        · exact .inl hm
      · rw [Heap.size_push] at h2
        exact .inr ⟨List.mem_cons_of_mem _ h1, Nat.le_of_succ_le h2, h3⟩
    · rename_i hk
      rw [if_neg hk]
      rcases cells_mem hm with hm | ⟨h1, h2, h3⟩
      · exact .inl hm
      · exact .inr ⟨List.mem_cons_of_mem _ h1, h2, h3⟩
theorem cells_acc : ∀ {names : List (Str × NameKind)} {n : Nat} {acc : List (Str × Addr)} {p : Str × Addr}, p ∈ acc → p ∈ cellsFrom n names acc
  | [], _, _, _, h => h
  | (m, k) :: r, n, acc, p, h => by
    unfold cellsFrom
    split
    · exact cells_acc (List.mem_cons_of_mem _ h)
    · exact cells_acc h
theorem cells_has : ∀ {names : List (Str × NameKind)} {n : Nat} {acc : List (Str × Addr)} {x : Str}, (x, .cell) ∈ names → ∃ c, (x, c) ∈ cellsFrom n names acc
  | (m, k) :: r, n, acc, x, h => by
    unfold cellsFrom
    rcases List.mem_cons.mp h with e | h
    · cases e
      exact ⟨n, cells_acc List.mem_cons_self⟩
    · split
      · exact cells_has h
      · exact cells_has h
theorem cells_inj : ∀ {names : List (Str × NameKind)} {h : Heap} {acc : List (Str × Addr)} {x y : Str} {c : Addr}, (∀ p ∈ acc, p.2 < h.objs.size) → (∀ x y c, (x, c) ∈ acc → (y, c) ∈ acc → x = y) →
    (x, c) ∈ cellsFrom h.objs.size names acc → (y, c) ∈ cellsFrom h.objs.size names acc → x = y
  | [], _, _, _, _, _, _, hi, h1, h2 => hi _ _ _ h1 h2
  | (n, k) :: r, h, acc, x, y, c, hl, hi, h1, h2 => by
    unfold cellsFrom at h1 h2
    split at h1
    · rename_i hk
      rw [if_pos hk] at h2
      rw [← Heap.size_push h { cls := .type "cell", data := .cell none }] at h1 h2
      refine cells_inj (h := h.push _) (fun p hp => ?_) (fun x y c a b => ?_) h1 h2
      · rw [Heap.size_push]
        rcases List.mem_cons.mp hp with rfl | hp
        · exact Nat.lt_succ_self _
        · exact Nat.lt_succ_of_lt (hl p hp)
      · rcases List.mem_cons.mp a with e | a <;> rcases List.mem_cons.mp b with e' | b
        · cases e; cases e'; rfl
        · cases e; exact absurd (hl _ b) (Nat.lt_irrefl _)
        · cases e'; exact absurd (hl _ a) (Nat.lt_irrefl _)
        · exact hi _ _ _ a b
    · rename_i hk
      rw [if_neg hk] at h2
      exact cells_inj hl hi h1 h2

theorem newEnv_comp {M : Model} {A : Around} {E : Value → Shared → Prop} {s : Shared} {scope : Scope} {globals : Addr} {closure : List (Str × Addr)} {qual : Str} {func : Option Addr} {code : Value} {around : Env} {builtins : Addr} {Q : Env → Shared → Prop}
    (h : Q (newEnv scope s.heap.objs.size globals (cellsFrom (s.heap.objs.size + 1) scope.names closure) qual func code (some around) builtins)
      { s with heap := pushCells (s.heap.push { cls := .type "dict", data := .dict #[] }) scope.names }) :
    wpAny M A (newFunctionEnv scope globals closure [] qual func code (some around) builtins) Q E s := by
  simp only [newFunctionEnv, Option.isSome_some, if_true]
  refine wpAny_bind (wpAny_alloc ?_)
  refine wpAny_bind (wpAny_layCells _ (fun n k c => rfl) scope.names closure _ _ ?_)
  rw [show ({ s with heap := s.heap.push { cls := .type "dict", data := .dict #[] } } : Shared).heap.objs.size = s.heap.objs.size + 1 from Heap.size_push ..]
  rw [List.forIn_nil]
  exact wpAny_bind (wpAny_pure (wpAny_pure h))

/-- every name of the written scope, in the scope that runs -/
theorem lookup_relS {sc : Scope} : ∀ {names : List (Str × NameKind)} {x : Str} {k : NameKind},
    (names.map fun (n, k) => if (k == NameKind.free && sc.kind == .function && sc.names.lookup n == some .cell) then (n, NameKind.cell) else (n, k)).lookup x = some k →
    ∃ k', names.lookup x = some k' ∧ (k = k' ∨ (k' = .free ∧ k = .cell))
  | [], _, _, h => by simp at h
  | (n, k₀) :: r, x, k, h => by
    have ih := @lookup_relS sc r x k
    have h' : List.lookup x ((if (k₀ == NameKind.free && sc.kind == .function && sc.names.lookup n == some .cell) = true then (n, NameKind.cell) else (n, k₀)) :: (r.map _)) = some k := h
    cases hx : x == n with
    | true =>
      simp only [List.lookup_cons, hx]
      by_cases hc : (k₀ == NameKind.free && sc.kind == .function && sc.names.lookup n == some .cell) = true
      · rw [if_pos hc] at h'
        simp only [List.lookup_cons, hx] at h'
        cases h'
        simp only [Bool.and_eq_true, beq_iff_eq] at hc
        exact ⟨k₀, rfl, .inr ⟨hc.1.1, rfl⟩⟩
      · rw [if_neg hc] at h'
        simp only [List.lookup_cons, hx] at h'
        cases h'
        exact ⟨_, rfl, .inl rfl⟩
    | false =>
      simp only [List.lookup_cons, hx]
      by_cases hc : (k₀ == NameKind.free && sc.kind == .function && sc.names.lookup n == some .cell) = true
      · rw [if_pos hc] at h'
        simp only [List.lookup_cons, hx] at h'
        exact ih h'
      · rw [if_neg hc] at h'
        simp only [List.lookup_cons, hx] at h'
        exact ih h'



/-- the names of a comprehension's block: its own (with their places in N), or captured -/
structure BlkOk (N : List Str) (sc scope : Scope) (own : List (Str × Nat)) : Prop where
  kind : scope.kind = .function
  uniq : ∀ y ∈ scope.names, scope.names.lookup y.1 = some y.2
  ix : ∀ p ∈ own, N[p.2]? = some p.1
  free : ∀ y ∈ scope.names, y.2 = .free → sc.names.lookup y.1 = some .cell ∨ sc.names.lookup y.1 = some .free
  own : ∀ y ∈ scope.names, y.2 = .local ∨ y.2 = .cell → y.1 ∈ own.map (·.1) ∨ y.1 ∉ N
/-- the slots of the block's own names forgotten -/
def wipe (σ : St) : List Nat → St
  | [] => σ
  | v :: vs => (wipe σ vs).set v none
theorem wipe_length (σ : St) : ∀ vs : List Nat, (wipe σ vs).length = σ.length
  | [] => rfl
  | v :: vs => by unfold wipe; rw [List.length_set, wipe_length σ vs]
theorem wipe_some {σ : St} {i : Nat} {x : V} : ∀ {vs : List Nat}, (wipe σ vs)[i]? = some (some x) → σ[i]? = some (some x) ∧ i ∉ vs
  | [], h => ⟨h, by simp⟩
  | v :: vs, h => by
    unfold wipe at h
    by_cases hi : v = i
    · subst hi
      by_cases hv : v < (wipe σ vs).length
      · rw [List.getElem?_set_self hv] at h; cases h
      · rw [List.getElem?_eq_none (by simpa using hv)] at h; cases h
    · rw [List.getElem?_set_ne hi] at h
      obtain ⟨h1, h2⟩ := wipe_some h
      exact ⟨h1, by simp only [List.mem_cons, not_or]; exact ⟨fun e => hi e.symm, h2⟩⟩

/-- the context of a block that starts at s, its iterator's objects at fp -/
abbrev Cx.blk (X : Cx) (s : Shared) (H : Hp) (scope : Scope) (cenv : Env) (fp : List Addr) : Cx := { X with s_0 := s, H_0 := H, env := cenv, outer := X.stack, ex := fp, fn := fun x => scope.names.lookup x == some .cell, pn := [], xe := fun _ _ => False }
section
variable {X : Cx} {pins : List (Addr × Obj)} {σ : St} {H : Hp} {s : Shared}
theorem block_start {scope : Scope} {own : List (Str × Nat)} {fp : List Addr} (I : Inv X pins σ H s) (ok : BlkOk X.N X.env.scope scope own) (hN : X.N.Nodup) (hfp : ∀ b ∈ fp, FpOk X pins H b ∧ b < s.heap.objs.size) :
    Inv (X.blk s H scope (compEnvC scope (cellsFrom (s.heap.objs.size + 1) scope.names (cloFrom X.env.cells scope.names [])) s.heap.objs.size X.env) fp) [] (wipe σ (own.map (·.2))) H { s with heap := pushCells (s.heap.push { cls := .type "dict", data := .dict #[] }) scope.names } := by
  have hfree : ∀ y ∈ scope.names, y.2 = .free → ∃ c, X.env.cells.lookup y.1 = some c := fun y hy e => by
    rcases ok.free y hy e with k | k
    · exact I.ok.has _ (.inl k)
    · exact I.ok.has _ (.inr k)
  generalize hcenv : compEnvC scope (cellsFrom (s.heap.objs.size + 1) scope.names (cloFrom X.env.cells scope.names [])) s.heap.objs.size X.env = cenv
  have kp : ∀ b o, s.heap.get? b = some o → (pushCells (s.heap.push { cls := .type "dict", data := .dict #[] }) scope.names).get? b = some o := fun b o e => pushCells_keeps _ _ _ _ (Heap.get?_push_of_some _ e)
  have hL : cenv.locals = s.heap.objs.size := by rw [← hcenv]; rfl
  have hcl : cenv.cells = cellsFrom (s.heap.objs.size + 1) scope.names (cloFrom X.env.cells scope.names []) := by rw [← hcenv]; rfl
  have hsc : cenv.scope = relS scope X.env.scope := by rw [← hcenv]; rfl
  rw [← Heap.size_push s.heap { cls := .type "dict", data := .dict #[] }] at hcl
  have cm : ∀ {y c}, (y, c) ∈ cloFrom X.env.cells scope.names [] → X.env.cells.lookup y = some c ∧ c < s.heap.objs.size := fun {y c} hm => by
    rcases cloFrom_mem hm with hm | ⟨h1, rfl⟩
    · cases hm
    · obtain ⟨c, hc⟩ := hfree _ h1 rfl
      rw [hc]
      obtain ⟨w, z⟩ := I.cell _ _ hc
      exact ⟨rfl, z.lt⟩
  have mem : ∀ {y c}, cenv.cells.lookup y = some c → (X.env.cells.lookup y = some c ∧ c < s.heap.objs.size) ∨ (s.heap.objs.size + 1 ≤ c ∧ CellAt (pushCells (s.heap.push { cls := .type "dict", data := .dict #[] }) scope.names) c none) := fun {y c} e => by
    rw [hcl] at e
    rcases cells_mem (PySem.mem_of_lookup e) with hm | ⟨_, h2, h3⟩
    · exact .inl (cm hm)
    · rw [Heap.size_push] at h2; exact .inr ⟨h2, h3⟩
  have look : ∀ {y}, scope.names.lookup y = some .free → ∃ c, cenv.cells.lookup y = some c ∧ X.env.cells.lookup y = some c := fun {y} hl => by
    have hy : (y, NameKind.free) ∈ scope.names := PySem.mem_of_lookup hl
    obtain ⟨c', e'⟩ := mem_lookup (cells_acc (names := scope.names) (n := (s.heap.push { cls := .type "dict", data := .dict #[] }).objs.size) (cloFrom_has (cells := X.env.cells) (acc := []) hy))
    rw [← hcl] at e'
    refine ⟨c', e', ?_⟩
    rw [hcl] at e'
    rcases cells_mem (PySem.mem_of_lookup e') with hm | ⟨h1, _, _⟩
    · exact (cm hm).1
    · have := ok.uniq _ h1
      rw [hl] at this; cases this
  have okB : (X.blk s H scope cenv fp).Ok := by
    refine ⟨I.ok.mod, by show cenv.scope.kind = _; rw [hsc]; exact ok.kind, by show cenv.globals = _; rw [← hcenv]; exact I.ok.glob, by show cenv.builtins = _; rw [← hcenv]; exact I.ok.blt, by show s.heap.objs.size ≤ cenv.locals; rw [hL]; exact Nat.le_refl _,
      fun y z c e1 e2 => ?_, fun y hy => ?_, fun y c z e => ?_, I.ok.hd, I.ok.frames, .inl rfl, fun b hb => ⟨?_, fun y c e z => ?_⟩, I.bs, Nat.le_trans I.ok.bsz I.sz, fun b o e hb => ?_, fun b hb z => ?_, I.stack, I.stkFree⟩
    · have e1 : cenv.cells.lookup y = some c := e1
      have e2 : cenv.cells.lookup z = some c := e2
      rw [hcl] at e1 e2
      refine cells_inj (fun p hp => ?_) (fun y z c a b => I.ok.inj y z c (cm a).1 (cm b).1) (PySem.mem_of_lookup e1) (PySem.mem_of_lookup e2)
      rw [Heap.size_push]
      exact Nat.lt_succ_of_lt (cm (y := p.1) (c := p.2) hp).2
    · show ∃ c, cenv.cells.lookup y = some c
      have key : ∀ k, cenv.kindOf y = some k → (k = .cell ∨ k = .free) → ∃ c, cenv.cells.lookup y = some c := fun k hk hk' => by
        unfold Env.kindOf at hk
        rw [hsc] at hk
        obtain ⟨k', e, r⟩ := lookup_relS hk
        have : k' = .cell ∨ k' = .free := by
          rcases r with rfl | ⟨rfl, _⟩
          · exact hk'
          · exact .inr rfl
        rcases this with rfl | rfl
        · obtain ⟨c, hm⟩ := cells_has (n := (s.heap.push { cls := .type "dict", data := .dict #[] }).objs.size) (acc := cloFrom X.env.cells scope.names []) (PySem.mem_of_lookup e)
          obtain ⟨c', e'⟩ := mem_lookup hm
          exact ⟨c', by rw [hcl]; exact e'⟩
        · obtain ⟨c, h1, _⟩ := look e
          exact ⟨c, h1⟩
      rcases hy with hy | hy
      · exact key _ hy (.inl rfl)
      · exact key _ hy (.inr rfl)
    · have z : (scope.names.lookup y == some NameKind.cell) = true := z
      have z : scope.names.lookup y = some .cell := by simpa using z
      have e : cenv.cells.lookup y = some c := e
      rw [hcl] at e
      rcases cells_mem (PySem.mem_of_lookup e) with hm | ⟨_, h2, _⟩
      · rcases cloFrom_mem hm with hm | ⟨h1, _⟩
        · cases hm
        · have q := ok.uniq _ h1
          rw [z] at q; cases q
      · rw [Heap.size_push] at h2
        exact Nat.le_of_succ_le h2
    · show b ≠ cenv.locals
      rw [hL]; exact Nat.ne_of_lt (hfp b hb).2
    · have e : cenv.cells.lookup y = some c := e
      rcases mem e with ⟨h1, _⟩ | ⟨h1, _⟩
      · exact (hfp b hb).1.2.2.2.2.1 y c h1 z
      · have h2 : s.heap.objs.size + 1 ≤ b := by rw [← z]; exact h1
        exact absurd (Nat.lt_of_lt_of_le (hfp b hb).2 (Nat.le_of_succ_le h2)) (Nat.lt_irrefl _)
    · rcases (hfp b hb).1.2.2.2.1 with z | z
      · exact I.ok.noex b o e z
      · exact absurd (Nat.lt_of_lt_of_le (Heap.lt_size e) (Nat.le_trans I.ok.bsz z)) (Nat.lt_irrefl _)
    · rcases List.mem_cons.mp (I.stkSub b z) with z | z
      · exact (hfp b hb).1.2.1 z
      · exact (hfp b hb).1.2.2.1 z
  refine ⟨okB, rfl, I.bare, Un.kept kp, ⟨fun _ => none, ?_, fun i y av e1 e2 e3 => ?_⟩, fun y c e => ?_, ?_, fun y c e => ?_, fun p hp => ?_, I.hok.kept kp, by rw [wipe_length]; exact I.len⟩
  · show Heap.Ns _ cenv.locals _
    rw [hL]
    exact Heap.Ns.keeps (Heap.Ns.new ..) fun b o e => pushCells_keeps _ _ _ _ e
  · obtain ⟨e2, hne⟩ := wipe_some e2
    have hfr : scope.names.lookup y = some .free ∧ (cenv.kindOf y = some .cell ∨ cenv.kindOf y = some .free) := by
      have key : ∀ k, cenv.scope.names.lookup y = some k → k = .local ∨ k = .cell ∨ k = .free → scope.names.lookup y = some .free ∧ (cenv.kindOf y = some .cell ∨ cenv.kindOf y = some .free) := fun k hk hk' => by
        have hk0 := hk
        rw [hsc] at hk
        obtain ⟨k', e, r⟩ := lookup_relS hk
        have no : ¬ (k' = .local ∨ k' = .cell) := fun hh => by
          rcases ok.own _ (PySem.mem_of_lookup e) hh with e' | e'
          · obtain ⟨p, hp, hpy⟩ := List.mem_map.mp e'
            have e3 := ok.ix p hp
            have : p.1 = y := hpy
            rw [this] at e3
            exact hne (List.mem_map.mpr ⟨p, hp, nodup_ix hN e3 e1⟩)
          · exact e' (List.mem_of_getElem? e1)
        rcases r with rfl | ⟨rfl, rfl⟩
        · rcases hk' with rfl | rfl | rfl
          · exact absurd (.inl rfl) no
          · exact absurd (.inr rfl) no
          · exact ⟨e, .inr hk0⟩
        · exact ⟨e, .inl hk0⟩
      have e3 : Vis cenv.scope y := e3
      rcases e3 with e3 | e3 | e3
      · exact key _ e3 (.inl rfl)
      · exact key _ e3 (.inr (.inl rfl))
      · exact key _ e3 (.inr (.inr rfl))
    obtain ⟨m, hn, hl⟩ := I.loc
    have hvis : Vis X.env.scope y := (ok.free _ (PySem.mem_of_lookup hfr.1) rfl).elim (fun k => .inr (.inl k)) (fun k => .inr (.inr k))
    obtain ⟨w, r, q⟩ := hl i y av e1 e2 hvis
    refine ⟨w, r, .inr ⟨hfr.2, ?_⟩⟩
    obtain ⟨c, h1, h2⟩ := look hfr.1
    rcases q with ⟨k, _⟩ | ⟨_, c', e', z⟩
    · have k : X.env.scope.names.lookup y = some .local := k
      rcases ok.free _ (PySem.mem_of_lookup hfr.1) rfl with k' | k' <;> rw [show X.env.scope.names.lookup y = _ from k'] at k <;> cases k
    · rw [h2] at e'; cases e'
      exact ⟨c, h1, z.keeps kp⟩
  · have e : cenv.cells.lookup y = some c := e
    rcases mem e with ⟨h1, _⟩ | ⟨_, z⟩
    · obtain ⟨w, z⟩ := I.cell y c h1
      exact ⟨w, z.keeps kp⟩
    · exact ⟨_, z⟩
  · show H cenv.locals = none
    rw [hL]; exact I.hok.fresh (Nat.le_refl _)
  · have e : cenv.cells.lookup y = some c := e
    rcases mem e with ⟨h1, _⟩ | ⟨h1, _⟩
    · exact I.freeC y c h1
    · exact I.hok.fresh (Nat.le_of_succ_le h1)
  · exact absurd (show p ∈ ([] : List (Addr × Obj)) ++ [] from hp) (by simp)

/-- an item appended to a tracked list -/
theorem app_ok {E : Value → Shared → Prop} {D : Addr} {xs : List V} {y : V} {v : Value} {Q : Value → Shared → Prop} (I : Inv X pins σ H s) (hD : H D = some (.lst xs)) (hz : xs.length < sizeLine) (r : RelV y v)
    (h : ∀ s', Inv X pins σ (upd H D (.lst (xs ++ [y]))) s' → Q .none s') : wpAny (model X.prog X.w) X.A (call (.builtin "list.append") [.ref D, v]) Q E s := by
  obtain ⟨hz', its, n, ri, e⟩ := I.hok D _ hD
  have hl := ri.length
  refine append_at (hsz := by rw [List.size_toArray]; omega) e fun h' sb ho' => ?_
  refine h { s with heap := h' } (I.write (t' := s.toks) (by rw [hD]; trivial) (.inl rfl) (fun b u hb q => (sb.2 b hb).trans q) ⟨_, ho'⟩ ⟨by rw [List.length_append]; exact hz, its ++ [v], n + 1, ri.append (.cons r .nil), ?_⟩)
  rw [ho']
  simp

/-- a clause's tests -/
def PTs (X : Cx) (ifs : List Expr) (t : TT) : Prop :=
  ∀ (pins : List (Addr × Obj)) (s : Shared) (σ : St) (H : Hp) (Q : Bool → Hp → Prop), Inv X pins σ H s → t σ H Q →
    wpAny (model X.prog X.w) X.A (forIn ifs true fun c r => if r = true then do let ok ← isTrue c X.env (eval c X.env); pure (ForInStep.yield ok) else pure (ForInStep.yield r)) (TP X pins σ Q) X.xe s
def tYes : TT := fun _ H Q => Q true H
theorem pts_nil : PTs X [] tYes := fun _ _ _ H _ I h => wpAny_tests_nil ⟨H, I, h⟩
theorem pts_one {c : Expr} {t : TT} (h : PT X c t) : PTs X [c] t := fun pins s σ H Q I hw => wpAny_tests_one (h pins s σ H Q I hw)
end

theorem thnF {α : Type} {t : Sem α} {Q Q' : α → Shared → Prop} {M : Model} {A : Around} {E : Value → Shared → Prop} {s : Shared} (h : wpAny M A t Q (fun _ _ => False) s) (hQ : ∀ a s, Q a s → Q' a s) : wpAny M A t Q' E s := wpAny_mono h hQ fun _ _ z => False.elim z

/-- the loop of a list comprehension's block, the target of any form (codeAny_compLoop_tests asks a target that no tuple goes to; statement and proof follow it, PyProof/CompMap.lean:41-61, with the step letOwnedTupleGo kept) -/
theorem compLoop_any {prog : Program} {w : World} {A : Around} {R : Result → Shared → Prop} {s : Shared} {elt target iter : Expr} {ifs : List Expr} {scope : Scope} {pos : Pos} {it acc : Value} {env : Env} (I : Nat → Shared → Prop)
    (turn : ∀ n s, I n s → wpAny (model prog w) A (pyNext it) (fun r s₁ => match r with
      | none => R (.ok .next) s₁
      | some v => wpAny (model prog w) A (letOwnedTupleGo target it v) (fun _ s₁' => wpAny (model prog w) A (assign target env v) (fun _ s₂ =>
          wpAny (model prog w) A (forIn ifs true fun c r => if r = true then do let ok ← isTrue c env (eval c env); pure (ForInStep.yield ok) else pure (ForInStep.yield r)) (fun ok s₃ =>
            if ok = true then wpAny (model prog w) A (eval elt env) (fun x s₄ =>
              wpAny (model prog w) A (call (.builtin "list.append") [acc, x]) (fun _ s₅ => ∃ m, m < n ∧ I m s₅) (notedBy (model prog w) A env fun e s' => R (.error e) s') s₄) (notedBy (model prog w) A env fun e s' => R (.error e) s') s₃
            else ∃ m, m < n ∧ I m s₃) (notedBy (model prog w) A env fun e s' => R (.error e) s') s₂) (notedBy (model prog w) A env fun e s' => R (.error e) s') s₁') (notedBy (model prog w) A env fun e s' => R (.error e) s') s₁) (notedBy (model prog w) A env fun e s' => R (.error e) s') s)
    (n : Nat) (h : I n s) :
    codeAny (model prog w) A (.compLoop (.ListComp elt [⟨target, iter, ifs, 0⟩] scope pos) 0 it acc env) R s := by
  refine codeAny_loop rfl I (fun n s hI => ?_) n h
  show wpAny _ A ((compTurn (.ListComp elt [⟨target, iter, ifs, 0⟩] scope pos) 0 it acc env).onRaise (fun x => do noteFrame x env; theTreesLotGoes x)) _ _ s
  refine wpAny_noted ?_
  rw [compTurn_list]
  refine wpAny_bind (wpAny_standAt (wpAny_bind (wpAny_mono (turn n s hI) (fun r s₁ h₁ => ?_) fun _ _ h' => h')))
  cases r with
  | none => exact wpAny_pure h₁
  | some v =>
    refine wpAny_bind (wpAny_mono h₁ (fun _ s₁' h₁' => ?_) fun _ _ h' => h')
    refine wpAny_bind (wpAny_mono h₁' (fun _ s₂ h₂ => wpAny_bind (wpAny_mono h₂ (fun ok s₃ h₃ => ?_) fun _ _ h' => h')) fun _ _ h' => h')
    cases ok with
    | false => exact wpAny_pure ⟨rfl, h₃⟩
    | true =>
      exact wpAny_bind (wpAny_bind (wpAny_mono h₃ (fun x s₄ h₄ => wpAny_bind (wpAny_mono h₄ (fun _ s₅ h₅ => wpAny_pure (wpAny_pure ⟨rfl, h₅⟩)) fun _ _ h' => h')) fun _ _ h' => h'))

section
variable {X : Cx}
/-- [elt for target in iter if ..]: D the new list; W by the turn and a measure, Nx what a turn is to reach -/
def tLc (wi : TI) (g : TG) (tt : TT) (te : TE) (vs : List Nat) : TE := fun σ H Q => wi σ H fun J H1 => ∀ D, H1 D = none → ∃ W : Nat → Nat → Hp → Prop, (∃ m, W 0 m (upd H1 D (.lst []))) ∧ ∀ i m H, W i m H →
  (J.stop i H ∧ Q (.ref D) H) ∨ (J.go i H ∧ ∃ Nx : Hp → Prop, (∀ H', Nx H' → ∃ m', m' < m ∧ W (i + 1) m' H') ∧ ∀ x H', J.yld i H x H' → g x (wipe σ vs) H' fun σ2 H2 => wipe σ2 vs = wipe σ vs ∧ tt σ2 H2 fun b H3 =>
    if b = true then te σ2 H3 fun y H4 => ∃ acc, H4 D = some (.lst acc) ∧ acc.length < sizeLine ∧ Nx (upd H4 D (.lst (acc ++ [y]))) else Nx H3)
theorem lc_core {pins : List (Addr × Obj)} {s : Shared} {σ : St} {H : Hp} {Q : VK} {elt tg iter : Expr} {ifs : List Expr} {scope : Scope} {own : List (Str × Nat)} {pos pos' : Pos} {wi : TI} {g : TG} {tt : TT} {te : TE} {use : Option (Value → Sem Unit)} {Qf : Value → Shared → Prop}
    (hc : X.calm = true) (hN : X.N.Nodup) (I : Inv X pins σ H s) (hi : PI X tg iter wi) (ok : BlkOk X.N X.env.scope scope own)
    (hg : ∀ (s : Shared) (H : Hp) (C : Addr) (cl : List (Str × Addr)) (fp : List Addr), PG (X.blk s H scope (compEnvC scope cl C X.env) fp) tg g) (ht : ∀ (s : Shared) (H : Hp) (C : Addr) (cl : List (Str × Addr)) (fp : List Addr), PTs (X.blk s H scope (compEnvC scope cl C X.env) fp) ifs tt)
    (he : ∀ (s : Shared) (H : Hp) (C : Addr) (cl : List (Str × Addr)) (fp : List Addr), PE (X.blk s H scope (compEnvC scope cl C X.env) fp) elt te) (hs : ∀ x, foldedSetIterable iter X.env x = pure x)
    (h : tLc wi g tt te (own.map (·.2)) σ H Q)
    (hRR : ∀ D C s' m H', Inv X pins σ H' s' → Q (.ref D) H' → s'.heap.Ns C m → FpOk X pins H' C → compPost (model X.prog X.w) X.A X.xe use Qf (.ref D) C (.ok .next) s') :
    wpAny (model X.prog X.w) X.A (comprehension (.ListComp elt [⟨tg, iter, ifs, 0⟩] scope pos) scope X.env pos' (newList []) false (eval iter X.env) use) Qf X.xe s := by
  have hfree : ∀ y ∈ scope.names, y.2 = .free → ∃ c, X.env.cells.lookup y.1 = some c := fun y hy e => by
    rcases ok.free y hy e with k | k
    · exact I.ok.has _ (.inl k)
    · exact I.ok.has _ (.inr k)
  refine wpAny_comprehension_free (use := use) rfl hs (closure_ok hfree) ok.kind (fun y hy e => by rw [ok.uniq y hy, e])
    (thn (hi pins s σ H _ I h) fun xv s1 hx => thn hx fun itv s2 h2 => ?_)
  obtain ⟨it, fp, tn, J, H2, e, I2, T, st2, f2, q⟩ := h2
  subst e
  refine wpAny_newObj_type (newEnv_comp ?_) (by show 0 ≤ sizeLine; decide)
  generalize hD : s2.heap.objs.size = D
  have hDn : H2 D = none := I2.hok.fresh (Nat.le_of_eq hD)
  obtain ⟨W, ⟨m0, w0⟩, turn⟩ := q D hDn
  -- the new list
  generalize hs3 : ({ s2 with heap := s2.heap.push { cls := .type "list", data := .seq ([] : List Value).toArray } } : Shared) = s3
  have I3 : Inv X pins σ (upd H2 D (.lst [])) s3 := by
    rw [← hs3]
    refine I2.laid (t' := s2.toks) (fun b o e => Heap.get?_push_of_some _ e) (Nat.le_of_eq hD) ⟨Nat.zero_le _, [], 0, .nil, ?_⟩
    rw [← hD]
    exact Heap.get?_push_size _ rfl
  have h3 : s3.heap = s2.heap.push { cls := .type "list", data := .seq ([] : List Value).toArray } := by rw [← hs3]
  have sz : ∀ b ∈ fp, b < s2.heap.objs.size := fun b hb => by
    obtain ⟨o, e, _⟩ := T.obj _ _ st2 b hb
    exact Heap.lt_size e
  have f3 : ∀ b ∈ fp, FpOk X pins (upd H2 D (.lst [])) b ∧ b < s3.heap.objs.size := fun b hb => by
    have hlt := sz b hb
    refine ⟨⟨?_, (f2 b hb).2⟩, by rw [h3, Heap.size_push]; exact Nat.lt_succ_of_lt hlt⟩
    rw [upd_ne (by rw [← hD]; exact Nat.ne_of_lt hlt)]
    exact (f2 b hb).1
  have st3 : tn 0 s3.heap := T.keep _ _ _ st2 fun b _ o e => by rw [h3]; exact Heap.get?_push_of_some _ e
  have I4 := block_start I3 ok hN f3
  have pg := hg s3 (upd H2 D (.lst [])) s3.heap.objs.size (cellsFrom (s3.heap.objs.size + 1) scope.names (cloFrom X.env.cells scope.names [])) fp
  have pt := ht s3 (upd H2 D (.lst [])) s3.heap.objs.size (cellsFrom (s3.heap.objs.size + 1) scope.names (cloFrom X.env.cells scope.names [])) fp
  have pe := he s3 (upd H2 D (.lst [])) s3.heap.objs.size (cellsFrom (s3.heap.objs.size + 1) scope.names (cloFrom X.env.cells scope.names [])) fp
  show codeAny _ _ (.compStart (.ListComp elt [⟨tg, iter, ifs, 0⟩] scope pos) 0 (.ref it) (.ref D) (compEnvC scope (cellsFrom (s3.heap.objs.size + 1) scope.names (cloFrom X.env.cells scope.names [])) s3.heap.objs.size X.env)) (compPost (model X.prog X.w) X.A X.xe use Qf (.ref D) s3.heap.objs.size) { s3 with heap := pushCells (s3.heap.push { cls := .type "dict", data := .dict #[] }) scope.names }
  have nfp : ∀ b ∈ fp, (upd H2 D (.lst [])) b = none := fun b hb => (f3 b hb).1.1
  generalize hce : compEnvC scope (cellsFrom (s3.heap.objs.size + 1) scope.names (cloFrom X.env.cells scope.names [])) s3.heap.objs.size X.env = ce at I4 pg pt pe ⊢
  have cL : ce.locals = s3.heap.objs.size := by subst hce; rfl
  generalize hH3 : upd H2 D (.lst []) = H3 at I3 I4 pg pt pe w0 nfp f3
  generalize hs4 : ({ s3 with heap := pushCells (s3.heap.push { cls := .type "dict", data := .dict #[] }) scope.names } : Shared) = s4 at I4 ⊢
  have st4 : tn 0 s4.heap := T.keep _ _ _ st3 fun b _ o e => by rw [← hs4]; exact pushCells_keeps _ _ _ _ (Heap.get?_push_of_some _ e)
  have stat : ∀ {σ' : St} {H' : Hp} {s' : Shared}, Inv (X.blk s3 H3 scope ce fp) [] σ' H' s' → (∀ b ∈ fp, H' b = none) → ∀ b ∈ fp, FpOk (X.blk s3 H3 scope ce fp) [] H' b := fun {σ' H' s'} I' hn b hb =>
    ⟨hn b hb, (I'.ok.exf b hb).1, I'.ok.exfs b hb, .inl hb, fun x c e => (I'.ok.exf b hb).2 x c e, fun p hp => absurd (show p ∈ ([] : List (Addr × Obj)) ++ [] from hp) (by simp)⟩
  have loop : codeAny (model X.prog X.w) X.A (.compLoop (.ListComp elt [⟨tg, iter, ifs, 0⟩] scope pos) 0 (.ref it) (.ref D) ce) (compPost (model X.prog X.w) X.A X.xe use Qf (.ref D) s3.heap.objs.size) s4 := by
    refine compLoop_any (fun n s' => ∃ i H', Inv (X.blk s3 H3 scope ce fp) [] (wipe σ (own.map (·.2))) H' s' ∧ tn i s'.heap ∧ (∀ b ∈ fp, H' b = none) ∧ W i n H') ?_ m0 ⟨0, H3, I4, st4, nfp, w0⟩
    rintro n s5 ⟨i, H5, I5, st5, n5, w5⟩
    rcases turn i n H5 w5 with ⟨stop, qq⟩ | ⟨go, Nx, hNx, step⟩
    · have td := T.done (X.blk s3 H3 scope ce fp) rfl rfl rfl hc i [] s5 _ H5 (fun _ _ => False) I5 (stat I5 n5) st5 stop
      refine thnF td fun r s6 ⟨hr, I6⟩ => ?_
      subst hr
      -- back in the def's context
      have I7 : Inv X pins σ H5 s6 := I3.call' (ch := fp) I6.os I6.base I6.hok I6.bare fun b hb => ⟨(f3 b hb).1.2.2.2.1, (f3 b hb).1.2.1, (f3 b hb).1.2.2.2.2.1, (f3 b hb).1.2.2.2.2.2⟩
      have nC : H5 s3.heap.objs.size = none := by
        have z : H5 ce.locals = none := I6.free
        rw [cL] at z
        exact z
      obtain ⟨m, hn, _⟩ := I6.loc
      have hn : s6.heap.Ns ce.locals m := hn
      rw [cL] at hn
      exact hRR D s3.heap.objs.size s6 m H5 I7 qq hn (I3.fpOk (Nat.le_refl _) nC)
    · have ti := T.item (X.blk s3 H3 scope ce fp) rfl rfl rfl hc i [] s5 _ H5 (fun _ _ => False) I5 (stat I5 n5) st5 go
      refine thnF ti fun r s6 ⟨u, hr, h6⟩ => ?_
      subst hr
      refine thnF h6 fun _ s7 ⟨x, H7, I7, r7, y7, st7, n7⟩ => ?_
      have I7' := I7.pinned (stat I7 n7) (T.obj _ _ st7)
      refine thnF (pg _ s7 _ H7 x u _ I7' r7 (step x H7 y7)) fun _ s8 ⟨σ8, H8, I8, hw8, q8⟩ => ?_
      refine thnF (pt _ s8 σ8 H8 _ I8 q8) fun b s9 ⟨H9, I9, q9⟩ => ?_
      -- the turn's end
      have fin : ∀ {s' : Shared} {H' : Hp}, Inv (X.blk s3 H3 scope ce fp) ([] ++ pinsAt fp s7.heap) σ8 H' s' → Nx H' → ∃ m, m < n ∧ ∃ i H', Inv (X.blk s3 H3 scope ce fp) [] (wipe σ (own.map (·.2))) H' s' ∧ tn i s'.heap ∧ (∀ b ∈ fp, H' b = none) ∧ W i m H' := fun {s' H'} I' nx => by
        obtain ⟨m', hm, w'⟩ := hNx H' nx
        have pin' : ∀ b ∈ fp, ∀ o, s7.heap.get? b = some o → s'.heap.get? b = some o ∧ H' b = none := fun b hb o e =>
          let z := I'.pin (b, o) (List.mem_append_right _ (List.mem_append_right _ (mem_pinsAt hb e)))
          ⟨z.1, z.2.1⟩
        have hl : (wipe σ (own.map (·.2))).length = σ8.length := by rw [← hw8, wipe_length]
        refine ⟨m', hm, i + 1, H', (I'.unpinned (pins := [])).weak hl (fun j v e => ?_), T.keep _ _ _ st7 fun b hb o e => (pin' b hb o e).1, fun b hb => ?_, w'⟩
        · rw [← hw8] at e
          exact (wipe_some e).1
        · obtain ⟨o, e, _⟩ := T.obj _ _ st7 b hb
          exact (pin' b hb o e).2
      cases b with
      | false =>
        simp only [Bool.false_eq_true, if_false] at q9 ⊢
        exact fin I9 q9
      | true =>
        simp only [if_true] at q9 ⊢
        refine thnF (pe _ s9 σ8 H9 _ I9 q9) fun z s10 ⟨yv, H10, I10, r10, acc, hD10, hz10, nx⟩ => ?_
        exact app_ok (X := X.blk s3 H3 scope ce fp) I10 hD10 hz10 r10 fun s11 I11 => fin I11 nx
  exact codeAny_compStart_list loop (T.self X.A 0 _ _ _ st4 loop)
/-- as a value -/
theorem pe_lc {elt tg iter : Expr} {ifs : List Expr} {scope : Scope} {own : List (Str × Nat)} {pos : Pos} {wi : TI} {g : TG} {tt : TT} {te : TE} (hc : X.calm = true) (hN : X.N.Nodup) (hi : PI X tg iter wi) (ok : BlkOk X.N X.env.scope scope own)
    (hg : ∀ (s : Shared) (H : Hp) (C : Addr) (cl : List (Str × Addr)) (fp : List Addr), PG (X.blk s H scope (compEnvC scope cl C X.env) fp) tg g) (ht : ∀ (s : Shared) (H : Hp) (C : Addr) (cl : List (Str × Addr)) (fp : List Addr), PTs (X.blk s H scope (compEnvC scope cl C X.env) fp) ifs tt)
    (he : ∀ (s : Shared) (H : Hp) (C : Addr) (cl : List (Str × Addr)) (fp : List Addr), PE (X.blk s H scope (compEnvC scope cl C X.env) fp) elt te) (hs : ∀ x, foldedSetIterable iter X.env x = pure x := by intro _; rfl) :
    PE X (.ListComp elt [⟨tg, iter, ifs, 0⟩] scope pos) (tLc wi g tt te (own.map (·.2))) := by
  intro pins s σ H Q I h
  rw [eval_ListComp]
  refine lc_core hc hN I hi ok hg ht he hs h fun D C s' m H' I' q hn f => ⟨m, hn, fun h'' sb => ?_⟩
  obtain ⟨f0, f1, f2, f3, f4, f5⟩ := f
  exact ⟨.ref D, H', I'.turned (t' := s'.toks) (fun b o hb e => (sb.2 b hb).trans e) f0 f1 f3 f4 f5, rfl, q⟩
end

/-- over a range: Pv by the turn and the heap (the new list at D within) -/
theorem lc_range {lo : Int} {n : Nat} {g : TG} {tt : TT} {te : TE} {vs : List Nat} {σ : St} {H1 : Hp} {D : Addr} {Qd : Hp → Prop} (Pv : Nat → Hp → Prop) (h0 : Pv 0 (upd H1 D (.lst [])))
    (hs : ∀ i H, i < n → Pv i H → g (.int (lo + i)) (wipe σ vs) H fun σ2 H2 => wipe σ2 vs = wipe σ vs ∧ tt σ2 H2 fun b H3 =>
      if b = true then te σ2 H3 fun y H4 => ∃ acc, H4 D = some (.lst acc) ∧ acc.length < sizeLine ∧ Pv (i + 1) (upd H4 D (.lst (acc ++ [y]))) else Pv (i + 1) H3) (hd : ∀ H, Pv n H → Qd H) :
    ∃ W : Nat → Nat → Hp → Prop, (∃ m, W 0 m (upd H1 D (.lst []))) ∧ ∀ i m H, W i m H →
      ((Itr lo n).stop i H ∧ Qd H) ∨ ((Itr lo n).go i H ∧ ∃ Nx : Hp → Prop, (∀ H', Nx H' → ∃ m', m' < m ∧ W (i + 1) m' H') ∧ ∀ x H', (Itr lo n).yld i H x H' → g x (wipe σ vs) H' fun σ2 H2 => wipe σ2 vs = wipe σ vs ∧ tt σ2 H2 fun b H3 =>
        if b = true then te σ2 H3 fun y H4 => ∃ acc, H4 D = some (.lst acc) ∧ acc.length < sizeLine ∧ Nx (upd H4 D (.lst (acc ++ [y]))) else Nx H3) := by
  refine ⟨fun i m H => m = n - i ∧ i ≤ n ∧ Pv i H, ⟨n, by simp, Nat.zero_le _, h0⟩, ?_⟩
  rintro i m H ⟨rfl, hi, p⟩
  by_cases hlt : i < n
  · refine .inr ⟨hlt, Pv (i + 1), fun H' p' => ⟨n - (i + 1), by omega, rfl, hlt, p'⟩, fun x H' y => ?_⟩
    obtain ⟨e, y⟩ := y
    subst e y
    exact hs i _ hlt p
  · have e : i = n := by omega
    subst e
    exact .inl ⟨Nat.le_refl _, hd H p⟩
/-- over a list that the block leaves as it is -/
theorem lc_list {K : PySem.W.Frag} {a : Addr} {xs : List V} {g : TG} {tt : TT} {te : TE} {vs : List Nat} {σ : St} {H1 : Hp} {D : Addr} {Qd : Hp → Prop} (Pv : Nat → Hp → Prop) (h0 : Pv 0 (upd H1 D (.lst []))) (hl : ∀ i H, i ≤ xs.length → Pv i H → SqL K H a xs)
    (hs : ∀ i x H, xs[i]? = some x → Pv i H → g x (wipe σ vs) H fun σ2 H2 => wipe σ2 vs = wipe σ vs ∧ tt σ2 H2 fun b H3 =>
      if b = true then te σ2 H3 fun y H4 => ∃ acc, H4 D = some (.lst acc) ∧ acc.length < sizeLine ∧ Pv (i + 1) (upd H4 D (.lst (acc ++ [y]))) else Pv (i + 1) H3) (hd : ∀ H, Pv xs.length H → Qd H) :
    ∃ W : Nat → Nat → Hp → Prop, (∃ m, W 0 m (upd H1 D (.lst []))) ∧ ∀ i m H, W i m H →
      ((Itl K a).stop i H ∧ Qd H) ∨ ((Itl K a).go i H ∧ ∃ Nx : Hp → Prop, (∀ H', Nx H' → ∃ m', m' < m ∧ W (i + 1) m' H') ∧ ∀ x H', (Itl K a).yld i H x H' → g x (wipe σ vs) H' fun σ2 H2 => wipe σ2 vs = wipe σ vs ∧ tt σ2 H2 fun b H3 =>
        if b = true then te σ2 H3 fun y H4 => ∃ acc, H4 D = some (.lst acc) ∧ acc.length < sizeLine ∧ Nx (upd H4 D (.lst (acc ++ [y]))) else Nx H3) := by
  refine ⟨fun i m H => m = xs.length - i ∧ i ≤ xs.length ∧ Pv i H, ⟨xs.length, by simp, Nat.zero_le _, h0⟩, ?_⟩
  rintro i m H ⟨rfl, hi, p⟩
  have q := hl i H hi p
  by_cases hlt : i < xs.length
  · refine .inr ⟨⟨xs, xs[i], q, by simp [hlt]⟩, Pv (i + 1), fun H' p' => ⟨xs.length - (i + 1), by omega, rfl, hlt, p'⟩, fun x H' y => ?_⟩
    obtain ⟨e, y⟩ := y
    subst e
    exact hs i x _ (y xs q) p
  · have e : i = xs.length := by omega
    subst e
    exact .inl ⟨⟨xs, q, Nat.le_refl _⟩, hd H p⟩
def blkC (N : List Str) (sc scope : Scope) (own : List (Str × Nat)) : Bool :=
  (match scope.kind with | .function => true | _ => false) && (scope.names.all fun y => decide (scope.names.lookup y.1 = some y.2)) && (own.all fun p => decide (N[p.2]? = some p.1)) &&
    (scope.names.all fun y => match y.2 with
      | .free => (match sc.names.lookup y.1 with | some .cell => true | some .free => true | _ => false)
      | .local => decide (y.1 ∈ own.map (·.1)) || decide (y.1 ∉ N)
      | .cell => decide (y.1 ∈ own.map (·.1)) || decide (y.1 ∉ N)
      | _ => true)
theorem blkOk_by {N : List Str} {sc scope : Scope} {own : List (Str × Nat)} (h : blkC N sc scope own = true) : BlkOk N sc scope own := by
  unfold blkC at h
  simp only [Bool.and_eq_true, List.all_eq_true, decide_eq_true_eq] at h
  obtain ⟨⟨⟨h1, h2⟩, h3⟩, h4⟩ := h
  refine ⟨?_, h2, h3, fun y hy e => ?_, fun y hy e => ?_⟩
  · split at h1
    · assumption
    · cases h1
  · have q := h4 y hy
    simp only [e] at q
    split at q <;> first | exact .inl (by assumption) | exact .inr (by assumption) | cases q
  · have q := h4 y hy
    rcases e with e | e <;> (simp only [e, Bool.or_eq_true, decide_eq_true_eq] at q; exact q)
end L2

namespace L2
open PySem PySem.Spec PyProof.Rows


section
variable {prog : Program} {w : World} {A : Around} {R : Result → Shared → Prop} {s : Shared} {elt t0 i0 t1 i1 : Expr} {ifs0 ifs1 : List Expr} {scope : Scope} {pos : Pos} {it acc : Value} {env : Env}
end

section
variable {X : Cx}
end
end L2

namespace L2
open PySem PySem.Spec PyProof.Rows

section
variable {κ : Type} [DecidableEq κ]
def valV (kvs : List (κ × V)) (k : κ) : Option V := (kvs.find? fun kv => decide (kv.1 = k)).map (·.2)
/-- in its place, or at the end -/
def putK (kvs : List (κ × V)) (k : κ) (v : V) : List (κ × V) :=
  if (kvs.any fun kv => decide (kv.1 = k)) = true then kvs.map (fun kv => if kv.1 = k then (kv.1, v) else kv) else kvs ++ [(k, v)]

theorem valV_pos {p : κ × V} {r : List (κ × V)} {k : κ} (e : p.1 = k) : valV (p :: r) k = some p.2 := by simp [valV, List.find?_cons, e]
theorem valV_neg {p : κ × V} {r : List (κ × V)} {k : κ} (e : ¬ p.1 = k) : valV (p :: r) k = valV r k := by simp [valV, List.find?_cons, e]
theorem valV_any (k : κ) : ∀ kvs : List (κ × V), (kvs.any fun kv => decide (kv.1 = k)) = (valV kvs k).isSome
  | [] => rfl
  | p :: r => by
    rw [List.any_cons]
    by_cases e : p.1 = k
    · simp only [valV_pos e, decide_eq_true e, Bool.true_or, Option.isSome_some]
    · rw [valV_neg e, decide_eq_false e, Bool.false_or]; exact valV_any k r
theorem valV_map (k j : κ) (y : V) : ∀ kvs : List (κ × V), valV (kvs.map fun kv => if kv.1 = k then (kv.1, y) else kv) j = (valV kvs j).map fun x => if j = k then y else x
  | [] => rfl
  | p :: r => by
    have ih := valV_map k j y r
    rw [List.map_cons]
    by_cases h : p.1 = k
    · rw [if_pos h]
      by_cases e : p.1 = j
      · rw [valV_pos (p := (p.1, y)) e, valV_pos e, Option.map_some, if_pos (e.symm.trans h)]
      · rw [valV_neg (p := (p.1, y)) e, valV_neg e, ih]
    · rw [if_neg h]
      by_cases e : p.1 = j
      · rw [valV_pos (p := p) e, valV_pos e, Option.map_some, if_neg (fun z => h (e.trans z))]
      · rw [valV_neg (p := p) e, valV_neg e, ih]
theorem valV_snoc (k j : κ) (y : V) : ∀ kvs : List (κ × V), valV kvs k = none → valV (kvs ++ [(k, y)]) j = if j = k then some y else valV kvs j
  | [], _ => by
    by_cases e : k = j
    · rw [if_pos e.symm]; exact valV_pos (p := (k, y)) e
    · rw [if_neg (fun z => e z.symm)]; exact valV_neg (p := (k, y)) e
  | p :: r, hn => by
    rw [List.cons_append]
    have hk : ¬ p.1 = k := fun z => by rw [valV_pos z] at hn; cases hn
    rw [valV_neg hk] at hn
    have ih := valV_snoc k j y r hn
    by_cases e : p.1 = j
    · rw [valV_pos e, valV_pos e, if_neg (fun z => hk (e.trans z))]
    · rw [valV_neg e, valV_neg e, ih]
theorem valV_put (kvs : List (κ × V)) (k j : κ) (y : V) : valV (putK kvs k y) j = if j = k then some y else valV kvs j := by
  unfold putK
  by_cases a : (kvs.any fun kv => decide (kv.1 = k)) = true
  · rw [if_pos a, valV_map]
    rw [valV_any] at a
    by_cases e : j = k
    · obtain ⟨x, hx⟩ := Option.isSome_iff_exists.mp a
      rw [if_pos e, e, hx, Option.map_some, if_pos rfl]
    · rw [if_neg e]
      cases valV kvs j with
      | none => rfl
      | some x => rw [Option.map_some, if_neg e]
  · rw [if_neg a]
    refine valV_snoc k j y kvs ?_
    rw [valV_any] at a
    cases q : valV kvs k with
    | none => rfl
    | some x => rw [q] at a; exact (a rfl).elim
theorem length_putK (kvs : List (κ × V)) (k : κ) (v : V) : (putK kvs k v).length ≤ kvs.length + 1 := by
  unfold putK
  split
  · rw [List.length_map]; omega
  · rw [List.length_append, List.length_cons, List.length_nil]; omega

theorem RelO.isSome_eq {o : Option V} {u : Option Value} (r : RelO o u) : o.isSome = u.isSome := by
  cases o with
  | none => cases u with
    | none => rfl
    | some _ => exact (show False from r).elim
  | some _ => cases u with
    | none => exact (show False from r).elim
    | some _ => rfl

/-- raw tables of the same keys -/
theorem KV.val {kvs : List (κ × V)} {vs : List (κ × Value)} (r : KV kvs vs) (k : κ) : RelO (valV kvs k) (valueAt vs k) := by
  unfold KV at r
  induction r with
  | nil => exact True.intro
  | @cons p q ps qs h t ih =>
    obtain ⟨h1, h2⟩ := h
    by_cases e : p.1 = k
    · have e' : q.1 = k := h1.symm.trans e
      have b : valueAt (q :: qs) k = some q.2 := by simp [valueAt, List.find?_cons, e']
      rw [valV_pos e, b]; exact h2
    · have e' : ¬ q.1 = k := fun z => e (h1.trans z)
      have b : valueAt (q :: qs) k = valueAt qs k := by simp [valueAt, List.find?_cons, e']
      rw [valV_neg e, b]; exact ih
theorem KV.any {kvs : List (κ × V)} {vs : List (κ × Value)} (r : KV kvs vs) (k : κ) : (kvs.any fun kv => decide (kv.1 = k)) = vs.any fun kv => decide (kv.1 = k) := by
  unfold KV at r
  induction r with
  | nil => rfl
  | cons h t ih => rw [List.any_cons, List.any_cons, ih, h.1]
theorem KV.repl {kvs : List (κ × V)} {vs : List (κ × Value)} (r : KV kvs vs) (k : κ) {y : V} {u : Value} (ry : RelV y u) :
    KV (kvs.map fun kv => if kv.1 = k then (kv.1, y) else kv) (vs.map fun kv => if kv.1 = k then (kv.1, u) else kv) := by
  unfold KV at r ⊢
  induction r with
  | nil => exact .nil
  | @cons p q ps qs h t ih =>
    rw [List.map_cons, List.map_cons]
    refine .cons ?_ ih
    obtain ⟨h1, h2⟩ := h
    by_cases e : p.1 = k
    · rw [if_pos e, if_pos (h1.symm.trans e)]; exact ⟨h1, ry⟩
    · rw [if_neg e, if_neg (fun z => e (h1.trans z))]; exact ⟨h1, h2⟩
theorem KV.put {kvs : List (κ × V)} {vs : List (κ × Value)} (r : KV kvs vs) (k : κ) {y : V} {u : Value} (ry : RelV y u) : KV (putK kvs k y) (stored vs k u) := by
  unfold putK stored
  rw [r.any k]
  by_cases e : (vs.any fun kv => decide (kv.1 = k)) = true
  · rw [if_pos e, if_pos e]; exact r.repl k ry
  · rw [if_neg e, if_neg e]; exact Paired.snoc r ⟨rfl, ry⟩
theorem KV.length {kvs : List (κ × V)} {vs : List (κ × Value)} (r : KV kvs vs) : kvs.length = vs.length := Paired.length r
end


theorem kV_is {P : Program} {w : World} {k : Key} {u : Value} (r : RelV (kV k) u) : (mixKind P w).is k u = true := by
  cases k with
  | inl i => obtain ⟨t, e⟩ := (show ∃ t, u = Value.int i t from r); subst e; exact mixKind_int P w i t
  | inr x => obtain ⟨t, e⟩ := (show ∃ t, u = Value.str x t from r); subst e; exact mixKind_str P w x t
theorem items_are {P : Program} {w : World} : ∀ {ks : List Key} {us : List Value}, Vals (ks.map kV) us → ItemsAre (mixKind P w) ks us
  | [], _, r => by rw [List.map_nil] at r; cases r; exact .nil
  | k :: ks, _, r => by
    rw [List.map_cons] at r
    cases r with
    | cons h t => exact .cons (kV_is h) (items_are t)

/-- raw entries of a dict with tuple keys -/
abbrev KT (H : Hp) : List (List Key × V) → List (List Key × Addr × Value) → Prop := Paired fun p q => p.1 = q.1 ∧ H q.2.1 = some (.tup (p.1.map kV)) ∧ RelV p.2 q.2.2
theorem KT.val {H : Hp} {kvs : List (List Key × V)} {xs : List (List Key × Addr × Value)} (r : KT H kvs xs) (k : List Key) : RelO (valV kvs k) ((atKey xs k).map (·.2)) := by
  induction r with
  | nil => exact True.intro
  | @cons p q ps qs h t ih =>
    obtain ⟨h1, _, h2⟩ := h
    by_cases e : p.1 = k
    · have e' : q.1 = k := h1.symm.trans e
      have b : atKey (q :: qs) k = some q.2 := by simp [atKey, List.find?_cons, e']
      rw [valV_pos e, b]; exact h2
    · have e' : ¬ q.1 = k := fun z => e (h1.trans z)
      have b : atKey (q :: qs) k = atKey qs k := by simp [atKey, List.find?_cons, e']
      rw [valV_neg e, b]; exact ih
theorem KT.repl {H : Hp} {kvs : List (List Key × V)} {xs : List (List Key × Addr × Value)} (r : KT H kvs xs) (k : List Key) {y : V} {u : Value} (ry : RelV y u) :
    KT H (kvs.map fun kv => if kv.1 = k then (kv.1, y) else kv) (xs.map (putAt k u)) := by
  induction r with
  | nil => exact .nil
  | @cons p q ps qs h t ih =>
    rw [List.map_cons, List.map_cons]
    refine .cons ?_ ih
    obtain ⟨h1, h2, h3⟩ := h
    unfold putAt
    by_cases e : p.1 = k
    · rw [if_pos e, if_pos (h1.symm.trans e)]; exact ⟨h1, h2, ry⟩
    · rw [if_neg e, if_neg (fun z => e (h1.trans z))]; exact ⟨h1, h2, h3⟩
theorem KT.put {H : Hp} {kvs : List (List Key × V)} {xs : List (List Key × Addr × Value)} (r : KT H kvs xs) (k : List Key) {b : Addr} {y : V} {u : Value} (hb : H b = some (.tup (k.map kV))) (ry : RelV y u) :
    KT H (putK kvs k y) (storedH xs k b u) := by
  have e : (kvs.any fun kv => decide (kv.1 = k)) = (atKey xs k).isSome := by
    rw [valV_any, (r.val k).isSome_eq, Option.isSome_map]
  unfold putK storedH
  rw [e]
  by_cases q : (atKey xs k).isSome = true
  · rw [if_pos q, if_pos q]; exact r.repl k ry
  · rw [if_neg q, if_neg q]; exact Paired.snoc r ⟨rfl, hb, ry⟩
theorem KT.keeps {H H' : Hp} {kvs : List (List Key × V)} {xs : List (List Key × Addr × Value)} (r : KT H kvs xs) (ht : ∀ b ys, H b = some (.tup ys) → H' b = some (.tup ys)) : KT H' kvs xs :=
  Paired.mapP r fun _ _ z => ⟨z.1, ht _ _ z.2.1, z.2.2⟩

section
variable {P : Program} {w : World} {H : Hp} {h : Heap} {a : Addr}
theorem rd_of {u : HO} (ok : HOk P w H h) (e : Rd H a u) : ObjOk P w H h a u := e.ok ok
theorem dk_rd {kvs : List (Key × V)} (ok : HOk P w H h) (e : Rd H a (.dK kvs)) : kvs.length ≤ sizeLine ∧ (a == sysModules) = false ∧ ∃ vs, KV kvs vs ∧ h.DictOf (mixKind P w) a vs :=
  show ObjOk P w H h a (.dK kvs) from rd_of ok e
theorem dk_of {kvs : List (Key × V)} (ok : HOk P w H h) (e : H a = some (.dK kvs)) : kvs.length ≤ sizeLine ∧ (a == sysModules) = false ∧ ∃ vs, KV kvs vs ∧ h.DictOf (mixKind P w) a vs := dk_rd ok (.inl e)
/-- a tracked tuple of ints and texts is a key -/
theorem key_of {ks : List Key} (ok : HOk P w H h) (e : H a = some (.tup (ks.map kV))) : (tupleKind (mixKind P w)).is h ks a := by
  obtain ⟨_, its, r, o, h1, h2, n, h3⟩ := (show ObjOk P w H h a (.tup (ks.map kV)) from ok a _ e)
  exact ⟨o, its.toArray, n, h1, h2, h3, by simpa using items_are r⟩
theorem dt_rd {kvs : List (List Key × V)} (ok : HOk P w H h) (e : Rd H a (.dT kvs)) : kvs.length ≤ sizeLine ∧ (a == sysModules) = false ∧
    ∃ xs, KT H kvs xs ∧ h.DictOfH (tupleKind (mixKind P w)) a xs := by
  obtain ⟨z, y, xs, r, o, es, ep, h1, h2, h3, h4, h5⟩ := (show ObjOk P w H h a (.dT kvs) from rd_of ok e)
  refine ⟨z, y, xs, r, o, es, ep, h1, h2, h3, h4, fun x hx => ?_, h5⟩
  have all : ∀ {l : List (List Key × V)} {m : List (List Key × Addr × Value)}, KT H l m → ∀ x ∈ m, (tupleKind (mixKind P w)).is h x.1 x.2.1 := by
    intro l m q
    induction q with
    | nil => intro x hx; exact nomatch hx
    | @cons p q ps qs hq t ih =>
      intro x hx
      rcases List.mem_cons.mp hx with e | hx
      · subst e
        exact key_of ok (by rw [← hq.1]; exact hq.2.1)
      · exact ih x hx
  exact all r x hx
theorem dt_of {kvs : List (List Key × V)} (ok : HOk P w H h) (e : H a = some (.dT kvs)) : kvs.length ≤ sizeLine ∧ (a == sysModules) = false ∧
    ∃ xs, KT H kvs xs ∧ h.DictOfH (tupleKind (mixKind P w)) a xs := dt_rd ok (.inl e)
end

/-- what the dict at a holds at the key y -/
def DGet (H : Hp) (a : Addr) (y : V) (r : Option V) : Prop :=
  (∃ kvs k, Rd H a (.dK kvs) ∧ y = kV k ∧ r = valV kvs k) ∨ ∃ kvs k b, Rd H a (.dT kvs) ∧ y = .ref b ∧ H b = some (.tup (k.map kV)) ∧ r = valV kvs k
/-- the heap behind a[y] = v -/
def DPut (H : Hp) (a : Addr) (y v : V) (H' : Hp) : Prop :=
  (∃ kvs k, H a = some (.dK kvs) ∧ y = kV k ∧ kvs.length < sizeLine ∧ H' = upd H a (.dK (putK kvs k v))) ∨
  ∃ kvs k b, H a = some (.dT kvs) ∧ y = .ref b ∧ H b = some (.tup (k.map kV)) ∧ kvs.length < sizeLine ∧ H' = upd H a (.dT (putK kvs k v))
theorem DGet.k {H : Hp} {a : Addr} {kvs : List (Key × V)} {k : Key} (e : H a = some (.dK kvs)) : DGet H a (kV k) (valV kvs k) := .inl ⟨kvs, k, .inl e, rfl, rfl⟩
theorem DPut.k {H : Hp} {a : Addr} {kvs : List (Key × V)} {k : Key} {v : V} (e : H a = some (.dK kvs)) (hl : kvs.length < sizeLine) : DPut H a (kV k) v (upd H a (.dK (putK kvs k v))) := .inl ⟨kvs, k, e, rfl, hl, rfl⟩


section
variable {X : Cx} {pins : List (Addr × Obj)} {σ : St} {H : Hp} {s : Shared} {a : Addr} {y v : V} {u r : Value} {o : Option V} {A : Around} {E : Value → Shared → Prop}

theorem Inv.big (I : Inv X pins σ H s) : sysModules < s.heap.objs.size := by
  have h : mainGlobals < s.heap.objs.size := (I.mod.glob.keeps I.bk).lt
  exact Nat.lt_trans (by decide) h

/-- d[y], there -/
theorem d_getItem {Q : Value → Shared → Prop} (hu : A.units + 1 < cLine) (I : Inv X pins σ H s) (g : DGet H a y (some v)) (ry : RelV y u) (h : ∀ w' s', Inv X pins σ H s' → RelV v w' → Q w' s') :
    wpAny (model X.prog X.w) A (getItem (.ref a) u) Q E s := by
  rcases g with ⟨kvs, k, e, ey, l⟩ | ⟨kvs, k, b, e, ey, eb, l⟩
  · subst ey
    obtain ⟨z, hd, vs, rel, dd⟩ := dk_rd I.hok e
    obtain ⟨w', hw, rw'⟩ := RelO.some_of (v := v) (o := valueAt vs k) (by rw [l]; exact rel.val k)
    exact wpAny_getItem_of (kV_is ry) dd.mapOf hw (h w' _ (I.tok _) rw')
  · subst ey
    cases (show u = Value.ref b from ry)
    obtain ⟨z, hd, xs, rel, dd⟩ := dt_rd I.hok e
    obtain ⟨w', hw, rw'⟩ := RelO.some_of (v := v) (o := (atKey xs k).map (·.2)) (by rw [l]; exact rel.val k)
    obtain ⟨p, hp, hp2⟩ := Option.map_eq_some_iff.mp hw
    refine wpAny_getItem_heap (tupleKind_room_in1 hu) (key_of I.hok eb) dd hp ?_
    rw [hp2]
    exact h w' _ (I.tok _) rw'
/-- a dict's object is replaced -/
theorem d_write {h' : Heap} {t' : Nat} {ob : HO} (I : Inv X pins σ H s) (mu : Mut (H a)) (hs : Heap.SameBut a s.heap h') (he : ∃ q, h'.get? a = some q) (new : ObjOk X.prog X.w (upd H a ob) h' a ob) :
    Inv X pins σ (upd H a ob) { s with heap := h', toks := t' } :=
  I.write (x := a) (e := a) mu (.inl rfl) (fun b q hb z => (hs.2 b hb).trans z) he new
theorem dk_new {P : Program} {w : World} {H' : Hp} {h' : Heap} {kvs : List (Key × V)} {vs : List (Key × Value)} (z : kvs.length ≤ sizeLine) (hd : (a == sysModules) = false) (rel : KV kvs vs) (dd : h'.DictOf (mixKind P w) a vs) :
    ObjOk P w H' h' a (.dK kvs) := ⟨z, hd, vs, rel, dd⟩
/-- d[y] = v -/
theorem d_setItem {H' : Hp} {Q : Unit → Shared → Prop} (hu : A.units + 1 < cLine) (I : Inv X pins σ H s) (g : DPut H a y v H') (ry : RelV y u) (rv : RelV v r) (h : ∀ s', Inv X pins σ H' s' → Q () s') :
    wpAny (model X.prog X.w) A (setItem (.ref a) u r) Q E s := by
  rcases g with ⟨kvs, k, e, ey, l, eH⟩ | ⟨kvs, k, b, e, ey, eb, l, eH⟩
  · subst ey eH
    obtain ⟨z, hd, vs, rel, dd⟩ := dk_of I.hok e
    have hz : vs.length ≤ sizeLine := by rw [← rel.length]; exact z
    have hl : (putK kvs k v).length ≤ sizeLine := by have := length_putK kvs k v; omega
    refine wpAny_setItem_pairs (hsz := hz) (kV_is ry) dd fun h' dd' hs => h _ ?_
    have he : ∃ q, h'.get? a = some q := let ⟨q, _, _, hq, _⟩ := dd'; ⟨q, hq⟩
    exact d_write I (by rw [e]; exact True.intro) hs he (dk_new hl hd (rel.put k rv) dd')
  · subst ey eH
    cases (show u = Value.ref b from ry)
    obtain ⟨z, hd, xs, rel, dd⟩ := dt_of I.hok e
    have hz : xs.length ≤ sizeLine := by rw [← Paired.length rel]; exact z
    have hl : (putK kvs k v).length ≤ sizeLine := by have := length_putK kvs k v; omega
    refine wpAny_setItem_heap (hsz := hz) (tupleKind_room_in1 hu) (key_of I.hok eb) dd fun h' dd' hs => h _ ?_
    obtain ⟨q, es, ep, hq, h2, h3, h4, _, h5⟩ := dd'
    refine d_write I (by rw [e]; exact True.intro) hs ⟨q, hq⟩ ⟨hl, hd, _, (rel.put k eb rv).keeps fun c ys ec => ?_, q, es, ep, hq, h2, h3, h4, h5⟩
    rw [upd_ne (ne_of ec e (fun z => nomatch z))]
    exact ec
end

section
variable {X : Cx} {pins : List (Addr × Obj)} {σ : St} {H : Hp} {s : Shared} {a : Addr} {kvs : List (Key × V)} {k : Key} {u : Value} {A : Around} {E : Value → Shared → Prop}
end


/-- the element of a subscription, not a slice -/
def NoSl (i : Expr) : Prop := ∀ ov iv, subscripted i false ov iv = operate [ov, iv] (getItem ov iv)
theorem subD_of {prog : Program} {w : World} {A : Around} {E : Value → Shared → Prop} {s : Shared} {env : Env} {value slice : Expr} {pos : Pos} {T id : String} {Q : Value → Shared → Prop}
    (hl : typeLookup (.type T) "__getitem__" = pure (some (.builtin id))) (hs : NoSl slice)
    (h : wpAny (model prog w) A (eval value env) (fun o s₁ => wpAny (model prog w) A (eval slice env) (fun i s₂ => s₂.TypeIs o T ∧ wpAny (model prog w) A (getItem o i) Q E s₂) E s₁) E s) :
    wpAny (model prog w) A (eval (.Subscript value slice pos) env) Q E s := by
  refine Subscript_ (wpAny_mono h (fun o s₁ h₁ => wpAny_mono h₁ (fun i s₂ h₂ => ?_) fun _ _ x => x) fun _ _ x => x)
  obtain ⟨hT, h₂⟩ := h₂
  unfold subscriptTail
  refine wpAny_bind ?_
  rw [getitemInPython_of_ne hT.not_modules]
  refine wpAny_bind (wpAny_specialOf hT hl ?_)
  have fin : wpAny (model prog w) A (subscripted slice false o i) (fun r s₃ => wpAny (model prog w) A (letTemporaryGo value o r >>= fun _ => pure r) Q E s₃) E s₂ := by
    rw [hs o i]
    exact wpAny_operating (wpAny_mono h₂ (fun r s₃ h₃ => wpAny_bind (wpAny_letTemporaryGo (wpAny_pure h₃))) fun _ _ x => x)
  first
    | exact wpAny_pure (wpAny_bind fin)
    | exact wpAny_bind (wpAny_pure (wpAny_bind fin))
    | exact wpAny_bind fin

theorem dict_typeIs {X : Cx} {pins : List (Addr × Obj)} {σ : St} {H : Hp} {s : Shared} {a : Addr} {y : V} {o : Option V} (I : Inv X pins σ H s) (g : DGet H a y o) : s.TypeIs (.ref a) "dict" := by
  rcases g with ⟨kvs, k, e, _, _⟩ | ⟨kvs, k, b, e, _, _, _⟩
  · obtain ⟨_, _, vs, _, dd⟩ := dk_rd I.hok e
    exact dd.typeIs
  · obtain ⟨_, _, xs, _, dd⟩ := dt_rd I.hok e
    exact dd.typeIs

/-- d[y] -/
def tDGet (td ty : TE) : TE := fun σ H Q => td σ H fun x H1 => ty σ H1 fun y H2 => ∃ a v, x = .ref a ∧ DGet H2 a y (some v) ∧ Q v H2
/-- d[y] = v -/
def sDPut (td ty tv : TE) : TS := fun D σ H => tv σ H fun v H1 => td σ H1 fun x H2 => ty σ H2 fun y H3 => ∃ a H4, x = .ref a ∧ DPut H3 a y v H4 ∧ D.nx σ H4

section
variable {X : Cx} {o i e value : Expr} {pos pos' tpos : Pos} {td ty tv : TE}
theorem pe_dget (hu : X.A.units + 1 < cLine) (ho : PE X o td) (hi : PE X i ty) (hs : NoSl i) : PE X (.Subscript o i pos) (tDGet td ty) := by
  intro pins s σ H Q I h
  refine subD_of PySem.F.slot_dict_getitem.lookup hs (thn (ho pins s σ H _ I h) fun u s1 ⟨x, H1, I1, rx, q1⟩ => thn (hi pins s1 σ H1 _ I1 q1) fun iv s2 ⟨y, H2, I2, ry, a, v, ex, g, q2⟩ => ?_)
  subst ex
  obtain rfl : u = Value.ref a := rx
  exact ⟨dict_typeIs I2 g, d_getItem hu I2 g ry fun w' s3 I3 rw' => ⟨v, H2, I3, rw', q2⟩⟩
theorem ps_dput (hu : X.A.units + 1 < cLine) (ho : PE X o td) (hi : PE X i ty) (hv : PE X value tv) (hs : swapsWith value (some (.Subscript o i pos')) pos.line X.env = pure false) :
    PS X (.Assign [.Subscript o i pos'] value pos) (sDPut td ty tv) := by
  intro pins s σ H D I h
  refine wpAny_Assign_Subscript (thn (hv pins s σ H _ I h) fun r s1 ⟨v, H1, I1, rv, q1⟩ => thn (ho pins s1 σ H1 _ I1 q1) fun u s2 ⟨x, H2, I2, rx, q2⟩ => thn (hi pins s2 σ H2 _ I2 q2) fun iv s3 ⟨y, H3, I3, ry, a, H4, ex, g, q3⟩ => ?_) hs
  subst ex
  obtain rfl : u = Value.ref a := rx
  exact d_setItem hu I3 g ry rv fun s4 I4 => ⟨σ, H4, I4, q3⟩
end


theorem dk_empty {P : Program} {w : World} {H : Hp} (h : Heap) (hb : sysModules < h.objs.size) : ObjOk P w H (h.push { cls := .type "dict", data := .dict #[] }) h.objs.size (.dK []) :=
  ⟨Nat.zero_le _, beq_eq_false_iff_ne.mpr (Ne.symm (Nat.ne_of_lt hb)), [], .nil, Heap.DictOf.new h⟩
/-- {}, to be a dict of the kind that is wanted -/
def tDNewK : TE := fun _ H Q => ∀ p, H p = none → Q (.ref p) (upd H p (.dK []))
section
variable {X : Cx} {pos : Pos}
theorem pe_dnewK : PE X (.Dict [] [] pos) tDNewK := fun pins s σ H Q I h =>
  wpAny_Dict_empty ⟨.ref s.heap.objs.size, _, I.laid (a := s.heap.objs.size) (o := .dK []) (t' := s.toks) (fun _ _ q => Heap.get?_push_of_some _ q) (Nat.le_refl _) (dk_empty s.heap I.big), rfl, h _ (I.hok.fresh (Nat.le_refl _))⟩
end






section
variable {X : Cx} {pins : List (Addr × Obj)} {σ : St} {H : Hp} {s : Shared} {a : Addr} {y d : V} {u r : Value} {o : Option V} {A : Around} {E : Value → Shared → Prop}
end

section
variable {X : Cx} {o e f : Expr} {apos cpos : Pos} {td ty tx : TE}
end

section
variable {X : Cx} {pins : List (Addr × Obj)} {σ : St} {H : Hp} {s : Shared} {a : Addr} {kvs : List (Key × V)} {A : Around} {E : Value → Shared → Prop}
end


section
variable {X : Cx} {pins : List (Addr × Obj)} {σ : St} {H : Hp} {s : Shared} {a : Addr} {y : V} {u : Value} {A : Around} {E : Value → Shared → Prop}
end
end L2

namespace L2
open PySem PySem.Spec PyProof.Rows


section
variable {prog : Program} {w : World} {A : Around} {E : Value → Shared → Prop}


end

section
variable {X : Cx}
end
end L2

namespace L2
open PySem PySem.Spec PyProof.Rows


section
variable {X : Cx} {pins : List (Addr × Obj)} {σ : St} {H : Hp} {s : Shared} {h' : Heap}

end
section
variable {X : Cx}

end

section
variable {X : Cx} {tg : Expr}
end

section
variable {X : Cx} {tg : Expr}
end


section
variable {prog : Program} {w : World} {A : Around} {E : Value → Shared → Prop} {s : Shared}
end

section
variable {X : Cx} {pins : List (Addr × Obj)} {σ : St} {H : Hp} {s : Shared} {d : Addr} {o : Obj}
end

section
variable {P : Program} {w : World} {K : PySem.W.Frag} {tg : Expr} {d : Addr} {o : Obj} {es : Array DictEntry} {ep : Nat}
end

section
variable {X : Cx} {tg e : Expr} {td : TE} {apos cpos : Pos}
end

end L2

section 
namespace Bits
open PySem PyProof.Rows








end Bits
end 

section 
namespace TL
open PySem PySem.Builtin PySem.Builtin.Str PySem.StrLaws













end TL
end 

namespace L2
open PySem PySem.Spec PyProof.Rows




section
variable {X : Cx} {pins : List (Addr × Obj)} {σ : St} {H : Hp} {s : Shared} {Q : VK}
end

section
variable {X : Cx}







end

section
variable {X : Cx} {o e : Expr} {to te : TE}

end
end L2

namespace L2
open PySem PySem.Spec PyProof.Rows

section
variable {X : Cx}
end



end L2

namespace Att
open PySem PySem.W PySem.Calls PyProof.Rows







section
variable {prog : Program} {w : World} {A : Around} {E : Value → Shared → Prop} {s : Shared} {K : Frag}






end
end Att

namespace L2
open PySem PySem.Spec PyProof.Rows



end L2

namespace L2
open PySem PySem.Spec PyProof.Rows


end L2

/- THE LAST THEOREM (shape; LID, My.* are yours):
   My.Adr: a structure of the addresses that your layer names (classes, functions); My.Txt K t: a structure (Prop) of the equations over K;
   My.txt_mk : {K} {implicit addresses ..} (e1 : nsIn K mainGlobals "law" = some (some (.ref f))) (e2 : K.lookup f = some ⟨oc, od, .func (fnOf "law" "law" params body scope dV kV doc pm an cdv ct), sl⟩) (e3 : codeIn K cdv "law" = true) .. : ∃ t, My.Txt K t

set_option maxRecDepth 100000 in
set_option maxHeartbeats 0 in
theorem PySem.Challenge.cw_LID_holds : PySem.Challenge.rw_LID.Holds := by
  w_on; o_law; k_head; (case hw => w_witness2)
  k_fill
  refine L2.walk_of (l := PySem.Challenge.rw_LID) (n := 63) (k := 40) (x := "script") (CX := fun w => ..) (sp := fun _ => My.sp_law) rfl (by decide) rfl ⟨rfl, by decide, by decide⟩ (fun w h Y => PySem.W.kIn_of Y) ?F ?S ?C
  case F =>
    intro w mg fa h KX G hmg
    have T : ∃ t, My.Txt (L2.KOf KX) t := by
      dsimp only [L2.KOf]                          -- K must stand as «<heap const> w.params» for k_is
      refine' My.txt_mk ?e1 ?e2 ?e3 ..
      (case e1 => PySem.W.k_is)                    -- in the order: a name -> its address -> its object -> its parts
      (case e2 => PySem.W.k_is)
      ..
    obtain ⟨t, T⟩ := T
    have e0 := hmg.symm.trans (PySem.W.mg_of KX G T.law)
    cases e0                                       -- fa is the law's own address
    exact ⟨_, fun s u => .of_eq rfl, fun base kb nb => My.law_fn T kb nb⟩     -- if «.of_eq rfl» comes too early: refine' ⟨_, ?b, fun base kb nb => My.law_fn T kb nb⟩; exact fun s u => .of_eq rfl
  case S => exact fun w H a ns hl hO hS => ..
  case C => exact ..
(the tactic k_is has no namespace: write k_is) -/

namespace L2
open PySem PySem.Spec PyProof.Rows

/-- the j-th statement of a class's body -/
def inClass (s : Stmt) (j : Nat) : Stmt := match s with
  | .ClassDef _ _ _ body _ _ _ _ _ _ _ => body.getD j (.Pass ⟨0, 0, 0, 0⟩)
  | _ => .Pass ⟨0, 0, 0, 0⟩
def defArgs (s : Stmt) : Arguments := match s with
  | .FunctionDef _ a _ _ _ _ _ _ _ _ => a
  | _ => { posonlyargs := [], args := [], vararg := none, kwonlyargs := [], kw_defaults := [], kwarg := none, defaults := [] }
def defBody (s : Stmt) : List Stmt := match s with
  | .FunctionDef _ _ b _ _ _ _ _ _ _ => b
  | _ => []
def defScope (s : Stmt) : Scope := match s with
  | .FunctionDef _ _ _ _ _ _ sc _ _ _ => sc
  | _ => { kind := .function, names := [], isGenerator := false, isCoroutine := false }

abbrev CX0 : CXT := fun _ _ _ _ _ _ => False
abbrev E0 : XK := fun _ _ _ => False
theorem pass0 {X : Cx} : Passes CX0 X E0 := fun _ _ _ _ _ _ _ h => h.elim

structure Fun (K : PySem.W.Frag) (x qual : Str) (st : Stmt) (f : Addr) (fd : FuncData) : Prop where
  ex : ∃ (oc : Value) (od : Option Addr) (kV doc pm : Value) (an : Option Addr) (cdv ct : Value) (osl : Array (Option Value)),
    fd = PySem.W.fnOf x qual (defArgs st) (defBody st) (defScope st) .none kV doc pm an cdv ct ∧ K.lookup f = some ⟨oc, od, .func fd, osl⟩ ∧ PySem.W.codeIn K cdv qual = true
  kp : PySem.W.keepIn K (.ref f) = true
section
variable {P : Program} {w : World} {K : PySem.W.Frag} {mg : Str → Option Value} {base : Heap}
/-- THE RULE for a def: its body as a term of rules, and the reading of that term -/
theorem Fun.ok {x qual : Str} {st : Stmt} {f : Addr} {fd : FuncData} {N ps : List Str} {k : Nat} {sp : Sp} (F : Fun K x qual st f fd) (S : FnScope N ps (defScope st)) (len : ∀ vs H Q E, sp vs H Q E → vs.length = ps.length)
    (hbody : ∀ (cdv : Value) (A : Around) (outer : List Env) (s : Shared) (H : Hp) (vs : List V) (Q : VK) (E : XK), Room k (A.deeper (envOfC qual (defScope st) s.heap.objs.size f cdv)) → sp vs H Q E →
      ∃ t, PSs (cxOf CX0 P w K mg base N qual (defScope st) f cdv A outer s H E).nox (defBody st) t ∧ t { nx := fun _ H' => Q .non H', rt := Q } (start N vs) H) : FnOk P w K mg base CX0 (k + 1) f fd ps sp := by
  obtain ⟨oc, od, kV, doc, pm, an, cdv, ct, osl, rfl, lk, hcd⟩ := F.ex
  refine fn_of lk hcd S len fun A outer s H vs Q E hr hsp => ?_
  obtain ⟨t, h, q⟩ := hbody cdv A outer s H vs Q E hr hsp
  exact ⟨t, h.nox, q⟩
/-- how its arguments bind (no defaults): h is «fun _ _ _ _ _ _ us hl => match us, hl with | [_, _], _ => rfl», one _ a parameter -/
theorem Fun.binds {x qual : Str} {st : Stmt} {f : Addr} {fd : FuncData} {ps : List Str} (F : Fun K x qual st f fd)
    (h : ∀ (kV doc pm : Value) (an : Option Addr) (cdv ct : Value) (us : List Value), us.length = ps.length → bindArgs (PySem.W.fnOf x qual (defArgs st) (defBody st) (defScope st) .none kV doc pm an cdv ct) ⟨us, []⟩ = pure (ps.zip us)) : Binds K fd ps [] := by
  obtain ⟨oc, od, kV, doc, pm, an, cdv, ct, osl, rfl, lk, hcd⟩ := F.ex
  exact .all (h kV doc pm an cdv ct)
theorem fun_mk {x qual : Str} {st : Stmt} {f : Addr} {oc : Value} {od an : Option Addr} {osl : Array (Option Value)} {kV doc pm cdv ct : Value} (l : K.lookup f = some ⟨oc, od, .func (PySem.W.fnOf x qual (defArgs st) (defBody st) (defScope st) .none kV doc pm an cdv ct), osl⟩)
    (c : PySem.W.codeIn K cdv qual = true) (k : PySem.W.keepIn K (.ref f) = true) : Fun K x qual st f (PySem.W.fnOf x qual (defArgs st) (defBody st) (defScope st) .none kV doc pm an cdv ct) := ⟨⟨oc, od, kV, doc, pm, an, cdv, ct, osl, rfl, l, c⟩, k⟩
end
theorem hu_of {A : Around} {k : Nat} (hr : Room k A) : A.units + 1 < cLine := Nat.lt_of_le_of_lt (Nat.add_le_add_left (by decide : 1 ≤ 64) _) hr.units

section
variable {X : Cx}
theorem pv (i : Nat) {x : Str} {pos : Pos} (hN : X.N[i]? = some x := by rfl) (hv : Vis X.env.scope x := by first | exact Or.inl rfl | exact Or.inr (Or.inl rfl) | exact Or.inr (Or.inr rfl)) (hd : (x == ("__debug__" : Str)) = false := by decide)
    (hcd : (x == ("__classdict__" : Str)) = false := by decide) : PE X (.Name x pos) (tVar i) := pe_var hN hv hd hcd
end



section
variable {κ : Type} [DecidableEq κ]
end
theorem at_of {xs : List V} {z : Int} {j : Nat} {v : V} (e : z = (j : Int)) (h : xs[j]? = some v) : atI xs z = some v := by
  rw [e]
  exact atI_nat h
end L2

section
set_option Elab.async false
set_option linter.all false
set_option maxRecDepth 100000
set_option maxHeartbeats 2000000
namespace L2
open PySem PySem.Spec PyProof.Rows
open PySem.W (WData Codec OpenSpec Well WellAll ReadsW ReadsAllW)
mutual
/-- x stands for the datum d, lists and tuples all the way -/
inductive Dw (K : PySem.W.Frag) (H : Hp) : V → WData → Prop
  | non : Dw K H .non .none
  | bl (b : Bool) : Dw K H (.bl b) (.bool b)
  | int (i : Int) : Dw K H (.int i) (.int i)
  | str (x : Str) : Dw K H (.str x) (.str x)
  | byt (b : Array UInt8) : Dw K H (.byt b) (.bytes b.toList)
  | lst {a : Addr} {xs : List V} {ds : List WData} : SqL K H a xs → DwAll K H xs ds → Dw K H (.ref a) (.list ds)
  | tup {a : Addr} {xs : List V} {ds : List WData} : SqT K H a xs → DwAll K H xs ds → Dw K H (.ref a) (.tuple ds)
inductive DwAll (K : PySem.W.Frag) (H : Hp) : List V → List WData → Prop
  | nil : DwAll K H [] []
  | cons {v : V} {vs : List V} {d : WData} {ds : List WData} : Dw K H v d → DwAll K H vs ds → DwAll K H (v :: vs) (d :: ds)
end
theorem dw_ints {K : PySem.W.Frag} {H : Hp} : ∀ ns : List Int, DwAll K H (ns.map V.int) (ns.map WData.int)
  | [] => .nil
  | n :: r => .cons (.int n) (dw_ints r)
theorem ints_dw {K : PySem.W.Frag} {H : Hp} : ∀ (ns : List Int) (xs : List V), DwAll K H xs (ns.map WData.int) → xs = ns.map V.int
  | [], xs, h => by
    cases h
    rfl
  | n :: r, xs, h => by
    cases h with
    | cons h1 h2 =>
      cases h1
      rw [ints_dw r _ h2] <;> rfl
section
variable {P : Program} {w : World} {K : PySem.W.Frag} {H : Hp} {h : Heap} {R : PySem.W.WRecords} {cl : Str → Option Addr}
theorem sqL_at {a : Addr} {xs : List V} (hok : HOk P w H h) (KX : K.In h) (q : SqL K H a xs) : ∃ (its : List Value) (o : Obj) (n : Nat), Vals xs its ∧ h.get? a = some o ∧ o.cls = .type "list" ∧ o.data = .seq its.toArray n := by
  rcases q with q | ⟨o, its, n, e, hc, _, hd, _, hv⟩
  · obtain ⟨_, its, n, hv, e⟩ := (show ObjOk P w H h a (.lst xs) from q.ok hok)
    exact ⟨its, _, n, hv, e, rfl, rfl⟩
  · exact ⟨its.toList, o, n, hv, KX _ _ e, hc, by simp [hd]⟩
theorem sqT_at {a : Addr} {xs : List V} (hok : HOk P w H h) (KX : K.In h) (q : SqT K H a xs) : ∃ (its : List Value) (o : Obj) (n : Nat), Vals xs its ∧ h.get? a = some o ∧ o.cls = .type "tuple" ∧ o.data = .seq its.toArray n := by
  rcases q with q | ⟨o, its, n, e, hc, hd, _, hv⟩
  · obtain ⟨_, its, hv, o, e, hc, n, hd⟩ := (show ObjOk P w H h a (.tup xs) from q.ok hok)
    exact ⟨its, o, n, hv, e, hc, hd⟩
  · exact ⟨its.toList, o, n, hv, KX _ _ e, hc, by simp [hd]⟩
mutual
theorem Dw.reads (hok : HOk P w H h) (KX : K.In h) : ∀ (d : WData) (v : V) (u : Value), Dw K H v d → RelV v u → ∃ as, ReadsW R cl h u d as
  | .none, _, _, x, r => by
    cases x
    cases r
    exact ⟨_, ReadsW.none⟩
  | .bool b, _, _, x, r => by
    cases x
    cases r
    exact ⟨_, ReadsW.bool b⟩
  | .int i, _, _, x, r => by
    cases x
    obtain ⟨t, rfl⟩ := r
    exact ⟨_, ReadsW.int i t⟩
  | .str s, _, _, x, r => by
    cases x
    obtain ⟨t, rfl⟩ := r
    exact ⟨_, ReadsW.str s t⟩
  | .bytes b, _, _, x, r => by
    cases x
    obtain ⟨t, rfl⟩ := r
    exact ⟨_, ReadsW.bytes _ t⟩
  | .list ds, _, _, x, r => by
    cases x with
    | lst hs ha =>
      cases r
      obtain ⟨its, o, n, rv, ho, hc, hd⟩ := sqL_at hok KX hs
      obtain ⟨as, hr⟩ := Dw.readsAll hok KX ds _ its ha rv
      exact ⟨_, ReadsW.list ho hc hd hr⟩
  | .tuple ds, _, _, x, r => by
    cases x with
    | tup hs ha =>
      cases r
      obtain ⟨its, o, n, rv, ho, hc, hd⟩ := sqT_at hok KX hs
      obtain ⟨as, hr⟩ := Dw.readsAll hok KX ds _ its ha rv
      exact ⟨_, ReadsW.tuple ho hc hd hr⟩
  | .float _, _, _, x, _ => by cases x
  | .dict _, _, _, x, _ => by cases x
  | .bytearray _, _, _, x, _ => by cases x
  | .set _, _, _, x, _ => by cases x
  | .frozenset _, _, _, x, _ => by cases x
  | .obj _ _, _, _, x, _ => by cases x
theorem Dw.readsAll (hok : HOk P w H h) (KX : K.In h) : ∀ (ds : List WData) (vs : List V) (us : List Value), DwAll K H vs ds → Vals vs us → ∃ as, ReadsAllW R cl h us ds as
  | [], _, _, x, r => by
    cases x
    cases r
    exact ⟨_, ReadsAllW.nil⟩
  | d :: ds, _, _, x, r => by
    cases x with
    | cons h1 h2 =>
      cases r with
      | cons r1 r2 =>
        obtain ⟨as, q1⟩ := Dw.reads hok KX d _ _ h1 r1
        obtain ⟨bs, q2⟩ := Dw.readsAll hok KX ds _ _ h2 r2
        exact ⟨_, ReadsAllW.cons q1 q2⟩
end
end
mutual
/-- data that a codec tells -/
def plW : WData → Bool
  | .none => true
  | .bool _ => true
  | .int _ => true
  | .str _ => true
  | .bytes _ => true
  | .list xs => plWs xs
  | .tuple xs => plWs xs
  | _ => false
def plWs : List WData → Bool
  | [] => true
  | x :: r => plW x && plWs r
end
theorem plWs_map {α : Type} {f : α → WData} (h : ∀ a, plW (f a) = true) : ∀ l : List α, plWs (l.map f) = true
  | [] => rfl
  | x :: r => by
    show (plW (f x) && plWs (r.map f)) = true
    rw [h x, plWs_map h r] <;> rfl
theorem pl_enc : ∀ (c : Codec) (a : c.denote), plW (c.enc a) = true
  | .unit, _ => rfl
  | .bool, _ => rfl
  | .int _ _, _ => rfl
  | .nat _ _, _ => rfl
  | .u8, _ => rfl
  | .bytes _ _, _ => rfl
  | .text _ _ _ _, _ => rfl
  | .list _ _ c, a => plWs_map (fun x => pl_enc c x) a
  | .pair c d, a => by
    show (plW (c.enc a.1) && (plW (d.enc a.2) && true)) = true
    rw [pl_enc c a.1, pl_enc d a.2] <;> rfl
  | .triple c d e, a => by
    show (plW (c.enc a.1) && (plW (d.enc a.2.1) && (plW (e.enc a.2.2) && true))) = true
    rw [pl_enc c a.1, pl_enc d a.2.1, pl_enc e a.2.2] <;> rfl
  | .option c, none => rfl
  | .option c, some x => pl_enc c x
theorem pl_encAll : ∀ (cs : List Codec) (a : Codec.denoteAll cs), plWs (Codec.encAll cs a) = true
  | [], _ => rfl
  | c :: cs, a => by
    show (plW (c.enc a.1) && plWs (Codec.encAll cs a.2)) = true
    rw [pl_enc c a.1, pl_encAll cs a.2] <;> rfl
theorem weight_mem : ∀ {xs : List WData} {d : WData}, d ∈ xs → d.weight ≤ WData.weightAll xs
  | [], d, h => absurd h (by simp)
  | x :: r, d, h => by
    show d.weight ≤ x.weight + 1 + WData.weightAll r
    rcases List.mem_cons.mp h with e | m
    · rw [e]
      omega
    · have z := weight_mem m
      omega
def toV : Value → V
  | .none => .non
  | .bool b => .bl b
  | .int i _ => .int i
  | .str x _ => .str x
  | .bytes b _ => .byt b
  | .ref a => .ref a
  | _ => .non
/-- a value of the arguments, its objects among A -/
def OkU (A : List Addr) : Value → Prop
  | .none => True
  | .bool _ => True
  | .int _ _ => True
  | .str _ _ => True
  | .bytes _ _ => True
  | .ref a => a ∈ A
  | _ => False
theorem OkU.mono {A B : List Addr} (h : ∀ a ∈ A, a ∈ B) : ∀ {u : Value}, OkU A u → OkU B u := fun {u} x => by
  cases u with
  | ref a => exact h a x
  | none => trivial
  | bool b => trivial
  | int i t => trivial
  | str s t => trivial
  | bytes b t => trivial
  | _ => exact False.elim x
theorem relV_toV {A : List Addr} {u : Value} (x : OkU A u) : RelV (toV u) u := by
  cases u with
  | ref a => rfl
  | none => rfl
  | bool b => rfl
  | int i t => exact ⟨t, rfl⟩
  | str s t => exact ⟨t, rfl⟩
  | bytes b t => exact ⟨t, rfl⟩
  | _ => exact False.elim x
theorem vals_toV {A : List Addr} : ∀ {vs : List Value}, (∀ u ∈ vs, OkU A u) → Vals (vs.map toV) vs
  | [], _ => .nil
  | u :: r, h => .cons (relV_toV (h u (List.mem_cons_self ..))) (vals_toV fun x hx => h x (List.mem_cons_of_mem _ hx))
/-- an object of the arguments -/
def ArgOb (h : Heap) (A : List Addr) (a : Addr) : Prop := ∃ vs : List Value, vs.length ≤ sizeLine ∧ (∀ u ∈ vs, OkU A u) ∧
  (h.get? a = some { cls := .type "list", data := .seq vs.toArray } ∨ h.get? a = some { cls := .type "tuple", data := .seq vs.toArray })
theorem ArgOb.mono {h : Heap} {A B : List Addr} {a : Addr} (k : ∀ a ∈ A, a ∈ B) (x : ArgOb h A a) : ArgOb h B a := by
  obtain ⟨vs, h1, h2, h3⟩ := x
  exact ⟨vs, h1, fun u hu => (h2 u hu).mono k, h3⟩
theorem wellAll_len {P : Params} {h : Heap} : ∀ {vs : List Value} {ds : List WData}, WellAll P h vs ds → vs.length = ds.length
  | _, _, .nil => rfl
  | _, _, .cons _ b => by
    show _ + 1 = _ + 1
    rw [wellAll_len b]
theorem well_list {P : Params} {h : Heap} {v : Value} {ds : List WData} (x : Well P h v (.list ds)) : ∃ (a : Addr) (vs : List Value), v = .ref a ∧ h.get? a = some { cls := .type "list", data := .seq vs.toArray } ∧ WellAll P h vs ds := by
  cases x with
  | list ho hall => exact ⟨_, _, rfl, ho, hall⟩
theorem well_tuple {P : Params} {h : Heap} {v : Value} {ds : List WData} (x : Well P h v (.tuple ds)) : ∃ (a : Addr) (vs : List Value), v = .ref a ∧ h.get? a = some { cls := .type "tuple", data := .seq vs.toArray } ∧ WellAll P h vs ds := by
  cases x with
  | tuple ho hall => exact ⟨_, _, rfl, ho, hall⟩
theorem well_cons {P : Params} {h : Heap} {us : List Value} {d : WData} {ds : List WData} (x : WellAll P h us (d :: ds)) : ∃ (v : Value) (vs : List Value), us = v :: vs ∧ Well P h v d ∧ WellAll P h vs ds := by
  cases x with
  | cons a b => exact ⟨_, _, rfl, a, b⟩
theorem line_of {n : Nat} (h : n ≤ 1048576) : n ≤ sizeLine := Nat.le_trans h (by decide)
section
variable {P : Params} {h : Heap}
mutual
theorem area_one : ∀ (d : WData) (v : Value), Well P h v d → plW d = true → d.weight ≤ 1048576 → ∃ A : List Addr, OkU A v ∧ ∀ a ∈ A, ArgOb h A a
  | .none, _, x, _, _ => by
    cases x
    exact ⟨[], trivial, fun a m => absurd m (by simp)⟩
  | .bool b, _, x, _, _ => by
    cases x
    exact ⟨[], trivial, fun a m => absurd m (by simp)⟩
  | .int i, _, x, _, _ => by
    cases x
    exact ⟨[], trivial, fun a m => absurd m (by simp)⟩
  | .str s, _, x, _, _ => by
    cases x
    exact ⟨[], trivial, fun a m => absurd m (by simp)⟩
  | .bytes b, _, x, _, _ => by
    cases x
    exact ⟨[], trivial, fun a m => absurd m (by simp)⟩
  | .list ds, _, x, p, z => by
    obtain ⟨a, vs, rfl, ho, hall⟩ := well_list x
    have z2 : WData.weightAll ds ≤ 1048576 := z
    obtain ⟨A, h1, h2⟩ := area_all ds _ hall p fun d hd => Nat.le_trans (weight_mem hd) z2
    have k : ∀ b ∈ A, b ∈ a :: A := fun b hb => List.mem_cons_of_mem _ hb
    refine ⟨a :: A, List.mem_cons_self .., fun b hb => ?_⟩
    rcases List.mem_cons.mp hb with e | m
    · rw [e]
      exact ⟨vs, line_of (by rw [wellAll_len hall]; exact Nat.le_trans (PySem.W.length_le_weightAllW ds) z2), fun u hu => (h1 u hu).mono k, .inl ho⟩
    · exact (h2 b m).mono k
  | .tuple ds, _, x, p, z => by
    obtain ⟨a, vs, rfl, ho, hall⟩ := well_tuple x
    have z2 : WData.weightAll ds ≤ 1048576 := z
    obtain ⟨A, h1, h2⟩ := area_all ds _ hall p fun d hd => Nat.le_trans (weight_mem hd) z2
    have k : ∀ b ∈ A, b ∈ a :: A := fun b hb => List.mem_cons_of_mem _ hb
    refine ⟨a :: A, List.mem_cons_self .., fun b hb => ?_⟩
    rcases List.mem_cons.mp hb with e | m
    · rw [e]
      exact ⟨vs, line_of (by rw [wellAll_len hall]; exact Nat.le_trans (PySem.W.length_le_weightAllW ds) z2), fun u hu => (h1 u hu).mono k, .inr ho⟩
    · exact (h2 b m).mono k
  | .float _, _, _, p, _ => Bool.noConfusion (show false = true from p)
  | .dict _, _, _, p, _ => Bool.noConfusion (show false = true from p)
  | .bytearray _, _, _, p, _ => Bool.noConfusion (show false = true from p)
  | .set _, _, _, p, _ => Bool.noConfusion (show false = true from p)
  | .frozenset _, _, _, p, _ => Bool.noConfusion (show false = true from p)
  | .obj _ _, _, _, p, _ => Bool.noConfusion (show false = true from p)
theorem area_all : ∀ (ds : List WData) (vs : List Value), WellAll P h vs ds → plWs ds = true → (∀ d ∈ ds, d.weight ≤ 1048576) → ∃ A : List Addr, (∀ u ∈ vs, OkU A u) ∧ ∀ a ∈ A, ArgOb h A a
  | [], _, x, _, _ => by
    cases x
    exact ⟨[], fun u m => absurd m (by simp), fun a m => absurd m (by simp)⟩
  | d :: ds, _, x, p, z => by
    obtain ⟨v, vs, rfl, x1, x2⟩ := well_cons x
    have q : plW d = true ∧ plWs ds = true := Bool.and_eq_true_iff.mp p
    obtain ⟨A, a1, a2⟩ := area_one d v x1 q.1 (z d (List.mem_cons_self ..))
    obtain ⟨B, b1, b2⟩ := area_all ds vs x2 q.2 fun e he => z e (List.mem_cons_of_mem _ he)
    have kA : ∀ b ∈ A, b ∈ A ++ B := fun b hb => List.mem_append.mpr (.inl hb)
    have kB : ∀ b ∈ B, b ∈ A ++ B := fun b hb => List.mem_append.mpr (.inr hb)
    refine ⟨A ++ B, fun u hu => ?_, fun b hb => ?_⟩
    · rcases List.mem_cons.mp hu with e | m
      · rw [e]
        exact a1.mono kA
      · exact (b1 u m).mono kB
    · rcases List.mem_append.mp hb with m | m
      · exact (a2 b m).mono kA
      · exact (b2 b m).mono kB
end
end
/-- what is tracked of an argument's object -/
def hoOf (o : Obj) : Option HO := match o.data with
  | .seq vs _ => if (o.cls == Value.type "list") = true then some (.frz o (.lst (vs.toList.map toV))) else some (.frz o (.tup (vs.toList.map toV)))
  | _ => none
def argH (K : PySem.W.Frag) (h : Heap) (A : List Addr) : Hp := fun b => if b ∈ A then (if (K.lookup b).isNone = true then (h.get? b).bind hoOf else none) else none
/-- nothing is tracked but what is known to the object -/
def OnlyF (H : Hp) : Prop := ∀ b, H b = none ∨ ∃ o u, H b = some (.frz o u)
theorem hoOf_lst (vs : List Value) : hoOf { cls := .type "list", data := .seq vs.toArray } = some (.frz { cls := .type "list", data := .seq vs.toArray } (.lst (vs.map toV))) := by
  show (if (Value.type "list" == Value.type "list") = true then some (HO.frz { cls := .type "list", data := .seq vs.toArray } (.lst (vs.toArray.toList.map toV))) else some (HO.frz { cls := .type "list", data := .seq vs.toArray } (.tup (vs.toArray.toList.map toV)))) = _
  rw [if_pos (beq_self_eq_true _)]
theorem hoOf_tup (vs : List Value) : hoOf { cls := .type "tuple", data := .seq vs.toArray } = some (.frz { cls := .type "tuple", data := .seq vs.toArray } (.tup (vs.map toV))) := by
  show (if (Value.type "tuple" == Value.type "list") = true then some (HO.frz { cls := .type "tuple", data := .seq vs.toArray } (.lst (vs.toArray.toList.map toV))) else some (HO.frz { cls := .type "tuple", data := .seq vs.toArray } (.tup (vs.toArray.toList.map toV)))) = _
  rw [if_neg (by decide)]
section
variable {P : Program} {w : World} {K : PySem.W.Frag} {h : Heap} {A : List Addr}
theorem argH_at {b : Addr} {o : Obj} (hb : b ∈ A) (hk : K.lookup b = none) (e : h.get? b = some o) : argH K h A b = hoOf o := by
  unfold argH
  rw [if_pos hb, hk, if_pos (show (none : Option Obj).isNone = true from rfl), e] <;> rfl
theorem of_argH {b : Addr} {u : HO} (q : argH K h A b = some u) : b ∈ A ∧ K.lookup b = none := by
  unfold argH at q
  by_cases hb : b ∈ A
  · rw [if_pos hb] at q
    cases hk : K.lookup b with
    | none => exact ⟨hb, rfl⟩
    | some o =>
      rw [hk, if_neg (by simp)] at q
      cases q
  · rw [if_neg hb] at q
    cases q
/-- what stands tracked -/
theorem argH_is (ar : ∀ a ∈ A, ArgOb h A a) {b : Addr} {u : HO} (q : argH K h A b = some u) : K.lookup b = none ∧ ∃ vs : List Value, vs.length ≤ sizeLine ∧ (∀ u ∈ vs, OkU A u) ∧
    ((h.get? b = some { cls := .type "list", data := .seq vs.toArray } ∧ u = .frz { cls := .type "list", data := .seq vs.toArray } (.lst (vs.map toV))) ∨
     (h.get? b = some { cls := .type "tuple", data := .seq vs.toArray } ∧ u = .frz { cls := .type "tuple", data := .seq vs.toArray } (.tup (vs.map toV)))) := by
  obtain ⟨hb, hk⟩ := of_argH q
  obtain ⟨vs, h1, h2, h3⟩ := ar b hb
  refine ⟨hk, vs, h1, h2, ?_⟩
  rcases h3 with e | e
  · rw [argH_at hb hk e, hoOf_lst] at q
    exact .inl ⟨e, (Option.some.inj q).symm⟩
  · rw [argH_at hb hk e, hoOf_tup] at q
    exact .inr ⟨e, (Option.some.inj q).symm⟩
theorem argH_only (ar : ∀ a ∈ A, ArgOb h A a) : OnlyF (argH K h A) := fun b => by
  cases q : argH K h A b with
  | none => exact .inl rfl
  | some u =>
    obtain ⟨_, vs, _, _, ⟨_, e⟩ | ⟨_, e⟩⟩ := argH_is ar q
    · exact .inr ⟨_, _, by rw [e]⟩
    · exact .inr ⟨_, _, by rw [e]⟩
theorem argH_ok (ar : ∀ a ∈ A, ArgOb h A a) : HOk P w (argH K h A) h := fun b u q => by
  obtain ⟨_, vs, h1, h2, ⟨e, rfl⟩ | ⟨e, rfl⟩⟩ := argH_is ar q
  · exact ⟨e, by rw [List.length_map]; exact h1, vs, _, vals_toV h2, e⟩
  · exact ⟨e, by rw [List.length_map]; exact h1, vs, vals_toV h2, _, e, rfl, _, rfl⟩
theorem seq_inj {c c' : Value} {vs us : List Value} (e : (some { cls := c, data := .seq vs.toArray } : Option Obj) = some { cls := c', data := .seq us.toArray }) : c = c' ∧ vs = us := by
  have e1 := Option.some.inj e
  have e2 : c = c' := congrArg Obj.cls e1
  have e3 : Data.seq vs.toArray = Data.seq us.toArray := congrArg Obj.data e1
  injection e3 with e4
  refine ⟨e2, ?_⟩
  have e5 := congrArg Array.toList e4
  simpa using e5
/-- a list argument -/
theorem argL (KX : K.In h) (ar : ∀ a ∈ A, ArgOb h A a) {a : Addr} {vs : List Value} (ha : a ∈ A) (e : h.get? a = some { cls := .type "list", data := .seq vs.toArray }) : (∀ u ∈ vs, OkU A u) ∧ SqL K (argH K h A) a (vs.map toV) := by
  obtain ⟨us, h1, h2, h3⟩ := ar a ha
  have hu : us = vs := by
    rcases h3 with q | q
    · rw [e] at q
      exact (seq_inj q).2.symm
    · rw [e] at q
      exact absurd (Value.type.inj (seq_inj q).1) (by decide)
  subst hu
  refine ⟨h2, ?_⟩
  cases hk : K.lookup a with
  | none => exact .inl (.inr ⟨_, by rw [argH_at ha hk e, hoOf_lst]⟩)
  | some o =>
    have e2 := KX a o hk
    rw [e] at e2
    obtain rfl := Option.some.inj e2
    exact .inr ⟨_, us.toArray, _, hk, rfl, rfl, rfl, by rw [List.size_toArray]; exact h1, by simpa using vals_toV h2⟩
theorem argT (KX : K.In h) (ar : ∀ a ∈ A, ArgOb h A a) {a : Addr} {vs : List Value} (ha : a ∈ A) (e : h.get? a = some { cls := .type "tuple", data := .seq vs.toArray }) : (∀ u ∈ vs, OkU A u) ∧ SqT K (argH K h A) a (vs.map toV) := by
  obtain ⟨us, h1, h2, h3⟩ := ar a ha
  have hu : us = vs := by
    rcases h3 with q | q
    · rw [e] at q
      exact absurd (Value.type.inj (seq_inj q).1) (by decide)
    · rw [e] at q
      exact (seq_inj q).2.symm
  subst hu
  refine ⟨h2, ?_⟩
  cases hk : K.lookup a with
  | none => exact .inl (.inr ⟨_, by rw [argH_at ha hk e, hoOf_tup]⟩)
  | some o =>
    have e2 := KX a o hk
    rw [e] at e2
    obtain rfl := Option.some.inj e2
    exact .inr ⟨_, us.toArray, _, hk, rfl, rfl, by rw [List.size_toArray]; exact h1, by simpa using vals_toV h2⟩
mutual
theorem dw_one {Pm : Params} (KX : K.In h) (ar : ∀ a ∈ A, ArgOb h A a) : ∀ (d : WData) (v : Value), Well Pm h v d → plW d = true → OkU A v → Dw K (argH K h A) (toV v) d
  | .none, _, x, _, _ => by
    cases x
    exact .non
  | .bool b, _, x, _, _ => by
    cases x
    exact .bl b
  | .int i, _, x, _, _ => by
    cases x
    exact .int i
  | .str s, _, x, _, _ => by
    cases x
    exact .str s
  | .bytes b, _, x, _, _ => by
    cases x
    have z := Dw.byt (K := K) (H := argH K h A) b.toArray
    exact z
  | .list ds, _, x, p, hu => by
    obtain ⟨a, vs, rfl, ho, hall⟩ := well_list x
    obtain ⟨h2, hs⟩ := argL KX ar hu ho
    exact .lst hs (dw_all KX ar ds _ hall p h2)
  | .tuple ds, _, x, p, hu => by
    obtain ⟨a, vs, rfl, ho, hall⟩ := well_tuple x
    obtain ⟨h2, hs⟩ := argT KX ar hu ho
    exact .tup hs (dw_all KX ar ds _ hall p h2)
  | .float _, _, _, p, _ => Bool.noConfusion (show false = true from p)
  | .dict _, _, _, p, _ => Bool.noConfusion (show false = true from p)
  | .bytearray _, _, _, p, _ => Bool.noConfusion (show false = true from p)
  | .set _, _, _, p, _ => Bool.noConfusion (show false = true from p)
  | .frozenset _, _, _, p, _ => Bool.noConfusion (show false = true from p)
  | .obj _ _, _, _, p, _ => Bool.noConfusion (show false = true from p)
theorem dw_all {Pm : Params} (KX : K.In h) (ar : ∀ a ∈ A, ArgOb h A a) : ∀ (ds : List WData) (vs : List Value), WellAll Pm h vs ds → plWs ds = true → (∀ u ∈ vs, OkU A u) → DwAll K (argH K h A) (vs.map toV) ds
  | [], _, x, _, _ => by
    cases x
    exact .nil
  | d :: ds, _, x, p, hu => by
    obtain ⟨v, vs, rfl, x1, x2⟩ := well_cons x
    have q : plW d = true ∧ plWs ds = true := Bool.and_eq_true_iff.mp p
    exact .cons (dw_one KX ar d v x1 q.1 (hu _ (List.mem_cons_self ..))) (dw_all KX ar ds vs x2 q.2 fun u m => hu u (List.mem_cons_of_mem _ m))
end
end
theorem spec_call {P : Program} {w : World} {K : PySem.W.Frag} {mg mb : Str → Option Value} {CX : CXT} {k : Nat} {fa : Addr} {fd : FuncData} {ps : List Str} {sp : Sp} {s₁ : Shared} {vals : List Value} {ds : List WData} {R : PySem.W.WRecords} {cl : Str → Option Addr} {d0 : WData}
    (KX : K.In s₁.heap) (hns : s₁.heap.Ns mainGlobals mg) (hb : s₁.heap.Ns builtinsNs mb) (hbb : ∀ x : Str, x ≠ "__name__" → mb x = bootBuiltins x) (hlim : s₁.heap.NoLimit) (hg : s₁.gens = #[])
    (hwl : WellAll w.params s₁.heap vals ds) (hpl : plWs ds = true) (hwt : ∀ d ∈ ds, d.weight ≤ 1048576) (hr : Room k callerA)
    (F : ∀ base : Heap, K.In base → base.Ns mainGlobals mg → FnOk P w K mg base CX k fa fd ps sp) (hbind : ∀ (s : Shared) (us : List Value), us.length = ps.length → BindsTo s fd ⟨us, []⟩ (ps.zip us)) (hlen : ds.length = ps.length)
    (hsp : ∀ (H : Hp) (xs : List V), OnlyF H → DwAll K H xs ds → sp xs H (fun v H' => Dw K H' v d0) fun _ _ _ => False)
    (hCX : ∀ H e s', CX [] H s₁ (fun _ _ _ => False) e s' → False) :
    codeAny (model P w) callerA (.call (.ref fa) ⟨vals, []⟩) (fun r s' => ∃ u as, r = .ok (.ret u) ∧ ReadsW R cl s'.heap u d0 as ∧ OldK s₁.heap s'.heap ∧ s'.os = s₁.os ∧ AllBare s'.gens) s₁ := by
  obtain ⟨A, ho, ar⟩ := area_all ds vals hwl hpl hwt
  have hO : OnlyF (argH K s₁.heap A) := argH_only ar
  have hok : HOk P w (argH K s₁.heap A) s₁.heap := argH_ok ar
  have hS := dw_all KX ar ds vals hwl hpl ho
  have hV := vals_toV ho
  have hK : ∀ b u, argH K s₁.heap A b = some u → K.lookup b = none := fun b u q => (argH_is ar q).1
  have noA : ∀ {b : Addr} {o : Obj} {es : Array DictEntry} {ep : Nat}, s₁.heap.get? b = some o → o.data = .dict es ep → argH K s₁.heap A b = none := fun {b o es ep} e d => by
    cases q : argH K s₁.heap A b with
    | none => rfl
    | some u =>
      obtain ⟨_, vs, _, _, ⟨e2, _⟩ | ⟨e2, _⟩⟩ := argH_is ar q
      · rw [e2] at e
        cases e
        have d' : Data.seq vs.toArray _ = Data.dict es ep := d
        cases d'
      · rw [e2] at e
        cases e
        have d' : Data.seq vs.toArray _ = Data.dict es ep := d
        cases d'
  generalize argH K s₁.heap A = H at hO hok hS hK noA
  have base_of : ∀ {b : Addr} {o : Obj}, s₁.heap.get? b = some o → H b = none → (hidT s₁.heap H).get? b = some o := fun e n => hidT_get e n
  have nsK : ∀ {b : Addr} {m : Str → Option Value}, s₁.heap.Ns b m → (hidT s₁.heap H).Ns b m := fun {b m} ⟨o, es, ep, e, d, r⟩ => ⟨o, es, ep, base_of e (noA e d), d, r⟩
  have nK : ∀ b o, K.lookup b = some o → H b = none := fun b o e => by
    cases q : H b with
    | none => rfl
    | some u =>
      rw [hK b u q] at e
      cases e
  have hKb : K.In (hidT s₁.heap H) := fun b o e => base_of (KX b o e) (nK b o e)
  have hM : Mod K mg (hidT s₁.heap H) := ⟨hKb, nsK hns, ⟨mb, nsK hb, hbb⟩, let ⟨mc, h1, h2⟩ := hlim; ⟨mc, nsK h1, h2⟩⟩
  have e0 : Env0 P w K mg (hidT s₁.heap H) callerA [] s₁ H := ⟨rfl, hM, fun b o e => of_hidT e, Nat.le_of_eq (hidT_size _ _), trivial, fun b hb => absurd (show b ∈ ([] : List Addr) from hb) (by simp), hok, .of_eq hg⟩
  have hl : vals.length = ps.length := by rw [wellAll_len hwl]; exact hlen
  refine codeAny_mono ((F _ hKb (nsK hns)).run callerA [] s₁ H ⟨vals, []⟩ vals (vals.map toV) _ _ hr e0 (hbind s₁ vals hl) hV (hsp H _ hO hS)) fun r s' x => ?_
  cases r with
  | error e => exact (hCX H e s' x).elim
  | ok fl =>
    cases fl with
    | next => exact False.elim x
    | brk => exact False.elim x
    | cont => exact False.elim x
    | ret u =>
      obtain ⟨v, H', os, bare, un, hok', r', q⟩ := x
      have kept : ∀ b o, s₁.heap.get? b = some o → s'.heap.get? b = some o := fun b o e => by
        cases q2 : H b with
        | none => exact un.keep b o e q2 (by intro z; exact absurd (show b ∈ ([] : List Addr) from z) (by simp)) (by simp)
        | some u2 =>
          rcases hO b with z | ⟨ob, u3, z⟩
          · rw [q2] at z
            cases z
          · have z2 := un.frzs b ob _ z
            obtain ⟨e1, _⟩ := hok b _ z
            obtain ⟨e2, _⟩ := hok' b _ z2
            rw [e] at e1
            cases e1
            exact e2
      have KX' : K.In s'.heap := fun b o e => kept b o (KX b o e)
      obtain ⟨as, hrd⟩ := Dw.reads (R := R) (cl := cl) hok' KX' d0 v u q r'
      exact ⟨u, as, rfl, hrd, OldK.of_keep kept, os, bare⟩
theorem layable_weight {ds : List WData} (h : WData.layableAll ds = true) : ∀ d ∈ ds, d.weight ≤ 1048576 := fun d hd =>
  (PySem.W.layableW_iff.mp (List.all_eq_true.mp h d hd)).2.2
theorem encAll_len : ∀ (cs : List Codec) (a : Codec.denoteAll cs), (Codec.encAll cs a).length = cs.length
  | [], _ => rfl
  | c :: cs, a => by
    show (Codec.encAll cs a.2).length + 1 = cs.length + 1
    rw [encAll_len cs a.2]
/-- the goal that k_headS leaves (case hc), from the promise of the row's def: whatever the arguments that the codecs let and the row asks for, the def gives what stands for enc (f ..) -/
theorem walk_spec {r : OpenSpec} {k : Nat} {q : Program} {loose : List Str} {XP : (Str → Option Value) → Heap → Prop} {YP : World → Heap → Prop} {d : DefRec} {K : Params → PySem.W.Frag} {CX : World → CXT} {ps : List Str} {sp : World → Sp}
    (hwell : r.wellSaid = true) (hdf : d.params.defaults = []) (hlen : r.args.length = ps.length) (hr : Room k callerA)
    (hY : ∀ (w : World) (h : Heap), YP w h → (K w.params).In h)
    (F : ∀ (w : World) (mg : Str → Option Value) (fa : Addr) (h : Heap), YP w h → (K w.params).In h → h.Ns mainGlobals mg → mg d.name = some (.ref fa) →
      ∃ fd : FuncData, (∀ (s : Shared) (us : List Value), us.length = ps.length → BindsTo s fd ⟨us, []⟩ (ps.zip us)) ∧
        ∀ base : Heap, (K w.params).In base → base.Ns mainGlobals mg → FnOk r.prog w (K w.params) mg base (CX w) k fa fd ps (sp w))
    (hsp : ∀ (w : World) (H : Hp) (xs : List V) (a : Codec.denoteAll r.args), OnlyF H → Codec.withinAll r.args a = true → Codec.app r.args r.asked a = true → DwAll (K w.params) H xs (Codec.encAll r.args a) →
      sp w xs H (fun v H' => Dw (K w.params) H' v (r.ret.enc (Codec.app r.args r.f a))) fun _ _ _ => False)
    (hCX : ∀ (w : World) (H : Hp) (s : Shared) (e : Value) (s' : Shared), CX w [] H s (fun _ _ _ => False) e s' → False) :
    PySem.W.WalkOS q loose XP YP r d [] (fun f vs => PySem.call f vs) := by
  intro w s_0 s₁ mg mb G Y fa o pm cd doc dV kV ho hd hcd hD hmg hg args vals as hpre hlay hrd hwl hlo
  obtain ⟨a, e1, e2⟩ := PySem.W.os_pre_some hpre
  obtain ⟨e3, hwi⟩ := Codec.encAll_of_decAll r.args args a e1
  subst e3
  have KX := hY w _ Y
  obtain ⟨fd, hb, hF⟩ := F w mg fa _ Y KX G.T.g hmg
  refine PySem.W.enter_call (codeAny_mono (spec_call (R := []) (cl := classAt s_0.heap) (d0 := r.ret.enc (Codec.app r.args r.f a)) KX G.T.g G.T.b G.T.builtins G.T.nolimit hg hwl (pl_encAll _ _) (layable_weight hlay) hr hF hb (by rw [encAll_len]; exact hlen)
    (fun H xs hO hS => hsp w H xs a hO hwi e2 hS) fun H e s' => hCX w H s₁ e s') fun r' s' hq => ?_)
  obtain ⟨u, as', rfl, h1, h2, h3, h4⟩ := hq
  exact ⟨.inl ⟨u, _, as', rfl, fun _ => rfl, h1, (OpenSpec.post_iff hwell hwi _ _).mpr rfl, fun z => Bool.noConfusion (show false = true from z)⟩, h2, h3, h4⟩
/-- the same where the promise hangs on the written part alone -/
theorem walk_specK {r : OpenSpec} {k : Nat} {q : Program} {loose : List Str} {XP : (Str → Option Value) → Heap → Prop} {YP : World → Heap → Prop} {d : DefRec} {K : Params → PySem.W.Frag} {CX : CXT} {ps : List Str} {sp : PySem.W.Frag → Sp}
    (hwell : r.wellSaid = true) (hdf : d.params.defaults = []) (hlen : r.args.length = ps.length) (hr : Room k callerA)
    (hY : ∀ (w : World) (h : Heap), YP w h → (K w.params).In h)
    (F : ∀ (w : World) (mg : Str → Option Value) (fa : Addr) (h : Heap), YP w h → (K w.params).In h → h.Ns mainGlobals mg → mg d.name = some (.ref fa) →
      ∃ fd : FuncData, (∀ (s : Shared) (us : List Value), us.length = ps.length → BindsTo s fd ⟨us, []⟩ (ps.zip us)) ∧
        ∀ base : Heap, (K w.params).In base → base.Ns mainGlobals mg → FnOk r.prog w (K w.params) mg base CX k fa fd ps (sp (K w.params)))
    (hsp : ∀ (K : PySem.W.Frag) (H : Hp) (xs : List V) (a : Codec.denoteAll r.args), OnlyF H → Codec.withinAll r.args a = true → Codec.app r.args r.asked a = true → DwAll K H xs (Codec.encAll r.args a) →
      sp K xs H (fun v H' => Dw K H' v (r.ret.enc (Codec.app r.args r.f a))) fun _ _ _ => False)
    (hCX : ∀ (H : Hp) (s : Shared) (e : Value) (s' : Shared), CX [] H s (fun _ _ _ => False) e s' → False) :
    PySem.W.WalkOS q loose XP YP r d [] (fun f vs => PySem.call f vs) :=
  walk_spec (K := K) (CX := fun _ => CX) (sp := fun w => sp (K w.params)) hwell hdf hlen hr hY F (fun w H xs a h1 h2 h3 h4 => hsp (K w.params) H xs a h1 h2 h3 h4) fun _ H s e s' => hCX H s e s'
end L2
-- rests on (row put in by the clerk, for the bench that shows a file only what it spells): KE.SpHead KE.OsShapes
end

end

section
set_option Elab.async false
set_option linter.all false
set_option maxRecDepth 100000
/-! own additions to the layer: a global as a value, a call through a local name, list.insert -/
namespace L2
open PySem PySem.Spec PyProof.Rows
/-- a global name's value -/
def GlV (mg : Str → Option Value) (x : Str) (v : V) : Prop := ∃ u, mg x = some u ∧ RelV v u
/-- a tuple of the module -/
def KTu (K : PySem.W.Frag) (a : Addr) (xs : List V) : Prop :=
  ∃ (o : Obj) (its : Array Value) (n : Nat), K.lookup a = some o ∧ o.cls = .type "tuple" ∧ o.data = .seq its n ∧ its.size ≤ sizeLine ∧ Vals xs its.toList
theorem KTu.seq {K : PySem.W.Frag} {H : Hp} {a : Addr} {xs : List V} (h : KTu K a xs) : SqT K H a xs := .inr h
section
variable {X : Cx}
theorem pe_gl {x : Str} {v : V} {pos : Pos} (h : GlV X.mg x v) (hg : Gl X x := by rfl) (hd : (x == ("__debug__" : Str)) = false := by decide) : PE X (.Name x pos) (tC v) := by
  obtain ⟨u, hm, r⟩ := h
  exact pe_glob hg hm r hd
/-- a call of the def that the i-th name holds -/
def tCallV (X : Cx) (i : Nat) (t : TA) : TE := fun σ H Q => ∃ f, σ[i]? = some (some (.ref f)) ∧ ∃ (k : Nat) (fd : FuncData) (ps : List Str) (sp : Sp),
  FnOk X.prog X.w X.K X.mg X.base CX0 k f fd ps sp ∧ Room k X.A ∧ PySem.W.keepIn X.K (.ref f) = true ∧ Binds X.K fd ps [] ∧ t σ H fun vs H1 => sp vs H1 Q E0
theorem pe_callV (i : Nat) {x : Str} {p pos : Pos} {e : Expr} {es : List Expr} {t : TA} (ha : PA X (e :: es) t) (hN : X.N[i]? = some x := by rfl) (hv : Vis X.env.scope x := by first | exact Or.inl rfl | exact Or.inr (Or.inl rfl) | exact Or.inr (Or.inr rfl))
    (hdb : (x == ("__debug__" : Str)) = false := by decide) (hcd : (x == ("__classdict__" : Str)) = false := by decide) (he : starEach (e :: es) X.env = (false, eval e X.env) :: starEach es X.env := by rfl) (hpl : (backTo pos (starEach es X.env)).any (·.1) = false := by rfl) :
    PE X (.Call (.Name x p) (e :: es) [] pos) (tCallV X i t) := by
  intro pins s σ H Q I h
  obtain ⟨f, hf, k, fd, ps, sp, F, hr, hk, hb, h⟩ := h
  refine wpAny_Call_Name_kw (thn (pe_var (pos := p) hN hv hdb hcd pins s σ H (fun v H' => v = .ref f ∧ H' = H) I ⟨_, hf, rfl, rfl⟩) fun u s1 ⟨v, H1, I1, r1, e1, e2⟩ => ?_)
  subst e1 e2
  obtain rfl : u = Value.ref f := r1
  refine PySem.W.callWith_K (h₀ := X.base) I1.ok.mod.kin hk (thn (ha pos pins s1 σ _ _ I1 h) fun us s2 ⟨vs, H2, I2, r, q⟩ => ⟨I2.kIn, ?_⟩) he hpl
  exact run_fn (dvs := []) (ds := []) F hr hb .nil pass0 I2 r (by rw [List.append_nil]; exact q)

theorem Vals.ins {xs : List V} {us : List Value} (k : Nat) {x : V} {u : Value} (r : RelV x u) (h : Vals xs us) : Vals (xs.take k ++ x :: xs.drop k) (us.take k ++ u :: us.drop k) :=
  (h.take k).append (.cons r (h.drop k))
/-- xs.insert(i, y), i from 0 on -/
def rInsert : V → List V → Hp → VK → Prop := fun x vs H Q => ∃ l xs i y, x = .ref l ∧ vs = [.int i, y] ∧ H l = some (.lst xs) ∧ 0 ≤ i ∧ i < 2 ^ 62 ∧ xs.length < sizeLine ∧ Q .non (upd H l (.lst (xs.take i.toNat ++ y :: xs.drop i.toNat)))
theorem mt_insert : MtM X "list.insert" rInsert := by
  intro pins s σ H x vs v us Q I rx rv h
  obtain ⟨l, xs, i, y, rfl, rfl, hH, h1, h2, hz, q⟩ := h
  cases rx
  obtain ⟨u, w, rfl, ru, rw'⟩ := rv.two
  obtain ⟨t, rfl⟩ := ru
  obtain ⟨z, its, n, r, hl, e⟩ := I.lstM hH
  have hf : Builtin.List.listFitsIndex i = true := by first | exact fitsIndex_both (by omega) (by omega) | (unfold Builtin.List.listFitsIndex; simp; omega)
  refine call_meets PySem.F.slot_list_insert ⟨_, e, rfl⟩ PySem.F.entry_list_insert (PySem.F.args_list_insert_3 _ _ _) (PySem.AutoSeq1.list_insert_list_int_val_1 l its.toArray n i t w (by simp [hf]) (by rw [List.size_toArray]; omega)) ⟨e, ?_⟩
  refine ⟨.non, _, I.lset (its' := its.take i.toNat ++ w :: its.drop i.toNat) hH e ?_ (Vals.ins i.toNat rw' r) ?_, rfl, q⟩
  · dsimp only
    rw [if_neg (by omega), List.size_toArray]
    by_cases hk : i.toNat ≤ its.length
    · rw [Nat.min_eq_left hk]
      simp
      exact List.take_of_length_le (by rw [List.length_drop]; omega)
    · rw [Nat.min_eq_right (by omega), List.take_of_length_le (by omega), List.drop_of_length_le (by omega)]
      simp
  · rw [List.length_append, List.length_cons, List.length_take, List.length_drop]
    omega
end
end L2
namespace L2
open PySem PySem.Spec PyProof.Rows
/-! what the top has written, by parts -/
structure FnT (K : PySem.W.Frag) (x q : Str) (st : Stmt) where
  a : Addr
  d : FuncData
  F : Fun K x q st a d
structure GFn (K : PySem.W.Frag) (mg : Str → Option Value) (x : Str) (st : Stmt) extends FnT K x x st where
  g : mg x = some (.ref a)
structure ClT (K : PySem.W.Frag) (mg : Str → Option Value) (x : Str) (attrs : List Str) (fI : Addr) where
  c : Addr
  cl : Cls K c
  gc : mg x = some (.ref c)
  na : ∀ f, f ∈ attrs → NoAttr K c f
  mk_ : Mk K c fI
end L2

end

section
set_option Elab.async false
set_option linter.all false
set_option maxRecDepth 100000
/-! tags: each address that is written has a role of its own, so two roles are two addresses -/
namespace L2
open PySem PySem.Spec PyProof.Rows
inductive Tag where
  | oth
  | told
  | mut (k i : Nat)
  deriving DecidableEq
abbrev Rg := Addr → Tag
def At (R : Rg) (H : Hp) (a : Addr) (t : Tag) (o : HO) : Prop := R a = t ∧ H a = some o
def setR (R : Rg) (a : Addr) (t : Tag) : Rg := fun b => if b = a then t else R b
theorem setR_same {R : Rg} {a : Addr} {t : Tag} : setR R a t a = t := by unfold setR; rw [if_pos rfl]
theorem setR_ne {R : Rg} {a b : Addr} {t : Tag} (h : b ≠ a) : setR R a t b = R b := by unfold setR; rw [if_neg h]
section
variable {R R' R2 : Rg} {H H' H2 : Hp} {a c : Addr} {t t' : Tag} {o x : HO}
theorem At.ne (h : At R H c t o) (ha : R a = t') (hn : t ≠ t') : c ≠ a := fun e => hn (by rw [← h.1, ← ha, e])
theorem At.put (h : At R H c t o) (ha : R a = t') (hn : t ≠ t') : At R (upd H a x) c t o := ⟨h.1, by rw [upd_ne (h.ne ha hn)]; exact h.2⟩
theorem At.new (h : At R H c t o) (ha : H a = none) : At (setR R a t') (upd H a x) c t o :=
  ⟨by rw [setR_ne (ne_of_none h.2 ha)]; exact h.1, by rw [upd_ne (ne_of_none h.2 ha)]; exact h.2⟩
theorem At.self (h : R a = t) : At R (upd H a x) a t x := ⟨h, upd_same⟩
theorem At.made : At (setR R a t) (upd H a x) a t x := ⟨setR_same, upd_same⟩
/-- what is none of the written parts stays, and stays none -/
def Kp (R : Rg) (H : Hp) (R' : Rg) (H' : Hp) : Prop := ∀ b o, (∀ k i, R b ≠ .mut k i) → H b = some o → H' b = some o ∧ R' b = R b
theorem Kp.refl : Kp R H R H := fun _ _ _ h => ⟨h, rfl⟩
theorem Kp.trans (p : Kp R H R' H') (q : Kp R' H' R2 H2) : Kp R H R2 H2 := fun b o n h => by
  obtain ⟨h1, h2⟩ := p b o n h
  obtain ⟨h3, h4⟩ := q b o (by rw [h2]; exact n) h1
  exact ⟨h3, h4.trans h2⟩
theorem Kp.put {k i : Nat} (ha : R a = .mut k i) : Kp R H R (upd H a x) := fun b o n h => ⟨by rw [upd_ne fun e => n k i (by rw [e]; exact ha)]; exact h, rfl⟩
theorem Kp.new (ha : H a = none) : Kp R H (setR R a t) (upd H a x) := fun b o n h => ⟨by rw [upd_ne (ne_of_none h ha)]; exact h, setR_ne (ne_of_none h ha)⟩
theorem Kp.at_ (p : Kp R H R' H') (h : At R H c t o) (ht : ∀ k i, t ≠ .mut k i) : At R' H' c t o := by
  obtain ⟨h1, h2⟩ := p c o (by rw [h.1]; exact ht) h.2
  exact ⟨h2.trans h.1, h1⟩
theorem Kp.oth (p : Kp R H R' H') (h : At R H c .oth o) : At R' H' c .oth o := p.at_ h fun _ _ e => nomatch e
theorem Kp.told (p : Kp R H R' H') (h : At R H c .told o) : At R' H' c .told o := p.at_ h fun _ _ e => nomatch e
end
end L2

end

section
set_option Elab.async false
set_option linter.all false
set_option maxRecDepth 100000
/-! rules whose readings ask the abstract heap alone: a tracked list is read off H -/
namespace L2
open PySem PySem.Spec PyProof.Rows
section
variable {X : Cx}
theorem call_lenL : CallR X (.builtin "len") (fun xs H Q => ∃ a ys, xs = [V.ref a] ∧ H a = some (.lst ys) ∧ Q (.int (ys.length : Int)) H) := by
  intro pins s σ H xs us Q I r h
  obtain ⟨a, ys, e, ha, q⟩ := h
  exact call_len_seq pins s σ H xs us Q I r ⟨a, ys, e, .inl (SqL.of ha), q⟩
def rIxH : R2 := fun x y H Q => ∃ p xs i v, x = .ref p ∧ y = .int i ∧ H p = some (.lst xs) ∧ atI xs i = some v ∧ Q v H
theorem ix_lst : IxR X rIxH := by
  intro value slice pins s σ H x y v u Q I rx ry h hs
  obtain ⟨p, xs, i, z, e1, e2, hp, ha, q⟩ := h
  exact ix_list value slice pins s σ H x y v u Q I rx ry ⟨p, xs, i, z, e1, e2, SqL.of hp, ha, q⟩ hs
def rIxTH (K : PySem.W.Frag) : R2 := fun x y H Q => ∃ p xs i v, x = .ref p ∧ y = .int i ∧ SqT K H p xs ∧ atI xs i = some v ∧ Q v H
def rSlH : V → Option Int → Option Int → Hp → VK → Prop := fun x lo hi H Q => ∃ a xs, x = .ref a ∧ H a = some (.lst xs) ∧ ∀ p, H p = none → Q (.ref p) (upd H p (.lst (cutV xs lo hi)))
theorem sl_lst : SlR X rSlH := by
  intro pins s σ H x v vl vu lo hi sl Q I rx hs pl pu h
  obtain ⟨a, xs, e, ha, q⟩ := h
  exact sl_list pins s σ H x v vl vu lo hi sl Q I rx hs pl pu ⟨a, xs, e, SqL.of ha, q⟩
/-- a list's truth -/
def tTruL (ta : TE) : TT := fun σ H Q => ta σ H fun x H' => ∃ a xs, x = .ref a ∧ H' a = some (.lst xs) ∧ Q (!xs.isEmpty) H'
theorem PT.imp {e : Expr} {t t' : TT} (h : PT X e t) (hi : ∀ σ H Q, t' σ H Q → t σ H Q) : PT X e t' := fun pins s σ H Q I q => h pins s σ H Q I (hi σ H Q q)
theorem PE.imp {e : Expr} {t t' : TE} (h : PE X e t) (hi : ∀ σ H Q, t' σ H Q → t σ H Q) : PE X e t' := fun pins s σ H Q I q => h pins s σ H Q I (hi σ H Q q)
/-- a reading lets its end be weakened -/
def Mono (t : TE) : Prop := ∀ σ H (Q Q' : VK), (∀ v H', Q v H' → Q' v H') → t σ H Q → t σ H Q'
theorem pt_lst {a : Expr} {ta : TE} (ha : PE X a ta) (he : ∀ whole, isTrue a X.env whole = (do let v ← whole; standAt a.pos; holding [v] (truthy v)) := by intro _; rfl) : PT X a (tTruL ta) := by
  intro pins s σ H Q I h
  refine isTrue_plain (thn (ha pins s σ H _ I h) fun v s1 ⟨x, H1, I1, r1, p, xs, e, hp, q⟩ => ?_) (he _)
  subst e
  exact tru_ok pins s1 σ H1 _ v Q I1 r1 ⟨_, .inl ⟨xs, SqL.of hp, rfl⟩, q⟩
/-- a method of a tracked list -/
def tLM (r : V → List V → Hp → VK → Prop) (to : TE) (t : TA) : TE := fun σ H Q => to σ H fun x H1 => ∃ p xs, x = .ref p ∧ H1 p = some (.lst xs) ∧ t σ H1 fun ys H2 => r x ys H2 Q
theorem pe_lm {o e : Expr} {es : List Expr} {to : TE} {t : TA} {name : Str} {apos cpos : Pos} {id : String} {r : V → List V → Hp → VK → Prop} (slot : Slot "list" name id) (hty : typeOf (.builtin id) = pure (.type "method_descriptor")) (hm : MtM X id r) (ho : PE X o to) (ha : PA X (e :: es) t)
    (hbase : attributeBase o name X.env (eval o X.env) = eval o X.env := by rfl)
    (hfew : ((backTo cpos (starEach (e :: es) X.env)).all (fun x => !x.1) && (backToKw cpos (keywordEach [] X.env)).all (fun x => x.1.isSome)
      && decide ((e :: es).length + ([] : List Keyword).length + (if ([] : List Keyword).isEmpty then 0 else 1) < 30)) = true := by rfl)
    (hline : (apos.endLine == cpos.line) = true := by rfl) (hs : starEach (e :: es) X.env = (false, eval e X.env) :: starEach es X.env := by rfl) (hplain : (backTo cpos (starEach es X.env)).any (·.1) = false := by rfl) :
    PE X (.Call (.Attribute o name apos) (e :: es) [] cpos) (tLM r to t) := by
  intro pins s σ H Q I h
  refine wpAny_Call_method_late hbase hfew hline rfl (thn (ho pins s σ H _ I h) fun v s1 ⟨x, H1, I1, r1, p, xs, e, hp, q1⟩ => ?_)
  have ty : tyV X.K "list" x H1 := by rw [e]; exact .inl ⟨rfl, xs, SqL.of hp⟩
  obtain ⟨h1, h2⟩ := tyV_is I1 r1 ty
  refine ⟨"list", id, PySem.F.plainAttrs_list, slot, hty, h1, h2, ?_⟩
  have hA := ha cpos pins s1 σ H1 _ I1 q1
  rw [hs] at hA ⊢
  refine Calls.callWith_builtin (by show (false || (backTo cpos (starEach es X.env)).any (·.1)) = false; rw [hplain] <;> rfl) (Calls.evalArgs_plain ?_)
  exact thn hA fun us s2 ⟨vs, H2, I2, r2, q2⟩ => hm pins s2 σ H2 x vs v us Q I2 r1 r2 q2
def tLM0 (r : V → List V → Hp → VK → Prop) (to : TE) : TE := fun σ H Q => to σ H fun x H1 => ∃ p xs, x = .ref p ∧ H1 p = some (.lst xs) ∧ r x [] H1 Q
theorem pe_lm0 {o : Expr} {to : TE} {name : Str} {apos cpos : Pos} {id : String} {r : V → List V → Hp → VK → Prop} (slot : Slot "list" name id) (hty : typeOf (.builtin id) = pure (.type "method_descriptor")) (hm : MtM X id r) (ho : PE X o to)
    (hbase : attributeBase o name X.env (eval o X.env) = eval o X.env := by rfl) (hline : (apos.endLine == cpos.line) = true := by rfl) : PE X (.Call (.Attribute o name apos) [] [] cpos) (tLM0 r to) := by
  intro pins s σ H Q I h
  refine wpAny_Call_method0_late hbase hline (thn (ho pins s σ H _ I h) fun v s1 ⟨x, H1, I1, r1, p, xs, e, hp, q1⟩ => ?_)
  have ty : tyV X.K "list" x H1 := by rw [e]; exact .inl ⟨rfl, xs, SqL.of hp⟩
  obtain ⟨h1, h2⟩ := tyV_is I1 r1 ty
  exact ⟨"list", id, PySem.F.plainAttrs_list, slot, hty, h1, h2, Calls.callWith_builtin rfl (PySem.evalArgs_none (hm pins s1 σ H1 x [] v [] Q I1 r1 .nil q1))⟩
/-- tuple(xs) of a tracked list -/
theorem call_tupL : CallR X (.type "tuple") (fun xs H Q => ∃ p ys, xs = [V.ref p] ∧ H p = some (.lst ys) ∧ ∀ l, H l = none → Q (.ref l) (upd H l (.tup ys))) := by
  intro pins s σ H xs us Q I r h
  obtain ⟨p, ys, e, hp, q⟩ := h
  exact call_tuple_of pins s σ H xs us Q I r ⟨p, ys, e, .inl ⟨SqL.of hp, q⟩⟩
end
theorem cxOf_K {CX : CXT} {P : Program} {w : World} {K : PySem.W.Frag} {mg : Str → Option Value} {base : Heap} {N : List Str} {qual : Str} {scope : Scope} {f : Addr} {cd : Value} {A : Around} {outer : List Env} {s : Shared} {H : Hp} {E : XK} :
    (cxOf CX P w K mg base N qual scope f cd A outer s H E).K = K := rfl
theorem scal_int (i j : Int) : scal (.int i) (.int j) = true := rfl
theorem scal_bl (i j : Bool) : scal (.bl i) (.bl j) = true := rfl
end L2

end

section
set_option Elab.async false
set_option linter.all false
set_option maxRecDepth 100000
/-! fields with the fragment told; sum, all, set of a tracked list -/
namespace L2
open PySem PySem.Spec PyProof.Rows
theorem boot_setT : bootBuiltins "set" = some (.type "set") := by decide +kernel
theorem boot_sumB : bootBuiltins "sum" = some (.builtin "sum") := by decide +kernel
theorem boot_allB : bootBuiltins "all" = some (.builtin "all") := by decide +kernel
section
variable {X : Cx}
theorem pe_fldK {K : PySem.W.Frag} {e : Expr} {f : Str} {pos : Pos} {ta : TE} (he : PE X e ta) (hb : attributeBase e f X.env (eval e X.env) = eval e X.env) (hK : X.K = K := by rfl) : PE X (.Attribute e f pos) (tFld K ta f) := by
  subst hK
  exact pe_fld he hb
theorem cr_sumL (hc : X.calm = true) : CallR X (.builtin "sum") (fun vs H Q => ∃ (a : Addr) (ns : List Int), vs = [V.ref a] ∧ H a = some (.lst (ns.map V.int)) ∧ Q (.int ns.sum) H) := by
  intro pins s σ H vs us Q I r h
  obtain ⟨a, ns, e, ha, q⟩ := h
  exact cr_sum hc pins s σ H vs us Q I r ⟨a, ns, e, SqL.of ha, q⟩
theorem cr_allL (hc : X.calm = true) : CallR X (.builtin "all") (fun vs H Q => ∃ (a : Addr) (bs : List Bool), vs = [V.ref a] ∧ H a = some (.lst (bs.map V.bl)) ∧ Q (.bl (bs.all id)) H) := by
  intro pins s σ H vs us Q I r h
  obtain ⟨a, ns, e, ha, q⟩ := h
  exact cr_all hc pins s σ H vs us Q I r ⟨a, ns, e, SqL.of ha, q⟩
theorem dd_len : ∀ (ns acc : List Int), (ns.foldl step_dedup acc).length ≤ acc.length + ns.length ∧ ((ns.foldl step_dedup acc).length = acc.length + ns.length ↔ (ns.Nodup ∧ ∀ x, x ∈ ns → x ∉ acc))
  | [], acc => by simp
  | z :: r, acc => by
    obtain ⟨h1, h2⟩ := dd_len r (step_dedup acc z)
    rw [List.foldl_cons]
    unfold step_dedup at h1 h2 ⊢
    by_cases c : acc.any (· == z) = true
    · rw [if_pos c] at h1 h2 ⊢
      refine ⟨by rw [List.length_cons]; omega, ⟨fun e => ?_, fun ⟨_, e⟩ => ?_⟩⟩
      · rw [List.length_cons] at e; omega
      · obtain ⟨y, hy, e2⟩ := List.any_eq_true.mp c
        have : y = z := eq_of_beq e2
        subst this
        exact absurd hy (e y (List.mem_cons_self ..))
    · rw [if_neg c] at h1 h2 ⊢
      rw [List.length_append, List.length_singleton] at h1 h2
      have nz : z ∉ acc := fun hm => c (List.any_eq_true.mpr ⟨z, hm, beq_self_eq_true z⟩)
      refine ⟨by rw [List.length_cons]; omega, ⟨fun e => ?_, fun ⟨e1, e2⟩ => ?_⟩⟩
      · rw [List.length_cons] at e
        obtain ⟨a, b⟩ := h2.mp (by omega)
        refine ⟨List.nodup_cons.mpr ⟨fun hm => b z hm (List.mem_append_right _ (List.mem_singleton.mpr rfl)), a⟩, fun x hx => ?_⟩
        rcases List.mem_cons.mp hx with e3 | hx
        · rw [e3]; exact nz
        · exact fun hm => b x hx (List.mem_append_left _ hm)
      · obtain ⟨e3, e4⟩ := List.nodup_cons.mp e1
        have := h2.mpr ⟨e4, fun x hx hm => by
          rcases List.mem_append.mp hm with hm | hm
          · exact e2 x (List.mem_cons_of_mem _ hx) hm
          · exact e3 (by rw [← List.mem_singleton.mp hm]; exact hx)⟩
        rw [List.length_cons]; omega
theorem fm_eq (ns : List Int) : firstMet (fun i => ns.getD i 0) ns.length = ns.foldl step_dedup [] := by
  unfold firstMet
  congr 1
  apply List.ext_getElem?
  intro i
  rw [List.getElem?_map]
  by_cases h : i < ns.length
  · rw [List.getElem?_range h, List.getElem?_eq_getElem h]
    simp [List.getD_eq_getElem?_getD, List.getElem?_eq_getElem h]
  · rw [List.getElem?_eq_none (l := ns) (by omega), List.getElem?_eq_none (l := List.range ns.length) (by rw [List.length_range]; omega)]
    rfl
theorem call_setL (hc : X.calm = true) : CallR X (.type "set") (fun xs H Q => ∃ (p : Addr) (ns : List Int), xs = [V.ref p] ∧ H p = some (.lst (ns.map V.int)) ∧ ns.length ≤ 1000 ∧ ∀ l S n, H l = none → n ≤ ns.length → (n = ns.length ↔ ns.Nodup) → Q (.ref l) (upd H l (.set S n))) := by
  intro pins s σ H xs us Q I r h
  obtain ⟨p, ns, rfl, hp, hn, q⟩ := h
  obtain ⟨its, rv, hl, _⟩ := I.list (SqL.of hp)
  rw [Vals.ref1 r]
  have hi := rv.ints
  have hlen : its.length = ns.length := hi.length
  refine PySem.call_set_list (items := its.toArray) (ns := ns) (I.ok.hd hc) hl.isList (by simpa using hi) (by rw [List.size_toArray, hlen]; show ns.length + 1 < 4096; omega) fun h' tk hS hk => ?_
  have e1 : its.toArray.size = ns.length := by rw [List.size_toArray, hlen]
  rw [e1, fm_eq] at hS
  obtain ⟨d1, d2⟩ := dd_len ns []
  refine ⟨.ref s.heap.objs.size, _, I.laid (a := s.heap.objs.size) (o := .set _ _) (fun b u e => hk b u (Heap.lt_size e) e) (Nat.le_refl _) hS, rfl, q _ _ _ (I.hok.fresh (Nat.le_refl _)) ?_ ?_⟩
  · have e2 : ([] : List Int).length = 0 := rfl
    omega
  · have e2 : ([] : List Int).length = 0 := rfl
    rw [e2, Nat.zero_add] at d2
    exact d2.trans ⟨fun z => z.1, fun z => ⟨z, fun _ _ hm => nomatch hm⟩⟩
theorem call_lenS : CallR X (.builtin "len") (fun xs H Q => ∃ p S n, xs = [V.ref p] ∧ H p = some (.set S n) ∧ Q (.int (n : Int)) H) := by
  intro pins s σ H xs us Q I r h
  obtain ⟨p, S, n, rfl, hp, q⟩ := h
  obtain ⟨o, es, ep, t, h1, h2, h3, h4, h5, h6, h7, h8⟩ := (show s.heap.SetOf (intKind X.prog X.w) p S n from I.hok p _ hp)
  rw [Vals.ref1 r]
  have hb : es.size < 4096 := h6
  exact PySem.call_len_set h1 h2 h3 h7 (by omega) ⟨.int (n : Int), H, I.tok _, ⟨_, by rw [h8]⟩, q⟩
end
end L2

end

section
set_option Elab.async false
set_option linter.all false
set_option maxRecDepth 100000
namespace L2
open PySem PySem.Spec PyProof.Rows
theorem cut_to (xs : List V) (i : Nat) : cutV xs none (some (i : Int)) = xs.take i := by
  unfold cutV
  rw [HT.sIx_nat]
  show (xs.drop 0).take (min i xs.length - 0) = _
  rw [List.drop_zero, Nat.sub_zero]
  by_cases h : i ≤ xs.length
  · rw [Nat.min_eq_left h]
  · rw [Nat.min_eq_right (by omega), List.take_length, List.take_of_length_le (by omega)]
theorem cut_from (xs : List V) (i : Nat) : cutV xs (some (i : Int)) none = xs.drop i := by
  unfold cutV
  rw [HT.sIx_nat]
  show (xs.drop (min i xs.length)).take (xs.length - min i xs.length) = _
  by_cases h : i ≤ xs.length
  · rw [Nat.min_eq_left h, List.take_of_length_le (by rw [List.length_drop]; omega)]
  · rw [Nat.min_eq_right (by omega), Nat.sub_self, List.take_zero, List.drop_of_length_le (by omega)]
theorem last_at (l : List V) (v : V) : (l ++ [v])[(l ++ [v]).length - 1]? = some v := by simp
theorem ne_last (l : List V) (v : V) : (l ++ [v]).isEmpty = false := by simp
theorem boot_tupT : bootBuiltins "tuple" = some (.type "tuple") := by decide +kernel
theorem at0 {α : Type} (x : α) (l : List α) : atI (x :: l) 0 = some x := atI_nat (j := 0) rfl
theorem at1 {α : Type} (x y : α) (l : List α) : atI (x :: y :: l) 1 = some y := atI_nat (j := 1) rfl
theorem at2 {α : Type} (x y z : α) (l : List α) : atI (x :: y :: z :: l) 2 = some z := atI_nat (j := 2) rfl
theorem cut1 (x : V) (l : List V) : cutV (x :: l) (some 1) none = l := cut_from (x :: l) 1
theorem cut3 (x y z : V) (l : List V) : cutV (x :: y :: z :: l) (some 3) none = l := cut_from (x :: y :: z :: l) 3
end L2

end

section
set_option Elab.async false
namespace SM

theorem rows_len : ∀ (k : Nat) (r : List Int) (xs : List (List Int)) (t : List Int), PyFlat.rows k r = some (xs, t) → xs.length = k
  | 0, r, xs, t, h => by
    have e : some (([] : List (List Int)), r) = some (xs, t) := h
    cases e
    rfl
  | k + 1, r, xs, t, h => by
    unfold PyFlat.rows at h
    split at h
    · cases h
    · rename_i x s _
      split at h
      · cases h
      · rename_i ys u hr
        cases h
        rw [List.length_cons, rows_len k s ys _ hr]

theorem calls_nil (f : Nat) : PyWide.calls f [] = some [] := by cases f <;> rfl

/-- one turn of reading a line whose calls have no rows -/
theorem calls_step {f : Nat} {l : List Int} {cs : List (List (List Int))} (hne : l ≠ []) (h : PyWide.calls f l = some cs) (h1 : ∀ c, c ∈ cs → c.length = 1) :
    ∃ (p : Int) (ns rest : List Int) (f' : Nat) (cs' : List (List (List Int))), l = p :: (ns.length : Int) :: (ns ++ 0 :: rest) ∧ cs = [p :: ns] :: cs' ∧ PyWide.calls f' rest = some cs' := by
  cases l with
  | nil => exact absurd rfl hne
  | cons p r =>
    cases f with
    | zero => cases h
    | succ f =>
      unfold PyWide.calls at h
      split at h
      · cases h
      · rename_i c t hc
        split at h
        · cases h
        · rename_i cs' hcs
          cases h
          have hl : c.length = 1 := h1 c (List.mem_cons_self ..)
          unfold PyWide.call at hc
          dsimp only at hc
          split at hc
          · cases hc
          · cases hc
          · rename_i ns k u hrow
            split at hc
            · rename_i hk
              split at hc
              · cases hc
              · rename_i xs v hrows
                cases hc
                have e1 := rows_len _ _ _ _ hrows
                have e2 : xs.length = 0 := by
                  have e : xs.length + 1 = 1 := hl
                  omega
                have e3 : xs = [] := List.length_eq_zero_iff.mp e2
                subst e3
                have ek : k = 0 := by
                  have : k.toNat = 0 := by rw [← e1]; rfl
                  omega
                subst ek
                have e4 : some (([] : List (List Int)), u) = some ([], t) := hrows
                cases e4
                cases r with
                | nil => cases hrow
                | cons n r =>
                  have hrow : (if 0 ≤ n ∧ n.toNat ≤ r.length then some (r.take n.toNat, r.drop n.toNat) else none) = some (ns, 0 :: t) := hrow
                  split at hrow
                  · rename_i hn
                    have e5 := Option.some.inj hrow
                    have e6 : r.take n.toNat = ns := congrArg Prod.fst e5
                    have e7 : r.drop n.toNat = 0 :: t := congrArg Prod.snd e5
                    refine ⟨p, ns, t, f, cs', ?_, rfl, hcs⟩
                    have e8 : ns ++ 0 :: t = r := by rw [← e6, ← e7, List.take_append_drop]
                    have e9 : ns.length = n.toNat := by rw [← e6, List.length_take]; omega
                    rw [e8]
                    have e10 : (ns.length : Int) = n := by rw [e9]; omega
                    rw [e10]
                  · cases hrow
            · cases hc

/-- what stands at a place of a line, by what is still to come -/
theorem drop_at {l : List Int} {i : Nat} {p : Int} {ns rest : List Int} (h : l.drop i = p :: (ns.length : Int) :: (ns ++ 0 :: rest)) :
    l[i]? = some p ∧ l[i + 1]? = some (ns.length : Int) ∧ (l.drop (i + 2)).take ns.length = ns ∧ l.drop (i + 2 + ns.length + 1) = rest ∧ i + 2 + ns.length + 1 ≤ l.length := by
  have hl : (l.drop i).length = ns.length + rest.length + 3 := by rw [h]; simp; omega
  rw [List.length_drop] at hl
  have d2 : l.drop (i + 2) = ns ++ 0 :: rest := by
    have : l.drop (i + 2) = (l.drop i).drop 2 := by rw [List.drop_drop]
    rw [this, h]; rfl
  refine ⟨?_, ?_, ?_, ?_, by omega⟩
  · have : (l.drop i)[0]? = some p := by rw [h]; rfl
    rw [List.getElem?_drop] at this
    exact this
  · have : (l.drop i)[1]? = some (ns.length : Int) := by rw [h]; rfl
    rw [List.getElem?_drop] at this
    exact this
  · rw [d2, List.take_left']
    rfl
  · have : l.drop (i + 2 + ns.length + 1) = (l.drop (i + 2)).drop (ns.length + 1) := by rw [List.drop_drop]; congr 1
    rw [this, d2, List.drop_append]
    simp

end SM

end

section
set_option Elab.async false
namespace SM
open Si50

/-- a vote that carried the motion i -/
def Car (votes : List Vote) (i : Nat) : Prop := ∃ v, v ∈ votes ∧ v.id = i ∧ v.carried = true
theorem Car.mono {votes : List Vote} {i : Nat} (h : Car votes i) (v : Vote) : Car (votes ++ [v]) i := by
  obtain ⟨u, h1, h2⟩ := h
  exact ⟨u, List.mem_append_left _ h1, h2⟩
theorem Car.last {votes : List Vote} {v : Vote} (h : v.carried = true) : Car (votes ++ [v]) v.id := ⟨v, by simp, rfl, h⟩

/-- words: not many, moved, by the motion i or by one that was carried -/
structure TOk (mv : List Nat) (votes : List Vote) (i : Nat) (most : Nat) (t : Text) : Prop where
  len : t.length ≤ most
  lt : ∀ x, x ∈ t → x.by_ < mv.length
  car : ∀ x, x ∈ t → x.by_ = i ∨ Car votes x.by_
theorem TOk.mono {mv : List Nat} {votes : List Vote} {i most : Nat} {t : Text} (h : TOk mv votes i most t) {mv' : List Nat} {votes' : List Vote} (h1 : mv.length ≤ mv'.length) (h2 : ∀ i, Car votes i → Car votes' i) : TOk mv' votes' i most t :=
  ⟨h.len, fun x hx => Nat.lt_of_lt_of_le (h.lt x hx) h1, fun x hx => (h.car x hx).imp id (h2 _)⟩
theorem TOk.sub {mv : List Nat} {votes : List Vote} {i most : Nat} {t u : Text} (h : TOk mv votes i most t) (hl : u.length ≤ t.length) (hs : ∀ x, x ∈ u → x ∈ t) : TOk mv votes i most u :=
  ⟨Nat.le_trans hl h.len, fun x hx => h.lt x (hs x hx), fun x hx => h.car x (hs x hx)⟩
theorem tokens_mem {id : Nat} {w : List Nat} {x : Token} (h : x ∈ tokens id w) : x.by_ = id := by
  unfold tokens at h
  obtain ⟨y, _, e⟩ := List.mem_map.mp h
  rw [← e]
theorem tokens_len (id : Nat) (w : List Nat) : (tokens id w).length = w.length := by unfold tokens; rw [List.length_map]
theorem TOk.new {mv : List Nat} {votes : List Vote} {m most : Nat} {w : List Nat} (h : w.length ≤ most) : TOk (mv ++ [m]) votes mv.length most (tokens mv.length w) :=
  ⟨by rw [tokens_len]; exact h, fun x hx => by rw [tokens_mem hx, List.length_append]; simp, fun x hx => .inl (tokens_mem hx)⟩
theorem change_len {t w : Text} {i j : Nat} (h1 : i ≤ j) (h2 : j ≤ t.length) : (change t i j w).length = t.length + w.length - (j - i) := by
  unfold change
  rw [List.length_append, List.length_append, List.length_take, List.length_drop]
  omega
theorem change_mem {t w : Text} {i j : Nat} {x : Token} (h : x ∈ change t i j w) : x ∈ t ∨ x ∈ w := by
  unfold change at h
  rcases List.mem_append.mp h with h | h
  · exact .inl (List.mem_of_mem_take h)
  · rcases List.mem_append.mp h with h | h
    · exact .inr h
    · exact .inl (List.mem_of_mem_drop h)

structure AOk (mv : List Nat) (votes : List Vote) (a : Amend) : Prop where
  own : mv[a.id]? = some a.by_
  tx : TOk mv votes a.id 60 a.words
  ij : a.i ≤ a.j

structure BOk (mv : List Nat) (votes : List Vote) (n : Nat) (b : Before) : Prop where
  own : mv[b.id]? = some b.by_
  tx : TOk mv votes b.id 120 b.text
  fi : ∀ a, b.first = some a → AOk mv votes a ∧ a.j ≤ b.text.length ∧ b.text.length - (a.j - a.i) ≤ 60
  se : ∀ a, b.second = some a → AOk mv votes a ∧ ∃ x, b.first = some x ∧ a.j ≤ x.words.length ∧ x.words.length + a.words.length - (a.j - a.i) ≤ 60
  pr : ∀ x, x ∈ b.procs → mv[x.1]? = some x.2.1
  rk : b.procs.Pairwise fun x y => rank y.2.2 < rank x.2.2
  pn : b.parts.length ≤ n
  pt : ∀ t, t ∈ b.parts → TOk mv votes b.id 120 t

theorem AOk.mono {mv : List Nat} {votes : List Vote} {a : Amend} (h : AOk mv votes a) {mv' : List Nat} {votes' : List Vote} (h1 : ∀ (i m : Nat), mv[i]? = some m → mv'[i]? = some m) (h2 : ∀ i, Car votes i → Car votes' i) (h3 : mv.length ≤ mv'.length) : AOk mv' votes' a :=
  ⟨h1 _ _ h.own, h.tx.mono h3 h2, h.ij⟩
theorem BOk.mono {mv : List Nat} {votes : List Vote} {n : Nat} {b : Before} (h : BOk mv votes n b) {mv' : List Nat} {votes' : List Vote} {n' : Nat} (h1 : ∀ (i m : Nat), mv[i]? = some m → mv'[i]? = some m) (h2 : ∀ i, Car votes i → Car votes' i) (h3 : mv.length ≤ mv'.length) (h4 : n ≤ n') : BOk mv' votes' n' b :=
  ⟨h1 _ _ h.own, h.tx.mono h3 h2, fun a e => ⟨(h.fi a e).1.mono h1 h2 h3, (h.fi a e).2⟩, fun a e => ⟨(h.se a e).1.mono h1 h2 h3, (h.se a e).2⟩, fun x hx => h1 _ _ (h.pr x hx), h.rk, Nat.le_trans h.pn h4, fun t ht => (h.pt t ht).mono h3 h2⟩

/-- the motions that stand with a main motion -/
def ids (b : Before) : List Nat := b.id :: ((b.first.toList.map fun a => a.id) ++ ((b.second.toList.map fun a => a.id) ++ b.procs.map fun x => x.1))
def pend (s : St) : List Before := s.before.toList ++ s.tabled

structure WF (n : Nat) (s : St) : Prop where
  mem : s.members.length ≤ 20
  wt : ∀ m, m ∈ s.members → 1 ≤ m.weight ∧ m.weight ≤ 100
  mv : s.moved.length ≤ 100
  mm : ∀ m, m ∈ s.moved → m < s.members.length
  nd : ((pend s).flatMap ids).Nodup
  bf : ∀ b, b ∈ pend s → BOk s.moved s.votes n b
  tb : ∀ b, b ∈ s.tabled → b.procs = []
  tn : s.tabled.length ≤ n
  pn : s.passed.length ≤ n
  vn : s.votes.length ≤ n
  ps : ∀ t, t ∈ s.passed → t.vote < s.votes.length ∧ t.id < s.moved.length ∧ TOk s.moved s.votes t.id 120 t.text
  vt : ∀ v, v ∈ s.votes → v.id < s.moved.length ∧ v.yes.length ≤ 40

theorem lt_of_at {mv : List Nat} {i m : Nat} (h : mv[i]? = some m) : i < mv.length := (List.getElem?_eq_some_iff.mp h).1
theorem snoc_at {mv : List Nat} {k : Nat} : ∀ (i m : Nat), mv[i]? = some m → (mv ++ [k])[i]? = some m := fun i m h => by
  rw [List.getElem?_append_left (lt_of_at h)]
  exact h
theorem snoc_last {mv : List Nat} {k : Nat} : (mv ++ [k])[mv.length]? = some k := by simp
theorem BOk.ids_lt {mv : List Nat} {votes : List Vote} {n : Nat} {b : Before} (h : BOk mv votes n b) : ∀ i, i ∈ ids b → i < mv.length := by
  intro i hi
  unfold ids at hi
  rcases List.mem_cons.mp hi with e | hi
  · rw [e]; exact lt_of_at h.own
  · rcases List.mem_append.mp hi with hi | hi
    · obtain ⟨a, ha, e⟩ := List.mem_map.mp hi
      rw [← e]; exact lt_of_at (h.fi a (Option.mem_toList.mp ha)).1.own
    · rcases List.mem_append.mp hi with hi | hi
      · obtain ⟨a, ha, e⟩ := List.mem_map.mp hi
        rw [← e]; exact lt_of_at (h.se a (Option.mem_toList.mp ha)).1.own
      · obtain ⟨x, hx, e⟩ := List.mem_map.mp hi
        rw [← e]; exact lt_of_at (h.pr x hx)
theorem WF.lt {n : Nat} {s : St} (h : WF n s) : ∀ i, i ∈ (pend s).flatMap ids → i < s.moved.length := fun i hi => by
  obtain ⟨b, hb, hi⟩ := List.mem_flatMap.mp hi
  exact (h.bf b hb).ids_lt i hi

theorem WF.init : WF 0 init :=
  ⟨by decide, fun m h => (nomatch h), by decide, fun m h => (nomatch h), by decide, fun b h => (nomatch h), fun b h => (nomatch h), by decide, by decide, by decide, fun t h => (nomatch h), fun v h => (nomatch h)⟩
end SM

end

section
set_option Elab.async false
set_option maxHeartbeats 1000000
namespace SM
open Si50

theorem nd_new {l : List Nat} {k : Nat} (h : l.Nodup) (hl : ∀ i, i ∈ l → i < k) : (k :: l).Nodup :=
  List.nodup_cons.mpr ⟨fun m => Nat.lt_irrefl _ (hl k m), h⟩
theorem nd_mid {a b : List Nat} {k : Nat} (h : (a ++ b).Nodup) (hl : ∀ i, i ∈ a ++ b → i < k) : (a ++ k :: b).Nodup :=
  (List.perm_middle.nodup_iff).mpr (nd_new h hl)

theorem WF.more {n : Nat} {s : St} (h : WF n s) : WF (n + 1) s :=
  ⟨h.mem, h.wt, h.mv, h.mm, h.nd, fun b hb => (h.bf b hb).mono (fun _ _ e => e) (fun _ e => e) (Nat.le_refl _) (Nat.le_succ _), h.tb, Nat.le_succ_of_le h.tn, Nat.le_succ_of_le h.pn, Nat.le_succ_of_le h.vn, h.ps, h.vt⟩

theorem pend_some {s : St} {b : Before} (h : s.before = some b) : pend s = b :: s.tabled := by unfold pend; rw [h]; rfl
theorem pend_none {s : St} (h : s.before = none) : pend s = s.tabled := by unfold pend; rw [h]; rfl

/-- what is before the assembly becomes another, no motion is moved -/
theorem WF.put {n : Nat} {s : St} {b b' : Before} (h : WF n s) (hb : s.before = some b) (hs : (ids b').Sublist (ids b)) (ok : BOk s.moved s.votes n b → BOk s.moved s.votes (n + 1) b') : WF (n + 1) { s with before := some b' } := by
  have hp := pend_some hb
  have h0 := h.nd
  have hB := h.bf
  rw [hp] at h0 hB
  rw [List.flatMap_cons] at h0
  have h' := h.more
  refine ⟨h.mem, h.wt, h.mv, h.mm, ?_, ?_, h.tb, h'.tn, h'.pn, h'.vn, h.ps, h.vt⟩
  · show ((b' :: s.tabled).flatMap ids).Nodup
    rw [List.flatMap_cons]
    exact h0.sublist (hs.append (List.Sublist.refl _))
  · intro c hc
    have hc : c ∈ b' :: s.tabled := hc
    rcases List.mem_cons.mp hc with e | hc
    · rw [e]; exact ok (hB b (List.mem_cons_self ..))
    · exact h'.bf c (by rw [hp]; exact List.mem_cons_of_mem _ hc)
/-- nothing is before the assembly any more -/
theorem WF.gone {n : Nat} {s : St} (h : WF n s) : WF (n + 1) { s with before := none } := by
  have h' := h.more
  refine ⟨h.mem, h.wt, h.mv, h.mm, ?_, ?_, h.tb, h'.tn, h'.pn, h'.vn, h.ps, h.vt⟩
  · show (s.tabled.flatMap ids).Nodup
    have h0 := h.nd
    unfold pend at h0
    rw [List.flatMap_append] at h0
    exact h0.sublist (List.sublist_append_right _ _)
  · intro c hc
    have hc : c ∈ s.tabled := hc
    exact h'.bf c (by unfold pend; exact List.mem_append_right _ hc)
/-- a motion is moved and what is before the assembly becomes another -/
theorem WF.moved {n m : Nat} {s : St} {b' : Before} (h : WF n s) (hm : m < s.members.length) (hl : s.moved.length < 100) (hd : (ids b' ++ s.tabled.flatMap ids).Nodup) (ok : BOk (s.moved ++ [m]) s.votes (n + 1) b') :
    WF (n + 1) { newId s m with before := some b' } := by
  have h' := h.more
  have ln : s.moved.length ≤ (s.moved ++ [m]).length := by rw [List.length_append]; omega
  refine ⟨h.mem, h.wt, ?_, ?_, ?_, ?_, h.tb, h'.tn, h'.pn, h'.vn, ?_, ?_⟩
  · show (s.moved ++ [m]).length ≤ 100
    rw [List.length_append, List.length_singleton]; omega
  · intro x hx
    have hx : x ∈ s.moved ++ [m] := hx
    rcases List.mem_append.mp hx with hx | hx
    · exact h.mm x hx
    · rw [List.mem_singleton.mp hx]; exact hm
  · show ((b' :: s.tabled).flatMap ids).Nodup
    rw [List.flatMap_cons]
    exact hd
  · intro c hc
    have hc : c ∈ b' :: s.tabled := hc
    rcases List.mem_cons.mp hc with e | hc
    · rw [e]; exact ok
    · exact (h'.bf c (by unfold pend; exact List.mem_append_right _ hc)).mono snoc_at (fun _ e => e) ln (Nat.le_refl _)
  · intro t ht
    obtain ⟨h1, h2, h3⟩ := h.ps t ht
    exact ⟨h1, Nat.lt_of_lt_of_le h2 ln, h3.mono ln fun _ e => e⟩
  · intro v hv
    exact ⟨Nat.lt_of_lt_of_le (h.vt v hv).1 ln, (h.vt v hv).2⟩

theorem WF.before {n : Nat} {s : St} {b : Before} (h : WF n s) (hb : s.before = some b) : BOk s.moved s.votes n b := h.bf b (by rw [pend_some hb]; exact List.mem_cons_self ..)
theorem WF.nd_with {n : Nat} {s : St} {b : Before} (h : WF n s) (hb : s.before = some b) : (ids b ++ s.tabled.flatMap ids).Nodup ∧ ∀ i, i ∈ ids b ++ s.tabled.flatMap ids → i < s.moved.length := by
  have h0 := h.nd
  have h1 := h.lt
  rw [pend_some hb, List.flatMap_cons] at h0 h1
  exact ⟨h0, h1⟩

theorem mover_wf {n m : Nat} {s : St} {f : St × Ans} (h : WF n s) (k : m < s.members.length → here s m = true → WF (n + 1) f.1) : WF (n + 1) (mover s m f).1 := by
  unfold mover
  split
  · exact h.more
  · split
    · exact h.more
    · rename_i h1 h2
      exact k (by omega) (by cases e : here s m with | true => rfl | false => exact absurd e h2)
theorem on_wf {n : Nat} {s : St} {f : Before → St × Ans} (h : WF n s) (k : ∀ b, s.before = some b → WF (n + 1) (f b).1) : WF (n + 1) (on s f).1 := by
  unfold on
  split
  · exact h.more
  · rename_i b e
    exact k b e

theorem wordsOk_len {w : List Nat} (h : ¬ wordsOk w = false) : w.length ≤ 30 := by
  cases e : wordsOk w with
  | false => exact absurd e h
  | true =>
    unfold wordsOk at e
    rw [Bool.and_eq_true] at e
    exact of_decide_eq_true e.1

/-! ### the calls, one by one -/
theorem wf_member {n : Nat} {s : St} (h : WF n s) (w : Nat) : WF (n + 1) (step s (.member w)).1 := by
  show WF (n + 1) (if w < 1 ∨ 100 < w then (s, ok (-1)) else if MEMBERS ≤ s.members.length then (s, ok (-5)) else ({ s with members := s.members ++ [⟨w, true⟩] }, ok (s.members.length : Int))).1
  split
  · exact h.more
  · split
    · exact h.more
    · rename_i h1 h2
      have h' := h.more
      unfold MEMBERS at h2
      refine ⟨?_, ?_, h.mv, ?_, h.nd, h'.bf, h.tb, h'.tn, h'.pn, h'.vn, h.ps, h.vt⟩
      · show (s.members ++ [_]).length ≤ 20
        rw [List.length_append, List.length_singleton]; omega
      · intro m hm
        have hm : m ∈ s.members ++ [⟨w, true⟩] := hm
        rcases List.mem_append.mp hm with hm | hm
        · exact h.wt m hm
        · rw [List.mem_singleton.mp hm]; show 1 ≤ w ∧ w ≤ 100; omega
      · intro m hm
        show m < (s.members ++ [_]).length
        rw [List.length_append]
        exact Nat.lt_of_lt_of_le (h.mm m hm) (Nat.le_add_right _ _)
theorem wf_comes {n : Nat} {s : St} (h : WF n s) (m : Nat) (b : Bool) : WF (n + 1) (step s (.comes m b)).1 := by
  show WF (n + 1) (match s.members[m]? with
    | none => (s, ok (-2))
    | some x => ({ s with members := s.members.set m { x with here := b } }, ok 0)).1
  split
  · exact h.more
  · rename_i x hx
    have h' := h.more
    refine ⟨?_, ?_, h.mv, ?_, h.nd, h'.bf, h.tb, h'.tn, h'.pn, h'.vn, h.ps, h.vt⟩
    · show (s.members.set m _).length ≤ 20
      rw [List.length_set]; exact h.mem
    · intro y hy
      have hy : y ∈ s.members.set m { x with here := b } := hy
      rcases List.mem_or_eq_of_mem_set hy with hy | hy
      · exact h.wt y hy
      · rw [hy]; exact h.wt x (List.mem_of_getElem? hx)
    · intro y hy
      show y < (s.members.set m _).length
      rw [List.length_set]; exact h.mm y hy
theorem wf_move {n : Nat} {s : St} (h : WF n s) (m : Nat) (w : List Nat) : WF (n + 1) (step s (.move m w)).1 := by
  refine mover_wf h fun hm _ => ?_
  split
  · exact h.more
  · rename_i hw
    split
    · exact h.more
    · rename_i hb
      split
      · exact h.more
      · rename_i hl
        unfold MOTIONS at hl
        have hb : s.before = none := by cases e : s.before with | none => rfl | some b => rw [e] at hb; exact absurd rfl hb
        have h0 := h.nd
        have h1 := h.lt
        rw [pend_none hb] at h0 h1
        have hw30 : w.length ≤ 30 := by
          refine wordsOk_len fun e => hw ?_
          rw [e]; rfl
        refine h.moved hm (by omega) (nd_new h0 h1) ⟨snoc_last, TOk.new (by omega), fun a e => (nomatch e), fun a e => (nomatch e), fun x hx => (nomatch hx), List.Pairwise.nil, Nat.zero_le _, fun t ht => (nomatch ht)⟩
theorem wf_amend {n : Nat} {s : St} (h : WF n s) (m i j : Nat) (w : List Nat) : WF (n + 1) (step s (.amend m i j w)).1 := by
  refine mover_wf h fun hm _ => on_wf h fun b hb => ?_
  dsimp only
  split
  · exact h.more
  · rename_i hw
    have hw := wordsOk_len hw
    split
    · exact h.more
    · rename_i hc
      have hpr : b.procs = [] := by
        cases e : b.procs with
        | nil => rfl
        | cons x r => exact absurd (.inr (.inl (by rw [e]; intro z; cases z))) hc
      have hse : b.second = none := by
        cases e : b.second with
        | none => rfl
        | some x => exact absurd (.inr (.inr (by rw [e]; rfl))) hc
      have B := h.before hb
      obtain ⟨d1, d2⟩ := h.nd_with hb
      have ln : s.moved.length ≤ (s.moved ++ [m]).length := by rw [List.length_append]; omega
      have Bm := B.mono (mv' := s.moved ++ [m]) (votes' := s.votes) (n' := n + 1) snoc_at (fun _ e => e) ln (Nat.le_succ _)
      cases hf : b.first with
      | none =>
        dsimp only
        split
        · exact h.more
        · rename_i hp
          split
          · exact h.more
          · rename_i hl
            unfold MOTIONS WORDS at hl
            refine h.moved hm (by omega) ?_ ?_
            · have e1 : ids b = [b.id] := by unfold ids; rw [hf, hse, hpr]; rfl
              rw [e1] at d1 d2
              have e2 : ids { b with first := some ⟨s.moved.length, m, i, j, tokens s.moved.length w⟩ } = [b.id, s.moved.length] := by unfold ids; dsimp only; rw [hse, hpr]; rfl
              show (ids { b with first := some ⟨s.moved.length, m, i, j, tokens s.moved.length w⟩ } ++ _).Nodup
              rw [e2]
              exact nd_mid (a := [b.id]) d1 d2
            · refine ⟨Bm.own, Bm.tx, fun a e => ?_, fun a e => ?_, Bm.pr, Bm.rk, Bm.pn, Bm.pt⟩
              · cases e
                refine ⟨⟨snoc_last, TOk.new (by omega), by show i ≤ j; omega⟩, ?_, ?_⟩
                · show j ≤ b.text.length; omega
                · show b.text.length - (j - i) ≤ 60; omega
              · have e : b.second = some a := e
                rw [hse] at e; cases e
      | some x =>
        dsimp only
        split
        · exact h.more
        · rename_i hp
          split
          · exact h.more
          · rename_i hl
            unfold MOTIONS WORDS at hl
            refine h.moved hm (by omega) ?_ ?_
            · have e1 : ids b = [b.id, x.id] := by unfold ids; rw [hf, hse, hpr]; rfl
              rw [e1] at d1 d2
              have e2 : ids { b with second := some ⟨s.moved.length, m, i, j, tokens s.moved.length w⟩ } = [b.id, x.id, s.moved.length] := by unfold ids; dsimp only; rw [hf, hpr]; rfl
              show (ids { b with second := some ⟨s.moved.length, m, i, j, tokens s.moved.length w⟩, first := some x } ++ _).Nodup
              rw [← hf, e2]
              exact nd_mid (a := [b.id, x.id]) d1 d2
            · refine ⟨Bm.own, Bm.tx, fun a e => Bm.fi a (hf.trans e), fun a e => ?_, Bm.pr, Bm.rk, Bm.pn, Bm.pt⟩
              cases e
              refine ⟨⟨snoc_last, TOk.new (by omega), by show i ≤ j; omega⟩, x, rfl, ?_, ?_⟩
              · show j ≤ x.words.length; omega
              · show x.words.length + (tokens s.moved.length w).length - (j - i) ≤ 60
                rw [tokens_len]; omega
theorem wf_go {n : Nat} {s : St} (h : WF n s) (m : Nat) (p : Proc) : WF (n + 1) (step s (.go m p)).1 := by
  refine mover_wf h fun hm _ => on_wf h fun b hb => ?_
  split
  · exact h.more
  · rename_i hc
    split
    · exact h.more
    · rename_i hl
      unfold MOTIONS at hl
      have B := h.before hb
      obtain ⟨d1, d2⟩ := h.nd_with hb
      have ln : s.moved.length ≤ (s.moved ++ [m]).length := by rw [List.length_append]; omega
      have Bm := B.mono (mv' := s.moved ++ [m]) (votes' := s.votes) (n' := n + 1) snoc_at (fun _ e => e) ln (Nat.le_succ _)
      refine h.moved hm (by omega) ?_ ?_
      · have e1 : ids b ++ s.tabled.flatMap ids = (b.id :: ((b.first.toList.map fun a => a.id) ++ (b.second.toList.map fun a => a.id))) ++ ((b.procs.map fun x => x.1) ++ s.tabled.flatMap ids) := by unfold ids; simp
        rw [e1] at d1 d2
        have e2 := nd_mid d1 d2
        have e3 : ids { b with procs := (s.moved.length, m, p) :: b.procs } ++ s.tabled.flatMap ids = (b.id :: ((b.first.toList.map fun a => a.id) ++ (b.second.toList.map fun a => a.id))) ++ s.moved.length :: ((b.procs.map fun x => x.1) ++ s.tabled.flatMap ids) := by unfold ids; simp
        rw [e3]; exact e2
      · refine ⟨Bm.own, Bm.tx, Bm.fi, Bm.se, fun x hx => ?_, ?_, Bm.pn, Bm.pt⟩
        · have hx : x ∈ (s.moved.length, m, p) :: b.procs := hx
          rcases List.mem_cons.mp hx with e | hx
          · rw [e]; exact snoc_last
          · exact Bm.pr x hx
        · refine List.Pairwise.cons (fun y hy => ?_) Bm.rk
          refine Nat.lt_of_not_le fun z => hc (.inl ?_)
          exact List.any_eq_true.mpr ⟨y, hy, decide_eq_true z⟩
theorem wf_divide {n : Nat} {s : St} (h : WF n s) (m i : Nat) : WF (n + 1) (step s (.divide m i)).1 := by
  refine mover_wf h fun hm _ => on_wf h fun b hb => ?_
  split
  · exact h.more
  · split
    · exact h.more
    · rename_i ha hi
      have ha : asked b = .main := Classical.not_not.mp ha
      have hf : b.first = none := by
        cases e : b.first with
        | none => rfl
        | some x =>
          unfold asked at ha
          rw [e] at ha
          split at ha
          · cases ha
          · split at ha
            · cases ha
            · cases ha
      refine h.put hb (List.Sublist.refl _) fun B => ⟨B.own, B.tx.sub (List.length_take_le' _ _) fun x hx => List.mem_of_mem_take hx, fun a e => ?_, fun a e => ?_, B.pr, B.rk, ?_, fun t ht => ?_⟩
      · have e : b.first = some a := e
        rw [hf] at e; cases e
      · obtain ⟨_, x, e2, _⟩ := B.se a e
        rw [hf] at e2; cases e2
      · show b.parts.length + 1 ≤ n + 1
        exact Nat.succ_le_succ B.pn
      · have ht : t ∈ b.text.drop i :: b.parts := ht
        rcases List.mem_cons.mp ht with e | ht
        · rw [e]
          exact B.tx.sub (by rw [List.length_drop]; omega) fun x hx => List.mem_of_mem_drop hx
        · exact B.pt t ht
theorem next_ids {b b' : Before} (h : nextPart b = some b') : (ids b').Sublist (ids b) := by
  unfold nextPart at h
  split at h
  · cases h
  · cases h
    unfold ids
    exact List.Sublist.cons_cons _ (List.nil_sublist _)
theorem next_ok {mv : List Nat} {votes : List Vote} {n : Nat} {b b' : Before} (B : BOk mv votes n b) (h : nextPart b = some b') : BOk mv votes n b' := by
  unfold nextPart at h
  split at h
  · cases h
  · rename_i t r e
    cases h
    have hp := B.pt
    have hn := B.pn
    rw [e] at hp hn
    exact ⟨B.own, hp t (List.mem_cons_self ..), fun a z => (nomatch z), fun a z => (nomatch z), fun x z => (nomatch z), List.Pairwise.nil, Nat.le_of_succ_le hn, fun u hu => hp u (List.mem_cons_of_mem _ hu)⟩
theorem wf_next {n : Nat} {s : St} {b : Before} (h : WF n s) (hb : s.before = some b) : WF (n + 1) { s with before := nextPart b } := by
  cases e : nextPart b with
  | none => exact h.gone
  | some b' => exact h.put hb (next_ids e) fun B => (next_ok B e).mono (fun _ _ e => e) (fun _ e => e) (Nat.le_refl _) (Nat.le_succ _)
theorem wf_withdraw {n : Nat} {s : St} (h : WF n s) (m : Nat) : WF (n + 1) (step s (.withdraw m)).1 := by
  refine mover_wf h fun hm _ => on_wf h fun b hb => ?_
  split
  · rename_i x r e
    split
    · exact h.more
    · refine h.put hb ?_ fun B => ?_
      · unfold ids; dsimp only; rw [e]
        refine List.Sublist.cons_cons _ (List.Sublist.append (List.Sublist.refl _) (List.Sublist.append (List.Sublist.refl _) ?_))
        exact List.Sublist.cons _ (List.Sublist.refl _)
      · have h1 := B.pr
        have h2 := B.rk
        rw [e] at h1 h2
        exact ⟨B.own, B.tx, B.fi, B.se, fun y hy => h1 y (List.mem_cons_of_mem _ hy), (List.pairwise_cons.mp h2).2, Nat.le_succ_of_le B.pn, B.pt⟩
  · rename_i e
    split
    · rename_i a _ e2
      split
      · exact h.more
      · refine h.put hb ?_ fun B => ⟨B.own, B.tx, B.fi, fun y hy => (nomatch hy), B.pr, B.rk, Nat.le_succ_of_le B.pn, B.pt⟩
        unfold ids; dsimp only
        refine List.Sublist.cons_cons _ (List.Sublist.append (List.Sublist.refl _) (List.Sublist.append (List.nil_sublist _) (List.Sublist.refl _)))
    · rename_i a e2 e3
      split
      · exact h.more
      · refine h.put hb ?_ fun B => ⟨B.own, B.tx, fun y hy => (nomatch hy), fun y hy => ?_, B.pr, B.rk, Nat.le_succ_of_le B.pn, B.pt⟩
        · unfold ids; dsimp only
          refine List.Sublist.cons_cons _ (List.Sublist.append (List.nil_sublist _) (List.Sublist.refl _))
        · have hy : b.second = some y := hy
          rw [e2] at hy; cases hy
    · split
      · exact h.more
      · exact wf_next h hb
end SM

end

section
set_option Elab.async false
set_option maxHeartbeats 1000000
namespace SM
open Si50

theorem perm_take {l : List Before} : ∀ {k : Nat} {b : Before}, l[k]? = some b → (l.flatMap ids).Perm (ids b ++ (l.eraseIdx k).flatMap ids) := by
  induction l with
  | nil => intro k b h; simp at h
  | cons a r ih =>
    intro k b h
    cases k with
    | zero =>
      have e : a = b := Option.some.inj h
      subst e
      exact List.Perm.refl _
    | succ k =>
      have h' : r[k]? = some b := h
      have p := ih h'
      show (ids a ++ r.flatMap ids).Perm (ids b ++ (ids a ++ (r.eraseIdx k).flatMap ids))
      refine (List.Perm.append_left _ p).trans ?_
      rw [← List.append_assoc, ← List.append_assoc]
      exact List.Perm.append_right _ List.perm_append_comm
theorem mem_erase {l : List Before} {k : Nat} {b : Before} (h : b ∈ l.eraseIdx k) : b ∈ l := List.mem_of_mem_eraseIdx h

theorem wf_take {n : Nat} {s : St} (h : WF n s) (m k : Nat) : WF (n + 1) (step s (.take m k)).1 := by
  refine mover_wf h fun hm _ => ?_
  split
  · exact h.more
  · rename_i b hb
    split
    · exact h.more
    · rename_i hn
      have hn : s.before = none := by cases e : s.before with | none => rfl | some b => rw [e] at hn; exact absurd rfl hn
      have h' := h.more
      have hp := pend_none hn
      have h0 := h.nd
      rw [hp] at h0
      refine ⟨h.mem, h.wt, h.mv, h.mm, ?_, ?_, fun c hc => h.tb c (mem_erase hc), ?_, h'.pn, h'.vn, h.ps, h.vt⟩
      · show (ids b ++ (s.tabled.eraseIdx k).flatMap ids).Nodup
        exact (perm_take hb).nodup_iff.mp h0
      · intro c hc
        have hc : c ∈ b :: s.tabled.eraseIdx k := hc
        refine h'.bf c ?_
        rw [hp]
        rcases List.mem_cons.mp hc with e | hc
        · rw [e]; exact List.mem_of_getElem? hb
        · exact mem_erase hc
      · show (s.tabled.eraseIdx k).length ≤ n + 1
        have e := List.length_eraseIdx_le s.tabled k
        exact Nat.le_succ_of_le (Nat.le_trans e h.tn)

/-- a vote is taken: the list of votes grows -/
theorem WF.voted {n : Nat} {s : St} (h : WF n s) (v : Vote) (hv : v.id < s.moved.length) (hy : v.yes.length ≤ 40) : WF (n + 1) { s with votes := s.votes ++ [v] } := by
  have h' := h.more
  refine ⟨h.mem, h.wt, h.mv, h.mm, h.nd, fun b hb => (h'.bf b hb).mono (fun _ _ e => e) (fun _ e => e.mono v) (Nat.le_refl _) (Nat.le_refl _), h.tb, h'.tn, h'.pn, ?_, ?_, ?_⟩
  · show (s.votes ++ [v]).length ≤ n + 1
    rw [List.length_append, List.length_singleton]
    exact Nat.succ_le_succ h.vn
  · intro t ht
    obtain ⟨h1, h2, h3⟩ := h.ps t ht
    refine ⟨?_, h2, h3.mono (Nat.le_refl _) fun _ e => e.mono v⟩
    show t.vote < (s.votes ++ [v]).length
    rw [List.length_append]
    exact Nat.lt_of_lt_of_le h1 (Nat.le_add_right _ _)
  · intro u hu
    have hu : u ∈ s.votes ++ [v] := hu
    rcases List.mem_append.mp hu with hu | hu
    · exact h.vt u hu
    · rw [List.mem_singleton.mp hu]; exact ⟨hv, hy⟩
/-- a text is passed by the last vote -/
theorem WF.pass {n : Nat} {s : St} (h : WF n s) (t : Passed) (h1 : t.vote < s.votes.length) (h2 : t.id < s.moved.length) (h3 : TOk s.moved s.votes t.id 120 t.text) (hn : s.passed.length < n) : WF n { s with passed := s.passed ++ [t] } := by
  refine ⟨h.mem, h.wt, h.mv, h.mm, h.nd, h.bf, h.tb, h.tn, ?_, h.vn, ?_, h.vt⟩
  · show (s.passed ++ [t]).length ≤ n
    rw [List.length_append, List.length_singleton]; omega
  · intro u hu
    have hu : u ∈ s.passed ++ [t] := hu
    rcases List.mem_append.mp hu with hu | hu
    · exact h.ps u hu
    · rw [List.mem_singleton.mp hu]; exact ⟨h1, h2, h3⟩
theorem idOf_mem {b : Before} : idOf b ∈ ids b := by
  unfold idOf ids
  split
  · rename_i x r e
    rw [e]; simp
  · split
    · rename_i a e
      rw [e]; simp
    · split
      · rename_i a e
        rw [e]; simp
      · simp
/-- the questions by their parts -/
theorem asked_cases (b : Before) : (∃ x r, b.procs = x :: r ∧ asked b = .proc x.2.2 ∧ idOf b = x.1) ∨ (b.procs = [] ∧ ∃ a, b.second = some a ∧ asked b = .second ∧ idOf b = a.id) ∨
    (b.procs = [] ∧ b.second = none ∧ ∃ a, b.first = some a ∧ asked b = .first ∧ idOf b = a.id) ∨ (b.procs = [] ∧ b.second = none ∧ b.first = none ∧ asked b = .main ∧ idOf b = b.id) := by
  unfold asked idOf
  cases h1 : b.procs with
  | cons x r => exact .inl ⟨x, r, rfl, rfl, rfl⟩
  | nil =>
    cases h2 : b.second with
    | some a => exact .inr (.inl ⟨rfl, a, rfl, rfl, rfl⟩)
    | none =>
      cases h3 : b.first with
      | some a => exact .inr (.inr (.inl ⟨rfl, rfl, a, rfl, rfl, rfl⟩))
      | none => exact .inr (.inr (.inr ⟨rfl, rfl, rfl, rfl, rfl⟩))
theorem sub_drop {b : Before} {x : Nat × Nat × Proc} {r : List (Nat × Nat × Proc)} (e : b.procs = x :: r) (c : Bool) : (ids { b with procs := r, closed := c }).Sublist (ids b) := by
  unfold ids; dsimp only; rw [e]
  refine List.Sublist.cons_cons _ (List.Sublist.append (List.Sublist.refl _) (List.Sublist.append (List.Sublist.refl _) ?_))
  exact List.Sublist.cons _ (List.Sublist.refl _)
theorem sub_none (b : Before) : (ids { b with procs := [] }).Sublist (ids b) := by
  unfold ids; dsimp only
  exact List.Sublist.cons_cons _ (List.Sublist.append (List.Sublist.refl _) (List.Sublist.append (List.Sublist.refl _) (List.nil_sublist _)))
theorem ok_drop {mv : List Nat} {votes : List Vote} {n : Nat} {b : Before} {x : Nat × Nat × Proc} {r : List (Nat × Nat × Proc)} (B : BOk mv votes n b) (e : b.procs = x :: r) (c : Bool) : BOk mv votes n { b with procs := r, closed := c } := by
  have h1 := B.pr
  have h2 := B.rk
  rw [e] at h1 h2
  exact ⟨B.own, B.tx, B.fi, B.se, fun y hy => h1 y (List.mem_cons_of_mem _ hy), (List.pairwise_cons.mp h2).2, B.pn, B.pt⟩
theorem ok_none {mv : List Nat} {votes : List Vote} {n : Nat} {b : Before} (B : BOk mv votes n b) : BOk mv votes n { b with procs := [] } :=
  ⟨B.own, B.tx, B.fi, B.se, fun y hy => (nomatch hy), List.Pairwise.nil, B.pn, B.pt⟩

/-- put, gone, next without a further call counted -/
theorem WF.put0 {n : Nat} {s : St} {b b' : Before} (h : WF n s) (hb : s.before = some b) (hs : (ids b').Sublist (ids b)) (ok : BOk s.moved s.votes n b') : WF n { s with before := some b' } := by
  have hp := pend_some hb
  have h0 := h.nd
  have hB := h.bf
  rw [hp] at h0 hB
  rw [List.flatMap_cons] at h0
  refine ⟨h.mem, h.wt, h.mv, h.mm, ?_, ?_, h.tb, h.tn, h.pn, h.vn, h.ps, h.vt⟩
  · show ((b' :: s.tabled).flatMap ids).Nodup
    rw [List.flatMap_cons]
    exact h0.sublist (hs.append (List.Sublist.refl _))
  · intro c hc
    have hc : c ∈ b' :: s.tabled := hc
    rcases List.mem_cons.mp hc with e | hc
    · rw [e]; exact ok
    · exact hB c (List.mem_cons_of_mem _ hc)
theorem WF.gone0 {n : Nat} {s : St} {r : List Before} (h : WF n s) : WF n { s with before := none, referred := r } := by
  refine ⟨h.mem, h.wt, h.mv, h.mm, ?_, ?_, h.tb, h.tn, h.pn, h.vn, h.ps, h.vt⟩
  · show (s.tabled.flatMap ids).Nodup
    have h0 := h.nd
    unfold pend at h0
    rw [List.flatMap_append] at h0
    exact h0.sublist (List.sublist_append_right _ _)
  · intro c hc
    have hc : c ∈ s.tabled := hc
    exact h.bf c (by unfold pend; exact List.mem_append_right _ hc)
theorem WF.off0 {n : Nat} {s : St} {b c : Before} (h : WF n s) (hb : s.before = some b) (hs : (ids c).Sublist (ids b)) (ok : BOk s.moved s.votes n c) (hc : c.procs = []) (hn : s.tabled.length < n) : WF n { s with before := none, tabled := s.tabled ++ [c] } := by
  have hp := pend_some hb
  have h0 := h.nd
  have hB := h.bf
  rw [hp] at h0 hB
  rw [List.flatMap_cons] at h0
  refine ⟨h.mem, h.wt, h.mv, h.mm, ?_, ?_, ?_, ?_, h.pn, h.vn, h.ps, h.vt⟩
  · show ((s.tabled ++ [c]).flatMap ids).Nodup
    rw [List.flatMap_append]
    have e : [c].flatMap ids = ids c := by simp
    rw [e]
    exact (List.perm_append_comm.nodup_iff).mp (h0.sublist (hs.append (List.Sublist.refl _)))
  · intro d hd
    have hd : d ∈ s.tabled ++ [c] := hd
    rcases List.mem_append.mp hd with hd | hd
    · exact hB d (List.mem_cons_of_mem _ hd)
    · rw [List.mem_singleton.mp hd]; exact ok
  · intro d hd
    have hd : d ∈ s.tabled ++ [c] := hd
    rcases List.mem_append.mp hd with hd | hd
    · exact h.tb d hd
    · rw [List.mem_singleton.mp hd]; exact hc
  · show (s.tabled ++ [c]).length ≤ n
    rw [List.length_append, List.length_singleton]; omega

theorem change_ok {mv : List Nat} {votes : List Vote} {k : Nat} {t w : Text} {i j most most' c : Nat} (T : TOk mv votes k most t) (W : TOk mv votes c most' w) (hc : Car votes c) {m : Nat} (hl : (change t i j w).length ≤ m) : TOk mv votes k m (change t i j w) :=
  ⟨hl, fun x hx => (change_mem hx).elim (T.lt x) (W.lt x), fun x hx => (change_mem hx).elim (T.car x) fun hw => .inr ((W.car x hw).elim (fun e => by rw [e]; exact hc) id)⟩

/-- what a vote does keeps the state well: decide_ on the state to which the vote is added already -/
theorem wf_decide {n : Nat} {s : St} {b : Before} {won : Bool} (y : List Nat) (no : List Nat) (h : WF n s) (hb : s.before = some b) (hy : y.length ≤ 40) :
    WF (n + 1) { decide_ s b won with votes := s.votes ++ [⟨asked b, idOf b, y, no, won⟩] } := by
  have hid : idOf b < s.moved.length := (h.before hb).ids_lt _ idOf_mem
  have V := h.voted ⟨asked b, idOf b, y, no, won⟩ hid hy
  have hb' : ({ s with votes := s.votes ++ [⟨asked b, idOf b, y, no, won⟩] } : St).before = some b := hb
  have B := V.before hb'
  have hn1 : s.tabled.length < n + 1 := Nat.lt_succ_of_le h.tn
  have hn2 : s.passed.length < n + 1 := Nat.lt_succ_of_le h.pn
  rcases asked_cases b with ⟨x, r, e1, e2, e3⟩ | ⟨e1, a, e2, e3, e4⟩ | ⟨e1, e2, a, e3, e4, e5⟩ | ⟨e1, e2, e3, e4, e5⟩
  · have ed : b.procs.drop 1 = r := by rw [e1]; rfl
    have sd := sub_drop e1
    have od := fun c => ok_drop B e1 c
    cases won with
    | false =>
      have e : decide_ s b false = { s with before := some { b with procs := r } } := by unfold decide_; rw [e2]; dsimp only; rw [if_pos rfl, ed]
      rw [e]
      exact V.put0 hb' (sd b.closed) (od b.closed)
    | true =>
      cases hp : x.2.2 with
      | refer =>
        have e : decide_ s b true = { s with before := none, referred := s.referred ++ [{ b with procs := [] }] } := by unfold decide_; rw [e2, hp]; rfl
        rw [e]
        exact V.gone0
      | close =>
        have e : decide_ s b true = { s with before := some { b with procs := r, closed := true } } := by unfold decide_; rw [e2, hp, ← ed]; rfl
        rw [e]
        exact V.put0 hb' (sd true) (od true)
      | table =>
        have e : decide_ s b true = { s with before := none, tabled := s.tabled ++ [{ b with procs := [] }] } := by unfold decide_; rw [e2, hp]; rfl
        rw [e]
        exact V.off0 hb' (sub_none b) (ok_none B) rfl hn1
  · obtain ⟨A, x, f1, f2, f3⟩ := B.se a e2
    obtain ⟨X, g2, g3⟩ := B.fi x f1
    have e : decide_ s b won = { s with before := some { b with second := none, first := some (if won = true then { x with words := change x.words a.i a.j a.words } else x) } } := by unfold decide_; rw [e3, f1, e2]
    rw [e]
    refine V.put0 hb' ?_ ⟨B.own, B.tx, fun z hz => ?_, fun z hz => (nomatch hz), B.pr, B.rk, B.pn, B.pt⟩
    · unfold ids; dsimp only; rw [f1, e2]
      refine List.Sublist.cons_cons _ (List.Sublist.append ?_ (List.Sublist.append (List.nil_sublist _) (List.Sublist.refl _)))
      cases won <;> exact List.Sublist.refl _
    · cases won with
      | false => cases hz; exact ⟨X, g2, g3⟩
      | true =>
        cases hz
        refine ⟨⟨X.own, ?_, X.ij⟩, g2, g3⟩
        refine change_ok X.tx A.tx ?_ ?_
        · have c : Car (s.votes ++ [⟨asked b, idOf b, y, no, true⟩]) (⟨asked b, idOf b, y, no, true⟩ : Vote).id := Car.last rfl
          rw [← e4]; exact c
        · rw [change_len A.ij f2]; omega
  · obtain ⟨A, f2, f3⟩ := B.fi a e3
    have e : decide_ s b won = { s with before := some { b with first := none, text := if won = true then change b.text a.i a.j a.words else b.text } } := by unfold decide_; rw [e4, e3]
    rw [e]
    refine V.put0 hb' ?_ ⟨B.own, ?_, fun z hz => (nomatch hz), fun z hz => ?_, B.pr, B.rk, B.pn, B.pt⟩
    · unfold ids; dsimp only
      exact List.Sublist.cons_cons _ (List.Sublist.append (List.nil_sublist _) (List.Sublist.refl _))
    · cases won with
      | false => exact B.tx
      | true =>
        refine change_ok B.tx A.tx ?_ ?_
        · have c : Car (s.votes ++ [⟨asked b, idOf b, y, no, true⟩]) (⟨asked b, idOf b, y, no, true⟩ : Vote).id := Car.last rfl
          rw [← e5]; exact c
        · rw [change_len A.ij f2]
          have := A.tx.len
          omega
    · have hz : b.second = some z := hz
      rw [e2] at hz; cases hz
  · have e : decide_ s b won = { s with before := nextPart b, passed := if won = true then s.passed ++ [⟨b.text, b.id, s.votes.length⟩] else s.passed } := by unfold decide_; rw [e4]
    rw [e]
    have N : WF (n + 1) { s with before := nextPart b, votes := s.votes ++ [⟨asked b, idOf b, y, no, won⟩] } := by
      cases q : nextPart b with
      | none =>
        have z := V.gone0 (r := s.referred)
        exact z
      | some b' => exact V.put0 hb' (next_ids q) (next_ok B q)
    cases won with
    | false => exact N
    | true =>
      refine N.pass ⟨b.text, b.id, s.votes.length⟩ ?_ ?_ B.tx hn2
      · show s.votes.length < (s.votes ++ [_]).length
        rw [List.length_append, List.length_singleton]; omega
      · exact lt_of_at B.own
theorem wf_vote {n : Nat} {s : St} (h : WF n s) (y no : List Nat) (c : Nat) (hy : y.length ≤ 40) : WF (n + 1) (step s (.vote y no c)).1 := by
  refine on_wf h fun b hb => ?_
  split
  · exact h.more
  · split
    · exact h.more
    · split
      · exact h.more
      · split
        · exact h.more
        · exact wf_decide y no h hb hy
/-- every call keeps the state well -/
theorem wf_step {n : Nat} {s : St} (h : WF n s) (c : Call) (hy : ∀ y no k, c = .vote y no k → y.length ≤ 40) : WF (n + 1) (step s c).1 := by
  cases c with
  | begins r =>
    have i := WF.init
    exact ⟨i.mem, i.wt, i.mv, i.mm, i.nd, fun b hb => (nomatch hb), i.tb, Nat.zero_le _, Nat.zero_le _, Nat.zero_le _, i.ps, i.vt⟩
  | member w => exact wf_member h w
  | comes m b => exact wf_comes h m b
  | move m w => exact wf_move h m w
  | amend m i j w => exact wf_amend h m i j w
  | go m p => exact wf_go h m p
  | divide m i => exact wf_divide h m i
  | withdraw m => exact wf_withdraw h m
  | take m k => exact wf_take h m k
  | vote y no k => exact wf_vote h y no k (hy y no k rfl)
  | asked => exact h.more
  | text => exact h.more
  | passed k => exact h.more
  | who k i => exact h.more
  | votes => exact h.more
end SM

end

section
set_option Elab.async false
namespace SM
open Si50

/-- a line in the midst: at that place, in that state, these answers told, so many calls done -/
structure Lp (l : List Int) (place : Nat) (s : St) (out : List Int) (n : Nat) : Prop where
  ex : ∃ (f : Nat) (cs : List (List (List Int))) (m : Nat), PyWide.calls f (l.drop place) = some cs ∧ (∀ c, c ∈ cs → Si50Neutral.asked1 c = true) ∧ cs.length + n ≤ 100 ∧
    Si50Neutral.short s m cs = true ∧ out.length + m = 999999 + n ∧ out ++ PyFlat.told (PyFlat.played Si50Neutral.step s cs) = PySi50.answers l
  wf : WF n s

theorem Lp.start {l : List Int} (h : PySi50.answers_asked l = true) : Lp l 0 init [] 0 := by
  unfold PySi50.answers_asked at h
  split at h
  · cases h
  · rename_i cs hc
    rw [Bool.and_eq_true] at h
    obtain ⟨_, h⟩ := h
    unfold Si50Neutral.asked at h
    rw [Bool.and_eq_true, Bool.and_eq_true, Bool.and_eq_true] at h
    obtain ⟨h1, h2, h3, h4⟩ := h
    refine ⟨⟨l.length, cs, 999999, hc, fun c m => List.all_eq_true.mp h1 c m, of_decide_eq_true h3, h4, rfl, ?_⟩, WF.init⟩
    unfold PySi50.answers
    rw [hc]
    rfl
theorem Lp.done {l : List Int} {place n : Nat} {s : St} {out : List Int} (h : Lp l place s out n) (hp : l.length ≤ place) : out = PySi50.answers l := by
  obtain ⟨f, cs, m, h1, _, _, _, _, h6⟩ := h.ex
  rw [List.drop_of_length_le hp, calls_nil] at h1
  have e : ([] : List (List (List Int))) = cs := Option.some.inj h1
  subst e
  have e2 : PyFlat.told (PyFlat.played Si50Neutral.step s []) = [] := rfl
  rw [e2, List.append_nil] at h6
  exact h6
theorem asked1_len {c : List (List Int)} (h : Si50Neutral.asked1 c = true) : c.length = 1 := by
  unfold Si50Neutral.asked1 at h
  rw [Bool.and_eq_true] at h
  exact eq_of_beq h.1
theorem vote_len {l : List Int} {y no : List Nat} {k : Nat} (h : Si50Neutral.callOf l = some (.vote y no k)) : y.length ≤ 40 := by
  unfold Si50Neutral.callOf at h
  split at h
  all_goals first
    | (cases h; done)
    | skip
  · rename_i q a b c d e _
    cases e1 : Si50Neutral.majorOf a with
    | none => rw [e1] at h; cases h
    | some v =>
      rw [e1] at h
      cases e2 : Si50Neutral.majorOf b with
      | none => rw [e2] at h; cases h
      | some v2 =>
        rw [e2] at h
        cases e3 : Si50Neutral.majorOf c with
        | none => rw [e3] at h; cases h
        | some v3 =>
          rw [e3] at h
          cases e4 : Si50Neutral.majorOf d with
          | none => rw [e4] at h; cases h
          | some v4 =>
            rw [e4] at h
            cases e5 : Si50Neutral.majorOf e with
            | none => rw [e5] at h; cases h
            | some v5 => rw [e5] at h; cases h
  · split at h <;> cases h
  · split at h <;> cases h
  · split at h <;> cases h
  · rename_i p _
    cases e1 : Si50Neutral.procOf p with
    | none => rw [e1] at h; cases h
    | some v => rw [e1] at h; cases h
  · split at h
    · rename_i hh
      cases h
      rw [List.length_take]
      omega
    · cases h

theorem Lp.turn {l : List Int} {place n : Nat} {s : St} {out : List Int} (h : Lp l place s out n) (hp : place < l.length) :
    ∃ (p : Int) (ns : List Int) (q : Call), l[place]? = some p ∧ l[place + 1]? = some (ns.length : Int) ∧ (l.drop (place + 2)).take ns.length = ns ∧ place + 2 + ns.length + 1 ≤ l.length ∧
      Si50Neutral.callOf (p :: ns) = some q ∧ (∀ z, z ∈ p :: ns → 0 ≤ z ∧ z < 4294967296) ∧ n < 100 ∧ out.length + (step s q).2.l.length ≤ 1000099 ∧
      Lp l (place + 2 + ns.length + 1) (step s q).1 (out ++ (((step s q).2.l.length + 1 : Nat) : Int) :: (step s q).2.v :: (step s q).2.l) (n + 1) := by
  obtain ⟨f, cs, m, h1, h2, h3, h4, h5, h6⟩ := h.ex
  have hne : l.drop place ≠ [] := by
    intro e
    have e2 := congrArg List.length e
    rw [List.length_drop] at e2
    have e3 : l.length - place = 0 := e2
    omega
  obtain ⟨p, ns, rest, f', cs', g1, g2, g3⟩ := calls_step hne h1 fun c hc => asked1_len (h2 c hc)
  obtain ⟨d1, d2, d3, d4, d5⟩ := drop_at g1
  subst g2
  have ha := h2 [p :: ns] (List.mem_cons_self ..)
  unfold Si50Neutral.asked1 at ha
  rw [Bool.and_eq_true, Bool.and_eq_true] at ha
  obtain ⟨_, ha1, ha2⟩ := ha
  have ha2 : (Si50Neutral.callOf (p :: ns)).isSome = true := ha2
  have ha1 : (p :: ns).all (fun z => Si50Neutral.natural z 32) = true := ha1
  obtain ⟨q, hq⟩ := Option.isSome_iff_exists.mp ha2
  have hst : Si50Neutral.step s [p :: ns] = ((step s q).1, (step s q).2.v :: (step s q).2.l) := by
    unfold Si50Neutral.step
    show (match Si50Neutral.callOf (p :: ns) with | none => (s, []) | some q => ((Si50.step s q).1, (Si50.step s q).2.v :: (Si50.step s q).2.l)) = _
    rw [hq]
  have h4 : (decide ((Si50Neutral.step s [p :: ns]).2.length ≤ m) && Si50Neutral.short (Si50Neutral.step s [p :: ns]).1 (m - (Si50Neutral.step s [p :: ns]).2.length) cs') = true := h4
  rw [hst, Bool.and_eq_true] at h4
  obtain ⟨k1, k2⟩ := h4
  have k1 : (step s q).2.l.length + 1 ≤ m := of_decide_eq_true k1
  have h3 : cs'.length + 1 + n ≤ 100 := h3
  refine ⟨p, ns, q, d1, d2, d3, d5, hq, fun z hz => ?_, by omega, by omega, ⟨f', cs', m - ((step s q).2.l.length + 1), ?_, fun c hc => h2 c (List.mem_cons_of_mem _ hc), by omega, k2, ?_, ?_⟩, wf_step h.wf q fun y no k e => ?_⟩
  · have := List.all_eq_true.mp ha1 z hz
    unfold Si50Neutral.natural at this
    rw [Bool.and_eq_true] at this
    exact ⟨of_decide_eq_true this.1, of_decide_eq_true this.2⟩
  · rw [d4]; exact g3
  · rw [List.length_append, List.length_cons, List.length_cons]
    omega
  · rw [← h6]
    have e : PyFlat.played Si50Neutral.step s ([p :: ns] :: cs') = (Si50Neutral.step s [p :: ns]).2 :: PyFlat.played Si50Neutral.step (Si50Neutral.step s [p :: ns]).1 cs' := rfl
    rw [e, hst]
    unfold PyFlat.told
    rw [List.flatMap_cons, List.append_assoc]
    rfl
  · rw [e] at hq
    exact vote_len hq
end SM

end

section
set_option Elab.async false
namespace SM
open Si50
theorem map1 {ns : List Int} {a : Nat} (h : ns.map Int.toNat = [a]) : ∃ x, ns = [x] ∧ a = x.toNat := by
  match ns, h with
  | [x], h => exact ⟨x, rfl, by cases h; rfl⟩
theorem map2 {ns : List Int} {a b : Nat} (h : ns.map Int.toNat = [a, b]) : ∃ x y, ns = [x, y] ∧ a = x.toNat ∧ b = y.toNat := by
  match ns, h with
  | [x, y], h => exact ⟨x, y, rfl, by cases h; exact ⟨rfl, rfl⟩⟩
theorem map0 {ns : List Int} (h : ns.map Int.toNat = []) : ns = [] := by
  match ns, h with
  | [], _ => rfl
theorem map6 {ns : List Int} {a b c d e f : Nat} (h : ns.map Int.toNat = [a, b, c, d, e, f]) : ∃ u v w x y z, ns = [u, v, w, x, y, z] ∧ a = u.toNat ∧ b = v.toNat ∧ c = w.toNat ∧ d = x.toNat ∧ e = y.toNat ∧ f = z.toNat := by
  match ns, h with
  | [u, v, w, x, y, z], h => exact ⟨u, v, w, x, y, z, rfl, by cases h; exact ⟨rfl, rfl, rfl, rfl, rfl, rfl⟩⟩
theorem mapc {ns : List Int} {a : Nat} {r : List Nat} (h : ns.map Int.toNat = a :: r) : ∃ x ys, ns = x :: ys ∧ a = x.toNat ∧ r = ys.map Int.toNat := by
  match ns, h with
  | x :: ys, h => exact ⟨x, ys, rfl, by cases h; exact ⟨rfl, rfl⟩⟩
/-- a call by its number and its numbers -/
inductive Is : Int → List Int → Call → Prop
  | begins {u v w x y z : Int} {a b c d e : Major} : Si50Neutral.majorOf v.toNat = some a → Si50Neutral.majorOf w.toNat = some b → Si50Neutral.majorOf x.toNat = some c → Si50Neutral.majorOf y.toNat = some d → Si50Neutral.majorOf z.toNat = some e →
      Is 0 [u, v, w, x, y, z] (.begins ⟨u.toNat, a, b, c, d, e⟩)
  | member {x : Int} : Is 1 [x] (.member x.toNat)
  | comes {x y : Int} : y.toNat ≤ 1 → Is 2 [x, y] (.comes x.toNat (y.toNat == 1))
  | move {x : Int} {ys : List Int} : ys.length ≤ 40 → Is 3 (x :: ys) (.move x.toNat (ys.map Int.toNat))
  | amend {x i j : Int} {ys : List Int} : ys.length ≤ 40 → Is 4 (x :: i :: j :: ys) (.amend x.toNat i.toNat j.toNat (ys.map Int.toNat))
  | go {x y : Int} {p : Proc} : Si50Neutral.procOf y.toNat = some p → Is 5 [x, y] (.go x.toNat p)
  | divide {x y : Int} : Is 6 [x, y] (.divide x.toNat y.toNat)
  | withdraw {x : Int} : Is 7 [x] (.withdraw x.toNat)
  | take {x y : Int} : Is 8 [x, y] (.take x.toNat y.toNat)
  | vote {c n : Int} {ys : List Int} : n.toNat ≤ ys.length → ys.length ≤ 40 → Is 9 (c :: n :: ys) (.vote ((ys.take n.toNat).map Int.toNat) ((ys.drop n.toNat).map Int.toNat) c.toNat)
  | asked : Is 10 [] .asked
  | text : Is 11 [] .text
  | passed {x : Int} : Is 12 [x] (.passed x.toNat)
  | who {x y : Int} : Is 13 [x, y] (.who x.toNat y.toNat)
  | votes : Is 14 [] .votes
theorem is_of {p : Int} {ns : List Int} {q : Call} (h : Si50Neutral.callOf (p :: ns) = some q) (hp : 0 ≤ p) : Is p ns q := by
  unfold Si50Neutral.callOf at h
  rw [List.map_cons] at h
  have fix : ∀ k : Nat, p.toNat = k → p = (k : Int) := fun k e => by omega
  split at h
  all_goals rename_i e
  · injection e with e1 e2
    obtain ⟨u, v, w, x, y, z, rfl, rfl, rfl, rfl, rfl, rfl, rfl⟩ := map6 e2
    rw [fix _ e1]
    cases g1 : Si50Neutral.majorOf v.toNat with
    | none => rw [g1] at h; cases h
    | some a =>
      rw [g1] at h
      cases g2 : Si50Neutral.majorOf w.toNat with
      | none => rw [g2] at h; cases h
      | some b =>
        rw [g2] at h
        cases g3 : Si50Neutral.majorOf x.toNat with
        | none => rw [g3] at h; cases h
        | some c =>
          rw [g3] at h
          cases g4 : Si50Neutral.majorOf y.toNat with
          | none => rw [g4] at h; cases h
          | some d =>
            rw [g4] at h
            cases g5 : Si50Neutral.majorOf z.toNat with
            | none => rw [g5] at h; cases h
            | some f => rw [g5] at h; cases h; exact .begins g1 g2 g3 g4 g5
  · injection e with e1 e2
    obtain ⟨x, rfl, rfl⟩ := map1 e2
    rw [fix _ e1]; cases h; exact .member
  · injection e with e1 e2
    obtain ⟨x, y, rfl, rfl, rfl⟩ := map2 e2
    rw [fix _ e1]
    split at h
    · rename_i hb; cases h; exact .comes hb
    · cases h
  · injection e with e1 e2
    obtain ⟨x, ys, rfl, rfl, rfl⟩ := mapc e2
    rw [fix _ e1]
    split at h
    · rename_i hb; cases h; rw [List.length_map] at hb; exact .move hb
    · cases h
  · injection e with e1 e2
    obtain ⟨x, ys, rfl, rfl, e3⟩ := mapc e2
    obtain ⟨i, ys, rfl, rfl, e4⟩ := mapc e3.symm
    obtain ⟨j, ys, rfl, rfl, rfl⟩ := mapc e4.symm
    rw [fix _ e1]
    split at h
    · rename_i hb; cases h; rw [List.length_map] at hb; exact .amend hb
    · cases h
  · injection e with e1 e2
    obtain ⟨x, y, rfl, rfl, rfl⟩ := map2 e2
    rw [fix _ e1]
    cases g1 : Si50Neutral.procOf y.toNat with
    | none => rw [g1] at h; cases h
    | some a => rw [g1] at h; cases h; exact .go g1
  · injection e with e1 e2
    obtain ⟨x, y, rfl, rfl, rfl⟩ := map2 e2
    rw [fix _ e1]; cases h; exact .divide
  · injection e with e1 e2
    obtain ⟨x, rfl, rfl⟩ := map1 e2
    rw [fix _ e1]; cases h; exact .withdraw
  · injection e with e1 e2
    obtain ⟨x, y, rfl, rfl, rfl⟩ := map2 e2
    rw [fix _ e1]; cases h; exact .take
  · injection e with e1 e2
    obtain ⟨x, ys, rfl, rfl, e3⟩ := mapc e2
    obtain ⟨i, ys, rfl, rfl, rfl⟩ := mapc e3.symm
    rw [fix _ e1]
    split at h
    · rename_i hb
      cases h
      rw [List.length_map] at hb
      rw [← List.map_take, ← List.map_drop]
      exact .vote hb.1 hb.2
    · cases h
  · injection e with e1 e2
    rw [fix _ e1, map0 e2]; cases h; exact .asked
  · injection e with e1 e2
    rw [fix _ e1, map0 e2]; cases h; exact .text
  · injection e with e1 e2
    obtain ⟨x, rfl, rfl⟩ := map1 e2
    rw [fix _ e1]; cases h; exact .passed
  · injection e with e1 e2
    obtain ⟨x, y, rfl, rfl, rfl⟩ := map2 e2
    rw [fix _ e1]; cases h; exact .who
  · injection e with e1 e2
    rw [fix _ e1, map0 e2]; cases h; exact .votes
  · cases h
end SM

end

section
set_option Elab.async false
set_option linter.all false
namespace SM
open Si50
/-! the votes that carried amendments: each once, and every word that is not its text's own came by one -/
def fnd (votes : List Vote) (i : Nat) : Option Vote := votes.find? fun v => v.id == i && v.carried
def IsAm (v : Vote) : Prop := v.question = .first ∨ v.question = .second
def Am (votes : List Vote) (i : Nat) : Prop := ∃ v, fnd votes i = some v ∧ IsAm v
def TkA (votes : List Vote) (i : Nat) (t : Text) : Prop := ∀ x, x ∈ t → x.by_ = i ∨ Am votes x.by_
def has (b : Before) (a : Amend) : Prop := b.first = some a ∨ b.second = some a
structure BV (votes : List Vote) (b : Before) : Prop where
  fr : ∀ a, has b a → ∀ v, v ∈ votes → v.id ≠ a.id
  tx : TkA votes b.id b.text
  pt : ∀ t, t ∈ b.parts → TkA votes b.id t
  am : ∀ a, has b a → TkA votes a.id a.words
structure VF (s : St) : Prop where
  bv : ∀ b, b ∈ pend s → BV s.votes b
  ps : ∀ t, t ∈ s.passed → TkA s.votes t.id t.text
theorem fnd_snoc {votes : List Vote} {v : Vote} (i : Nat) : fnd (votes ++ [v]) i = (fnd votes i).or (if (v.id == i && v.carried) = true then some v else none) := by
  unfold fnd
  rw [List.find?_append]
  congr 1
  rw [List.find?_cons]
  split <;> rename_i h
  · rw [if_pos h]
  · rw [if_neg (by rw [h]; exact nofun)]; rfl
theorem fnd_keep {votes : List Vote} {v u : Vote} {i : Nat} (h : fnd votes i = some u) : fnd (votes ++ [v]) i = some u := by
  rw [fnd_snoc, h]; rfl
theorem fnd_none {votes : List Vote} {i : Nat} (h : ∀ v, v ∈ votes → v.id ≠ i) : fnd votes i = none := by
  unfold fnd
  rw [List.find?_eq_none]
  intro v hv
  have := h v hv
  simp [this]
theorem fnd_new {votes : List Vote} {v : Vote} (h : ∀ u, u ∈ votes → u.id ≠ v.id) (hc : v.carried = true) : fnd (votes ++ [v]) v.id = some v := by
  rw [fnd_snoc, fnd_none h, if_pos (by rw [hc]; simp)]; rfl
theorem Am.keep {votes : List Vote} {v : Vote} {i : Nat} (h : Am votes i) : Am (votes ++ [v]) i := by
  obtain ⟨u, h1, h2⟩ := h
  exact ⟨u, fnd_keep h1, h2⟩
theorem TkA.keep {votes : List Vote} {v : Vote} {i : Nat} {t : Text} (h : TkA votes i t) : TkA (votes ++ [v]) i t := fun x hx => (h x hx).imp id Am.keep
theorem TkA.sub {votes : List Vote} {i : Nat} {t u : Text} (h : TkA votes i t) (hs : ∀ x, x ∈ u → x ∈ t) : TkA votes i u := fun x hx => h x (hs x hx)
theorem TkA.new {votes : List Vote} {i : Nat} {w : List Nat} : TkA votes i (tokens i w) := fun x hx => .inl (tokens_mem hx)
theorem TkA.change {votes : List Vote} {k c : Nat} {t w : Text} {i j : Nat} (T : TkA votes k t) (W : TkA votes c w) (hc : Am votes c) : TkA votes k (change t i j w) := fun x hx =>
  (change_mem hx).elim (T x) fun hw => .inr ((W x hw).elim (fun e => by rw [e]; exact hc) id)
theorem BV.keep {votes : List Vote} {v : Vote} {b : Before} (h : BV votes b) (hn : ∀ a, has b a → v.id ≠ a.id) : BV (votes ++ [v]) b :=
  ⟨fun a ha u hu => (List.mem_append.mp hu).elim (h.fr a ha u) fun e => by rw [List.mem_singleton.mp e]; exact hn a ha, h.tx.keep, fun t ht => (h.pt t ht).keep, fun a ha => (h.am a ha).keep⟩
theorem has_mem {b : Before} {a : Amend} (h : has b a) : a.id ∈ ids b := by
  unfold ids
  rcases h with h | h
  · rw [h]; simp
  · rw [h]; simp
theorem VF.init : VF init := ⟨fun b h => (nomatch h), fun t h => (nomatch h)⟩
/-- before becomes another of which less is to be told -/
theorem VF.put {s : St} {o : Option Before} (h : VF s) (hb : ∀ b, o = some b → BV s.votes b) : VF { s with before := o } := by
  refine ⟨fun b hm => ?_, h.ps⟩
  rcases List.mem_append.mp hm with hm | hm
  · exact hb b (Option.mem_toList.mp hm)
  · exact h.bv b (List.mem_append_right _ hm)
theorem VF.cur {s : St} {b : Before} (h : VF s) (hb : s.before = some b) : BV s.votes b := h.bv b (by rw [pend_some hb]; exact List.mem_cons_self ..)
theorem vf_next {votes : List Vote} {b b' : Before} (B : BV votes b) (h : nextPart b = some b') : BV votes b' := by
  unfold nextPart at h
  split at h
  · cases h
  · rename_i t r e
    cases h
    have B2 := B.pt
    rw [e] at B2
    exact ⟨fun a ha => ha.elim nofun nofun, B2 t (List.mem_cons_self ..), fun u hu => B2 u (List.mem_cons_of_mem _ hu), fun a ha => ha.elim nofun nofun⟩
theorem mover_vf {m : Nat} {s : St} {f : St × Ans} (h : VF s) (k : VF f.1) : VF (mover s m f).1 := by
  unfold mover
  split
  · exact h
  · split
    · exact h
    · exact k
theorem on_vf {s : St} {f : Before → St × Ans} (h : VF s) (k : ∀ b, s.before = some b → VF (f b).1) : VF (on s f).1 := by
  unfold on
  split
  · exact h
  · exact k _ (by assumption)
theorem VF.new {s : St} {m : Nat} {o : Option Before} (h : VF s) (hb : ∀ b, o = some b → BV s.votes b) : VF { newId s m with before := o } := by
  have z := h.put hb
  exact ⟨z.bv, z.ps⟩
theorem vf_others {n : Nat} {s : St} (w : WF n s) (h : VF s) {b : Before} (hb : s.before = some b) (v : Vote) (hv : v.id ∈ ids b) : ∀ c, c ∈ s.tabled → BV (s.votes ++ [v]) c := by
  intro c hc
  refine (h.bv c (List.mem_append_right _ hc)).keep fun a ha e => ?_
  have nd := (w.nd_with hb).1
  exact (List.nodup_append.mp nd).2.2 v.id hv a.id (List.mem_flatMap.mpr ⟨c, hc, has_mem ha⟩) e
theorem vf_decide {n : Nat} {s : St} (w : WF n s) (h : VF s) {b : Before} (hb : s.before = some b) (won : Bool) (y no : List Nat) : VF { decide_ s b won with votes := s.votes ++ [⟨asked b, idOf b, y, no, won⟩] } := by
  have nd := (List.nodup_append.mp (w.nd_with hb).1).1
  have O := vf_others w h hb ⟨asked b, idOf b, y, no, won⟩ idOf_mem
  have B := h.cur hb
  have P : ∀ t, t ∈ s.passed → TkA (s.votes ++ [⟨asked b, idOf b, y, no, won⟩]) t.id t.text := fun t ht => (h.ps t ht).keep
  have nf : ∀ a x, b.first = some a → x ∈ b.procs → x.1 ≠ a.id := fun a x e hx => by
    unfold ids at nd
    rw [e] at nd
    intro e2
    have := (List.nodup_append.mp (List.nodup_cons.mp nd).2).2.2 a.id (by simp) x.1 (List.mem_append_right _ (List.mem_map.mpr ⟨x, hx, rfl⟩))
    exact this e2.symm
  have ns : ∀ a x, b.second = some a → x ∈ b.procs → x.1 ≠ a.id := fun a x e hx => by
    unfold ids at nd
    rw [e] at nd
    intro e2
    have := (List.nodup_append.mp (List.nodup_append.mp (List.nodup_cons.mp nd).2).2.1).2.2 a.id (by simp) x.1 (List.mem_map.mpr ⟨x, hx, rfl⟩)
    exact this e2.symm
  have fs : ∀ a c, b.first = some a → b.second = some c → c.id ≠ a.id := fun a c e f => by
    unfold ids at nd
    rw [e, f] at nd
    intro e2
    have := (List.nodup_append.mp (List.nodup_cons.mp nd).2).2.2 a.id (by simp) c.id (List.mem_append_left _ (by simp))
    exact this e2.symm
  have mk : ∀ (o : Option Before) (tb : List Before) (rf : List Before), (∀ c, o = some c → BV (s.votes ++ [⟨asked b, idOf b, y, no, won⟩]) c) → (∀ c, c ∈ tb → BV (s.votes ++ [⟨asked b, idOf b, y, no, won⟩]) c) →
      VF { s with before := o, tabled := tb, referred := rf, votes := s.votes ++ [⟨asked b, idOf b, y, no, won⟩] } := fun o tb rf h1 h2 =>
    ⟨fun c hc => (List.mem_append.mp hc).elim (fun hc => h1 c (Option.mem_toList.mp hc)) (h2 c), P⟩
  rcases asked_cases b with ⟨x, r, e1, e2, e3⟩ | ⟨e1, a, e2, e3, e4⟩ | ⟨e1, e2, a, e3, e4, e5⟩ | ⟨e1, e2, e3, e4, e5⟩
  · have K : BV (s.votes ++ [⟨asked b, idOf b, y, no, won⟩]) b := B.keep fun a ha e => by
      have e' : x.1 = a.id := by rw [← e3]; exact e
      rcases ha with ha | ha
      · exact nf a x ha (by rw [e1]; exact List.mem_cons_self ..) e'
      · exact ns a x ha (by rw [e1]; exact List.mem_cons_self ..) e'
    have K2 : ∀ (l : List (Nat × Nat × Proc)) (c : Bool), BV (s.votes ++ [⟨asked b, idOf b, y, no, won⟩]) { b with procs := l, closed := c } := fun l c => ⟨K.fr, K.tx, K.pt, K.am⟩
    have ed : decide_ s b won = (let c := { b with procs := b.procs.drop 1 }
        if won = false then { s with before := some c } else (match x.2.2 with
          | .refer => { s with before := none, referred := s.referred ++ [{ c with procs := [] }] }
          | .close => { s with before := some { c with closed := true } }
          | .table => { s with before := none, tabled := s.tabled ++ [{ c with procs := [] }] })) := by
      unfold decide_
      rw [e2] <;> rfl
    rw [ed]
    dsimp only
    split
    · exact mk (some _) s.tabled s.referred (fun c e => by cases e; exact K2 _ _) O
    · split
      · exact mk none s.tabled _ (fun c e => nomatch e) O
      · exact mk (some _) s.tabled s.referred (fun c e => by cases e; exact K2 _ _) O
      · exact mk none _ s.referred (fun c e => nomatch e) fun c hc => (List.mem_append.mp hc).elim (O c) fun e => by rw [List.mem_singleton.mp e]; exact K2 _ _
  · have ed : decide_ s b won = (match b.first, b.second with
        | some x, some y => { s with before := some { b with second := none, first := some (if won = true then { x with words := change x.words y.i y.j y.words } else x) } }
        | _, _ => s) := by
      unfold decide_
      rw [e3] <;> rfl
    rw [ed, e2]
    cases ef : b.first with
    | none => exact absurd ((w.before hb).se a e2).2 (by rintro ⟨x, hx, _⟩; rw [ef] at hx; cases hx)
    | some x =>
      dsimp only
      refine mk (some _) s.tabled s.referred (fun c e => ?_) O
      cases e
      have F := B.fr x (.inl ef)
      have A1 := B.am x (.inl ef)
      have A2 := B.am a (.inr e2)
      refine ⟨fun c hc u hu => ?_, B.tx.keep, fun t ht => (B.pt t ht).keep, fun c hc => ?_⟩
      · have ec : c.id = x.id := by
          rcases hc with hc | hc
          · have := Option.some.inj hc; rw [← this]; split <;> rfl
          · cases hc
        rw [ec]
        rcases List.mem_append.mp hu with hu | hu
        · exact F u hu
        · rw [List.mem_singleton.mp hu]
          show idOf b ≠ _
          rw [e4]
          exact fs x a ef e2
      · rcases hc with hc | hc
        · have := Option.some.inj hc
          rw [← this]
          split
          · rename_i hw
            refine TkA.change A1.keep A2.keep ⟨⟨asked b, idOf b, y, no, won⟩, ?_, .inr e3⟩
            have := fnd_new (votes := s.votes) (v := ⟨asked b, idOf b, y, no, won⟩) (fun u hu => by show u.id ≠ idOf b; rw [e4]; exact B.fr a (.inr e2) u hu) hw
            rw [← e4]
            exact this
          · exact A1.keep
        · cases hc
  · have ed : decide_ s b won = (match b.first with
        | some x => { s with before := some { b with first := none, text := if won = true then change b.text x.i x.j x.words else b.text } }
        | none => s) := by
      unfold decide_
      rw [e4] <;> rfl
    rw [ed, e3]
    dsimp only
    refine mk (some _) s.tabled s.referred (fun c e => ?_) O
    cases e
    have A1 := B.am a (.inl e3)
    refine ⟨fun c hc => ?_, ?_, fun t ht => (B.pt t ht).keep, fun c hc => ?_⟩
    · rcases hc with hc | hc
      · cases hc
      · have hc : b.second = some c := hc
        rw [e2] at hc; cases hc
    · dsimp only
      split
      · rename_i hw
        refine TkA.change B.tx.keep A1.keep ⟨⟨asked b, idOf b, y, no, won⟩, ?_, .inl e4⟩
        have := fnd_new (votes := s.votes) (v := ⟨asked b, idOf b, y, no, won⟩) (fun u hu => by show u.id ≠ idOf b; rw [e5]; exact B.fr a (.inl e3) u hu) hw
        rw [← e5]
        exact this
      · exact B.tx.keep
    · rcases hc with hc | hc
      · cases hc
      · have hc : b.second = some c := hc
        rw [e2] at hc; cases hc
  · have ed : decide_ s b won = { s with before := nextPart b, passed := if won = true then s.passed ++ [⟨b.text, b.id, s.votes.length⟩] else s.passed } := by
      unfold decide_
      rw [e4] <;> rfl
    rw [ed]
    have K : BV (s.votes ++ [⟨asked b, idOf b, y, no, won⟩]) b := B.keep fun a ha => by
      rcases ha with ha | ha
      · rw [e3] at ha; cases ha
      · rw [e2] at ha; cases ha
    have M := mk (nextPart b) s.tabled s.referred (fun c e => vf_next K e) O
    refine ⟨M.bv, ?_⟩
    intro t ht
    have ht : t ∈ (if won = true then s.passed ++ [⟨b.text, b.id, s.votes.length⟩] else s.passed) := ht
    split at ht
    · rcases List.mem_append.mp ht with ht | ht
      · exact P t ht
      · rw [List.mem_singleton.mp ht]
        exact K.tx
    · exact P t ht
theorem vf_step {n : Nat} {s : St} (w : WF n s) (h : VF s) (c : Call) : VF (step s c).1 := by
  cases c with
  | begins r => exact ⟨fun b h => (nomatch h), fun t h => (nomatch h)⟩
  | member k =>
    show VF (if _ then _ else if _ then _ else _ : St × Ans).1
    split
    · exact h
    · split
      · exact h
      · exact ⟨h.bv, h.ps⟩
  | comes m b =>
    show VF (match s.members[m]? with
      | none => (s, ok (-2))
      | some x => ({ s with members := s.members.set m { x with here := b } }, ok 0)).1
    split
    · exact h
    · exact ⟨h.bv, h.ps⟩
  | move m k =>
    refine mover_vf h ?_
    split
    · exact h
    · split
      · exact h
      · split
        · exact h
        · exact h.new fun b e => by
            cases e
            exact ⟨fun a ha => ha.elim nofun nofun, TkA.new, nofun, fun a ha => ha.elim nofun nofun⟩
  | amend m i j k =>
    refine mover_vf h (on_vf h fun b hb => ?_)
    dsimp only
    have B := h.cur hb
    have fresh : ∀ v, v ∈ s.votes → v.id ≠ s.moved.length := fun v hv e => Nat.lt_irrefl _ (e ▸ (w.vt v hv).1)
    have key : VF { newId s m with before := some (if b.first.isSome = true then { b with second := some ⟨s.moved.length, m, i, j, tokens s.moved.length k⟩ } else { b with first := some ⟨s.moved.length, m, i, j, tokens s.moved.length k⟩ }) } := by
      refine h.new fun b' e => ?_
      have e := Option.some.inj e
      split at e
      · subst e
        refine ⟨fun a ha => ?_, B.tx, B.pt, fun a ha => ?_⟩
        · rcases ha with ha | ha
          · exact B.fr a (.inl ha)
          · cases ha; exact fresh
        · rcases ha with ha | ha
          · exact B.am a (.inl ha)
          · cases ha; exact TkA.new
      · subst e
        refine ⟨fun a ha => ?_, B.tx, B.pt, fun a ha => ?_⟩
        · rcases ha with ha | ha
          · cases ha; exact fresh
          · exact B.fr a (.inr ha)
        · rcases ha with ha | ha
          · cases ha; exact TkA.new
          · exact B.am a (.inr ha)
    split
    · exact h
    · split
      · exact h
      · split
        all_goals
          split
          · exact h
          · split
            · exact h
            · exact key
  | go m p =>
    refine mover_vf h (on_vf h fun b hb => ?_)
    split
    · exact h
    · split
      · exact h
      · refine h.new fun b' e => ?_
        have B := h.cur hb
        cases e
        exact ⟨B.fr, B.tx, B.pt, B.am⟩
  | divide m i =>
    refine mover_vf h (on_vf h fun b hb => ?_)
    split
    · exact h
    · split
      · exact h
      · refine h.put fun b' e => ?_
        have B := h.cur hb
        cases e
        refine ⟨B.fr, B.tx.sub fun x hx => List.mem_of_mem_take hx, fun t ht => ?_, B.am⟩
        rcases List.mem_cons.mp ht with e | ht
        · rw [e]; exact B.tx.sub fun x hx => List.mem_of_mem_drop hx
        · exact B.pt t ht
  | withdraw m =>
    refine mover_vf h (on_vf h fun b hb => ?_)
    have B := h.cur hb
    split
    · split
      · exact h
      · exact h.put fun b' e => by cases e; exact ⟨B.fr, B.tx, B.pt, B.am⟩
    · split
      · split
        · exact h
        · exact h.put fun b' e => by
            cases e
            exact ⟨fun a ha => ha.elim (fun ha => B.fr a (.inl ha)) nofun, B.tx, B.pt, fun a ha => ha.elim (fun ha => B.am a (.inl ha)) nofun⟩
      · split
        · exact h
        · exact h.put fun b' e => by
            cases e
            exact ⟨fun a ha => ha.elim nofun (fun ha => B.fr a (.inr ha)), B.tx, B.pt, fun a ha => ha.elim nofun fun ha => B.am a (.inr ha)⟩
      · split
        · exact h
        · exact h.put fun b' e => vf_next B e
  | take m k =>
    refine mover_vf h ?_
    split
    · exact h
    · rename_i b hb
      split
      · exact h
      · refine ⟨fun c hc => ?_, h.ps⟩
        rcases List.mem_append.mp hc with hc | hc
        · have : b = c := Option.mem_toList.mp hc |> Option.some.inj
          rw [← this]
          exact h.bv b (List.mem_append_right _ (List.mem_of_getElem? hb))
        · exact h.bv c (List.mem_append_right _ (mem_erase hc))
  | vote y no k =>
    refine on_vf h fun b hb => ?_
    split
    · exact h
    · split
      · exact h
      · split
        · exact h
        · split
          · exact h
          · exact vf_decide w h hb _ y no
  | asked => exact h
  | text => exact h
  | passed k => exact h
  | who k i => exact h
  | votes => exact h
end SM

end

section
set_option Elab.async false
set_option linter.all false
set_option maxRecDepth 100000
namespace My
open PySem PySem.Spec PyProof.Rows L2
def top (i : Nat) : Stmt := PySem.Challenge.pw_assemblyhall_s01_answers.main.body.getD i (.Pass ⟨0, 0, 0, 0⟩)
abbrev s_Word_init : Stmt := inClass (top 3) 0
theorem sc_Word_init : FnScope ["self", "number", "motion"] ["self", "number", "motion"] (defScope s_Word_init) := ⟨rfl, rfl, rfl, by decide +kernel, rfl, by decide +kernel, by decide +kernel⟩
abbrev s_Amendment_init : Stmt := inClass (top 4) 0
theorem sc_Amendment_init : FnScope ["self", "motion", "start", "stop", "words"] ["self", "motion", "start", "stop", "words"] (defScope s_Amendment_init) := ⟨rfl, rfl, rfl, by decide +kernel, rfl, by decide +kernel, by decide +kernel⟩
abbrev s_WayOn_init : Stmt := inClass (top 5) 0
theorem sc_WayOn_init : FnScope ["self", "motion", "how"] ["self", "motion", "how"] (defScope s_WayOn_init) := ⟨rfl, rfl, rfl, by decide +kernel, rfl, by decide +kernel, by decide +kernel⟩
abbrev s_MainMotion_init : Stmt := inClass (top 6) 0
theorem sc_MainMotion_init : FnScope ["self", "motion", "words"] ["self", "motion", "words"] (defScope s_MainMotion_init) := ⟨rfl, rfl, rfl, by decide +kernel, rfl, by decide +kernel, by decide +kernel⟩
abbrev s_PassedText_init : Stmt := inClass (top 7) 0
theorem sc_PassedText_init : FnScope ["self", "motion", "words", "voters"] ["self", "motion", "words", "voters"] (defScope s_PassedText_init) := ⟨rfl, rfl, rfl, by decide +kernel, rfl, by decide +kernel, by decide +kernel⟩
abbrev s_Vote_init : Stmt := inClass (top 8) 0
theorem sc_Vote_init : FnScope ["self", "motion", "asked", "carried"] ["self", "motion", "asked", "carried"] (defScope s_Vote_init) := ⟨rfl, rfl, rfl, by decide +kernel, rfl, by decide +kernel, by decide +kernel⟩
abbrev s_Assembly_init : Stmt := inClass (top 9) 0
theorem sc_Assembly_init : FnScope ["self"] ["self"] (defScope s_Assembly_init) := ⟨rfl, rfl, rfl, by decide +kernel, rfl, by decide +kernel, by decide +kernel⟩
abbrev s_Assembly_begin : Stmt := inClass (top 9) 1
theorem sc_Assembly_begin : FnScope ["self", "quorum", "rules"] ["self", "quorum", "rules"] (defScope s_Assembly_begin) := ⟨rfl, rfl, rfl, by decide +kernel, rfl, by decide +kernel, by decide +kernel⟩
abbrev s_is_member : Stmt := top 22
theorem sc_is_member : FnScope ["assembly", "member"] ["assembly", "member"] (defScope s_is_member) := ⟨rfl, rfl, rfl, by decide +kernel, rfl, by decide +kernel, by decide +kernel⟩
abbrev s_absence : Stmt := top 23
theorem sc_absence : FnScope ["assembly", "member"] ["assembly", "member"] (defScope s_absence) := ⟨rfl, rfl, rfl, by decide +kernel, rfl, by decide +kernel, by decide +kernel⟩
abbrev s_weigh : Stmt := top 24
theorem sc_weigh : FnScope ["assembly", "members", "member"] ["assembly", "members"] (defScope s_weigh) := ⟨rfl, rfl, rfl, by decide +kernel, rfl, by decide +kernel, by decide +kernel⟩
abbrev s_weigh_those_there : Stmt := top 25
theorem sc_weigh_those_there : FnScope ["assembly", "member"] ["assembly"] (defScope s_weigh_those_there) := ⟨rfl, rfl, rfl, by decide +kernel, rfl, by decide +kernel, by decide +kernel⟩
abbrev s_admit : Stmt := top 26
theorem sc_admit : FnScope ["assembly", "weight"] ["assembly", "weight"] (defScope s_admit) := ⟨rfl, rfl, rfl, by decide +kernel, rfl, by decide +kernel, by decide +kernel⟩
abbrev s_comes : Stmt := top 27
theorem sc_comes : FnScope ["assembly", "member", "there"] ["assembly", "member", "there"] (defScope s_comes) := ⟨rfl, rfl, rfl, by decide +kernel, rfl, by decide +kernel, by decide +kernel⟩
abbrev s_asked_sort : Stmt := top 35
theorem sc_asked_sort : FnScope ["main"] ["main"] (defScope s_asked_sort) := ⟨rfl, rfl, rfl, by decide +kernel, rfl, by decide +kernel, by decide +kernel⟩
abbrev s_asked_motion : Stmt := top 36
theorem sc_asked_motion : FnScope ["main", "sort"] ["main"] (defScope s_asked_motion) := ⟨rfl, rfl, rfl, by decide +kernel, rfl, by decide +kernel, by decide +kernel⟩
abbrev s_how_many_parts : Stmt := top 37
theorem sc_how_many_parts : FnScope ["main"] ["main"] (defScope s_how_many_parts) := ⟨rfl, rfl, rfl, by decide +kernel, rfl, by decide +kernel, by decide +kernel⟩
abbrev s_make_way : Stmt := top 38
theorem sc_make_way : FnScope ["assembly", "main"] ["assembly"] (defScope s_make_way) := ⟨rfl, rfl, rfl, by decide +kernel, rfl, by decide +kernel, by decide +kernel⟩
abbrev s_drop_asked : Stmt := top 39
theorem sc_drop_asked : FnScope ["assembly", "main", "sort"] ["assembly"] (defScope s_drop_asked) := ⟨rfl, rfl, rfl, by decide +kernel, rfl, by decide +kernel, by decide +kernel⟩
abbrev s_amended : Stmt := top 40
theorem sc_amended : FnScope ["words", "amendment"] ["words", "amendment"] (defScope s_amended) := ⟨rfl, rfl, rfl, by decide +kernel, rfl, by decide +kernel, by decide +kernel⟩
abbrev s_carry_in_place : Stmt := top 41
theorem sc_carry_in_place : FnScope ["assembly", "voters", "main", "sort", "amendment"] ["assembly", "voters"] (defScope s_carry_in_place) := ⟨rfl, rfl, rfl, by decide +kernel, rfl, by decide +kernel, by decide +kernel⟩
abbrev s_carry_asked : Stmt := top 42
theorem sc_carry_asked : FnScope ["assembly", "voters", "main", "sort"] ["assembly", "voters"] (defScope s_carry_asked) := ⟨rfl, rfl, rfl, by decide +kernel, rfl, by decide +kernel, by decide +kernel⟩
abbrev s_may_be_moved : Stmt := top 48
theorem sc_may_be_moved : FnScope ["words", "word"] ["words"] (defScope s_may_be_moved) := ⟨rfl, rfl, rfl, by decide +kernel, rfl, by decide +kernel, by decide +kernel⟩
abbrev s_motions_are_full : Stmt := top 49
theorem sc_motions_are_full : FnScope ["assembly"] ["assembly"] (defScope s_motions_are_full) := ⟨rfl, rfl, rfl, by decide +kernel, rfl, by decide +kernel, by decide +kernel⟩
abbrev s_number_motion : Stmt := top 50
theorem sc_number_motion : FnScope ["assembly", "member"] ["assembly", "member"] (defScope s_number_motion) := ⟨rfl, rfl, rfl, by decide +kernel, rfl, by decide +kernel, by decide +kernel⟩
abbrev s_words_of : Stmt := top 51
theorem sc_words_of : FnScope ["motion", "numbers", "number"] ["motion", "numbers"] (defScope s_words_of) := ⟨rfl, rfl, rfl, by decide +kernel, rfl, by decide +kernel, by decide +kernel⟩
abbrev s_absence_or_nothing : Stmt := top 52
theorem sc_absence_or_nothing : FnScope ["assembly", "member", "refusal"] ["assembly", "member"] (defScope s_absence_or_nothing) := ⟨rfl, rfl, rfl, by decide +kernel, rfl, by decide +kernel, by decide +kernel⟩
abbrev s_move_refusal : Stmt := top 53
theorem sc_move_refusal : FnScope ["assembly", "member", "words", "refusal"] ["assembly", "member", "words"] (defScope s_move_refusal) := ⟨rfl, rfl, rfl, by decide +kernel, rfl, by decide +kernel, by decide +kernel⟩
abbrev s_move : Stmt := top 54
theorem sc_move : FnScope ["assembly", "member", "words", "refusal", "motion"] ["assembly", "member", "words"] (defScope s_move) := ⟨rfl, rfl, rfl, by decide +kernel, rfl, by decide +kernel, by decide +kernel⟩
abbrev s_words_to_amend : Stmt := top 55
theorem sc_words_to_amend : FnScope ["main"] ["main"] (defScope s_words_to_amend) := ⟨rfl, rfl, rfl, by decide +kernel, rfl, by decide +kernel, by decide +kernel⟩
abbrev s_place_refusal : Stmt := top 56
theorem sc_place_refusal : FnScope ["assembly", "start", "stop", "words", "length"] ["assembly", "start", "stop", "words"] (defScope s_place_refusal) := ⟨rfl, rfl, rfl, by decide +kernel, rfl, by decide +kernel, by decide +kernel⟩
abbrev s_amend_refusal : Stmt := top 57
theorem sc_amend_refusal : FnScope ["assembly", "member", "start", "stop", "words", "refusal", "main"] ["assembly", "member", "start", "stop", "words"] (defScope s_amend_refusal) := ⟨rfl, rfl, rfl, by decide +kernel, rfl, by decide +kernel, by decide +kernel⟩
abbrev s_amend : Stmt := top 58
theorem sc_amend : FnScope ["assembly", "member", "start", "stop", "words", "refusal", "main", "motion", "amendment"] ["assembly", "member", "start", "stop", "words"] (defScope s_amend) := ⟨rfl, rfl, rfl, by decide +kernel, rfl, by decide +kernel, by decide +kernel⟩
abbrev s_go_refusal : Stmt := top 59
theorem sc_go_refusal : FnScope ["assembly", "member", "how", "refusal", "main"] ["assembly", "member", "how"] (defScope s_go_refusal) := ⟨rfl, rfl, rfl, by decide +kernel, rfl, by decide +kernel, by decide +kernel⟩
abbrev s_go : Stmt := top 60
theorem sc_go : FnScope ["assembly", "member", "how", "refusal", "motion"] ["assembly", "member", "how"] (defScope s_go) := ⟨rfl, rfl, rfl, by decide +kernel, rfl, by decide +kernel, by decide +kernel⟩
abbrev s_divide_refusal : Stmt := top 61
theorem sc_divide_refusal : FnScope ["assembly", "member", "place", "refusal"] ["assembly", "member", "place"] (defScope s_divide_refusal) := ⟨rfl, rfl, rfl, by decide +kernel, rfl, by decide +kernel, by decide +kernel⟩
abbrev s_divide : Stmt := top 62
theorem sc_divide : FnScope ["assembly", "member", "place", "refusal", "main"] ["assembly", "member", "place"] (defScope s_divide) := ⟨rfl, rfl, rfl, by decide +kernel, rfl, by decide +kernel, by decide +kernel⟩
abbrev s_withdraw : Stmt := top 63
theorem sc_withdraw : FnScope ["assembly", "member", "refusal"] ["assembly", "member"] (defScope s_withdraw) := ⟨rfl, rfl, rfl, by decide +kernel, rfl, by decide +kernel, by decide +kernel⟩
abbrev s_take_refusal : Stmt := top 64
theorem sc_take_refusal : FnScope ["assembly", "member", "which", "refusal"] ["assembly", "member", "which"] (defScope s_take_refusal) := ⟨rfl, rfl, rfl, by decide +kernel, rfl, by decide +kernel, by decide +kernel⟩
abbrev s_take : Stmt := top 65
theorem sc_take : FnScope ["assembly", "member", "which", "refusal"] ["assembly", "member", "which"] (defScope s_take) := ⟨rfl, rfl, rfl, by decide +kernel, rfl, by decide +kernel, by decide +kernel⟩
abbrev s_tell_asked : Stmt := top 67
theorem sc_tell_asked : FnScope ["assembly", "motion"] ["assembly"] (defScope s_tell_asked) := ⟨rfl, rfl, rfl, by decide +kernel, rfl, by decide +kernel, by decide +kernel⟩
abbrev s_tell_words : Stmt := top 68
theorem sc_tell_words : FnScope ["words", "word"] ["words"] (defScope s_tell_words) := ⟨rfl, rfl, rfl, by decide +kernel, rfl, by decide +kernel, by decide +kernel⟩
abbrev s_tell_amendment : Stmt := top 69
theorem sc_tell_amendment : FnScope ["amendment"] ["amendment"] (defScope s_tell_amendment) := ⟨rfl, rfl, rfl, by decide +kernel, rfl, by decide +kernel, by decide +kernel⟩
abbrev s_tell_text : Stmt := top 70
theorem sc_tell_text : FnScope ["assembly", "main", "told"] ["assembly"] (defScope s_tell_text) := ⟨rfl, rfl, rfl, by decide +kernel, rfl, by decide +kernel, by decide +kernel⟩
abbrev s_tell_passed : Stmt := top 71
theorem sc_tell_passed : FnScope ["assembly", "text"] ["assembly", "text"] (defScope s_tell_passed) := ⟨rfl, rfl, rfl, by decide +kernel, rfl, by decide +kernel, by decide +kernel⟩
abbrev s_voters_for : Stmt := top 72
theorem sc_voters_for : FnScope ["assembly", "passed", "word"] ["assembly", "passed", "word"] (defScope s_voters_for) := ⟨rfl, rfl, rfl, by decide +kernel, rfl, by decide +kernel, by decide +kernel⟩
abbrev s_tell_who : Stmt := top 73
theorem sc_tell_who : FnScope ["assembly", "text", "place", "passed", "word"] ["assembly", "text", "place"] (defScope s_tell_who) := ⟨rfl, rfl, rfl, by decide +kernel, rfl, by decide +kernel, by decide +kernel⟩
abbrev s_tell_votes : Stmt := top 74
theorem sc_tell_votes : FnScope ["assembly", "told", "vote"] ["assembly"] (defScope s_tell_votes) := ⟨rfl, rfl, rfl, by decide +kernel, rfl, by decide +kernel, by decide +kernel⟩
abbrev s_vote_refusal : Stmt := top 83
theorem sc_vote_refusal : FnScope ["assembly", "chair", "members", "member"] ["assembly", "chair", "members"] (defScope s_vote_refusal) := ⟨rfl, rfl, rfl, by decide +kernel, rfl, by decide +kernel, by decide +kernel⟩
abbrev s_is_carried : Stmt := top 84
theorem sc_is_carried : FnScope ["assembly", "chair", "weight_for", "weight_against", "kind"] ["assembly", "chair", "weight_for", "weight_against"] (defScope s_is_carried) := ⟨rfl, rfl, rfl, by decide +kernel, rfl, by decide +kernel, by decide +kernel⟩
abbrev s_vote : Stmt := top 85
theorem sc_vote : FnScope ["assembly", "chair", "those_for", "those_against", "refusal", "weight_for", "weight_against", "carried"] ["assembly", "chair", "those_for", "those_against"] (defScope s_vote) := ⟨rfl, rfl, rfl, by decide +kernel, rfl, by decide +kernel, by decide +kernel⟩
abbrev s_call_begins : Stmt := top 87
theorem sc_call_begins : FnScope ["assembly", "numbers"] ["assembly", "numbers"] (defScope s_call_begins) := ⟨rfl, rfl, rfl, by decide +kernel, rfl, by decide +kernel, by decide +kernel⟩
abbrev s_call_member : Stmt := top 88
theorem sc_call_member : FnScope ["assembly", "numbers"] ["assembly", "numbers"] (defScope s_call_member) := ⟨rfl, rfl, rfl, by decide +kernel, rfl, by decide +kernel, by decide +kernel⟩
abbrev s_call_comes : Stmt := top 89
theorem sc_call_comes : FnScope ["assembly", "numbers"] ["assembly", "numbers"] (defScope s_call_comes) := ⟨rfl, rfl, rfl, by decide +kernel, rfl, by decide +kernel, by decide +kernel⟩
abbrev s_call_move : Stmt := top 90
theorem sc_call_move : FnScope ["assembly", "numbers"] ["assembly", "numbers"] (defScope s_call_move) := ⟨rfl, rfl, rfl, by decide +kernel, rfl, by decide +kernel, by decide +kernel⟩
abbrev s_call_amend : Stmt := top 91
theorem sc_call_amend : FnScope ["assembly", "numbers"] ["assembly", "numbers"] (defScope s_call_amend) := ⟨rfl, rfl, rfl, by decide +kernel, rfl, by decide +kernel, by decide +kernel⟩
abbrev s_call_go : Stmt := top 92
theorem sc_call_go : FnScope ["assembly", "numbers"] ["assembly", "numbers"] (defScope s_call_go) := ⟨rfl, rfl, rfl, by decide +kernel, rfl, by decide +kernel, by decide +kernel⟩
abbrev s_call_divide : Stmt := top 93
theorem sc_call_divide : FnScope ["assembly", "numbers"] ["assembly", "numbers"] (defScope s_call_divide) := ⟨rfl, rfl, rfl, by decide +kernel, rfl, by decide +kernel, by decide +kernel⟩
abbrev s_call_withdraw : Stmt := top 94
theorem sc_call_withdraw : FnScope ["assembly", "numbers"] ["assembly", "numbers"] (defScope s_call_withdraw) := ⟨rfl, rfl, rfl, by decide +kernel, rfl, by decide +kernel, by decide +kernel⟩
abbrev s_call_take : Stmt := top 95
theorem sc_call_take : FnScope ["assembly", "numbers"] ["assembly", "numbers"] (defScope s_call_take) := ⟨rfl, rfl, rfl, by decide +kernel, rfl, by decide +kernel, by decide +kernel⟩
abbrev s_call_vote : Stmt := top 96
theorem sc_call_vote : FnScope ["assembly", "numbers", "behind_those_for"] ["assembly", "numbers"] (defScope s_call_vote) := ⟨rfl, rfl, rfl, by decide +kernel, rfl, by decide +kernel, by decide +kernel⟩
abbrev s_call_asked : Stmt := top 97
theorem sc_call_asked : FnScope ["assembly", "numbers"] ["assembly", "numbers"] (defScope s_call_asked) := ⟨rfl, rfl, rfl, by decide +kernel, rfl, by decide +kernel, by decide +kernel⟩
abbrev s_call_text : Stmt := top 98
theorem sc_call_text : FnScope ["assembly", "numbers"] ["assembly", "numbers"] (defScope s_call_text) := ⟨rfl, rfl, rfl, by decide +kernel, rfl, by decide +kernel, by decide +kernel⟩
abbrev s_call_passed : Stmt := top 99
theorem sc_call_passed : FnScope ["assembly", "numbers"] ["assembly", "numbers"] (defScope s_call_passed) := ⟨rfl, rfl, rfl, by decide +kernel, rfl, by decide +kernel, by decide +kernel⟩
abbrev s_call_who : Stmt := top 100
theorem sc_call_who : FnScope ["assembly", "numbers"] ["assembly", "numbers"] (defScope s_call_who) := ⟨rfl, rfl, rfl, by decide +kernel, rfl, by decide +kernel, by decide +kernel⟩
abbrev s_call_votes : Stmt := top 101
theorem sc_call_votes : FnScope ["assembly", "numbers"] ["assembly", "numbers"] (defScope s_call_votes) := ⟨rfl, rfl, rfl, by decide +kernel, rfl, by decide +kernel, by decide +kernel⟩
abbrev s_answers : Stmt := top 103
theorem sc_answers : FnScope ["calls", "assembly", "told", "place", "call", "first", "end", "answer"] ["calls"] (defScope s_answers) := ⟨rfl, rfl, rfl, by decide +kernel, rfl, by decide +kernel, by decide +kernel⟩
set_option genInjectivity false
set_option genSizeOf false
structure Tx (K : PySem.W.Frag) (mg : Str → Option Value) where
  f_Word_init : FnT K "__init__" "Word.__init__" s_Word_init
  f_Amendment_init : FnT K "__init__" "Amendment.__init__" s_Amendment_init
  f_WayOn_init : FnT K "__init__" "WayOn.__init__" s_WayOn_init
  f_MainMotion_init : FnT K "__init__" "MainMotion.__init__" s_MainMotion_init
  f_PassedText_init : FnT K "__init__" "PassedText.__init__" s_PassedText_init
  f_Vote_init : FnT K "__init__" "Vote.__init__" s_Vote_init
  f_Assembly_init : FnT K "__init__" "Assembly.__init__" s_Assembly_init
  f_Assembly_begin : FnT K "begin" "Assembly.begin" s_Assembly_begin
  f_is_member : GFn K mg "is_member" s_is_member
  f_absence : GFn K mg "absence" s_absence
  f_weigh : GFn K mg "weigh" s_weigh
  f_weigh_those_there : GFn K mg "weigh_those_there" s_weigh_those_there
  f_admit : GFn K mg "admit" s_admit
  f_comes : GFn K mg "comes" s_comes
  f_asked_sort : GFn K mg "asked_sort" s_asked_sort
  f_asked_motion : GFn K mg "asked_motion" s_asked_motion
  f_how_many_parts : GFn K mg "how_many_parts" s_how_many_parts
  f_make_way : GFn K mg "make_way" s_make_way
  f_drop_asked : GFn K mg "drop_asked" s_drop_asked
  f_amended : GFn K mg "amended" s_amended
  f_carry_in_place : GFn K mg "carry_in_place" s_carry_in_place
  f_carry_asked : GFn K mg "carry_asked" s_carry_asked
  f_may_be_moved : GFn K mg "may_be_moved" s_may_be_moved
  f_motions_are_full : GFn K mg "motions_are_full" s_motions_are_full
  f_number_motion : GFn K mg "number_motion" s_number_motion
  f_words_of : GFn K mg "words_of" s_words_of
  f_absence_or_nothing : GFn K mg "absence_or_nothing" s_absence_or_nothing
  f_move_refusal : GFn K mg "move_refusal" s_move_refusal
  f_move : GFn K mg "move" s_move
  f_words_to_amend : GFn K mg "words_to_amend" s_words_to_amend
  f_place_refusal : GFn K mg "place_refusal" s_place_refusal
  f_amend_refusal : GFn K mg "amend_refusal" s_amend_refusal
  f_amend : GFn K mg "amend" s_amend
  f_go_refusal : GFn K mg "go_refusal" s_go_refusal
  f_go : GFn K mg "go" s_go
  f_divide_refusal : GFn K mg "divide_refusal" s_divide_refusal
  f_divide : GFn K mg "divide" s_divide
  f_withdraw : GFn K mg "withdraw" s_withdraw
  f_take_refusal : GFn K mg "take_refusal" s_take_refusal
  f_take : GFn K mg "take" s_take
  f_tell_asked : GFn K mg "tell_asked" s_tell_asked
  f_tell_words : GFn K mg "tell_words" s_tell_words
  f_tell_amendment : GFn K mg "tell_amendment" s_tell_amendment
  f_tell_text : GFn K mg "tell_text" s_tell_text
  f_tell_passed : GFn K mg "tell_passed" s_tell_passed
  f_voters_for : GFn K mg "voters_for" s_voters_for
  f_tell_who : GFn K mg "tell_who" s_tell_who
  f_tell_votes : GFn K mg "tell_votes" s_tell_votes
  f_vote_refusal : GFn K mg "vote_refusal" s_vote_refusal
  f_is_carried : GFn K mg "is_carried" s_is_carried
  f_vote : GFn K mg "vote" s_vote
  f_call_begins : GFn K mg "call_begins" s_call_begins
  f_call_member : GFn K mg "call_member" s_call_member
  f_call_comes : GFn K mg "call_comes" s_call_comes
  f_call_move : GFn K mg "call_move" s_call_move
  f_call_amend : GFn K mg "call_amend" s_call_amend
  f_call_go : GFn K mg "call_go" s_call_go
  f_call_divide : GFn K mg "call_divide" s_call_divide
  f_call_withdraw : GFn K mg "call_withdraw" s_call_withdraw
  f_call_take : GFn K mg "call_take" s_call_take
  f_call_vote : GFn K mg "call_vote" s_call_vote
  f_call_asked : GFn K mg "call_asked" s_call_asked
  f_call_text : GFn K mg "call_text" s_call_text
  f_call_passed : GFn K mg "call_passed" s_call_passed
  f_call_who : GFn K mg "call_who" s_call_who
  f_call_votes : GFn K mg "call_votes" s_call_votes
  f_answers : GFn K mg "answers" s_answers
  C_Word : ClT K mg "Word" ["number", "motion"] f_Word_init.a
  C_Amendment : ClT K mg "Amendment" ["motion", "start", "stop", "words"] f_Amendment_init.a
  C_WayOn : ClT K mg "WayOn" ["motion", "how"] f_WayOn_init.a
  C_MainMotion : ClT K mg "MainMotion" ["motion", "words", "parts_to_come", "amendment", "further_amendment", "ways_on", "closed"] f_MainMotion_init.a
  C_PassedText : ClT K mg "PassedText" ["motion", "words", "voters"] f_PassedText_init.a
  C_Vote : ClT K mg "Vote" ["motion", "asked", "carried"] f_Vote_init.a
  C_Assembly : ClT K mg "Assembly" ["quorum", "rules", "weights", "there", "movers", "main", "put_off", "passed", "votes", "amendment_voters"] f_Assembly_init.a
  m_Assembly_begin : Meth K C_Assembly.c "begin" f_Assembly_begin.a
  k_FIRST_QUORUM : GlV mg "FIRST_QUORUM" (.int 1)
  a_FIRST_RULES : Addr
  k_FIRST_RULES : GlV mg "FIRST_RULES" (.ref a_FIRST_RULES)
  t_FIRST_RULES : KTu K a_FIRST_RULES [V.int 0, V.int 0, V.int 0, V.int 3, V.int 0]
  k_NO_REFUSAL : GlV mg "NO_REFUSAL" (.int 0)
  k_WRONG : GlV mg "WRONG" (.int (-1))
  k_UNKNOWN : GlV mg "UNKNOWN" (.int (-2))
  k_AWAY : GlV mg "AWAY" (.int (-3))
  k_OUT_OF_ORDER : GlV mg "OUT_OF_ORDER" (.int (-4))
  k_FULL : GlV mg "FULL" (.int (-5))
  k_NOT_THE_MOVER : GlV mg "NOT_THE_MOVER" (.int (-6))
  k_NOTHING_SUCH : GlV mg "NOTHING_SUCH" (.int (-6))
  k_NO_QUORUM : GlV mg "NO_QUORUM" (.int (-7))
  k_MOST_MEMBERS : GlV mg "MOST_MEMBERS" (.int 20)
  k_MOST_WEIGHT : GlV mg "MOST_WEIGHT" (.int 100)
  k_MAIN : GlV mg "MAIN" (.int 1)
  k_AMENDMENT : GlV mg "AMENDMENT" (.int 2)
  k_FURTHER_AMENDMENT : GlV mg "FURTHER_AMENDMENT" (.int 3)
  k_SEND_BACK : GlV mg "SEND_BACK" (.int 4)
  k_CLOSE : GlV mg "CLOSE" (.int 5)
  k_PUT_OFF : GlV mg "PUT_OFF" (.int 6)
  k_MOST_MOTIONS : GlV mg "MOST_MOTIONS" (.int 100)
  k_MOST_WORDS_MOVED : GlV mg "MOST_WORDS_MOVED" (.int 30)
  k_MOST_WORDS_AMENDED : GlV mg "MOST_WORDS_AMENDED" (.int 60)
  k_LAST_WORD : GlV mg "LAST_WORD" (.int 99999)
  k_SIMPLE : GlV mg "SIMPLE" (.int 0)
  k_HALF_OF_THOSE_THERE : GlV mg "HALF_OF_THOSE_THERE" (.int 1)
  k_HALF_OF_ALL : GlV mg "HALF_OF_ALL" (.int 2)
  k_TWO_THIRDS : GlV mg "TWO_THIRDS" (.int 3)
  k_CHAIR_FOR : GlV mg "CHAIR_FOR" (.int 1)
  k_CHAIR_AGAINST : GlV mg "CHAIR_AGAINST" (.int 2)
  a_RULE_PLACES : Addr
  k_RULE_PLACES : GlV mg "RULE_PLACES" (.ref a_RULE_PLACES)
  t_RULE_PLACES : KTu K a_RULE_PLACES [V.non, V.int 0, V.int 1, V.int 1, V.int 2, V.int 3, V.int 4]
  a_CALLS : Addr
  k_CALLS : GlV mg "CALLS" (.ref a_CALLS)
  t_CALLS : KTu K a_CALLS [V.ref f_call_begins.a, V.ref f_call_member.a, V.ref f_call_comes.a, V.ref f_call_move.a, V.ref f_call_amend.a, V.ref f_call_go.a, V.ref f_call_divide.a, V.ref f_call_withdraw.a, V.ref f_call_take.a, V.ref f_call_vote.a, V.ref f_call_asked.a, V.ref f_call_text.a, V.ref f_call_passed.a, V.ref f_call_who.a, V.ref f_call_votes.a]
  b_all : mg "all" = none
  b_len : mg "len" = none
  b_range : mg "range" = none
  b_set : mg "set" = none
  b_sum : mg "sum" = none
  b_tuple : mg "tuple" = none
set_option genInjectivity true
set_option genSizeOf true
@[elab_as_elim] theorem vec1 {P : List Value → Prop} {us : List Value} (h : us.length = 1) (k : ∀ a0, P [a0]) : P us := match us, h with | [a0], _ => k a0
@[elab_as_elim] theorem vec2 {P : List Value → Prop} {us : List Value} (h : us.length = 2) (k : ∀ a0 a1, P [a0, a1]) : P us := match us, h with | [a0, a1], _ => k a0 a1
@[elab_as_elim] theorem vec3 {P : List Value → Prop} {us : List Value} (h : us.length = 3) (k : ∀ a0 a1 a2, P [a0, a1, a2]) : P us := match us, h with | [a0, a1, a2], _ => k a0 a1 a2
@[elab_as_elim] theorem vec4 {P : List Value → Prop} {us : List Value} (h : us.length = 4) (k : ∀ a0 a1 a2 a3, P [a0, a1, a2, a3]) : P us := match us, h with | [a0, a1, a2, a3], _ => k a0 a1 a2 a3
@[elab_as_elim] theorem vec5 {P : List Value → Prop} {us : List Value} (h : us.length = 5) (k : ∀ a0 a1 a2 a3 a4, P [a0, a1, a2, a3, a4]) : P us := match us, h with | [a0, a1, a2, a3, a4], _ => k a0 a1 a2 a3 a4
theorem n_Word_number {K : PySem.W.Frag} {mg : Str → Option Value} (T : Tx K mg) : NoAttr K T.C_Word.c "number" := T.C_Word.na _ (by decide +kernel)
theorem n_Word_motion {K : PySem.W.Frag} {mg : Str → Option Value} (T : Tx K mg) : NoAttr K T.C_Word.c "motion" := T.C_Word.na _ (by decide +kernel)
theorem n_Amendment_motion {K : PySem.W.Frag} {mg : Str → Option Value} (T : Tx K mg) : NoAttr K T.C_Amendment.c "motion" := T.C_Amendment.na _ (by decide +kernel)
theorem n_Amendment_start {K : PySem.W.Frag} {mg : Str → Option Value} (T : Tx K mg) : NoAttr K T.C_Amendment.c "start" := T.C_Amendment.na _ (by decide +kernel)
theorem n_Amendment_stop {K : PySem.W.Frag} {mg : Str → Option Value} (T : Tx K mg) : NoAttr K T.C_Amendment.c "stop" := T.C_Amendment.na _ (by decide +kernel)
theorem n_Amendment_words {K : PySem.W.Frag} {mg : Str → Option Value} (T : Tx K mg) : NoAttr K T.C_Amendment.c "words" := T.C_Amendment.na _ (by decide +kernel)
theorem n_WayOn_motion {K : PySem.W.Frag} {mg : Str → Option Value} (T : Tx K mg) : NoAttr K T.C_WayOn.c "motion" := T.C_WayOn.na _ (by decide +kernel)
theorem n_WayOn_how {K : PySem.W.Frag} {mg : Str → Option Value} (T : Tx K mg) : NoAttr K T.C_WayOn.c "how" := T.C_WayOn.na _ (by decide +kernel)
theorem n_MainMotion_motion {K : PySem.W.Frag} {mg : Str → Option Value} (T : Tx K mg) : NoAttr K T.C_MainMotion.c "motion" := T.C_MainMotion.na _ (by decide +kernel)
theorem n_MainMotion_words {K : PySem.W.Frag} {mg : Str → Option Value} (T : Tx K mg) : NoAttr K T.C_MainMotion.c "words" := T.C_MainMotion.na _ (by decide +kernel)
theorem n_MainMotion_parts_to_come {K : PySem.W.Frag} {mg : Str → Option Value} (T : Tx K mg) : NoAttr K T.C_MainMotion.c "parts_to_come" := T.C_MainMotion.na _ (by decide +kernel)
theorem n_MainMotion_amendment {K : PySem.W.Frag} {mg : Str → Option Value} (T : Tx K mg) : NoAttr K T.C_MainMotion.c "amendment" := T.C_MainMotion.na _ (by decide +kernel)
theorem n_MainMotion_further_amendment {K : PySem.W.Frag} {mg : Str → Option Value} (T : Tx K mg) : NoAttr K T.C_MainMotion.c "further_amendment" := T.C_MainMotion.na _ (by decide +kernel)
theorem n_MainMotion_ways_on {K : PySem.W.Frag} {mg : Str → Option Value} (T : Tx K mg) : NoAttr K T.C_MainMotion.c "ways_on" := T.C_MainMotion.na _ (by decide +kernel)
theorem n_MainMotion_closed {K : PySem.W.Frag} {mg : Str → Option Value} (T : Tx K mg) : NoAttr K T.C_MainMotion.c "closed" := T.C_MainMotion.na _ (by decide +kernel)
theorem n_PassedText_motion {K : PySem.W.Frag} {mg : Str → Option Value} (T : Tx K mg) : NoAttr K T.C_PassedText.c "motion" := T.C_PassedText.na _ (by decide +kernel)
theorem n_PassedText_words {K : PySem.W.Frag} {mg : Str → Option Value} (T : Tx K mg) : NoAttr K T.C_PassedText.c "words" := T.C_PassedText.na _ (by decide +kernel)
theorem n_PassedText_voters {K : PySem.W.Frag} {mg : Str → Option Value} (T : Tx K mg) : NoAttr K T.C_PassedText.c "voters" := T.C_PassedText.na _ (by decide +kernel)
theorem n_Vote_motion {K : PySem.W.Frag} {mg : Str → Option Value} (T : Tx K mg) : NoAttr K T.C_Vote.c "motion" := T.C_Vote.na _ (by decide +kernel)
theorem n_Vote_asked {K : PySem.W.Frag} {mg : Str → Option Value} (T : Tx K mg) : NoAttr K T.C_Vote.c "asked" := T.C_Vote.na _ (by decide +kernel)
theorem n_Vote_carried {K : PySem.W.Frag} {mg : Str → Option Value} (T : Tx K mg) : NoAttr K T.C_Vote.c "carried" := T.C_Vote.na _ (by decide +kernel)
theorem n_Assembly_quorum {K : PySem.W.Frag} {mg : Str → Option Value} (T : Tx K mg) : NoAttr K T.C_Assembly.c "quorum" := T.C_Assembly.na _ (by decide +kernel)
theorem n_Assembly_rules {K : PySem.W.Frag} {mg : Str → Option Value} (T : Tx K mg) : NoAttr K T.C_Assembly.c "rules" := T.C_Assembly.na _ (by decide +kernel)
theorem n_Assembly_weights {K : PySem.W.Frag} {mg : Str → Option Value} (T : Tx K mg) : NoAttr K T.C_Assembly.c "weights" := T.C_Assembly.na _ (by decide +kernel)
theorem n_Assembly_there {K : PySem.W.Frag} {mg : Str → Option Value} (T : Tx K mg) : NoAttr K T.C_Assembly.c "there" := T.C_Assembly.na _ (by decide +kernel)
theorem n_Assembly_movers {K : PySem.W.Frag} {mg : Str → Option Value} (T : Tx K mg) : NoAttr K T.C_Assembly.c "movers" := T.C_Assembly.na _ (by decide +kernel)
theorem n_Assembly_main {K : PySem.W.Frag} {mg : Str → Option Value} (T : Tx K mg) : NoAttr K T.C_Assembly.c "main" := T.C_Assembly.na _ (by decide +kernel)
theorem n_Assembly_put_off {K : PySem.W.Frag} {mg : Str → Option Value} (T : Tx K mg) : NoAttr K T.C_Assembly.c "put_off" := T.C_Assembly.na _ (by decide +kernel)
theorem n_Assembly_passed {K : PySem.W.Frag} {mg : Str → Option Value} (T : Tx K mg) : NoAttr K T.C_Assembly.c "passed" := T.C_Assembly.na _ (by decide +kernel)
theorem n_Assembly_votes {K : PySem.W.Frag} {mg : Str → Option Value} (T : Tx K mg) : NoAttr K T.C_Assembly.c "votes" := T.C_Assembly.na _ (by decide +kernel)
theorem n_Assembly_amendment_voters {K : PySem.W.Frag} {mg : Str → Option Value} (T : Tx K mg) : NoAttr K T.C_Assembly.c "amendment_voters" := T.C_Assembly.na _ (by decide +kernel)
theorem b_Word_init {K : PySem.W.Frag} {mg : Str → Option Value} (T : Tx K mg) : Binds K T.f_Word_init.d ["self", "number", "motion"] [] := T.f_Word_init.F.binds fun _ _ _ _ _ _ _ hl => vec3 hl fun _ _ _ => rfl
theorem b_Amendment_init {K : PySem.W.Frag} {mg : Str → Option Value} (T : Tx K mg) : Binds K T.f_Amendment_init.d ["self", "motion", "start", "stop", "words"] [] := T.f_Amendment_init.F.binds fun _ _ _ _ _ _ _ hl => vec5 hl fun _ _ _ _ _ => rfl
theorem b_WayOn_init {K : PySem.W.Frag} {mg : Str → Option Value} (T : Tx K mg) : Binds K T.f_WayOn_init.d ["self", "motion", "how"] [] := T.f_WayOn_init.F.binds fun _ _ _ _ _ _ _ hl => vec3 hl fun _ _ _ => rfl
theorem b_MainMotion_init {K : PySem.W.Frag} {mg : Str → Option Value} (T : Tx K mg) : Binds K T.f_MainMotion_init.d ["self", "motion", "words"] [] := T.f_MainMotion_init.F.binds fun _ _ _ _ _ _ _ hl => vec3 hl fun _ _ _ => rfl
theorem b_PassedText_init {K : PySem.W.Frag} {mg : Str → Option Value} (T : Tx K mg) : Binds K T.f_PassedText_init.d ["self", "motion", "words", "voters"] [] := T.f_PassedText_init.F.binds fun _ _ _ _ _ _ _ hl => vec4 hl fun _ _ _ _ => rfl
theorem b_Vote_init {K : PySem.W.Frag} {mg : Str → Option Value} (T : Tx K mg) : Binds K T.f_Vote_init.d ["self", "motion", "asked", "carried"] [] := T.f_Vote_init.F.binds fun _ _ _ _ _ _ _ hl => vec4 hl fun _ _ _ _ => rfl
theorem b_Assembly_init {K : PySem.W.Frag} {mg : Str → Option Value} (T : Tx K mg) : Binds K T.f_Assembly_init.d ["self"] [] := T.f_Assembly_init.F.binds fun _ _ _ _ _ _ _ hl => vec1 hl fun _ => rfl
theorem b_Assembly_begin {K : PySem.W.Frag} {mg : Str → Option Value} (T : Tx K mg) : Binds K T.f_Assembly_begin.d ["self", "quorum", "rules"] [] := T.f_Assembly_begin.F.binds fun _ _ _ _ _ _ _ hl => vec3 hl fun _ _ _ => rfl
theorem b_is_member {K : PySem.W.Frag} {mg : Str → Option Value} (T : Tx K mg) : Binds K T.f_is_member.d ["assembly", "member"] [] := T.f_is_member.F.binds fun _ _ _ _ _ _ _ hl => vec2 hl fun _ _ => rfl
theorem b_absence {K : PySem.W.Frag} {mg : Str → Option Value} (T : Tx K mg) : Binds K T.f_absence.d ["assembly", "member"] [] := T.f_absence.F.binds fun _ _ _ _ _ _ _ hl => vec2 hl fun _ _ => rfl
theorem b_weigh {K : PySem.W.Frag} {mg : Str → Option Value} (T : Tx K mg) : Binds K T.f_weigh.d ["assembly", "members"] [] := T.f_weigh.F.binds fun _ _ _ _ _ _ _ hl => vec2 hl fun _ _ => rfl
theorem b_weigh_those_there {K : PySem.W.Frag} {mg : Str → Option Value} (T : Tx K mg) : Binds K T.f_weigh_those_there.d ["assembly"] [] := T.f_weigh_those_there.F.binds fun _ _ _ _ _ _ _ hl => vec1 hl fun _ => rfl
theorem b_admit {K : PySem.W.Frag} {mg : Str → Option Value} (T : Tx K mg) : Binds K T.f_admit.d ["assembly", "weight"] [] := T.f_admit.F.binds fun _ _ _ _ _ _ _ hl => vec2 hl fun _ _ => rfl
theorem b_comes {K : PySem.W.Frag} {mg : Str → Option Value} (T : Tx K mg) : Binds K T.f_comes.d ["assembly", "member", "there"] [] := T.f_comes.F.binds fun _ _ _ _ _ _ _ hl => vec3 hl fun _ _ _ => rfl
theorem b_asked_sort {K : PySem.W.Frag} {mg : Str → Option Value} (T : Tx K mg) : Binds K T.f_asked_sort.d ["main"] [] := T.f_asked_sort.F.binds fun _ _ _ _ _ _ _ hl => vec1 hl fun _ => rfl
theorem b_asked_motion {K : PySem.W.Frag} {mg : Str → Option Value} (T : Tx K mg) : Binds K T.f_asked_motion.d ["main"] [] := T.f_asked_motion.F.binds fun _ _ _ _ _ _ _ hl => vec1 hl fun _ => rfl
theorem b_how_many_parts {K : PySem.W.Frag} {mg : Str → Option Value} (T : Tx K mg) : Binds K T.f_how_many_parts.d ["main"] [] := T.f_how_many_parts.F.binds fun _ _ _ _ _ _ _ hl => vec1 hl fun _ => rfl
theorem b_make_way {K : PySem.W.Frag} {mg : Str → Option Value} (T : Tx K mg) : Binds K T.f_make_way.d ["assembly"] [] := T.f_make_way.F.binds fun _ _ _ _ _ _ _ hl => vec1 hl fun _ => rfl
theorem b_drop_asked {K : PySem.W.Frag} {mg : Str → Option Value} (T : Tx K mg) : Binds K T.f_drop_asked.d ["assembly"] [] := T.f_drop_asked.F.binds fun _ _ _ _ _ _ _ hl => vec1 hl fun _ => rfl
theorem b_amended {K : PySem.W.Frag} {mg : Str → Option Value} (T : Tx K mg) : Binds K T.f_amended.d ["words", "amendment"] [] := T.f_amended.F.binds fun _ _ _ _ _ _ _ hl => vec2 hl fun _ _ => rfl
theorem b_carry_in_place {K : PySem.W.Frag} {mg : Str → Option Value} (T : Tx K mg) : Binds K T.f_carry_in_place.d ["assembly", "voters"] [] := T.f_carry_in_place.F.binds fun _ _ _ _ _ _ _ hl => vec2 hl fun _ _ => rfl
theorem b_carry_asked {K : PySem.W.Frag} {mg : Str → Option Value} (T : Tx K mg) : Binds K T.f_carry_asked.d ["assembly", "voters"] [] := T.f_carry_asked.F.binds fun _ _ _ _ _ _ _ hl => vec2 hl fun _ _ => rfl
theorem b_may_be_moved {K : PySem.W.Frag} {mg : Str → Option Value} (T : Tx K mg) : Binds K T.f_may_be_moved.d ["words"] [] := T.f_may_be_moved.F.binds fun _ _ _ _ _ _ _ hl => vec1 hl fun _ => rfl
theorem b_motions_are_full {K : PySem.W.Frag} {mg : Str → Option Value} (T : Tx K mg) : Binds K T.f_motions_are_full.d ["assembly"] [] := T.f_motions_are_full.F.binds fun _ _ _ _ _ _ _ hl => vec1 hl fun _ => rfl
theorem b_number_motion {K : PySem.W.Frag} {mg : Str → Option Value} (T : Tx K mg) : Binds K T.f_number_motion.d ["assembly", "member"] [] := T.f_number_motion.F.binds fun _ _ _ _ _ _ _ hl => vec2 hl fun _ _ => rfl
theorem b_words_of {K : PySem.W.Frag} {mg : Str → Option Value} (T : Tx K mg) : Binds K T.f_words_of.d ["motion", "numbers"] [] := T.f_words_of.F.binds fun _ _ _ _ _ _ _ hl => vec2 hl fun _ _ => rfl
theorem b_absence_or_nothing {K : PySem.W.Frag} {mg : Str → Option Value} (T : Tx K mg) : Binds K T.f_absence_or_nothing.d ["assembly", "member"] [] := T.f_absence_or_nothing.F.binds fun _ _ _ _ _ _ _ hl => vec2 hl fun _ _ => rfl
theorem b_move_refusal {K : PySem.W.Frag} {mg : Str → Option Value} (T : Tx K mg) : Binds K T.f_move_refusal.d ["assembly", "member", "words"] [] := T.f_move_refusal.F.binds fun _ _ _ _ _ _ _ hl => vec3 hl fun _ _ _ => rfl
theorem b_move {K : PySem.W.Frag} {mg : Str → Option Value} (T : Tx K mg) : Binds K T.f_move.d ["assembly", "member", "words"] [] := T.f_move.F.binds fun _ _ _ _ _ _ _ hl => vec3 hl fun _ _ _ => rfl
theorem b_words_to_amend {K : PySem.W.Frag} {mg : Str → Option Value} (T : Tx K mg) : Binds K T.f_words_to_amend.d ["main"] [] := T.f_words_to_amend.F.binds fun _ _ _ _ _ _ _ hl => vec1 hl fun _ => rfl
theorem b_place_refusal {K : PySem.W.Frag} {mg : Str → Option Value} (T : Tx K mg) : Binds K T.f_place_refusal.d ["assembly", "start", "stop", "words"] [] := T.f_place_refusal.F.binds fun _ _ _ _ _ _ _ hl => vec4 hl fun _ _ _ _ => rfl
theorem b_amend_refusal {K : PySem.W.Frag} {mg : Str → Option Value} (T : Tx K mg) : Binds K T.f_amend_refusal.d ["assembly", "member", "start", "stop", "words"] [] := T.f_amend_refusal.F.binds fun _ _ _ _ _ _ _ hl => vec5 hl fun _ _ _ _ _ => rfl
theorem b_amend {K : PySem.W.Frag} {mg : Str → Option Value} (T : Tx K mg) : Binds K T.f_amend.d ["assembly", "member", "start", "stop", "words"] [] := T.f_amend.F.binds fun _ _ _ _ _ _ _ hl => vec5 hl fun _ _ _ _ _ => rfl
theorem b_go_refusal {K : PySem.W.Frag} {mg : Str → Option Value} (T : Tx K mg) : Binds K T.f_go_refusal.d ["assembly", "member", "how"] [] := T.f_go_refusal.F.binds fun _ _ _ _ _ _ _ hl => vec3 hl fun _ _ _ => rfl
theorem b_go {K : PySem.W.Frag} {mg : Str → Option Value} (T : Tx K mg) : Binds K T.f_go.d ["assembly", "member", "how"] [] := T.f_go.F.binds fun _ _ _ _ _ _ _ hl => vec3 hl fun _ _ _ => rfl
theorem b_divide_refusal {K : PySem.W.Frag} {mg : Str → Option Value} (T : Tx K mg) : Binds K T.f_divide_refusal.d ["assembly", "member", "place"] [] := T.f_divide_refusal.F.binds fun _ _ _ _ _ _ _ hl => vec3 hl fun _ _ _ => rfl
theorem b_divide {K : PySem.W.Frag} {mg : Str → Option Value} (T : Tx K mg) : Binds K T.f_divide.d ["assembly", "member", "place"] [] := T.f_divide.F.binds fun _ _ _ _ _ _ _ hl => vec3 hl fun _ _ _ => rfl
theorem b_withdraw {K : PySem.W.Frag} {mg : Str → Option Value} (T : Tx K mg) : Binds K T.f_withdraw.d ["assembly", "member"] [] := T.f_withdraw.F.binds fun _ _ _ _ _ _ _ hl => vec2 hl fun _ _ => rfl
theorem b_take_refusal {K : PySem.W.Frag} {mg : Str → Option Value} (T : Tx K mg) : Binds K T.f_take_refusal.d ["assembly", "member", "which"] [] := T.f_take_refusal.F.binds fun _ _ _ _ _ _ _ hl => vec3 hl fun _ _ _ => rfl
theorem b_take {K : PySem.W.Frag} {mg : Str → Option Value} (T : Tx K mg) : Binds K T.f_take.d ["assembly", "member", "which"] [] := T.f_take.F.binds fun _ _ _ _ _ _ _ hl => vec3 hl fun _ _ _ => rfl
theorem b_tell_asked {K : PySem.W.Frag} {mg : Str → Option Value} (T : Tx K mg) : Binds K T.f_tell_asked.d ["assembly"] [] := T.f_tell_asked.F.binds fun _ _ _ _ _ _ _ hl => vec1 hl fun _ => rfl
theorem b_tell_words {K : PySem.W.Frag} {mg : Str → Option Value} (T : Tx K mg) : Binds K T.f_tell_words.d ["words"] [] := T.f_tell_words.F.binds fun _ _ _ _ _ _ _ hl => vec1 hl fun _ => rfl
theorem b_tell_amendment {K : PySem.W.Frag} {mg : Str → Option Value} (T : Tx K mg) : Binds K T.f_tell_amendment.d ["amendment"] [] := T.f_tell_amendment.F.binds fun _ _ _ _ _ _ _ hl => vec1 hl fun _ => rfl
theorem b_tell_text {K : PySem.W.Frag} {mg : Str → Option Value} (T : Tx K mg) : Binds K T.f_tell_text.d ["assembly"] [] := T.f_tell_text.F.binds fun _ _ _ _ _ _ _ hl => vec1 hl fun _ => rfl
theorem b_tell_passed {K : PySem.W.Frag} {mg : Str → Option Value} (T : Tx K mg) : Binds K T.f_tell_passed.d ["assembly", "text"] [] := T.f_tell_passed.F.binds fun _ _ _ _ _ _ _ hl => vec2 hl fun _ _ => rfl
theorem b_voters_for {K : PySem.W.Frag} {mg : Str → Option Value} (T : Tx K mg) : Binds K T.f_voters_for.d ["assembly", "passed", "word"] [] := T.f_voters_for.F.binds fun _ _ _ _ _ _ _ hl => vec3 hl fun _ _ _ => rfl
theorem b_tell_who {K : PySem.W.Frag} {mg : Str → Option Value} (T : Tx K mg) : Binds K T.f_tell_who.d ["assembly", "text", "place"] [] := T.f_tell_who.F.binds fun _ _ _ _ _ _ _ hl => vec3 hl fun _ _ _ => rfl
theorem b_tell_votes {K : PySem.W.Frag} {mg : Str → Option Value} (T : Tx K mg) : Binds K T.f_tell_votes.d ["assembly"] [] := T.f_tell_votes.F.binds fun _ _ _ _ _ _ _ hl => vec1 hl fun _ => rfl
theorem b_vote_refusal {K : PySem.W.Frag} {mg : Str → Option Value} (T : Tx K mg) : Binds K T.f_vote_refusal.d ["assembly", "chair", "members"] [] := T.f_vote_refusal.F.binds fun _ _ _ _ _ _ _ hl => vec3 hl fun _ _ _ => rfl
theorem b_is_carried {K : PySem.W.Frag} {mg : Str → Option Value} (T : Tx K mg) : Binds K T.f_is_carried.d ["assembly", "chair", "weight_for", "weight_against"] [] := T.f_is_carried.F.binds fun _ _ _ _ _ _ _ hl => vec4 hl fun _ _ _ _ => rfl
theorem b_vote {K : PySem.W.Frag} {mg : Str → Option Value} (T : Tx K mg) : Binds K T.f_vote.d ["assembly", "chair", "those_for", "those_against"] [] := T.f_vote.F.binds fun _ _ _ _ _ _ _ hl => vec4 hl fun _ _ _ _ => rfl
theorem b_call_begins {K : PySem.W.Frag} {mg : Str → Option Value} (T : Tx K mg) : Binds K T.f_call_begins.d ["assembly", "numbers"] [] := T.f_call_begins.F.binds fun _ _ _ _ _ _ _ hl => vec2 hl fun _ _ => rfl
theorem b_call_member {K : PySem.W.Frag} {mg : Str → Option Value} (T : Tx K mg) : Binds K T.f_call_member.d ["assembly", "numbers"] [] := T.f_call_member.F.binds fun _ _ _ _ _ _ _ hl => vec2 hl fun _ _ => rfl
theorem b_call_comes {K : PySem.W.Frag} {mg : Str → Option Value} (T : Tx K mg) : Binds K T.f_call_comes.d ["assembly", "numbers"] [] := T.f_call_comes.F.binds fun _ _ _ _ _ _ _ hl => vec2 hl fun _ _ => rfl
theorem b_call_move {K : PySem.W.Frag} {mg : Str → Option Value} (T : Tx K mg) : Binds K T.f_call_move.d ["assembly", "numbers"] [] := T.f_call_move.F.binds fun _ _ _ _ _ _ _ hl => vec2 hl fun _ _ => rfl
theorem b_call_amend {K : PySem.W.Frag} {mg : Str → Option Value} (T : Tx K mg) : Binds K T.f_call_amend.d ["assembly", "numbers"] [] := T.f_call_amend.F.binds fun _ _ _ _ _ _ _ hl => vec2 hl fun _ _ => rfl
theorem b_call_go {K : PySem.W.Frag} {mg : Str → Option Value} (T : Tx K mg) : Binds K T.f_call_go.d ["assembly", "numbers"] [] := T.f_call_go.F.binds fun _ _ _ _ _ _ _ hl => vec2 hl fun _ _ => rfl
theorem b_call_divide {K : PySem.W.Frag} {mg : Str → Option Value} (T : Tx K mg) : Binds K T.f_call_divide.d ["assembly", "numbers"] [] := T.f_call_divide.F.binds fun _ _ _ _ _ _ _ hl => vec2 hl fun _ _ => rfl
theorem b_call_withdraw {K : PySem.W.Frag} {mg : Str → Option Value} (T : Tx K mg) : Binds K T.f_call_withdraw.d ["assembly", "numbers"] [] := T.f_call_withdraw.F.binds fun _ _ _ _ _ _ _ hl => vec2 hl fun _ _ => rfl
theorem b_call_take {K : PySem.W.Frag} {mg : Str → Option Value} (T : Tx K mg) : Binds K T.f_call_take.d ["assembly", "numbers"] [] := T.f_call_take.F.binds fun _ _ _ _ _ _ _ hl => vec2 hl fun _ _ => rfl
theorem b_call_vote {K : PySem.W.Frag} {mg : Str → Option Value} (T : Tx K mg) : Binds K T.f_call_vote.d ["assembly", "numbers"] [] := T.f_call_vote.F.binds fun _ _ _ _ _ _ _ hl => vec2 hl fun _ _ => rfl
theorem b_call_asked {K : PySem.W.Frag} {mg : Str → Option Value} (T : Tx K mg) : Binds K T.f_call_asked.d ["assembly", "numbers"] [] := T.f_call_asked.F.binds fun _ _ _ _ _ _ _ hl => vec2 hl fun _ _ => rfl
theorem b_call_text {K : PySem.W.Frag} {mg : Str → Option Value} (T : Tx K mg) : Binds K T.f_call_text.d ["assembly", "numbers"] [] := T.f_call_text.F.binds fun _ _ _ _ _ _ _ hl => vec2 hl fun _ _ => rfl
theorem b_call_passed {K : PySem.W.Frag} {mg : Str → Option Value} (T : Tx K mg) : Binds K T.f_call_passed.d ["assembly", "numbers"] [] := T.f_call_passed.F.binds fun _ _ _ _ _ _ _ hl => vec2 hl fun _ _ => rfl
theorem b_call_who {K : PySem.W.Frag} {mg : Str → Option Value} (T : Tx K mg) : Binds K T.f_call_who.d ["assembly", "numbers"] [] := T.f_call_who.F.binds fun _ _ _ _ _ _ _ hl => vec2 hl fun _ _ => rfl
theorem b_call_votes {K : PySem.W.Frag} {mg : Str → Option Value} (T : Tx K mg) : Binds K T.f_call_votes.d ["assembly", "numbers"] [] := T.f_call_votes.F.binds fun _ _ _ _ _ _ _ hl => vec2 hl fun _ _ => rfl
theorem b_answers {K : PySem.W.Frag} {mg : Str → Option Value} (T : Tx K mg) : Binds K T.f_answers.d ["calls"] [] := T.f_answers.F.binds fun _ _ _ _ _ _ _ hl => vec1 hl fun _ => rfl
end My

end

section
set_option Elab.async false
set_option linter.all false
set_option maxRecDepth 100000
set_option maxHeartbeats 4000000
namespace L2
open PySem PySem.Spec PyProof.Rows
/-- what bears a tag of S stays -/
def Fr_ (S : Tag → Prop) (R : Rg) (H : Hp) (R' : Rg) (H' : Hp) : Prop := ∀ c t o, S t → At R H c t o → At R' H' c t o
/-- all that is stays -/
abbrev Fa (R : Rg) (H : Hp) (R' : Rg) (H' : Hp) : Prop := Fr_ (fun _ => True) R H R' H'
theorem Fr_.refl {S : Tag → Prop} {R : Rg} {H : Hp} : Fr_ S R H R H := fun _ _ _ _ h => h
theorem Fr_.trans {S : Tag → Prop} {R R' R2 : Rg} {H H' H2 : Hp} (p : Fr_ S R H R' H') (q : Fr_ S R' H' R2 H2) : Fr_ S R H R2 H2 := fun c t o s h => q c t o s (p c t o s h)
theorem Fr_.put {t0 : Tag} {R : Rg} {H : Hp} {a : Addr} {x : HO} (h : R a = t0) : Fr_ (fun t => t ≠ t0) R H R (upd H a x) := fun c t o s k => k.put h s
theorem Fr_.new {S : Tag → Prop} {t0 : Tag} {R : Rg} {H : Hp} {a : Addr} {x : HO} (h : H a = none) : Fr_ S R H (setR R a t0) (upd H a x) := fun c t o s k => k.new h
theorem Fr_.mono {S S' : Tag → Prop} {R R' : Rg} {H H' : Hp} (p : Fr_ S R H R' H') (q : ∀ t, S' t → S t) : Fr_ S' R H R' H' := fun c t o s h => p c t o (q t s) h
theorem Fr_.a {S : Tag → Prop} {R R' : Rg} {H H' : Hp} (p : Fa R H R' H') : Fr_ S R H R' H' := p.mono fun _ _ => trivial
/-- none of the written parts is touched -/
theorem Fr_.kp {S : Tag → Prop} {R R' : Rg} {H H' : Hp} (p : Fr_ S R H R' H') (q : ∀ t, (∀ k i, t ≠ .mut k i) → S t) : Kp R H R' H' := fun b o n h => by
  obtain ⟨h1, h2⟩ := p b (R b) o (q _ n) ⟨rfl, h⟩
  exact ⟨h2, h1⟩
theorem Fr_.kpa {R R' : Rg} {H H' : Hp} (p : Fa R H R' H') : Kp R H R' H' := p.kp fun _ _ => trivial
theorem Fr_.kpm {R R' : Rg} {H H' : Hp} {k i : Nat} (p : Fr_ (fun t => t ≠ .mut k i) R H R' H') : Kp R H R' H' := p.kp fun _ n => n k i
theorem paired_imp {α β : Type} {F G : α → β → Prop} (f : ∀ a b, F a b → G a b) {l : List α} {r : List β} (h : Paired F l r) : Paired G l r := Paired.mapP h f
section
variable {α β : Type} {F : α → β → Prop}
theorem pd_len {l : List α} {r : List β} (h : Paired F l r) : l.length = r.length := by
  induction h with
  | nil => rfl
  | cons _ _ ih => rw [List.length_cons, List.length_cons, ih]
theorem pd_take {l : List α} {r : List β} (h : Paired F l r) : ∀ k, Paired F (l.take k) (r.take k) := by
  induction h with
  | nil => intro k; rw [List.take_nil, List.take_nil]; exact .nil
  | cons x _ ih =>
    intro k
    cases k with
    | zero => exact .nil
    | succ k => exact .cons x (ih k)
theorem pd_drop {l : List α} {r : List β} (h : Paired F l r) : ∀ k, Paired F (l.drop k) (r.drop k) := by
  induction h with
  | nil => intro k; rw [List.drop_nil, List.drop_nil]; exact .nil
  | cons x t ih =>
    intro k
    cases k with
    | zero => exact .cons x t
    | succ k => exact ih k
theorem pd_app {l l' : List α} {r r' : List β} (h : Paired F l r) (h' : Paired F l' r') : Paired F (l ++ l') (r ++ r') := by
  induction h with
  | nil => exact h'
  | cons x _ ih => exact .cons x ih
theorem pd_snoc {l : List α} {r : List β} {a : α} {b : β} (h : Paired F l r) (x : F a b) : Paired F (l ++ [a]) (r ++ [b]) := pd_app h (.cons x .nil)
theorem pd_at {l : List α} {r : List β} (h : Paired F l r) : ∀ {k : Nat} {b : β}, r[k]? = some b → ∃ a, l[k]? = some a ∧ F a b := by
  induction h with
  | nil => intro k b e; rw [List.getElem?_nil] at e; cases e
  | cons x _ ih =>
    intro k b e
    cases k with
    | zero => cases e; exact ⟨_, rfl, x⟩
    | succ k => exact ih e
theorem pd_erase {l : List α} {r : List β} (h : Paired F l r) : ∀ k, Paired F (l.eraseIdx k) (r.eraseIdx k) := by
  induction h with
  | nil => intro k; rw [List.eraseIdx_nil, List.eraseIdx_nil]; exact .nil
  | cons x t ih =>
    intro k
    cases k with
    | zero => exact t
    | succ k => exact .cons x (ih k)
theorem pd_last {l : List α} : ∀ {r : List β} {b : β}, Paired F l (r ++ [b]) → ∃ l' a, l = l' ++ [a] ∧ Paired F l' r ∧ F a b := by
  induction l with
  | nil => intro r b h; cases r <;> cases h
  | cons x l ih =>
    intro r b h
    cases r with
    | nil =>
      cases h with
      | cons y t => cases t; exact ⟨[], x, rfl, .nil, y⟩
    | cons z r =>
      cases h with
      | cons y t =>
        obtain ⟨l', a, e, h1, h2⟩ := ih t
        exact ⟨x :: l', a, by rw [e]; rfl, .cons y h1, h2⟩
theorem pd_nil {l : List α} (h : Paired F l []) : l = [] := by cases h; rfl
theorem pd_mem {l : List α} {r : List β} {G : α → β → Prop} (h : Paired F l r) : (∀ a b, b ∈ r → F a b → G a b) → Paired G l r := by
  induction h with
  | nil => intro _; exact .nil
  | cons x t ih => intro f; exact .cons (f _ _ (List.mem_cons_self ..) x) (ih fun a b hb => f a b (List.mem_cons_of_mem _ hb))
end
end L2
namespace My
open PySem PySem.Spec PyProof.Rows L2
def asmF (q r ws th mv mn po pd vo av : V) : List (Str × V) := [("quorum", q), ("rules", r), ("weights", ws), ("there", th), ("movers", mv), ("main", mn), ("put_off", po), ("passed", pd), ("votes", vo), ("amendment_voters", av)]
section
variable {q r ws th mv mn po pd vo av v : V}
theorem asmF_quorum : (asmF q r ws th mv mn po pd vo av).lookup ("quorum" : Str) = some q := rfl
theorem asmF_rules : (asmF q r ws th mv mn po pd vo av).lookup ("rules" : Str) = some r := rfl
theorem asmF_weights : (asmF q r ws th mv mn po pd vo av).lookup ("weights" : Str) = some ws := rfl
theorem asmF_there : (asmF q r ws th mv mn po pd vo av).lookup ("there" : Str) = some th := rfl
theorem asmF_movers : (asmF q r ws th mv mn po pd vo av).lookup ("movers" : Str) = some mv := rfl
theorem asmF_main : (asmF q r ws th mv mn po pd vo av).lookup ("main" : Str) = some mn := rfl
theorem asmF_off : (asmF q r ws th mv mn po pd vo av).lookup ("put_off" : Str) = some po := rfl
theorem asmF_passed : (asmF q r ws th mv mn po pd vo av).lookup ("passed" : Str) = some pd := rfl
theorem asmF_votes : (asmF q r ws th mv mn po pd vo av).lookup ("votes" : Str) = some vo := rfl
theorem asmF_av : (asmF q r ws th mv mn po pd vo av).lookup ("amendment_voters" : Str) = some av := rfl
theorem asmF_put_main : putF "main" v (asmF q r ws th mv mn po pd vo av) = asmF q r ws th mv v po pd vo av := rfl
theorem asmF_begin : (asmF q r ws th mv mn po pd vo av).lookup ("begin" : Str) = none := rfl
theorem asmF_lt : (asmF q r ws th mv mn po pd vo av).length < 1000 := by show 10 < 1000; decide
end
def mmF (mo wo pa am fu wa cl : V) : List (Str × V) := [("motion", mo), ("words", wo), ("parts_to_come", pa), ("amendment", am), ("further_amendment", fu), ("ways_on", wa), ("closed", cl)]
section
variable {mo wo pa am fu wa cl v : V}
theorem mmF_motion : (mmF mo wo pa am fu wa cl).lookup ("motion" : Str) = some mo := rfl
theorem mmF_words : (mmF mo wo pa am fu wa cl).lookup ("words" : Str) = some wo := rfl
theorem mmF_parts : (mmF mo wo pa am fu wa cl).lookup ("parts_to_come" : Str) = some pa := rfl
theorem mmF_amd : (mmF mo wo pa am fu wa cl).lookup ("amendment" : Str) = some am := rfl
theorem mmF_fur : (mmF mo wo pa am fu wa cl).lookup ("further_amendment" : Str) = some fu := rfl
theorem mmF_ways : (mmF mo wo pa am fu wa cl).lookup ("ways_on" : Str) = some wa := rfl
theorem mmF_closed : (mmF mo wo pa am fu wa cl).lookup ("closed" : Str) = some cl := rfl
theorem mmF_put_words : putF "words" v (mmF mo wo pa am fu wa cl) = mmF mo v pa am fu wa cl := rfl
theorem mmF_put_amd : putF "amendment" v (mmF mo wo pa am fu wa cl) = mmF mo wo pa v fu wa cl := rfl
theorem mmF_put_fur : putF "further_amendment" v (mmF mo wo pa am fu wa cl) = mmF mo wo pa am v wa cl := rfl
theorem mmF_put_ways : putF "ways_on" v (mmF mo wo pa am fu wa cl) = mmF mo wo pa am fu v cl := rfl
theorem mmF_put_closed : putF "closed" v (mmF mo wo pa am fu wa cl) = mmF mo wo pa am fu wa v := rfl
theorem mmF_lt : (mmF mo wo pa am fu wa cl).length < 1000 := by show 7 < 1000; decide
end
def amF (mo st sp wo : V) : List (Str × V) := [("motion", mo), ("start", st), ("stop", sp), ("words", wo)]
section
variable {mo st sp wo v : V}
theorem amF_motion : (amF mo st sp wo).lookup ("motion" : Str) = some mo := rfl
theorem amF_start : (amF mo st sp wo).lookup ("start" : Str) = some st := rfl
theorem amF_stop : (amF mo st sp wo).lookup ("stop" : Str) = some sp := rfl
theorem amF_words : (amF mo st sp wo).lookup ("words" : Str) = some wo := rfl
theorem amF_put_words : putF "words" v (amF mo st sp wo) = amF mo st sp v := rfl
theorem amF_lt : (amF mo st sp wo).length < 1000 := by show 4 < 1000; decide
end
def wyF (mo ho : V) : List (Str × V) := [("motion", mo), ("how", ho)]
theorem wyF_motion {mo ho : V} : (wyF mo ho).lookup ("motion" : Str) = some mo := rfl
theorem wyF_how {mo ho : V} : (wyF mo ho).lookup ("how" : Str) = some ho := rfl
def wdF (nu mo : V) : List (Str × V) := [("number", nu), ("motion", mo)]
theorem wdF_number {nu mo : V} : (wdF nu mo).lookup ("number" : Str) = some nu := rfl
theorem wdF_motion {nu mo : V} : (wdF nu mo).lookup ("motion" : Str) = some mo := rfl
def psF (mo wo vo : V) : List (Str × V) := [("motion", mo), ("words", wo), ("voters", vo)]
theorem psF_motion {mo wo vo : V} : (psF mo wo vo).lookup ("motion" : Str) = some mo := rfl
theorem psF_words {mo wo vo : V} : (psF mo wo vo).lookup ("words" : Str) = some wo := rfl
theorem psF_voters {mo wo vo : V} : (psF mo wo vo).lookup ("voters" : Str) = some vo := rfl
def vtF (mo sk ca : V) : List (Str × V) := [("motion", mo), ("asked", sk), ("carried", ca)]
theorem vtF_motion {mo sk ca : V} : (vtF mo sk ca).lookup ("motion" : Str) = some mo := rfl
theorem vtF_asked {mo sk ca : V} : (vtF mo sk ca).lookup ("asked" : Str) = some sk := rfl
theorem vtF_carried {mo sk ca : V} : (vtF mo sk ca).lookup ("carried" : Str) = some ca := rfl
section
variable {K : PySem.W.Frag} {mg : Str → Option Value} (T : Tx K mg)
def nl (l : List Nat) : List V := l.map fun (n : Nat) => V.int (n : Int)
def wts (s : Si50.St) : List V := s.members.map fun m => V.int (m.weight : Int)
def thr (s : Si50.St) : List V := s.members.map fun m => V.bl m.here
def mvs (s : Si50.St) : List V := nl s.moved
def WordAt (R : Rg) (H : Hp) (v : V) (x : Si50.Token) : Prop := ∃ y dy, v = .ref y ∧ At R H y .oth (.ins T.C_Word.c dy (wdF (.int (x.word : Int)) (.int (x.by_ : Int))))
def TxtAt (R : Rg) (H : Hp) (x : Addr) (t : Si50.Text) : Prop := ∃ ws, At R H x .oth (.lst ws) ∧ Paired (WordAt T R H) ws t
def WordsAt (R : Rg) (H : Hp) (v : V) (t : Si50.Text) : Prop := ∃ x, v = .ref x ∧ TxtAt T R H x t
structure AmdC (R : Rg) (H : Hp) (x dx aw : Addr) (a : Si50.Amend) : Prop where
  o : At R H x (.mut 11 a.id) (.ins T.C_Amendment.c dx (amF (.int (a.id : Int)) (.int (a.i : Int)) (.int (a.j : Int)) (.ref aw)))
  w : TxtAt T R H aw a.words
def AmdAt (R : Rg) (H : Hp) (v : V) : Option Si50.Amend → Prop
  | none => v = .non
  | some a => ∃ x dx aw, v = .ref x ∧ AmdC T R H x dx aw a
def WayAt (R : Rg) (H : Hp) (v : V) (x : Nat × Nat × Si50.Proc) : Prop := ∃ y dy, v = .ref y ∧ At R H y .oth (.ins T.C_WayOn.c dy (wyF (.int (x.1 : Int)) (.int (Si50.rank x.2.2 : Int))))
structure BefAt (R : Rg) (H : Hp) (b : Addr) (bf : Si50.Before) (dx aw aP aY : Addr) (am fu : V) (ps ys : List V) : Prop where
  o : At R H b (.mut 8 bf.id) (.ins T.C_MainMotion.c dx (mmF (.int (bf.id : Int)) (.ref aw) (.ref aP) am fu (.ref aY) (.bl bf.closed)))
  w : TxtAt T R H aw bf.text
  p : At R H aP (.mut 9 bf.id) (.lst ps)
  pp : Paired (WordsAt T R H) ps bf.parts
  y : At R H aY (.mut 10 bf.id) (.lst ys)
  yy : Paired (WayAt T R H) ys bf.procs.reverse
  f : AmdAt T R H am bf.first
  s : AmdAt T R H fu bf.second
def Bef (R : Rg) (H : Hp) (b : Addr) (bf : Si50.Before) : Prop := ∃ dx aw aP aY am fu ps ys, BefAt T R H b bf dx aw aP aY am fu ps ys
def BefV (R : Rg) (H : Hp) (v : V) (b : Si50.Before) : Prop := ∃ x, v = .ref x ∧ Bef T R H x b
def MainAt (R : Rg) (H : Hp) (v : V) : Option Si50.Before → Prop
  | none => v = .non
  | some b => BefV T R H v b
def kd : Si50.Major → Int
  | .simple => 0
  | .present => 1
  | .all => 2
  | .thirds => 3
  | .none_ => 4
def rl (r : Si50.Rules) : List V := [.int (kd r.main), .int (kd r.amend), .int (kd r.refer), .int (kd r.close), .int (kd r.table)]
def PassAt (R : Rg) (H : Hp) (votes : List Si50.Vote) (v : V) (t : Si50.Passed) : Prop := ∃ x dx aw vl u, v = .ref x ∧ At R H x .oth (.ins T.C_PassedText.c dx (psF (.int (t.id : Int)) (.ref aw) (.ref vl))) ∧ TxtAt T R H aw t.text ∧ votes[t.vote]? = some u ∧ At R H vl .oth (.lst (nl u.yes))
def VoteAt (R : Rg) (H : Hp) (v : V) (u : Si50.Vote) : Prop := ∃ x dx, v = .ref x ∧ At R H x .oth (.ins T.C_Vote.c dx (vtF (.int (u.id : Int)) (.int (Si50.questionOut u.question : Int)) (.int (if u.carried = true then 1 else 0))))
def DicOk (R : Rg) (H : Hp) (kvs : List (Key × V)) (votes : List Si50.Vote) : Prop := ∀ i v, SM.fnd votes i = some v → SM.IsAm v → ∃ x, valV kvs (Sum.inl (i : Int)) = some (.ref x) ∧ At R H x .oth (.lst (nl v.yes))
/-- the assembly with all its addresses; dv: the votes that the dict knows -/
structure AsmC (R : Rg) (H : Hp) (p : Addr) (s : Si50.St) (dv : List Si50.Vote) (dx aR aW aT aM : Addr) (mn : V) (aO aP aV aD : Addr) (os ps vs : List V) (kvs : List (Key × V)) : Prop where
  o : At R H p (.mut 0 0) (.ins T.C_Assembly.c dx (asmF (.int (s.rules.quorum : Int)) (.ref aR) (.ref aW) (.ref aT) (.ref aM) mn (.ref aO) (.ref aP) (.ref aV) (.ref aD)))
  r : KTu K aR (rl s.rules) ∨ At R H aR .oth (.tup (rl s.rules))
  w : At R H aW (.mut 1 0) (.lst (wts s))
  t : At R H aT (.mut 2 0) (.lst (thr s))
  m : At R H aM (.mut 3 0) (.lst (mvs s))
  b : MainAt T R H mn s.before
  f : At R H aO (.mut 4 0) (.lst os)
  ff : Paired (BefV T R H) os s.tabled
  p : At R H aP (.mut 5 0) (.lst ps)
  pp : Paired (PassAt T R H s.votes) ps s.passed
  v : At R H aV (.mut 6 0) (.lst vs)
  vv : Paired (VoteAt T R H) vs s.votes
  d : At R H aD (.mut 7 0) (.dK kvs)
  dl : kvs.length ≤ dv.length
  dd : DicOk R H kvs dv
def AsmX (R : Rg) (H : Hp) (p : Addr) (s : Si50.St) (dv : List Si50.Vote) : Prop := ∃ dx aR aW aT aM mn aO aP aV aD os ps vs kvs, AsmC T R H p s dv dx aR aW aT aM mn aO aP aV aD os ps vs kvs
abbrev Asm (R : Rg) (H : Hp) (p : Addr) (s : Si50.St) : Prop := AsmX T R H p s s.votes
variable {T} {R R' : Rg} {H H' : Hp} {S : Tag → Prop}
theorem WordAt.fr {v : V} {t : Si50.Token} (h : WordAt T R H v t) (f : Fr_ S R H R' H') (ho : S .oth) : WordAt T R' H' v t := by
  obtain ⟨x, dx, e, h⟩ := h
  exact ⟨x, dx, e, f _ _ _ ho h⟩
theorem TxtAt.fr {v : Addr} {t : Si50.Text} (h : TxtAt T R H v t) (f : Fr_ S R H R' H') (ho : S .oth) : TxtAt T R' H' v t := by
  obtain ⟨x, h, p⟩ := h
  exact ⟨x, f _ _ _ ho h, paired_imp (fun _ _ z => z.fr f ho) p⟩
theorem WordsAt.fr {v : V} {t : Si50.Text} (h : WordsAt T R H v t) (f : Fr_ S R H R' H') (ho : S .oth) : WordsAt T R' H' v t := by
  obtain ⟨x, e, h⟩ := h
  exact ⟨x, e, h.fr f ho⟩
theorem AmdC.fr {x dx aw : Addr} {a : Si50.Amend} (h : AmdC T R H x dx aw a) (f : Fr_ S R H R' H') (ho : S .oth) (ha : S (.mut 11 a.id)) : AmdC T R' H' x dx aw a := ⟨f _ _ _ ha h.o, h.w.fr f ho⟩
theorem AmdAt.fr {v : V} {a : Option Si50.Amend} (h : AmdAt T R H v a) (f : Fr_ S R H R' H') (ho : S .oth) (ha : ∀ x, a = some x → S (.mut 11 x.id)) : AmdAt T R' H' v a := by
  cases a with
  | none => exact h
  | some a =>
    obtain ⟨x, dx, aw, e, h1⟩ := h
    exact ⟨x, dx, aw, e, h1.fr f ho (ha a rfl)⟩
theorem WayAt.fr {v : V} {x : Nat × Nat × Si50.Proc} (h : WayAt T R H v x) (f : Fr_ S R H R' H') (ho : S .oth) : WayAt T R' H' v x := by
  obtain ⟨y, dy, e, h⟩ := h
  exact ⟨y, dy, e, f _ _ _ ho h⟩
/-- the tags of a main motion's own -/
def mine (bf : Si50.Before) (t : Tag) : Prop := t = .mut 8 bf.id ∨ t = .mut 9 bf.id ∨ t = .mut 10 bf.id ∨ ∃ x, SM.has bf x ∧ t = .mut 11 x.id
def own (bf : Si50.Before) (t : Tag) : Prop := t = .oth ∨ mine bf t
theorem BefAt.fr {b : Addr} {bf : Si50.Before} {dx aw aP aY : Addr} {am fu : V} {ps ys : List V} (h : BefAt T R H b bf dx aw aP aY am fu ps ys) (f : Fr_ S R H R' H') (hS : ∀ t, own bf t → S t) : BefAt T R' H' b bf dx aw aP aY am fu ps ys := by
  have ho := hS .oth (.inl rfl)
  refine ⟨f _ _ _ (hS _ (.inr (.inl rfl))) h.o, h.w.fr f ho, f _ _ _ (hS _ (.inr (.inr (.inl rfl)))) h.p, paired_imp (fun _ _ z => z.fr f ho) h.pp, f _ _ _ (hS _ (.inr (.inr (.inr (.inl rfl))))) h.y, paired_imp (fun _ _ z => z.fr f ho) h.yy, h.f.fr f ho fun x e => ?_, h.s.fr f ho fun x e => ?_⟩
  · exact hS _ (.inr (.inr (.inr (.inr ⟨x, .inl e, rfl⟩))))
  · exact hS _ (.inr (.inr (.inr (.inr ⟨x, .inr e, rfl⟩))))
theorem Bef.fr {b : Addr} {bf : Si50.Before} (h : Bef T R H b bf) (f : Fr_ S R H R' H') (hS : ∀ t, own bf t → S t) : Bef T R' H' b bf := by
  obtain ⟨dx, aw, aP, aY, am, fu, ps, ys, h⟩ := h
  exact ⟨dx, aw, aP, aY, am, fu, ps, ys, h.fr f hS⟩
theorem BefV.fr {v : V} {b : Si50.Before} (h : BefV T R H v b) (f : Fr_ S R H R' H') (hS : ∀ t, own b t → S t) : BefV T R' H' v b := by
  obtain ⟨x, e, h⟩ := h
  exact ⟨x, e, h.fr f hS⟩
theorem MainAt.fr {v : V} {o : Option Si50.Before} (h : MainAt T R H v o) (f : Fr_ S R H R' H') (hS : ∀ b t, o = some b → own b t → S t) : MainAt T R' H' v o := by
  cases o with
  | none => exact h
  | some b => exact BefV.fr h f fun t => hS b t rfl
theorem PassAt.fr {votes : List Si50.Vote} {v : V} {t : Si50.Passed} (h : PassAt T R H votes v t) (f : Fr_ S R H R' H') (ho : S .oth) : PassAt T R' H' votes v t := by
  obtain ⟨x, dx, aw, vl, u, e, h1, h2, h3, h4⟩ := h
  exact ⟨x, dx, aw, vl, u, e, f _ _ _ ho h1, h2.fr f ho, h3, f _ _ _ ho h4⟩
theorem PassAt.more {votes : List Si50.Vote} {v : V} {t : Si50.Passed} (h : PassAt T R H votes v t) (l : List Si50.Vote) : PassAt T R H (votes ++ l) v t := by
  obtain ⟨x, dx, aw, vl, u, e, h1, h2, h3, h4⟩ := h
  exact ⟨x, dx, aw, vl, u, e, h1, h2, by rw [List.getElem?_append_left (List.getElem?_eq_some_iff.mp h3).1]; exact h3, h4⟩
theorem VoteAt.fr {v : V} {u : Si50.Vote} (h : VoteAt T R H v u) (f : Fr_ S R H R' H') (ho : S .oth) : VoteAt T R' H' v u := by
  obtain ⟨x, dx, e, h⟩ := h
  exact ⟨x, dx, e, f _ _ _ ho h⟩
theorem DicOk.fr {kvs : List (Key × V)} {votes : List Si50.Vote} (h : DicOk R H kvs votes) (f : Fr_ S R H R' H') (ho : S .oth) : DicOk R' H' kvs votes := fun i v h1 h2 => by
  obtain ⟨x, h3, h4⟩ := h i v h1 h2
  exact ⟨x, h3, f _ _ _ ho h4⟩
/-- no tag of a main motion's is one of the assembly's -/
theorem own_ne {b : Si50.Before} {t : Tag} {k i : Nat} (h : own b t) (hk : k < 8) : t ≠ .mut k i := by
  rcases h with rfl | rfl | rfl | rfl | ⟨x, _, rfl⟩
  · exact nofun
  all_goals
    intro e
    injection e with e1 e2
    omega
theorem own_told {b : Si50.Before} {t : Tag} (h : own b t) : t ≠ .told := by
  rcases h with rfl | rfl | rfl | rfl | ⟨x, _, rfl⟩ <;> exact nofun
section
variable {p : Addr} {s : Si50.St} {dv : List Si50.Vote} {dx aR aW aT aM : Addr} {mn : V} {aO aP aV aD : Addr} {os ps vs : List V} {kvs : List (Key × V)}
/-- new things leave the assembly as it was -/
theorem AsmC.fr (h : AsmC T R H p s dv dx aR aW aT aM mn aO aP aV aD os ps vs kvs) (f : Fr_ S R H R' H') (h0 : S .oth) (hk : ∀ k, k < 8 → S (.mut k 0)) (hb : ∀ b, b ∈ SM.pend s → ∀ t, own b t → S t) : AsmC T R' H' p s dv dx aR aW aT aM mn aO aP aV aD os ps vs kvs :=
  ⟨f _ _ _ (hk 0 (by decide)) h.o, h.r.imp id (f _ _ _ h0), f _ _ _ (hk 1 (by decide)) h.w, f _ _ _ (hk 2 (by decide)) h.t, f _ _ _ (hk 3 (by decide)) h.m, h.b.fr f fun b t e => hb b (by unfold SM.pend; rw [e]; exact List.mem_append_left _ (List.mem_singleton.mpr rfl)) t,
   f _ _ _ (hk 4 (by decide)) h.f, pd_mem h.ff fun _ b hm z => z.fr f (hb b (List.mem_append_right _ hm)), f _ _ _ (hk 5 (by decide)) h.p, paired_imp (fun _ _ z => z.fr f h0) h.pp, f _ _ _ (hk 6 (by decide)) h.v, paired_imp (fun _ _ z => z.fr f h0) h.vv, f _ _ _ (hk 7 (by decide)) h.d, h.dl, h.dd.fr f h0⟩
theorem AsmC.fa (h : AsmC T R H p s dv dx aR aW aT aM mn aO aP aV aD os ps vs kvs) (f : Fa R H R' H') : AsmC T R' H' p s dv dx aR aW aT aM mn aO aP aV aD os ps vs kvs := h.fr f trivial (fun _ _ => trivial) fun _ _ _ _ => trivial
theorem AsmX.fa (h : AsmX T R H p s dv) (f : Fa R H R' H') : AsmX T R' H' p s dv := by
  obtain ⟨dx, aR, aW, aT, aM, mn, aO, aP, aV, aD, os, ps, vs, kvs, h⟩ := h
  exact ⟨dx, aR, aW, aT, aM, mn, aO, aP, aV, aD, os, ps, vs, kvs, h.fa f⟩
theorem AsmX.told (h : AsmX T R H p s dv) (f : Fr_ (fun t => t ≠ .told) R H R' H') : AsmX T R' H' p s dv := by
  obtain ⟨dx, aR, aW, aT, aM, mn, aO, aP, aV, aD, os, ps, vs, kvs, h⟩ := h
  exact ⟨dx, aR, aW, aT, aM, mn, aO, aP, aV, aD, os, ps, vs, kvs, h.fr f nofun (fun _ _ => nofun) fun b _ t o => own_told o⟩
/-- ids of one main motion are none of another's -/
theorem mine_ne {b c : Si50.Before} {t : Tag} (hd : ∀ i, i ∈ SM.ids b → i ∈ SM.ids c → False) (h : own c t) (hm : mine b t) : False := by
  have hb : b.id ∈ SM.ids b := List.mem_cons_self ..
  have hc : c.id ∈ SM.ids c := List.mem_cons_self ..
  rcases h with rfl | rfl | rfl | rfl | ⟨x, hx, rfl⟩ <;> rcases hm with e | e | e | ⟨y, hy, e⟩ <;> first | cases e | (injection e with e1 e2; first | omega | (exact hd _ hb (e2 ▸ hc)) | exact hd _ (SM.has_mem hy) (e2 ▸ SM.has_mem hx))
/-- what is before the assembly is changed, the rest stays -/
theorem AsmC.main {b : Si50.Before} {o : Option Si50.Before} {mn' : V} (h : AsmC T R H p s dv dx aR aW aT aM mn aO aP aV aD os ps vs kvs) (hb : s.before = some b) (nd : ((SM.pend s).flatMap SM.ids).Nodup) (f : Fr_ (fun t => ¬ mine b t ∧ t ≠ .mut 0 0) R H R' H')
    (ho : At R' H' p (.mut 0 0) (.ins T.C_Assembly.c dx (asmF (.int (s.rules.quorum : Int)) (.ref aR) (.ref aW) (.ref aT) (.ref aM) mn' (.ref aO) (.ref aP) (.ref aV) (.ref aD)))) (new : MainAt T R' H' mn' o) : AsmC T R' H' p { s with before := o } dv dx aR aW aT aM mn' aO aP aV aD os ps vs kvs := by
  have nm : ∀ k, k < 8 → ¬ mine b (.mut k 0) := fun k hk z => own_ne (.inr z) hk rfl
  have hk : ∀ k, 0 < k → k < 8 → ¬ mine b (.mut k 0) ∧ Tag.mut k 0 ≠ .mut 0 0 := fun k h0 h8 => ⟨nm k h8, fun e => by injection e with e1 _; omega⟩
  have h0 : ¬ mine b .oth ∧ Tag.oth ≠ .mut 0 0 := ⟨(by rintro (e | e | e | ⟨_, _, e⟩) <;> cases e), nofun⟩
  refine ⟨ho, h.r.imp id (f _ _ _ h0), f _ _ _ (hk 1 (by decide) (by decide)) h.w, f _ _ _ (hk 2 (by decide) (by decide)) h.t, f _ _ _ (hk 3 (by decide) (by decide)) h.m, new,
   f _ _ _ (hk 4 (by decide) (by decide)) h.f, pd_mem h.ff fun _ c hm z => z.fr f fun t ht => ⟨fun hm' => ?_, own_ne ht (by decide)⟩, f _ _ _ (hk 5 (by decide) (by decide)) h.p, paired_imp (fun _ _ z => z.fr f h0) h.pp, f _ _ _ (hk 6 (by decide) (by decide)) h.v, paired_imp (fun _ _ z => z.fr f h0) h.vv, f _ _ _ (hk 7 (by decide) (by decide)) h.d, h.dl, h.dd.fr f h0⟩
  rw [SM.pend_some hb, List.flatMap_cons] at nd
  exact mine_ne (fun i h1 h2 => (List.nodup_append.mp nd).2.2 i h1 i (List.mem_flatMap.mpr ⟨c, hm, h2⟩) rfl) ht hm'
/-- the main motion's own parts are changed, the assembly's record not -/
theorem AsmC.inner {b b' : Si50.Before} (h : AsmC T R H p s dv dx aR aW aT aM mn aO aP aV aD os ps vs kvs) (hb : s.before = some b) (nd : ((SM.pend s).flatMap SM.ids).Nodup) (f : Fr_ (fun t => ¬ mine b t) R H R' H') (new : BefV T R' H' mn b') :
    AsmC T R' H' p { s with before := some b' } dv dx aR aW aT aM mn aO aP aV aD os ps vs kvs :=
  h.main hb nd (f.mono fun _ z => z.1) (f _ _ _ (fun z => own_ne (.inr z) (k := 0) (i := 0) (by decide) rfl) h.o) new
/-- one of the assembly's lists is changed -/
theorem AsmC.part {k : Nat} (h : AsmC T R H p s dv dx aR aW aT aM mn aO aP aV aD os ps vs kvs) (f : Fr_ (fun t => t ≠ .mut k 0) R H R' H') (hk : k < 8) :
    (k ≠ 0 → At R' H' p (.mut 0 0) (.ins T.C_Assembly.c dx (asmF (.int (s.rules.quorum : Int)) (.ref aR) (.ref aW) (.ref aT) (.ref aM) mn (.ref aO) (.ref aP) (.ref aV) (.ref aD)))) ∧
    (KTu K aR (rl s.rules) ∨ At R' H' aR .oth (.tup (rl s.rules))) ∧ (k ≠ 1 → At R' H' aW (.mut 1 0) (.lst (wts s))) ∧ (k ≠ 2 → At R' H' aT (.mut 2 0) (.lst (thr s))) ∧ (k ≠ 3 → At R' H' aM (.mut 3 0) (.lst (mvs s))) ∧ MainAt T R' H' mn s.before ∧
    (k ≠ 4 → At R' H' aO (.mut 4 0) (.lst os)) ∧ Paired (BefV T R' H') os s.tabled ∧ (k ≠ 5 → At R' H' aP (.mut 5 0) (.lst ps)) ∧ Paired (PassAt T R' H' s.votes) ps s.passed ∧ (k ≠ 6 → At R' H' aV (.mut 6 0) (.lst vs)) ∧ Paired (VoteAt T R' H') vs s.votes ∧
    (k ≠ 7 → At R' H' aD (.mut 7 0) (.dK kvs)) ∧ kvs.length ≤ dv.length ∧ DicOk R' H' kvs dv := by
  have g : ∀ j, k ≠ j → (Tag.mut j 0) ≠ .mut k 0 := fun j n e => by injection e with e1 _; exact n e1.symm
  exact ⟨fun n => f _ _ _ (g 0 n) h.o, h.r.imp id (f _ _ _ nofun), fun n => f _ _ _ (g 1 n) h.w, fun n => f _ _ _ (g 2 n) h.t, fun n => f _ _ _ (g 3 n) h.m, h.b.fr f fun b t _ o => own_ne o hk,
    fun n => f _ _ _ (g 4 n) h.f, paired_imp (fun _ _ z => z.fr f fun t o => own_ne o hk) h.ff, fun n => f _ _ _ (g 5 n) h.p, paired_imp (fun _ _ z => z.fr f nofun) h.pp, fun n => f _ _ _ (g 6 n) h.v, paired_imp (fun _ _ z => z.fr f nofun) h.vv, fun n => f _ _ _ (g 7 n) h.d, h.dl, h.dd.fr f nofun⟩
end
end
end My

end

local macro_rules | `(tactic| simp_arith [$xs,*]) => `(tactic| simp only [L2.tRet, L2.tRetN, L2.tSeq, L2.tNext, L2.tIfS, L2.tDrop, L2.tAsg, L2.gName, L2.gSub, L2.tOp, L2.tUn, L2.rI, L2.rI0, L2.rU, L2.rEq, L2.rNe, L2.tTest, L2.tB, L2.tAnd, L2.tOr, L2.tNot, L2.tAndV, L2.tOrV, L2.tNotV, L2.tIf, L2.tVar, L2.tC, L2.tCB, L2.tCons, L2.tNil, L2.tFld, L2.sFld, L2.tCall, L2.tMeth, L2.tMake, L2.tLst, L2.tTup, L2.tLM, L2.tLM0, L2.tTruL, L2.rIxH, L2.rIxT, L2.rIxL, L2.rSlH, L2.rSlL, L2.tSl, L2.tPart, L2.tNoPart, L2.rSetL, L2.rAppend, L2.rExtend, L2.rPop, L2.rPopAt, L2.rInsert, L2.tIsN, L2.tNotN, L2.ipI, L2.tAug, L2.start, List.map_cons, List.map_nil, List.length_cons, List.length_nil, Nat.reduceAdd, Nat.reduceSub, Nat.zero_add, List.replicate_succ, List.replicate_zero, List.cons_append, List.nil_append, List.append_nil, List.getElem?_cons_zero, List.getElem?_cons_succ, List.set_cons_zero, List.set_cons_succ, Option.some.injEq, L2.V.int.injEq, L2.V.ref.injEq, L2.V.bl.injEq, L2.HO.ins.injEq, L2.HO.lst.injEq, L2.HO.tup.injEq, List.cons.injEq, exists_eq_left', exists_eq_left, exists_and_left, exists_eq_right, exists_eq_right', and_assoc, and_true, true_and, L2.cxOf_K, L2.scal_int, L2.scal_bl, L2.upd_same, L2.upd_upd, reduceCtorEq, decide_true, decide_false, Bool.not_true, Bool.not_false, decide_eq_true_eq, Bool.not_eq_true', if_true, if_false, Bool.false_eq_true, ite_true, ite_false, My.asmF_quorum, My.asmF_rules, My.asmF_weights, My.asmF_there, My.asmF_movers, My.asmF_main, My.asmF_off, My.asmF_passed, My.asmF_votes, My.asmF_av, My.asmF_put_main, My.asmF_lt, My.mmF_motion, My.mmF_words, My.mmF_parts, My.mmF_amd, My.mmF_fur, My.mmF_ways, My.mmF_closed, My.mmF_put_words, My.mmF_put_amd, My.mmF_put_fur, My.mmF_put_ways, My.mmF_put_closed, My.mmF_lt, My.amF_motion, My.amF_start, My.amF_stop, My.amF_words, My.amF_put_words, My.amF_lt, My.wyF_motion, My.wyF_how, My.wdF_number, My.wdF_motion, My.psF_motion, My.psF_words, My.psF_voters, My.vtF_motion, My.vtF_asked, My.vtF_carried, L2.tDNewK, L2.tDGet, L2.sDPut, L2.rCat, L2.tYes, Int.reduceLE, Int.reduceLT, Int.reduceEq, Int.reduceAdd, L2.wipe, L2.ne_last, L2.last_at, L2.atI_last, List.dropLast_concat, L2.cut_to, L2.cut_from, List.isEmpty_nil, List.isEmpty_cons, L2.at0, L2.at1, L2.at2, L2.cut1, L2.cut3, My.asmF_begin, $xs,*])

section
set_option Elab.async false
set_option linter.all false
set_option maxRecDepth 100000
set_option maxHeartbeats 4000000
namespace L2
open PySem PySem.Spec PyProof.Rows
theorem upd_none {H : Hp} {a b : Addr} {o : HO} (h : upd H a o b = none) : b ≠ a ∧ H b = none := by
  by_cases e : b = a
  · rw [e, upd_same] at h; cases h
  · rw [upd_ne e] at h; exact ⟨e, h⟩
theorem putF_lt {f : Str} {v : V} {fs : List (Str × V)} {n : Nat} (h : fs.length < n) : (putF f v fs).length < n + 1 := by
  have := length_putF f v fs
  omega
theorem fresh_step {R : Rg} {H : Hp} {x p C dx : Addr} {t : Tag} {fs fs' : List (Str × V)} {o : HO} (h : At R H x (.mut 0 0) (.ins C dx fs)) (hp : H p = none) :
    At (setR R p t) (upd (upd H p o) x (.ins C dx fs')) x (.mut 0 0) (.ins C dx fs') ∧ At (setR R p t) (upd (upd H p o) x (.ins C dx fs')) p t o ∧ Fr_ (fun t => t ≠ .mut 0 0) R H (setR R p t) (upd (upd H p o) x (.ins C dx fs')) := by
  have n : x ≠ p := ne_of_none h.2 hp
  have h1 := h.new (x := o) (t' := t) hp
  refine ⟨At.self h1.1, ⟨setR_same, by rw [upd_ne n.symm]; exact upd_same⟩, fun c t o s k => ?_⟩
  exact (k.new hp).put h1.1 s
theorem small {n : Nat} (h : n ≤ 1000000) : n < sizeLine := Nat.lt_of_le_of_lt h (by rw [sizeLine_eq]; decide)
theorem smal {n : Nat} (h : n ≤ 1000000) : n ≤ sizeLine := Nat.le_of_lt (small h)
end L2
namespace My
open PySem PySem.Spec PyProof.Rows L2
section
variable {P : Program} {w : World} {K : PySem.W.Frag} {mg : Str → Option Value} {base : Heap} (T : Tx K mg)
def sp_Word_init : Sp := fun vs H Q _ => ∃ (x dx : Addr) (nu mo : V), vs = [.ref x, nu, mo] ∧ H x = some (.ins T.C_Word.c dx []) ∧ Q .non (upd H x (.ins T.C_Word.c dx (wdF nu mo)))
theorem ok_Word_init : FnOk P w K mg base CX0 1 T.f_Word_init.a T.f_Word_init.d ["self", "number", "motion"] (sp_Word_init T) := by
  refine T.f_Word_init.F.ok sc_Word_init (fun vs H Q E h => ?_) (fun cdv A outer s H vs Q E hr h => ?_)
  · obtain ⟨_, _, _, _, rfl, _⟩ := h
    rfl
  · obtain ⟨x, dx, mo, wo, rfl, hx, k⟩ := h
    refine ⟨_, (pss_cons (ps_fld (pv 0) (pv 1) rfl)
      (pss_one (ps_fld (pv 0) (pv 2) rfl))), ?_⟩
    have hc := T.C_Word.cl
    simp_arith [hx, hc, n_Word_motion T, n_Word_number T]
    exact ⟨by decide, (by repeat (first | decide | apply putF_lt)), k⟩
def sp_WayOn_init : Sp := fun vs H Q _ => ∃ (x dx : Addr) (nu mo : V), vs = [.ref x, nu, mo] ∧ H x = some (.ins T.C_WayOn.c dx []) ∧ Q .non (upd H x (.ins T.C_WayOn.c dx (wyF nu mo)))
theorem ok_WayOn_init : FnOk P w K mg base CX0 1 T.f_WayOn_init.a T.f_WayOn_init.d ["self", "motion", "how"] (sp_WayOn_init T) := by
  refine T.f_WayOn_init.F.ok sc_WayOn_init (fun vs H Q E h => ?_) (fun cdv A outer s H vs Q E hr h => ?_)
  · obtain ⟨_, _, _, _, rfl, _⟩ := h
    rfl
  · obtain ⟨x, dx, mo, wo, rfl, hx, k⟩ := h
    refine ⟨_, (pss_cons (ps_fld (pv 0) (pv 1) rfl)
      (pss_one (ps_fld (pv 0) (pv 2) rfl))), ?_⟩
    have hc := T.C_WayOn.cl
    simp_arith [hx, hc, n_WayOn_motion T, n_WayOn_how T]
    exact ⟨by decide, (by repeat (first | decide | apply putF_lt)), k⟩
def sp_Amendment_init : Sp := fun vs H Q _ => ∃ (x dx : Addr) (mo st sp wo : V), vs = [.ref x, mo, st, sp, wo] ∧ H x = some (.ins T.C_Amendment.c dx []) ∧ Q .non (upd H x (.ins T.C_Amendment.c dx (amF mo st sp wo)))
theorem ok_Amendment_init : FnOk P w K mg base CX0 1 T.f_Amendment_init.a T.f_Amendment_init.d ["self", "motion", "start", "stop", "words"] (sp_Amendment_init T) := by
  refine T.f_Amendment_init.F.ok sc_Amendment_init (fun vs H Q E h => ?_) (fun cdv A outer s H vs Q E hr h => ?_)
  · obtain ⟨_, _, _, _, _, _, rfl, _⟩ := h
    rfl
  · obtain ⟨x, dx, mo, st, sp, wo, rfl, hx, k⟩ := h
    refine ⟨_, (pss_cons (ps_fld (pv 0) (pv 1) rfl)
      (pss_cons (ps_fld (pv 0) (pv 2) rfl)
      (pss_cons (ps_fld (pv 0) (pv 3) rfl)
      (pss_one (ps_fld (pv 0) (pv 4) rfl))))), ?_⟩
    have hc := T.C_Amendment.cl
    simp_arith [hx, hc, n_Amendment_motion T, n_Amendment_start T, n_Amendment_stop T, n_Amendment_words T]
    refine ⟨by decide, ?_, ?_, ?_, k⟩
    all_goals (show _ < 1000; repeat (first | decide | apply putF_lt))
def sp_PassedText_init : Sp := fun vs H Q _ => ∃ (x dx : Addr) (mo wo vo : V), vs = [.ref x, mo, wo, vo] ∧ H x = some (.ins T.C_PassedText.c dx []) ∧ Q .non (upd H x (.ins T.C_PassedText.c dx (psF mo wo vo)))
theorem ok_PassedText_init : FnOk P w K mg base CX0 1 T.f_PassedText_init.a T.f_PassedText_init.d ["self", "motion", "words", "voters"] (sp_PassedText_init T) := by
  refine T.f_PassedText_init.F.ok sc_PassedText_init (fun vs H Q E h => ?_) (fun cdv A outer s H vs Q E hr h => ?_)
  · obtain ⟨_, _, _, _, _, rfl, _⟩ := h
    rfl
  · obtain ⟨x, dx, mo, wo, vo, rfl, hx, k⟩ := h
    refine ⟨_, (pss_cons (ps_fld (pv 0) (pv 1) rfl)
      (pss_cons (ps_fld (pv 0) (pv 2) rfl)
      (pss_one (ps_fld (pv 0) (pv 3) rfl)))), ?_⟩
    have hc := T.C_PassedText.cl
    simp_arith [hx, hc, n_PassedText_motion T, n_PassedText_words T, n_PassedText_voters T]
    refine ⟨by decide, ?_, ?_, k⟩
    all_goals (show _ < 1000; repeat (first | decide | apply putF_lt))
def sp_Vote_init : Sp := fun vs H Q _ => ∃ (x dx : Addr) (mo wo vo : V), vs = [.ref x, mo, wo, vo] ∧ H x = some (.ins T.C_Vote.c dx []) ∧ Q .non (upd H x (.ins T.C_Vote.c dx (vtF mo wo vo)))
theorem ok_Vote_init : FnOk P w K mg base CX0 1 T.f_Vote_init.a T.f_Vote_init.d ["self", "motion", "asked", "carried"] (sp_Vote_init T) := by
  refine T.f_Vote_init.F.ok sc_Vote_init (fun vs H Q E h => ?_) (fun cdv A outer s H vs Q E hr h => ?_)
  · obtain ⟨_, _, _, _, _, rfl, _⟩ := h
    rfl
  · obtain ⟨x, dx, mo, wo, vo, rfl, hx, k⟩ := h
    refine ⟨_, (pss_cons (ps_fld (pv 0) (pv 1) rfl)
      (pss_cons (ps_fld (pv 0) (pv 2) rfl)
      (pss_one (ps_fld (pv 0) (pv 3) rfl)))), ?_⟩
    have hc := T.C_Vote.cl
    simp_arith [hx, hc, n_Vote_motion T, n_Vote_asked T, n_Vote_carried T]
    refine ⟨by decide, ?_, ?_, k⟩
    all_goals (show _ < 1000; repeat (first | decide | apply putF_lt))
/-- the two new lists at p and q -/
def sp_MainMotion_init : Sp := fun vs H Q _ => ∃ (x dx : Addr) (mo wo : V), vs = [.ref x, mo, wo] ∧ H x = some (.ins T.C_MainMotion.c dx []) ∧
  ∀ (p q : Addr) (H' : Hp), H p = none → H q = none → p ≠ q → H' x = some (.ins T.C_MainMotion.c dx (mmF mo wo (.ref p) .non .non (.ref q) (.bl false))) → H' p = some (.lst []) → H' q = some (.lst []) → (∀ b, b ≠ x → b ≠ p → b ≠ q → H' b = H b) → Q .non H'
theorem ok_MainMotion_init : FnOk P w K mg base CX0 1 T.f_MainMotion_init.a T.f_MainMotion_init.d ["self", "motion", "words"] (sp_MainMotion_init T) := by
  refine T.f_MainMotion_init.F.ok sc_MainMotion_init (fun vs H Q E h => ?_) (fun cdv A outer s H vs Q E hr h => ?_)
  · obtain ⟨_, _, _, _, rfl, _⟩ := h
    rfl
  · obtain ⟨x, dx, mo, wo, rfl, hx, k⟩ := h
    refine ⟨_, (pss_cons (ps_fld (pv 0) (pv 1) rfl)
      (pss_cons (ps_fld (pv 0) (pv 2) rfl)
      (pss_cons (ps_fld (pv 0) (pe_lst pa_nil) rfl)
      (pss_cons (ps_fld (pv 0) pe_non rfl)
      (pss_cons (ps_fld (pv 0) pe_non rfl)
      (pss_cons (ps_fld (pv 0) (pe_lst pa_nil) rfl)
      (pss_one (ps_fld (pv 0) pe_bl rfl)))))))), ?_⟩
    have hc := T.C_MainMotion.cl
    simp_arith [hx, hc, n_MainMotion_motion T, n_MainMotion_words T, n_MainMotion_parts_to_come T, n_MainMotion_amendment T, n_MainMotion_further_amendment T, n_MainMotion_ways_on T, n_MainMotion_closed T]
    refine ⟨by decide, (by repeat (first | decide | apply putF_lt)), Nat.zero_le _, fun p hp => ?_⟩
    obtain ⟨n1, hp⟩ := upd_none hp
    simp_arith [hx, hc, upd_ne n1.symm, n_MainMotion_parts_to_come T, n_MainMotion_amendment T, n_MainMotion_further_amendment T, n_MainMotion_ways_on T, n_MainMotion_closed T]
    refine ⟨(by repeat (first | decide | apply putF_lt)), (by repeat (first | decide | apply putF_lt)), (by repeat (first | decide | apply putF_lt)), Nat.zero_le _, fun q hq => ?_⟩
    obtain ⟨n2, hq⟩ := upd_none hq
    obtain ⟨n3, hq⟩ := upd_none hq
    obtain ⟨_, hq⟩ := upd_none hq
    simp_arith [hx, hc, upd_ne n1.symm, upd_ne n2.symm, n_MainMotion_ways_on T, n_MainMotion_closed T]
    refine ⟨(by repeat (first | decide | apply putF_lt)), (by repeat (first | decide | apply putF_lt)), ?_⟩
    refine k p q _ hp hq n3.symm upd_same ?_ ?_ fun b b1 b2 b3 => ?_
    · simp_arith [upd_ne n1, upd_ne n2, upd_ne n3.symm]
    · simp_arith [upd_ne n1, upd_ne n2, upd_ne n3.symm]
    · simp_arith [upd_ne b1, upd_ne b2, upd_ne b3]
def sp_Assembly_begin : Sp := fun vs H Q _ => ∃ (x dx ar : Addr) (fs : List (Str × V)) (rr : Si50.Rules) (R : Rg), vs = [.ref x, .int (rr.quorum : Int), .ref ar] ∧ At R H x (.mut 0 0) (.ins T.C_Assembly.c dx fs) ∧ (fs = [] ∨ ∃ a1 a2 a3 a4 a5 a6 a7 a8 a9 a10, fs = asmF a1 a2 a3 a4 a5 a6 a7 a8 a9 a10) ∧
  (KTu K ar (rl rr) ∨ At R H ar .oth (.tup (rl rr))) ∧ ∀ R' H', Asm T R' H' x { Si50.init with rules := rr } → Fr_ (fun t => t ≠ .mut 0 0) R H R' H' → Q .non H'
theorem ok_Assembly_begin : FnOk P w K mg base CX0 1 T.f_Assembly_begin.a T.f_Assembly_begin.d ["self", "quorum", "rules"] (sp_Assembly_begin T) := by
  refine T.f_Assembly_begin.F.ok sc_Assembly_begin (fun vs H Q E h => ?_) (fun cdv A outer s H vs Q E hr h => ?_)
  · obtain ⟨_, _, _, _, _, _, rfl, _⟩ := h
    rfl
  · obtain ⟨x, dx, ar, fs, rr, R, rfl, hx, hfs, hrr, k⟩ := h
    have hf : fs.length < 11 ∧ ∀ q r ws th mv mn po pd vo av : V, putF "amendment_voters" av (putF "votes" vo (putF "passed" pd (putF "put_off" po (putF "main" mn (putF "movers" mv (putF "there" th (putF "weights" ws (putF "rules" r (putF "quorum" q fs))))))))) = asmF q r ws th mv mn po pd vo av := by
      rcases hfs with rfl | ⟨a1, a2, a3, a4, a5, a6, a7, a8, a9, a10, rfl⟩
      · exact ⟨by decide, fun _ _ _ _ _ _ _ _ _ _ => rfl⟩
      · exact ⟨by show 10 < 11; decide, fun _ _ _ _ _ _ _ _ _ _ => rfl⟩
    obtain ⟨hf1, hf2⟩ := hf
    have lt : ∀ {l : List (Str × V)} {n : Nat}, l.length < n → n ≤ 1000 → l.length < 1000 := fun h1 h2 => Nat.lt_of_lt_of_le h1 h2
    have l1 : ∀ a1, (putF "quorum" a1 fs).length < 12 := fun _ => putF_lt hf1
    have l2 : ∀ a1 a2, (putF "rules" a2 (putF "quorum" a1 fs)).length < 13 := fun _ _ => putF_lt (l1 _)
    have l3 : ∀ a1 a2 a3, (putF "weights" a3 (putF "rules" a2 (putF "quorum" a1 fs))).length < 14 := fun _ _ _ => putF_lt (l2 _ _)
    have l4 : ∀ a1 a2 a3 a4, (putF "there" a4 (putF "weights" a3 (putF "rules" a2 (putF "quorum" a1 fs)))).length < 15 := fun _ _ _ _ => putF_lt (l3 _ _ _)
    have l5 : ∀ a1 a2 a3 a4 a5, (putF "movers" a5 (putF "there" a4 (putF "weights" a3 (putF "rules" a2 (putF "quorum" a1 fs))))).length < 16 := fun _ _ _ _ _ => putF_lt (l4 _ _ _ _)
    have l6 : ∀ a1 a2 a3 a4 a5 a6, (putF "main" a6 (putF "movers" a5 (putF "there" a4 (putF "weights" a3 (putF "rules" a2 (putF "quorum" a1 fs)))))).length < 17 := fun _ _ _ _ _ _ => putF_lt (l5 _ _ _ _ _)
    have l7 : ∀ a1 a2 a3 a4 a5 a6 a7, (putF "put_off" a7 (putF "main" a6 (putF "movers" a5 (putF "there" a4 (putF "weights" a3 (putF "rules" a2 (putF "quorum" a1 fs))))))).length < 18 := fun _ _ _ _ _ _ _ => putF_lt (l6 _ _ _ _ _ _)
    have l8 : ∀ a1 a2 a3 a4 a5 a6 a7 a8, (putF "passed" a8 (putF "put_off" a7 (putF "main" a6 (putF "movers" a5 (putF "there" a4 (putF "weights" a3 (putF "rules" a2 (putF "quorum" a1 fs)))))))).length < 19 := fun _ _ _ _ _ _ _ _ => putF_lt (l7 _ _ _ _ _ _ _)
    have l9 : ∀ a1 a2 a3 a4 a5 a6 a7 a8 a9, (putF "votes" a9 (putF "passed" a8 (putF "put_off" a7 (putF "main" a6 (putF "movers" a5 (putF "there" a4 (putF "weights" a3 (putF "rules" a2 (putF "quorum" a1 fs))))))))).length < 20 := fun _ _ _ _ _ _ _ _ _ => putF_lt (l8 _ _ _ _ _ _ _ _)
    refine ⟨_, (pss_cons (ps_fld (pv 0) (pv 1) rfl)
      (pss_cons (ps_fld (pv 0) (pv 2) rfl)
      (pss_cons (ps_fld (pv 0) (pe_lst pa_nil) rfl)
      (pss_cons (ps_fld (pv 0) (pe_lst pa_nil) rfl)
      (pss_cons (ps_fld (pv 0) (pe_lst pa_nil) rfl)
      (pss_cons (ps_fld (pv 0) pe_non rfl)
      (pss_cons (ps_fld (pv 0) (pe_lst pa_nil) rfl)
      (pss_cons (ps_fld (pv 0) (pe_lst pa_nil) rfl)
      (pss_cons (ps_fld (pv 0) (pe_lst pa_nil) rfl)
      (pss_one (ps_fld (pv 0) pe_dnewK rfl))))))))))), ?_⟩
    have hc := T.C_Assembly.cl
    simp_arith [hx.2, hc, n_Assembly_quorum T, n_Assembly_rules T]
    refine ⟨lt hf1 (by decide), lt (l1 _) (by decide), Nat.zero_le _, fun p1 h1 => ?_⟩
    have x0 : At R (upd H x (.ins T.C_Assembly.c dx (putF "rules" (.ref ar) (putF "quorum" (.int (rr.quorum : Int)) fs)))) x (.mut 0 0) (.ins T.C_Assembly.c dx (putF "rules" (.ref ar) (putF "quorum" (.int (rr.quorum : Int)) fs))) := At.self hx.1
    have g0 : Fr_ (fun t => t ≠ .mut 0 0) R H R (upd H x (.ins T.C_Assembly.c dx (putF "rules" (.ref ar) (putF "quorum" (.int (rr.quorum : Int)) fs)))) := Fr_.put hx.1
    generalize upd H x _ = H0 at h1 x0 g0 ⊢
    simp_arith [upd_ne (ne_of_none x0.2 h1), x0.2, hc, n_Assembly_weights T]
    refine ⟨lt (l2 _ _) (by decide), Nat.zero_le _, fun p2 h2 => ?_⟩
    obtain ⟨x1, w1, g1⟩ := fresh_step (t := .mut 1 0) (o := .lst []) (fs' := putF "weights" (.ref p1) (putF "rules" (.ref ar) (putF "quorum" (.int (rr.quorum : Int)) fs))) x0 h1
    generalize upd (upd H0 p1 _) x _ = H1 at h2 x1 w1 g1 ⊢
    generalize setR R p1 (.mut 1 0) = R1 at x1 w1 g1
    simp_arith [upd_ne (ne_of_none x1.2 h2), x1.2, hc, n_Assembly_there T]
    refine ⟨lt (l3 _ _ _) (by decide), Nat.zero_le _, fun p3 h3 => ?_⟩
    obtain ⟨x2, w2, g2⟩ := fresh_step (t := .mut 2 0) (o := .lst []) (fs' := putF "there" (.ref p2) (putF "weights" (.ref p1) (putF "rules" (.ref ar) (putF "quorum" (.int (rr.quorum : Int)) fs)))) x1 h2
    generalize upd (upd H1 p2 _) x _ = H2 at h3 x2 w2 g2 ⊢
    generalize setR R1 p2 (.mut 2 0) = R2 at x2 w2 g2
    simp_arith [upd_ne (ne_of_none x2.2 h3), x2.2, hc, n_Assembly_movers T, n_Assembly_main T]
    refine ⟨lt (l4 _ _ _ _) (by decide), lt (l5 _ _ _ _ _) (by decide), Nat.zero_le _, fun p4 h4 => ?_⟩
    obtain ⟨x3, w3, g3⟩ := fresh_step (t := .mut 3 0) (o := .lst []) (fs' := putF "main" .non (putF "movers" (.ref p3) (putF "there" (.ref p2) (putF "weights" (.ref p1) (putF "rules" (.ref ar) (putF "quorum" (.int (rr.quorum : Int)) fs)))))) x2 h3
    generalize upd (upd H2 p3 _) x _ = H3 at h4 x3 w3 g3 ⊢
    generalize setR R2 p3 (.mut 3 0) = R3 at x3 w3 g3
    simp_arith [upd_ne (ne_of_none x3.2 h4), x3.2, hc, n_Assembly_put_off T]
    refine ⟨lt (l6 _ _ _ _ _ _) (by decide), Nat.zero_le _, fun p5 h5 => ?_⟩
    obtain ⟨x4, w4, g4⟩ := fresh_step (t := .mut 4 0) (o := .lst []) (fs' := putF "put_off" (.ref p4) (putF "main" .non (putF "movers" (.ref p3) (putF "there" (.ref p2) (putF "weights" (.ref p1) (putF "rules" (.ref ar) (putF "quorum" (.int (rr.quorum : Int)) fs))))))) x3 h4
    generalize upd (upd H3 p4 _) x _ = H4 at h5 x4 w4 g4 ⊢
    generalize setR R3 p4 (.mut 4 0) = R4 at x4 w4 g4
    simp_arith [upd_ne (ne_of_none x4.2 h5), x4.2, hc, n_Assembly_passed T]
    refine ⟨lt (l7 _ _ _ _ _ _ _) (by decide), Nat.zero_le _, fun p6 h6 => ?_⟩
    obtain ⟨x5, w5, g5⟩ := fresh_step (t := .mut 5 0) (o := .lst []) (fs' := putF "passed" (.ref p5) (putF "put_off" (.ref p4) (putF "main" .non (putF "movers" (.ref p3) (putF "there" (.ref p2) (putF "weights" (.ref p1) (putF "rules" (.ref ar) (putF "quorum" (.int (rr.quorum : Int)) fs)))))))) x4 h5
    generalize upd (upd H4 p5 _) x _ = H5 at h6 x5 w5 g5 ⊢
    generalize setR R4 p5 (.mut 5 0) = R5 at x5 w5 g5
    simp_arith [upd_ne (ne_of_none x5.2 h6), x5.2, hc, n_Assembly_votes T]
    refine ⟨lt (l8 _ _ _ _ _ _ _ _) (by decide), fun p7 h7 => ?_⟩
    obtain ⟨x6, w6, g6⟩ := fresh_step (t := .mut 6 0) (o := .lst []) (fs' := putF "votes" (.ref p6) (putF "passed" (.ref p5) (putF "put_off" (.ref p4) (putF "main" .non (putF "movers" (.ref p3) (putF "there" (.ref p2) (putF "weights" (.ref p1) (putF "rules" (.ref ar) (putF "quorum" (.int (rr.quorum : Int)) fs))))))))) x5 h6
    generalize upd (upd H5 p6 _) x _ = H6 at h7 x6 w6 g6 ⊢
    generalize setR R5 p6 (.mut 6 0) = R6 at x6 w6 g6
    simp_arith [upd_ne (ne_of_none x6.2 h7), x6.2, hc, n_Assembly_amendment_voters T]
    refine ⟨lt (l9 _ _ _ _ _ _ _ _ _) (by decide), ?_⟩
    obtain ⟨x7, w7, g7⟩ := fresh_step (t := .mut 7 0) (o := .dK []) (fs' := putF "amendment_voters" (.ref p7) (putF "votes" (.ref p6) (putF "passed" (.ref p5) (putF "put_off" (.ref p4) (putF "main" .non (putF "movers" (.ref p3) (putF "there" (.ref p2) (putF "weights" (.ref p1) (putF "rules" (.ref ar) (putF "quorum" (.int (rr.quorum : Int)) fs)))))))))) x6 h7
    rw [hf2] at x7
    rw [hf2] at w7 g7 ⊢
    refine k _ _ ⟨dx, ar, p1, p2, p3, .non, p4, p5, p6, p7, [], [], [], [], x7, ?_, ?_, ?_, ?_, rfl, ?_, .nil, ?_, .nil, ?_, .nil, w7, Nat.le_refl _, fun i v e _ => nomatch e⟩ ((((((((g0.trans g1).trans g2).trans g3).trans g4).trans g5).trans g6).trans g7))
    · exact hrr.imp id fun z => g7 _ _ _ nofun (g6 _ _ _ nofun (g5 _ _ _ nofun (g4 _ _ _ nofun (g3 _ _ _ nofun (g2 _ _ _ nofun (g1 _ _ _ nofun (g0 _ _ _ nofun z)))))))
    · exact g7 _ _ _ nofun (g6 _ _ _ nofun (g5 _ _ _ nofun (g4 _ _ _ nofun (g3 _ _ _ nofun (g2 _ _ _ nofun w1)))))
    · exact g7 _ _ _ nofun (g6 _ _ _ nofun (g5 _ _ _ nofun (g4 _ _ _ nofun (g3 _ _ _ nofun w2))))
    · exact g7 _ _ _ nofun (g6 _ _ _ nofun (g5 _ _ _ nofun (g4 _ _ _ nofun w3)))
    · exact g7 _ _ _ nofun (g6 _ _ _ nofun (g5 _ _ _ nofun w4))
    · exact g7 _ _ _ nofun (g6 _ _ _ nofun w5)
    · exact g7 _ _ _ nofun w6
def sp_Assembly_init : Sp := fun vs H Q _ => ∃ (x dx : Addr), vs = [.ref x] ∧ H x = some (.ins T.C_Assembly.c dx []) ∧
  ∀ R' H', Asm T R' H' x Si50.init → (∀ b o, H b = some o → b ≠ x → H' b = some o ∧ R' b = .oth) → Q .non H'
theorem ok_Assembly_init : FnOk P w K mg base CX0 2 T.f_Assembly_init.a T.f_Assembly_init.d ["self"] (sp_Assembly_init T) := by
  have G_Assembly_begin := ok_Assembly_begin (P := P) (w := w) (base := base) T
  refine T.f_Assembly_init.F.ok sc_Assembly_init (fun vs H Q E h => ?_) (fun cdv A outer s H vs Q E hr h => ?_)
  · obtain ⟨_, _, rfl, _⟩ := h
    rfl
  · obtain ⟨x, dx, rfl, hx, k⟩ := h
    refine ⟨_, (pss_one (ps_expr (pe_meth (pv 0) T.C_Assembly.cl T.m_Assembly_begin (G_Assembly_begin.mono (by decide)) hr (b_Assembly_begin T) .nil pass0 (pa_cons (pe_gl T.k_FIRST_QUORUM) (pa_cons (pe_gl T.k_FIRST_RULES) pa_nil))))), ?_⟩
    simp_arith [sp_Assembly_begin, hx]
    refine ⟨rfl, dx, T.a_FIRST_RULES, [], Si50.init.rules, rfl, rfl, setR (fun _ => .oth) x (.mut 0 0), ⟨setR_same, hx⟩, .inl rfl, .inl T.t_FIRST_RULES, fun R' H' h1 h2 => ?_⟩
    refine k R' H' h1 fun b o hb n => ?_
    have z := h2 b .oth o nofun ⟨by rw [setR_ne n], hb⟩
    exact ⟨z.2, z.1⟩
end
end My

end

section
set_option Elab.async false
set_option linter.all false
set_option maxRecDepth 100000
set_option maxHeartbeats 4000000
namespace L2
open PySem PySem.Spec PyProof.Rows
/-- a comprehension over a list that stays, an item out of each item: nothing new but the list -/
theorem lc_pure {K : PySem.W.Frag} {a : Addr} {xs : List V} {wi : TI} {g : TG} {tt : TT} {te : TE} {vs : List Nat} {σ : St} {H : Hp} {Q : VK} (ys : List V) (hw : ∀ R, R (Itl K a) H → wi σ H R) (ha : H a = some (.lst xs)) (hl : ys.length = xs.length) (hz : xs.length ≤ 1000000)
    (hs : ∀ (D : Addr) (zs : List V) (i : Nat) (x y : V), H D = none → xs[i]? = some x → ys[i]? = some y → zs.length < sizeLine → ∀ Nx : Hp → Prop, Nx (upd H D (.lst (zs ++ [y]))) → g x (wipe σ vs) (upd H D (.lst zs)) fun σ2 H2 => wipe σ2 vs = wipe σ vs ∧ tt σ2 H2 fun b H3 =>
      if b = true then te σ2 H3 fun y H4 => ∃ acc, H4 D = some (.lst acc) ∧ acc.length < sizeLine ∧ Nx (upd H4 D (.lst (acc ++ [y]))) else Nx H3) (hq : ∀ D, H D = none → Q (.ref D) (upd H D (.lst ys))) : tLc wi g tt te vs σ H Q := by
  refine hw _ fun D hD => lc_list (K := K) (a := a) (xs := xs) (fun i H' => H' = upd H D (.lst (ys.take i))) rfl (fun i H' _ e => ?_) (fun i x H' hx e => ?_) fun H' e => ?_
  · rw [e]; exact SqL.of (by rw [upd_ne (ne_of_none ha hD)]; exact ha)
  · subst e
    have hi : i < ys.length := by rw [hl]; exact (List.getElem?_eq_some_iff.mp hx).1
    refine hs D (ys.take i) i x ys[i] hD hx (List.getElem?_eq_getElem hi) (small (by rw [List.length_take]; omega)) (fun H4 => H4 = upd H D (.lst (ys.take (i + 1)))) ?_
    show upd H D (.lst (ys.take i ++ [ys[i]])) = upd H D (.lst (ys.take (i + 1)))
    rw [List.take_succ_eq_append_getElem hi]
  · rw [e, ← hl, List.take_length]; exact hq D hD
/-- a comprehension over a range: the list by the turns -/
theorem lc_rngp {n : Nat} {wi : TI} {g : TG} {tt : TT} {te : TE} {vs : List Nat} {σ : St} {H : Hp} {Q : VK} (ys : Nat → List V) (hw : ∀ R, R (Itr 0 n) H → wi σ H R) (h0 : ys 0 = []) (hz : ∀ i, i < n → (ys i).length < sizeLine)
    (hs : ∀ D i, H D = none → i < n → ∀ Nx : Hp → Prop, Nx (upd H D (.lst (ys (i + 1)))) → g (.int (0 + (i : Int))) (wipe σ vs) (upd H D (.lst (ys i))) fun σ2 H2 => wipe σ2 vs = wipe σ vs ∧ tt σ2 H2 fun b H3 =>
      if b = true then te σ2 H3 fun y H4 => ∃ acc, H4 D = some (.lst acc) ∧ acc.length < sizeLine ∧ Nx (upd H4 D (.lst (acc ++ [y]))) else Nx H3) (hq : ∀ D, H D = none → Q (.ref D) (upd H D (.lst (ys n)))) : tLc wi g tt te vs σ H Q := by
  refine hw _ fun D hD => lc_range (fun i H' => H' = upd H D (.lst (ys i))) (by rw [h0]) (fun i H' hi e => ?_) fun H' e => ?_
  · subst e
    exact hs D i hD hi (fun H4 => H4 = upd H D (.lst (ys (i + 1)))) rfl
  · rw [e]; exact hq D hD
end L2
namespace My
open PySem PySem.Spec PyProof.Rows L2
section
variable {P : Program} {w : World} {K : PySem.W.Frag} {mg : Str → Option Value} {base : Heap} (T : Tx K mg)
theorem wts_len (s : Si50.St) : (wts s).length = s.members.length := by unfold wts; rw [List.length_map]
theorem thr_len (s : Si50.St) : (thr s).length = s.members.length := by unfold thr; rw [List.length_map]
theorem nl_len (l : List Nat) : (nl l).length = l.length := by unfold nl; rw [List.length_map]
theorem mvs_len (s : Si50.St) : (mvs s).length = s.moved.length := nl_len _
def sp_is_member : Sp := fun vs H Q _ => ∃ (p : Addr) (m : Int) (s : Si50.St) (dv : List Si50.Vote) (R : Rg), vs = [.ref p, .int m] ∧ AsmX T R H p s dv ∧ Q (.bl (decide (m < (s.members.length : Int)))) H
theorem ok_is_member : FnOk P w K mg base CX0 1 T.f_is_member.a T.f_is_member.d ["assembly", "member"] (sp_is_member T) := by
  refine T.f_is_member.F.ok sc_is_member (fun vs H Q E h => ?_) (fun cdv A outer s H vs Q E hr h => ?_)
  · obtain ⟨_, _, _, _, _, rfl, _⟩ := h
    rfl
  · obtain ⟨p, m, st, dv, R, rfl, ⟨dx, aR, aW, aT, aM, mn, aO, aP, aV, aD, os, ps, vs', kvs, hA⟩, k⟩ := h
    have h1 := hA.o.2
    have h2 := hA.w.2
    refine ⟨_, (pss_one (ps_ret (pe_cmpR op_lt (pv 1) (pe_callB call_lenL (by rfl) T.b_len PySem.boot_len (pa_cons (pe_fldK (K := K) (pv 0) rfl) pa_nil)) (nomark _)))), ?_⟩
    simp_arith [T.C_Assembly.cl, n_Assembly_weights T, h1, h2, wts_len, k]
def absV (s : Si50.St) (m : Int) : Int := if m < (s.members.length : Int) then (if Si50.here s m.toNat = true then 0 else -3) else -2
theorem thr_at {s : Si50.St} {m : Int} (h0 : 0 ≤ m) (h : m < (s.members.length : Int)) : atI (thr s) m = some (V.bl (Si50.here s m.toNat)) := by
  refine at_of (j := m.toNat) (by omega) ?_
  unfold thr Si50.here
  rw [List.getElem?_map]
  have hl : m.toNat < s.members.length := by omega
  rw [List.getElem?_eq_getElem hl]
  rfl
def sp_absence : Sp := fun vs H Q _ => ∃ (p : Addr) (m : Int) (s : Si50.St) (dv : List Si50.Vote) (R : Rg), vs = [.ref p, .int m] ∧ AsmX T R H p s dv ∧ 0 ≤ m ∧ Q (.int (absV s m)) H
theorem ok_absence : FnOk P w K mg base CX0 2 T.f_absence.a T.f_absence.d ["assembly", "member"] (sp_absence T) := by
  have G_is_member := ok_is_member (P := P) (w := w) (base := base) T
  refine T.f_absence.F.ok sc_absence (fun vs H Q E h => ?_) (fun cdv A outer s H vs Q E hr h => ?_)
  · obtain ⟨_, _, _, _, _, rfl, _⟩ := h
    rfl
  · obtain ⟨p, m, st, dv, R, rfl, hA, hm, k⟩ := h
    obtain ⟨dx, aR, aW, aT, aM, mn, aO, aP, aV, aD, os, ps, vs', kvs, hB⟩ := id hA
    have h1 := hB.o.2
    have h3 := hB.t.2
    refine ⟨_, (pss_cons (ps_if (pt_not (pt_val (pe_call (G_is_member.mono (by decide)) hr rfl T.f_is_member.g T.f_is_member.F.kp (b_is_member T) .nil pass0 (pa_cons (pv 0) (pa_cons (pv 1) pa_nil)))))
        (pss_one (ps_ret (pe_gl T.k_UNKNOWN)))
        pss_nil)
      (pss_cons (ps_if (pt_not (pt_val (pe_ix ix_lst (pe_fldK (K := K) (pv 0) rfl) (pv 1) (fun _ _ => rfl))))
        (pss_one (ps_ret (pe_gl T.k_AWAY)))
        pss_nil)
      (pss_one (ps_ret (pe_gl T.k_NO_REFUSAL))))), ?_⟩
    simp_arith [sp_is_member]
    refine ⟨st, dv, R, hA, ?_⟩
    unfold absV at k
    by_cases c : m < (st.members.length : Int)
    · simp_arith [T.C_Assembly.cl, n_Assembly_there T, h1, h3, c, thr_at hm c]
      simp only [c, if_true, if_false, ite_true, ite_false, reduceIte, Bool.false_eq_true, decide_true, decide_false] at k
      by_cases c2 : Si50.here st m.toNat = true
      · simp only [c2, if_true, if_false, ite_true, ite_false, reduceIte, Bool.false_eq_true, decide_true, decide_false] at k
        simp_arith [c2, k]
      · simp only [c2, if_true, if_false, ite_true, ite_false, reduceIte, Bool.false_eq_true, decide_true, decide_false] at k
        simp_arith [c2, k]
    · simp only [c, if_true, if_false, ite_true, ite_false, reduceIte, Bool.false_eq_true, decide_true, decide_false] at k
      simp_arith [c, k]
def sp_admit : Sp := fun vs H Q _ => ∃ (p : Addr) (m : Int) (s : Si50.St) (R : Rg), vs = [.ref p, .int m] ∧ Asm T R H p s ∧ 0 ≤ m ∧ s.members.length ≤ 20 ∧
  ∀ R' H', Asm T R' H' p (Si50.step s (.member m.toNat)).1 → Kp R H R' H' → Q (.int (Si50.step s (.member m.toNat)).2.v) H'
theorem ok_admit : FnOk P w K mg base CX0 1 T.f_admit.a T.f_admit.d ["assembly", "weight"] (sp_admit T) := by
  skip
  refine T.f_admit.F.ok sc_admit (fun vs H Q E h => ?_) (fun cdv A outer s H vs Q E hr h => ?_)
  · obtain ⟨_, _, _, _, rfl, _⟩ := h
    rfl
  · obtain ⟨p, m, st, R, rfl, hA, hm, hl, k⟩ := h
    obtain ⟨dx, aR, aW, aT, aM, mn, aO, aP, aV, aD, os, ps, vs', kvs, hB⟩ := id hA
    have h1 := hB.o.2
    have h2 := hB.w.2
    have h3 := hB.t.2
    have n1 : p ≠ aW := hB.o.ne hB.w.1 nofun
    have n2 : aT ≠ aW := hB.t.ne hB.w.1 nofun
    have n3 : p ≠ aT := hB.o.ne hB.t.1 nofun
    have n4 : aW ≠ aT := hB.w.ne hB.t.1 nofun
    refine ⟨_, (pss_cons (ps_if (PW.pt (pw_or (pt_cmpR op_lt (pv 1) pe_int (nomark _)) (pw_or1 (pt_cmpR op_gt (pv 1) (pe_gl T.k_MOST_WEIGHT) (nomark _)))))
        (pss_one (ps_ret (pe_gl T.k_WRONG)))
        pss_nil)
      (pss_cons (ps_if (pt_cmpR op_ge (pe_callB call_lenL (by rfl) T.b_len PySem.boot_len (pa_cons (pe_fldK (K := K) (pv 0) rfl) pa_nil)) (pe_gl T.k_MOST_MEMBERS) (nomark _))
        (pss_one (ps_ret (pe_gl T.k_FULL)))
        pss_nil)
      (pss_cons (ps_expr (pe_lm PySem.F.slot_list_append PySem.F.type_list_append mt_append (pe_fldK (K := K) (pv 0) rfl) (pa_cons (pv 1) pa_nil)))
      (pss_cons (ps_expr (pe_lm PySem.F.slot_list_append PySem.F.type_list_append mt_append (pe_fldK (K := K) (pv 0) rfl) (pa_cons pe_bl pa_nil)))
      (pss_one (ps_ret (pe_op op_sub (pe_callB call_lenL (by rfl) T.b_len PySem.boot_len (pa_cons (pe_fldK (K := K) (pv 0) rfl) pa_nil)) pe_int))))))), ?_⟩
    simp_arith [T.C_Assembly.cl, n_Assembly_there T, n_Assembly_weights T, h1, h2, h3, wts_len, thr_len]
    by_cases c : m < 1 ∨ 100 < m
    · have e : Si50.step st (.member m.toNat) = (st, Si50.ok (-1)) := by
        show (if _ then _ else _) = _
        rw [if_pos (by omega)]
      rw [e] at k
      have z := k R H hA Kp.refl
      by_cases c1 : m < 1
      · simp_arith [c1]
        exact z
      · have c2 : 100 < m := by omega
        simp_arith [c1, c2]
        exact z
    · have c1 : ¬ m < 1 := by omega
      have c2 : ¬ 100 < m := by omega
      simp_arith [c1, c2, upd_ne n1, upd_ne n2, upd_ne n3, upd_ne n4, T.C_Assembly.cl, n_Assembly_there T, n_Assembly_weights T, h1, h2, h3, wts_len, thr_len]
      by_cases c3 : (20 : Int) ≤ (st.members.length : Int)
      · have e : Si50.step st (.member m.toNat) = (st, Si50.ok (-5)) := by
          show (if _ then _ else if _ then _ else _) = _
          rw [if_neg (by omega), if_pos (show Si50.MEMBERS ≤ st.members.length by unfold Si50.MEMBERS; omega)]
        rw [e] at k
        rw [if_pos c3]
        exact k R H hA Kp.refl
      · have e : Si50.step st (.member m.toNat) = ({ st with members := st.members ++ [⟨m.toNat, true⟩] }, Si50.ok (st.members.length : Int)) := by
          show (if _ then _ else if _ then _ else _) = _
          rw [if_neg (by omega), if_neg (show ¬ Si50.MEMBERS ≤ st.members.length by unfold Si50.MEMBERS; omega)]
        rw [e] at k
        rw [if_neg c3]
        refine ⟨small (by omega), small (by omega), ?_⟩
        have e2 : ((((wts st ++ [V.int m]).length : Nat) : Int) - 1) = (st.members.length : Int) := by rw [List.length_append, wts_len]; simp
        rw [e2]
        have e3 : wts st ++ [V.int m] = wts { st with members := st.members ++ [⟨m.toNat, true⟩] } := by
          unfold wts
          rw [List.map_append]
          show _ = _ ++ [V.int (m.toNat : Int)]
          rw [Int.toNat_of_nonneg hm]
        have e4 : thr st ++ [V.bl true] = thr { st with members := st.members ++ [⟨m.toNat, true⟩] } := by
          unfold thr
          rw [List.map_append]
          rfl
        rw [e3, e4]
        have f1 := hB.part (k := 1) (Fr_.put (x := .lst (wts { st with members := st.members ++ [⟨m.toNat, true⟩] })) hB.w.1) (by decide)
        obtain ⟨f0, fr, -, ft, fm, fb, ff, fff, fp, fpp, fv, fvv, fd, fdl, fdd⟩ := f1
        have Fp : Fr_ (fun t => t ≠ .mut 2 0) R (upd H aW (.lst (wts { st with members := st.members ++ [⟨m.toNat, true⟩] }))) R (upd (upd H aW (.lst (wts { st with members := st.members ++ [⟨m.toNat, true⟩] }))) aT (.lst (thr { st with members := st.members ++ [⟨m.toNat, true⟩] }))) := Fr_.put hB.t.1
        refine k R _ ⟨dx, aR, aW, aT, aM, mn, aO, aP, aV, aD, os, ps, vs', kvs, Fp _ _ _ nofun (f0 (by decide)), fr.imp id (Fp _ _ _ nofun), Fp _ _ _ nofun (At.self hB.w.1), At.self hB.t.1, Fp _ _ _ nofun (fm (by decide)), fb.fr Fp fun b t _ o => own_ne o (by decide), Fp _ _ _ nofun (ff (by decide)), paired_imp (fun _ _ z => z.fr Fp fun t o => own_ne o (by decide)) fff, Fp _ _ _ nofun (fp (by decide)), paired_imp (fun _ _ z => z.fr Fp nofun) fpp, Fp _ _ _ nofun (fv (by decide)), paired_imp (fun _ _ z => z.fr Fp nofun) fvv, Fp _ _ _ nofun (fd (by decide)), fdl, fdd.fr Fp nofun⟩ ((Kp.put hB.w.1).trans (Kp.put hB.t.1))

theorem total_sum : ∀ l : List Nat, ((l.map fun (n : Nat) => (n : Int)).sum) = ((Si50.total l : Nat) : Int)
  | [] => rfl
  | a :: l => by
    rw [List.map_cons, List.sum_cons, total_sum l]
    show (a : Int) + (Si50.total l : Nat) = ((a + Si50.total l : Nat) : Int)
    omega
theorem nl_ints (l : List Nat) : nl l = (l.map fun (n : Nat) => (n : Int)).map V.int := by unfold nl; rw [List.map_map]; rfl
def wOf (s : Si50.St) (i : Nat) : Nat := ((s.members[i]?).map fun m => m.weight).getD 0
theorem wts_at {s : Si50.St} {i : Nat} (h : i < s.members.length) : (wts s)[i]? = some (V.int (wOf s i : Int)) := by
  unfold wts wOf
  rw [List.getElem?_map, List.getElem?_eq_getElem h]
  rfl
/-- what these members weigh; a list is made for it -/
def sp_weigh : Sp := fun vs H Q _ => ∃ (p a : Addr) (l : List Nat) (s : Si50.St) (dv : List Si50.Vote) (R : Rg), vs = [.ref p, .ref a] ∧ AsmX T R H p s dv ∧ H a = some (.lst (nl l)) ∧ l.length ≤ 1000 ∧ (∀ z, z ∈ l → z < s.members.length) ∧
  ∀ R' H', Fa R H R' H' → Q (.int (Si50.weightOf s l : Int)) H'
theorem ok_weigh : FnOk P w K mg base CX0 1 T.f_weigh.a T.f_weigh.d ["assembly", "members"] (sp_weigh T) := by
  refine T.f_weigh.F.ok sc_weigh (fun vs H Q E h => ?_) (fun cdv A outer s H vs Q E hr h => ?_)
  · obtain ⟨_, _, _, _, _, _, rfl, _⟩ := h
    rfl
  · obtain ⟨p, a, l, st, dv, R, rfl, ⟨dx, aR, aW, aT, aM, mn, aO, aP, aV, aD, os, ps, vs', kvs, hB⟩, ha, hl, hm, k⟩ := h
    refine ⟨_, (pss_one (ps_ret (pe_callB (cr_sumL rfl) (by rfl) T.b_sum boot_sumB (pa_cons (pe_lc rfl sc_weigh.nd (pi_list (pv 1)) (blkOk_by (own := [("member", 2)]) (by show blkC ["assembly", "members", "member"] (defScope s_weigh) _ _ = true; decide +kernel)) (fun _ _ _ _ _ => (pg_name (i := 2) sc_weigh.nd rfl (Or.inl rfl))) (fun _ _ _ _ _ => pts_nil) (fun _ _ _ _ _ => (pe_ix ix_lst (pe_fldK (K := K) (pv 0) rfl) (pv 2) (fun _ _ => rfl)))) pa_nil)))), ?_⟩
    simp_arith [*]
    refine lc_pure (K := K) (a := a) (xs := nl l) ((l.map fun i => (wOf st i : Nat)).map fun (n : Nat) => V.int (n : Int)) (fun R hR => ?_) ha (by simp [nl_len]) (by rw [nl_len]; omega) (fun D zs i x y hD hx hy hz Nx hN => ?_) fun D hD => ?_
    · exact ⟨_, rfl, a, rfl, ⟨_, SqL.of ha⟩, hR⟩
    · unfold nl at hx
      rw [List.getElem?_map] at hx
      rw [List.map_map, List.getElem?_map] at hy
      cases hi : l[i]? with
      | none => rw [hi] at hx; cases hx
      | some j =>
        rw [hi] at hx hy
        have ex : V.int (j : Int) = x := Option.some.inj hx
        have ey : V.int (wOf st j : Int) = y := Option.some.inj hy
        subst ex ey
        have n1 : p ≠ D := ne_of_none hB.o.2 hD
        have n2 : aW ≠ D := ne_of_none hB.w.2 hD
        have e := atI_nat (wts_at (hm j (List.mem_of_getElem? hi)))
        simp_arith [List.map_cons, upd_ne n1, upd_ne n2, hB.o.2, hB.w.2, T.C_Assembly.cl, n_Assembly_weights T, e, hz, hN]
    · refine ⟨D, rfl, (l.map (wOf st)).map fun (n : Nat) => (n : Int), (by rw [upd_same]; exact congrArg (fun z => some (HO.lst z)) (nl_ints _)), ?_⟩
      rw [total_sum]
      exact k (setR R D .oth) _ (Fr_.new hD)
def hereIx (s : Si50.St) (i : Nat) : List Nat := (List.range i).filter fun j => Si50.here s j
theorem here_weight (s : Si50.St) : Si50.weightOf s (hereIx s s.members.length) = Si50.hereWeight s := by
  unfold Si50.weightOf Si50.hereWeight hereIx Si50.here
  generalize s.members = ms
  have key : ∀ (pre suf : List Si50.Member), ms = pre ++ suf → Si50.total (((List.range' pre.length suf.length).filter fun j => ((ms[j]?).map fun m => m.here).getD false).map fun i => ((ms[i]?).map fun m => m.weight).getD 0) = Si50.total ((suf.filter fun m => m.here).map fun m => m.weight) := by
    intro pre suf
    induction suf generalizing pre with
    | nil => intro _; rfl
    | cons x r ih =>
      intro e
      have e1 : ms[pre.length]? = some x := by rw [e]; simp
      have ih := ih (pre ++ [x]) (by rw [e]; simp)
      rw [List.length_append, List.length_singleton] at ih
      rw [List.length_cons, List.range'_succ, List.filter_cons, List.filter_cons, e1]
      show Si50.total (List.map _ (if x.here = true then _ else _)) = _
      by_cases c : x.here = true
      · rw [if_pos c, if_pos c, List.map_cons, List.map_cons, e1]
        show x.weight + Si50.total _ = x.weight + Si50.total _
        rw [ih]
      · rw [if_neg c, if_neg c]
        exact ih
  have := key [] ms rfl
  rw [List.range_eq_range']
  exact this
def sp_weigh_those_there : Sp := fun vs H Q _ => ∃ (p : Addr) (s : Si50.St) (dv : List Si50.Vote) (R : Rg), vs = [.ref p] ∧ AsmX T R H p s dv ∧ s.members.length ≤ 20 ∧
  ∀ R' H', Fa R H R' H' → Q (.int (Si50.hereWeight s : Int)) H'
theorem ok_weigh_those_there : FnOk P w K mg base CX0 2 T.f_weigh_those_there.a T.f_weigh_those_there.d ["assembly"] (sp_weigh_those_there T) := by
  have G_weigh := ok_weigh (P := P) (w := w) (base := base) T
  refine T.f_weigh_those_there.F.ok sc_weigh_those_there (fun vs H Q E h => ?_) (fun cdv A outer s H vs Q E hr h => ?_)
  · obtain ⟨_, _, _, _, rfl, _⟩ := h
    rfl
  · obtain ⟨p, st, dv, R, rfl, hA, hl, k⟩ := h
    obtain ⟨dx, aR, aW, aT, aM, mn, aO, aP, aV, aD, os, ps, vs', kvs, hB⟩ := id hA
    refine ⟨_, (pss_one (ps_ret (pe_call (G_weigh.mono (by decide)) hr rfl T.f_weigh.g T.f_weigh.F.kp (b_weigh T) .nil pass0 (pa_cons (pv 0) (pa_cons (pe_lc rfl sc_weigh_those_there.nd (pi_range1 rfl T.b_range (pa_cons (pe_callB call_lenL (by rfl) T.b_len PySem.boot_len (pa_cons (pe_fldK (K := K) (pv 0) rfl) pa_nil)) pa_nil)) (blkOk_by (own := [("member", 1)]) (by show blkC ["assembly", "member"] (defScope s_weigh_those_there) _ _ = true; decide +kernel)) (fun _ _ _ _ _ => (pg_name (i := 1) sc_weigh_those_there.nd rfl (Or.inl rfl))) (fun _ _ _ _ _ => (pts_one (pt_val (pe_ix ix_lst (pe_fldK (K := K) (pv 0) rfl) (pv 1) (fun _ _ => rfl))))) (fun _ _ _ _ _ => (pv 1))) pa_nil))))), ?_⟩
    simp_arith [*]
    refine lc_rngp (n := st.members.length) (fun i => nl (hereIx st i)) (fun R hR => ?_) rfl (fun i hi => small ?_) (fun D i hD hi Nx hN => ?_) fun D hD => ?_
    · unfold iRng1
      simp_arith [hB.o.2, hB.w.2, T.C_Assembly.cl, n_Assembly_weights T, wts_len]
      exact ⟨by omega, by omega, hR⟩
    · rw [nl_len]
      have := List.length_filter_le (fun j => Si50.here st j) (List.range i)
      rw [List.length_range] at this
      unfold hereIx
      omega
    · have n1 : p ≠ D := ne_of_none hB.o.2 hD
      have n2 : aT ≠ D := ne_of_none hB.t.2 hD
      have e := thr_at (s := st) (m := (i : Int)) (by omega) (by omega)
      have z : (nl (hereIx st i)).length < sizeLine := by
        rw [nl_len]
        have := List.length_filter_le (fun j => Si50.here st j) (List.range i)
        rw [List.length_range] at this
        exact small (by unfold hereIx; omega)
      have e2 : hereIx st (i + 1) = hereIx st i ++ (if Si50.here st i = true then [i] else []) := by
        unfold hereIx
        rw [List.range_succ, List.filter_append]
        congr 1
        rw [List.filter_cons]
        rfl
      rw [e2] at hN
      rw [Int.zero_add]
      simp_arith [upd_ne n1, upd_ne n2, hB.o.2, hB.t.2, T.C_Assembly.cl, n_Assembly_there T, e, z]
      rw [Int.toNat_natCast]
      by_cases c : Si50.here st i = true
      · simp_arith [c]
        rw [if_pos c] at hN
        unfold nl at hN ⊢
        rw [List.map_append] at hN
        exact hN
      · simp_arith [c]
        rw [if_neg c, List.append_nil] at hN
        exact hN
    · simp_arith [sp_weigh]
      refine ⟨hereIx st st.members.length, st, dv, setR R D .oth, hA.fa (Fr_.new hD), rfl, ?_, fun z hz => ?_, fun R' H' f => ?_⟩
      · have := List.length_filter_le (fun j => Si50.here st j) (List.range st.members.length)
        rw [List.length_range] at this
        unfold hereIx
        omega
      · exact List.mem_range.mp (List.mem_filter.mp hz).1
      · rw [here_weight]
        exact k R' H' ((Fr_.new hD).trans f)
theorem here_set (s : Si50.St) (m : Nat) (x : Si50.Member) (b : Bool) (h : s.members[m]? = some x) : (thr s).set m (V.bl b) = thr { s with members := s.members.set m { x with here := b } } := by
  unfold thr
  rw [List.map_set]
theorem wts_set (s : Si50.St) (m : Nat) (x : Si50.Member) (b : Bool) (h : s.members[m]? = some x) : wts { s with members := s.members.set m { x with here := b } } = wts s := by
  unfold wts
  show (s.members.set m { x with here := b }).map _ = _
  rw [List.map_set]
  apply List.ext_getElem?
  intro i
  by_cases e : m = i
  · subst e
    rw [List.getElem?_map, h, List.getElem?_set_self (by rw [List.length_map]; exact (List.getElem?_eq_some_iff.mp h).1)]
    rfl
  · rw [List.getElem?_set_ne e]
def sp_comes : Sp := fun vs H Q _ => ∃ (p : Addr) (m y : Int) (s : Si50.St) (R : Rg), vs = [.ref p, .int m, .int y] ∧ Asm T R H p s ∧ 0 ≤ m ∧ 0 ≤ y ∧ 
  ∀ R' H', Asm T R' H' p (Si50.step s (.comes m.toNat (y.toNat == 1))).1 → Kp R H R' H' → Q (.int (Si50.step s (.comes m.toNat (y.toNat == 1))).2.v) H'
theorem ok_comes : FnOk P w K mg base CX0 2 T.f_comes.a T.f_comes.d ["assembly", "member", "there"] (sp_comes T) := by
  have G_is_member := ok_is_member (P := P) (w := w) (base := base) T
  refine T.f_comes.F.ok sc_comes (fun vs H Q E h => ?_) (fun cdv A outer s H vs Q E hr h => ?_)
  · obtain ⟨_, _, _, _, _, rfl, _⟩ := h
    rfl
  · obtain ⟨p, m, y, st, R, rfl, hA, hm, hy, k⟩ := h
    obtain ⟨dx, aR, aW, aT, aM, mn, aO, aP, aV, aD, os, ps, vs', kvs, hB⟩ := id hA
    refine ⟨_, (pss_cons (ps_if (pt_not (pt_val (pe_call (G_is_member.mono (by decide)) hr rfl T.f_is_member.g T.f_is_member.F.kp (b_is_member T) .nil pass0 (pa_cons (pv 0) (pa_cons (pv 1) pa_nil)))))
        (pss_one (ps_ret (pe_gl T.k_UNKNOWN)))
        pss_nil)
      (pss_cons (ps_asg (pe_cmpR op_eq (pv 2) pe_int (nomark _)) (pg_sub (pe_fldK (K := K) (pv 0) rfl) (pv 1) set_list))
      (pss_one (ps_ret pe_int)))), ?_⟩
    simp_arith [sp_is_member]
    refine ⟨st, st.votes, R, hA, ?_⟩
    by_cases c : m < (st.members.length : Int)
    · have hl : m.toNat < st.members.length := by omega
      have hx := List.getElem?_eq_getElem hl
      generalize st.members[m.toNat] = x at hx
      have e : Si50.step st (.comes m.toNat (y.toNat == 1)) = ({ st with members := st.members.set m.toNat { x with here := y.toNat == 1 } }, Si50.ok 0) := by
        show (match st.members[m.toNat]? with
          | none => (st, Si50.ok (-2))
          | some x => ({ st with members := st.members.set m.toNat { x with here := y.toNat == 1 } }, Si50.ok 0)) = _
        rw [hx]
      rw [e] at k
      have e1 : ixN (thr st).length m = some m.toNat := by unfold ixN; rw [if_pos hm, if_pos (by rw [thr_len]; exact c)]
      have e3 : decide (y = 1) = (y.toNat == 1) := by
        rw [Bool.eq_iff_iff, decide_eq_true_eq, beq_iff_eq]; omega
      simp_arith [T.C_Assembly.cl, n_Assembly_there T, hB.o.2, hB.t.2, c, e1]
      rw [e3, here_set st m.toNat x _ hx]
      obtain ⟨f0, fr, fw, -, fm, fb, ff, fff, fp, fpp, fv, fvv, fd, fdl, fdd⟩ := hB.part (k := 2) (Fr_.put (x := .lst (thr { st with members := st.members.set m.toNat { x with here := y.toNat == 1 } })) hB.t.1) (by decide)
      refine k R _ ⟨dx, aR, aW, aT, aM, mn, aO, aP, aV, aD, os, ps, vs', kvs, f0 (by decide), fr, ?_, At.self hB.t.1, fm (by decide), fb, ff (by decide), fff, fp (by decide), fpp, fv (by decide), fvv, fd (by decide), fdl, fdd⟩ (Kp.put hB.t.1)
      rw [wts_set st m.toNat x _ hx]
      exact fw (by decide)
    · have e : Si50.step st (.comes m.toNat (y.toNat == 1)) = (st, Si50.ok (-2)) := by
        show (match st.members[m.toNat]? with
          | none => (st, Si50.ok (-2))
          | some x => ({ st with members := st.members.set m.toNat { x with here := y.toNat == 1 } }, Si50.ok 0)) = _
        rw [List.getElem?_eq_none (by omega)]
      rw [e] at k
      simp_arith [c]
      exact k R H hA Kp.refl
end
end My

end

section
set_option Elab.async false
set_option linter.all false
set_option maxRecDepth 100000
set_option maxHeartbeats 4000000
namespace My
open PySem PySem.Spec PyProof.Rows L2
section
variable {P : Program} {w : World} {K : PySem.W.Frag} {mg : Str → Option Value} {base : Heap} (T : Tx K mg)
theorem fr_mine {b : Si50.Before} {t0 : Tag} {R : Rg} {H : Hp} {a : Addr} {o : HO} (h : R a = t0) (hm : mine b t0) : Fr_ (fun t => ¬ mine b t) R H R (upd H a o) := (Fr_.put h).mono fun t n e => n (e ▸ hm)
variable {T} in
theorem BefAt.part {R R' : Rg} {H H' : Hp} {k : Nat} {x : Addr} {b : Si50.Before} {dx aw aP aY : Addr} {am fu : V} {ps ys : List V} (h : BefAt T R H x b dx aw aP aY am fu ps ys) (f : Fr_ (fun t => t ≠ .mut k b.id) R H R' H') (hk : k < 11) :
    (k ≠ 8 → At R' H' x (.mut 8 b.id) (.ins T.C_MainMotion.c dx (mmF (.int (b.id : Int)) (.ref aw) (.ref aP) am fu (.ref aY) (.bl b.closed)))) ∧ TxtAt T R' H' aw b.text ∧ (k ≠ 9 → At R' H' aP (.mut 9 b.id) (.lst ps)) ∧ Paired (WordsAt T R' H') ps b.parts ∧
    (k ≠ 10 → At R' H' aY (.mut 10 b.id) (.lst ys)) ∧ Paired (WayAt T R' H') ys b.procs.reverse ∧ AmdAt T R' H' am b.first ∧ AmdAt T R' H' fu b.second := by
  have g : ∀ j i, k ≠ j → (Tag.mut j i) ≠ .mut k b.id := fun j i n e => by injection e with e1 _; exact n e1.symm
  exact ⟨fun n => f _ _ _ (g 8 _ n) h.o, h.w.fr f nofun, fun n => f _ _ _ (g 9 _ n) h.p, paired_imp (fun _ _ z => z.fr f nofun) h.pp, fun n => f _ _ _ (g 10 _ n) h.y, paired_imp (fun _ _ z => z.fr f nofun) h.yy, h.f.fr f nofun fun _ _ => g 11 _ (by omega), h.s.fr f nofun fun _ _ => g 11 _ (by omega)⟩
theorem qo_proc (p : Si50.Proc) : ((Si50.questionOut (.proc p) : Nat) : Int) = 4 + (Si50.rank p : Int) := by cases p <;> rfl
def sp_asked_sort : Sp := fun vs H Q _ => ∃ (x : Addr) (b : Si50.Before) (R : Rg), vs = [.ref x] ∧ Bef T R H x b ∧ Q (.int (Si50.questionOut (Si50.asked b) : Int)) H
theorem ok_asked_sort : FnOk P w K mg base CX0 1 T.f_asked_sort.a T.f_asked_sort.d ["main"] (sp_asked_sort T) := by
  refine T.f_asked_sort.F.ok sc_asked_sort (fun vs H Q E h => ?_) (fun cdv A outer s H vs Q E hr h => ?_)
  · obtain ⟨_, _, _, rfl, _⟩ := h
    rfl
  · obtain ⟨x, b, R, rfl, ⟨dx, aw, aP, aY, am, fu, ps, ys, hB⟩, k⟩ := h
    refine ⟨_, (pss_cons (ps_if (pt_lst (pe_fldK (K := K) (pv 0) rfl))
        (pss_one (ps_ret (pe_op op_add (pe_gl T.k_SEND_BACK) (pe_fldK (K := K) (pe_ix ix_lst (pe_fldK (K := K) (pv 0) rfl) (pe_un un_neg pe_int) (fun _ _ => rfl)) rfl))))
        pss_nil)
      (pss_cons (ps_if (pt_cmpR op_notN (pe_fldK (K := K) (pv 0) rfl) pe_non (nomark _))
        (pss_one (ps_ret (pe_gl T.k_FURTHER_AMENDMENT)))
        pss_nil)
      (pss_cons (ps_if (pt_cmpR op_notN (pe_fldK (K := K) (pv 0) rfl) pe_non (nomark _))
        (pss_one (ps_ret (pe_gl T.k_AMENDMENT)))
        pss_nil)
      (pss_one (ps_ret (pe_gl T.k_MAIN)))))), ?_⟩
    have h1 := hB.o.2
    have h2 := hB.y.2
    have h3 := hB.yy
    have h4 := hB.s
    have h5 := hB.f
    have hc := T.C_MainMotion.cl
    rcases SM.asked_cases b with ⟨q, r, e1, e2, e3⟩ | ⟨e1, a, e2, e3, e4⟩ | ⟨e1, e2, a, e3, e4, e5⟩ | ⟨e1, e2, e3, e4, e5⟩
    · rw [e1, List.reverse_cons] at h3
      obtain ⟨l, v, rfl, _, y, dy, rfl, hy⟩ := pd_last h3
      rw [e2, qo_proc] at k
      simp_arith [h1, h2, hc, hy.2, n_MainMotion_ways_on T, T.C_WayOn.cl, n_WayOn_how T, k]
    · rw [e1] at h3
      have e := pd_nil h3
      subst e
      rw [e2] at h4
      obtain ⟨z, dz, az, rfl, _⟩ := h4
      rw [e3] at k
      simp_arith [h1, h2, hc, n_MainMotion_ways_on T, n_MainMotion_further_amendment T]
      exact k
    · rw [e1] at h3
      have e := pd_nil h3
      subst e
      rw [e2] at h4
      rw [e3] at h5
      obtain ⟨z, dz, az, rfl, _⟩ := h5
      obtain rfl : fu = .non := h4
      rw [e4] at k
      simp_arith [h1, h2, hc, n_MainMotion_ways_on T, n_MainMotion_further_amendment T, n_MainMotion_amendment T]
      exact k
    · rw [e1] at h3
      have e := pd_nil h3
      subst e
      rw [e2] at h4
      rw [e3] at h5
      obtain rfl : fu = .non := h4
      obtain rfl : am = .non := h5
      rw [e4] at k
      simp_arith [h1, h2, hc, n_MainMotion_ways_on T, n_MainMotion_further_amendment T, n_MainMotion_amendment T]
      exact k
def sp_asked_motion : Sp := fun vs H Q _ => ∃ (x : Addr) (b : Si50.Before) (R : Rg), vs = [.ref x] ∧ Bef T R H x b ∧ Q (.int (Si50.idOf b : Int)) H
theorem ok_asked_motion : FnOk P w K mg base CX0 2 T.f_asked_motion.a T.f_asked_motion.d ["main"] (sp_asked_motion T) := by
  have G_asked_sort := ok_asked_sort (P := P) (w := w) (base := base) T
  refine T.f_asked_motion.F.ok sc_asked_motion (fun vs H Q E h => ?_) (fun cdv A outer s H vs Q E hr h => ?_)
  · obtain ⟨_, _, _, rfl, _⟩ := h
    rfl
  · obtain ⟨x, b, R, rfl, hA, k⟩ := h
    obtain ⟨dx, aw, aP, aY, am, fu, ps, ys, hB⟩ := id hA
    refine ⟨_, (pss_cons (ps_set (i := 1) sc_asked_motion.nd rfl (Or.inl rfl) (pe_call (G_asked_sort.mono (by decide)) hr rfl T.f_asked_sort.g T.f_asked_sort.F.kp (b_asked_sort T) .nil pass0 (pa_cons (pv 0) pa_nil)))
      (pss_cons (ps_if (pt_cmpR op_ge (pv 1) (pe_gl T.k_SEND_BACK) (nomark _))
        (pss_one (ps_ret (pe_fldK (K := K) (pe_ix ix_lst (pe_fldK (K := K) (pv 0) rfl) (pe_un un_neg pe_int) (fun _ _ => rfl)) rfl)))
        pss_nil)
      (pss_cons (ps_if (pt_cmpR op_eq (pv 1) (pe_gl T.k_FURTHER_AMENDMENT) (nomark _))
        (pss_one (ps_ret (pe_fldK (K := K) (pe_fldK (K := K) (pv 0) rfl) rfl)))
        pss_nil)
      (pss_cons (ps_if (pt_cmpR op_eq (pv 1) (pe_gl T.k_AMENDMENT) (nomark _))
        (pss_one (ps_ret (pe_fldK (K := K) (pe_fldK (K := K) (pv 0) rfl) rfl)))
        pss_nil)
      (pss_one (ps_ret (pe_fldK (K := K) (pv 0) rfl))))))), ?_⟩
    have h1 := hB.o.2
    have h2 := hB.y.2
    have h3 := hB.yy
    have h4 := hB.s
    have h5 := hB.f
    have hc := T.C_MainMotion.cl
    simp_arith [sp_asked_sort]
    refine ⟨b, R, hA, ?_⟩
    rcases SM.asked_cases b with ⟨q, r, e1, e2, e3⟩ | ⟨e1, a, e2, e3, e4⟩ | ⟨e1, e2, a, e3, e4, e5⟩ | ⟨e1, e2, e3, e4, e5⟩
    · rw [e1, List.reverse_cons] at h3
      obtain ⟨l, v, rfl, _, y, dy, rfl, hy⟩ := pd_last h3
      have hq : (4 : Int) ≤ ((Si50.questionOut (Si50.asked b) : Nat) : Int) := by rw [e2, qo_proc]; omega
      rw [e3] at k
      simp_arith [h1, h2, hc, hy.2, hq, n_MainMotion_ways_on T, T.C_WayOn.cl, n_WayOn_motion T, k]
    · have hq : ((Si50.questionOut (Si50.asked b) : Nat) : Int) = 3 := by rw [e3]; rfl
      rw [hq]
      rw [e2] at h4
      obtain ⟨z, dz, az, rfl, hz⟩ := h4
      rw [e4] at k
      simp_arith [h1, hz.o.2, hc, T.C_Amendment.cl, n_MainMotion_further_amendment T, n_Amendment_motion T, k]
    · have hq : ((Si50.questionOut (Si50.asked b) : Nat) : Int) = 2 := by rw [e4]; rfl
      rw [hq]
      rw [e3] at h5
      obtain ⟨z, dz, az, rfl, hz⟩ := h5
      rw [e5] at k
      simp_arith [h1, hz.o.2, hc, T.C_Amendment.cl, n_MainMotion_amendment T, n_Amendment_motion T, k]
    · have hq : ((Si50.questionOut (Si50.asked b) : Nat) : Int) = 1 := by rw [e4]; rfl
      rw [hq]
      rw [e5] at k
      simp_arith [h1, hc, n_MainMotion_motion T, k]
def sp_how_many_parts : Sp := fun vs H Q _ => ∃ (x : Addr) (b : Si50.Before) (R : Rg), vs = [.ref x] ∧ Bef T R H x b ∧ Q (.int (1 + (b.parts.length : Int))) H
theorem ok_how_many_parts : FnOk P w K mg base CX0 1 T.f_how_many_parts.a T.f_how_many_parts.d ["main"] (sp_how_many_parts T) := by
  refine T.f_how_many_parts.F.ok sc_how_many_parts (fun vs H Q E h => ?_) (fun cdv A outer s H vs Q E hr h => ?_)
  · obtain ⟨_, _, _, rfl, _⟩ := h
    rfl
  · obtain ⟨x, b, R, rfl, ⟨dx, aw, aP, aY, am, fu, ps, ys, hB⟩, k⟩ := h
    refine ⟨_, (pss_one (ps_ret (pe_op op_add pe_int (pe_callB call_lenL (by rfl) T.b_len PySem.boot_len (pa_cons (pe_fldK (K := K) (pv 0) rfl) pa_nil))))), ?_⟩
    simp_arith [hB.o.2, hB.p.2, T.C_MainMotion.cl, n_MainMotion_parts_to_come T, pd_len hB.pp, k]
abbrev Nd (s : Si50.St) : Prop := ((SM.pend s).flatMap SM.ids).Nodup
def sp_make_way : Sp := fun vs H Q _ => ∃ (p : Addr) (s : Si50.St) (b : Si50.Before) (dv : List Si50.Vote) (R : Rg), vs = [.ref p] ∧ AsmX T R H p s dv ∧ s.before = some b ∧ Nd s ∧ b.first = none ∧ b.second = none ∧ b.procs = [] ∧
  ∀ R' H', AsmX T R' H' p { s with before := Si50.nextPart b } dv → Kp R H R' H' → Q .non H'
theorem ok_make_way : FnOk P w K mg base CX0 1 T.f_make_way.a T.f_make_way.d ["assembly"] (sp_make_way T) := by
  refine T.f_make_way.F.ok sc_make_way (fun vs H Q E h => ?_) (fun cdv A outer s H vs Q E hr h => ?_)
  · obtain ⟨_, _, _, _, _, rfl, _⟩ := h
    rfl
  · obtain ⟨p, st, b, dv, R, rfl, hA, hb, nd, b1, b2, b3, k⟩ := h
    obtain ⟨dx, aR, aW, aT, aM, mn, aO, aP, aV, aD, os, ps, vs', kvs, hB⟩ := id hA
    have hm := hB.b
    rw [hb] at hm
    obtain ⟨x, rfl, dx', aw, aQ, aY, am, fu, qs, ys, hM⟩ := hm
    refine ⟨_, (pss_cons (ps_set (i := 1) sc_make_way.nd rfl (Or.inl rfl) (pe_fldK (K := K) (pv 0) rfl))
      (pss_one (ps_if (pt_lst (pe_fldK (K := K) (pv 1) rfl))
        (pss_one (ps_fld (pv 1) (pe_lm PySem.F.slot_list_pop PySem.F.type_list_pop mt_popAt (pe_fldK (K := K) (pv 1) rfl) (pa_cons pe_int pa_nil)) rfl))
        (pss_one (ps_fld (pv 0) pe_non rfl))))), ?_⟩
    have h3 := hM.pp
    have h5 := hM.f
    have h6 := hM.s
    rw [b1] at h5
    rw [b2] at h6
    obtain rfl : am = .non := h5
    obtain rfl : fu = .non := h6
    cases e : b.parts with
    | nil =>
      rw [e] at h3
      have e2 := pd_nil h3
      subst e2
      simp_arith [hB.o.2, hM.o.2, hM.p.2, T.C_Assembly.cl, T.C_MainMotion.cl, n_Assembly_main T, n_MainMotion_parts_to_come T]
      refine k R _ ⟨dx, aR, aW, aT, aM, .non, aO, aP, aV, aD, os, ps, vs', kvs, hB.main hb nd ((Fr_.put hB.o.1).mono fun t z => z.2) (At.self hB.o.1) ?_⟩ (Kp.put hB.o.1)
      have e3 : Si50.nextPart b = none := by unfold Si50.nextPart; rw [e]
      rw [e3]
      rfl
    | cons t r =>
      rw [e] at h3
      cases h3 with
      | cons hv hr' =>
      rename_i v qs'
      obtain ⟨aw', rfl, hv⟩ := hv
      have ei : seqIndex? 0 (qs'.length + 1) = some 0 := by
        have : ixN (qs'.length + 1) 0 = some 0 := by unfold ixN; rw [if_pos (by decide), if_pos (by omega)]; rfl
        exact (ixN_seq this).1
      have n1 : x ≠ aQ := hM.o.ne hM.p.1 nofun
      simp_arith [hB.o.2, hM.o.2, hM.p.2, T.C_Assembly.cl, T.C_MainMotion.cl, n_Assembly_main T, n_MainMotion_parts_to_come T, n_MainMotion_words T, ei, upd_ne n1, List.eraseIdx_cons_zero]
      have f1 : Fr_ (fun t => t ≠ .mut 9 b.id) R H R (upd H aQ (.lst qs')) := Fr_.put hM.p.1
      obtain ⟨g1, g2, g3, g4, g5, g6, g7, g8⟩ := hM.part f1 (by decide)
      have f2 : Fr_ (fun t => t ≠ .mut 8 b.id) R (upd H aQ (.lst qs')) R (upd (upd H aQ (.lst qs')) x (.ins T.C_MainMotion.c dx' (mmF (.int (b.id : Int)) (.ref aw') (.ref aQ) .non .non (.ref aY) (.bl b.closed)))) := Fr_.put hM.o.1
      refine ⟨by decide, by decide, ?_⟩
      refine k R _ ⟨dx, aR, aW, aT, aM, .ref x, aO, aP, aV, aD, os, ps, vs', kvs, ?_⟩ ((Kp.put hM.p.1).trans (Kp.put hM.o.1))
      have e3 : Si50.nextPart b = some { b with text := t, first := none, second := none, procs := [], closed := b.closed, parts := r } := by unfold Si50.nextPart; rw [e]
      rw [e3]
      refine hB.inner hb nd ((fr_mine hM.p.1 (.inr (.inl rfl))).trans (fr_mine hM.o.1 (.inl rfl))) ⟨x, rfl, dx', aw', aQ, aY, .non, .non, qs', ys, ?_⟩
      rw [b3] at g6
      exact ⟨At.self hM.o.1, (hv.fr f1 nofun).fr f2 nofun, f2 _ _ _ nofun (At.self hM.p.1), paired_imp (fun _ _ z => (z.fr f1 nofun).fr f2 nofun) hr', f2 _ _ _ nofun (g5 (by decide)), paired_imp (fun _ _ z => z.fr f2 nofun) g6, rfl, rfl⟩
def dropB (b : Si50.Before) : Option Si50.Before := match Si50.asked b with
  | .proc _ => some { b with procs := b.procs.drop 1 }
  | .second => some { b with second := none }
  | .first => some { b with first := none }
  | .main => Si50.nextPart b
def sp_drop_asked : Sp := fun vs H Q _ => ∃ (p : Addr) (s : Si50.St) (b : Si50.Before) (dv : List Si50.Vote) (R : Rg), vs = [.ref p] ∧ AsmX T R H p s dv ∧ s.before = some b ∧ Nd s ∧
  ∀ R' H', AsmX T R' H' p { s with before := dropB b } dv → Kp R H R' H' → Q .non H'
theorem ok_drop_asked : FnOk P w K mg base CX0 2 T.f_drop_asked.a T.f_drop_asked.d ["assembly"] (sp_drop_asked T) := by
  have G_asked_sort := ok_asked_sort (P := P) (w := w) (base := base) T
  have G_make_way := ok_make_way (P := P) (w := w) (base := base) T
  refine T.f_drop_asked.F.ok sc_drop_asked (fun vs H Q E h => ?_) (fun cdv A outer s H vs Q E hr h => ?_)
  · obtain ⟨_, _, _, _, _, rfl, _⟩ := h
    rfl
  · obtain ⟨p, st, b, dv, R, rfl, hA, hb, nd, k⟩ := h
    obtain ⟨dx, aR, aW, aT, aM, mn, aO, aP, aV, aD, os, ps, vs', kvs, hB⟩ := id hA
    have hm := hB.b
    rw [hb] at hm
    obtain ⟨x, rfl, hMM⟩ := hm
    obtain ⟨dx', aw, aQ, aY, am, fu, qs, ys, hM⟩ := id hMM
    refine ⟨_, (pss_cons (ps_set (i := 1) sc_drop_asked.nd rfl (Or.inl rfl) (pe_fldK (K := K) (pv 0) rfl))
      (pss_cons (ps_set (i := 2) sc_drop_asked.nd rfl (Or.inl rfl) (pe_call (G_asked_sort.mono (by decide)) hr rfl T.f_asked_sort.g T.f_asked_sort.F.kp (b_asked_sort T) .nil pass0 (pa_cons (pv 1) pa_nil)))
      (pss_one (ps_if (pt_cmpR op_ge (pv 2) (pe_gl T.k_SEND_BACK) (nomark _))
        (pss_one (ps_expr (pe_lm0 PySem.F.slot_list_pop PySem.F.type_list_pop mt_pop (pe_fldK (K := K) (pv 1) rfl))))
        (pss_one (ps_if (pt_cmpR op_eq (pv 2) (pe_gl T.k_FURTHER_AMENDMENT) (nomark _))
            (pss_one (ps_fld (pv 1) pe_non rfl))
            (pss_one (ps_if (pt_cmpR op_eq (pv 2) (pe_gl T.k_AMENDMENT) (nomark _))
                (pss_one (ps_fld (pv 1) pe_non rfl))
                (pss_one (ps_expr (pe_call (G_make_way.mono (by decide)) hr rfl T.f_make_way.g T.f_make_way.F.kp (b_make_way T) .nil pass0 (pa_cons (pv 0) pa_nil)))))))))))), ?_⟩
    simp_arith [hB.o.2, T.C_Assembly.cl, n_Assembly_main T, sp_asked_sort]
    refine ⟨b, R, hMM, ?_⟩
    have h3 := hM.yy
    rcases SM.asked_cases b with ⟨q, r, e1, e2, e3⟩ | ⟨e1, a, e2, e3, e4⟩ | ⟨e1, e2, a, e3, e4, e5⟩ | ⟨e1, e2, e3, e4, e5⟩
    · rw [e1, List.reverse_cons] at h3
      obtain ⟨l, v, rfl, hl, _⟩ := pd_last h3
      have hq : (4 : Int) ≤ ((Si50.questionOut (Si50.asked b) : Nat) : Int) := by rw [e2, qo_proc]; omega
      simp_arith [hM.o.2, hM.y.2, T.C_MainMotion.cl, hq, n_MainMotion_ways_on T]
      have f1 : Fr_ (fun t => t ≠ .mut 10 b.id) R H R (upd H aY (.lst l)) := Fr_.put hM.y.1
      obtain ⟨g1, g2, g3, g4, g5, g6, g7, g8⟩ := hM.part f1 (by decide)
      refine k R _ ⟨dx, aR, aW, aT, aM, .ref x, aO, aP, aV, aD, os, ps, vs', kvs, ?_⟩ (Kp.put hM.y.1)
      have e5 : dropB b = some { b with procs := r } := by unfold dropB; rw [e2, e1]; rfl
      rw [e5]
      refine hB.inner hb nd (fr_mine hM.y.1 (.inr (.inr (.inl rfl)))) ⟨x, rfl, dx', aw, aQ, aY, am, fu, qs, l, ?_⟩
      exact ⟨g1 (by decide), g2, g3 (by decide), g4, At.self hM.y.1, paired_imp (fun _ _ z => z.fr f1 nofun) hl, g7, g8⟩
    · have hq : ((Si50.questionOut (Si50.asked b) : Nat) : Int) = 3 := by rw [e3]; rfl
      rw [hq]
      simp_arith [hM.o.2, T.C_MainMotion.cl, n_MainMotion_further_amendment T]
      have f1 : Fr_ (fun t => t ≠ .mut 8 b.id) R H R (upd H x (.ins T.C_MainMotion.c dx' (mmF (.int (b.id : Int)) (.ref aw) (.ref aQ) am .non (.ref aY) (.bl b.closed)))) := Fr_.put hM.o.1
      obtain ⟨g1, g2, g3, g4, g5, g6, g7, g8⟩ := hM.part f1 (by decide)
      refine k R _ ⟨dx, aR, aW, aT, aM, .ref x, aO, aP, aV, aD, os, ps, vs', kvs, ?_⟩ (Kp.put hM.o.1)
      have e5 : dropB b = some { b with second := none } := by unfold dropB; rw [e3]
      rw [e5]
      refine hB.inner hb nd (fr_mine hM.o.1 (.inl rfl)) ⟨x, rfl, dx', aw, aQ, aY, am, .non, qs, ys, ?_⟩
      exact ⟨At.self hM.o.1, g2, g3 (by decide), g4, g5 (by decide), g6, g7, rfl⟩
    · have hq : ((Si50.questionOut (Si50.asked b) : Nat) : Int) = 2 := by rw [e4]; rfl
      rw [hq]
      simp_arith [hM.o.2, T.C_MainMotion.cl, n_MainMotion_amendment T]
      have f1 : Fr_ (fun t => t ≠ .mut 8 b.id) R H R (upd H x (.ins T.C_MainMotion.c dx' (mmF (.int (b.id : Int)) (.ref aw) (.ref aQ) .non fu (.ref aY) (.bl b.closed)))) := Fr_.put hM.o.1
      obtain ⟨g1, g2, g3, g4, g5, g6, g7, g8⟩ := hM.part f1 (by decide)
      refine k R _ ⟨dx, aR, aW, aT, aM, .ref x, aO, aP, aV, aD, os, ps, vs', kvs, ?_⟩ (Kp.put hM.o.1)
      have e6 : dropB b = some { b with first := none } := by unfold dropB; rw [e4]
      rw [e6]
      refine hB.inner hb nd (fr_mine hM.o.1 (.inl rfl)) ⟨x, rfl, dx', aw, aQ, aY, .non, fu, qs, ys, ?_⟩
      exact ⟨At.self hM.o.1, g2, g3 (by decide), g4, g5 (by decide), g6, rfl, g8⟩
    · have hq : ((Si50.questionOut (Si50.asked b) : Nat) : Int) = 1 := by rw [e4]; rfl
      rw [hq]
      simp_arith [sp_make_way]
      refine ⟨st, b, dv, R, hA, hb, nd, e3, e2, e1, fun R' H' h1 h2 => k R' H' ?_ h2⟩
      have e6 : dropB b = Si50.nextPart b := by unfold dropB; rw [e4]
      rw [e6]
      exact h1
def sp_amended : Sp := fun vs H Q _ => ∃ (wv x dx aw : Addr) (t : Si50.Text) (a : Si50.Amend) (R : Rg), vs = [.ref wv, .ref x] ∧ TxtAt T R H wv t ∧ AmdC T R H x dx aw a ∧ t.length ≤ 1000 ∧ a.words.length ≤ 1000 ∧
  ∀ R' H' y, TxtAt T R' H' y (Si50.change t a.i a.j a.words) → Fa R H R' H' → Q (.ref y) H'
theorem ok_amended : FnOk P w K mg base CX0 1 T.f_amended.a T.f_amended.d ["words", "amendment"] (sp_amended T) := by
  refine T.f_amended.F.ok sc_amended (fun vs H Q E h => ?_) (fun cdv A outer s H vs Q E hr h => ?_)
  · obtain ⟨_, _, _, _, _, _, _, rfl, _⟩ := h
    rfl
  · obtain ⟨wv, x, dx, aw, t, a, R, rfl, ⟨ws, hw, hww⟩, hx, l1, l2, k⟩ := h
    obtain ⟨us, hu, huu⟩ := hx.w
    have c1 := pd_len hww
    have c2 := pd_len huu
    refine ⟨_, (pss_one (ps_ret (pe_op op_cat (pe_op op_cat (pe_slice sl_lst (pv 0) po_none (po_some (pe_fldK (K := K) (pv 1) rfl))) (pe_fldK (K := K) (pv 1) rfl)) (pe_slice sl_lst (pv 0) (po_some (pe_fldK (K := K) (pv 1) rfl)) po_none)))), ?_⟩
    simp_arith [hw.2, hx.o.2, T.C_Amendment.cl, n_Amendment_start T]
    intro p1 h1
    have n1 : x ≠ p1 := ne_of_none hx.o.2 h1
    have n2 : aw ≠ p1 := ne_of_none hu.2 h1
    have n3 : wv ≠ p1 := ne_of_none hw.2 h1
    simp_arith [upd_ne n1, upd_ne n2, upd_ne n3, hw.2, hu.2, hx.o.2, T.C_Amendment.cl, n_Amendment_words T]
    refine ⟨smal (by rw [List.length_take]; omega), fun p2 h2 => ?_⟩
    obtain ⟨m1, h2⟩ := upd_none h2
    have n4 : x ≠ p2 := ne_of_none hx.o.2 h2
    have n5 : wv ≠ p2 := ne_of_none hw.2 h2
    simp_arith [upd_ne n1, upd_ne n3, upd_ne n4, upd_ne n5, hw.2, hx.o.2, T.C_Amendment.cl, n_Amendment_stop T]
    intro p3 h3
    obtain ⟨m2, h3⟩ := upd_none h3
    obtain ⟨m3, h3⟩ := upd_none h3
    simp_arith [upd_ne m2.symm]
    refine ⟨smal (by rw [List.length_append, List.length_take, List.length_drop]; omega), fun p4 h4 => ?_⟩
    have fA := Fr_.new (S := fun _ => True) (R := R) (t0 := .oth) (x := .lst (ws.take a.i)) h1
    have h2' : upd H p1 (.lst (ws.take a.i)) p2 = none := by rw [upd_ne m1]; exact h2
    have fB := fA.trans (Fr_.new (t0 := .oth) (x := .lst (ws.take a.i ++ us)) h2')
    have h3' : upd (upd H p1 (.lst (ws.take a.i))) p2 (.lst (ws.take a.i ++ us)) p3 = none := by rw [upd_ne m2, upd_ne m3]; exact h3
    have fC := fB.trans (Fr_.new (t0 := .oth) (x := .lst (ws.drop a.j)) h3')
    have fD := fC.trans (Fr_.new (t0 := .oth) (x := .lst (ws.take a.i ++ us ++ ws.drop a.j)) h4)
    refine k _ _ p4 ⟨_, At.made, ?_⟩ fD
    have e1 : Paired (WordAt T R H) (ws.take a.i ++ us ++ ws.drop a.j) (Si50.change t a.i a.j a.words) := by
      unfold Si50.change
      rw [← List.append_assoc]
      exact pd_app (pd_app (pd_take hww _) huu) (pd_drop hww _)
    exact paired_imp (fun _ _ z => z.fr fD trivial) e1
end
end My

end

section
set_option Elab.async false
set_option linter.all false
set_option maxRecDepth 100000
set_option maxHeartbeats 4000000
namespace L2
open PySem PySem.Spec PyProof.Rows
/-- a new instance, all else as it was -/
theorem made {R : Rg} {H : Hp} {x dx C : Addr} {fs : List (Str × V)} {t : Tag} (hx : H x = none) (hd : H dx = none) (n : dx ≠ x) :
    Fa R H (setR (setR R dx .oth) x t) (upd (upd H dx (.own x)) x (.ins C dx fs)) ∧ At (setR (setR R dx .oth) x t) (upd (upd H dx (.own x)) x (.ins C dx fs)) x t (.ins C dx fs) :=
  ⟨(Fr_.new hd).trans (Fr_.new (by rw [upd_ne n.symm]; exact hx)), At.made⟩
end L2
namespace My
open PySem PySem.Spec PyProof.Rows L2
section
variable {P : Program} {w : World} {K : PySem.W.Frag} {mg : Str → Option Value} {base : Heap} (T : Tx K mg)
theorem take_snoc {α : Type} : ∀ {l : List α} {i : Nat} {x : α}, l[i]? = some x → l.take (i + 1) = l.take i ++ [x]
  | [], i, x, h => by simp at h
  | a :: l, 0, x, h => by
    have e : a = x := Option.some.inj h
    subst e
    rfl
  | a :: l, i + 1, x, h => by
    have ih := take_snoc (l := l) (i := i) (x := x) h
    show a :: l.take (i + 1) = a :: l.take i ++ [x]
    rw [ih]
    rfl
theorem all_false {α : Type} {l : List α} {f : α → Bool} {x : α} (h : x ∈ l) (e : f x = false) : l.all f = false := by
  cases q : l.all f with
  | false => rfl
  | true =>
    have := List.all_eq_true.mp q x h
    rw [e] at this
    cases this
theorem words_all : ∀ (ws : List Int), (∀ z, z ∈ ws → 0 ≤ z) → (ws.all ((fun x => decide (1 ≤ x) && decide (x ≤ 99999)) ∘ Int.toNat)) = ws.all fun z => decide (1 ≤ z) && decide (z ≤ 99999)
  | [], _ => rfl
  | z :: r, h => by
    have h0 := h z (List.mem_cons_self ..)
    have ih := words_all r fun y hy => h y (List.mem_cons_of_mem _ hy)
    rw [List.all_cons, List.all_cons, ih]
    have e1 : decide (1 ≤ z.toNat) = decide (1 ≤ z) := decide_eq_decide.mpr (by omega)
    have e2 : decide (z.toNat ≤ 99999) = decide (z ≤ 99999) := decide_eq_decide.mpr (by omega)
    show (decide (1 ≤ z.toNat) && decide (z.toNat ≤ 99999) && _) = _
    rw [e1, e2]
/-- the words as they come: all of them from 0 on -/
def sp_may_be_moved : Sp := fun vs H Q _ => ∃ (a : Addr) (ws : List Int), vs = [.ref a] ∧ H a = some (.lst (ws.map V.int)) ∧ (∀ z, z ∈ ws → 0 ≤ z) ∧ Q (.bl (Si50.wordsOk (ws.map Int.toNat))) H
theorem ok_may_be_moved : FnOk P w K mg base CX0 1 T.f_may_be_moved.a T.f_may_be_moved.d ["words"] sp_may_be_moved := by
  refine T.f_may_be_moved.F.ok sc_may_be_moved (fun vs H Q E h => ?_) (fun cdv A outer s H vs Q E hr h => ?_)
  · obtain ⟨_, _, rfl, _⟩ := h
    rfl
  · obtain ⟨a, ws, rfl, ha, hz, k⟩ := h
    refine ⟨_, (pss_cons (ps_if (pt_cmpR op_gt (pe_callB call_lenL (by rfl) T.b_len PySem.boot_len (pa_cons (pv 0) pa_nil)) (pe_gl T.k_MOST_WORDS_MOVED) (nomark _))
        (pss_one (ps_ret pe_bl))
        pss_nil)
      (pss_cons (ps_for PassesOwn.never rfl (pi_list (pv 0)) (pg_name (i := 1) sc_may_be_moved.nd rfl (Or.inl rfl))
        (pss_one (ps_if (PW.pt (pw_or (pt_cmpR op_lt (pv 1) pe_int (nomark _)) (pw_or1 (pt_cmpR op_gt (pv 1) (pe_gl T.k_LAST_WORD) (nomark _)))))
            (pss_one (ps_ret pe_bl))
            pss_nil)))
      (pss_one (ps_ret pe_bl)))), ?_⟩
    simp_arith [ha, List.length_map]
    by_cases c : (30 : Int) < (ws.length : Int)
    · rw [if_pos c]
      have e : Si50.wordsOk (ws.map Int.toNat) = false := by
        unfold Si50.wordsOk
        rw [decide_eq_false (by rw [List.length_map]; omega)]
        rfl
      rw [e] at k
      exact k
    · rw [if_neg c]
      have e : Si50.wordsOk (ws.map Int.toNat) = ws.all fun z => decide (1 ≤ z) && decide (z ≤ 99999) := by
        unfold Si50.wordsOk
        rw [decide_eq_true (by rw [List.length_map]; omega), Bool.true_and, List.all_map]
        refine words_all ws hz
      rw [e] at k
      refine ⟨_, rfl, a, rfl, ⟨_, SqL.of ha⟩, for_list (K := K) (a := a) (xs := ws.map V.int) (fun i σ H' => H' = H ∧ (∃ v, σ = [some (.ref a), v]) ∧ (ws.take i).all (fun z => decide (1 ≤ z) && decide (z ≤ 99999)) = true) ⟨rfl, ⟨_, rfl⟩, rfl⟩ (fun i σ H' _ ⟨e1, _⟩ => by rw [e1]; exact SqL.of ha) ?_ ?_⟩
      · rintro i x σ H' hi ⟨rfl, ⟨v, rfl⟩, h3⟩
        rw [List.getElem?_map] at hi
        cases hw : ws[i]? with
        | none => rw [hw] at hi; cases hi
        | some z =>
          rw [hw] at hi
          have e2 : V.int z = x := Option.some.inj hi
          subst e2
          simp_arith [take_snoc hw, List.all_append, List.all_cons, List.all_nil, h3]
          by_cases c1 : z < 1
          · rw [if_pos c1]
            have e3 : (ws.all fun z => decide (1 ≤ z) && decide (z ≤ 99999)) = false := all_false (List.mem_of_getElem? hw) (by rw [decide_eq_false (by omega)]; rfl)
            rw [e3] at k
            exact k
          · rw [if_neg c1]
            by_cases c2 : 99999 < z
            · rw [if_pos c2]
              have e3 : (ws.all fun z => decide (1 ≤ z) && decide (z ≤ 99999)) = false := all_false (List.mem_of_getElem? hw) (by rw [decide_eq_false (p := z ≤ 99999) (by omega), Bool.and_false])
              rw [e3] at k
              exact k
            · rw [if_neg c2]
              refine ⟨⟨_, rfl⟩, ?_⟩
              rw [decide_eq_true (by omega), decide_eq_true (by omega)]
              rfl
      · rintro σ H' ⟨rfl, ⟨v, rfl⟩, h3⟩
        rw [List.length_map, List.take_length] at h3
        rw [h3] at k
        simp_arith [k]

def sp_motions_are_full : Sp := fun vs H Q _ => ∃ (p : Addr) (s : Si50.St) (dv : List Si50.Vote) (R : Rg), vs = [.ref p] ∧ AsmX T R H p s dv ∧ Q (.bl (decide ((100 : Int) ≤ (s.moved.length : Int)))) H
theorem ok_motions_are_full : FnOk P w K mg base CX0 1 T.f_motions_are_full.a T.f_motions_are_full.d ["assembly"] (sp_motions_are_full T) := by
  refine T.f_motions_are_full.F.ok sc_motions_are_full (fun vs H Q E h => ?_) (fun cdv A outer s H vs Q E hr h => ?_)
  · obtain ⟨_, _, _, _, rfl, _⟩ := h
    rfl
  · obtain ⟨p, st, dv, R, rfl, ⟨dx, aR, aW, aT, aM, mn, aO, aP, aV, aD, os, ps, vs', kvs, hB⟩, k⟩ := h
    refine ⟨_, (pss_one (ps_ret (pe_cmpR op_ge (pe_callB call_lenL (by rfl) T.b_len PySem.boot_len (pa_cons (pe_fldK (K := K) (pv 0) rfl) pa_nil)) (pe_gl T.k_MOST_MOTIONS) (nomark _)))), ?_⟩
    simp_arith [T.C_Assembly.cl, n_Assembly_movers T, hB.o.2, hB.m.2, mvs_len, k]
def sp_number_motion : Sp := fun vs H Q _ => ∃ (p : Addr) (m : Int) (s : Si50.St) (dv : List Si50.Vote) (R : Rg) (dx aR aW aT aM : Addr) (mn : V) (aO aP aV aD : Addr) (os ps vs' : List V) (kvs : List (Key × V)), vs = [.ref p, .int m] ∧ AsmC T R H p s dv dx aR aW aT aM mn aO aP aV aD os ps vs' kvs ∧ 0 ≤ m ∧ s.moved.length ≤ 100 ∧
  ∀ H', AsmC T R H' p (Si50.newId s m.toNat) dv dx aR aW aT aM mn aO aP aV aD os ps vs' kvs → Fr_ (fun t => t ≠ .mut 3 0) R H R H' → Q (.int (s.moved.length : Int)) H'
theorem ok_number_motion : FnOk P w K mg base CX0 1 T.f_number_motion.a T.f_number_motion.d ["assembly", "member"] (sp_number_motion T) := by
  refine T.f_number_motion.F.ok sc_number_motion (fun vs H Q E h => ?_) (fun cdv A outer s H vs Q E hr h => ?_)
  · obtain ⟨_, _, _, _, _, _, _, _, _, _, _, _, _, _, _, _, _, _, _, rfl, _⟩ := h
    rfl
  · obtain ⟨p, m, st, dv, R, dx, aR, aW, aT, aM, mn, aO, aP, aV, aD, os, ps, vs', kvs, rfl, hB, hm, hl, k⟩ := h
    have n1 : p ≠ aM := hB.o.ne hB.m.1 nofun
    refine ⟨_, (pss_cons (ps_expr (pe_lm PySem.F.slot_list_append PySem.F.type_list_append mt_append (pe_fldK (K := K) (pv 0) rfl) (pa_cons (pv 1) pa_nil)))
      (pss_one (ps_ret (pe_op op_sub (pe_callB call_lenL (by rfl) T.b_len PySem.boot_len (pa_cons (pe_fldK (K := K) (pv 0) rfl) pa_nil)) pe_int)))), ?_⟩
    simp_arith [hB.o.2, hB.m.2, T.C_Assembly.cl, n_Assembly_movers T, upd_ne n1, mvs_len]
    refine ⟨small (by omega), ?_⟩
    have e2 : ((((mvs st ++ [V.int m]).length : Nat) : Int) - 1) = (st.moved.length : Int) := by rw [List.length_append, mvs_len]; simp
    have e3 : mvs st ++ [V.int m] = mvs (Si50.newId st m.toNat) := by
      unfold mvs Si50.newId nl
      rw [List.map_append]
      show _ = _ ++ [V.int (m.toNat : Int)]
      rw [Int.toNat_of_nonneg hm]
    rw [e2, e3]
    obtain ⟨f0, fr, fw, ft, -, fb, ff, fff, fp, fpp, fv, fvv, fd, fdl, fdd⟩ := hB.part (k := 3) (Fr_.put (x := .lst (mvs (Si50.newId st m.toNat))) hB.m.1) (by decide)
    exact k _ ⟨f0 (by decide), fr, fw (by decide), ft (by decide), At.self hB.m.1, fb, ff (by decide), fff, fp (by decide), fpp, fv (by decide), fvv, fd (by decide), fdl, fdd⟩ (Fr_.put hB.m.1)
def sp_words_of : Sp := fun vs H Q _ => ∃ (mo : Nat) (a : Addr) (ws : List Int) (R : Rg), vs = [.int (mo : Int), .ref a] ∧ H a = some (.lst (ws.map V.int)) ∧ (∀ z, z ∈ ws → 0 ≤ z) ∧ ws.length ≤ 1000 ∧
  ∀ R' H' y, TxtAt T R' H' y (Si50.tokens mo (ws.map Int.toNat)) → Fa R H R' H' → Q (.ref y) H'
theorem ok_words_of : FnOk P w K mg base CX0 3 T.f_words_of.a T.f_words_of.d ["motion", "numbers"] (sp_words_of T) := by
  have G_Word_init := ok_Word_init (P := P) (w := w) (base := base) T
  refine T.f_words_of.F.ok sc_words_of (fun vs H Q E h => ?_) (fun cdv A outer s H vs Q E hr h => ?_)
  · obtain ⟨_, _, _, _, rfl, _⟩ := h
    rfl
  · obtain ⟨mo, a, ws, R, rfl, ha, hz, hl, k⟩ := h
    refine ⟨_, (pss_one (ps_ret (pe_lc rfl sc_words_of.nd (pi_list (pv 1)) (blkOk_by (own := [("number", 2)]) (by show blkC ["motion", "numbers", "number"] (defScope s_words_of) _ _ = true; decide +kernel)) (fun _ _ _ _ _ => (pg_name (i := 2) sc_words_of.nd rfl (Or.inl rfl))) (fun _ _ _ _ _ => pts_nil) (fun _ _ _ _ _ => (pe_make T.C_Word.mk_ (G_Word_init.mono (by decide)) hr rfl T.C_Word.gc (b_Word_init T) .nil pass0 (pa_cons (pv 2) (pa_cons (pv 0) pa_nil))))))), ?_⟩
    simp_arith [*]
    refine ⟨_, rfl, a, rfl, ⟨_, SqL.of ha⟩, fun D hD => ?_⟩
    refine lc_list (K := K) (a := a) (xs := ws.map V.int) (fun i H' => ∃ R' zs, At R' H' D (.mut 99 0) (.lst zs) ∧ Fa R H R' H' ∧ zs.length ≤ i ∧ Paired (WordAt T R' H') zs (Si50.tokens mo ((ws.take i).map Int.toNat))) ⟨setR R D (.mut 99 0), [], At.made, Fr_.new hD, Nat.le_refl _, .nil⟩ ?_ ?_ ?_
    · rintro i H' _ ⟨R', zs, h1, h2, h3, h4⟩
      exact SqL.of (h2 a (R a) _ trivial ⟨rfl, ha⟩).2
    · rintro i x H' hx ⟨R', zs, h1, h2, h3, h4⟩
      rw [List.getElem?_map] at hx
      cases hi : ws[i]? with
      | none => rw [hi] at hx; cases hx
      | some z =>
        rw [hi] at hx
        have ex : V.int z = x := Option.some.inj hx
        subst ex
        have hzz := hz z (List.mem_of_getElem? hi)
        have hil : i < ws.length := (List.getElem?_eq_some_iff.mp hi).1
        simp_arith [sp_Word_init]
        intro y dy hy hdy ny
        have n1 : D ≠ y := ne_of_none h1.2 hy
        have n2 : D ≠ dy := ne_of_none h1.2 hdy
        simp_arith [upd_ne n1, upd_ne n2, h1.2]
        refine ⟨small (by omega), ?_⟩
        obtain ⟨g1, g2⟩ := made (R := R') (C := T.C_Word.c) (fs := wdF (.int z) (.int (mo : Int))) (t := .oth) hy hdy ny
        have g3 := g1 D _ _ trivial h1
        have f1 : Fr_ (fun t => t ≠ .mut 99 0) (setR (setR R' dy .oth) y .oth) (upd (upd H' dy (.own y)) y (.ins T.C_Word.c dy (wdF (.int z) (.int (mo : Int))))) (setR (setR R' dy .oth) y .oth) (upd (upd (upd H' dy (.own y)) y (.ins T.C_Word.c dy (wdF (.int z) (.int (mo : Int))))) D (.lst (zs ++ [.ref y]))) := Fr_.put g3.1
        refine ⟨_, zs ++ [.ref y], At.self g3.1, ?_, by rw [List.length_append, List.length_singleton]; omega, ?_⟩
        · intro c t o _ hc
          have nc : c ≠ D := ne_of_none hc.2 hD
          have z := g1 c t o trivial (h2 c t o trivial hc)
          exact ⟨z.1, by rw [upd_ne nc]; exact z.2⟩
        · rw [take_snoc hi, List.map_append]
          unfold Si50.tokens at h4 ⊢
          rw [List.map_append]
          refine pd_snoc (paired_imp (fun _ _ z => (z.fr g1 trivial).fr f1 nofun) h4) ⟨y, dy, rfl, f1 _ _ _ nofun ?_⟩
          show At _ _ y .oth (.ins T.C_Word.c dy (wdF (.int (z.toNat : Int)) (.int (mo : Int))))
          rw [Int.toNat_of_nonneg hzz]
          exact g2
    · rintro H' ⟨R', zs, h1, h2, h3, h4⟩
      rw [List.length_map, List.take_length] at h4
      refine k (setR R' D .oth) H' D ⟨zs, ⟨setR_same, h1.2⟩, paired_imp (fun v t z => ?_) h4⟩ fun c t o _ hc => ?_
      · obtain ⟨y, dy, e, hy⟩ := z
        have n : y ≠ D := hy.ne h1.1 nofun
        exact ⟨y, dy, e, by rw [setR_ne n]; exact hy.1, hy.2⟩
      · have z := h2 c t o trivial hc
        exact ⟨by rw [setR_ne (ne_of_none hc.2 hD)]; exact z.1, z.2⟩
def aonV (s : Si50.St) (m : Int) : Int := if absV s m = 0 then (if s.before.isSome = true then 0 else -4) else absV s m
variable {T} in
theorem AsmC.seto {R R' : Rg} {H H' : Hp} {p : Addr} {s : Si50.St} {dv : List Si50.Vote} {dx aR aW aT aM : Addr} {mn mn' : V} {aO aP aV aD : Addr} {os ps vs : List V} {kvs : List (Key × V)} {o : Option Si50.Before} (h : AsmC T R H p s dv dx aR aW aT aM mn aO aP aV aD os ps vs kvs) (f : Fr_ (fun t => t ≠ .mut 0 0) R H R' H')
    (ho : At R' H' p (.mut 0 0) (.ins T.C_Assembly.c dx (asmF (.int (s.rules.quorum : Int)) (.ref aR) (.ref aW) (.ref aT) (.ref aM) mn' (.ref aO) (.ref aP) (.ref aV) (.ref aD)))) (new : MainAt T R' H' mn' o) : AsmC T R' H' p { s with before := o } dv dx aR aW aT aM mn' aO aP aV aD os ps vs kvs := by
  obtain ⟨-, fr, fw, ft, fm, -, ff, fff, fp, fpp, fv, fvv, fd, fdl, fdd⟩ := h.part (k := 0) f (by decide)
  exact ⟨ho, fr, fw (by decide), ft (by decide), fm (by decide), new, ff (by decide), fff, fp (by decide), fpp, fv (by decide), fvv, fd (by decide), fdl, fdd⟩
theorem main_non {R : Rg} {H : Hp} {v : V} {o : Option Si50.Before} (h : MainAt T R H v o) : decide (v = .non) = !o.isSome := by
  cases o with
  | none => obtain rfl : v = .non := h; rfl
  | some b => obtain ⟨x, rfl, _⟩ := h; rfl
def sp_absence_or_nothing : Sp := fun vs H Q _ => ∃ (p : Addr) (m : Int) (s : Si50.St) (dv : List Si50.Vote) (R : Rg), vs = [.ref p, .int m] ∧ AsmX T R H p s dv ∧ 0 ≤ m ∧ Q (.int (aonV s m)) H
theorem ok_absence_or_nothing : FnOk P w K mg base CX0 3 T.f_absence_or_nothing.a T.f_absence_or_nothing.d ["assembly", "member"] (sp_absence_or_nothing T) := by
  have G_absence := ok_absence (P := P) (w := w) (base := base) T
  refine T.f_absence_or_nothing.F.ok sc_absence_or_nothing (fun vs H Q E h => ?_) (fun cdv A outer s H vs Q E hr h => ?_)
  · obtain ⟨_, _, _, _, _, rfl, _⟩ := h
    rfl
  · obtain ⟨p, m, st, dv, R, rfl, hA, hm, k⟩ := h
    obtain ⟨dx, aR, aW, aT, aM, mn, aO, aP, aV, aD, os, ps, vs', kvs, hB⟩ := id hA
    refine ⟨_, (pss_cons (ps_set (i := 2) sc_absence_or_nothing.nd rfl (Or.inl rfl) (pe_call (G_absence.mono (by decide)) hr rfl T.f_absence.g T.f_absence.F.kp (b_absence T) .nil pass0 (pa_cons (pv 0) (pa_cons (pv 1) pa_nil))))
      (pss_cons (ps_if (pt_cmpR op_ne (pv 2) (pe_gl T.k_NO_REFUSAL) (nomark _))
        (pss_one (ps_ret (pv 2)))
        pss_nil)
      (pss_cons (ps_if (pt_cmpR op_isN (pe_fldK (K := K) (pv 0) rfl) pe_non (nomark _))
        (pss_one (ps_ret (pe_gl T.k_OUT_OF_ORDER)))
        pss_nil)
      (pss_one (ps_ret (pe_gl T.k_NO_REFUSAL)))))), ?_⟩
    simp_arith [sp_absence]
    refine ⟨st, dv, R, hA, hm, ?_⟩
    unfold aonV at k
    by_cases c : absV st m = 0
    · rw [if_pos c] at k
      have hn := hB.b
      cases e : st.before with
      | none =>
        rw [e] at k hn
        obtain rfl : mn = .non := hn
        simp only [Option.isSome_none, if_true, if_false, ite_true, ite_false, reduceIte, Bool.false_eq_true, decide_true, decide_false] at k
        simp_arith [c, T.C_Assembly.cl, n_Assembly_main T, hB.o.2, k]
      | some b =>
        rw [e] at k hn
        obtain ⟨x, rfl, _⟩ := hn
        simp only [Option.isSome_some, if_true, if_false, ite_true, ite_false, reduceIte, Bool.false_eq_true, decide_true, decide_false] at k
        simp_arith [c, T.C_Assembly.cl, n_Assembly_main T, hB.o.2, k]
    · rw [if_neg c] at k
      simp_arith [c, k]
theorem mover_eq {s : Si50.St} {m : Int} {f : Si50.St × Si50.Ans} (hm : 0 ≤ m) : Si50.mover s m.toNat f = if absV s m = 0 then f else (s, Si50.ok (absV s m)) := by
  unfold Si50.mover absV
  by_cases c : m < (s.members.length : Int)
  · rw [if_neg (by omega), if_pos c]
    cases Si50.here s m.toNat <;> rfl
  · rw [if_pos (by omega), if_neg c]
    rfl
def mvR (s : Si50.St) (m : Int) (w : List Nat) : Int := if absV s m = 0 then (if (Si50.wordsOk w && decide (1 ≤ w.length)) = false then -1 else if s.before.isSome = true then -4 else if 100 ≤ s.moved.length then -5 else 0) else absV s m
theorem step_move {s : Si50.St} {m : Int} {w : List Nat} (hm : 0 ≤ m) : Si50.step s (.move m.toNat w) = if mvR s m w = 0 then
    ({ Si50.newId s m.toNat with before := some ⟨s.moved.length, m.toNat, Si50.tokens s.moved.length w, none, none, [], false, []⟩ }, Si50.ok (s.moved.length : Int)) else (s, Si50.ok (mvR s m w)) := by
  show Si50.mover s m.toNat _ = _
  rw [mover_eq hm]
  unfold mvR Si50.MOTIONS
  by_cases c : absV s m = 0
  · rw [if_pos c, if_pos c]
    split
    · rfl
    · split
      · rfl
      · split <;> rfl
  · rw [if_neg c, if_neg c, if_neg c]
def sp_move_refusal : Sp := fun vs H Q _ => ∃ (p a : Addr) (m : Int) (ws : List Int) (s : Si50.St) (dv : List Si50.Vote) (R : Rg), vs = [.ref p, .int m, .ref a] ∧ AsmX T R H p s dv ∧ 0 ≤ m ∧ H a = some (.lst (ws.map V.int)) ∧ (∀ z, z ∈ ws → 0 ≤ z) ∧ Q (.int (mvR s m (ws.map Int.toNat))) H
theorem ok_move_refusal : FnOk P w K mg base CX0 3 T.f_move_refusal.a T.f_move_refusal.d ["assembly", "member", "words"] (sp_move_refusal T) := by
  have G_absence := ok_absence (P := P) (w := w) (base := base) T
  have G_motions_are_full := ok_motions_are_full (P := P) (w := w) (base := base) T
  have G_may_be_moved := ok_may_be_moved (P := P) (w := w) (base := base) T
  refine T.f_move_refusal.F.ok sc_move_refusal (fun vs H Q E h => ?_) (fun cdv A outer s H vs Q E hr h => ?_)
  · obtain ⟨_, _, _, _, _, _, _, rfl, _⟩ := h
    rfl
  · obtain ⟨p, a, m, ws, st, dv, R, rfl, hA, hm, ha, hz, k⟩ := h
    obtain ⟨dx, aR, aW, aT, aM, mn, aO, aP, aV, aD, os, ps, vs', kvs, hB⟩ := id hA
    refine ⟨_, (pss_cons (ps_set (i := 3) sc_move_refusal.nd rfl (Or.inl rfl) (pe_call (G_absence.mono (by decide)) hr rfl T.f_absence.g T.f_absence.F.kp (b_absence T) .nil pass0 (pa_cons (pv 0) (pa_cons (pv 1) pa_nil))))
      (pss_cons (ps_if (pt_cmpR op_ne (pv 3) (pe_gl T.k_NO_REFUSAL) (nomark _))
        (pss_one (ps_ret (pv 3)))
        pss_nil)
      (pss_cons (ps_if (PW.pt (pw_or (pt_cmpR op_eq (pe_callB call_lenL (by rfl) T.b_len PySem.boot_len (pa_cons (pv 2) pa_nil)) pe_int (nomark _)) (pw_or1 (pt_not (pt_val (pe_call (G_may_be_moved.mono (by decide)) hr rfl T.f_may_be_moved.g T.f_may_be_moved.F.kp (b_may_be_moved T) .nil pass0 (pa_cons (pv 2) pa_nil)))))))
        (pss_one (ps_ret (pe_gl T.k_WRONG)))
        pss_nil)
      (pss_cons (ps_if (pt_cmpR op_notN (pe_fldK (K := K) (pv 0) rfl) pe_non (nomark _))
        (pss_one (ps_ret (pe_gl T.k_OUT_OF_ORDER)))
        pss_nil)
      (pss_cons (ps_if (pt_val (pe_call (G_motions_are_full.mono (by decide)) hr rfl T.f_motions_are_full.g T.f_motions_are_full.F.kp (b_motions_are_full T) .nil pass0 (pa_cons (pv 0) pa_nil)))
        (pss_one (ps_ret (pe_gl T.k_FULL)))
        pss_nil)
      (pss_one (ps_ret (pe_gl T.k_NO_REFUSAL)))))))), ?_⟩
    simp_arith [sp_absence]
    refine ⟨st, dv, R, hA, hm, ?_⟩
    unfold mvR at k
    by_cases c : absV st m = 0
    · rw [if_pos c] at k
      simp_arith [c, ha, List.length_map]
      by_cases c1 : ws.length = 0
      · have e : (Si50.wordsOk (ws.map Int.toNat) && decide (1 ≤ (ws.map Int.toNat).length)) = false := by rw [decide_eq_false (by rw [List.length_map]; omega), Bool.and_false]
        rw [if_pos e] at k
        have c2 : (ws.length : Int) = 0 := by omega
        simp_arith [c2, k]
      · have c2 : ¬ (ws.length : Int) = 0 := by omega
        simp_arith [c2, sp_may_be_moved]
        refine ⟨ws, ha, hz, ?_⟩
        have e : (Si50.wordsOk (ws.map Int.toNat) && decide (1 ≤ (ws.map Int.toNat).length)) = Si50.wordsOk (ws.map Int.toNat) := by rw [decide_eq_true (by rw [List.length_map]; omega), Bool.and_true]
        rw [e] at k
        cases ew : Si50.wordsOk (ws.map Int.toNat) with
        | false =>
          rw [ew, if_pos rfl] at k
          simp_arith [k]
        | true =>
          rw [ew, if_neg (by decide)] at k
          have hn := hB.b
          cases e : st.before with
          | some b =>
            rw [e] at k hn
            obtain ⟨x, rfl, _⟩ := hn
            simp only [Option.isSome_some, if_true, if_false, ite_true, ite_false, reduceIte, Bool.false_eq_true, decide_true, decide_false] at k
            simp_arith [T.C_Assembly.cl, n_Assembly_main T, hB.o.2, k]
          | none =>
            rw [e] at k hn
            obtain rfl : mn = .non := hn
            simp only [Option.isSome_none, if_true, if_false, ite_true, ite_false, reduceIte, Bool.false_eq_true, decide_true, decide_false] at k
            simp_arith [T.C_Assembly.cl, n_Assembly_main T, hB.o.2, sp_motions_are_full]
            refine ⟨st, dv, R, hA, ?_⟩
            by_cases c3 : 100 ≤ st.moved.length
            · have c4 : (100 : Int) ≤ (st.moved.length : Int) := by omega
              simp only [c3, if_true, if_false, ite_true, ite_false, reduceIte, Bool.false_eq_true, decide_true, decide_false] at k
              simp_arith [c4, k]
            · have c4 : ¬ (100 : Int) ≤ (st.moved.length : Int) := by omega
              simp only [c3, if_true, if_false, ite_true, ite_false, reduceIte, Bool.false_eq_true, decide_true, decide_false] at k
              simp_arith [c4, k]
    · rw [if_neg c] at k
      simp_arith [c, k]
def sp_move : Sp := fun vs H Q _ => ∃ (p a : Addr) (m : Int) (ws : List Int) (s : Si50.St) (n : Nat) (R : Rg), vs = [.ref p, .int m, .ref a] ∧ Asm T R H p s ∧ SM.WF n s ∧ 0 ≤ m ∧ At R H a .oth (.lst (ws.map V.int)) ∧ (∀ z, z ∈ ws → 0 ≤ z) ∧ ws.length ≤ 40 ∧
  ∀ R' H', Asm T R' H' p (Si50.step s (.move m.toNat (ws.map Int.toNat))).1 → Kp R H R' H' → Q (.int (Si50.step s (.move m.toNat (ws.map Int.toNat))).2.v) H'
theorem ok_move : FnOk P w K mg base CX0 4 T.f_move.a T.f_move.d ["assembly", "member", "words"] (sp_move T) := by
  have G_move_refusal := ok_move_refusal (P := P) (w := w) (base := base) T
  have G_number_motion := ok_number_motion (P := P) (w := w) (base := base) T
  have G_MainMotion_init := ok_MainMotion_init (P := P) (w := w) (base := base) T
  have G_words_of := ok_words_of (P := P) (w := w) (base := base) T
  refine T.f_move.F.ok sc_move (fun vs H Q E h => ?_) (fun cdv A outer s H vs Q E hr h => ?_)
  · obtain ⟨_, _, _, _, _, _, _, rfl, _⟩ := h
    rfl
  · obtain ⟨p, a, m, ws, st, n, R, rfl, hA, wf, hm, ha, hz, hl, k⟩ := h
    rw [step_move hm] at k
    refine ⟨_, (pss_cons (ps_set (i := 3) sc_move.nd rfl (Or.inl rfl) (pe_call (G_move_refusal.mono (by decide)) hr rfl T.f_move_refusal.g T.f_move_refusal.F.kp (b_move_refusal T) .nil pass0 (pa_cons (pv 0) (pa_cons (pv 1) (pa_cons (pv 2) pa_nil)))))
      (pss_cons (ps_if (pt_cmpR op_ne (pv 3) (pe_gl T.k_NO_REFUSAL) (nomark _))
        (pss_one (ps_ret (pv 3)))
        pss_nil)
      (pss_cons (ps_set (i := 4) sc_move.nd rfl (Or.inl rfl) (pe_call (G_number_motion.mono (by decide)) hr rfl T.f_number_motion.g T.f_number_motion.F.kp (b_number_motion T) .nil pass0 (pa_cons (pv 0) (pa_cons (pv 1) pa_nil))))
      (pss_cons (ps_fld (pv 0) (pe_make T.C_MainMotion.mk_ (G_MainMotion_init.mono (by decide)) hr rfl T.C_MainMotion.gc (b_MainMotion_init T) .nil pass0 (pa_cons (pv 4) (pa_cons (pe_call (G_words_of.mono (by decide)) hr rfl T.f_words_of.g T.f_words_of.F.kp (b_words_of T) .nil pass0 (pa_cons (pv 4) (pa_cons (pv 2) pa_nil))) pa_nil))) rfl)
      (pss_one (ps_ret (pv 4))))))), ?_⟩
    simp_arith [sp_move_refusal]
    refine ⟨ws, st, st.votes, R, hA, hm, ha.2, hz, ?_⟩
    by_cases c : mvR st m (ws.map Int.toNat) = 0
    · rw [if_pos c] at k
      have hb : st.before = none := by
        cases e : st.before with
        | none => rfl
        | some b =>
          unfold mvR at c
          rw [e] at c
          by_cases c1 : absV st m = 0
          · rw [if_pos c1] at c
            split at c
            · exact absurd c (by decide)
            · rw [if_pos (show (some b).isSome = true from rfl)] at c
              exact absurd c (by decide)
          · rw [if_neg c1] at c
            exact absurd c c1
      obtain ⟨dx, aR, aW, aT, aM, mn, aO, aP, aV, aD, os, ps, vs', kvs, hB⟩ := id hA
      simp_arith [c, sp_number_motion]
      refine ⟨st, st.votes, R, dx, aR, aW, aT, aM, mn, aO, aP, aV, aD, os, ps, vs', kvs, hB, hm, wf.mv, fun H1 hB1 f1 => ?_⟩
      simp_arith [sp_words_of]
      refine ⟨st.moved.length, rfl, ws, (f1 a .oth _ nofun ha).2, hz, by omega, R, fun R2 H2 y hy f2 => ?_⟩
      simp_arith [sp_MainMotion_init]
      intro x dx' hx hdx ndx
      intro aQ aY H3 h1 h2 h3 h4 h5 h6 h7
      obtain ⟨i1, h1⟩ := upd_none h1
      obtain ⟨i2, h1⟩ := upd_none h1
      obtain ⟨i3, h2⟩ := upd_none h2
      obtain ⟨i4, h2⟩ := upd_none h2
      have F : Fa R2 H2 (setR (setR (setR (setR R2 dx' .oth) x (.mut 8 st.moved.length)) aQ (.mut 9 st.moved.length)) aY (.mut 10 st.moved.length)) H3 := fun c t o _ hc =>
        ⟨by rw [setR_ne (ne_of_none hc.2 h2), setR_ne (ne_of_none hc.2 h1), setR_ne (ne_of_none hc.2 hx), setR_ne (ne_of_none hc.2 hdx)]; exact hc.1,
         by rw [h7 c (ne_of_none hc.2 hx) (ne_of_none hc.2 h1) (ne_of_none hc.2 h2), upd_ne (ne_of_none hc.2 hx), upd_ne (ne_of_none hc.2 hdx)]; exact hc.2⟩
      have rx : (setR (setR (setR (setR R2 dx' .oth) x (.mut 8 st.moved.length)) aQ (.mut 9 st.moved.length)) aY (.mut 10 st.moved.length)) x = .mut 8 st.moved.length := by rw [setR_ne i3.symm, setR_ne i1.symm, setR_same]
      have rq : (setR (setR (setR (setR R2 dx' .oth) x (.mut 8 st.moved.length)) aQ (.mut 9 st.moved.length)) aY (.mut 10 st.moved.length)) aQ = .mut 9 st.moved.length := by rw [setR_ne h3, setR_same]
      have ry : (setR (setR (setR (setR R2 dx' .oth) x (.mut 8 st.moved.length)) aQ (.mut 9 st.moved.length)) aY (.mut 10 st.moved.length)) aY = .mut 10 st.moved.length := setR_same
      generalize setR (setR (setR (setR R2 dx' .oth) x (.mut 8 st.moved.length)) aQ (.mut 9 st.moved.length)) aY (.mut 10 st.moved.length) = R4 at F rx rq ry
      have hB3 := (hB1.fa f2).fa F
      simp_arith [hB3.o.2, T.C_Assembly.cl, n_Assembly_main T]
      have pt : Fr_ (fun t => t ≠ .mut 0 0) R4 H3 R4 (upd H3 p (.ins T.C_Assembly.c dx (asmF (.int (st.rules.quorum : Int)) (.ref aR) (.ref aW) (.ref aT) (.ref aM) (.ref x) (.ref aO) (.ref aP) (.ref aV) (.ref aD)))) := Fr_.put hB3.o.1
      refine k R4 _ ⟨dx, aR, aW, aT, aM, .ref x, aO, aP, aV, aD, os, ps, vs', kvs, hB3.seto pt (At.self hB3.o.1) ⟨x, rfl, dx', y, aQ, aY, .non, .non, [], [], pt _ _ _ nofun ⟨rx, h4⟩, (hy.fr F trivial).fr pt nofun, pt _ _ _ nofun ⟨rq, h5⟩, .nil, pt _ _ _ nofun ⟨ry, h6⟩, .nil, rfl, rfl⟩⟩ (f1.kpm.trans (f2.kpa.trans (F.kpa.trans (Kp.put hB3.o.1))))
    · rw [if_neg c] at k
      simp_arith [c]
      exact k R H hA Kp.refl
end
end My

end

section
set_option Elab.async false
set_option linter.all false
set_option maxRecDepth 100000
set_option maxHeartbeats 4000000
namespace My
open PySem PySem.Spec PyProof.Rows L2
section
variable {P : Program} {w : World} {K : PySem.W.Frag} {mg : Str → Option Value} {base : Heap} (T : Tx K mg)
def amT (b : Si50.Before) : Si50.Text := match b.first with
  | some x => x.words
  | none => b.text
def sp_words_to_amend : Sp := fun vs H Q _ => ∃ (x : Addr) (b : Si50.Before) (R : Rg), vs = [.ref x] ∧ Bef T R H x b ∧ ∀ y, TxtAt T R H y (amT b) → Q (.ref y) H
theorem ok_words_to_amend : FnOk P w K mg base CX0 1 T.f_words_to_amend.a T.f_words_to_amend.d ["main"] (sp_words_to_amend T) := by
  refine T.f_words_to_amend.F.ok sc_words_to_amend (fun vs H Q E h => ?_) (fun cdv A outer s H vs Q E hr h => ?_)
  · obtain ⟨_, _, _, rfl, _⟩ := h
    rfl
  · obtain ⟨x, b, R, rfl, ⟨dx, aw, aP, aY, am, fu, ps, ys, hB⟩, k⟩ := h
    refine ⟨_, (pss_cons (ps_if (pt_cmpR op_isN (pe_fldK (K := K) (pv 0) rfl) pe_non (nomark _))
        (pss_one (ps_ret (pe_fldK (K := K) (pv 0) rfl)))
        pss_nil)
      (pss_one (ps_ret (pe_fldK (K := K) (pe_fldK (K := K) (pv 0) rfl) rfl)))), ?_⟩
    have hf := hB.f
    unfold amT at k
    cases e : b.first with
    | none =>
      rw [e] at hf k
      obtain rfl : am = .non := hf
      simp_arith [hB.o.2, T.C_MainMotion.cl, n_MainMotion_amendment T, n_MainMotion_words T]
      exact k _ hB.w
    | some a =>
      rw [e] at hf k
      obtain ⟨z, dz, az, rfl, hz⟩ := hf
      simp_arith [hB.o.2, hz.o.2, T.C_MainMotion.cl, T.C_Amendment.cl, n_MainMotion_amendment T, n_Amendment_words T]
      exact k _ hz.w
def plR (s : Si50.St) (b : Si50.Before) (i j : Nat) (w : List Nat) : Int :=
  if j < i ∨ (amT b).length < j ∨ (i = j ∧ w = []) then -1 else if Si50.MOTIONS ≤ s.moved.length ∨ Si50.WORDS < (amT b).length + w.length - (j - i) then -5 else 0
def sp_place_refusal : Sp := fun vs H Q _ => ∃ (p a : Addr) (i j : Int) (ws : List Int) (s : Si50.St) (b : Si50.Before) (dv : List Si50.Vote) (R : Rg), vs = [.ref p, .int i, .int j, .ref a] ∧ AsmX T R H p s dv ∧ s.before = some b ∧ 0 ≤ i ∧ 0 ≤ j ∧ H a = some (.lst (ws.map V.int)) ∧
  Q (.int (plR s b i.toNat j.toNat (ws.map Int.toNat))) H
theorem ok_place_refusal : FnOk P w K mg base CX0 2 T.f_place_refusal.a T.f_place_refusal.d ["assembly", "start", "stop", "words"] (sp_place_refusal T) := by
  have G_words_to_amend := ok_words_to_amend (P := P) (w := w) (base := base) T
  have G_motions_are_full := ok_motions_are_full (P := P) (w := w) (base := base) T
  refine T.f_place_refusal.F.ok sc_place_refusal (fun vs H Q E h => ?_) (fun cdv A outer s H vs Q E hr h => ?_)
  · obtain ⟨_, _, _, _, _, _, _, _, _, rfl, _⟩ := h
    rfl
  · obtain ⟨p, a, i, j, ws, st, b, dv, R, rfl, hA, hb, hi, hj, ha, k⟩ := h
    obtain ⟨dx, aR, aW, aT, aM, mn, aO, aP, aV, aD, os, ps, vs', kvs, hB⟩ := id hA
    have hm := hB.b
    rw [hb] at hm
    obtain ⟨x, rfl, hM⟩ := hm
    refine ⟨_, (pss_cons (ps_set (i := 4) sc_place_refusal.nd rfl (Or.inl rfl) (pe_callB call_lenL (by rfl) T.b_len PySem.boot_len (pa_cons (pe_call (G_words_to_amend.mono (by decide)) hr rfl T.f_words_to_amend.g T.f_words_to_amend.F.kp (b_words_to_amend T) .nil pass0 (pa_cons (pe_fldK (K := K) (pv 0) rfl) pa_nil)) pa_nil)))
      (pss_cons (ps_if (PW.pt (pw_or (pt_cmpR op_gt (pv 1) (pv 2) (nomark _)) (pw_or1 (pt_cmpR op_gt (pv 2) (pv 4) (nomark _)))))
        (pss_one (ps_ret (pe_gl T.k_WRONG)))
        pss_nil)
      (pss_cons (ps_if (PW.pt (pw_and (pt_cmpR op_eq (pv 1) (pv 2) (nomark _)) (pw_and1 (pt_cmpR op_eq (pe_callB call_lenL (by rfl) T.b_len PySem.boot_len (pa_cons (pv 3) pa_nil)) pe_int (nomark _)))))
        (pss_one (ps_ret (pe_gl T.k_WRONG)))
        pss_nil)
      (pss_cons (ps_if (PW.pt (pw_or (pt_val (pe_call (G_motions_are_full.mono (by decide)) hr rfl T.f_motions_are_full.g T.f_motions_are_full.F.kp (b_motions_are_full T) .nil pass0 (pa_cons (pv 0) pa_nil))) (pw_or1 (pt_cmpR op_gt (pe_op op_add (pe_op op_sub (pv 4) (pe_op op_sub (pv 2) (pv 1))) (pe_callB call_lenL (by rfl) T.b_len PySem.boot_len (pa_cons (pv 3) pa_nil))) (pe_gl T.k_MOST_WORDS_AMENDED) (nomark _)))))
        (pss_one (ps_ret (pe_gl T.k_FULL)))
        pss_nil)
      (pss_one (ps_ret (pe_gl T.k_NO_REFUSAL))))))), ?_⟩
    simp_arith [hB.o.2, T.C_Assembly.cl, n_Assembly_main T, sp_words_to_amend]
    refine ⟨b, R, hM, ?_⟩
    rintro y ⟨us, hy, hyy⟩
    have hl := pd_len hyy
    unfold plR Si50.MOTIONS Si50.WORDS at k
    rw [List.length_map] at k
    simp_arith [hy.2, hl, ha, List.length_map]
    by_cases c1 : j < i
    · rw [if_pos (.inl (by omega))] at k
      simp_arith [c1, k]
    · simp_arith [c1]
      by_cases c2 : ((amT b).length : Int) < j
      · rw [if_pos (.inr (.inl (by omega)))] at k
        simp_arith [c2, k]
      · simp_arith [c2, sp_motions_are_full]
        by_cases c3 : i = j ∧ ws = []
        · rw [if_pos (.inr (.inr ⟨by omega, by rw [c3.2]; rfl⟩))] at k
          have c4 := c3.1
          have c5 := c3.2
          subst c4 c5
          simp_arith [k]
          rw [if_pos (show ((0 : Nat) : Int) = 0 from rfl)]
          trivial
        · have c4 : ¬ (i.toNat = j.toNat ∧ ws.map Int.toNat = []) := fun z => c3 ⟨by omega, List.map_eq_nil_iff.mp z.2⟩
          rw [if_neg (fun z => z.elim (fun z => by omega) fun z => z.elim (fun z => by omega) c4)] at k
          have tail : (if (100 : Int) ≤ (st.moved.length : Int) then Q (.int (-5)) H else if (60 : Int) < ((amT b).length : Int) - (j - i) + (ws.length : Int) then Q (.int (-5)) H else Q (.int 0) H) := by
            by_cases d1 : 100 ≤ st.moved.length
            · rw [if_pos (.inl d1)] at k
              rw [if_pos (by omega)]
              exact k
            · rw [if_neg (by omega)]
              by_cases d2 : (60 : Int) < ((amT b).length : Int) - (j - i) + (ws.length : Int)
              · rw [if_pos (.inr (by omega))] at k
                rw [if_pos d2]
                exact k
              · rw [if_neg (by omega)] at k
                rw [if_neg d2]
                exact k
          by_cases c5 : i = j
          · have c6 : ¬ (ws.length : Int) = 0 := fun z => c3 ⟨c5, List.length_eq_zero_iff.mp (by omega)⟩
            simp_arith [c5, c6]
            refine ⟨st, dv, R, hA, ?_⟩
            rw [c5] at tail
            simp_arith [ha, List.length_map]
            exact tail
          · simp_arith [c5]
            refine ⟨st, dv, R, hA, ?_⟩
            simp_arith [ha, List.length_map]
            exact tail
def amR (s : Si50.St) (m : Int) (i j : Nat) (w : List Nat) : Int := if aonV s m = 0 then (if Si50.wordsOk w = false then -1 else match s.before with
  | none => 0
  | some b => if b.closed = true ∨ b.procs ≠ [] ∨ b.second.isSome = true then -4 else plR s b i j w) else aonV s m
theorem aon_some {s : Si50.St} {m : Int} (h : aonV s m = 0) : absV s m = 0 ∧ ∃ b, s.before = some b := by
  unfold aonV at h
  by_cases c : absV s m = 0
  · rw [if_pos c] at h
    cases e : s.before with
    | none => rw [e] at h; exact absurd h (by decide)
    | some b => exact ⟨c, b, rfl⟩
  · rw [if_neg c] at h
    exact absurd h c
theorem on_aon {s : Si50.St} {m : Int} {f : Si50.Before → Si50.St × Si50.Ans} (hm : 0 ≤ m) : Si50.mover s m.toNat (Si50.on s f) = if aonV s m = 0 then Si50.on s f else (s, Si50.ok (aonV s m)) := by
  rw [mover_eq hm]
  unfold aonV Si50.on
  by_cases c : absV s m = 0
  · rw [if_pos c, if_pos c]
    cases e : s.before with
    | none => rfl
    | some b => rfl
  · rw [if_neg c, if_neg c, if_neg c]
theorem step_amend {s : Si50.St} {m : Int} {i j : Nat} {w : List Nat} {b : Si50.Before} (hm : 0 ≤ m) (hb : s.before = some b) (h0 : amR s m i j w = 0) : Si50.step s (.amend m.toNat i j w) =
    ({ Si50.newId s m.toNat with before := some (if b.first.isSome = true then { b with second := some ⟨s.moved.length, m.toNat, i, j, Si50.tokens s.moved.length w⟩ } else { b with first := some ⟨s.moved.length, m.toNat, i, j, Si50.tokens s.moved.length w⟩ }) }, Si50.ok (s.moved.length : Int)) := by
  show Si50.mover s m.toNat (Si50.on s _) = _
  rw [on_aon hm]
  unfold amR at h0
  by_cases c : aonV s m = 0
  · rw [if_pos c] at h0 ⊢
    unfold Si50.on
    rw [hb] at h0 ⊢
    dsimp only at h0 ⊢
    split at h0
    · exact absurd h0 (by decide)
    · rename_i c1
      rw [if_neg c1]
      split at h0
      · exact absurd h0 (by decide)
      · rename_i c2
        rw [if_neg c2]
        unfold plR amT at h0
        cases e : b.first with
        | none =>
          rw [e] at h0
          dsimp only at h0 ⊢
          split at h0
          · exact absurd h0 (by decide)
          · rename_i c3
            rw [if_neg c3]
            split at h0
            · exact absurd h0 (by decide)
            · rename_i c4
              rw [if_neg c4]
        | some a =>
          rw [e] at h0
          dsimp only at h0 ⊢
          split at h0
          · exact absurd h0 (by decide)
          · rename_i c3
            rw [if_neg c3]
            split at h0
            · exact absurd h0 (by decide)
            · rename_i c4
              rw [if_neg c4]
  · rw [if_neg c] at h0
    exact absurd h0 c
theorem step_amend_no {s : Si50.St} {m : Int} {i j : Nat} {w : List Nat} (hm : 0 ≤ m) (h0 : amR s m i j w ≠ 0) : Si50.step s (.amend m.toNat i j w) = (s, Si50.ok (amR s m i j w)) := by
  show Si50.mover s m.toNat (Si50.on s _) = _
  rw [on_aon hm]
  unfold amR at h0 ⊢
  by_cases c : aonV s m = 0
  · obtain ⟨_, b, hb⟩ := aon_some c
    rw [if_pos c] at h0 ⊢
    rw [if_pos c]
    unfold Si50.on
    rw [hb] at h0 ⊢
    dsimp only at h0 ⊢
    split
    · rfl
    · rename_i c1
      rw [if_neg c1] at h0
      split
      · rfl
      · rename_i c2
        rw [if_neg c2] at h0
        unfold plR amT at h0 ⊢
        cases e : b.first with
        | none =>
          rw [e] at h0
          dsimp only at h0 ⊢
          split
          · rfl
          · rename_i c3
            rw [if_neg c3] at h0
            split
            · rfl
            · rename_i c4
              rw [if_neg c4] at h0
              exact absurd rfl h0
        | some a =>
          rw [e] at h0
          dsimp only at h0 ⊢
          split
          · rfl
          · rename_i c3
            rw [if_neg c3] at h0
            split
            · rfl
            · rename_i c4
              rw [if_neg c4] at h0
              exact absurd rfl h0
  · rw [if_neg c, if_neg c]
theorem ways_ne {R : Rg} {H : Hp} {ys : List V} {l : List (Nat × Nat × Si50.Proc)} (h : Paired (WayAt T R H) ys l.reverse) : ys.isEmpty = l.isEmpty := by
  have := pd_len h
  rw [List.length_reverse] at this
  cases ys <;> cases l <;> first | rfl | cases this
def sp_amend_refusal : Sp := fun vs H Q _ => ∃ (p a : Addr) (m i j : Int) (ws : List Int) (s : Si50.St) (dv : List Si50.Vote) (R : Rg), vs = [.ref p, .int m, .int i, .int j, .ref a] ∧ AsmX T R H p s dv ∧ 0 ≤ m ∧ 0 ≤ i ∧ 0 ≤ j ∧ H a = some (.lst (ws.map V.int)) ∧ (∀ z, z ∈ ws → 0 ≤ z) ∧
  Q (.int (amR s m i.toNat j.toNat (ws.map Int.toNat))) H
theorem ok_amend_refusal : FnOk P w K mg base CX0 4 T.f_amend_refusal.a T.f_amend_refusal.d ["assembly", "member", "start", "stop", "words"] (sp_amend_refusal T) := by
  have G_absence_or_nothing := ok_absence_or_nothing (P := P) (w := w) (base := base) T
  have G_place_refusal := ok_place_refusal (P := P) (w := w) (base := base) T
  have G_may_be_moved := ok_may_be_moved (P := P) (w := w) (base := base) T
  refine T.f_amend_refusal.F.ok sc_amend_refusal (fun vs H Q E h => ?_) (fun cdv A outer s H vs Q E hr h => ?_)
  · obtain ⟨_, _, _, _, _, _, _, _, _, rfl, _⟩ := h
    rfl
  · obtain ⟨p, a, m, i, j, ws, st, dv, R, rfl, hA, hm, hi, hj, ha, hz, k⟩ := h
    obtain ⟨dx, aR, aW, aT, aM, mn, aO, aP, aV, aD, os, ps, vs', kvs, hB⟩ := id hA
    refine ⟨_, (pss_cons (ps_set (i := 5) sc_amend_refusal.nd rfl (Or.inl rfl) (pe_call (G_absence_or_nothing.mono (by decide)) hr rfl T.f_absence_or_nothing.g T.f_absence_or_nothing.F.kp (b_absence_or_nothing T) .nil pass0 (pa_cons (pv 0) (pa_cons (pv 1) pa_nil))))
      (pss_cons (ps_if (pt_cmpR op_ne (pv 5) (pe_gl T.k_NO_REFUSAL) (nomark _))
        (pss_one (ps_ret (pv 5)))
        pss_nil)
      (pss_cons (ps_if (pt_not (pt_val (pe_call (G_may_be_moved.mono (by decide)) hr rfl T.f_may_be_moved.g T.f_may_be_moved.F.kp (b_may_be_moved T) .nil pass0 (pa_cons (pv 4) pa_nil))))
        (pss_one (ps_ret (pe_gl T.k_WRONG)))
        pss_nil)
      (pss_cons (ps_set (i := 6) sc_amend_refusal.nd rfl (Or.inl rfl) (pe_fldK (K := K) (pv 0) rfl))
      (pss_cons (ps_if (PW.pt (pw_or (pt_val (pe_fldK (K := K) (pv 6) rfl)) (pw_or (pt_lst (pe_fldK (K := K) (pv 6) rfl)) (pw_or1 (pt_cmpR op_notN (pe_fldK (K := K) (pv 6) rfl) pe_non (nomark _))))))
        (pss_one (ps_ret (pe_gl T.k_OUT_OF_ORDER)))
        pss_nil)
      (pss_one (ps_ret (pe_call (G_place_refusal.mono (by decide)) hr rfl T.f_place_refusal.g T.f_place_refusal.F.kp (b_place_refusal T) .nil pass0 (pa_cons (pv 0) (pa_cons (pv 2) (pa_cons (pv 3) (pa_cons (pv 4) pa_nil)))))))))))), ?_⟩
    simp_arith [sp_absence_or_nothing]
    refine ⟨st, dv, R, hA, hm, ?_⟩
    unfold amR at k
    by_cases c : aonV st m = 0
    · rw [if_pos c] at k
      obtain ⟨_, b, hb⟩ := aon_some c
      have hx := hB.b
      rw [hb] at hx k
      obtain ⟨x, rfl, dx', aw, aQ, aY, am, fu, qs, ys, hM⟩ := hx
      dsimp only at k
      simp_arith [c, sp_may_be_moved]
      refine ⟨ws, ha, hz, ?_⟩
      cases ew : Si50.wordsOk (ws.map Int.toNat) with
      | false =>
        rw [ew, if_pos rfl] at k
        simp_arith [k]
      | true =>
        rw [ew, if_neg (by decide)] at k
        simp_arith [hB.o.2, hM.o.2, hM.y.2, T.C_Assembly.cl, T.C_MainMotion.cl, n_Assembly_main T, n_MainMotion_closed T, n_MainMotion_ways_on T, n_MainMotion_further_amendment T, ways_ne T hM.yy, sp_place_refusal]
        have hs := hM.s
        cases e1 : b.closed with
        | true =>
          rw [if_pos (.inl e1)] at k
          simp_arith [k]
        | false =>
          cases e2 : b.procs with
          | cons q r =>
            rw [if_pos (.inr (.inl (by rw [e2]; exact nofun)))] at k
            simp_arith [List.isEmpty_cons, k]
          | nil =>
            cases e3 : b.second with
            | some q =>
              rw [if_pos (.inr (.inr (by rw [e3]; rfl)))] at k
              rw [e3] at hs
              obtain ⟨z, dz, az, rfl, _⟩ := hs
              simp_arith [List.isEmpty_nil, k]
            | none =>
              rw [if_neg (by rw [e1, e2, e3]; rintro (z | z | z) <;> first | exact z rfl | cases z)] at k
              rw [e3] at hs
              obtain rfl : fu = .non := hs
              simp_arith [List.isEmpty_nil]
              exact ⟨ws, st, b, dv, R, hA, hb, hi, hj, ha, k⟩
    · rw [if_neg c] at k
      simp_arith [c, k]
def sp_amend : Sp := fun vs H Q _ => ∃ (p a : Addr) (m i j : Int) (ws : List Int) (s : Si50.St) (n : Nat) (R : Rg), vs = [.ref p, .int m, .int i, .int j, .ref a] ∧ Asm T R H p s ∧ SM.WF n s ∧ 0 ≤ m ∧ 0 ≤ i ∧ 0 ≤ j ∧ At R H a .oth (.lst (ws.map V.int)) ∧ (∀ z, z ∈ ws → 0 ≤ z) ∧ ws.length ≤ 40 ∧
  ∀ R' H', Asm T R' H' p (Si50.step s (.amend m.toNat i.toNat j.toNat (ws.map Int.toNat))).1 → Kp R H R' H' → Q (.int (Si50.step s (.amend m.toNat i.toNat j.toNat (ws.map Int.toNat))).2.v) H'
theorem ok_amend : FnOk P w K mg base CX0 5 T.f_amend.a T.f_amend.d ["assembly", "member", "start", "stop", "words"] (sp_amend T) := by
  have G_amend_refusal := ok_amend_refusal (P := P) (w := w) (base := base) T
  have G_number_motion := ok_number_motion (P := P) (w := w) (base := base) T
  have G_Amendment_init := ok_Amendment_init (P := P) (w := w) (base := base) T
  have G_words_of := ok_words_of (P := P) (w := w) (base := base) T
  refine T.f_amend.F.ok sc_amend (fun vs H Q E h => ?_) (fun cdv A outer s H vs Q E hr h => ?_)
  · obtain ⟨_, _, _, _, _, _, _, _, _, rfl, _⟩ := h
    rfl
  · obtain ⟨p, a, m, i, j, ws, st, n, R, rfl, hA, wf, hm, hi, hj, ha, hz, hl, k⟩ := h
    refine ⟨_, (pss_cons (ps_set (i := 5) sc_amend.nd rfl (Or.inl rfl) (pe_call (G_amend_refusal.mono (by decide)) hr rfl T.f_amend_refusal.g T.f_amend_refusal.F.kp (b_amend_refusal T) .nil pass0 (pa_cons (pv 0) (pa_cons (pv 1) (pa_cons (pv 2) (pa_cons (pv 3) (pa_cons (pv 4) pa_nil)))))))
      (pss_cons (ps_if (pt_cmpR op_ne (pv 5) (pe_gl T.k_NO_REFUSAL) (nomark _))
        (pss_one (ps_ret (pv 5)))
        pss_nil)
      (pss_cons (ps_set (i := 6) sc_amend.nd rfl (Or.inl rfl) (pe_fldK (K := K) (pv 0) rfl))
      (pss_cons (ps_set (i := 7) sc_amend.nd rfl (Or.inl rfl) (pe_call (G_number_motion.mono (by decide)) hr rfl T.f_number_motion.g T.f_number_motion.F.kp (b_number_motion T) .nil pass0 (pa_cons (pv 0) (pa_cons (pv 1) pa_nil))))
      (pss_cons (ps_set (i := 8) sc_amend.nd rfl (Or.inl rfl) (pe_make T.C_Amendment.mk_ (G_Amendment_init.mono (by decide)) hr rfl T.C_Amendment.gc (b_Amendment_init T) .nil pass0 (pa_cons (pv 7) (pa_cons (pv 2) (pa_cons (pv 3) (pa_cons (pe_call (G_words_of.mono (by decide)) hr rfl T.f_words_of.g T.f_words_of.F.kp (b_words_of T) .nil pass0 (pa_cons (pv 7) (pa_cons (pv 4) pa_nil))) pa_nil))))))
      (pss_cons (ps_if (pt_cmpR op_isN (pe_fldK (K := K) (pv 6) rfl) pe_non (nomark _))
        (pss_one (ps_fld (pv 6) (pv 8) rfl))
        (pss_one (ps_fld (pv 6) (pv 8) rfl)))
      (pss_one (ps_ret (pv 7))))))))), ?_⟩
    simp_arith [sp_amend_refusal]
    refine ⟨ws, st, st.votes, R, hA, hm, hi, hj, ha.2, hz, ?_⟩
    by_cases c : amR st m i.toNat j.toNat (ws.map Int.toNat) = 0
    · obtain ⟨dx, aR, aW, aT, aM, mn, aO, aP, aV, aD, os, ps, vs', kvs, hB⟩ := id hA
      have c0 : aonV st m = 0 := by
        by_cases c0 : aonV st m = 0
        · exact c0
        · unfold amR at c
          rw [if_neg c0] at c
          exact c
      obtain ⟨_, b, hb⟩ := aon_some c0
      have hs : b.second = none := by
        cases e : b.second with
        | none => rfl
        | some q =>
          unfold amR at c
          rw [if_pos c0, hb] at c
          dsimp only at c
          split at c
          · exact absurd c (by decide)
          · rw [if_pos (.inr (.inr (by rw [e]; rfl)))] at c
            exact absurd c (by decide)
      rw [step_amend hm hb c] at k
      have hx := hB.b
      rw [hb] at hx
      obtain ⟨x, rfl, -⟩ := hx
      simp_arith [c, hB.o.2, T.C_Assembly.cl, n_Assembly_main T, sp_number_motion]
      refine ⟨st, st.votes, R, dx, aR, aW, aT, aM, .ref x, aO, aP, aV, aD, os, ps, vs', kvs, hB, hm, wf.mv, fun H1 hB1 f1 => ?_⟩
      simp_arith [sp_words_of]
      refine ⟨st.moved.length, rfl, ws, (f1 a .oth _ nofun ha).2, hz, by omega, R, fun R2 H2 y hy f2 => ?_⟩
      simp_arith [sp_Amendment_init]
      intro z dz hzn hdz nz
      obtain ⟨g1, g2⟩ := made (R := R2) (C := T.C_Amendment.c) (fs := amF (.int (st.moved.length : Int)) (.int i) (.int j) (.ref y)) (t := .mut 11 st.moved.length) hzn hdz nz
      have hB2 := (hB1.fa f2).fa g1
      have hy2 := hy.fr g1 trivial
      generalize setR (setR R2 dz .oth) z (.mut 11 st.moved.length) = R3 at g1 g2 hB2 hy2
      generalize upd (upd H2 dz (.own z)) z (.ins T.C_Amendment.c dz (amF (.int (st.moved.length : Int)) (.int i) (.int j) (.ref y))) = H3 at g1 g2 hB2 hy2 ⊢
      have hx2 := hB2.b
      have hb2 : (Si50.newId st m.toNat).before = some b := hb
      rw [hb2] at hx2
      obtain ⟨x', e, dx', aw, aQ, aY, am, fu, qs, ys, hM⟩ := hx2
      cases e
      have hfst := hM.f
      have hsnd := hM.s
      rw [hs] at hsnd
      obtain rfl : fu = .non := hsnd
      have kp : Kp R H R3 H3 := f1.kpm.trans (f2.kpa.trans g1.kpa)
      have nA : ∀ o : HO, Fr_ (fun t => t ≠ .mut 8 b.id) R3 H3 R3 (upd H3 x o) := fun o => Fr_.put hM.o.1
      have new : ∀ {v : V} {o : HO}, v = .ref z → AmdAt T R3 (upd H3 x o) v (some ⟨st.moved.length, m.toNat, i.toNat, j.toNat, Si50.tokens st.moved.length (ws.map Int.toNat)⟩) := fun {v o} e => by
        refine ⟨z, dz, y, e, nA o _ _ _ nofun ?_, (hy2.fr (nA o) nofun)⟩
        show At R3 H3 z (.mut 11 st.moved.length) (.ins T.C_Amendment.c dz (amF (.int (st.moved.length : Int)) (.int (i.toNat : Int)) (.int (j.toNat : Int)) (.ref y)))
        rw [Int.toNat_of_nonneg hi, Int.toNat_of_nonneg hj]
        exact g2
      cases e : b.first with
      | none =>
        rw [e] at hfst
        obtain rfl : am = .non := hfst
        simp_arith [hM.o.2, T.C_MainMotion.cl, n_MainMotion_amendment T]
        obtain ⟨q1, q2, q3, q4, q5, q6, q7, q8⟩ := hM.part (nA (.ins T.C_MainMotion.c dx' (mmF (.int (b.id : Int)) (.ref aw) (.ref aQ) (.ref z) .non (.ref aY) (.bl b.closed)))) (by decide)
        refine k R3 _ ⟨dx, aR, aW, aT, aM, .ref x, aO, aP, aV, aD, os, ps, vs', kvs, ?_⟩ (kp.trans (Kp.put hM.o.1))
        rw [e]
        refine hB2.inner hb2 wf.nd (fr_mine hM.o.1 (.inl rfl)) ⟨x, rfl, dx', aw, aQ, aY, .ref z, .non, qs, ys, ?_⟩
        rw [hs] at q8
        refine ⟨At.self hM.o.1, q2, q3 (by decide), q4, q5 (by decide), q6, new rfl, ?_⟩
        show AmdAt T R3 _ .non b.second
        rw [hs]
        exact q8
      | some q =>
        rw [e] at hfst
        obtain ⟨z1, dz1, az1, rfl, hz1⟩ := hfst
        simp_arith [hM.o.2, T.C_MainMotion.cl, n_MainMotion_amendment T, n_MainMotion_further_amendment T]
        obtain ⟨q1, q2, q3, q4, q5, q6, q7, q8⟩ := hM.part (nA (.ins T.C_MainMotion.c dx' (mmF (.int (b.id : Int)) (.ref aw) (.ref aQ) (.ref z1) (.ref z) (.ref aY) (.bl b.closed)))) (by decide)
        refine k R3 _ ⟨dx, aR, aW, aT, aM, .ref x, aO, aP, aV, aD, os, ps, vs', kvs, ?_⟩ (kp.trans (Kp.put hM.o.1))
        rw [e]
        refine hB2.inner hb2 wf.nd (fr_mine hM.o.1 (.inl rfl)) ⟨x, rfl, dx', aw, aQ, aY, .ref z1, .ref z, qs, ys, ?_⟩
        rw [e] at q7
        exact ⟨At.self hM.o.1, q2, q3 (by decide), q4, q5 (by decide), q6, q7, new rfl⟩
    · rw [step_amend_no hm c] at k
      simp_arith [c]
      exact k R H hA Kp.refl
end
end My

end

section
set_option Elab.async false
set_option linter.all false
set_option maxRecDepth 100000
set_option maxHeartbeats 4000000
namespace My
open PySem PySem.Spec PyProof.Rows L2
section
variable {P : Program} {w : World} {K : PySem.W.Frag} {mg : Str → Option Value} {base : Heap} (T : Tx K mg)
def topR (b : Si50.Before) (p : Si50.Proc) : Bool := match b.procs with
  | x :: _ => decide (Si50.rank p ≤ Si50.rank x.2.2)
  | [] => false
def goR (s : Si50.St) (m : Int) (p : Si50.Proc) : Int := if aonV s m = 0 then (match s.before with
  | none => 0
  | some b => if b.closed = true ∧ p ≠ .table then -4 else if topR b p = true then -4 else if 100 ≤ s.moved.length then -5 else 0) else aonV s m
theorem any_top {b : Si50.Before} {p : Si50.Proc} (h : b.procs.Pairwise fun x y => Si50.rank y.2.2 < Si50.rank x.2.2) : (b.procs.any fun x => decide (Si50.rank p ≤ Si50.rank x.2.2)) = topR b p := by
  unfold topR
  cases e : b.procs with
  | nil => rfl
  | cons x r =>
    rw [e] at h
    rw [List.any_cons]
    show _ = decide (Si50.rank p ≤ Si50.rank x.2.2)
    cases d : decide (Si50.rank p ≤ Si50.rank x.2.2) with
    | true => rfl
    | false =>
      rw [Bool.false_or]
      have d := of_decide_eq_false d
      rw [List.any_eq_false]
      intro y hy z
      have := (List.pairwise_cons.mp h).1 y hy
      have z := of_decide_eq_true z
      omega
theorem step_go {s : Si50.St} {m : Int} {p : Si50.Proc} {n : Nat} (wf : SM.WF n s) (hm : 0 ≤ m) : Si50.step s (.go m.toNat p) = if goR s m p = 0 then
    (match s.before with
      | none => (s, Si50.ok 0)
      | some b => ({ Si50.newId s m.toNat with before := some { b with procs := (s.moved.length, m.toNat, p) :: b.procs } }, Si50.ok (s.moved.length : Int))) else (s, Si50.ok (goR s m p)) := by
  show Si50.mover s m.toNat (Si50.on s _) = _
  rw [on_aon hm]
  by_cases c : aonV s m = 0
  · obtain ⟨_, b, hb⟩ := aon_some c
    have eg : goR s m p = if b.closed = true ∧ p ≠ .table then -4 else if topR b p = true then -4 else if 100 ≤ s.moved.length then -5 else 0 := by
      unfold goR
      rw [if_pos c, hb]
    rw [if_pos c]
    unfold Si50.on
    rw [hb]
    dsimp only
    rw [any_top (wf.before hb).rk]
    unfold Si50.MOTIONS
    by_cases c1 : b.closed = true ∧ p ≠ .table
    · rw [if_pos c1] at eg
      rw [if_pos (.inr c1), eg]; rfl
    · rw [if_neg c1] at eg
      by_cases c2 : topR b p = true
      · rw [if_pos c2] at eg
        rw [if_pos (.inl c2), eg]; rfl
      · rw [if_neg c2] at eg
        rw [if_neg (by rintro (z | z); exact c2 z; exact c1 z)]
        by_cases c3 : 100 ≤ s.moved.length
        · rw [if_pos c3] at eg
          rw [if_pos c3, eg]; rfl
        · rw [if_neg c3] at eg
          rw [if_neg c3, eg]; rfl
  · have eg : goR s m p = aonV s m := by unfold goR; rw [if_neg c]
    rw [if_neg c, eg, if_neg c]
def sp_go_refusal : Sp := fun vs H Q _ => ∃ (p : Addr) (m y : Int) (pr : Si50.Proc) (s : Si50.St) (dv : List Si50.Vote) (R : Rg), vs = [.ref p, .int m, .int y] ∧ AsmX T R H p s dv ∧ 0 ≤ m ∧ y = (Si50.rank pr : Int) ∧ Q (.int (goR s m pr)) H
theorem ok_go_refusal : FnOk P w K mg base CX0 4 T.f_go_refusal.a T.f_go_refusal.d ["assembly", "member", "how"] (sp_go_refusal T) := by
  have G_absence_or_nothing := ok_absence_or_nothing (P := P) (w := w) (base := base) T
  have G_motions_are_full := ok_motions_are_full (P := P) (w := w) (base := base) T
  refine T.f_go_refusal.F.ok sc_go_refusal (fun vs H Q E h => ?_) (fun cdv A outer s H vs Q E hr h => ?_)
  · obtain ⟨_, _, _, _, _, _, _, rfl, _⟩ := h
    rfl
  · obtain ⟨p, m, y, pr, st, dv, R, rfl, hA, hm, hy, k⟩ := h
    obtain ⟨dx, aR, aW, aT, aM, mn, aO, aP, aV, aD, os, ps, vs', kvs, hB⟩ := id hA
    refine ⟨_, (pss_cons (ps_set (i := 3) sc_go_refusal.nd rfl (Or.inl rfl) (pe_call (G_absence_or_nothing.mono (by decide)) hr rfl T.f_absence_or_nothing.g T.f_absence_or_nothing.F.kp (b_absence_or_nothing T) .nil pass0 (pa_cons (pv 0) (pa_cons (pv 1) pa_nil))))
      (pss_cons (ps_if (pt_cmpR op_ne (pv 3) (pe_gl T.k_NO_REFUSAL) (nomark _))
        (pss_one (ps_ret (pv 3)))
        pss_nil)
      (pss_cons (ps_set (i := 4) sc_go_refusal.nd rfl (Or.inl rfl) (pe_fldK (K := K) (pv 0) rfl))
      (pss_cons (ps_if (PW.pt (pw_and (pt_val (pe_fldK (K := K) (pv 4) rfl)) (pw_and1 (pt_cmpR op_ne (pe_op op_add (pe_gl T.k_SEND_BACK) (pv 2)) (pe_gl T.k_PUT_OFF) (nomark _)))))
        (pss_one (ps_ret (pe_gl T.k_OUT_OF_ORDER)))
        pss_nil)
      (pss_cons (ps_if (PW.pt (pw_and (pt_lst (pe_fldK (K := K) (pv 4) rfl)) (pw_and1 (pt_cmpR op_ge (pe_fldK (K := K) (pe_ix ix_lst (pe_fldK (K := K) (pv 4) rfl) (pe_un un_neg pe_int) (fun _ _ => rfl)) rfl) (pv 2) (nomark _)))))
        (pss_one (ps_ret (pe_gl T.k_OUT_OF_ORDER)))
        pss_nil)
      (pss_cons (ps_if (pt_val (pe_call (G_motions_are_full.mono (by decide)) hr rfl T.f_motions_are_full.g T.f_motions_are_full.F.kp (b_motions_are_full T) .nil pass0 (pa_cons (pv 0) pa_nil)))
        (pss_one (ps_ret (pe_gl T.k_FULL)))
        pss_nil)
      (pss_one (ps_ret (pe_gl T.k_NO_REFUSAL))))))))), ?_⟩
    simp_arith [sp_absence_or_nothing]
    refine ⟨st, dv, R, hA, hm, ?_⟩
    unfold goR at k
    by_cases c : aonV st m = 0
    · rw [if_pos c] at k
      obtain ⟨_, b, hb⟩ := aon_some c
      have hx := hB.b
      rw [hb] at hx k
      obtain ⟨x, rfl, dx', aw, aQ, aY, am, fu, qs, ys, hM⟩ := hx
      dsimp only at k
      have hyy := hM.yy
      simp_arith [c, hB.o.2, hM.o.2, hM.y.2, T.C_Assembly.cl, T.C_MainMotion.cl, n_Assembly_main T, n_MainMotion_closed T, n_MainMotion_ways_on T, sp_motions_are_full]
      have e6 : ((4 : Int) + y = 6) ↔ pr = .table := by
        rw [hy]
        cases pr
        · exact ⟨(fun z => by cases z), nofun⟩
        · exact ⟨(fun z => by cases z), nofun⟩
        · exact ⟨fun _ => rfl, fun _ => rfl⟩
      cases e2 : b.procs with
      | nil =>
        rw [e2] at hyy
        have e := pd_nil hyy
        subst e
        have et : topR b pr = false := by unfold topR; rw [e2]
        cases e1 : b.closed with
        | true =>
          by_cases c1 : pr = .table
          · have c2 := e6.mpr c1
            rw [if_neg (fun z => z.2 c1), et, if_neg (by decide)] at k
            simp_arith [c2]
            refine ⟨st, dv, R, hA, ?_⟩
            by_cases c3 : 100 ≤ st.moved.length
            · rw [if_pos c3] at k; rw [if_pos (by omega)]; exact k
            · rw [if_neg c3] at k; rw [if_neg (by omega)]; exact k
          · have c2 : ¬ ((4 : Int) + y = 6) := fun z => c1 (e6.mp z)
            rw [if_pos ⟨e1, c1⟩] at k
            simp_arith [c2, k]
        | false =>
          rw [if_neg (fun z => by rw [e1] at z; cases z.1), et, if_neg (by decide)] at k
          simp_arith [List.isEmpty_nil]
          refine ⟨st, dv, R, hA, ?_⟩
          by_cases c3 : 100 ≤ st.moved.length
          · rw [if_pos c3] at k; rw [if_pos (by omega)]; exact k
          · rw [if_neg c3] at k; rw [if_neg (by omega)]; exact k
      | cons q r =>
        rw [e2, List.reverse_cons] at hyy
        obtain ⟨l, v, rfl, _, z, dz, rfl, hz⟩ := pd_last hyy
        have et : topR b pr = decide (Si50.rank pr ≤ Si50.rank q.2.2) := by unfold topR; rw [e2]
        rw [et] at k
        have tl : Q (.int (if decide (Si50.rank pr ≤ Si50.rank q.2.2) = true then -4 else if 100 ≤ st.moved.length then -5 else 0 : Int)) H → (if y ≤ (Si50.rank q.2.2 : Int) then Q (.int (-4)) H else if (100 : Int) ≤ (st.moved.length : Int) then Q (.int (-5)) H else Q (.int 0) H) := fun k => by
          by_cases d1 : Si50.rank pr ≤ Si50.rank q.2.2
          · rw [if_pos (decide_eq_true d1)] at k
            rw [if_pos (by omega)]
            exact k
          · rw [if_neg (by rw [decide_eq_false d1]; decide)] at k
            rw [if_neg (by omega)]
            by_cases c3 : 100 ≤ st.moved.length
            · rw [if_pos c3] at k; rw [if_pos (by omega)]; exact k
            · rw [if_neg c3] at k; rw [if_neg (by omega)]; exact k
        have fit : (if y ≤ (Si50.rank q.2.2 : Int) then Q (.int (-4)) H else if (100 : Int) ≤ (st.moved.length : Int) then Q (.int (-5)) H else Q (.int 0) H) → (if y ≤ (Si50.rank q.2.2 : Int) then Q (.int (-4)) H else ∃ s dv R, AsmX T R H p s dv ∧ if (100 : Int) ≤ (s.moved.length : Int) then Q (.int (-5)) H else Q (.int 0) H) := fun k => by
          by_cases d1 : y ≤ (Si50.rank q.2.2 : Int)
          · rw [if_pos d1] at k ⊢; exact k
          · rw [if_neg d1] at k ⊢; exact ⟨st, dv, R, hA, k⟩
        cases e1 : b.closed with
        | true =>
          by_cases c1 : pr = .table
          · have c2 := e6.mpr c1
            rw [if_neg (fun z => z.2 c1)] at k
            simp_arith [c2, hz.2, T.C_WayOn.cl, n_WayOn_how T]
            exact fit (tl k)
          · have c2 : ¬ ((4 : Int) + y = 6) := fun z => c1 (e6.mp z)
            rw [if_pos ⟨e1, c1⟩] at k
            simp_arith [c2, k]
        | false =>
          rw [if_neg (fun z => by rw [e1] at z; cases z.1)] at k
          simp_arith [hz.2, T.C_WayOn.cl, n_WayOn_how T]
          exact fit (tl k)
    · rw [if_neg c] at k
      simp_arith [c, k]
def sp_go : Sp := fun vs H Q _ => ∃ (p : Addr) (m y : Int) (pr : Si50.Proc) (s : Si50.St) (n : Nat) (R : Rg), vs = [.ref p, .int m, .int y] ∧ Asm T R H p s ∧ SM.WF n s ∧ 0 ≤ m ∧ y = (Si50.rank pr : Int) ∧
  ∀ R' H', Asm T R' H' p (Si50.step s (.go m.toNat pr)).1 → Kp R H R' H' → Q (.int (Si50.step s (.go m.toNat pr)).2.v) H'
theorem procs_len {b : Si50.Before} (h : b.procs.Pairwise fun x y => Si50.rank y.2.2 < Si50.rank x.2.2) : b.procs.length ≤ 1000 := by
  have key : ∀ (l : List (Nat × Nat × Si50.Proc)), l.Pairwise (fun x y => Si50.rank y.2.2 < Si50.rank x.2.2) → ∀ k, (∀ x, x ∈ l → Si50.rank x.2.2 < k) → l.length ≤ k := by
    intro l
    induction l with
    | nil => intro _ _ _; exact Nat.zero_le _
    | cons x r ih =>
      intro h k hk
      have h' := List.pairwise_cons.mp h
      have := ih h'.2 (Si50.rank x.2.2) h'.1
      have := hk x (List.mem_cons_self ..)
      rw [List.length_cons]
      omega
  exact key b.procs h 1000 fun x _ => by cases x.2.2 <;> decide
theorem ok_go : FnOk P w K mg base CX0 5 T.f_go.a T.f_go.d ["assembly", "member", "how"] (sp_go T) := by
  have G_go_refusal := ok_go_refusal (P := P) (w := w) (base := base) T
  have G_number_motion := ok_number_motion (P := P) (w := w) (base := base) T
  have G_WayOn_init := ok_WayOn_init (P := P) (w := w) (base := base) T
  refine T.f_go.F.ok sc_go (fun vs H Q E h => ?_) (fun cdv A outer s H vs Q E hr h => ?_)
  · obtain ⟨_, _, _, _, _, _, _, rfl, _⟩ := h
    rfl
  · obtain ⟨p, m, y, pr, st, n, R, rfl, hA, wf, hm, hy, k⟩ := h
    rw [step_go wf hm] at k
    refine ⟨_, (pss_cons (ps_set (i := 3) sc_go.nd rfl (Or.inl rfl) (pe_call (G_go_refusal.mono (by decide)) hr rfl T.f_go_refusal.g T.f_go_refusal.F.kp (b_go_refusal T) .nil pass0 (pa_cons (pv 0) (pa_cons (pv 1) (pa_cons (pv 2) pa_nil)))))
      (pss_cons (ps_if (pt_cmpR op_ne (pv 3) (pe_gl T.k_NO_REFUSAL) (nomark _))
        (pss_one (ps_ret (pv 3)))
        pss_nil)
      (pss_cons (ps_set (i := 4) sc_go.nd rfl (Or.inl rfl) (pe_call (G_number_motion.mono (by decide)) hr rfl T.f_number_motion.g T.f_number_motion.F.kp (b_number_motion T) .nil pass0 (pa_cons (pv 0) (pa_cons (pv 1) pa_nil))))
      (pss_cons (ps_expr (pe_lm PySem.F.slot_list_append PySem.F.type_list_append mt_append (pe_fldK (K := K) (pe_fldK (K := K) (pv 0) rfl) rfl) (pa_cons (pe_make T.C_WayOn.mk_ (G_WayOn_init.mono (by decide)) hr rfl T.C_WayOn.gc (b_WayOn_init T) .nil pass0 (pa_cons (pv 4) (pa_cons (pv 2) pa_nil))) pa_nil)))
      (pss_one (ps_ret (pv 4))))))), ?_⟩
    simp_arith [sp_go_refusal]
    refine ⟨pr, st, st.votes, R, hA, hm, hy, ?_⟩
    by_cases c : goR st m pr = 0
    · obtain ⟨dx, aR, aW, aT, aM, mn, aO, aP, aV, aD, os, ps, vs', kvs, hB⟩ := id hA
      have c0 : aonV st m = 0 := by
        by_cases c0 : aonV st m = 0
        · exact c0
        · unfold goR at c
          rw [if_neg c0] at c
          exact c
      obtain ⟨_, b, hb⟩ := aon_some c0
      rw [if_pos c, hb] at k
      have hx := hB.b
      rw [hb] at hx
      obtain ⟨x, rfl, -⟩ := hx
      simp_arith [c, sp_number_motion]
      refine ⟨st, st.votes, R, dx, aR, aW, aT, aM, .ref x, aO, aP, aV, aD, os, ps, vs', kvs, hB, hm, wf.mv, fun H1 hB1 f1 => ?_⟩
      have hx1 := hB1.b
      have hb2 : (Si50.newId st m.toNat).before = some b := hb
      rw [hb2] at hx1
      obtain ⟨x', e, dx', aw, aQ, aY, am, fu, qs, ys, hM⟩ := hx1
      cases e
      simp_arith [hB1.o.2, hM.o.2, hM.y.2, T.C_Assembly.cl, T.C_MainMotion.cl, n_Assembly_main T, n_MainMotion_ways_on T, sp_WayOn_init]
      intro z dz hzn hdz nz
      have i1 : aY ≠ z := ne_of_none hM.y.2 hzn
      have i2 : aY ≠ dz := ne_of_none hM.y.2 hdz
      simp_arith [upd_ne i1, upd_ne i2, hM.y.2]
      have hlen := pd_len hM.yy
      rw [List.length_reverse] at hlen
      have hpl := procs_len (wf.before hb).rk
      refine ⟨small (by omega), ?_⟩
      obtain ⟨g1, g2⟩ := made (R := R) (C := T.C_WayOn.c) (fs := wyF (.int (st.moved.length : Int)) (.int y)) (t := .oth) hzn hdz nz
      have hB2 := hB1.fa g1
      have hM2 := hM.fr g1 fun _ _ => trivial
      generalize setR (setR R dz .oth) z .oth = R3 at g1 g2 hB2 hM2
      generalize upd (upd H1 dz (.own z)) z (.ins T.C_WayOn.c dz (wyF (.int (st.moved.length : Int)) (.int y))) = H3 at g1 g2 hB2 hM2 ⊢
      have f2 : Fr_ (fun t => t ≠ .mut 10 b.id) R3 H3 R3 (upd H3 aY (.lst (ys ++ [.ref z]))) := Fr_.put hM2.y.1
      obtain ⟨q1, q2, q3, q4, q5, q6, q7, q8⟩ := hM2.part f2 (by decide)
      refine k R3 _ ⟨dx, aR, aW, aT, aM, .ref x, aO, aP, aV, aD, os, ps, vs', kvs, ?_⟩ (f1.kpm.trans (g1.kpa.trans (Kp.put hM2.y.1)))
      refine hB2.inner hb2 wf.nd (fr_mine hM2.y.1 (.inr (.inr (.inl rfl)))) ⟨x, rfl, dx', aw, aQ, aY, am, fu, qs, ys ++ [.ref z], ?_⟩
      refine ⟨q1 (by decide), q2, q3 (by decide), q4, At.self hM2.y.1, ?_, q7, q8⟩
      show Paired _ _ ((st.moved.length, m.toNat, pr) :: b.procs).reverse
      rw [List.reverse_cons]
      refine pd_snoc q6 ⟨z, dz, rfl, f2 _ _ _ nofun ?_⟩
      rw [← hy]
      exact g2
    · rw [if_neg c] at k
      simp_arith [c]
      exact k R H hA Kp.refl
def dvR (s : Si50.St) (m : Int) (i : Nat) : Int := if aonV s m = 0 then (match s.before with
  | none => 0
  | some b => if Si50.asked b ≠ .main then -4 else if i = 0 ∨ b.text.length ≤ i then -1 else 0) else aonV s m
theorem step_divide {s : Si50.St} {m : Int} {i : Nat} (hm : 0 ≤ m) : Si50.step s (.divide m.toNat i) = if dvR s m i = 0 then
    (match s.before with
      | none => (s, Si50.ok 0)
      | some b => ({ s with before := some { b with text := b.text.take i, parts := b.text.drop i :: b.parts } }, Si50.ok ((b.parts.length : Int) + 2))) else (s, Si50.ok (dvR s m i)) := by
  show Si50.mover s m.toNat (Si50.on s _) = _
  rw [on_aon hm]
  by_cases c : aonV s m = 0
  · obtain ⟨_, b, hb⟩ := aon_some c
    have eg : dvR s m i = if Si50.asked b ≠ .main then -4 else if i = 0 ∨ b.text.length ≤ i then -1 else 0 := by
      unfold dvR
      rw [if_pos c, hb]
    rw [if_pos c]
    unfold Si50.on
    rw [hb]
    dsimp only
    by_cases c1 : Si50.asked b ≠ .main
    · rw [if_pos c1] at eg
      rw [if_pos c1, eg]; rfl
    · rw [if_neg c1] at eg
      rw [if_neg c1]
      by_cases c3 : i = 0 ∨ b.text.length ≤ i
      · rw [if_pos c3] at eg
        rw [if_pos c3, eg]; rfl
      · rw [if_neg c3] at eg
        rw [if_neg c3, eg]; rfl
  · have eg : dvR s m i = aonV s m := by unfold dvR; rw [if_neg c]
    rw [if_neg c, eg, if_neg c]
theorem qo_main (b : Si50.Before) : ((Si50.questionOut (Si50.asked b) : Nat) : Int) = 1 ↔ Si50.asked b = .main := by
  cases Si50.asked b with
  | main => exact ⟨fun _ => rfl, fun _ => rfl⟩
  | first => exact ⟨(fun z => by cases z), nofun⟩
  | second => exact ⟨(fun z => by cases z), nofun⟩
  | proc p => cases p <;> exact ⟨(fun z => by cases z), nofun⟩
def sp_divide_refusal : Sp := fun vs H Q _ => ∃ (p : Addr) (m y : Int) (s : Si50.St) (dv : List Si50.Vote) (R : Rg), vs = [.ref p, .int m, .int y] ∧ AsmX T R H p s dv ∧ 0 ≤ m ∧ 0 ≤ y ∧ Q (.int (dvR s m y.toNat)) H
theorem ok_divide_refusal : FnOk P w K mg base CX0 4 T.f_divide_refusal.a T.f_divide_refusal.d ["assembly", "member", "place"] (sp_divide_refusal T) := by
  have G_absence_or_nothing := ok_absence_or_nothing (P := P) (w := w) (base := base) T
  have G_asked_sort := ok_asked_sort (P := P) (w := w) (base := base) T
  refine T.f_divide_refusal.F.ok sc_divide_refusal (fun vs H Q E h => ?_) (fun cdv A outer s H vs Q E hr h => ?_)
  · obtain ⟨_, _, _, _, _, _, rfl, _⟩ := h
    rfl
  · obtain ⟨p, m, y, st, dv, R, rfl, hA, hm, hy, k⟩ := h
    obtain ⟨dx, aR, aW, aT, aM, mn, aO, aP, aV, aD, os, ps, vs', kvs, hB⟩ := id hA
    refine ⟨_, (pss_cons (ps_set (i := 3) sc_divide_refusal.nd rfl (Or.inl rfl) (pe_call (G_absence_or_nothing.mono (by decide)) hr rfl T.f_absence_or_nothing.g T.f_absence_or_nothing.F.kp (b_absence_or_nothing T) .nil pass0 (pa_cons (pv 0) (pa_cons (pv 1) pa_nil))))
      (pss_cons (ps_if (pt_cmpR op_ne (pv 3) (pe_gl T.k_NO_REFUSAL) (nomark _))
        (pss_one (ps_ret (pv 3)))
        pss_nil)
      (pss_cons (ps_if (pt_cmpR op_ne (pe_call (G_asked_sort.mono (by decide)) hr rfl T.f_asked_sort.g T.f_asked_sort.F.kp (b_asked_sort T) .nil pass0 (pa_cons (pe_fldK (K := K) (pv 0) rfl) pa_nil)) (pe_gl T.k_MAIN) (nomark _))
        (pss_one (ps_ret (pe_gl T.k_OUT_OF_ORDER)))
        pss_nil)
      (pss_cons (ps_if (PW.pt (pw_or (pt_cmpR op_lt (pv 2) pe_int (nomark _)) (pw_or1 (pt_cmpR op_ge (pv 2) (pe_callB call_lenL (by rfl) T.b_len PySem.boot_len (pa_cons (pe_fldK (K := K) (pe_fldK (K := K) (pv 0) rfl) rfl) pa_nil)) (nomark _)))))
        (pss_one (ps_ret (pe_gl T.k_WRONG)))
        pss_nil)
      (pss_one (ps_ret (pe_gl T.k_NO_REFUSAL))))))), ?_⟩
    simp_arith [sp_absence_or_nothing]
    refine ⟨st, dv, R, hA, hm, ?_⟩
    unfold dvR at k
    by_cases c : aonV st m = 0
    · rw [if_pos c] at k
      obtain ⟨_, b, hb⟩ := aon_some c
      have hx := hB.b
      rw [hb] at hx k
      obtain ⟨x, rfl, hMM⟩ := hx
      obtain ⟨dx', aw, aQ, aY, am, fu, qs, ys, hM⟩ := id hMM
      obtain ⟨us, hu, huu⟩ := hM.w
      dsimp only at k
      simp_arith [c, hB.o.2, T.C_Assembly.cl, n_Assembly_main T, sp_asked_sort]
      refine ⟨b, R, hMM, ?_⟩
      by_cases c1 : Si50.asked b = .main
      · have c2 := (qo_main b).mpr c1
        rw [if_neg (fun z => z c1)] at k
        simp_arith [c2, hM.o.2, hu.2, T.C_MainMotion.cl, n_MainMotion_words T, pd_len huu]
        by_cases d1 : y < 1
        · rw [if_pos (.inl (by omega))] at k
          simp_arith [d1, k]
        · by_cases d2 : ((b.text.length : Nat) : Int) ≤ y
          · rw [if_pos (.inr (by omega))] at k
            simp_arith [d1, d2, k]
          · rw [if_neg (by omega)] at k
            simp_arith [d1, d2, k]
      · have c2 : ¬ ((Si50.questionOut (Si50.asked b) : Nat) : Int) = 1 := fun z => c1 ((qo_main b).mp z)
        rw [if_pos c1] at k
        simp_arith [c2, k]
    · rw [if_neg c] at k
      simp_arith [c, k]
def sp_divide : Sp := fun vs H Q _ => ∃ (p : Addr) (m y : Int) (s : Si50.St) (n : Nat) (R : Rg), vs = [.ref p, .int m, .int y] ∧ Asm T R H p s ∧ SM.WF n s ∧ n ≤ 100 ∧ 0 ≤ m ∧ 0 ≤ y ∧
  ∀ R' H', Asm T R' H' p (Si50.step s (.divide m.toNat y.toNat)).1 → Kp R H R' H' → Q (.int (Si50.step s (.divide m.toNat y.toNat)).2.v) H'
theorem ok_divide : FnOk P w K mg base CX0 5 T.f_divide.a T.f_divide.d ["assembly", "member", "place"] (sp_divide T) := by
  have G_divide_refusal := ok_divide_refusal (P := P) (w := w) (base := base) T
  have G_how_many_parts := ok_how_many_parts (P := P) (w := w) (base := base) T
  refine T.f_divide.F.ok sc_divide (fun vs H Q E h => ?_) (fun cdv A outer s H vs Q E hr h => ?_)
  · obtain ⟨_, _, _, _, _, _, rfl, _⟩ := h
    rfl
  · obtain ⟨p, m, y, st, n, R, rfl, hA, wf, hn, hm, hy, k⟩ := h
    rw [step_divide hm] at k
    refine ⟨_, (pss_cons (ps_set (i := 3) sc_divide.nd rfl (Or.inl rfl) (pe_call (G_divide_refusal.mono (by decide)) hr rfl T.f_divide_refusal.g T.f_divide_refusal.F.kp (b_divide_refusal T) .nil pass0 (pa_cons (pv 0) (pa_cons (pv 1) (pa_cons (pv 2) pa_nil)))))
      (pss_cons (ps_if (pt_cmpR op_ne (pv 3) (pe_gl T.k_NO_REFUSAL) (nomark _))
        (pss_one (ps_ret (pv 3)))
        pss_nil)
      (pss_cons (ps_set (i := 4) sc_divide.nd rfl (Or.inl rfl) (pe_fldK (K := K) (pv 0) rfl))
      (pss_cons (ps_expr (pe_lm PySem.F.slot_list_insert PySem.F.type_list_insert mt_insert (pe_fldK (K := K) (pv 4) rfl) (pa_cons pe_int (pa_cons (pe_slice sl_lst (pe_fldK (K := K) (pv 4) rfl) (po_some (pv 2)) po_none) pa_nil))))
      (pss_cons (ps_fld (pv 4) (pe_slice sl_lst (pe_fldK (K := K) (pv 4) rfl) po_none (po_some (pv 2))) rfl)
      (pss_one (ps_ret (pe_call (G_how_many_parts.mono (by decide)) hr rfl T.f_how_many_parts.g T.f_how_many_parts.F.kp (b_how_many_parts T) .nil pass0 (pa_cons (pv 4) pa_nil))))))))), ?_⟩
    simp_arith [sp_divide_refusal]
    refine ⟨st, st.votes, R, hA, hm, hy, ?_⟩
    by_cases c : dvR st m y.toNat = 0
    · obtain ⟨dx, aR, aW, aT, aM, mn, aO, aP, aV, aD, os, ps, vs', kvs, hB⟩ := id hA
      have c0 : aonV st m = 0 := by
        by_cases c0 : aonV st m = 0
        · exact c0
        · unfold dvR at c
          rw [if_neg c0] at c
          exact c
      obtain ⟨_, b, hb⟩ := aon_some c0
      rw [if_pos c, hb] at k
      have hx := hB.b
      rw [hb] at hx
      obtain ⟨x, rfl, dx', aw, aQ, aY, am, fu, qs, ys, hM⟩ := hx
      obtain ⟨us, hu, huu⟩ := hM.w
      have ey : y = (y.toNat : Int) := (Int.toNat_of_nonneg hy).symm
      generalize y.toNat = i at *
      subst ey
      simp_arith [c, hB.o.2, hM.o.2, hM.p.2, hu.2, T.C_Assembly.cl, T.C_MainMotion.cl, n_Assembly_main T, n_MainMotion_parts_to_come T, n_MainMotion_words T]
      intro z hz
      have i1 : aQ ≠ z := ne_of_none hM.p.2 hz
      have i2 : x ≠ z := ne_of_none hM.o.2 hz
      have i3 : x ≠ aQ := hM.o.ne hM.p.1 nofun
      have i4 : aw ≠ z := ne_of_none hu.2 hz
      have i5 : aw ≠ aQ := hu.ne hM.p.1 nofun
      have hlen := pd_len hM.pp
      have hpn := (wf.before hb).pn
      simp_arith [upd_ne i1, upd_ne i2, upd_ne i3, upd_ne i4, upd_ne i5, hM.p.2, hM.o.2, hu.2, T.C_MainMotion.cl, n_MainMotion_words T, Int.toNat_zero, List.take_zero, List.drop_zero]
      refine ⟨by decide, small (by omega), fun v hv => ?_⟩
      obtain ⟨j1, hv⟩ := upd_none hv
      obtain ⟨j2, hv⟩ := upd_none hv
      have i6 : x ≠ v := ne_of_none hM.o.2 hv
      simp_arith [upd_ne i2, upd_ne i3, upd_ne i6, hM.o.2, T.C_MainMotion.cl, n_MainMotion_words T, sp_how_many_parts]
      have fA : Fa R H (setR R z .oth) (upd H z (.lst (us.drop i))) := Fr_.new hz
      have hM1 := hM.fr fA fun _ _ => trivial
      have hB1 := hB.fa fA
      have hz1 : TxtAt T (setR R z .oth) (upd H z (.lst (us.drop i))) z (b.text.drop i) := ⟨_, At.made, paired_imp (fun _ _ y => y.fr fA trivial) (pd_drop huu i)⟩
      have hu1 := fA _ _ _ trivial hu
      have kA := fA.kpa
      have huu1 : Paired (WordAt T (setR R z .oth) (upd H z (.lst (us.drop i)))) us b.text := paired_imp (fun _ _ y => y.fr fA trivial) huu
      have hv1 : upd H z (.lst (us.drop i)) v = none := by rw [upd_ne j2]; exact hv
      generalize setR R z .oth = R1 at fA hM1 hB1 hz1 hu1 kA huu1
      generalize upd H z (.lst (us.drop i)) = H1 at fA hM1 hB1 hz1 hu1 kA huu1 hv1 ⊢
      have fB : Fr_ (fun t => t ≠ .mut 9 b.id) R1 H1 R1 (upd H1 aQ (.lst (.ref z :: qs))) := Fr_.put hM1.p.1
      obtain ⟨q1, q2, q3, q4, q5, q6, q7, q8⟩ := hM1.part fB (by decide)
      have hv2 : upd H1 aQ (.lst (.ref z :: qs)) v = none := by rw [upd_ne j1]; exact hv1
      have fC : Fa R1 (upd H1 aQ (.lst (.ref z :: qs))) (setR R1 v .oth) (upd (upd H1 aQ (.lst (.ref z :: qs))) v (.lst (us.take i))) := Fr_.new hv2
      have bP : At R1 (upd H1 aQ (.lst (.ref z :: qs))) aQ (.mut 9 b.id) (.lst (.ref z :: qs)) := At.self hM1.p.1
      have hvt : TxtAt T (setR R1 v .oth) (upd (upd H1 aQ (.lst (.ref z :: qs))) v (.lst (us.take i))) v (b.text.take i) := ⟨_, At.made, paired_imp (fun _ _ y => (y.fr fB nofun).fr fC trivial) (pd_take huu1 i)⟩
      have kB : Kp R1 H1 R1 (upd H1 aQ (.lst (.ref z :: qs))) := fB.kpm
      have kC := fC.kpa
      have gB : Fr_ (fun t => ¬ mine b t) R1 H1 R1 (upd H1 aQ (.lst (.ref z :: qs))) := fr_mine hM1.p.1 (.inr (.inl rfl))
      have o1 := fC _ _ _ trivial (q1 (by decide))
      have p1 := fC _ _ _ trivial bP
      generalize setR R1 v .oth = R2 at fC hvt kC o1 p1
      generalize upd (upd H1 aQ (.lst (.ref z :: qs))) v (.lst (us.take i)) = H2 at fC hvt kC o1 p1 ⊢
      have fD : Fr_ (fun t => t ≠ .mut 8 b.id) R2 H2 R2 (upd H2 x (.ins T.C_MainMotion.c dx' (mmF (.int (b.id : Int)) (.ref v) (.ref aQ) am fu (.ref aY) (.bl b.closed)))) := Fr_.put o1.1
      have gD : Fr_ (fun t => ¬ mine b t) R2 H2 R2 (upd H2 x (.ins T.C_MainMotion.c dx' (mmF (.int (b.id : Int)) (.ref v) (.ref aQ) am fu (.ref aY) (.bl b.closed)))) := fr_mine o1.1 (.inl rfl)
      have kD := fD.kpm
      have new : BefAt T R2 (upd H2 x (.ins T.C_MainMotion.c dx' (mmF (.int (b.id : Int)) (.ref v) (.ref aQ) am fu (.ref aY) (.bl b.closed)))) x { b with text := b.text.take i, parts := b.text.drop i :: b.parts } dx' v aQ aY am fu (.ref z :: qs) ys := by
        refine ⟨At.self o1.1, hvt.fr fD nofun, fD _ _ _ nofun p1, .cons ⟨z, rfl, ((hz1.fr fB nofun).fr fC trivial).fr fD nofun⟩ (paired_imp (fun _ _ y => (y.fr fC trivial).fr fD nofun) q4), fD _ _ _ nofun (fC _ _ _ trivial (q5 (by decide))), paired_imp (fun _ _ y => (y.fr fC trivial).fr fD nofun) q6, ?_, ?_⟩
        · exact (q7.fr fC trivial fun _ _ => trivial).fr fD nofun fun _ _ => nofun
        · exact (q8.fr fC trivial fun _ _ => trivial).fr fD nofun fun _ _ => nofun
      refine ⟨_, R2, ⟨dx', v, aQ, aY, am, fu, _, _, new⟩, ?_⟩
      have ea : (1 + (((b.text.drop i :: b.parts).length : Nat) : Int)) = (b.parts.length : Int) + 2 := by rw [List.length_cons]; omega
      show Q (.int (1 + (((b.text.drop i :: b.parts).length : Nat) : Int))) _
      rw [ea]
      exact k R2 _ ⟨dx, aR, aW, aT, aM, .ref x, aO, aP, aV, aD, os, ps, vs', kvs, hB1.inner hb wf.nd ((gB.trans fC.a).trans gD) ⟨x, rfl, dx', v, aQ, aY, am, fu, _, _, new⟩⟩ (kA.trans (kB.trans (kC.trans kD)))
    · rw [if_neg c] at k
      simp_arith [c]
      exact k R H hA Kp.refl
end
end My

end

section
set_option Elab.async false
set_option linter.all false
set_option maxRecDepth 100000
set_option maxHeartbeats 4000000
namespace My
open PySem PySem.Spec PyProof.Rows L2
section
variable {P : Program} {w : World} {K : PySem.W.Frag} {mg : Str → Option Value} {base : Heap} (T : Tx K mg)
def wdR (s : Si50.St) (m : Int) : Int := if aonV s m = 0 then (match s.before with
  | none => 0
  | some b => if (s.moved[Si50.idOf b]?).getD 0 = m.toNat then 0 else -6) else aonV s m
theorem own_at {n : Nat} {s : Si50.St} {b : Si50.Before} (wf : SM.WF n s) (hb : s.before = some b) : ∃ k, s.moved[Si50.idOf b]? = some k := by
  have := (wf.before hb).ids_lt _ SM.idOf_mem
  exact ⟨_, List.getElem?_eq_getElem this⟩
theorem step_withdraw {s : Si50.St} {m : Int} {n : Nat} (wf : SM.WF n s) (hm : 0 ≤ m) : Si50.step s (.withdraw m.toNat) = if wdR s m = 0 then
    (match s.before with
      | none => (s, Si50.ok 0)
      | some b => ({ s with before := dropB b }, Si50.ok 0)) else (s, Si50.ok (wdR s m)) := by
  show Si50.mover s m.toNat (Si50.on s _) = _
  rw [on_aon hm]
  by_cases c : aonV s m = 0
  · obtain ⟨_, b, hb⟩ := aon_some c
    have eg : wdR s m = if (s.moved[Si50.idOf b]?).getD 0 = m.toNat then 0 else -6 := by
      unfold wdR
      rw [if_pos c, hb]
    rw [if_pos c]
    unfold Si50.on
    rw [hb]
    dsimp only
    have B := wf.before hb
    have fin : ∀ (k : Nat) (o : Option Si50.Before), s.moved[Si50.idOf b]? = some k → dropB b = o → (if k ≠ m.toNat then (s, Si50.ok (-6)) else ({ s with before := o }, Si50.ok 0)) = if wdR s m = 0 then ({ s with before := dropB b }, Si50.ok 0) else (s, Si50.ok (wdR s m)) := by
      intro k o hk ho
      have eg : wdR s m = if k = m.toNat then 0 else -6 := by
        rw [eg, hk]
        rfl
      by_cases d : k = m.toNat
      · rw [if_pos d] at eg
        rw [if_neg (fun z => z d), eg, ho]; rfl
      · rw [if_neg d] at eg
        rw [if_pos d, eg]; rfl
    rcases SM.asked_cases b with ⟨q, r, e1, e2, e3⟩ | ⟨e1, a, e2, e3, e4⟩ | ⟨e1, e2, a, e3, e4, e5⟩ | ⟨e1, e2, e3, e4, e5⟩
    · have h1 : s.moved[Si50.idOf b]? = some q.2.1 := by rw [e3]; exact B.pr q (by rw [e1]; exact List.mem_cons_self ..)
      have h2 : dropB b = some { b with procs := r } := by unfold dropB; rw [e2, e1]; rfl
      have := fin _ _ h1 h2
      simp only [e1] at this ⊢
      exact this
    · have h1 : s.moved[Si50.idOf b]? = some a.by_ := by rw [e4]; exact (B.se a e2).1.own
      have h2 : dropB b = some { b with second := none } := by unfold dropB; rw [e3]
      have := fin _ _ h1 h2
      cases hf : b.first
      · simp only [e1, e2, hf] at this ⊢
        exact this
      · simp only [e1, e2, hf] at this ⊢
        exact this
    · have h1 : s.moved[Si50.idOf b]? = some a.by_ := by rw [e5]; exact (B.fi a e3).1.own
      have h2 : dropB b = some { b with first := none } := by unfold dropB; rw [e4]
      have := fin _ _ h1 h2
      simp only [e1, e2, e3] at this ⊢
      exact this
    · have h1 : s.moved[Si50.idOf b]? = some b.by_ := by rw [e5]; exact B.own
      have h2 : dropB b = Si50.nextPart b := by unfold dropB; rw [e4]
      have := fin _ _ h1 h2
      simp only [e1, e2, e3] at this ⊢
      exact this
  · have eg : wdR s m = aonV s m := by unfold wdR; rw [if_neg c]
    rw [if_neg c, eg, if_neg c]
theorem mvs_at {s : Si50.St} {i k : Nat} (h : s.moved[i]? = some k) : atI (mvs s) (i : Int) = some (V.int (k : Int)) := by
  refine atI_nat ?_
  unfold mvs nl
  rw [List.getElem?_map, h]
  rfl
def sp_withdraw : Sp := fun vs H Q _ => ∃ (p : Addr) (m : Int) (s : Si50.St) (n : Nat) (R : Rg), vs = [.ref p, .int m] ∧ Asm T R H p s ∧ SM.WF n s ∧ 0 ≤ m ∧
  ∀ R' H', Asm T R' H' p (Si50.step s (.withdraw m.toNat)).1 → Kp R H R' H' → Q (.int (Si50.step s (.withdraw m.toNat)).2.v) H'
theorem ok_withdraw : FnOk P w K mg base CX0 4 T.f_withdraw.a T.f_withdraw.d ["assembly", "member"] (sp_withdraw T) := by
  have G_absence_or_nothing := ok_absence_or_nothing (P := P) (w := w) (base := base) T
  have G_drop_asked := ok_drop_asked (P := P) (w := w) (base := base) T
  have G_asked_motion := ok_asked_motion (P := P) (w := w) (base := base) T
  refine T.f_withdraw.F.ok sc_withdraw (fun vs H Q E h => ?_) (fun cdv A outer s H vs Q E hr h => ?_)
  · obtain ⟨_, _, _, _, _, rfl, _⟩ := h
    rfl
  · obtain ⟨p, m, st, n, R, rfl, hA, wf, hm, k⟩ := h
    rw [step_withdraw wf hm] at k
    obtain ⟨dx, aR, aW, aT, aM, mn, aO, aP, aV, aD, os, ps, vs', kvs, hB⟩ := id hA
    refine ⟨_, (pss_cons (ps_set (i := 2) sc_withdraw.nd rfl (Or.inl rfl) (pe_call (G_absence_or_nothing.mono (by decide)) hr rfl T.f_absence_or_nothing.g T.f_absence_or_nothing.F.kp (b_absence_or_nothing T) .nil pass0 (pa_cons (pv 0) (pa_cons (pv 1) pa_nil))))
      (pss_cons (ps_if (pt_cmpR op_ne (pv 2) (pe_gl T.k_NO_REFUSAL) (nomark _))
        (pss_one (ps_ret (pv 2)))
        pss_nil)
      (pss_cons (ps_if (pt_cmpR op_ne (pe_ix ix_lst (pe_fldK (K := K) (pv 0) rfl) (pe_call (G_asked_motion.mono (by decide)) hr rfl T.f_asked_motion.g T.f_asked_motion.F.kp (b_asked_motion T) .nil pass0 (pa_cons (pe_fldK (K := K) (pv 0) rfl) pa_nil)) (fun _ _ => rfl)) (pv 1) (nomark _))
        (pss_one (ps_ret (pe_gl T.k_NOT_THE_MOVER)))
        pss_nil)
      (pss_cons (ps_expr (pe_call (G_drop_asked.mono (by decide)) hr rfl T.f_drop_asked.g T.f_drop_asked.F.kp (b_drop_asked T) .nil pass0 (pa_cons (pv 0) pa_nil)))
      (pss_one (ps_ret pe_int)))))), ?_⟩
    simp_arith [sp_absence_or_nothing]
    refine ⟨st, st.votes, R, hA, hm, ?_⟩
    by_cases c : aonV st m = 0
    · obtain ⟨_, b, hb⟩ := aon_some c
      have hx := hB.b
      rw [hb] at hx
      obtain ⟨x, rfl, hMM⟩ := hx
      obtain ⟨j, hj⟩ := own_at wf hb
      have eg : wdR st m = if j = m.toNat then 0 else -6 := by
        unfold wdR
        rw [if_pos c, hb]
        dsimp only
        rw [hj]
        rfl
      simp_arith [c, hB.o.2, T.C_Assembly.cl, n_Assembly_main T, n_Assembly_movers T, hB.m.2, sp_asked_motion]
      refine ⟨b, R, hMM, ?_⟩
      simp_arith [mvs_at hj, sp_drop_asked]
      by_cases d : j = m.toNat
      · have d2 : (j : Int) = m := by omega
        rw [if_pos d] at eg
        rw [eg, if_pos rfl, hb] at k
        simp_arith [d2]
        exact ⟨st, b, st.votes, R, hA, hb, wf.nd, fun R' H' h1 h2 => k R' H' h1 h2⟩
      · have d2 : ¬ (j : Int) = m := by omega
        rw [if_neg d] at eg
        rw [eg, if_neg (by decide)] at k
        simp_arith [d2]
        exact k R H hA Kp.refl
    · have eg : wdR st m = aonV st m := by unfold wdR; rw [if_neg c]
      rw [eg, if_neg c] at k
      simp_arith [c]
      exact k R H hA Kp.refl
def tkR (s : Si50.St) (m : Int) (k : Nat) : Int := if absV s m = 0 then (if s.tabled.length ≤ k then -2 else if s.before.isSome = true then -4 else 0) else absV s m
theorem step_take {s : Si50.St} {m : Int} {k : Nat} {b : Si50.Before} (hm : 0 ≤ m) (h0 : tkR s m k = 0) (hb : s.tabled[k]? = some b) : Si50.step s (.take m.toNat k) = ({ s with before := some b, tabled := s.tabled.eraseIdx k }, Si50.ok (Si50.questionOut (Si50.asked b) : Int)) := by
  show Si50.mover s m.toNat _ = _
  rw [mover_eq hm]
  unfold tkR at h0
  by_cases c : absV s m = 0
  · rw [if_pos c] at h0 ⊢
    rw [hb]
    dsimp only
    have := (List.getElem?_eq_some_iff.mp hb).1
    rw [if_neg (by omega)] at h0
    by_cases d : s.before.isSome = true
    · rw [if_pos d] at h0; exact absurd h0 (by decide)
    · rw [if_neg d]
  · rw [if_neg c] at h0; exact absurd h0 c
theorem step_take_no {s : Si50.St} {m : Int} {k : Nat} (hm : 0 ≤ m) (h0 : tkR s m k ≠ 0) : Si50.step s (.take m.toNat k) = (s, Si50.ok (tkR s m k)) := by
  show Si50.mover s m.toNat _ = _
  rw [mover_eq hm]
  by_cases c : absV s m = 0
  · have eg : tkR s m k = if s.tabled.length ≤ k then -2 else if s.before.isSome = true then -4 else 0 := by unfold tkR; rw [if_pos c]
    rw [if_pos c]
    by_cases d1 : s.tabled.length ≤ k
    · rw [if_pos d1] at eg
      rw [List.getElem?_eq_none d1, eg]
    · rw [if_neg d1] at eg
      rw [List.getElem?_eq_getElem (by omega)]
      dsimp only
      by_cases d2 : s.before.isSome = true
      · rw [if_pos d2] at eg
        rw [if_pos d2, eg]
      · rw [if_neg d2] at eg
        exact absurd eg h0
  · have eg : tkR s m k = absV s m := by unfold tkR; rw [if_neg c]
    rw [if_neg c, eg]
def sp_take_refusal : Sp := fun vs H Q _ => ∃ (p : Addr) (m y : Int) (s : Si50.St) (dv : List Si50.Vote) (R : Rg), vs = [.ref p, .int m, .int y] ∧ AsmX T R H p s dv ∧ 0 ≤ m ∧ 0 ≤ y ∧ Q (.int (tkR s m y.toNat)) H
theorem ok_take_refusal : FnOk P w K mg base CX0 3 T.f_take_refusal.a T.f_take_refusal.d ["assembly", "member", "which"] (sp_take_refusal T) := by
  have G_absence := ok_absence (P := P) (w := w) (base := base) T
  refine T.f_take_refusal.F.ok sc_take_refusal (fun vs H Q E h => ?_) (fun cdv A outer s H vs Q E hr h => ?_)
  · obtain ⟨_, _, _, _, _, _, rfl, _⟩ := h
    rfl
  · obtain ⟨p, m, y, st, dv, R, rfl, hA, hm, hy, k⟩ := h
    obtain ⟨dx, aR, aW, aT, aM, mn, aO, aP, aV, aD, os, ps, vs', kvs, hB⟩ := id hA
    refine ⟨_, (pss_cons (ps_set (i := 3) sc_take_refusal.nd rfl (Or.inl rfl) (pe_call (G_absence.mono (by decide)) hr rfl T.f_absence.g T.f_absence.F.kp (b_absence T) .nil pass0 (pa_cons (pv 0) (pa_cons (pv 1) pa_nil))))
      (pss_cons (ps_if (pt_cmpR op_ne (pv 3) (pe_gl T.k_NO_REFUSAL) (nomark _))
        (pss_one (ps_ret (pv 3)))
        pss_nil)
      (pss_cons (ps_if (pt_cmpR op_ge (pv 2) (pe_callB call_lenL (by rfl) T.b_len PySem.boot_len (pa_cons (pe_fldK (K := K) (pv 0) rfl) pa_nil)) (nomark _))
        (pss_one (ps_ret (pe_gl T.k_UNKNOWN)))
        pss_nil)
      (pss_cons (ps_if (pt_cmpR op_notN (pe_fldK (K := K) (pv 0) rfl) pe_non (nomark _))
        (pss_one (ps_ret (pe_gl T.k_OUT_OF_ORDER)))
        pss_nil)
      (pss_one (ps_ret (pe_gl T.k_NO_REFUSAL))))))), ?_⟩
    simp_arith [sp_absence]
    refine ⟨st, dv, R, hA, hm, ?_⟩
    unfold tkR at k
    by_cases c : absV st m = 0
    · rw [if_pos c] at k
      have hn := hB.b
      simp_arith [c, hB.o.2, hB.f.2, T.C_Assembly.cl, n_Assembly_main T, n_Assembly_put_off T, pd_len hB.ff]
      by_cases d1 : ((st.tabled.length : Nat) : Int) ≤ y
      · rw [if_pos (by omega)] at k
        simp_arith [d1, k]
      · rw [if_neg (by omega)] at k
        simp_arith [d1]
        cases e : st.before with
        | some b =>
          rw [e] at k hn
          obtain ⟨x, rfl, _⟩ := hn
          simp only [Option.isSome_some, if_true, if_false, ite_true, ite_false, reduceIte, Bool.false_eq_true, decide_true, decide_false] at k
          simp_arith [k]
        | none =>
          rw [e] at k hn
          obtain rfl : mn = .non := hn
          simp only [Option.isSome_none, if_true, if_false, ite_true, ite_false, reduceIte, Bool.false_eq_true, decide_true, decide_false] at k
          simp_arith [k]
    · rw [if_neg c] at k
      simp_arith [c, k]
def sp_take : Sp := fun vs H Q _ => ∃ (p : Addr) (m y : Int) (s : Si50.St) (n : Nat) (R : Rg), vs = [.ref p, .int m, .int y] ∧ Asm T R H p s ∧ SM.WF n s ∧ n ≤ 100 ∧ 0 ≤ m ∧ 0 ≤ y ∧
  ∀ R' H', Asm T R' H' p (Si50.step s (.take m.toNat y.toNat)).1 → Kp R H R' H' → Q (.int (Si50.step s (.take m.toNat y.toNat)).2.v) H'
theorem ok_take : FnOk P w K mg base CX0 4 T.f_take.a T.f_take.d ["assembly", "member", "which"] (sp_take T) := by
  have G_take_refusal := ok_take_refusal (P := P) (w := w) (base := base) T
  have G_asked_sort := ok_asked_sort (P := P) (w := w) (base := base) T
  refine T.f_take.F.ok sc_take (fun vs H Q E h => ?_) (fun cdv A outer s H vs Q E hr h => ?_)
  · obtain ⟨_, _, _, _, _, _, rfl, _⟩ := h
    rfl
  · obtain ⟨p, m, y, st, n, R, rfl, hA, wf, hn, hm, hy, k⟩ := h
    obtain ⟨dx, aR, aW, aT, aM, mn, aO, aP, aV, aD, os, ps, vs', kvs, hB⟩ := id hA
    refine ⟨_, (pss_cons (ps_set (i := 3) sc_take.nd rfl (Or.inl rfl) (pe_call (G_take_refusal.mono (by decide)) hr rfl T.f_take_refusal.g T.f_take_refusal.F.kp (b_take_refusal T) .nil pass0 (pa_cons (pv 0) (pa_cons (pv 1) (pa_cons (pv 2) pa_nil)))))
      (pss_cons (ps_if (pt_cmpR op_ne (pv 3) (pe_gl T.k_NO_REFUSAL) (nomark _))
        (pss_one (ps_ret (pv 3)))
        pss_nil)
      (pss_cons (ps_fld (pv 0) (pe_lm PySem.F.slot_list_pop PySem.F.type_list_pop mt_popAt (pe_fldK (K := K) (pv 0) rfl) (pa_cons (pv 2) pa_nil)) rfl)
      (pss_one (ps_ret (pe_call (G_asked_sort.mono (by decide)) hr rfl T.f_asked_sort.g T.f_asked_sort.F.kp (b_asked_sort T) .nil pass0 (pa_cons (pe_fldK (K := K) (pv 0) rfl) pa_nil))))))), ?_⟩
    simp_arith [sp_take_refusal]
    refine ⟨st, st.votes, R, hA, hm, hy, ?_⟩
    by_cases c : tkR st m y.toNat = 0
    · have hlt : y.toNat < st.tabled.length := by
        apply Nat.lt_of_not_le
        intro z
        unfold tkR at c
        by_cases c1 : absV st m = 0
        · rw [if_pos c1, if_pos z] at c; exact absurd c (by decide)
        · rw [if_neg c1] at c; exact absurd c c1
      have hb := List.getElem?_eq_getElem hlt
      generalize st.tabled[y.toNat] = b at hb
      rw [step_take hm c hb] at k
      obtain ⟨v, hv, x, rfl, hx⟩ := pd_at hB.ff hb
      have hlen := pd_len hB.ff
      have htn := wf.tn
      have ei : seqIndex? y os.length = some y.toNat := by
        have : ixN os.length y = some y.toNat := by unfold ixN; rw [if_pos hy, if_pos (by omega)]
        exact (ixN_seq this).1
      have n1 : p ≠ aO := hB.o.ne hB.f.1 nofun
      simp_arith [c, hB.o.2, hB.f.2, T.C_Assembly.cl, n_Assembly_main T, n_Assembly_put_off T, ei, hv, upd_ne n1]
      refine ⟨by omega, by omega, ?_⟩
      obtain ⟨f0, fr, fw, ft, fm, fb, -, fff, fp, fpp, fv, fvv, fd, fdl, fdd⟩ := hB.part (k := 4) (Fr_.put (x := .lst (os.eraseIdx y.toNat)) hB.f.1) (by decide)
      have f1 : Fr_ (fun t => t ≠ .mut 4 0) R H R (upd H aO (.lst (os.eraseIdx y.toNat))) := Fr_.put hB.f.1
      have kO : At R (upd H aO (.lst (os.eraseIdx y.toNat))) aO (.mut 4 0) (.lst (os.eraseIdx y.toNat)) := At.self hB.f.1
      have k1 : Kp R H R (upd H aO (.lst (os.eraseIdx y.toNat))) := Kp.put hB.f.1
      have hx1 := hx.fr f1 fun t o => own_ne o (by decide)
      generalize upd H aO (.lst (os.eraseIdx y.toNat)) = H1 at f0 fr fw ft fm fb fff fp fpp fv fvv fd fdd f1 kO k1 hx1 ⊢
      have f2 : Fr_ (fun t => t ≠ .mut 0 0) R H1 R (upd H1 p (.ins T.C_Assembly.c dx (asmF (.int (st.rules.quorum : Int)) (.ref aR) (.ref aW) (.ref aT) (.ref aM) (.ref x) (.ref aO) (.ref aP) (.ref aV) (.ref aD)))) := Fr_.put hB.o.1
      have hx2 := hx1.fr f2 fun t o => own_ne o (by decide)
      simp_arith [sp_asked_sort]
      refine ⟨b, R, hx2, ?_⟩
      refine k R _ ⟨dx, aR, aW, aT, aM, .ref x, aO, aP, aV, aD, os.eraseIdx y.toNat, ps, vs', kvs, At.self hB.o.1, fr.imp id (f2 _ _ _ nofun), f2 _ _ _ nofun (fw (by decide)), f2 _ _ _ nofun (ft (by decide)), f2 _ _ _ nofun (fm (by decide)), ⟨x, rfl, hx2⟩, f2 _ _ _ nofun kO, ?_, f2 _ _ _ nofun (fp (by decide)), paired_imp (fun _ _ z => z.fr f2 nofun) fpp, f2 _ _ _ nofun (fv (by decide)), paired_imp (fun _ _ z => z.fr f2 nofun) fvv, f2 _ _ _ nofun (fd (by decide)), fdl, fdd.fr f2 nofun⟩ (k1.trans (Kp.put hB.o.1))
      exact pd_erase (paired_imp (fun _ _ z => z.fr f2 fun t o => own_ne o (by decide)) fff) y.toNat
    · rw [step_take_no hm c] at k
      simp_arith [c]
      exact k R H hA Kp.refl
end
end My

end

section
set_option Elab.async false
set_option linter.all false
set_option maxRecDepth 100000
set_option maxHeartbeats 4000000
namespace My
open PySem PySem.Spec PyProof.Rows L2
section
variable {P : Program} {w : World} {K : PySem.W.Frag} {mg : Str → Option Value} {base : Heap} (T : Tx K mg)
/-- a list is told, all else stays -/
def Tells (R : Rg) (H : Hp) (Q : VK) (l : List Int) : Prop := ∀ R' H' r, At R' H' r .oth (.lst (l.map V.int)) → Fa R H R' H' → Q (.ref r) H'
theorem Tells.new {R : Rg} {H : Hp} {Q : VK} {l : List Int} {r : Addr} {xs : List V} (h : Tells R H Q l) (hr : H r = none) (e : xs = l.map V.int) : Q (.ref r) (upd H r (.lst xs)) := by
  subst e
  exact h (setR R r .oth) _ r At.made (Fr_.new hr)
theorem Tells.fa {R R1 : Rg} {H H1 : Hp} {Q : VK} {l : List Int} (h : Tells R H Q l) (f : Fa R H R1 H1) : Tells R1 H1 Q l := fun R' H' r h1 h2 => h R' H' r h1 (f.trans h2)
def sp_tell_words : Sp := fun vs H Q _ => ∃ (y : Addr) (t : Si50.Text) (R : Rg), vs = [.ref y] ∧ TxtAt T R H y t ∧ t.length ≤ 1000 ∧ Tells R H Q (Si50.textOut t)
theorem ok_tell_words : FnOk P w K mg base CX0 1 T.f_tell_words.a T.f_tell_words.d ["words"] (sp_tell_words T) := by
  refine T.f_tell_words.F.ok sc_tell_words (fun vs H Q E h => ?_) (fun cdv A outer s H vs Q E hr h => ?_)
  · obtain ⟨_, _, _, rfl, _⟩ := h
    rfl
  · obtain ⟨y, t, R, rfl, ⟨ws, hw, hww⟩, hl, k⟩ := h
    have hlen := pd_len hww
    refine ⟨_, (pss_one (ps_ret (pe_op op_cat (pe_lst (pa_cons (pe_callB call_lenL (by rfl) T.b_len PySem.boot_len (pa_cons (pv 0) pa_nil)) pa_nil)) (pe_lc rfl sc_tell_words.nd (pi_list (pv 0)) (blkOk_by (own := [("word", 1)]) (by show blkC ["words", "word"] (defScope s_tell_words) _ _ = true; decide +kernel)) (fun _ _ _ _ _ => (pg_name (i := 1) sc_tell_words.nd rfl (Or.inl rfl))) (fun _ _ _ _ _ => pts_nil) (fun _ _ _ _ _ => (pe_fldK (K := K) (pv 1) rfl)))))), ?_⟩
    simp_arith [hw.2, hlen]
    refine ⟨smal (by decide), fun p1 h1 => ?_⟩
    have n1 : y ≠ p1 := ne_of_none hw.2 h1
    refine lc_pure (K := K) (a := y) (xs := ws) (t.map fun x => V.int (x.word : Int)) (fun R hR => ?_) (by rw [upd_ne n1]; exact hw.2) (by rw [List.length_map]; omega) (by omega) (fun D zs i x v hD hx hy hz Nx hN => ?_) fun D hD => ?_
    · exact ⟨_, rfl, y, rfl, ⟨_, SqL.of (by rw [upd_ne n1]; exact hw.2)⟩, hR⟩
    · rw [List.getElem?_map] at hy
      cases hi : t[i]? with
      | none => rw [hi] at hy; cases hy
      | some tk =>
        rw [hi] at hy
        have ey : V.int (tk.word : Int) = v := Option.some.inj hy
        subst ey
        obtain ⟨x', hx', z, dz, rfl, hzz⟩ := pd_at hww hi
        rw [hx] at hx'
        have ex := Option.some.inj hx'
        subst ex
        obtain ⟨nD, hD'⟩ := upd_none hD
        have n2 : z ≠ D := ne_of_none hzz.2 hD'
        have n3 : z ≠ p1 := ne_of_none hzz.2 h1
        simp_arith [List.map_cons, upd_ne n2, upd_ne n3, hzz.2, T.C_Word.cl, n_Word_number T, hz, hN]
    · obtain ⟨nD, hD'⟩ := upd_none hD
      simp_arith [upd_ne nD.symm]
      refine ⟨smal (by rw [List.length_map]; omega), fun r hr0 => ?_⟩
      have fA : Fa R H (setR R p1 .oth) (upd H p1 (.lst [V.int (t.length : Int)])) := Fr_.new h1
      have fB := fA.trans (Fr_.new (t0 := .oth) (x := .lst (t.map fun x => V.int (x.word : Int))) hD)
      refine (k.fa fB).new hr0 ?_
      unfold Si50.textOut Si50.ints
      rw [List.map_cons, List.map_map, List.map_map]
      rfl
def amO : Option Si50.Amend → List Int
  | some a => (1 : Int) :: (Si50.ints [a.i, a.j] ++ Si50.textOut a.words)
  | none => [0]
def sp_tell_amendment : Sp := fun vs H Q _ => ∃ (v : V) (o : Option Si50.Amend) (R : Rg), vs = [v] ∧ AmdAt T R H v o ∧ (∀ a, o = some a → a.words.length ≤ 1000) ∧ Tells R H Q (amO o)
theorem ok_tell_amendment : FnOk P w K mg base CX0 2 T.f_tell_amendment.a T.f_tell_amendment.d ["amendment"] (sp_tell_amendment T) := by
  have G_tell_words := ok_tell_words (P := P) (w := w) (base := base) T
  refine T.f_tell_amendment.F.ok sc_tell_amendment (fun vs H Q E h => ?_) (fun cdv A outer s H vs Q E hr h => ?_)
  · obtain ⟨_, _, _, rfl, _⟩ := h
    rfl
  · obtain ⟨v, o, R, rfl, hv, hl, k⟩ := h
    refine ⟨_, (pss_cons (ps_if (pt_cmpR op_isN (pv 0) pe_non (nomark _))
        (pss_one (ps_ret (pe_lst (pa_cons pe_int pa_nil))))
        pss_nil)
      (pss_one (ps_ret (pe_op op_cat (pe_lst (pa_cons pe_int (pa_cons (pe_fldK (K := K) (pv 0) rfl) (pa_cons (pe_fldK (K := K) (pv 0) rfl) pa_nil)))) (pe_call (G_tell_words.mono (by decide)) hr rfl T.f_tell_words.g T.f_tell_words.F.kp (b_tell_words T) .nil pass0 (pa_cons (pe_fldK (K := K) (pv 0) rfl) pa_nil)))))), ?_⟩
    cases o with
    | none =>
      obtain rfl : v = .non := hv
      simp_arith [*]
      exact ⟨smal (by decide), fun r hr0 => k.new hr0 rfl⟩
    | some a =>
      obtain ⟨x, dx, aw, rfl, hx⟩ := hv
      have hl := hl a rfl
      simp_arith [hx.o.2, T.C_Amendment.cl, n_Amendment_start T, n_Amendment_stop T]
      refine ⟨smal (by decide), fun p1 h1 => ?_⟩
      have n1 : x ≠ p1 := ne_of_none hx.o.2 h1
      simp_arith [upd_ne n1, hx.o.2, T.C_Amendment.cl, n_Amendment_words T, sp_tell_words]
      have fA : Fa R H (setR R p1 .oth) (upd H p1 (.lst [V.int 1, V.int (a.i : Int), V.int (a.j : Int)])) := Fr_.new h1
      refine ⟨a.words, _, hx.w.fr fA trivial, hl, fun R2 H2 r2 h2 f2 => ?_⟩
      have g1 := f2 _ _ _ trivial (At.made (R := R) (H := H) (a := p1) (t := .oth) (x := .lst [V.int 1, V.int (a.i : Int), V.int (a.j : Int)]))
      simp_arith [g1.2, h2.2, List.length_map]
      refine ⟨smal ?_, fun r hr0 => ((k.fa fA).fa f2).new hr0 ?_⟩
      · unfold Si50.textOut Si50.ints
        rw [List.length_cons, List.length_map, List.length_map]
        omega
      · unfold amO Si50.ints
        rfl
theorem cons_app (a : V) (l r : List V) : a :: l ++ r = a :: (l ++ r) := rfl
def sp_tell (c : Si50.Call) : Sp := fun vs H Q _ => ∃ (p : Addr) (s : Si50.St) (n : Nat) (R : Rg), vs = [.ref p] ∧ Asm T R H p s ∧ SM.WF n s ∧ n ≤ 100 ∧ Tells R H Q ((Si50.step s c).2.v :: (Si50.step s c).2.l)
theorem am_len {n : Nat} {s : Si50.St} {b : Si50.Before} (B : SM.BOk s.moved s.votes n b) : (∀ a, b.first = some a → a.words.length ≤ 1000) ∧ ∀ a, b.second = some a → a.words.length ≤ 1000 :=
  ⟨fun a e => Nat.le_trans (B.fi a e).1.tx.len (by decide), fun a e => Nat.le_trans (B.se a e).1.tx.len (by decide)⟩
theorem amO_len {o : Option Si50.Amend} (h : ∀ a, o = some a → a.words.length ≤ 1000) : (amO o).length ≤ 1010 := by
  cases o with
  | none => show 1 ≤ 1010; decide
  | some a =>
    have := h a rfl
    unfold amO Si50.textOut Si50.ints
    simp only [List.length_cons, List.length_append, List.length_map, List.length_nil]
    omega
theorem ok_tell_text : FnOk P w K mg base CX0 3 T.f_tell_text.a T.f_tell_text.d ["assembly"] (sp_tell T .text) := by
  have G_tell_words := ok_tell_words (P := P) (w := w) (base := base) T
  have G_tell_amendment := ok_tell_amendment (P := P) (w := w) (base := base) T
  have G_how_many_parts := ok_how_many_parts (P := P) (w := w) (base := base) T
  refine T.f_tell_text.F.ok sc_tell_text (fun vs H Q E h => ?_) (fun cdv A outer s H vs Q E hr h => ?_)
  · obtain ⟨_, _, _, _, rfl, _⟩ := h
    rfl
  · obtain ⟨p, st, n, R, rfl, hA, wf, hn, k⟩ := h
    obtain ⟨dx, aR, aW, aT, aM, mn, aO, aP, aV, aD, os, ps, vs', kvs, hB⟩ := id hA
    have hm := hB.b
    refine ⟨_, (pss_cons (ps_set (i := 1) sc_tell_text.nd rfl (Or.inl rfl) (pe_fldK (K := K) (pv 0) rfl))
      (pss_cons (ps_if (pt_cmpR op_isN (pv 1) pe_non (nomark _))
        (pss_one (ps_ret (pe_lst (pa_cons (pe_gl T.k_OUT_OF_ORDER) pa_nil))))
        pss_nil)
      (pss_cons (ps_set (i := 2) sc_tell_text.nd rfl (Or.inl rfl) (pe_op op_cat (pe_lst (pa_cons (pe_call (G_how_many_parts.mono (by decide)) hr rfl T.f_how_many_parts.g T.f_how_many_parts.F.kp (b_how_many_parts T) .nil pass0 (pa_cons (pv 1) pa_nil)) pa_nil)) (pe_call (G_tell_words.mono (by decide)) hr rfl T.f_tell_words.g T.f_tell_words.F.kp (b_tell_words T) .nil pass0 (pa_cons (pe_fldK (K := K) (pv 1) rfl) pa_nil))))
      (pss_one (ps_ret (pe_op op_cat (pe_op op_cat (pv 2) (pe_call (G_tell_amendment.mono (by decide)) hr rfl T.f_tell_amendment.g T.f_tell_amendment.F.kp (b_tell_amendment T) .nil pass0 (pa_cons (pe_fldK (K := K) (pv 1) rfl) pa_nil))) (pe_call (G_tell_amendment.mono (by decide)) hr rfl T.f_tell_amendment.g T.f_tell_amendment.F.kp (b_tell_amendment T) .nil pass0 (pa_cons (pe_fldK (K := K) (pv 1) rfl) pa_nil)))))))), ?_⟩
    cases hb : st.before with
    | none =>
      rw [hb] at hm
      obtain rfl : mn = .non := hm
      have ek : ((Si50.step st .text).2.v :: (Si50.step st .text).2.l) = [-4] := by
        show ((match st.before with | none => Si50.ok (-4) | some b => _ : Si50.Ans).v :: (match st.before with | none => Si50.ok (-4) | some b => _ : Si50.Ans).l) = _
        rw [hb]; rfl
      rw [ek] at k
      simp_arith [hB.o.2, T.C_Assembly.cl, n_Assembly_main T]
      exact ⟨smal (by decide), fun r hr0 => k.new hr0 rfl⟩
    | some b =>
      rw [hb] at hm
      obtain ⟨x, rfl, hMM⟩ := hm
      obtain ⟨dx', aw, aQ, aY, am, fu, qs, ys, hM⟩ := id hMM
      have B := wf.before hb
      obtain ⟨l1, l2⟩ := am_len B
      have ltx := B.tx.len
      have ek : ((Si50.step st .text).2.v :: (Si50.step st .text).2.l) = (1 + (b.parts.length : Int)) :: (Si50.textOut b.text ++ (amO b.first ++ amO b.second)) := by
        have e : (Si50.step st .text).2 = ⟨((b.parts.length + 1 : Nat) : Int), Si50.textOut b.text ++ (amO b.first ++ amO b.second)⟩ := by
          show (match st.before with
            | none => Si50.ok (-4)
            | some b => ⟨((b.parts.length + 1 : Nat) : Int), Si50.textOut b.text ++ ((match b.first with
                | some a => (1 : Int) :: (Si50.ints [a.i, a.j] ++ Si50.textOut a.words)
                | none => [0]) ++ (match b.second with
                | some a => (1 : Int) :: (Si50.ints [a.i, a.j] ++ Si50.textOut a.words)
                | none => [0]))⟩ : Si50.Ans) = _
          rw [hb]
          dsimp only
          cases b.first <;> cases b.second <;> rfl
        rw [e]
        show (((b.parts.length + 1 : Nat) : Int)) :: _ = _
        congr 1
        omega
      rw [ek] at k
      simp_arith [hB.o.2, T.C_Assembly.cl, n_Assembly_main T, sp_how_many_parts]
      refine ⟨b, R, hMM, smal (by decide), fun p1 h1 => ?_⟩
      have n1 : x ≠ p1 := ne_of_none hM.o.2 h1
      simp_arith [upd_ne n1, hM.o.2, T.C_MainMotion.cl, n_MainMotion_words T, sp_tell_words]
      have fA : Fa R H (setR R p1 .oth) (upd H p1 (.lst [V.int (1 + (b.parts.length : Int))])) := Fr_.new h1
      refine ⟨b.text, _, hM.w.fr fA trivial, by omega, fun R2 H2 r2 h2 f2 => ?_⟩
      have g1 := f2 _ _ _ trivial (At.made (R := R) (H := H) (a := p1) (t := .oth) (x := .lst [V.int (1 + (b.parts.length : Int))]))
      have hM2 := (hM.fr fA fun _ _ => trivial).fr f2 fun _ _ => trivial
      have k2 := (k.fa fA).fa f2
      simp_arith [g1.2, h2.2, List.length_map]
      have lt1 : (Si50.textOut b.text).length ≤ 130 := by
        unfold Si50.textOut Si50.ints
        rw [List.length_cons, List.length_map, List.length_map]
        omega
      refine ⟨smal (by omega), fun p3 h3 => ?_⟩
      have n3 : x ≠ p3 := ne_of_none hM2.o.2 h3
      have fC : Fa R2 H2 (setR R2 p3 .oth) (upd H2 p3 (.lst (V.int (1 + (b.parts.length : Int)) :: (Si50.textOut b.text).map V.int))) := Fr_.new h3
      have hM3 := hM2.fr fC fun _ _ => trivial
      have k3 := k2.fa fC
      have t3 : At (setR R2 p3 .oth) (upd H2 p3 (.lst (V.int (1 + (b.parts.length : Int)) :: (Si50.textOut b.text).map V.int))) p3 .oth (.lst (V.int (1 + (b.parts.length : Int)) :: (Si50.textOut b.text).map V.int)) := At.made
      generalize setR R2 p3 .oth = R3 at fC hM3 k3 t3
      generalize upd H2 p3 (.lst (V.int (1 + (b.parts.length : Int)) :: (Si50.textOut b.text).map V.int)) = H3 at fC hM3 k3 t3 ⊢
      simp_arith [hM3.o.2, T.C_MainMotion.cl, n_MainMotion_amendment T, sp_tell_amendment]
      refine ⟨b.first, R3, hM3.f, l1, fun R4 H4 r4 h4 f4 => ?_⟩
      have hM4 := hM3.fr f4 fun _ _ => trivial
      have k4 := k3.fa f4
      have t4 := f4 _ _ _ trivial t3
      simp_arith [t4.2, h4.2, List.length_map]
      have la1 := amO_len l1
      have la2 := amO_len l2
      refine ⟨smal (by omega), fun p5 h5 => ?_⟩
      have fE : Fa R4 H4 (setR R4 p5 .oth) (upd H4 p5 (.lst (V.int (1 + (b.parts.length : Int)) :: ((Si50.textOut b.text).map V.int ++ (amO b.first).map V.int)))) := Fr_.new h5
      have hM5 := hM4.fr fE fun _ _ => trivial
      have k5 := k4.fa fE
      have t5 : At (setR R4 p5 .oth) (upd H4 p5 (.lst (V.int (1 + (b.parts.length : Int)) :: ((Si50.textOut b.text).map V.int ++ (amO b.first).map V.int)))) p5 .oth (.lst (V.int (1 + (b.parts.length : Int)) :: ((Si50.textOut b.text).map V.int ++ (amO b.first).map V.int))) := At.made
      generalize setR R4 p5 .oth = R5 at fE hM5 k5 t5
      generalize upd H4 p5 (.lst (V.int (1 + (b.parts.length : Int)) :: ((Si50.textOut b.text).map V.int ++ (amO b.first).map V.int))) = H5 at fE hM5 k5 t5 ⊢
      simp_arith [hM5.o.2, T.C_MainMotion.cl, n_MainMotion_further_amendment T, sp_tell_amendment]
      refine ⟨b.second, R5, hM5.s, l2, fun R6 H6 r6 h6 f6 => ?_⟩
      have k6 := k5.fa f6
      have t6 := f6 _ _ _ trivial t5
      simp_arith [t6.2, h6.2, List.length_map]
      refine ⟨smal (by rw [List.length_append, List.length_map, List.length_map]; omega), fun p7 h7 => k6.new h7 ?_⟩
      rw [List.map_cons, List.map_append, List.map_append, List.append_assoc]
theorem ok_tell_asked : FnOk P w K mg base CX0 3 T.f_tell_asked.a T.f_tell_asked.d ["assembly"] (sp_tell T .asked) := by
  have G_asked_motion := ok_asked_motion (P := P) (w := w) (base := base) T
  have G_asked_sort := ok_asked_sort (P := P) (w := w) (base := base) T
  refine T.f_tell_asked.F.ok sc_tell_asked (fun vs H Q E h => ?_) (fun cdv A outer s H vs Q E hr h => ?_)
  · obtain ⟨_, _, _, _, rfl, _⟩ := h
    rfl
  · obtain ⟨p, st, n, R, rfl, hA, wf, hn, k⟩ := h
    obtain ⟨dx, aR, aW, aT, aM, mn, aO, aP, aV, aD, os, ps, vs', kvs, hB⟩ := id hA
    have hm := hB.b
    refine ⟨_, (pss_cons (ps_if (pt_cmpR op_isN (pe_fldK (K := K) (pv 0) rfl) pe_non (nomark _))
        (pss_one (ps_ret (pe_lst (pa_cons pe_int pa_nil))))
        pss_nil)
      (pss_cons (ps_set (i := 1) sc_tell_asked.nd rfl (Or.inl rfl) (pe_call (G_asked_motion.mono (by decide)) hr rfl T.f_asked_motion.g T.f_asked_motion.F.kp (b_asked_motion T) .nil pass0 (pa_cons (pe_fldK (K := K) (pv 0) rfl) pa_nil)))
      (pss_one (ps_ret (pe_lst (pa_cons (pe_call (G_asked_sort.mono (by decide)) hr rfl T.f_asked_sort.g T.f_asked_sort.F.kp (b_asked_sort T) .nil pass0 (pa_cons (pe_fldK (K := K) (pv 0) rfl) pa_nil)) (pa_cons (pv 1) (pa_cons (pe_ix ix_lst (pe_fldK (K := K) (pv 0) rfl) (pv 1) (fun _ _ => rfl)) pa_nil)))))))), ?_⟩
    cases hb : st.before with
    | none =>
      rw [hb] at hm
      obtain rfl : mn = .non := hm
      have ek : (Si50.step st .asked).2 = Si50.ok 0 := by
        show (match st.before with
          | none => Si50.ok 0
          | some b => ⟨(Si50.questionOut (Si50.asked b) : Int), Si50.ints [Si50.idOf b, (st.moved[Si50.idOf b]?).getD 0]⟩ : Si50.Ans) = _
        rw [hb]
      rw [ek] at k
      simp_arith [hB.o.2, T.C_Assembly.cl, n_Assembly_main T]
      exact ⟨smal (by decide), fun r hr0 => k.new hr0 rfl⟩
    | some b =>
      rw [hb] at hm
      obtain ⟨x, rfl, hMM⟩ := hm
      have hid := (wf.before hb).ids_lt _ SM.idOf_mem
      have hj := List.getElem?_eq_getElem hid
      generalize st.moved[Si50.idOf b] = j at hj
      have ek : (Si50.step st .asked).2 = ⟨(Si50.questionOut (Si50.asked b) : Int), Si50.ints [Si50.idOf b, j]⟩ := by
        show (match st.before with
          | none => Si50.ok 0
          | some b => ⟨(Si50.questionOut (Si50.asked b) : Int), Si50.ints [Si50.idOf b, (st.moved[Si50.idOf b]?).getD 0]⟩ : Si50.Ans) = _
        rw [hb]
        dsimp only
        rw [hj]
        rfl
      rw [ek] at k
      have ej : atI (mvs st) ((Si50.idOf b : Nat) : Int) = some (V.int (j : Int)) := by
        refine atI_nat ?_
        unfold mvs nl
        rw [List.getElem?_map, hj]
        rfl
      simp_arith [hB.o.2, T.C_Assembly.cl, n_Assembly_main T, sp_asked_motion]
      refine ⟨b, R, hMM, ?_⟩
      simp_arith [sp_asked_sort]
      refine ⟨b, R, hMM, ?_⟩
      simp_arith [hB.o.2, hB.m.2, T.C_Assembly.cl, n_Assembly_movers T, ej]
      exact ⟨smal (by decide), fun r hr0 => k.new hr0 rfl⟩
end
end My

end

section
set_option Elab.async false
set_option linter.all false
set_option maxRecDepth 100000
set_option maxHeartbeats 4000000
namespace My
open PySem PySem.Spec PyProof.Rows L2
section
variable {P : Program} {w : World} {K : PySem.W.Frag} {mg : Str → Option Value} {base : Heap} (T : Tx K mg)
def sp_tell_passed : Sp := fun vs H Q _ => ∃ (p : Addr) (y : Int) (s : Si50.St) (n : Nat) (R : Rg), vs = [.ref p, .int y] ∧ Asm T R H p s ∧ SM.WF n s ∧ n ≤ 100 ∧ 0 ≤ y ∧ Tells R H Q ((Si50.step s (.passed y.toNat)).2.v :: (Si50.step s (.passed y.toNat)).2.l)
theorem ok_tell_passed : FnOk P w K mg base CX0 2 T.f_tell_passed.a T.f_tell_passed.d ["assembly", "text"] (sp_tell_passed T) := by
  have G_tell_words := ok_tell_words (P := P) (w := w) (base := base) T
  refine T.f_tell_passed.F.ok sc_tell_passed (fun vs H Q E h => ?_) (fun cdv A outer s H vs Q E hr h => ?_)
  · obtain ⟨_, _, _, _, _, rfl, _⟩ := h
    rfl
  · obtain ⟨p, y, st, n, R, rfl, hA, wf, hn, hy, k⟩ := h
    obtain ⟨dx, aR, aW, aT, aM, mn, aO, aP, aV, aD, os, ps, vs', kvs, hB⟩ := id hA
    refine ⟨_, (pss_cons (ps_if (pt_cmpR op_ge (pv 1) (pe_callB call_lenL (by rfl) T.b_len PySem.boot_len (pa_cons (pe_fldK (K := K) (pv 0) rfl) pa_nil)) (nomark _))
        (pss_one (ps_ret (pe_lst (pa_cons (pe_gl T.k_NOTHING_SUCH) pa_nil))))
        pss_nil)
      (pss_one (ps_ret (pe_call (G_tell_words.mono (by decide)) hr rfl T.f_tell_words.g T.f_tell_words.F.kp (b_tell_words T) .nil pass0 (pa_cons (pe_fldK (K := K) (pe_ix ix_lst (pe_fldK (K := K) (pv 0) rfl) (pv 1) (fun _ _ => rfl)) rfl) pa_nil))))), ?_⟩
    have hlen := pd_len hB.pp
    cases hp : st.passed[y.toNat]? with
    | none =>
      have hle := List.getElem?_eq_none_iff.mp hp
      have ek : (Si50.step st (.passed y.toNat)).2 = Si50.ok (-6) := by
        show (match st.passed[y.toNat]? with
          | none => Si50.ok (-6)
          | some t => ⟨(t.text.length : Int), Si50.ints (t.text.map fun x => x.word)⟩ : Si50.Ans) = _
        rw [hp]
      rw [ek] at k
      have c : ((ps.length : Nat) : Int) ≤ y := by omega
      simp_arith [hB.o.2, hB.p.2, T.C_Assembly.cl, n_Assembly_passed T, c]
      exact ⟨smal (by decide), fun r hr0 => k.new hr0 rfl⟩
    | some t =>
      have hlt := (List.getElem?_eq_some_iff.mp hp).1
      have ek : (Si50.step st (.passed y.toNat)).2 = ⟨(t.text.length : Int), Si50.ints (t.text.map fun x => x.word)⟩ := by
        show (match st.passed[y.toNat]? with
          | none => Si50.ok (-6)
          | some t => ⟨(t.text.length : Int), Si50.ints (t.text.map fun x => x.word)⟩ : Si50.Ans) = _
        rw [hp]
      rw [ek] at k
      have c : ¬ ((ps.length : Nat) : Int) ≤ y := by omega
      obtain ⟨v, hv, x, dx', aw, vl, u, rfl, h1, h2, h3, h4⟩ := pd_at hB.pp hp
      have ei := at_of (z := y) (by omega) hv
      simp_arith [hB.o.2, hB.p.2, T.C_Assembly.cl, n_Assembly_passed T, c, ei, h1.2, T.C_PassedText.cl, n_PassedText_words T, sp_tell_words]
      have := (wf.ps t (List.mem_of_getElem? hp)).2.2.len
      exact ⟨t.text, R, h2, by omega, k⟩
def sp_voters_for : Sp := fun vs H Q _ => ∃ (p q z d1 d2 aw vl : Addr) (t : Si50.Passed) (x : Si50.Token) (yes : List Nat) (s : Si50.St) (R : Rg), vs = [.ref p, .ref q, .ref z] ∧ Asm T R H p s ∧ H q = some (.ins T.C_PassedText.c d1 (psF (.int (t.id : Int)) (.ref aw) (.ref vl))) ∧
  H z = some (.ins T.C_Word.c d2 (wdF (.int (x.word : Int)) (.int (x.by_ : Int)))) ∧ (x.by_ = t.id → At R H vl .oth (.lst (nl yes))) ∧ (x.by_ ≠ t.id → ∃ u, SM.fnd s.votes x.by_ = some u ∧ SM.IsAm u ∧ u.yes = yes) ∧ ∀ r, At R H r .oth (.lst (nl yes)) → Q (.ref r) H
theorem ok_voters_for : FnOk P w K mg base CX0 1 T.f_voters_for.a T.f_voters_for.d ["assembly", "passed", "word"] (sp_voters_for T) := by
  refine T.f_voters_for.F.ok sc_voters_for (fun vs H Q E h => ?_) (fun cdv A outer s H vs Q E hr h => ?_)
  · obtain ⟨_, _, _, _, _, _, _, _, _, _, _, _, rfl, _⟩ := h
    rfl
  · obtain ⟨p, q, z, d1, d2, aw, vl, t, x, yes, st, R, rfl, hA, hq, hz, g1, g2, k⟩ := h
    obtain ⟨dx, aR, aW, aT, aM, mn, aO, aP, aV, aD, os, ps, vs', kvs, hB⟩ := id hA
    refine ⟨_, (pss_cons (ps_if (pt_cmpR op_eq (pe_fldK (K := K) (pv 2) rfl) (pe_fldK (K := K) (pv 1) rfl) (nomark _))
        (pss_one (ps_ret (pe_fldK (K := K) (pv 1) rfl)))
        pss_nil)
      (pss_one (ps_ret (pe_dget (hu_of hr) (pe_fldK (K := K) (pv 0) rfl) (pe_fldK (K := K) (pv 2) rfl) (fun _ _ => rfl))))), ?_⟩
    by_cases c : x.by_ = t.id
    · have c2 : (x.by_ : Int) = (t.id : Int) := by omega
      simp_arith [hq, hz, T.C_PassedText.cl, T.C_Word.cl, n_PassedText_motion T, n_PassedText_voters T, n_Word_motion T, c2]
      exact k _ (g1 c)
    · have c2 : ¬ (x.by_ : Int) = (t.id : Int) := by omega
      obtain ⟨u, e1, e2, e3⟩ := g2 c
      obtain ⟨r, e4, e5⟩ := hB.dd _ _ e1 e2
      simp_arith [hB.o.2, T.C_Assembly.cl, n_Assembly_amendment_voters T, hq, hz, T.C_PassedText.cl, T.C_Word.cl, n_PassedText_motion T, n_PassedText_voters T, n_Word_motion T, c2]
      have g := DGet.k (k := Sum.inl (x.by_ : Int)) hB.d.2
      rw [e4] at g
      rw [e3] at e5
      exact ⟨_, g, k r e5⟩
theorem fnd_eq (votes : List Si50.Vote) (i : Nat) : (votes.find? fun v => v.id == i && v.carried) = SM.fnd votes i := rfl
def sp_tell_who : Sp := fun vs H Q _ => ∃ (p : Addr) (y i : Int) (s : Si50.St) (n : Nat) (R : Rg), vs = [.ref p, .int y, .int i] ∧ Asm T R H p s ∧ SM.WF n s ∧ SM.VF s ∧ n ≤ 100 ∧ 0 ≤ y ∧ 0 ≤ i ∧ Tells R H Q ((Si50.step s (.who y.toNat i.toNat)).2.v :: (Si50.step s (.who y.toNat i.toNat)).2.l)
theorem ok_tell_who : FnOk P w K mg base CX0 2 T.f_tell_who.a T.f_tell_who.d ["assembly", "text", "place"] (sp_tell_who T) := by
  have G_voters_for := ok_voters_for (P := P) (w := w) (base := base) T
  refine T.f_tell_who.F.ok sc_tell_who (fun vs H Q E h => ?_) (fun cdv A outer s H vs Q E hr h => ?_)
  · obtain ⟨_, _, _, _, _, _, rfl, _⟩ := h
    rfl
  · obtain ⟨p, y, i, st, n, R, rfl, hA, wf, vf, hn, hy, hi, k⟩ := h
    obtain ⟨dx, aR, aW, aT, aM, mn, aO, aP, aV, aD, os, ps, vs', kvs, hB⟩ := id hA
    refine ⟨_, (pss_cons (ps_if (pt_cmpR op_ge (pv 1) (pe_callB call_lenL (by rfl) T.b_len PySem.boot_len (pa_cons (pe_fldK (K := K) (pv 0) rfl) pa_nil)) (nomark _))
        (pss_one (ps_ret (pe_lst (pa_cons (pe_gl T.k_NOTHING_SUCH) pa_nil))))
        pss_nil)
      (pss_cons (ps_set (i := 3) sc_tell_who.nd rfl (Or.inl rfl) (pe_ix ix_lst (pe_fldK (K := K) (pv 0) rfl) (pv 1) (fun _ _ => rfl)))
      (pss_cons (ps_if (pt_cmpR op_ge (pv 2) (pe_callB call_lenL (by rfl) T.b_len PySem.boot_len (pa_cons (pe_fldK (K := K) (pv 3) rfl) pa_nil)) (nomark _))
        (pss_one (ps_ret (pe_lst (pa_cons (pe_gl T.k_NOTHING_SUCH) pa_nil))))
        pss_nil)
      (pss_cons (ps_set (i := 4) sc_tell_who.nd rfl (Or.inl rfl) (pe_ix ix_lst (pe_fldK (K := K) (pv 3) rfl) (pv 2) (fun _ _ => rfl)))
      (pss_one (ps_ret (pe_op op_cat (pe_lst (pa_cons (pe_fldK (K := K) (pv 4) rfl) (pa_cons (pe_ix ix_lst (pe_fldK (K := K) (pv 0) rfl) (pe_fldK (K := K) (pv 4) rfl) (fun _ _ => rfl)) pa_nil))) (pe_call (G_voters_for.mono (by decide)) hr rfl T.f_voters_for.g T.f_voters_for.F.kp (b_voters_for T) .nil pass0 (pa_cons (pv 0) (pa_cons (pv 3) (pa_cons (pv 4) pa_nil))))))))))), ?_⟩
    have hlen := pd_len hB.pp
    have es : (Si50.step st (.who y.toNat i.toNat)).2 = (match (st.passed[y.toNat]?).bind fun t => (t.text[i.toNat]?).map fun x => (t, x) with
          | none => Si50.ok (-6)
          | some x => ⟨(x.2.by_ : Int), Si50.ints ((st.moved[x.2.by_]?).getD 0 :: ((Si50.voteFor st x.1 x.2).map fun v => v.yes).getD [])⟩) := rfl
    cases hp : st.passed[y.toNat]? with
    | none =>
      have hle := List.getElem?_eq_none_iff.mp hp
      rw [hp] at es
      have ek : (Si50.step st (.who y.toNat i.toNat)).2 = Si50.ok (-6) := es
      rw [ek] at k
      have c : ((ps.length : Nat) : Int) ≤ y := by omega
      simp_arith [hB.o.2, hB.p.2, T.C_Assembly.cl, n_Assembly_passed T, c]
      exact ⟨smal (by decide), fun r hr0 => k.new hr0 rfl⟩
    | some t =>
      have hlt := (List.getElem?_eq_some_iff.mp hp).1
      have c : ¬ ((ps.length : Nat) : Int) ≤ y := by omega
      obtain ⟨v, hv, x, dx', aw, vl, u, rfl, h1, ⟨ws, h2, h22⟩, h3, h4⟩ := pd_at hB.pp hp
      have ei := at_of (z := y) (by omega) hv
      have wlen := pd_len h22
      simp_arith [hB.o.2, hB.p.2, T.C_Assembly.cl, n_Assembly_passed T, c, ei, h1.2, h2.2, T.C_PassedText.cl, n_PassedText_words T]
      rw [hp] at es
      cases ht : t.text[i.toNat]? with
      | none =>
        have hle := List.getElem?_eq_none_iff.mp ht
        have ek : (Si50.step st (.who y.toNat i.toNat)).2 = Si50.ok (-6) := by
          rw [es]
          show (match ((t.text[i.toNat]?).map fun x => (t, x)) with
            | none => Si50.ok (-6)
            | some x => _ : Si50.Ans) = _
          rw [ht]
          rfl
        rw [ek] at k
        have c2 : ((ws.length : Nat) : Int) ≤ i := by omega
        simp_arith [c2]
        exact ⟨smal (by decide), fun r hr0 => k.new hr0 rfl⟩
      | some tk =>
        have hlt2 := (List.getElem?_eq_some_iff.mp ht).1
        have c2 : ¬ ((ws.length : Nat) : Int) ≤ i := by omega
        obtain ⟨v2, hv2, z, dz, rfl, hz⟩ := pd_at h22 ht
        have ei2 := at_of (z := i) (by omega) hv2
        have W := wf.ps t (List.mem_of_getElem? hp)
        have hby := W.2.2.lt tk (List.mem_of_getElem? ht)
        have hj := List.getElem?_eq_getElem hby
        generalize st.moved[tk.by_] = j at hj
        have ek : (Si50.step st (.who y.toNat i.toNat)).2 = ⟨(tk.by_ : Int), Si50.ints (j :: ((Si50.voteFor st t tk).map fun v => v.yes).getD [])⟩ := by
          rw [es]
          show (match ((t.text[i.toNat]?).map fun x => (t, x)) with
            | none => Si50.ok (-6)
            | some x => ⟨(x.2.by_ : Int), Si50.ints ((st.moved[x.2.by_]?).getD 0 :: ((Si50.voteFor st x.1 x.2).map fun v => v.yes).getD [])⟩ : Si50.Ans) = _
          rw [ht]
          show (⟨(tk.by_ : Int), Si50.ints ((st.moved[tk.by_]?).getD 0 :: ((Si50.voteFor st t tk).map fun v => v.yes).getD [])⟩ : Si50.Ans) = _
          rw [hj]
          rfl
        rw [ek] at k
        have ej : atI (mvs st) ((tk.by_ : Nat) : Int) = some (V.int (j : Int)) := by
          refine atI_nat ?_
          unfold mvs nl
          rw [List.getElem?_map, hj]
          rfl
        simp_arith [c2, ei2, hz.2, hB.m.2, T.C_Word.cl, n_Word_motion T, n_Assembly_movers T, ej]
        refine ⟨smal (by decide), fun p1 h5 => ?_⟩
        have n1 : x ≠ p1 := ne_of_none h1.2 h5
        have n2 : z ≠ p1 := ne_of_none hz.2 h5
        have fA : Fa R H (setR R p1 .oth) (upd H p1 (.lst [V.int (tk.by_ : Int), V.int (j : Int)])) := Fr_.new h5
        have tA : At (setR R p1 .oth) (upd H p1 (.lst [V.int (tk.by_ : Int), V.int (j : Int)])) p1 .oth (.lst [V.int (tk.by_ : Int), V.int (j : Int)]) := At.made
        have kA := k.fa fA
        generalize setR R p1 .oth = R1 at fA tA kA
        generalize upd H p1 (.lst [V.int (tk.by_ : Int), V.int (j : Int)]) = H1 at fA tA kA ⊢
        simp_arith [sp_voters_for]
        have hyl : (((Si50.voteFor st t tk).map fun v => v.yes).getD []).length ≤ 40 ∧ (tk.by_ = t.id → u.yes = ((Si50.voteFor st t tk).map fun v => v.yes).getD []) ∧ (tk.by_ ≠ t.id → ∃ u, SM.fnd st.votes tk.by_ = some u ∧ SM.IsAm u ∧ u.yes = ((Si50.voteFor st t tk).map fun v => v.yes).getD []) := by
          unfold Si50.voteFor
          by_cases d : tk.by_ = t.id
          · rw [if_pos d, h3]
            exact ⟨(wf.vt u (List.mem_of_getElem? h3)).2, fun _ => rfl, fun z => absurd d z⟩
          · rw [if_neg d, fnd_eq]
            obtain ⟨u2, e1, e2⟩ := ((vf.ps t (List.mem_of_getElem? hp)) tk (List.mem_of_getElem? ht)).resolve_left d
            rw [e1]
            exact ⟨(wf.vt u2 (List.mem_of_find?_eq_some e1)).2, fun z => absurd z d, fun _ => ⟨u2, rfl, e2, rfl⟩⟩
        obtain ⟨yl, y1, y2⟩ := hyl
        generalize (((Si50.voteFor st t tk).map fun v => v.yes).getD []) = yes at yl y1 y2 kA
        have g1 := fA _ _ _ trivial h4
        refine ⟨dx', dz, aw, vl, t, tk, yes, st, R1, hA.fa fA, (fA _ _ _ trivial h1).2, (fA _ _ _ trivial hz).2, fun e => by rw [← y1 e]; exact g1, y2, fun r hr' => ?_⟩
        simp_arith [tA.2, hr'.2, nl_len]
        refine ⟨smal (by omega), fun r2 hr2 => kA.new hr2 ?_⟩
        unfold Si50.ints nl
        rw [List.map_cons, List.map_map]
        rfl
def vOut (l : List Si50.Vote) : List Int := l.flatMap fun v => Si50.ints [v.id, Si50.questionOut v.question, if v.carried = true then 1 else 0]
theorem vOut_len : ∀ (l : List Si50.Vote) (i : Nat), l.length ≤ i → (vOut l).length ≤ 3 * i
  | [], i, _ => Nat.zero_le _
  | u :: l, 0, h => absurd h (by simp)
  | u :: l, i + 1, h => by
    have := vOut_len l i (by rw [List.length_cons] at h; omega)
    unfold vOut at this ⊢
    rw [List.flatMap_cons, List.length_append]
    have e : (Si50.ints [u.id, Si50.questionOut u.question, if u.carried = true then 1 else 0]).length = 3 := rfl
    rw [e]
    omega
theorem vOut_one (u : Si50.Vote) : [V.int (u.id : Int), V.int (Si50.questionOut u.question : Int), V.int (if u.carried = true then 1 else 0)] = (vOut [u]).map V.int := by
  obtain ⟨q, i, y, n, c⟩ := u
  cases c <;> rfl
theorem ok_tell_votes : FnOk P w K mg base CX0 1 T.f_tell_votes.a T.f_tell_votes.d ["assembly"] (sp_tell T .votes) := by
  refine T.f_tell_votes.F.ok sc_tell_votes (fun vs H Q E h => ?_) (fun cdv A outer s H vs Q E hr h => ?_)
  · obtain ⟨_, _, _, _, rfl, _⟩ := h
    rfl
  · obtain ⟨p, st, n, R, rfl, hA, wf, hn, k⟩ := h
    obtain ⟨dx, aR, aW, aT, aM, mn, aO, aP, aV, aD, os, ps, vs', kvs, hB⟩ := id hA
    refine ⟨_, (pss_cons (ps_set (i := 1) sc_tell_votes.nd rfl (Or.inl rfl) (pe_lst (pa_cons (pe_callB call_lenL (by rfl) T.b_len PySem.boot_len (pa_cons (pe_fldK (K := K) (pv 0) rfl) pa_nil)) pa_nil)))
      (pss_cons (ps_for PassesOwn.never rfl (pi_list (pe_fldK (K := K) (pv 0) rfl)) (pg_name (i := 2) sc_tell_votes.nd rfl (Or.inl rfl))
        (pss_one (ps_expr (pe_lm PySem.F.slot_list_extend PySem.F.type_list_extend mt_extend (pv 1) (pa_cons (pe_lst (pa_cons (pe_fldK (K := K) (pv 2) rfl) (pa_cons (pe_fldK (K := K) (pv 2) rfl) (pa_cons (pe_fldK (K := K) (pv 2) rfl) pa_nil)))) pa_nil)))))
      (pss_one (ps_ret (pv 1))))), ?_⟩
    have hlen := pd_len hB.vv
    have hvn := wf.vn
    simp_arith [hB.o.2, hB.v.2, T.C_Assembly.cl, n_Assembly_votes T, hlen]
    refine ⟨smal (by decide), fun D hD => ?_⟩
    have n1 : p ≠ D := ne_of_none hB.o.2 hD
    have n2 : aV ≠ D := ne_of_none hB.v.2 hD
    have hD1 : upd H D (.lst [V.int (st.votes.length : Int)]) p = H p := upd_ne n1
    rw [hB.o.2] at hD1
    have hD2 : upd H D (.lst [V.int (st.votes.length : Int)]) aV = H aV := upd_ne n2
    rw [hB.v.2] at hD2
    have ek : ((Si50.step st .votes).2.v :: (Si50.step st .votes).2.l) = (st.votes.length : Int) :: vOut st.votes := rfl
    rw [ek] at k
    refine ⟨_, rfl, p, _, _, _, _, rfl, hD1, T.C_Assembly.cl, n_Assembly_votes T, rfl, aV, rfl, ⟨_, SqL.of hD2⟩, for_list (K := K) (a := aV) (xs := vs') (fun i σ H' => ∃ R' v, σ = [some (.ref p), some (.ref D), v] ∧ At R' H' D (.mut 99 0) (.lst (((st.votes.length : Int) :: vOut (st.votes.take i)).map V.int)) ∧ Fa R H R' H') ⟨setR R D (.mut 99 0), none, rfl, At.made, Fr_.new hD⟩ ?_ ?_ ?_⟩
    · rintro i σ H' _ ⟨R', v, _, _, h3⟩
      exact SqL.of (h3 _ _ _ trivial hB.v).2
    · rintro i x σ H' hi ⟨R', v, rfl, h2, h3⟩
      have hil : i < st.votes.length := by rw [← hlen]; exact (List.getElem?_eq_some_iff.mp hi).1
      have hu := List.getElem?_eq_getElem hil
      generalize st.votes[i] = u at hu
      obtain ⟨x', hx', y, dy, rfl, hy⟩ := pd_at hB.vv hu
      rw [hi] at hx'
      have ex := Option.some.inj hx'
      subst ex
      have hy1 := h3 _ _ _ trivial hy
      simp_arith [h2.2, hy1.2, T.C_Vote.cl, n_Vote_motion T, n_Vote_asked T, n_Vote_carried T]
      refine ⟨smal (by decide), fun q hq => ?_⟩
      have m1 : D ≠ q := ne_of_none h2.2 hq
      have fB : Fa R' H' (setR R' q .oth) (upd H' q (.lst [V.int (u.id : Int), V.int (Si50.questionOut u.question : Int), V.int (if u.carried = true then 1 else 0)])) := Fr_.new hq
      have h4 := fB _ _ _ trivial h2
      simp_arith [upd_ne m1, h2.2]
      have vl : (vOut (st.votes.take i)).length ≤ 3 * i := vOut_len _ _ (by rw [List.length_take]; omega)
      refine ⟨smal (by rw [List.length_map]; omega), setR R' q .oth, ?_, fun c t o _ hc => ?_⟩
      · have e : V.int (st.votes.length : Int) :: (List.map V.int (vOut (st.votes.take i)) ++ [V.int (u.id : Int), V.int (Si50.questionOut u.question : Int), V.int (if u.carried = true then 1 else 0)]) = V.int (st.votes.length : Int) :: List.map V.int (vOut (st.votes.take (i + 1))) := by
          rw [vOut_one, take_snoc hu]
          unfold vOut
          rw [List.flatMap_append, List.map_append]
        rw [← e]
        exact At.self h4.1
      · have z := fB _ _ _ trivial (h3 c t o trivial hc)
        exact ⟨z.1, by rw [upd_ne (ne_of_none hc.2 hD)]; exact z.2⟩
    · rintro σ H' ⟨R', v, rfl, h2, h3⟩
      rw [hlen, List.take_length] at h2
      simp_arith [*]
      refine k (setR R' D .oth) H' D ⟨setR_same, h2.2⟩ fun c t o _ hc => ?_
      have z := h3 c t o trivial hc
      exact ⟨by rw [setR_ne (ne_of_none hc.2 hD)]; exact z.1, z.2⟩
end
end My

end

section
set_option Elab.async false
set_option linter.all false
set_option maxRecDepth 100000
set_option maxHeartbeats 4000000
namespace My
open PySem PySem.Spec PyProof.Rows L2
section
variable {P : Program} {w : World} {K : PySem.W.Frag} {mg : Str → Option Value} {base : Heap} (T : Tx K mg)
theorem DicOk.no {R : Rg} {H : Hp} {kvs : List (Key × V)} {votes : List Si50.Vote} {u : Si50.Vote} (h : DicOk R H kvs votes) (hn : ¬ (SM.IsAm u ∧ u.carried = true)) : DicOk R H kvs (votes ++ [u]) := fun i v h1 h2 => by
  rw [SM.fnd_snoc] at h1
  cases e : SM.fnd votes i with
  | some v' =>
    rw [e] at h1
    have : v' = v := Option.some.inj h1
    subst this
    exact h i v' e h2
  | none =>
    rw [e] at h1
    by_cases c : (u.id == i && u.carried) = true
    · have h1 : (if (u.id == i && u.carried) = true then some u else none) = some v := h1
      rw [if_pos c] at h1
      have : u = v := Option.some.inj h1
      subst this
      rw [Bool.and_eq_true] at c
      exact absurd ⟨h2, c.2⟩ hn
    · have h1 : (if (u.id == i && u.carried) = true then some u else none) = some v := h1
      rw [if_neg c] at h1
      cases h1
theorem DicOk.yes {R : Rg} {H : Hp} {kvs : List (Key × V)} {votes : List Si50.Vote} {u : Si50.Vote} {a : Addr} (h : DicOk R H kvs votes) (hf : ∀ v, v ∈ votes → v.id ≠ u.id) (hc : u.carried = true) (ha : At R H a .oth (.lst (nl u.yes))) : DicOk R H (putK kvs (Sum.inl (u.id : Int)) (.ref a)) (votes ++ [u]) := fun i v h1 h2 => by
  rw [valV_put]
  by_cases e : i = u.id
  · subst e
    rw [SM.fnd_new hf hc] at h1
    have : u = v := Option.some.inj h1
    subst this
    exact ⟨a, if_pos rfl, ha⟩
  · have en : ¬ (Sum.inl (i : Int) : Key) = Sum.inl (u.id : Int) := fun z => e (by have := Sum.inl.inj z; omega)
    rw [if_neg en]
    rw [SM.fnd_snoc, if_neg (by rw [Bool.and_eq_true, beq_iff_eq]; exact fun z => e z.1.symm)] at h1
    have h1 : SM.fnd votes i = some v := by
      cases q : SM.fnd votes i with
      | none => rw [q] at h1; cases h1
      | some v' => rw [q] at h1; exact h1
    exact h i v h1 h2
variable {T} in
theorem AsmX.dv {R : Rg} {H : Hp} {p : Addr} {s : Si50.St} {dv dv' : List Si50.Vote} (h : AsmX T R H p s dv) (hl : dv.length ≤ dv'.length) (hd : ∀ kvs, DicOk R H kvs dv → DicOk R H kvs dv') : AsmX T R H p s dv' := by
  obtain ⟨dx, aR, aW, aT, aM, mn, aO, aP, aV, aD, os, ps, vs', kvs, h⟩ := h
  exact ⟨dx, aR, aW, aT, aM, mn, aO, aP, aV, aD, os, ps, vs', kvs, h.o, h.r, h.w, h.t, h.m, h.b, h.f, h.ff, h.p, h.pp, h.v, h.vv, h.d, Nat.le_trans h.dl hl, hd _ h.dd⟩
abbrev vt (b : Si50.Before) (y no : List Nat) (ok : Bool) : Si50.Vote := ⟨Si50.asked b, Si50.idOf b, y, no, ok⟩
def sp_carry (only : Si50.Before → Prop) : Sp := fun vs H Q _ => ∃ (p a : Addr) (s : Si50.St) (b : Si50.Before) (y no : List Nat) (n : Nat) (R : Rg), vs = [.ref p, .ref a] ∧ AsmX T R H p { s with votes := s.votes ++ [vt b y no true] } s.votes ∧ s.before = some b ∧ SM.WF n s ∧ SM.VF s ∧ n ≤ 100 ∧ only b ∧ At R H a .oth (.lst (nl y)) ∧
  ∀ R' H', Asm T R' H' p { Si50.decide_ s b true with votes := s.votes ++ [vt b y no true] } → Kp R H R' H' → Q .non H'
def stays (b : Si50.Before) : Prop := ∀ p, Si50.asked b = .proc p → p = .close
theorem nd_same {s : Si50.St} {b b' : Si50.Before} {v : List Si50.Vote} (hb : s.before = some b) (h : Nd s) (e : SM.ids b' = SM.ids b) : Nd { s with before := some b', votes := v } := by
  unfold Nd at h ⊢
  rw [SM.pend_some hb, List.flatMap_cons] at h
  show (([b'] ++ s.tabled).flatMap SM.ids).Nodup
  rw [List.singleton_append, List.flatMap_cons, e]
  exact h
theorem ok_carry_in_place : FnOk P w K mg base CX0 3 T.f_carry_in_place.a T.f_carry_in_place.d ["assembly", "voters"] (sp_carry T stays) := by
  have G_asked_sort := ok_asked_sort (P := P) (w := w) (base := base) T
  have G_drop_asked := ok_drop_asked (P := P) (w := w) (base := base) T
  have G_amended := ok_amended (P := P) (w := w) (base := base) T
  have G_asked_motion := ok_asked_motion (P := P) (w := w) (base := base) T
  have G_PassedText_init := ok_PassedText_init (P := P) (w := w) (base := base) T
  refine T.f_carry_in_place.F.ok sc_carry_in_place (fun vs H Q E h => ?_) (fun cdv A outer s H vs Q E hr h => ?_)
  · obtain ⟨_, _, _, _, _, _, _, _, rfl, _⟩ := h
    rfl
  · obtain ⟨p, a, st, b, y, no, n, R, rfl, hA, hb, wf, vf, hn, hst, ha, k⟩ := h
    obtain ⟨dx, aR, aW, aT, aM, mn, aO, aP, aV, aD, os, ps, vs', kvs, hB⟩ := id hA
    have hb1 : ({ st with votes := st.votes ++ [vt b y no true] } : Si50.St).before = some b := hb
    have hm := hB.b
    rw [hb1] at hm
    obtain ⟨x, rfl, hMM⟩ := hm
    obtain ⟨dx', aw, aQ, aY, am, fu, qs, ys, hM⟩ := id hMM
    have B := wf.before hb
    have V := vf.cur hb
    have nd1 : Nd { st with votes := st.votes ++ [vt b y no true] } := wf.nd
    have le1 : st.votes.length ≤ (st.votes ++ [vt b y no true]).length := by rw [List.length_append]; omega
    refine ⟨_, (pss_cons (ps_set (i := 2) sc_carry_in_place.nd rfl (Or.inl rfl) (pe_fldK (K := K) (pv 0) rfl))
      (pss_cons (ps_set (i := 3) sc_carry_in_place.nd rfl (Or.inl rfl) (pe_call (G_asked_sort.mono (by decide)) hr rfl T.f_asked_sort.g T.f_asked_sort.F.kp (b_asked_sort T) .nil pass0 (pa_cons (pv 2) pa_nil)))
      (pss_cons (ps_if (pt_cmpR op_eq (pv 3) (pe_gl T.k_CLOSE) (nomark _))
        (pss_one (ps_fld (pv 2) pe_bl rfl))
        (pss_one (ps_if (pt_cmpR op_eq (pv 3) (pe_gl T.k_FURTHER_AMENDMENT) (nomark _))
            (pss_cons (ps_set (i := 4) sc_carry_in_place.nd rfl (Or.inl rfl) (pe_fldK (K := K) (pv 2) rfl))
              (pss_cons (ps_dput (hu_of hr) (pe_fldK (K := K) (pv 0) rfl) (pe_call (G_asked_motion.mono (by decide)) hr rfl T.f_asked_motion.g T.f_asked_motion.F.kp (b_asked_motion T) .nil pass0 (pa_cons (pv 2) pa_nil)) (pv 1) rfl)
              (pss_one (ps_fld (pv 4) (pe_call (G_amended.mono (by decide)) hr rfl T.f_amended.g T.f_amended.F.kp (b_amended T) .nil pass0 (pa_cons (pe_fldK (K := K) (pv 4) rfl) (pa_cons (pe_fldK (K := K) (pv 2) rfl) pa_nil))) rfl))))
            (pss_one (ps_if (pt_cmpR op_eq (pv 3) (pe_gl T.k_AMENDMENT) (nomark _))
                (pss_cons (ps_dput (hu_of hr) (pe_fldK (K := K) (pv 0) rfl) (pe_call (G_asked_motion.mono (by decide)) hr rfl T.f_asked_motion.g T.f_asked_motion.F.kp (b_asked_motion T) .nil pass0 (pa_cons (pv 2) pa_nil)) (pv 1) rfl)
                  (pss_one (ps_fld (pv 2) (pe_call (G_amended.mono (by decide)) hr rfl T.f_amended.g T.f_amended.F.kp (b_amended T) .nil pass0 (pa_cons (pe_fldK (K := K) (pv 2) rfl) (pa_cons (pe_fldK (K := K) (pv 2) rfl) pa_nil))) rfl)))
                (pss_one (ps_expr (pe_lm PySem.F.slot_list_append PySem.F.type_list_append mt_append (pe_fldK (K := K) (pv 0) rfl) (pa_cons (pe_make T.C_PassedText.mk_ (G_PassedText_init.mono (by decide)) hr rfl T.C_PassedText.gc (b_PassedText_init T) .nil pass0 (pa_cons (pe_fldK (K := K) (pv 2) rfl) (pa_cons (pe_fldK (K := K) (pv 2) rfl) (pa_cons (pv 1) pa_nil)))) pa_nil)))))))))
      (pss_one (ps_expr (pe_call (G_drop_asked.mono (by decide)) hr rfl T.f_drop_asked.g T.f_drop_asked.F.kp (b_drop_asked T) .nil pass0 (pa_cons (pv 0) pa_nil))))))), ?_⟩
    simp_arith [hB.o.2, T.C_Assembly.cl, n_Assembly_main T, sp_asked_sort]
    refine ⟨b, R, hMM, ?_⟩
    rcases SM.asked_cases b with ⟨q, r, e1, e2, e3⟩ | ⟨e1, c, e2, e3, e4⟩ | ⟨e1, e2, c, e3, e4, e5⟩ | ⟨e1, e2, e3, e4, e5⟩
    · have ec := hst _ e2
      rw [ec] at e2
      have hq : ((Si50.questionOut (Si50.asked b) : Nat) : Int) = 5 := by rw [e2]; rfl
      rw [hq]
      simp_arith [hM.o.2, T.C_MainMotion.cl, n_MainMotion_closed T, sp_drop_asked]
      have f1 : Fr_ (fun t => t ≠ .mut 8 b.id) R H R (upd H x (.ins T.C_MainMotion.c dx' (mmF (.int (b.id : Int)) (.ref aw) (.ref aQ) am fu (.ref aY) (.bl true)))) := Fr_.put hM.o.1
      obtain ⟨g1, g2, g3, g4, g5, g6, g7, g8⟩ := hM.part f1 (by decide)
      have k1 := f1.kpm
      have B1 : AsmC T R (upd H x (.ins T.C_MainMotion.c dx' (mmF (.int (b.id : Int)) (.ref aw) (.ref aQ) am fu (.ref aY) (.bl true)))) p { st with before := some { b with closed := true }, votes := st.votes ++ [vt b y no true] } st.votes dx aR aW aT aM (.ref x) aO aP aV aD os ps vs' kvs :=
        hB.inner hb1 nd1 (fr_mine hM.o.1 (.inl rfl)) ⟨x, rfl, dx', aw, aQ, aY, am, fu, qs, ys, At.self hM.o.1, g2, g3 (by decide), g4, g5 (by decide), g6, g7, g8⟩
      refine ⟨_, _, _, R, ⟨dx, aR, aW, aT, aM, .ref x, aO, aP, aV, aD, os, ps, vs', kvs, B1⟩, rfl, nd_same hb wf.nd rfl, fun R' H' h1 h2 => ?_⟩
      refine k R' H' ?_ (k1.trans h2)
      have ed : ({ Si50.decide_ st b true with votes := st.votes ++ [vt b y no true] } : Si50.St) = { st with before := dropB { b with closed := true }, votes := st.votes ++ [vt b y no true] } := by
        have e4 : Si50.asked { b with closed := true } = .proc .close := e2
        unfold Si50.decide_ dropB
        rw [e2, e4]
        rfl
      rw [ed]
      exact h1.dv le1 fun kvs h => h.no fun z => by
        have z1 := z.1
        unfold SM.IsAm at z1
        have e5 : (vt b y no true).question = .proc .close := e2
        rw [e5] at z1
        rcases z1 with z | z <;> cases z
    · have hq : ((Si50.questionOut (Si50.asked b) : Nat) : Int) = 3 := by rw [e3]; rfl
      rw [hq]
      obtain ⟨a0, hf, _⟩ := (B.se c e2).2
      have hfa := hM.f
      have hsa := hM.s
      rw [hf] at hfa
      rw [e2] at hsa
      obtain ⟨z0, dz0, az0, rfl, hz0⟩ := hfa
      obtain ⟨z1, dz1, az1, rfl, hz1⟩ := hsa
      simp_arith [hB.o.2, hM.o.2, T.C_Assembly.cl, T.C_MainMotion.cl, n_Assembly_amendment_voters T, n_MainMotion_amendment T, sp_asked_motion]
      refine ⟨b, R, hMM, _, DPut.k (k := Sum.inl (Si50.idOf b : Int)) hB.d.2 (small (by have := hB.dl; have := wf.vn; omega)), ?_⟩
      have fD : Fr_ (fun t => t ≠ .mut 7 0) R H R (upd H aD (.dK (putK kvs (Sum.inl (Si50.idOf b : Int)) (.ref a)))) := Fr_.put hB.d.1
      obtain ⟨f0, fr, fw, ft, fm, fb, ff, fff, fp, fpp, fv, fvv, -, fdl, fdd⟩ := hB.part (k := 7) fD (by decide)
      have ha1 := fD a .oth _ nofun ha
      have kD := fD.kpm
      have hd1 : At R (upd H aD (.dK (putK kvs (Sum.inl (Si50.idOf b : Int)) (.ref a)))) aD (.mut 7 0) (.dK (putK kvs (Sum.inl (Si50.idOf b : Int)) (.ref a))) := At.self hB.d.1
      have hM1 := hM.fr fD fun t o => own_ne o (by decide)
      have hz01 := hz0.fr fD nofun nofun
      have hz11 := hz1.fr fD nofun nofun
      have B1 : AsmC T R (upd H aD (.dK (putK kvs (Sum.inl (Si50.idOf b : Int)) (.ref a)))) p { st with votes := st.votes ++ [vt b y no true] } (st.votes ++ [vt b y no true]) dx aR aW aT aM (.ref x) aO aP aV aD os ps vs' (putK kvs (Sum.inl (Si50.idOf b : Int)) (.ref a)) := by
        refine ⟨f0 (by decide), fr, fw (by decide), ft (by decide), fm (by decide), fb, ff (by decide), fff, fp (by decide), fpp, fv (by decide), fvv, hd1, ?_, ?_⟩
        · have := length_putK kvs (Sum.inl (Si50.idOf b : Int)) (.ref a)
          rw [List.length_append, List.length_singleton]
          omega
        · exact DicOk.yes (u := vt b y no true) fdd (fun v hv => by show v.id ≠ Si50.idOf b; rw [e4]; exact V.fr c (.inr e2) v hv) rfl ha1
      generalize upd H aD (.dK (putK kvs (Sum.inl (Si50.idOf b : Int)) (.ref a))) = H1 at fD kD hd1 hM1 hz01 hz11 B1 ha1 ⊢
      simp_arith [hM1.o.2, hz01.o.2, T.C_MainMotion.cl, T.C_Amendment.cl, n_MainMotion_further_amendment T, n_Amendment_words T, sp_amended]
      refine ⟨_, _, _, _, R, hz01.w, hz11, ?_, ?_, fun R2 H2 w2 h2 f2 => ?_⟩
      · exact Nat.le_trans (B.fi a0 hf).1.tx.len (by decide)
      · exact Nat.le_trans (B.se c e2).1.tx.len (by decide)
      have hz02 := hz01.fr f2 trivial trivial
      have hz12 := hz11.fr f2 trivial trivial
      have hM2 := hM1.fr f2 fun _ _ => trivial
      have B2 := B1.fa f2
      have k2 := f2.kpa
      simp_arith [hz02.o.2, T.C_Amendment.cl, n_Amendment_words T, sp_drop_asked]
      have fz : Fr_ (fun t => t ≠ .mut 11 a0.id) R2 H2 R2 (upd H2 z0 (.ins T.C_Amendment.c dz0 (amF (.int (a0.id : Int)) (.int (a0.i : Int)) (.int (a0.j : Int)) (.ref w2)))) := Fr_.put hz02.o.1
      have ne : c.id ≠ a0.id := by
        have nd := (List.nodup_append.mp (wf.nd_with hb).1).1
        unfold SM.ids at nd
        rw [hf, e2] at nd
        intro e2
        have := (List.nodup_append.mp (List.nodup_cons.mp nd).2).2.2 a0.id (by simp) c.id (List.mem_append_left _ (by simp))
        exact this e2.symm
      have gz : Fr_ (fun t => ¬ mine b t) R2 H2 R2 (upd H2 z0 (.ins T.C_Amendment.c dz0 (amF (.int (a0.id : Int)) (.int (a0.i : Int)) (.int (a0.j : Int)) (.ref w2)))) := fr_mine hz02.o.1 (.inr (.inr (.inr ⟨a0, .inl hf, rfl⟩)))
      have kz := fz.kpm
      have B3 : AsmC T R2 (upd H2 z0 (.ins T.C_Amendment.c dz0 (amF (.int (a0.id : Int)) (.int (a0.i : Int)) (.int (a0.j : Int)) (.ref w2)))) p { st with before := some { b with first := some { a0 with words := Si50.change a0.words c.i c.j c.words } }, votes := st.votes ++ [vt b y no true] } (st.votes ++ [vt b y no true]) dx aR aW aT aM (.ref x) aO aP aV aD os ps vs' (putK kvs (Sum.inl (Si50.idOf b : Int)) (.ref a)) := by
        refine B2.inner hb1 nd1 gz ⟨x, rfl, dx', aw, aQ, aY, .ref z0, .ref z1, qs, ys, fz _ _ _ nofun hM2.o, hM2.w.fr fz nofun, fz _ _ _ nofun hM2.p, paired_imp (fun _ _ z => z.fr fz nofun) hM2.pp, fz _ _ _ nofun hM2.y, paired_imp (fun _ _ z => z.fr fz nofun) hM2.yy, ?_, ?_⟩
        · exact ⟨z0, dz0, w2, rfl, At.self hz02.o.1, h2.fr fz nofun⟩
        · show AmdAt T R2 _ (.ref z1) b.second
          rw [e2]
          exact ⟨z1, dz1, az1, rfl, hz12.fr fz nofun fun e => by injection e with _ e; exact ne e⟩
      have ei : SM.ids { b with first := some { a0 with words := Si50.change a0.words c.i c.j c.words } } = SM.ids b := by
        unfold SM.ids
        rw [hf]
        rfl
      refine ⟨_, _, _, R2, ⟨dx, aR, aW, aT, aM, .ref x, aO, aP, aV, aD, os, ps, vs', _, B3⟩, rfl, nd_same hb wf.nd ei, fun R' H' h3 h4 => ?_⟩
      refine k R' H' ?_ (kD.trans (k2.trans (kz.trans h4)))
      have ed : ({ Si50.decide_ st b true with votes := st.votes ++ [vt b y no true] } : Si50.St) = { st with before := dropB { b with first := some { a0 with words := Si50.change a0.words c.i c.j c.words } }, votes := st.votes ++ [vt b y no true] } := by
        have e5 : Si50.asked { b with first := some { a0 with words := Si50.change a0.words c.i c.j c.words } } = .second := by
          unfold Si50.asked
          dsimp only
          rw [e1, e2]
          rfl
        unfold Si50.decide_ dropB
        rw [e3, e5, hf, e2]
        rfl
      rw [ed]
      exact h3
    · have hq : ((Si50.questionOut (Si50.asked b) : Nat) : Int) = 2 := by rw [e4]; rfl
      rw [hq]
      have hfa := hM.f
      rw [e3] at hfa
      obtain ⟨z0, dz0, az0, rfl, hz0⟩ := hfa
      simp_arith [hB.o.2, T.C_Assembly.cl, n_Assembly_amendment_voters T, sp_asked_motion]
      refine ⟨b, R, hMM, _, DPut.k (k := Sum.inl (Si50.idOf b : Int)) hB.d.2 (small (by have := hB.dl; have := wf.vn; omega)), ?_⟩
      have fD : Fr_ (fun t => t ≠ .mut 7 0) R H R (upd H aD (.dK (putK kvs (Sum.inl (Si50.idOf b : Int)) (.ref a)))) := Fr_.put hB.d.1
      obtain ⟨f0, fr, fw, ft, fm, fb, ff, fff, fp, fpp, fv, fvv, -, fdl, fdd⟩ := hB.part (k := 7) fD (by decide)
      have ha1 := fD a .oth _ nofun ha
      have kD := fD.kpm
      have hd1 : At R (upd H aD (.dK (putK kvs (Sum.inl (Si50.idOf b : Int)) (.ref a)))) aD (.mut 7 0) (.dK (putK kvs (Sum.inl (Si50.idOf b : Int)) (.ref a))) := At.self hB.d.1
      have hM1 := hM.fr fD fun t o => own_ne o (by decide)
      have hz01 := hz0.fr fD nofun nofun
      have B1 : AsmC T R (upd H aD (.dK (putK kvs (Sum.inl (Si50.idOf b : Int)) (.ref a)))) p { st with votes := st.votes ++ [vt b y no true] } (st.votes ++ [vt b y no true]) dx aR aW aT aM (.ref x) aO aP aV aD os ps vs' (putK kvs (Sum.inl (Si50.idOf b : Int)) (.ref a)) := by
        refine ⟨f0 (by decide), fr, fw (by decide), ft (by decide), fm (by decide), fb, ff (by decide), fff, fp (by decide), fpp, fv (by decide), fvv, hd1, ?_, ?_⟩
        · have := length_putK kvs (Sum.inl (Si50.idOf b : Int)) (.ref a)
          rw [List.length_append, List.length_singleton]
          omega
        · exact DicOk.yes (u := vt b y no true) fdd (fun v hv => by show v.id ≠ Si50.idOf b; rw [e5]; exact V.fr c (.inl e3) v hv) rfl ha1
      generalize upd H aD (.dK (putK kvs (Sum.inl (Si50.idOf b : Int)) (.ref a))) = H1 at fD kD hd1 hM1 hz01 B1 ha1 ⊢
      simp_arith [hM1.o.2, T.C_MainMotion.cl, n_MainMotion_amendment T, n_MainMotion_words T, sp_amended]
      refine ⟨_, _, _, _, R, hM1.w, hz01, ?_, ?_, fun R2 H2 w2 h2 f2 => ?_⟩
      · exact Nat.le_trans B.tx.len (by decide)
      · exact Nat.le_trans (B.fi c e3).1.tx.len (by decide)
      have hM2 := hM1.fr f2 fun _ _ => trivial
      have B2 := B1.fa f2
      have k2 := f2.kpa
      simp_arith [hM2.o.2, T.C_MainMotion.cl, n_MainMotion_words T, sp_drop_asked]
      have fz : Fr_ (fun t => t ≠ .mut 8 b.id) R2 H2 R2 (upd H2 x (.ins T.C_MainMotion.c dx' (mmF (.int (b.id : Int)) (.ref w2) (.ref aQ) (.ref z0) fu (.ref aY) (.bl b.closed)))) := Fr_.put hM2.o.1
      have gz : Fr_ (fun t => ¬ mine b t) R2 H2 R2 (upd H2 x (.ins T.C_MainMotion.c dx' (mmF (.int (b.id : Int)) (.ref w2) (.ref aQ) (.ref z0) fu (.ref aY) (.bl b.closed)))) := fr_mine hM2.o.1 (.inl rfl)
      have kz := fz.kpm
      obtain ⟨q1, q2, q3, q4, q5, q6, q7, q8⟩ := hM2.part fz (by decide)
      have B3 : AsmC T R2 (upd H2 x (.ins T.C_MainMotion.c dx' (mmF (.int (b.id : Int)) (.ref w2) (.ref aQ) (.ref z0) fu (.ref aY) (.bl b.closed)))) p { st with before := some { b with text := Si50.change b.text c.i c.j c.words }, votes := st.votes ++ [vt b y no true] } (st.votes ++ [vt b y no true]) dx aR aW aT aM (.ref x) aO aP aV aD os ps vs' (putK kvs (Sum.inl (Si50.idOf b : Int)) (.ref a)) :=
        B2.inner hb1 nd1 gz ⟨x, rfl, dx', w2, aQ, aY, .ref z0, fu, qs, ys, At.self hM2.o.1, h2.fr fz nofun, q3 (by decide), q4, q5 (by decide), q6, q7, q8⟩
      refine ⟨_, _, _, R2, ⟨dx, aR, aW, aT, aM, .ref x, aO, aP, aV, aD, os, ps, vs', _, B3⟩, rfl, nd_same hb wf.nd rfl, fun R' H' h3 h4 => ?_⟩
      refine k R' H' ?_ (kD.trans (k2.trans (kz.trans h4)))
      have ed : ({ Si50.decide_ st b true with votes := st.votes ++ [vt b y no true] } : Si50.St) = { st with before := dropB { b with text := Si50.change b.text c.i c.j c.words }, votes := st.votes ++ [vt b y no true] } := by
        have e6 : Si50.asked { b with text := Si50.change b.text c.i c.j c.words } = .first := e4
        unfold Si50.decide_ dropB
        rw [e4, e6, e3]
        rfl
      rw [ed]
      exact h3
    · have hq : ((Si50.questionOut (Si50.asked b) : Nat) : Int) = 1 := by rw [e4]; rfl
      rw [hq]
      simp_arith [hB.o.2, hB.p.2, hM.o.2, T.C_Assembly.cl, T.C_MainMotion.cl, n_Assembly_passed T, n_MainMotion_motion T, n_MainMotion_words T, sp_PassedText_init]
      intro z dz hzn hdz nz
      have i1 : aP ≠ z := ne_of_none hB.p.2 hzn
      have i2 : aP ≠ dz := ne_of_none hB.p.2 hdz
      have hlen := pd_len hB.pp
      have hpn := wf.pn
      have hlen : ps.length = st.passed.length := hlen
      simp_arith [upd_ne i1, upd_ne i2, hB.p.2, sp_drop_asked]
      refine ⟨small (by omega), ?_⟩
      obtain ⟨g1, g2⟩ := made (R := R) (C := T.C_PassedText.c) (fs := psF (.int (b.id : Int)) (.ref aw) (.ref a)) (t := .oth) hzn hdz nz
      have B1 := hB.fa g1
      have hw1 := hM.w.fr g1 trivial
      have ha1 := g1 _ _ _ trivial ha
      have k1 := g1.kpa
      generalize setR (setR R dz .oth) z .oth = R1 at g1 g2 B1 hw1 ha1 k1
      generalize upd (upd H dz (.own z)) z (.ins T.C_PassedText.c dz (psF (.int (b.id : Int)) (.ref aw) (.ref a))) = H1 at g1 g2 B1 hw1 ha1 k1 ⊢
      have fP : Fr_ (fun t => t ≠ .mut 5 0) R1 H1 R1 (upd H1 aP (.lst (ps ++ [.ref z]))) := Fr_.put B1.p.1
      have kP := fP.kpm
      obtain ⟨f0, fr, fw, ft, fm, fb, ff, fff, -, fpp, fv, fvv, fd, fdl, fdd⟩ := B1.part (k := 5) fP (by decide)
      have B2 : AsmC T R1 (upd H1 aP (.lst (ps ++ [.ref z]))) p { st with passed := st.passed ++ [⟨b.text, b.id, st.votes.length⟩], votes := st.votes ++ [vt b y no true] } st.votes dx aR aW aT aM (.ref x) aO aP aV aD os (ps ++ [.ref z]) vs' kvs := by
        refine ⟨f0 (by decide), fr, fw (by decide), ft (by decide), fm (by decide), fb, ff (by decide), fff, At.self B1.p.1, ?_, fv (by decide), fvv, fd (by decide), fdl, fdd⟩
        refine pd_snoc fpp ⟨z, dz, aw, a, vt b y no true, rfl, fP _ _ _ nofun g2, hw1.fr fP nofun, ?_, fP _ _ _ nofun ha1⟩
        show (st.votes ++ [vt b y no true])[st.votes.length]? = _
        simp
      refine ⟨_, b, _, R1, ⟨dx, aR, aW, aT, aM, .ref x, aO, aP, aV, aD, os, _, vs', kvs, B2⟩, hb, wf.nd, fun R' H' h1 h2 => ?_⟩
      refine k R' H' ?_ (k1.trans (kP.trans h2))
      have ed : ({ Si50.decide_ st b true with votes := st.votes ++ [vt b y no true] } : Si50.St) = { st with before := dropB b, passed := st.passed ++ [⟨b.text, b.id, st.votes.length⟩], votes := st.votes ++ [vt b y no true] } := by
        unfold Si50.decide_ dropB
        rw [e4]
        rfl
      rw [ed]
      exact h1.dv le1 fun kvs h => h.no fun z => by
        have z1 := z.1
        unfold SM.IsAm at z1
        have e5 : (vt b y no true).question = .main := e4
        rw [e5] at z1
        rcases z1 with z | z <;> cases z
end
end My

end

section
set_option Elab.async false
set_option linter.all false
set_option maxRecDepth 100000
set_option maxHeartbeats 4000000
namespace My
open PySem PySem.Spec PyProof.Rows L2
section
variable {P : Program} {w : World} {K : PySem.W.Frag} {mg : Str → Option Value} {base : Heap} (T : Tx K mg)
theorem ok_carry_asked : FnOk P w K mg base CX0 4 T.f_carry_asked.a T.f_carry_asked.d ["assembly", "voters"] (sp_carry T fun _ => True) := by
  have G_asked_sort := ok_asked_sort (P := P) (w := w) (base := base) T
  have G_carry_in_place := ok_carry_in_place (P := P) (w := w) (base := base) T
  refine T.f_carry_asked.F.ok sc_carry_asked (fun vs H Q E h => ?_) (fun cdv A outer s H vs Q E hr h => ?_)
  · obtain ⟨_, _, _, _, _, _, _, _, rfl, _⟩ := h
    rfl
  · obtain ⟨p, a, st, b, y, no, n, R, rfl, hA, hb, wf, vf, hn, -, ha, k⟩ := h
    obtain ⟨dx, aR, aW, aT, aM, mn, aO, aP, aV, aD, os, ps, vs', kvs, hB⟩ := id hA
    have hb1 : ({ st with votes := st.votes ++ [vt b y no true] } : Si50.St).before = some b := hb
    have hm := hB.b
    rw [hb1] at hm
    obtain ⟨x, rfl, hMM⟩ := hm
    obtain ⟨dx', aw, aQ, aY, am, fu, qs, ys, hM⟩ := id hMM
    have B := wf.before hb
    have nd1 : Nd { st with votes := st.votes ++ [vt b y no true] } := wf.nd
    have le1 : st.votes.length ≤ (st.votes ++ [vt b y no true]).length := by rw [List.length_append]; omega
    refine ⟨_, (pss_cons (ps_set (i := 2) sc_carry_asked.nd rfl (Or.inl rfl) (pe_fldK (K := K) (pv 0) rfl))
      (pss_cons (ps_set (i := 3) sc_carry_asked.nd rfl (Or.inl rfl) (pe_call (G_asked_sort.mono (by decide)) hr rfl T.f_asked_sort.g T.f_asked_sort.F.kp (b_asked_sort T) .nil pass0 (pa_cons (pv 2) pa_nil)))
      (pss_one (ps_if (pt_cmpR op_eq (pv 3) (pe_gl T.k_PUT_OFF) (nomark _))
        (pss_cons (ps_fld (pv 2) (pe_lst pa_nil) rfl)
          (pss_cons (ps_expr (pe_lm PySem.F.slot_list_append PySem.F.type_list_append mt_append (pe_fldK (K := K) (pv 0) rfl) (pa_cons (pv 2) pa_nil)))
          (pss_one (ps_fld (pv 0) pe_non rfl))))
        (pss_one (ps_if (pt_cmpR op_eq (pv 3) (pe_gl T.k_SEND_BACK) (nomark _))
            (pss_one (ps_fld (pv 0) pe_non rfl))
            (pss_one (ps_expr (pe_call (G_carry_in_place.mono (by decide)) hr rfl T.f_carry_in_place.g T.f_carry_in_place.F.kp (b_carry_in_place T) .nil pass0 (pa_cons (pv 0) (pa_cons (pv 1) pa_nil))))))))))), ?_⟩
    simp_arith [hB.o.2, T.C_Assembly.cl, n_Assembly_main T, sp_asked_sort]
    refine ⟨b, R, hMM, ?_⟩
    by_cases c : ∃ p', Si50.asked b = .proc p' ∧ p' ≠ .close
    · obtain ⟨p', e, hp⟩ := c
      cases p' with
      | close => exact absurd rfl hp
      | refer =>
        have hq : ((Si50.questionOut (Si50.asked b) : Nat) : Int) = 4 := by rw [e]; rfl
        rw [hq]
        simp_arith [hB.o.2, T.C_Assembly.cl, n_Assembly_main T]
        have f1 : Fr_ (fun t => t ≠ .mut 0 0) R H R (upd H p (.ins T.C_Assembly.c dx (asmF (.int (st.rules.quorum : Int)) (.ref aR) (.ref aW) (.ref aT) (.ref aM) .non (.ref aO) (.ref aP) (.ref aV) (.ref aD)))) := Fr_.put hB.o.1
        refine k R _ ?_ f1.kpm
        have ed : ({ Si50.decide_ st b true with votes := st.votes ++ [vt b y no true] } : Si50.St) = { st with before := none, referred := st.referred ++ [{ b with procs := [] }], votes := st.votes ++ [vt b y no true] } := by
          unfold Si50.decide_
          rw [e]
          rfl
        rw [ed]
        have B1 := hB.seto (o := none) f1 (At.self hB.o.1) rfl
        have X1 : AsmX T R (upd H p (.ins T.C_Assembly.c dx (asmF (.int (st.rules.quorum : Int)) (.ref aR) (.ref aW) (.ref aT) (.ref aM) .non (.ref aO) (.ref aP) (.ref aV) (.ref aD)))) p { st with before := none, referred := st.referred ++ [{ b with procs := [] }], votes := st.votes ++ [vt b y no true] } st.votes :=
          ⟨dx, aR, aW, aT, aM, .non, aO, aP, aV, aD, os, ps, vs', kvs, B1.o, B1.r, B1.w, B1.t, B1.m, B1.b, B1.f, B1.ff, B1.p, B1.pp, B1.v, B1.vv, B1.d, B1.dl, B1.dd⟩
        exact X1.dv le1 fun kvs h => h.no fun z => by
          have z1 := z.1
          unfold SM.IsAm at z1
          have e5 : (vt b y no true).question = .proc .refer := e
          rw [e5] at z1
          rcases z1 with z | z <;> cases z
      | table =>
        have hq : ((Si50.questionOut (Si50.asked b) : Nat) : Int) = 6 := by rw [e]; rfl
        rw [hq]
        simp_arith [hM.o.2]
        refine ⟨Nat.zero_le _, fun z hz => ?_⟩
        have i1 : x ≠ z := ne_of_none hM.o.2 hz
        have i2 : p ≠ z := ne_of_none hB.o.2 hz
        have i3 : aO ≠ z := ne_of_none hB.f.2 hz
        have i4 : p ≠ x := hB.o.ne hM.o.1 nofun
        have i5 : aO ≠ x := hB.f.ne hM.o.1 nofun
        have i6 : p ≠ aO := hB.o.ne hB.f.1 nofun
        have hlen : os.length = st.tabled.length := pd_len hB.ff
        have htn := wf.tn
        simp_arith [upd_ne i1, upd_ne i2, upd_ne i3, upd_ne i4, upd_ne i5, upd_ne i6, hM.o.2, hB.o.2, hB.f.2, T.C_MainMotion.cl, n_MainMotion_ways_on T, T.C_Assembly.cl, n_Assembly_put_off T, n_Assembly_main T]
        refine ⟨small (by omega), ?_⟩
        have fz : Fa R H (setR R z (.mut 10 b.id)) (upd H z (.lst [])) := Fr_.new hz
        have B1 := hB.fa fz
        have M1 := hM.fr fz fun _ _ => trivial
        have kz := fz.kpa
        have tz : At (setR R z (.mut 10 b.id)) (upd H z (.lst [])) z (.mut 10 b.id) (.lst []) := At.made
        generalize setR R z (.mut 10 b.id) = R1 at fz B1 M1 kz tz
        generalize upd H z (.lst []) = H1 at fz B1 M1 kz tz ⊢
        have fx : Fr_ (fun t => t ≠ .mut 8 b.id) R1 H1 R1 (upd H1 x (.ins T.C_MainMotion.c dx' (mmF (.int (b.id : Int)) (.ref aw) (.ref aQ) am fu (.ref z) (.bl b.closed)))) := Fr_.put M1.o.1
        have gx : Fr_ (fun t => ¬ mine b t) R1 H1 R1 (upd H1 x (.ins T.C_MainMotion.c dx' (mmF (.int (b.id : Int)) (.ref aw) (.ref aQ) am fu (.ref z) (.bl b.closed)))) := fr_mine M1.o.1 (.inl rfl)
        obtain ⟨q1, q2, q3, q4, q5, q6, q7, q8⟩ := M1.part fx (by decide)
        have kx := fx.kpm
        have M2 : BefAt T R1 (upd H1 x (.ins T.C_MainMotion.c dx' (mmF (.int (b.id : Int)) (.ref aw) (.ref aQ) am fu (.ref z) (.bl b.closed)))) x { b with procs := [] } dx' aw aQ z am fu qs [] := ⟨At.self M1.o.1, q2, q3 (by decide), q4, fx _ _ _ nofun tz, .nil, q7, q8⟩
        have B2 : AsmC T R1 (upd H1 x (.ins T.C_MainMotion.c dx' (mmF (.int (b.id : Int)) (.ref aw) (.ref aQ) am fu (.ref z) (.bl b.closed)))) p { st with before := some { b with procs := [] }, votes := st.votes ++ [vt b y no true] } st.votes dx aR aW aT aM (.ref x) aO aP aV aD os ps vs' kvs :=
          B1.inner hb1 nd1 gx ⟨x, rfl, dx', aw, aQ, z, am, fu, qs, [], M2⟩
        generalize upd H1 x (.ins T.C_MainMotion.c dx' (mmF (.int (b.id : Int)) (.ref aw) (.ref aQ) am fu (.ref z) (.bl b.closed))) = H2 at fx gx kx M2 B2 ⊢
        have fo : Fr_ (fun t => t ≠ .mut 4 0) R1 H2 R1 (upd H2 aO (.lst (os ++ [.ref x]))) := Fr_.put B2.f.1
        have ko := fo.kpm
        obtain ⟨f0, fr, fw, ft, fm, fb, -, fff, fp, fpp, fv, fvv, fd, fdl, fdd⟩ := B2.part (k := 4) fo (by decide)
        have M3 := M2.fr fo fun t o => own_ne o (by decide)
        have B3 : AsmC T R1 (upd H2 aO (.lst (os ++ [.ref x]))) p { st with before := some { b with procs := [] }, tabled := st.tabled ++ [{ b with procs := [] }], votes := st.votes ++ [vt b y no true] } st.votes dx aR aW aT aM (.ref x) aO aP aV aD (os ++ [.ref x]) ps vs' kvs :=
          ⟨f0 (by decide), fr, fw (by decide), ft (by decide), fm (by decide), fb, At.self B2.f.1, pd_snoc fff ⟨x, rfl, dx', aw, aQ, z, am, fu, qs, [], M3⟩, fp (by decide), fpp, fv (by decide), fvv, fd (by decide), fdl, fdd⟩
        generalize upd H2 aO (.lst (os ++ [.ref x])) = H3 at fo ko M3 B3 ⊢
        have fp' : Fr_ (fun t => t ≠ .mut 0 0) R1 H3 R1 (upd H3 p (.ins T.C_Assembly.c dx (asmF (.int (st.rules.quorum : Int)) (.ref aR) (.ref aW) (.ref aT) (.ref aM) .non (.ref aO) (.ref aP) (.ref aV) (.ref aD)))) := Fr_.put B3.o.1
        refine k R1 _ ?_ (kz.trans (kx.trans (ko.trans fp'.kpm)))
        have ed : ({ Si50.decide_ st b true with votes := st.votes ++ [vt b y no true] } : Si50.St) = { st with before := none, tabled := st.tabled ++ [{ b with procs := [] }], votes := st.votes ++ [vt b y no true] } := by
          unfold Si50.decide_
          rw [e]
          rfl
        rw [ed]
        have X1 : AsmX T R1 _ p { st with before := none, tabled := st.tabled ++ [{ b with procs := [] }], votes := st.votes ++ [vt b y no true] } st.votes :=
          ⟨dx, aR, aW, aT, aM, .non, aO, aP, aV, aD, os ++ [.ref x], ps, vs', kvs, B3.seto (o := none) fp' (At.self B3.o.1) rfl⟩
        exact X1.dv le1 fun kvs h => h.no fun z => by
          have z1 := z.1
          unfold SM.IsAm at z1
          have e5 : (vt b y no true).question = .proc .table := e
          rw [e5] at z1
          rcases z1 with z | z <;> cases z
    · have st1 : stays b := fun p' e => by
        cases p' with
        | close => rfl
        | refer => exact absurd ⟨_, e, by decide⟩ c
        | table => exact absurd ⟨_, e, by decide⟩ c
      have h6 : ¬ ((Si50.questionOut (Si50.asked b) : Nat) : Int) = 6 ∧ ¬ ((Si50.questionOut (Si50.asked b) : Nat) : Int) = 4 := by
        cases e : Si50.asked b with
        | main => exact ⟨by decide, by decide⟩
        | first => exact ⟨by decide, by decide⟩
        | second => exact ⟨by decide, by decide⟩
        | proc p' => rw [st1 p' e]; exact ⟨by decide, by decide⟩
      simp_arith [h6.1, h6.2, sp_carry]
      exact ⟨st, b, y, no, n, R, hA, hb, wf, vf, hn, st1, ha, k⟩
def vtR (s : Si50.St) (c : Nat) (l : List Nat) : Int := if s.before.isSome = true then (if (l.all fun i => decide (i < s.members.length)) = false then -2 else if Si50.unlike l = false ∨ 2 < c then -1 else if (l.all fun i => Si50.here s i) = false then -3 else if Si50.hereWeight s < s.rules.quorum then -7 else 0) else -4
theorem unlike_nd : ∀ l : List Nat, Si50.unlike l = true ↔ l.Nodup
  | [] => ⟨fun _ => List.nodup_nil, fun _ => rfl⟩
  | x :: l => by
    show (!l.contains x && Si50.unlike l) = true ↔ _
    rw [Bool.and_eq_true, unlike_nd l, List.nodup_cons]
    simp
theorem nd_ints {l : List Nat} : (l.map fun (n : Nat) => (n : Int)).Nodup ↔ l.Nodup := by
  unfold List.Nodup
  rw [List.pairwise_map]
  constructor <;> intro h <;> exact h.imp fun e z => e (by omega)
def sp_vote_refusal : Sp := fun vs H Q _ => ∃ (p a : Addr) (c : Int) (l : List Nat) (s : Si50.St) (dv : List Si50.Vote) (R : Rg), vs = [.ref p, .int c, .ref a] ∧ AsmX T R H p s dv ∧ At R H a .oth (.lst (nl l)) ∧ l.length ≤ 1000 ∧ s.members.length ≤ 20 ∧ 0 ≤ c ∧
  ∀ R' H', Fa R H R' H' → Q (.int (vtR s c.toNat l)) H'
theorem ok_vote_refusal : FnOk P w K mg base CX0 3 T.f_vote_refusal.a T.f_vote_refusal.d ["assembly", "chair", "members"] (sp_vote_refusal T) := by
  have G_weigh_those_there := ok_weigh_those_there (P := P) (w := w) (base := base) T
  have G_is_member := ok_is_member (P := P) (w := w) (base := base) T
  refine T.f_vote_refusal.F.ok sc_vote_refusal (fun vs H Q E h => ?_) (fun cdv A outer s H vs Q E hr h => ?_)
  · obtain ⟨_, _, _, _, _, _, _, rfl, _⟩ := h
    rfl
  · obtain ⟨p, a, c, l, st, dv, R, rfl, hA, ha, hl, hm, hc, k⟩ := h
    obtain ⟨dx, aR, aW, aT, aM, mn, aO, aP, aV, aD, os, ps, vs', kvs, hB⟩ := id hA
    refine ⟨_, (pss_cons (ps_if (pt_cmpR op_isN (pe_fldK (K := K) (pv 0) rfl) pe_non (nomark _))
        (pss_one (ps_ret (pe_gl T.k_OUT_OF_ORDER)))
        pss_nil)
      (pss_cons (ps_if (pt_not (pt_val (pe_callB (cr_allL rfl) (by rfl) T.b_all boot_allB (pa_cons (pe_lc rfl sc_vote_refusal.nd (pi_list (pv 2)) (blkOk_by (own := [("member", 3)]) (by show blkC ["assembly", "chair", "members", "member"] (defScope s_vote_refusal) _ _ = true; decide +kernel)) (fun _ _ _ _ _ => (pg_name (i := 3) sc_vote_refusal.nd rfl (Or.inl rfl))) (fun _ _ _ _ _ => pts_nil) (fun _ _ _ _ _ => (pe_call (G_is_member.mono (by decide)) hr rfl T.f_is_member.g T.f_is_member.F.kp (b_is_member T) .nil pass0 (pa_cons (pv 0) (pa_cons (pv 3) pa_nil))))) pa_nil))))
        (pss_one (ps_ret (pe_gl T.k_UNKNOWN)))
        pss_nil)
      (pss_cons (ps_if (PW.pt (pw_or (pt_cmpR op_gt (pv 1) (pe_gl T.k_CHAIR_AGAINST) (nomark _)) (pw_or1 (pt_cmpR op_lt (pe_callB call_lenS (by rfl) T.b_len PySem.boot_len (pa_cons (pe_callTy (call_setL rfl) (by rfl) T.b_set boot_setT (pa_cons (pv 2) pa_nil)) pa_nil)) (pe_callB call_lenL (by rfl) T.b_len PySem.boot_len (pa_cons (pv 2) pa_nil)) (nomark _)))))
        (pss_one (ps_ret (pe_gl T.k_WRONG)))
        pss_nil)
      (pss_cons (ps_if (pt_not (pt_val (pe_callB (cr_allL rfl) (by rfl) T.b_all boot_allB (pa_cons (pe_lc rfl sc_vote_refusal.nd (pi_list (pv 2)) (blkOk_by (own := [("member", 3)]) (by show blkC ["assembly", "chair", "members", "member"] (defScope s_vote_refusal) _ _ = true; decide +kernel)) (fun _ _ _ _ _ => (pg_name (i := 3) sc_vote_refusal.nd rfl (Or.inl rfl))) (fun _ _ _ _ _ => pts_nil) (fun _ _ _ _ _ => (pe_ix ix_lst (pe_fldK (K := K) (pv 0) rfl) (pv 3) (fun _ _ => rfl)))) pa_nil))))
        (pss_one (ps_ret (pe_gl T.k_AWAY)))
        pss_nil)
      (pss_cons (ps_if (pt_cmpR op_lt (pe_call (G_weigh_those_there.mono (by decide)) hr rfl T.f_weigh_those_there.g T.f_weigh_those_there.F.kp (b_weigh_those_there T) .nil pass0 (pa_cons (pv 0) pa_nil)) (pe_fldK (K := K) (pv 0) rfl) (nomark _))
        (pss_one (ps_ret (pe_gl T.k_NO_QUORUM)))
        pss_nil)
      (pss_one (ps_ret (pe_gl T.k_NO_REFUSAL)))))))), ?_⟩
    have hn := hB.b
    unfold vtR at k
    cases e : st.before with
    | none =>
      rw [e] at k hn
      obtain rfl : mn = .non := hn
      simp_arith [hB.o.2, T.C_Assembly.cl, n_Assembly_main T]
      exact k R H Fr_.refl
    | some b =>
      rw [e] at k hn
      obtain ⟨x, rfl, _⟩ := hn
      rw [if_pos (show (some b).isSome = true from rfl)] at k
      simp_arith [hB.o.2, T.C_Assembly.cl, n_Assembly_main T]
      refine lc_pure (K := K) (a := a) (xs := nl l) (l.map fun i => V.bl (decide (i < st.members.length))) (fun R hR => ?_) ha.2 (by rw [List.length_map, nl_len]) (by rw [nl_len]; omega) (fun D zs i x y hD hx hy hz Nx hN => ?_) fun D hD => ?_
      · exact ⟨_, rfl, a, rfl, ⟨_, SqL.of ha.2⟩, hR⟩
      · unfold nl at hx
        rw [List.getElem?_map] at hx hy
        cases hi : l[i]? with
        | none => rw [hi] at hx; cases hx
        | some j =>
          rw [hi] at hx hy
          have ex : V.int (j : Int) = x := Option.some.inj hx
          have ey : V.bl (decide (j < st.members.length)) = y := Option.some.inj hy
          subst ex ey
          simp_arith [List.map_cons, sp_is_member]
          refine ⟨st, dv, setR R D .oth, hA.fa (Fr_.new hD), ?_⟩
          have ed : decide ((j : Int) < (st.members.length : Int)) = decide (j < st.members.length) := decide_eq_decide.mpr (by omega)
          simp_arith [hz, ed, hN]
      · refine ⟨D, rfl, l.map fun i => decide (i < st.members.length), (by rw [upd_same, List.map_map]; rfl), ?_⟩
        have e1 : ((l.map fun i => decide (i < st.members.length)).all id) = l.all fun i => decide (i < st.members.length) := by rw [List.all_map]; rfl
        rw [e1]
        have f1 : Fa R H (setR R D .oth) (upd H D (.lst (l.map fun i => V.bl (decide (i < st.members.length))))) := Fr_.new hD
        have ha1 := f1 _ _ _ trivial ha
        have hB1 := hB.fa f1
        generalize setR R D .oth = R1 at f1 ha1 hB1
        generalize upd H D (.lst (l.map fun i => V.bl (decide (i < st.members.length)))) = H1 at f1 ha1 hB1 ⊢
        have hA1 : AsmX T R1 H1 p st dv := hA.fa f1
        cases q1 : l.all fun i => decide (i < st.members.length) with
        | false =>
          rw [q1, if_pos rfl] at k
          simp_arith [*]
          exact k R1 H1 f1
        | true =>
          rw [q1, if_neg (by decide)] at k
          simp_arith [*]
          have all1 : ∀ z, z ∈ l → z < st.members.length := fun z hz => of_decide_eq_true (List.all_eq_true.mp q1 z hz)
          by_cases c1 : 2 < c
          · rw [if_pos (.inr (by omega))] at k
            simp_arith [c1]
            exact k R1 H1 f1
          · simp_arith [c1]
            refine ⟨l.map fun (n : Nat) => (n : Int), by rw [ha1.2, nl_ints], by rw [List.length_map]; exact hl, fun D2 S m2 hD2 s1 s2 => ?_⟩
            rw [List.length_map] at s1 s2
            have n1 : a ≠ D2 := ne_of_none ha1.2 hD2
            simp_arith [upd_ne n1, ha1.2, nl_len, HO.set.injEq]
            have f2 : Fa R1 H1 (setR R1 D2 .oth) (upd H1 D2 (.set S m2)) := Fr_.new hD2
            have ha2 := f2 _ _ _ trivial ha1
            have hB2 := hB1.fa f2
            have f12 := f1.trans f2
            generalize setR R1 D2 .oth = R2 at f2 ha2 hB2 f12
            generalize upd H1 D2 (.set S m2) = H2 at f2 ha2 hB2 f12 ⊢
            have hA2 : AsmX T R2 H2 p st dv := hA.fa f12
            rw [nd_ints, ← unlike_nd] at s2
            cases q2 : Si50.unlike l with
            | false =>
              rw [if_pos (.inl q2)] at k
              have c2 : (m2 : Int) < (l.length : Int) := by
                have : m2 ≠ l.length := fun z => by rw [s2.mp z] at q2; cases q2
                omega
              simp_arith [c2]
              exact k R2 H2 f12
            | true =>
              rw [if_neg (by rw [q2]; rintro (z | z); cases z; omega)] at k
              have c2 : ¬ (m2 : Int) < (l.length : Int) := by have := s2.mpr q2; omega
              simp_arith [c2]
              refine lc_pure (K := K) (a := a) (xs := nl l) (l.map fun i => V.bl (Si50.here st i)) (fun R hR => ?_) ha2.2 (by rw [List.length_map, nl_len]) (by rw [nl_len]; omega) (fun D zs i x y hD hx hy hz Nx hN => ?_) fun D3 hD3 => ?_
              · exact ⟨_, rfl, a, rfl, ⟨_, SqL.of ha2.2⟩, hR⟩
              · unfold nl at hx
                rw [List.getElem?_map] at hx hy
                cases hi : l[i]? with
                | none => rw [hi] at hx; cases hx
                | some j =>
                  rw [hi] at hx hy
                  have ex : V.int (j : Int) = x := Option.some.inj hx
                  have ey : V.bl (Si50.here st j) = y := Option.some.inj hy
                  subst ex ey
                  have n1 : p ≠ D := ne_of_none hB2.o.2 hD
                  have n2 : aT ≠ D := ne_of_none hB2.t.2 hD
                  have et := thr_at (s := st) (m := (j : Int)) (by omega) (by have := all1 j (List.mem_of_getElem? hi); omega)
                  rw [Int.toNat_natCast] at et
                  simp_arith [List.map_cons, upd_ne n1, upd_ne n2, hB2.o.2, hB2.t.2, T.C_Assembly.cl, n_Assembly_there T, et, hz, hN]
              · refine ⟨D3, rfl, l.map fun i => Si50.here st i, (by rw [upd_same, List.map_map]; rfl), ?_⟩
                have e3 : ((l.map fun i => Si50.here st i).all id) = l.all fun i => Si50.here st i := by rw [List.all_map]; rfl
                rw [e3]
                have f3 : Fa R2 H2 (setR R2 D3 .oth) (upd H2 D3 (.lst (l.map fun i => V.bl (Si50.here st i)))) := Fr_.new hD3
                have f13 := f12.trans f3
                generalize setR R2 D3 .oth = R3 at f3 f13
                generalize upd H2 D3 (.lst (l.map fun i => V.bl (Si50.here st i))) = H3 at f3 f13 ⊢
                have hA3 : AsmX T R3 H3 p st dv := hA.fa f13
                cases q3 : l.all fun i => Si50.here st i with
                | false =>
                  rw [q3, if_pos rfl] at k
                  simp_arith [*]
                  exact k R3 H3 f13
                | true =>
                  rw [q3, if_neg (by decide)] at k
                  simp_arith [sp_weigh_those_there]
                  refine ⟨st, dv, R3, hA3, hm, fun R4 H4 f4 => ?_⟩
                  have f14 := f13.trans f4
                  have hB4 := hB.fa f14
                  simp_arith [hB4.o.2, T.C_Assembly.cl, n_Assembly_quorum T]
                  by_cases c4 : Si50.hereWeight st < st.rules.quorum
                  · have c5 : (Si50.hereWeight st : Int) < (st.rules.quorum : Int) := by omega
                    rw [if_pos c4] at k
                    simp_arith [c5]
                    exact k R4 H4 f14
                  · have c5 : ¬ (Si50.hereWeight st : Int) < (st.rules.quorum : Int) := by omega
                    rw [if_neg c4] at k
                    simp_arith [c5]
                    exact k R4 H4 f14
end
end My

end

section
set_option Elab.async false
set_option linter.all false
set_option maxRecDepth 100000
set_option maxHeartbeats 4000000
namespace My
open PySem PySem.Spec PyProof.Rows L2
section
variable {P : Program} {w : World} {K : PySem.W.Frag} {mg : Str → Option Value} {base : Heap} (T : Tx K mg)
theorem rule_at (q : Si50.Question) : ∃ j : Nat, atI [V.non, .int 0, .int 1, .int 1, .int 2, .int 3, .int 4] ((Si50.questionOut q : Nat) : Int) = some (V.int (j : Int)) ∧ ∀ r, atI (rl r) (j : Int) = some (V.int (kd (Si50.needs r q))) := by
  cases q with
  | main => exact ⟨0, rfl, fun _ => rfl⟩
  | first => exact ⟨1, rfl, fun _ => rfl⟩
  | second => exact ⟨1, rfl, fun _ => rfl⟩
  | proc p =>
    cases p with
    | refer => exact ⟨2, rfl, fun _ => rfl⟩
    | close => exact ⟨3, rfl, fun _ => rfl⟩
    | table => exact ⟨4, rfl, fun _ => rfl⟩
def wonV (s : Si50.St) (b : Si50.Before) (a d c : Nat) : Bool := Si50.carried (Si50.needs s.rules (Si50.asked b)) a d (Si50.hereWeight s) (Si50.allWeight s) || (a == d && (Si50.needs s.rules (Si50.asked b) == .simple && c == 1))
theorem wts_ints (s : Si50.St) : wts s = ((s.members.map fun m => m.weight).map fun (n : Nat) => (n : Int)).map V.int := by
  unfold wts
  rw [List.map_map, List.map_map]
  rfl
def sp_is_carried : Sp := fun vs H Q _ => ∃ (p : Addr) (c : Int) (a d : Nat) (s : Si50.St) (b : Si50.Before) (dv : List Si50.Vote) (R : Rg), vs = [.ref p, .int c, .int (a : Int), .int (d : Int)] ∧ AsmX T R H p s dv ∧ s.before = some b ∧ s.members.length ≤ 20 ∧ 0 ≤ c ∧
  ∀ R' H', Fa R H R' H' → Q (.bl (wonV s b a d c.toNat)) H'
theorem ok_is_carried : FnOk P w K mg base CX0 3 T.f_is_carried.a T.f_is_carried.d ["assembly", "chair", "weight_for", "weight_against"] (sp_is_carried T) := by
  have G_asked_sort := ok_asked_sort (P := P) (w := w) (base := base) T
  have G_weigh_those_there := ok_weigh_those_there (P := P) (w := w) (base := base) T
  refine T.f_is_carried.F.ok sc_is_carried (fun vs H Q E h => ?_) (fun cdv A outer s H vs Q E hr h => ?_)
  · obtain ⟨_, _, _, _, _, _, _, _, rfl, _⟩ := h
    rfl
  · obtain ⟨p, c, a, d, st, b, dv, R, rfl, hA, hb, hm, hc, k⟩ := h
    obtain ⟨dx, aR, aW, aT, aM, mn, aO, aP, aV, aD, os, ps, vs', kvs, hB⟩ := id hA
    have hx := hB.b
    rw [hb] at hx
    obtain ⟨x, rfl, hMM⟩ := hx
    refine ⟨_, (pss_cons (ps_set (i := 4) sc_is_carried.nd rfl (Or.inl rfl) (pe_ix ix_tup (pe_fldK (K := K) (pv 0) rfl) (pe_ix ix_tup (pe_gl T.k_RULE_PLACES) (pe_call (G_asked_sort.mono (by decide)) hr rfl T.f_asked_sort.g T.f_asked_sort.F.kp (b_asked_sort T) .nil pass0 (pa_cons (pe_fldK (K := K) (pv 0) rfl) pa_nil)) (fun _ _ => rfl)) (fun _ _ => rfl)))
      (pss_cons (ps_if (pt_cmpR op_eq (pv 4) (pe_gl T.k_SIMPLE) (nomark _))
        (pss_one (ps_ret (pe_or (pe_cmpR op_gt (pv 2) (pv 3) (nomark _)) (pe_one (pe_and (pe_cmpR op_eq (pv 2) (pv 3) (nomark _)) (pe_one (pe_cmpR op_eq (pv 1) (pe_gl T.k_CHAIR_FOR) (nomark _))))))))
        pss_nil)
      (pss_cons (ps_if (pt_cmpR op_eq (pv 4) (pe_gl T.k_HALF_OF_THOSE_THERE) (nomark _))
        (pss_one (ps_ret (pe_cmpR op_gt (pe_op op_mul pe_int (pv 2)) (pe_call (G_weigh_those_there.mono (by decide)) hr rfl T.f_weigh_those_there.g T.f_weigh_those_there.F.kp (b_weigh_those_there T) .nil pass0 (pa_cons (pv 0) pa_nil)) (nomark _))))
        pss_nil)
      (pss_cons (ps_if (pt_cmpR op_eq (pv 4) (pe_gl T.k_HALF_OF_ALL) (nomark _))
        (pss_one (ps_ret (pe_cmpR op_gt (pe_op op_mul pe_int (pv 2)) (pe_callB (cr_sumL rfl) (by rfl) T.b_sum boot_sumB (pa_cons (pe_fldK (K := K) (pv 0) rfl) pa_nil)) (nomark _))))
        pss_nil)
      (pss_cons (ps_if (pt_cmpR op_eq (pv 4) (pe_gl T.k_TWO_THIRDS) (nomark _))
        (pss_one (ps_ret (pe_and (pe_cmpR op_gt (pv 2) pe_int (nomark _)) (pe_one (pe_cmpR op_ge (pe_op op_mul pe_int (pv 2)) (pe_op op_mul pe_int (pe_op op_add (pv 2) (pv 3))) (nomark _))))))
        pss_nil)
      (pss_one (ps_ret (pe_and (pe_cmpR op_gt (pv 2) pe_int (nomark _)) (pe_one (pe_cmpR op_eq (pv 3) pe_int (nomark _))))))))))), ?_⟩
    have sq : SqT K H aR (rl st.rules) := hB.r.elim (fun z => z.seq) fun z => SqT.of z.2
    obtain ⟨j, j1, j2⟩ := rule_at (Si50.asked b)
    have j2 := j2 st.rules
    have cm2 : ∀ z, CMul 2 z := fun _ => .inl ⟨by decide, by decide⟩
    have cm3 : ∀ z, CMul 3 z := fun _ => .inl ⟨by decide, by decide⟩
    simp_arith [hB.o.2, T.C_Assembly.cl, n_Assembly_rules T, n_Assembly_main T, sp_asked_sort]
    refine ⟨b, R, hMM, _, T.t_RULE_PLACES.seq, _, j1, ?_⟩
    refine ⟨_, _, rfl, sq, _, j2, rfl, ?_⟩
    unfold wonV at k
    generalize Si50.needs st.rules (Si50.asked b) = M at k ⊢
    cases M with
    | simple =>
      have kk : Q (.bl (decide (d < a) || (a == d && (true && c.toNat == 1)))) H := k R H Fr_.refl
      simp_arith [kd]
      by_cases c1 : d < a
      · rw [decide_eq_true c1, Bool.true_or] at kk
        rw [if_pos (by omega)]
        exact kk
      · rw [decide_eq_false c1, Bool.false_or, Bool.true_and] at kk
        rw [if_neg (by omega)]
        by_cases c2 : a = d
        · rw [beq_iff_eq.mpr c2, Bool.true_and] at kk
          have e : decide (c = 1) = (c.toNat == 1) := by rw [Bool.eq_iff_iff, decide_eq_true_eq, beq_iff_eq]; omega
          rw [if_pos (by omega), e]
          exact kk
        · rw [beq_eq_false_iff_ne.mpr c2, Bool.false_and] at kk
          rw [if_neg (by omega)]
          exact kk
    | present =>
      simp_arith [kd, scal_int, cm2, sp_weigh_those_there]
      refine ⟨st, dv, R, hA, hm, fun R' H' f => ?_⟩
      have kk : Q (.bl (decide (Si50.hereWeight st < 2 * a) || (a == d && (false && c.toNat == 1)))) H' := k R' H' f
      rw [Bool.false_and, Bool.and_false, Bool.or_false] at kk
      have e : decide ((Si50.hereWeight st : Int) < 2 * (a : Int)) = decide (Si50.hereWeight st < 2 * a) := decide_eq_decide.mpr (by omega)
      simp_arith [e, kk]
    | all =>
      have kk : Q (.bl (decide (Si50.allWeight st < 2 * a) || (a == d && (false && c.toNat == 1)))) H := k R H Fr_.refl
      rw [Bool.false_and, Bool.and_false, Bool.or_false] at kk
      have hw := hB.w.2
      rw [wts_ints] at hw
      simp_arith [kd, scal_int, cm2, n_Assembly_weights T]
      refine ⟨_, hw, ?_⟩
      rw [total_sum]
      have e : decide (((Si50.total (st.members.map fun m => m.weight) : Nat) : Int) < 2 * (a : Int)) = decide (Si50.allWeight st < 2 * a) := decide_eq_decide.mpr (by unfold Si50.allWeight; omega)
      rw [e]
      exact kk
    | thirds =>
      have kk : Q (.bl ((decide (0 < a) && decide (2 * (a + d) ≤ 3 * a)) || (a == d && (false && c.toNat == 1)))) H := k R H Fr_.refl
      rw [Bool.false_and, Bool.and_false, Bool.or_false] at kk
      simp_arith [kd, scal_int, cm2, cm3]
      by_cases c1 : 0 < a
      · rw [decide_eq_true c1, Bool.true_and] at kk
        rw [if_pos (by omega)]
        have e : decide ((2 : Int) * ((a : Int) + (d : Int)) ≤ 3 * (a : Int)) = decide (2 * (a + d) ≤ 3 * a) := decide_eq_decide.mpr (by omega)
        rw [e]
        exact kk
      · rw [decide_eq_false c1, Bool.false_and] at kk
        rw [if_neg (by omega)]
        exact kk
    | none_ =>
      have kk : Q (.bl ((decide (0 < a) && d == 0) || (a == d && (false && c.toNat == 1)))) H := k R H Fr_.refl
      rw [Bool.false_and, Bool.and_false, Bool.or_false] at kk
      simp_arith [kd, scal_int]
      by_cases c1 : 0 < a
      · rw [decide_eq_true c1, Bool.true_and] at kk
        rw [if_pos (by omega)]
        have e : decide ((d : Int) = 0) = (d == 0) := by rw [Bool.eq_iff_iff, decide_eq_true_eq, beq_iff_eq]; omega
        rw [e]
        exact kk
      · rw [decide_eq_false c1, Bool.false_and] at kk
        rw [if_neg (by omega)]
        exact kk
theorem lost_eq {n : Nat} {s : Si50.St} {b : Si50.Before} {v : List Si50.Vote} (B : SM.BOk s.moved s.votes n b) : ({ Si50.decide_ s b false with votes := v } : Si50.St) = { s with before := dropB b, votes := v } := by
  unfold Si50.decide_ dropB
  rcases SM.asked_cases b with ⟨q, r, e1, e2, e3⟩ | ⟨e1, c, e2, e3, e4⟩ | ⟨e1, e2, c, e3, e4, e5⟩ | ⟨e1, e2, e3, e4, e5⟩
  · rw [e2]; rfl
  · rw [e3]
    obtain ⟨a0, hf, _⟩ := (B.se c e2).2
    obtain ⟨id, by_, text, first, second, procs, closed, parts⟩ := b
    obtain rfl : first = some a0 := hf
    obtain rfl : second = some c := e2
    rfl
  · rw [e4]
    obtain ⟨id, by_, text, first, second, procs, closed, parts⟩ := b
    obtain rfl : first = some c := e3
    rfl
  · rw [e4]; rfl
theorem step_vote {s : Si50.St} {b : Si50.Before} {y no : List Nat} {c : Nat} (hb : s.before = some b) (h0 : vtR s c (y ++ no) = 0) : Si50.step s (.vote y no c) =
    ({ Si50.decide_ s b (wonV s b (Si50.weightOf s y) (Si50.weightOf s no) c) with votes := s.votes ++ [vt b y no (wonV s b (Si50.weightOf s y) (Si50.weightOf s no) c)] }, ⟨if wonV s b (Si50.weightOf s y) (Si50.weightOf s no) c = true then 1 else 0, Si50.ints [Si50.weightOf s y, Si50.weightOf s no]⟩) := by
  show Si50.on s _ = _
  unfold Si50.on
  unfold vtR at h0
  rw [hb] at h0 ⊢
  rw [if_pos (show (some b).isSome = true from rfl)] at h0
  dsimp only
  split at h0
  · exact absurd h0 (by decide)
  · rename_i c1
    rw [if_neg c1]
    split at h0
    · exact absurd h0 (by decide)
    · rename_i c2
      rw [if_neg c2]
      split at h0
      · exact absurd h0 (by decide)
      · rename_i c3
        rw [if_neg c3]
        split at h0
        · exact absurd h0 (by decide)
        · rename_i c4
          rw [if_neg c4]
          rfl
theorem step_vote_no {s : Si50.St} {y no : List Nat} {c : Nat} (h0 : vtR s c (y ++ no) ≠ 0) : Si50.step s (.vote y no c) = (s, Si50.ok (vtR s c (y ++ no))) := by
  show Si50.on s _ = _
  unfold Si50.on
  unfold vtR at h0 ⊢
  cases hb : s.before with
  | none => rfl
  | some b =>
    rw [hb] at h0
    rw [if_pos (show (some b).isSome = true from rfl)] at h0 ⊢
    dsimp only
    split
    · rfl
    · rename_i c1
      rw [if_neg c1] at h0
      split
      · rfl
      · rename_i c2
        rw [if_neg c2] at h0
        split
        · rfl
        · rename_i c3
          rw [if_neg c3] at h0
          split
          · rfl
          · rename_i c4
            rw [if_neg c4] at h0
            exact absurd rfl h0
theorem vtR_all {s : Si50.St} {c : Nat} {l : List Nat} (h : vtR s c l = 0) : (∃ b, s.before = some b) ∧ ∀ z, z ∈ l → z < s.members.length := by
  unfold vtR at h
  cases hb : s.before with
  | none => rw [hb, if_neg (show ¬ (none : Option Si50.Before).isSome = true from nofun)] at h; exact absurd h (by decide)
  | some b =>
    rw [hb, if_pos (show (some b).isSome = true from rfl)] at h
    refine ⟨⟨b, rfl⟩, fun z hz => ?_⟩
    cases q : l.all fun i => decide (i < s.members.length) with
    | false => rw [q, if_pos rfl] at h; exact absurd h (by decide)
    | true => exact of_decide_eq_true (List.all_eq_true.mp q z hz)
variable {T} in
theorem AsmC.vote {R : Rg} {H : Hp} {p : Addr} {s : Si50.St} {dv : List Si50.Vote} {dx aR aW aT aM : Addr} {mn : V} {aO aP aV aD : Addr} {os ps vs : List V} {kvs : List (Key × V)} {u : Si50.Vote} {z dz : Addr} (h : AsmC T R H p s dv dx aR aW aT aM mn aO aP aV aD os ps vs kvs)
    (hz : At R H z .oth (.ins T.C_Vote.c dz (vtF (.int (u.id : Int)) (.int (Si50.questionOut u.question : Int)) (.int (if u.carried = true then 1 else 0))))) : AsmC T R (upd H aV (.lst (vs ++ [.ref z]))) p { s with votes := s.votes ++ [u] } dv dx aR aW aT aM mn aO aP aV aD os ps (vs ++ [.ref z]) kvs := by
  have f : Fr_ (fun t => t ≠ .mut 6 0) R H R (upd H aV (.lst (vs ++ [.ref z]))) := Fr_.put h.v.1
  obtain ⟨f0, fr, fw, ft, fm, fb, ff, fff, fp, fpp, -, fvv, fd, fdl, fdd⟩ := h.part (k := 6) f (by decide)
  exact ⟨f0 (by decide), fr, fw (by decide), ft (by decide), fm (by decide), fb, ff (by decide), fff, fp (by decide), paired_imp (fun _ _ z => z.more _) fpp, At.self h.v.1, pd_snoc fvv ⟨z, dz, rfl, f _ _ _ nofun hz⟩, fd (by decide), fdl, fdd⟩
def sp_vote : Sp := fun vs H Q _ => ∃ (p a1 a2 : Addr) (c : Int) (y no : List Nat) (s : Si50.St) (n : Nat) (R : Rg), vs = [.ref p, .int c, .ref a1, .ref a2] ∧ Asm T R H p s ∧ SM.WF n s ∧ SM.VF s ∧ n ≤ 100 ∧ At R H a1 .oth (.lst (nl y)) ∧ At R H a2 .oth (.lst (nl no)) ∧ y.length + no.length ≤ 40 ∧ 0 ≤ c ∧
  ∀ R' H' r, Asm T R' H' p (Si50.step s (.vote y no c.toNat)).1 → Kp R H R' H' → At R' H' r .oth (.lst (((Si50.step s (.vote y no c.toNat)).2.v :: (Si50.step s (.vote y no c.toNat)).2.l).map V.int)) → Q (.ref r) H'
theorem ok_vote : FnOk P w K mg base CX0 5 T.f_vote.a T.f_vote.d ["assembly", "chair", "those_for", "those_against"] (sp_vote T) := by
  have G_vote_refusal := ok_vote_refusal (P := P) (w := w) (base := base) T
  have G_weigh := ok_weigh (P := P) (w := w) (base := base) T
  have G_is_carried := ok_is_carried (P := P) (w := w) (base := base) T
  have G_Vote_init := ok_Vote_init (P := P) (w := w) (base := base) T
  have G_carry_asked := ok_carry_asked (P := P) (w := w) (base := base) T
  have G_drop_asked := ok_drop_asked (P := P) (w := w) (base := base) T
  have G_asked_motion := ok_asked_motion (P := P) (w := w) (base := base) T
  have G_asked_sort := ok_asked_sort (P := P) (w := w) (base := base) T
  refine T.f_vote.F.ok sc_vote (fun vs H Q E h => ?_) (fun cdv A outer s H vs Q E hr h => ?_)
  · obtain ⟨_, _, _, _, _, _, _, _, _, rfl, _⟩ := h
    rfl
  · obtain ⟨p, a1, a2, c, y, no, st, n, R, rfl, hA, wf, vf, hn, h1, h2, hl, hc, k⟩ := h
    refine ⟨_, (pss_cons (ps_set (i := 4) sc_vote.nd rfl (Or.inl rfl) (pe_call (G_vote_refusal.mono (by decide)) hr rfl T.f_vote_refusal.g T.f_vote_refusal.F.kp (b_vote_refusal T) .nil pass0 (pa_cons (pv 0) (pa_cons (pv 1) (pa_cons (pe_op op_cat (pv 2) (pv 3)) pa_nil)))))
      (pss_cons (ps_if (pt_cmpR op_ne (pv 4) (pe_gl T.k_NO_REFUSAL) (nomark _))
        (pss_one (ps_ret (pe_lst (pa_cons (pv 4) pa_nil))))
        pss_nil)
      (pss_cons (ps_set (i := 5) sc_vote.nd rfl (Or.inl rfl) (pe_call (G_weigh.mono (by decide)) hr rfl T.f_weigh.g T.f_weigh.F.kp (b_weigh T) .nil pass0 (pa_cons (pv 0) (pa_cons (pv 2) pa_nil))))
      (pss_cons (ps_set (i := 6) sc_vote.nd rfl (Or.inl rfl) (pe_call (G_weigh.mono (by decide)) hr rfl T.f_weigh.g T.f_weigh.F.kp (b_weigh T) .nil pass0 (pa_cons (pv 0) (pa_cons (pv 3) pa_nil))))
      (pss_cons (ps_set (i := 7) sc_vote.nd rfl (Or.inl rfl) (pe_ifExp (pt_val (pe_call (G_is_carried.mono (by decide)) hr rfl T.f_is_carried.g T.f_is_carried.F.kp (b_is_carried T) .nil pass0 (pa_cons (pv 0) (pa_cons (pv 1) (pa_cons (pv 5) (pa_cons (pv 6) pa_nil)))))) pe_int pe_int))
      (pss_cons (ps_expr (pe_lm PySem.F.slot_list_append PySem.F.type_list_append mt_append (pe_fldK (K := K) (pv 0) rfl) (pa_cons (pe_make T.C_Vote.mk_ (G_Vote_init.mono (by decide)) hr rfl T.C_Vote.gc (b_Vote_init T) .nil pass0 (pa_cons (pe_call (G_asked_motion.mono (by decide)) hr rfl T.f_asked_motion.g T.f_asked_motion.F.kp (b_asked_motion T) .nil pass0 (pa_cons (pe_fldK (K := K) (pv 0) rfl) pa_nil)) (pa_cons (pe_call (G_asked_sort.mono (by decide)) hr rfl T.f_asked_sort.g T.f_asked_sort.F.kp (b_asked_sort T) .nil pass0 (pa_cons (pe_fldK (K := K) (pv 0) rfl) pa_nil)) (pa_cons (pv 7) pa_nil)))) pa_nil)))
      (pss_cons (ps_if (pt_cmpR op_eq (pv 7) pe_int (nomark _))
        (pss_one (ps_expr (pe_call (G_carry_asked.mono (by decide)) hr rfl T.f_carry_asked.g T.f_carry_asked.F.kp (b_carry_asked T) .nil pass0 (pa_cons (pv 0) (pa_cons (pv 2) pa_nil)))))
        (pss_one (ps_expr (pe_call (G_drop_asked.mono (by decide)) hr rfl T.f_drop_asked.g T.f_drop_asked.F.kp (b_drop_asked T) .nil pass0 (pa_cons (pv 0) pa_nil)))))
      (pss_one (ps_ret (pe_lst (pa_cons (pv 7) (pa_cons (pv 5) (pa_cons (pv 6) pa_nil))))))))))))), ?_⟩
    simp_arith [h1.2, h2.2, nl_len]
    refine ⟨smal (by omega), fun p1 hp1 => ?_⟩
    have e0 : nl y ++ nl no = nl (y ++ no) := by unfold nl; rw [List.map_append]
    rw [e0]
    have f1 : Fa R H (setR R p1 .oth) (upd H p1 (.lst (nl (y ++ no)))) := Fr_.new hp1
    have t1 : At (setR R p1 .oth) (upd H p1 (.lst (nl (y ++ no)))) p1 .oth (.lst (nl (y ++ no))) := At.made
    generalize setR R p1 .oth = R1 at f1 t1
    generalize upd H p1 (.lst (nl (y ++ no))) = H1 at f1 t1 ⊢
    simp_arith [sp_vote_refusal]
    refine ⟨y ++ no, st, st.votes, R1, hA.fa f1, t1, by rw [List.length_append]; omega, wf.mem, hc, fun R2 H2 f2 => ?_⟩
    have f12 := f1.trans f2
    have hA2 : Asm T R2 H2 p st := hA.fa f12
    have h12 := f12 _ _ _ trivial h1
    have h22 := f12 _ _ _ trivial h2
    by_cases c0 : vtR st c.toNat (y ++ no) = 0
    · obtain ⟨⟨b, hb⟩, hall⟩ := vtR_all c0
      rw [step_vote hb c0] at k
      simp_arith [c0, sp_weigh]
      refine ⟨y, st, st.votes, R2, hA2, h12.2, by omega, fun z hz => hall z (List.mem_append_left _ hz), fun R3 H3 f3 => ?_⟩
      have f13 := f12.trans f3
      have hA3 : Asm T R3 H3 p st := hA.fa f13
      have h23 := f13 _ _ _ trivial h2
      refine ⟨no, st, st.votes, R3, hA3, h23.2, by omega, fun z hz => hall z (List.mem_append_right _ hz), fun R4 H4 f4 => ?_⟩
      have f14 := f13.trans f4
      have hA4 : Asm T R4 H4 p st := hA.fa f14
      simp_arith [sp_is_carried]
      generalize Si50.weightOf st y = ga at k ⊢
      generalize Si50.weightOf st no = gd at k ⊢
      refine ⟨ga, rfl, gd, rfl, st, b, st.votes, R4, hA4, hb, wf.mem, hc, fun R5 H5 f5 => ?_⟩
      have f15 := f14.trans f5
      obtain ⟨dx, aR, aW, aT, aM, mn, aO, aP, aV, aD, os, ps, vs', kvs, hB5⟩ := (show Asm T R5 H5 p st from hA.fa f15)
      have hx := hB5.b
      rw [hb] at hx
      obtain ⟨x, rfl, hM5⟩ := hx
      have hlen := pd_len hB5.vv
      have hvn := wf.vn
      cases ew : wonV st b ga gd c.toNat with
      | true =>
        rw [ew] at k
        rw [if_pos rfl]
        simp_arith [hB5.o.2, hB5.v.2, T.C_Assembly.cl, n_Assembly_votes T, n_Assembly_main T, sp_asked_motion]
        refine ⟨b, R5, hM5, ?_⟩
        simp_arith [sp_asked_sort]
        refine ⟨b, R5, hM5, ?_⟩
        simp_arith [sp_Vote_init]
        intro z dz hz hdz nz
        have i1 : aV ≠ z := ne_of_none hB5.v.2 hz
        have i2 : aV ≠ dz := ne_of_none hB5.v.2 hdz
        simp_arith [upd_ne i1, upd_ne i2, hB5.v.2]
        refine ⟨small (by omega), ?_⟩
        obtain ⟨g1, g2⟩ := made (R := R5) (C := T.C_Vote.c) (fs := vtF (.int (Si50.idOf b : Int)) (.int (Si50.questionOut (Si50.asked b) : Int)) (.int 1)) (t := .oth) hz hdz nz
        have B6 := hB5.fa g1
        have f16 := f15.trans g1
        generalize setR (setR R5 dz .oth) z .oth = R6 at g1 g2 B6 f16
        generalize upd (upd H5 dz (.own z)) z (.ins T.C_Vote.c dz (vtF (.int (Si50.idOf b : Int)) (.int (Si50.questionOut (Si50.asked b) : Int)) (.int 1))) = H6 at g1 g2 B6 f16 ⊢
        have B7 := B6.vote (u := vt b y no true) (z := z) (dz := dz) g2
        have fv : Fr_ (fun t => t ≠ .mut 6 0) R6 H6 R6 (upd H6 aV (.lst (vs' ++ [.ref z]))) := Fr_.put B6.v.1
        have h17 := fv a1 .oth _ nofun (f16 _ _ _ trivial h1)
        have k7 := f16.kpa.trans fv.kpm
        generalize upd H6 aV (.lst (vs' ++ [.ref z])) = H7 at B7 fv h17 k7 ⊢
        simp_arith [sp_carry]
        refine ⟨st, b, y, no, n, R6, ⟨dx, aR, aW, aT, aM, .ref x, aO, aP, aV, aD, os, ps, _, kvs, B7⟩, hb, wf, vf, hn, h17, fun R8 H8 A8 k8 => ?_⟩
        refine ⟨smal (by decide), fun r hr0 => k (setR R8 r .oth) _ r (AsmX.fa A8 (Fr_.new hr0)) ((k7.trans k8).trans (Kp.new hr0)) At.made⟩
      | false =>
        rw [ew] at k
        rw [if_neg (by decide)]
        simp_arith [hB5.o.2, hB5.v.2, T.C_Assembly.cl, n_Assembly_votes T, n_Assembly_main T, sp_asked_motion]
        refine ⟨b, R5, hM5, ?_⟩
        simp_arith [sp_asked_sort]
        refine ⟨b, R5, hM5, ?_⟩
        simp_arith [sp_Vote_init]
        intro z dz hz hdz nz
        have i1 : aV ≠ z := ne_of_none hB5.v.2 hz
        have i2 : aV ≠ dz := ne_of_none hB5.v.2 hdz
        simp_arith [upd_ne i1, upd_ne i2, hB5.v.2]
        refine ⟨small (by omega), ?_⟩
        obtain ⟨g1, g2⟩ := made (R := R5) (C := T.C_Vote.c) (fs := vtF (.int (Si50.idOf b : Int)) (.int (Si50.questionOut (Si50.asked b) : Int)) (.int 0)) (t := .oth) hz hdz nz
        have B6 := hB5.fa g1
        have f16 := f15.trans g1
        generalize setR (setR R5 dz .oth) z .oth = R6 at g1 g2 B6 f16
        generalize upd (upd H5 dz (.own z)) z (.ins T.C_Vote.c dz (vtF (.int (Si50.idOf b : Int)) (.int (Si50.questionOut (Si50.asked b) : Int)) (.int 0))) = H6 at g1 g2 B6 f16 ⊢
        have B7 := B6.vote (u := vt b y no false) (z := z) (dz := dz) g2
        have fv : Fr_ (fun t => t ≠ .mut 6 0) R6 H6 R6 (upd H6 aV (.lst (vs' ++ [.ref z]))) := Fr_.put B6.v.1
        have h17 := fv a1 .oth _ nofun (f16 _ _ _ trivial h1)
        have k7 := f16.kpa.trans fv.kpm
        generalize upd H6 aV (.lst (vs' ++ [.ref z])) = H7 at B7 fv h17 k7 ⊢
        simp_arith [sp_drop_asked]
        refine ⟨_, b, st.votes, R6, ⟨dx, aR, aW, aT, aM, .ref x, aO, aP, aV, aD, os, ps, _, kvs, B7⟩, hb, wf.nd, fun R8 H8 A8 k8 => ?_⟩
        rw [lost_eq (wf.before hb)] at k
        have A9 : AsmX T R8 H8 p { st with before := dropB b, votes := st.votes ++ [vt b y no false] } (st.votes ++ [vt b y no false]) :=
          AsmX.dv A8 (by rw [List.length_append]; omega) fun kvs h => h.no fun z => by cases z.2
        refine ⟨smal (by decide), fun r hr0 => k (setR R8 r .oth) _ r (AsmX.fa A9 (Fr_.new hr0)) ((k7.trans k8).trans (Kp.new hr0)) At.made⟩
    · rw [step_vote_no c0] at k
      simp_arith [c0]
      refine ⟨smal (by decide), fun r hr0 => k (setR R2 r .oth) _ r (hA2.fa (Fr_.new hr0)) ?_ At.made⟩
      exact f12.kpa.trans (Kp.new hr0)
end
end My

end

section
set_option Elab.async false
set_option linter.all false
set_option maxRecDepth 100000
set_option maxHeartbeats 4000000
namespace SM
open Si50
section
variable {k : Int} {ns : List Int} {q : Call}
theorem is0 (h : Is k ns q) (e : k = 0) : ∃ u v w x y z a b c d f, ns = [u, v, w, x, y, z] ∧ q = .begins ⟨u.toNat, a, b, c, d, f⟩ ∧ Si50Neutral.majorOf v.toNat = some a ∧ Si50Neutral.majorOf w.toNat = some b ∧ Si50Neutral.majorOf x.toNat = some c ∧ Si50Neutral.majorOf y.toNat = some d ∧ Si50Neutral.majorOf z.toNat = some f := by
  cases h <;> first | (exact absurd e (by decide)) | exact ⟨_, _, _, _, _, _, _, _, _, _, _, rfl, rfl, by assumption, by assumption, by assumption, by assumption, by assumption⟩
theorem is1 (h : Is k ns q) (e : k = 1) : ∃ x, ns = [x] ∧ q = .member x.toNat := by cases h <;> first | (exact absurd e (by decide)) | exact ⟨_, rfl, rfl⟩
theorem is2 (h : Is k ns q) (e : k = 2) : ∃ x y, ns = [x, y] ∧ q = .comes x.toNat (y.toNat == 1) := by cases h <;> first | (exact absurd e (by decide)) | exact ⟨_, _, rfl, rfl⟩
theorem is3 (h : Is k ns q) (e : k = 3) : ∃ x ys, ns = x :: ys ∧ q = .move x.toNat (ys.map Int.toNat) ∧ ys.length ≤ 40 := by cases h <;> first | (exact absurd e (by decide)) | exact ⟨_, _, rfl, rfl, by assumption⟩
theorem is4 (h : Is k ns q) (e : k = 4) : ∃ x i j ys, ns = x :: i :: j :: ys ∧ q = .amend x.toNat i.toNat j.toNat (ys.map Int.toNat) ∧ ys.length ≤ 40 := by cases h <;> first | (exact absurd e (by decide)) | exact ⟨_, _, _, _, rfl, rfl, by assumption⟩
theorem is5 (h : Is k ns q) (e : k = 5) : ∃ x y p, ns = [x, y] ∧ q = .go x.toNat p ∧ Si50Neutral.procOf y.toNat = some p := by cases h <;> first | (exact absurd e (by decide)) | exact ⟨_, _, _, rfl, rfl, by assumption⟩
theorem is6 (h : Is k ns q) (e : k = 6) : ∃ x y, ns = [x, y] ∧ q = .divide x.toNat y.toNat := by cases h <;> first | (exact absurd e (by decide)) | exact ⟨_, _, rfl, rfl⟩
theorem is7 (h : Is k ns q) (e : k = 7) : ∃ x, ns = [x] ∧ q = .withdraw x.toNat := by cases h <;> first | (exact absurd e (by decide)) | exact ⟨_, rfl, rfl⟩
theorem is8 (h : Is k ns q) (e : k = 8) : ∃ x y, ns = [x, y] ∧ q = .take x.toNat y.toNat := by cases h <;> first | (exact absurd e (by decide)) | exact ⟨_, _, rfl, rfl⟩
theorem is9 (h : Is k ns q) (e : k = 9) : ∃ c n ys, ns = c :: n :: ys ∧ q = .vote ((ys.take n.toNat).map Int.toNat) ((ys.drop n.toNat).map Int.toNat) c.toNat ∧ n.toNat ≤ ys.length ∧ ys.length ≤ 40 := by cases h <;> first | (exact absurd e (by decide)) | exact ⟨_, _, _, rfl, rfl, by assumption, by assumption⟩
theorem is10 (h : Is k ns q) (e : k = 10) : q = .asked := by cases h <;> first | (exact absurd e (by decide)) | rfl
theorem is11 (h : Is k ns q) (e : k = 11) : q = .text := by cases h <;> first | (exact absurd e (by decide)) | rfl
theorem is12 (h : Is k ns q) (e : k = 12) : ∃ x, ns = [x] ∧ q = .passed x.toNat := by cases h <;> first | (exact absurd e (by decide)) | exact ⟨_, rfl, rfl⟩
theorem is13 (h : Is k ns q) (e : k = 13) : ∃ x y, ns = [x, y] ∧ q = .who x.toNat y.toNat := by cases h <;> first | (exact absurd e (by decide)) | exact ⟨_, _, rfl, rfl⟩
theorem is14 (h : Is k ns q) (e : k = 14) : q = .votes := by cases h <;> first | (exact absurd e (by decide)) | rfl
end
end SM
namespace L2
open PySem PySem.Spec PyProof.Rows
theorem cutA (x y : V) (l : List V) (n : Int) (h : 0 ≤ n) : cutV (x :: y :: l) (some 2) (some (2 + n)) = l.take n.toNat := by
  have e : (2 : Int) + n = ((2 + n.toNat : Nat) : Int) := by omega
  rw [e]
  show cutV (x :: y :: l) (some ((2 : Nat) : Int)) _ = _
  unfold cutV
  rw [HT.sIx_nat, HT.sIx_nat, List.length_cons, List.length_cons, Nat.min_eq_left (show 2 ≤ l.length + 1 + 1 by omega)]
  show (l.take _) = _
  by_cases c : n.toNat ≤ l.length
  · rw [Nat.min_eq_left (by omega)]
    congr 1
    omega
  · rw [Nat.min_eq_right (by omega), List.take_of_length_le (by omega), List.take_of_length_le (by omega)]
theorem cutB (x y : V) (l : List V) (n : Int) (h : 0 ≤ n) : cutV (x :: y :: l) (some (2 + n)) none = l.drop n.toNat := by
  have e : (2 : Int) + n = ((2 + n.toNat : Nat) : Int) := by omega
  rw [e, cut_from, Nat.add_comm]
  rfl
end L2
namespace My
open PySem PySem.Spec PyProof.Rows L2
section
variable {P : Program} {w : World} {K : PySem.W.Frag} {mg : Str → Option Value} {base : Heap} (T : Tx K mg)
/-- the promise of the def for the k-th call -/
def sp_call (k : Int) : Sp := fun vs H Q _ => ∃ (p a : Addr) (ns : List Int) (s : Si50.St) (n : Nat) (R : Rg) (q : Si50.Call), vs = [.ref p, .ref a] ∧ At R H a .oth (.lst (ns.map V.int)) ∧ Asm T R H p s ∧ SM.WF n s ∧ SM.VF s ∧ n < 100 ∧ SM.Is k ns q ∧ (∀ z, z ∈ ns → 0 ≤ z ∧ z < 4294967296) ∧
  ∀ R' H' r, Asm T R' H' p (Si50.step s q).1 → Kp R H R' H' → At R' H' r .oth (.lst (((Si50.step s q).2.v :: (Si50.step s q).2.l).map V.int)) → Q (.ref r) H'
/-- the answer is one number, put into a new list -/
theorem one_ans {R : Rg} {H : Hp} {Q : VK} {p : Addr} {s : Si50.St} {v : Int} {ll : List Int} (k : ∀ R' H' r, Asm T R' H' p s → Kp R H R' H' → At R' H' r .oth (.lst ((v :: ll).map V.int)) → Q (.ref r) H') (hl : ll = []) {R2 : Rg} {H2 : Hp} (hA : Asm T R2 H2 p s) (hk : Kp R H R2 H2) :
    [V.int v].length ≤ sizeLine ∧ ∀ r, H2 r = none → Q (.ref r) (upd H2 r (.lst [V.int v])) := by
  subst hl
  exact ⟨smal (by show 1 ≤ 1000000; decide), fun r hr => k _ _ r (hA.fa (Fr_.new hr)) (hk.trans (Kp.new hr)) At.made⟩
theorem ll_member (s : Si50.St) (x : Nat) : (Si50.step s (.member x)).2.l = [] := by
  show ((if _ then _ else if _ then _ else _ : Si50.St × Si50.Ans)).2.l = []
  split
  · rfl
  · split <;> rfl
theorem ll_comes (s : Si50.St) (x : Nat) (b : Bool) : (Si50.step s (.comes x b)).2.l = [] := by
  show ((match s.members[x]? with
    | none => (s, Si50.ok (-2))
    | some y => ({ s with members := s.members.set x { y with here := b } }, Si50.ok 0) : Si50.St × Si50.Ans)).2.l = []
  split <;> rfl
theorem ll_mover (s : Si50.St) (m : Nat) (f : Si50.St × Si50.Ans) (h : f.2.l = []) : (Si50.mover s m f).2.l = [] := by
  unfold Si50.mover
  split
  · rfl
  · split
    · rfl
    · exact h
theorem ll_on (s : Si50.St) (f : Si50.Before → Si50.St × Si50.Ans) (h : ∀ b, (f b).2.l = []) : (Si50.on s f).2.l = [] := by
  unfold Si50.on
  split
  · rfl
  · exact h _
theorem ll_move (s : Si50.St) (m : Nat) (l : List Nat) : (Si50.step s (.move m l)).2.l = [] := by
  refine ll_mover s m _ ?_
  split
  · rfl
  · split
    · rfl
    · split <;> rfl
theorem ll_amend (s : Si50.St) (m i j : Nat) (l : List Nat) : (Si50.step s (.amend m i j l)).2.l = [] := by
  refine ll_mover s m _ (ll_on s _ fun b => ?_)
  dsimp only
  split
  · rfl
  · split
    · rfl
    · split
      all_goals
        split
        · rfl
        · split <;> rfl
theorem ll_go (s : Si50.St) (m : Nat) (p : Si50.Proc) : (Si50.step s (.go m p)).2.l = [] := by
  refine ll_mover s m _ (ll_on s _ fun b => ?_)
  split
  · rfl
  · split <;> rfl
theorem ll_divide (s : Si50.St) (m i : Nat) : (Si50.step s (.divide m i)).2.l = [] := by
  refine ll_mover s m _ (ll_on s _ fun b => ?_)
  split
  · rfl
  · split <;> rfl
theorem ll_withdraw (s : Si50.St) (m : Nat) : (Si50.step s (.withdraw m)).2.l = [] := by
  refine ll_mover s m _ (ll_on s _ fun b => ?_)
  split
  · split <;> rfl
  · split
    · split <;> rfl
    · split <;> rfl
    · split <;> rfl
theorem ll_take (s : Si50.St) (m i : Nat) : (Si50.step s (.take m i)).2.l = [] := by
  refine ll_mover s m _ ?_
  split
  · rfl
  · split <;> rfl
theorem major_kd {v : Int} {m : Si50.Major} (h0 : 0 ≤ v) (h : Si50Neutral.majorOf v.toNat = some m) : v = kd m := by
  unfold Si50Neutral.majorOf at h
  by_cases e0 : v.toNat = 0
  · rw [if_pos e0] at h; cases h; show v = 0; omega
  · rw [if_neg e0] at h
    by_cases e1 : v.toNat = 1
    · rw [if_pos e1] at h; cases h; show v = 1; omega
    · rw [if_neg e1] at h
      by_cases e2 : v.toNat = 2
      · rw [if_pos e2] at h; cases h; show v = 2; omega
      · rw [if_neg e2] at h
        by_cases e3 : v.toNat = 3
        · rw [if_pos e3] at h; cases h; show v = 3; omega
        · rw [if_neg e3] at h
          by_cases e4 : v.toNat = 4
          · rw [if_pos e4] at h; cases h; show v = 4; omega
          · rw [if_neg e4] at h; cases h
theorem proc_rank {v : Int} {p : Si50.Proc} (h0 : 0 ≤ v) (h : Si50Neutral.procOf v.toNat = some p) : v = (Si50.rank p : Int) := by
  unfold Si50Neutral.procOf at h
  by_cases e0 : v.toNat = 0
  · rw [if_pos e0] at h; cases h; show v = 0; omega
  · rw [if_neg e0] at h
    by_cases e1 : v.toNat = 1
    · rw [if_pos e1] at h; cases h; show v = 1; omega
    · rw [if_neg e1] at h
      by_cases e2 : v.toNat = 2
      · rw [if_pos e2] at h; cases h; show v = 2; omega
      · rw [if_neg e2] at h; cases h
theorem ok_call_begins : FnOk P w K mg base CX0 2 T.f_call_begins.a T.f_call_begins.d ["assembly", "numbers"] (sp_call T 0) := by
  have G_Assembly_begin := ok_Assembly_begin (P := P) (w := w) (base := base) T
  refine T.f_call_begins.F.ok sc_call_begins (fun vs H Q E h => ?_) (fun cdv A outer s H vs Q E hr h => ?_)
  · obtain ⟨_, _, _, _, _, _, _, rfl, _⟩ := h
    rfl
  · obtain ⟨p, a, ns, st, n, R, q, rfl, ha, hA, wf, vf, hn, his, hz, k⟩ := h
    obtain ⟨u, v, w', x, y, z, m1, m2, m3, m4, m5, rfl, rfl, e1, e2, e3, e4, e5⟩ := SM.is0 his rfl
    obtain ⟨dx, aR, aW, aT, aM, mn, aO, aP, aV, aD, os, ps, vs', kvs, hB⟩ := id hA
    refine ⟨_, (pss_cons (ps_expr (pe_meth (pv 0) T.C_Assembly.cl T.m_Assembly_begin (G_Assembly_begin.mono (by decide)) hr (b_Assembly_begin T) .nil pass0 (pa_cons (pe_ix ix_lst (pv 1) pe_int (fun _ _ => rfl)) (pa_cons (pe_callTy call_tupL (by rfl) T.b_tuple boot_tupT (pa_cons (pe_slice sl_lst (pv 1) (po_some pe_int) po_none) pa_nil)) pa_nil))))
      (pss_one (ps_ret (pe_lst (pa_cons pe_int pa_nil))))), ?_⟩
    simp_arith [ha.2, hB.o.2, sp_Assembly_begin]
    intro p1 h1
    intro p2 h2
    have fA : Fa R H (setR R p1 .oth) (upd H p1 (.lst [V.int v, V.int w', V.int x, V.int y, V.int z])) := Fr_.new h1
    have fB : Fa _ _ (setR (setR R p1 .oth) p2 .oth) (upd (upd H p1 (.lst [V.int v, V.int w', V.int x, V.int y, V.int z])) p2 (.tup [V.int v, V.int w', V.int x, V.int y, V.int z])) := fA.trans (Fr_.new h2)
    have hu := (hz u (by simp)).1
    have ev := major_kd (hz v (by simp)).1 e1
    have ew := major_kd (hz w' (by simp)).1 e2
    have ex := major_kd (hz x (by simp)).1 e3
    have ey := major_kd (hz y (by simp)).1 e4
    have ez := major_kd (hz z (by simp)).1 e5
    have er : [V.int v, V.int w', V.int x, V.int y, V.int z] = rl ⟨u.toNat, m1, m2, m3, m4, m5⟩ := by
      rw [ev, ew, ex, ey, ez]
      rfl
    have t2 : At (setR (setR R p1 .oth) p2 .oth) (upd (upd H p1 (.lst [V.int v, V.int w', V.int x, V.int y, V.int z])) p2 (.tup [V.int v, V.int w', V.int x, V.int y, V.int z])) p2 .oth (.tup [V.int v, V.int w', V.int x, V.int y, V.int z]) := At.made
    refine ⟨dx, p2, _, ⟨u.toNat, m1, m2, m3, m4, m5⟩, (Int.toNat_of_nonneg hu).symm, rfl, _, fB _ _ _ trivial hB.o, .inr ⟨_, _, _, _, _, _, _, _, _, _, rfl⟩, .inr (er ▸ t2), fun R' H' h3 h4 => ?_⟩
    exact ⟨smal (by decide), fun r hr0 => k (setR R' r .oth) _ r (AsmX.fa h3 (Fr_.new hr0)) ((fB.kpa.trans h4.kpm).trans (Kp.new hr0)) At.made⟩
theorem ok_call_member : FnOk P w K mg base CX0 2 T.f_call_member.a T.f_call_member.d ["assembly", "numbers"] (sp_call T 1) := by
  have G_admit := ok_admit (P := P) (w := w) (base := base) T
  refine T.f_call_member.F.ok sc_call_member (fun vs H Q E h => ?_) (fun cdv A outer s H vs Q E hr h => ?_)
  · obtain ⟨_, _, _, _, _, _, _, rfl, _⟩ := h
    rfl
  · obtain ⟨p, a, ns, st, n, R, q, rfl, ha, hA, wf, vf, hn, his, hz, k⟩ := h
    obtain ⟨x, rfl, rfl⟩ := SM.is1 his rfl
    have hx := hz x (by simp)
    refine ⟨_, (pss_one (ps_ret (pe_lst (pa_cons (pe_call (G_admit.mono (by decide)) hr rfl T.f_admit.g T.f_admit.F.kp (b_admit T) .nil pass0 (pa_cons (pv 0) (pa_cons (pe_ix ix_lst (pv 1) pe_int (fun _ _ => rfl)) pa_nil))) pa_nil)))), ?_⟩
    simp_arith [ha.2, sp_admit]
    exact ⟨st, R, hA, hx.1, wf.mem, fun R' H' h1 h2 => one_ans T k (ll_member _ _) h1 h2⟩
theorem ok_call_comes : FnOk P w K mg base CX0 3 T.f_call_comes.a T.f_call_comes.d ["assembly", "numbers"] (sp_call T 2) := by
  have G_comes := ok_comes (P := P) (w := w) (base := base) T
  refine T.f_call_comes.F.ok sc_call_comes (fun vs H Q E h => ?_) (fun cdv A outer s H vs Q E hr h => ?_)
  · obtain ⟨_, _, _, _, _, _, _, rfl, _⟩ := h
    rfl
  · obtain ⟨p, a, ns, st, n, R, q, rfl, ha, hA, wf, vf, hn, his, hz, k⟩ := h
    obtain ⟨x, y, rfl, rfl⟩ := SM.is2 his rfl
    have hx := hz x (by simp)
    have hy := hz y (by simp)
    refine ⟨_, (pss_one (ps_ret (pe_lst (pa_cons (pe_call (G_comes.mono (by decide)) hr rfl T.f_comes.g T.f_comes.F.kp (b_comes T) .nil pass0 (pa_cons (pv 0) (pa_cons (pe_ix ix_lst (pv 1) pe_int (fun _ _ => rfl)) (pa_cons (pe_ix ix_lst (pv 1) pe_int (fun _ _ => rfl)) pa_nil)))) pa_nil)))), ?_⟩
    simp_arith [ha.2, sp_comes]
    exact ⟨st, R, hA, hx.1, hy.1, fun R' H' h1 h2 => one_ans T k (ll_comes _ _ _) h1 h2⟩
theorem ok_call_move : FnOk P w K mg base CX0 5 T.f_call_move.a T.f_call_move.d ["assembly", "numbers"] (sp_call T 3) := by
  have G_move := ok_move (P := P) (w := w) (base := base) T
  refine T.f_call_move.F.ok sc_call_move (fun vs H Q E h => ?_) (fun cdv A outer s H vs Q E hr h => ?_)
  · obtain ⟨_, _, _, _, _, _, _, rfl, _⟩ := h
    rfl
  · obtain ⟨p, a, ns, st, n, R, q, rfl, ha, hA, wf, vf, hn, his, hz, k⟩ := h
    obtain ⟨x, ys, rfl, rfl, hl⟩ := SM.is3 his rfl
    have hx := hz x (by simp)
    refine ⟨_, (pss_one (ps_ret (pe_lst (pa_cons (pe_call (G_move.mono (by decide)) hr rfl T.f_move.g T.f_move.F.kp (b_move T) .nil pass0 (pa_cons (pv 0) (pa_cons (pe_ix ix_lst (pv 1) pe_int (fun _ _ => rfl)) (pa_cons (pe_slice sl_lst (pv 1) (po_some pe_int) po_none) pa_nil)))) pa_nil)))), ?_⟩
    simp_arith [ha.2, sp_move]
    intro p1 h1
    have f1 : Fa R H (setR R p1 .oth) (upd H p1 (.lst (ys.map V.int))) := Fr_.new h1
    exact ⟨ys, st, n, setR R p1 .oth, hA.fa f1, wf, hx.1, At.made, fun z hz' => (hz z (List.mem_cons_of_mem _ hz')).1, hl, fun R' H' h1 h2 => one_ans T k (ll_move _ _ _) h1 (f1.kpa.trans h2)⟩
theorem ok_call_amend : FnOk P w K mg base CX0 6 T.f_call_amend.a T.f_call_amend.d ["assembly", "numbers"] (sp_call T 4) := by
  have G_amend := ok_amend (P := P) (w := w) (base := base) T
  refine T.f_call_amend.F.ok sc_call_amend (fun vs H Q E h => ?_) (fun cdv A outer s H vs Q E hr h => ?_)
  · obtain ⟨_, _, _, _, _, _, _, rfl, _⟩ := h
    rfl
  · obtain ⟨p, a, ns, st, n, R, q, rfl, ha, hA, wf, vf, hn, his, hz, k⟩ := h
    obtain ⟨x, i, j, ys, rfl, rfl, hl⟩ := SM.is4 his rfl
    have hx := hz x (by simp)
    have hi := hz i (by simp)
    have hj := hz j (by simp)
    refine ⟨_, (pss_one (ps_ret (pe_lst (pa_cons (pe_call (G_amend.mono (by decide)) hr rfl T.f_amend.g T.f_amend.F.kp (b_amend T) .nil pass0 (pa_cons (pv 0) (pa_cons (pe_ix ix_lst (pv 1) pe_int (fun _ _ => rfl)) (pa_cons (pe_ix ix_lst (pv 1) pe_int (fun _ _ => rfl)) (pa_cons (pe_ix ix_lst (pv 1) pe_int (fun _ _ => rfl)) (pa_cons (pe_slice sl_lst (pv 1) (po_some pe_int) po_none) pa_nil)))))) pa_nil)))), ?_⟩
    simp_arith [ha.2, sp_amend]
    intro p1 h1
    have f1 : Fa R H (setR R p1 .oth) (upd H p1 (.lst (ys.map V.int))) := Fr_.new h1
    exact ⟨ys, st, n, setR R p1 .oth, hA.fa f1, wf, hx.1, hi.1, hj.1, At.made, fun z hz' => (hz z (List.mem_cons_of_mem _ (List.mem_cons_of_mem _ (List.mem_cons_of_mem _ hz')))).1, hl, fun R' H' h1 h2 => one_ans T k (ll_amend _ _ _ _ _) h1 (f1.kpa.trans h2)⟩
theorem ok_call_go : FnOk P w K mg base CX0 6 T.f_call_go.a T.f_call_go.d ["assembly", "numbers"] (sp_call T 5) := by
  have G_go := ok_go (P := P) (w := w) (base := base) T
  refine T.f_call_go.F.ok sc_call_go (fun vs H Q E h => ?_) (fun cdv A outer s H vs Q E hr h => ?_)
  · obtain ⟨_, _, _, _, _, _, _, rfl, _⟩ := h
    rfl
  · obtain ⟨p, a, ns, st, n, R, q, rfl, ha, hA, wf, vf, hn, his, hz, k⟩ := h
    obtain ⟨x, y, pr, rfl, rfl, hp⟩ := SM.is5 his rfl
    have hx := hz x (by simp)
    have hy := hz y (by simp)
    refine ⟨_, (pss_one (ps_ret (pe_lst (pa_cons (pe_call (G_go.mono (by decide)) hr rfl T.f_go.g T.f_go.F.kp (b_go T) .nil pass0 (pa_cons (pv 0) (pa_cons (pe_ix ix_lst (pv 1) pe_int (fun _ _ => rfl)) (pa_cons (pe_ix ix_lst (pv 1) pe_int (fun _ _ => rfl)) pa_nil)))) pa_nil)))), ?_⟩
    simp_arith [ha.2, sp_go]
    exact ⟨pr, st, n, R, hA, wf, hx.1, proc_rank hy.1 hp, fun R' H' h1 h2 => one_ans T k (ll_go _ _ _) h1 h2⟩
theorem ok_call_divide : FnOk P w K mg base CX0 6 T.f_call_divide.a T.f_call_divide.d ["assembly", "numbers"] (sp_call T 6) := by
  have G_divide := ok_divide (P := P) (w := w) (base := base) T
  refine T.f_call_divide.F.ok sc_call_divide (fun vs H Q E h => ?_) (fun cdv A outer s H vs Q E hr h => ?_)
  · obtain ⟨_, _, _, _, _, _, _, rfl, _⟩ := h
    rfl
  · obtain ⟨p, a, ns, st, n, R, q, rfl, ha, hA, wf, vf, hn, his, hz, k⟩ := h
    obtain ⟨x, y, rfl, rfl⟩ := SM.is6 his rfl
    have hx := hz x (by simp)
    have hy := hz y (by simp)
    refine ⟨_, (pss_one (ps_ret (pe_lst (pa_cons (pe_call (G_divide.mono (by decide)) hr rfl T.f_divide.g T.f_divide.F.kp (b_divide T) .nil pass0 (pa_cons (pv 0) (pa_cons (pe_ix ix_lst (pv 1) pe_int (fun _ _ => rfl)) (pa_cons (pe_ix ix_lst (pv 1) pe_int (fun _ _ => rfl)) pa_nil)))) pa_nil)))), ?_⟩
    simp_arith [ha.2, sp_divide]
    exact ⟨st, n, R, hA, wf, by omega, hx.1, hy.1, fun R' H' h1 h2 => one_ans T k (ll_divide _ _ _) h1 h2⟩
theorem ok_call_withdraw : FnOk P w K mg base CX0 5 T.f_call_withdraw.a T.f_call_withdraw.d ["assembly", "numbers"] (sp_call T 7) := by
  have G_withdraw := ok_withdraw (P := P) (w := w) (base := base) T
  refine T.f_call_withdraw.F.ok sc_call_withdraw (fun vs H Q E h => ?_) (fun cdv A outer s H vs Q E hr h => ?_)
  · obtain ⟨_, _, _, _, _, _, _, rfl, _⟩ := h
    rfl
  · obtain ⟨p, a, ns, st, n, R, q, rfl, ha, hA, wf, vf, hn, his, hz, k⟩ := h
    obtain ⟨x, rfl, rfl⟩ := SM.is7 his rfl
    have hx := hz x (by simp)
    refine ⟨_, (pss_one (ps_ret (pe_lst (pa_cons (pe_call (G_withdraw.mono (by decide)) hr rfl T.f_withdraw.g T.f_withdraw.F.kp (b_withdraw T) .nil pass0 (pa_cons (pv 0) (pa_cons (pe_ix ix_lst (pv 1) pe_int (fun _ _ => rfl)) pa_nil))) pa_nil)))), ?_⟩
    simp_arith [ha.2, sp_withdraw]
    exact ⟨st, n, R, hA, wf, hx.1, fun R' H' h1 h2 => one_ans T k (ll_withdraw _ _) h1 h2⟩
theorem ok_call_take : FnOk P w K mg base CX0 5 T.f_call_take.a T.f_call_take.d ["assembly", "numbers"] (sp_call T 8) := by
  have G_take := ok_take (P := P) (w := w) (base := base) T
  refine T.f_call_take.F.ok sc_call_take (fun vs H Q E h => ?_) (fun cdv A outer s H vs Q E hr h => ?_)
  · obtain ⟨_, _, _, _, _, _, _, rfl, _⟩ := h
    rfl
  · obtain ⟨p, a, ns, st, n, R, q, rfl, ha, hA, wf, vf, hn, his, hz, k⟩ := h
    obtain ⟨x, y, rfl, rfl⟩ := SM.is8 his rfl
    have hx := hz x (by simp)
    have hy := hz y (by simp)
    refine ⟨_, (pss_one (ps_ret (pe_lst (pa_cons (pe_call (G_take.mono (by decide)) hr rfl T.f_take.g T.f_take.F.kp (b_take T) .nil pass0 (pa_cons (pv 0) (pa_cons (pe_ix ix_lst (pv 1) pe_int (fun _ _ => rfl)) (pa_cons (pe_ix ix_lst (pv 1) pe_int (fun _ _ => rfl)) pa_nil)))) pa_nil)))), ?_⟩
    simp_arith [ha.2, sp_take]
    exact ⟨st, n, R, hA, wf, by omega, hx.1, hy.1, fun R' H' h1 h2 => one_ans T k (ll_take _ _ _) h1 h2⟩
theorem nl_nat {l : List Int} (h : ∀ z, z ∈ l → 0 ≤ z) : l.map V.int = nl (l.map Int.toNat) := by
  unfold nl
  rw [List.map_map]
  refine List.map_congr_left fun z hz => ?_
  show V.int z = V.int (z.toNat : Int)
  rw [Int.toNat_of_nonneg (h z hz)]
theorem ok_call_vote : FnOk P w K mg base CX0 6 T.f_call_vote.a T.f_call_vote.d ["assembly", "numbers"] (sp_call T 9) := by
  have G_vote := ok_vote (P := P) (w := w) (base := base) T
  refine T.f_call_vote.F.ok sc_call_vote (fun vs H Q E h => ?_) (fun cdv A outer s H vs Q E hr h => ?_)
  · obtain ⟨_, _, _, _, _, _, _, rfl, _⟩ := h
    rfl
  · obtain ⟨p, a, ns, st, n, R, q, rfl, ha, hA, wf, vf, hn, his, hz, k⟩ := h
    obtain ⟨c, m, ys, rfl, rfl, hm, hl⟩ := SM.is9 his rfl
    have hc := hz c (by simp)
    have hmm := hz m (by simp)
    have hys : ∀ z, z ∈ ys → 0 ≤ z := fun z hz' => (hz z (List.mem_cons_of_mem _ (List.mem_cons_of_mem _ hz'))).1
    refine ⟨_, (pss_cons (ps_set (i := 2) sc_call_vote.nd rfl (Or.inl rfl) (pe_op op_add pe_int (pe_ix ix_lst (pv 1) pe_int (fun _ _ => rfl))))
      (pss_one (ps_ret (pe_call (G_vote.mono (by decide)) hr rfl T.f_vote.g T.f_vote.F.kp (b_vote T) .nil pass0 (pa_cons (pv 0) (pa_cons (pe_ix ix_lst (pv 1) pe_int (fun _ _ => rfl)) (pa_cons (pe_slice sl_lst (pv 1) (po_some pe_int) (po_some (pv 2))) (pa_cons (pe_slice sl_lst (pv 1) (po_some (pv 2)) po_none) pa_nil)))))))), ?_⟩
    simp_arith [ha.2, sp_vote, cutA _ _ _ m hmm.1, cutB _ _ _ m hmm.1]
    intro p1 h1
    have n1 : a ≠ p1 := ne_of_none ha.2 h1
    simp_arith [upd_ne n1, ha.2, cutA _ _ _ m hmm.1, cutB _ _ _ m hmm.1]
    intro p2 h2
    have g1 : (ys.map V.int).take m.toNat = nl ((ys.take m.toNat).map Int.toNat) := by rw [← List.map_take]; exact nl_nat fun z hz' => hys z (List.mem_of_mem_take hz')
    have g2 : (ys.map V.int).drop m.toNat = nl ((ys.drop m.toNat).map Int.toNat) := by rw [← List.map_drop]; exact nl_nat fun z hz' => hys z (List.mem_of_mem_drop hz')
    rw [g1, g2]
    rw [g1] at h2
    have fA : Fa R H (setR R p1 .oth) (upd H p1 (.lst (nl ((ys.take m.toNat).map Int.toNat)))) := Fr_.new h1
    have fC : Fa (setR R p1 .oth) (upd H p1 (.lst (nl ((ys.take m.toNat).map Int.toNat)))) (setR (setR R p1 .oth) p2 .oth) (upd (upd H p1 (.lst (nl ((ys.take m.toNat).map Int.toNat)))) p2 (.lst (nl ((ys.drop m.toNat).map Int.toNat)))) := Fr_.new h2
    have fB := fA.trans fC
    have t1 : At (setR R p1 .oth) (upd H p1 (.lst (nl ((ys.take m.toNat).map Int.toNat)))) p1 .oth (.lst (nl ((ys.take m.toNat).map Int.toNat))) := At.made
    refine ⟨_, _, st, n, _, hA.fa fB, wf, vf, by omega, fC _ _ _ trivial t1, At.made, ?_, hc.1, fun R' H' r a1 a2 a3 => k R' H' r a1 (fB.kpa.trans a2) a3⟩
    rw [List.length_map, List.length_map, List.length_take, List.length_drop]
    omega
theorem ok_call_asked : FnOk P w K mg base CX0 4 T.f_call_asked.a T.f_call_asked.d ["assembly", "numbers"] (sp_call T 10) := by
  have G_tell_asked := ok_tell_asked (P := P) (w := w) (base := base) T
  refine T.f_call_asked.F.ok sc_call_asked (fun vs H Q E h => ?_) (fun cdv A outer s H vs Q E hr h => ?_)
  · obtain ⟨_, _, _, _, _, _, _, rfl, _⟩ := h
    rfl
  · obtain ⟨p, a, ns, st, n, R, q, rfl, ha, hA, wf, vf, hn, his, hz, k⟩ := h
    obtain rfl := SM.is10 his rfl
    refine ⟨_, (pss_one (ps_ret (pe_call (G_tell_asked.mono (by decide)) hr rfl T.f_tell_asked.g T.f_tell_asked.F.kp (b_tell_asked T) .nil pass0 (pa_cons (pv 0) pa_nil)))), ?_⟩
    simp_arith [sp_tell]
    exact ⟨st, n, R, hA, wf, by omega, fun R' H' r h1 h2 => k R' H' r (hA.fa h2) h2.kpa h1⟩
theorem ok_call_text : FnOk P w K mg base CX0 4 T.f_call_text.a T.f_call_text.d ["assembly", "numbers"] (sp_call T 11) := by
  have G_tell_text := ok_tell_text (P := P) (w := w) (base := base) T
  refine T.f_call_text.F.ok sc_call_text (fun vs H Q E h => ?_) (fun cdv A outer s H vs Q E hr h => ?_)
  · obtain ⟨_, _, _, _, _, _, _, rfl, _⟩ := h
    rfl
  · obtain ⟨p, a, ns, st, n, R, q, rfl, ha, hA, wf, vf, hn, his, hz, k⟩ := h
    obtain rfl := SM.is11 his rfl
    refine ⟨_, (pss_one (ps_ret (pe_call (G_tell_text.mono (by decide)) hr rfl T.f_tell_text.g T.f_tell_text.F.kp (b_tell_text T) .nil pass0 (pa_cons (pv 0) pa_nil)))), ?_⟩
    simp_arith [sp_tell]
    exact ⟨st, n, R, hA, wf, by omega, fun R' H' r h1 h2 => k R' H' r (hA.fa h2) h2.kpa h1⟩
theorem ok_call_votes : FnOk P w K mg base CX0 2 T.f_call_votes.a T.f_call_votes.d ["assembly", "numbers"] (sp_call T 14) := by
  have G_tell_votes := ok_tell_votes (P := P) (w := w) (base := base) T
  refine T.f_call_votes.F.ok sc_call_votes (fun vs H Q E h => ?_) (fun cdv A outer s H vs Q E hr h => ?_)
  · obtain ⟨_, _, _, _, _, _, _, rfl, _⟩ := h
    rfl
  · obtain ⟨p, a, ns, st, n, R, q, rfl, ha, hA, wf, vf, hn, his, hz, k⟩ := h
    obtain rfl := SM.is14 his rfl
    refine ⟨_, (pss_one (ps_ret (pe_call (G_tell_votes.mono (by decide)) hr rfl T.f_tell_votes.g T.f_tell_votes.F.kp (b_tell_votes T) .nil pass0 (pa_cons (pv 0) pa_nil)))), ?_⟩
    simp_arith [sp_tell]
    exact ⟨st, n, R, hA, wf, by omega, fun R' H' r h1 h2 => k R' H' r (hA.fa h2) h2.kpa h1⟩
theorem ok_call_passed : FnOk P w K mg base CX0 3 T.f_call_passed.a T.f_call_passed.d ["assembly", "numbers"] (sp_call T 12) := by
  have G_tell_passed := ok_tell_passed (P := P) (w := w) (base := base) T
  refine T.f_call_passed.F.ok sc_call_passed (fun vs H Q E h => ?_) (fun cdv A outer s H vs Q E hr h => ?_)
  · obtain ⟨_, _, _, _, _, _, _, rfl, _⟩ := h
    rfl
  · obtain ⟨p, a, ns, st, n, R, q, rfl, ha, hA, wf, vf, hn, his, hz, k⟩ := h
    obtain ⟨x, rfl, rfl⟩ := SM.is12 his rfl
    have hx := hz x (by simp)
    refine ⟨_, (pss_one (ps_ret (pe_call (G_tell_passed.mono (by decide)) hr rfl T.f_tell_passed.g T.f_tell_passed.F.kp (b_tell_passed T) .nil pass0 (pa_cons (pv 0) (pa_cons (pe_ix ix_lst (pv 1) pe_int (fun _ _ => rfl)) pa_nil))))), ?_⟩
    simp_arith [ha.2, sp_tell_passed]
    exact ⟨st, n, R, hA, wf, by omega, hx.1, fun R' H' r h1 h2 => k R' H' r (hA.fa h2) h2.kpa h1⟩
theorem ok_call_who : FnOk P w K mg base CX0 3 T.f_call_who.a T.f_call_who.d ["assembly", "numbers"] (sp_call T 13) := by
  have G_tell_who := ok_tell_who (P := P) (w := w) (base := base) T
  refine T.f_call_who.F.ok sc_call_who (fun vs H Q E h => ?_) (fun cdv A outer s H vs Q E hr h => ?_)
  · obtain ⟨_, _, _, _, _, _, _, rfl, _⟩ := h
    rfl
  · obtain ⟨p, a, ns, st, n, R, q, rfl, ha, hA, wf, vf, hn, his, hz, k⟩ := h
    obtain ⟨x, y, rfl, rfl⟩ := SM.is13 his rfl
    have hx := hz x (by simp)
    have hy := hz y (by simp)
    refine ⟨_, (pss_one (ps_ret (pe_call (G_tell_who.mono (by decide)) hr rfl T.f_tell_who.g T.f_tell_who.F.kp (b_tell_who T) .nil pass0 (pa_cons (pv 0) (pa_cons (pe_ix ix_lst (pv 1) pe_int (fun _ _ => rfl)) (pa_cons (pe_ix ix_lst (pv 1) pe_int (fun _ _ => rfl)) pa_nil)))))), ?_⟩
    simp_arith [ha.2, sp_tell_who]
    exact ⟨st, n, R, hA, wf, vf, by omega, hx.1, hy.1, fun R' H' r h1 h2 => k R' H' r (hA.fa h2) h2.kpa h1⟩
end
end My

end

section
set_option Elab.async false
set_option linter.all false
set_option maxRecDepth 100000
set_option maxHeartbeats 4000000
namespace L2
open PySem PySem.Spec PyProof.Rows
/-- a list that is read alone: tracked with the tag oth, or the module's -/
def SqO (K : PySem.W.Frag) (R : Rg) (H : Hp) (a : Addr) (xs : List V) : Prop :=
  (∃ o, At R H a .oth o ∧ (o = .lst xs ∨ ∃ ob, o = .frz ob (.lst xs))) ∨
    ∃ (o : Obj) (its : Array Value) (n : Nat), K.lookup a = some o ∧ o.cls = .type "list" ∧ o.dict = none ∧ o.data = .seq its n ∧ its.size ≤ sizeLine ∧ Vals xs its.toList
theorem SqO.sq {K : PySem.W.Frag} {R : Rg} {H : Hp} {a : Addr} {xs : List V} (h : SqO K R H a xs) : SqL K H a xs := by
  rcases h with ⟨o, h, e | ⟨ob, e⟩⟩ | h
  · subst e; exact .inl (.inl h.2)
  · subst e; exact .inl (.inr ⟨ob, h.2⟩)
  · exact .inr h
theorem SqO.of {K : PySem.W.Frag} {R : Rg} {H : Hp} {a : Addr} {xs : List V} (h : SqL K H a xs) (hR : R a = .oth) : SqO K R H a xs := by
  rcases h with (h | ⟨ob, h⟩) | h
  · exact .inl ⟨_, ⟨hR, h⟩, .inl rfl⟩
  · exact .inl ⟨_, ⟨hR, h⟩, .inr ⟨ob, rfl⟩⟩
  · exact .inr h
theorem SqO.fr {K : PySem.W.Frag} {R R' : Rg} {H H' : Hp} {a : Addr} {xs : List V} (h : SqO K R H a xs) (f : ∀ o, At R H a .oth o → At R' H' a .oth o) : SqO K R' H' a xs := by
  rcases h with ⟨o, h, e⟩ | h
  · exact .inl ⟨o, f o h, e⟩
  · exact .inr h
theorem cut_nat (l : List Int) (i n : Nat) (h : i + n ≤ l.length) : cutV (l.map V.int) (some (i : Int)) (some ((i + n : Nat) : Int)) = ((l.drop i).take n).map V.int := by
  unfold cutV
  rw [List.length_map, HT.sIx_nat, HT.sIx_nat, Nat.min_eq_left (by omega), Nat.min_eq_left (by omega), ← List.map_drop, ← List.map_take]
  congr 2
  omega
end L2
namespace My
open PySem PySem.Spec PyProof.Rows L2
section
variable {P : Program} {w : World} {K : PySem.W.Frag} {mg : Str → Option Value} {base : Heap} (T : Tx K mg)
/-- the table has the k-th call's def at its k-th place -/
def Table (P : Program) (w : World) (base : Heap) (n : Nat) (items : List V) : Prop := ∀ k ns q, SM.Is k ns q → ∃ (f : Addr) (fd : FuncData), atI items k = some (V.ref f) ∧ FnOk P w K mg base CX0 n f fd ["assembly", "numbers"] (sp_call T k) ∧ PySem.W.keepIn K (.ref f) = true ∧ Binds K fd ["assembly", "numbers"] []
def spAns (K : PySem.W.Frag) : Sp := fun vs H Q _ => ∃ (a : Addr) (ns : List Int), vs = [.ref a] ∧ SqL K H a (ns.map V.int) ∧ ns.length ≤ 30000 ∧ PySi50.answers_asked ns = true ∧ ∀ (H' : Hp) (p : Addr), H' p = some (.lst ((PySi50.answers ns).map V.int)) → Q (.ref p) H'
def Turn_ (a : Addr) (l : List Int) (m : Nat) (σ : L2.St) (H : Hp) : Prop := ∃ (p q : Addr) (i : Nat) (v4 v5 v6 v7 : Option V) (s : Si50.St) (out : List Int) (n : Nat) (R : Rg), σ = [some (.ref a), some (.ref p), some (.ref q), some (.int (i : Int)), v4, v5, v6, v7] ∧ m = l.length - i ∧
  SqO K R H a (l.map V.int) ∧ Asm T R H p s ∧ At R H q .told (.lst (out.map V.int)) ∧ SM.Lp l i s out n ∧ SM.VF s
theorem ok_answers_of {items : List V} (hK : KTu K T.a_CALLS items) (tab : Table (mg := mg) T P w base 6 items) (G_Assembly_init : FnOk P w K mg base CX0 2 T.f_Assembly_init.a T.f_Assembly_init.d ["self"] (sp_Assembly_init T)) : FnOk P w K mg base CX0 7 T.f_answers.a T.f_answers.d ["calls"] (spAns K) := by
  refine T.f_answers.F.ok sc_answers (fun vs H Q E h => ?_) (fun cdv A outer s H vs Q E hr h => ?_)
  · obtain ⟨_, _, rfl, _⟩ := h
    rfl
  · obtain ⟨a, l, rfl, hS, hl, hask, k⟩ := h
    refine ⟨_, (pss_cons (ps_set (i := 1) sc_answers.nd rfl (Or.inl rfl) (pe_make0 T.C_Assembly.mk_ (G_Assembly_init.mono (by decide)) hr rfl T.C_Assembly.gc (b_Assembly_init T) .nil pass0))
      (pss_cons (ps_set (i := 2) sc_answers.nd rfl (Or.inl rfl) (pe_lst pa_nil))
      (pss_cons (ps_set (i := 3) sc_answers.nd rfl (Or.inl rfl) pe_int)
      (pss_cons (ps_while PassesOwn.never (pt_cmpR op_lt (pv 3) (pe_callB call_len_seq (by rfl) T.b_len PySem.boot_len (pa_cons (pv 0) pa_nil)) (nomark _))
        (pss_cons (ps_set (i := 4) sc_answers.nd rfl (Or.inl rfl) (pe_ix ix_tup (pe_gl T.k_CALLS) (pe_ix ix_list (pv 0) (pv 3) (fun _ _ => rfl)) (fun _ _ => rfl)))
          (pss_cons (ps_set (i := 5) sc_answers.nd rfl (Or.inl rfl) (pe_op op_add (pv 3) pe_int))
          (pss_cons (ps_set (i := 6) sc_answers.nd rfl (Or.inl rfl) (pe_op op_add (pv 5) (pe_ix ix_list (pv 0) (pe_op op_add (pv 3) pe_int) (fun _ _ => rfl))))
          (pss_cons (ps_set (i := 7) sc_answers.nd rfl (Or.inl rfl) (pe_callV 4 (pa_cons (pv 1) (pa_cons (pe_slice sl_list (pv 0) (po_some (pv 5)) (po_some (pv 6))) pa_nil))))
          (pss_cons (ps_expr (pe_lm PySem.F.slot_list_append PySem.F.type_list_append mt_append (pv 2) (pa_cons (pe_callB call_lenL (by rfl) T.b_len PySem.boot_len (pa_cons (pv 7) pa_nil)) pa_nil)))
          (pss_cons (ps_expr (pe_lm PySem.F.slot_list_extend PySem.F.type_list_extend mt_extend (pv 2) (pa_cons (pv 7) pa_nil)))
          (pss_one (ps_set (i := 3) sc_answers.nd rfl (Or.inl rfl) (pe_op op_add (pv 6) pe_int))))))))))
      (pss_one (ps_ret (pv 2))))))), ?_⟩
    simp_arith [sp_Assembly_init]
    intro x dx hx hdx nx
    refine fun R1 H1 A1 F1 => ⟨Nat.zero_le _, fun q hq => ?_⟩
    have S1 : SqO K R1 H1 a (l.map V.int) := by
      refine (SqO.of (R := fun _ => .oth) hS rfl).fr fun o ho => ?_
      have e1 : a ≠ x := ne_of_none ho.2 hx
      have e2 : a ≠ dx := ne_of_none ho.2 hdx
      obtain ⟨f1, f2⟩ := F1 a o (by rw [upd_ne e1, upd_ne e2]; exact ho.2) e1
      exact ⟨f2, f1⟩
    refine ⟨Turn_ T a l, ⟨_, x, q, 0, none, none, none, none, Si50.init, [], 0, setR R1 q .told, rfl, rfl, S1.fr fun o ho => ho.new hq, AsmX.fa A1 (Fr_.new hq), At.made, SM.Lp.start hask, SM.VF.init⟩, ?_⟩
    rintro m σ H ⟨p, q, i, v4, v5, v6, v7, st, out, n, R, rfl, rfl, hS, hA, hq, hL, vf⟩
    simp_arith [List.length_map]
    refine ⟨_, .inl hS.sq, ?_⟩
    rw [List.length_map]
    by_cases c : (i : Int) < (l.length : Int)
    · rw [if_pos c]
      obtain ⟨pk, ns, qc, g1, g2, g3, g4, g5, g6, g7, g8, g9⟩ := hL.turn (by omega)
      have hpk := g6 pk (List.mem_cons_self ..)
      have his := SM.is_of g5 hpk.1
      obtain ⟨f, fd, t1, t2, t3, t4⟩ := tab pk ns qc his
      refine ⟨fun σ' H' => ∃ m', m' < l.length - i ∧ Turn_ T a l m' σ' H', fun _ _ z => z, _, hS.sq, V.int pk, atI_nat (by rw [List.getElem?_map, g1]; rfl), ?_⟩
      simp_arith [sp_call]
      have ei : ((i : Int) + 1) = ((i + 1 : Nat) : Int) := by omega
      have ej : ((i : Int) + 2) = ((i + 2 : Nat) : Int) := by omega
      have ek : ((i : Int) + 2 + (ns.length : Int)) = ((i + 2 + ns.length : Nat) : Int) := by omega
      refine ⟨_, hK.seq, _, t1, _, hS.sq, V.int (ns.length : Int), by rw [ei]; exact atI_nat (by rw [List.getElem?_map, g2]; rfl), _, rfl, f, rfl, 6, fd, _, _, t2, hr, t3, t4, ?_⟩
      simp_arith [sp_call]
      refine ⟨_, hS.sq, fun r hr0 => ?_⟩
      rw [ek, ej, cut_nat l (i + 2) ns.length (by omega), g3]
      have R1 : At (setR R r .oth) (upd H r (.lst (ns.map V.int))) r .oth (.lst (ns.map V.int)) := At.made
      refine ⟨ns, st, n, setR R r .oth, R1, hA.fa (Fr_.new hr0), hL.wf, vf, g7, qc, his, fun z hz => g6 z (List.mem_cons_of_mem _ hz), fun R2 H2 r2 A2 K2 R2' => ?_⟩
      have q2 := K2.told (hq.new (x := .lst (ns.map V.int)) (t' := .oth) hr0)
      have S2 := (hS.fr fun o ho => ho.new (x := .lst (ns.map V.int)) (t' := .oth) hr0).fr fun o ho => K2.oth ho
      have nq : r2 ≠ q := R2'.ne q2.1 nofun
      have r2h := R2'.2
      simp_arith [q2.2, r2h, upd_ne nq, List.length_map]
      have e1 : out.map V.int ++ [V.int (((Si50.step st qc).2.l.length + 1 : Nat) : Int)] ++ V.int (Si50.step st qc).2.v :: (Si50.step st qc).2.l.map V.int = (out ++ (((Si50.step st qc).2.l.length + 1 : Nat) : Int) :: (Si50.step st qc).2.v :: (Si50.step st qc).2.l).map V.int := by simp
      have hz : sizeLine = 16777216 := sizeLine_eq
      have e2 : (((i + 2 + ns.length : Nat) : Int) + 1) = ((i + 2 + ns.length + 1 : Nat) : Int) := by omega
      rw [e2]
      refine ⟨by omega, ?_, l.length - (i + 2 + ns.length + 1), by omega, p, q, i + 2 + ns.length + 1, _, _, _, _, (Si50.step st qc).1, _, n + 1, R2, rfl, rfl, ?_, ?_, ?_, g9, SM.vf_step hL.wf vf qc⟩
      · rw [List.length_append, List.length_map, List.length_singleton]
        omega
      · exact S2.fr fun o ho => ho.put q2.1 nofun
      · exact AsmX.told A2 (Fr_.put q2.1)
      · rw [e1]
        exact At.self q2.1
    · rw [if_neg c]
      have e := hL.done (by omega)
      rw [e] at hq
      simp_arith [k _ _ hq.2]
end
end My

end

section
set_option Elab.async false
set_option linter.all false
set_option maxRecDepth 100000
set_option maxHeartbeats 4000000
namespace My
open PySem PySem.Spec PyProof.Rows L2
section
variable {P : Program} {w : World} {K : PySem.W.Frag} {mg : Str → Option Value} {base : Heap} (T : Tx K mg)
theorem table : Table (mg := mg) T P w base 6 [V.ref T.f_call_begins.a, V.ref T.f_call_member.a, V.ref T.f_call_comes.a, V.ref T.f_call_move.a, V.ref T.f_call_amend.a, V.ref T.f_call_go.a, V.ref T.f_call_divide.a, V.ref T.f_call_withdraw.a, V.ref T.f_call_take.a, V.ref T.f_call_vote.a, V.ref T.f_call_asked.a, V.ref T.f_call_text.a, V.ref T.f_call_passed.a, V.ref T.f_call_who.a, V.ref T.f_call_votes.a] := by
  intro k ns q h
  cases h
  · exact ⟨_, _, atI_nat (j := 0) rfl, (ok_call_begins T).mono (by decide), T.f_call_begins.F.kp, b_call_begins T⟩
  · exact ⟨_, _, atI_nat (j := 1) rfl, (ok_call_member T).mono (by decide), T.f_call_member.F.kp, b_call_member T⟩
  · exact ⟨_, _, atI_nat (j := 2) rfl, (ok_call_comes T).mono (by decide), T.f_call_comes.F.kp, b_call_comes T⟩
  · exact ⟨_, _, atI_nat (j := 3) rfl, (ok_call_move T).mono (by decide), T.f_call_move.F.kp, b_call_move T⟩
  · exact ⟨_, _, atI_nat (j := 4) rfl, (ok_call_amend T).mono (by decide), T.f_call_amend.F.kp, b_call_amend T⟩
  · exact ⟨_, _, atI_nat (j := 5) rfl, (ok_call_go T).mono (by decide), T.f_call_go.F.kp, b_call_go T⟩
  · exact ⟨_, _, atI_nat (j := 6) rfl, (ok_call_divide T).mono (by decide), T.f_call_divide.F.kp, b_call_divide T⟩
  · exact ⟨_, _, atI_nat (j := 7) rfl, (ok_call_withdraw T).mono (by decide), T.f_call_withdraw.F.kp, b_call_withdraw T⟩
  · exact ⟨_, _, atI_nat (j := 8) rfl, (ok_call_take T).mono (by decide), T.f_call_take.F.kp, b_call_take T⟩
  · exact ⟨_, _, atI_nat (j := 9) rfl, (ok_call_vote T).mono (by decide), T.f_call_vote.F.kp, b_call_vote T⟩
  · exact ⟨_, _, atI_nat (j := 10) rfl, (ok_call_asked T).mono (by decide), T.f_call_asked.F.kp, b_call_asked T⟩
  · exact ⟨_, _, atI_nat (j := 11) rfl, (ok_call_text T).mono (by decide), T.f_call_text.F.kp, b_call_text T⟩
  · exact ⟨_, _, atI_nat (j := 12) rfl, (ok_call_passed T).mono (by decide), T.f_call_passed.F.kp, b_call_passed T⟩
  · exact ⟨_, _, atI_nat (j := 13) rfl, (ok_call_who T).mono (by decide), T.f_call_who.F.kp, b_call_who T⟩
  · exact ⟨_, _, atI_nat (j := 14) rfl, (ok_call_votes T).mono (by decide), T.f_call_votes.F.kp, b_call_votes T⟩
theorem ansbind (s : Shared) (us : List Value) (hu : us.length = (["calls"] : List Str).length) : BindsTo s T.f_answers.d ⟨us, []⟩ ((["calls"] : List Str).zip us) := by
  obtain ⟨oc, od, kV, doc, pm, an, cdv, ct, osl, e, lk, hcd⟩ := T.f_answers.F.ex
  rw [e]
  exact .of_eq (match us, hu with | [_], _ => rfl)
theorem ok_answers : FnOk P w K mg base CX0 7 T.f_answers.a T.f_answers.d ["calls"] (spAns K) := ok_answers_of T T.t_CALLS (table T) (ok_Assembly_init T)
end
end My

end

section
set_option Elab.async false
set_option linter.all false
set_option maxRecDepth 100000
set_option maxHeartbeats 4000000
namespace My
open PySem PySem.Spec PyProof.Rows L2
noncomputable def tx_mk {K : PySem.W.Frag} {h : Heap} {mg : Str → Option Value} (X : K.In h) (G : h.Ns mainGlobals mg)
    {A_Word_init : Addr} {od_Word_init an_Word_init : Option Addr} {sl_Word_init : Array (Option Value)} {oc_Word_init kV_Word_init dc_Word_init pm_Word_init cd_Word_init ct_Word_init : Value}
    {A_Amendment_init : Addr} {od_Amendment_init an_Amendment_init : Option Addr} {sl_Amendment_init : Array (Option Value)} {oc_Amendment_init kV_Amendment_init dc_Amendment_init pm_Amendment_init cd_Amendment_init ct_Amendment_init : Value}
    {A_WayOn_init : Addr} {od_WayOn_init an_WayOn_init : Option Addr} {sl_WayOn_init : Array (Option Value)} {oc_WayOn_init kV_WayOn_init dc_WayOn_init pm_WayOn_init cd_WayOn_init ct_WayOn_init : Value}
    {A_MainMotion_init : Addr} {od_MainMotion_init an_MainMotion_init : Option Addr} {sl_MainMotion_init : Array (Option Value)} {oc_MainMotion_init kV_MainMotion_init dc_MainMotion_init pm_MainMotion_init cd_MainMotion_init ct_MainMotion_init : Value}
    {A_PassedText_init : Addr} {od_PassedText_init an_PassedText_init : Option Addr} {sl_PassedText_init : Array (Option Value)} {oc_PassedText_init kV_PassedText_init dc_PassedText_init pm_PassedText_init cd_PassedText_init ct_PassedText_init : Value}
    {A_Vote_init : Addr} {od_Vote_init an_Vote_init : Option Addr} {sl_Vote_init : Array (Option Value)} {oc_Vote_init kV_Vote_init dc_Vote_init pm_Vote_init cd_Vote_init ct_Vote_init : Value}
    {A_Assembly_init : Addr} {od_Assembly_init an_Assembly_init : Option Addr} {sl_Assembly_init : Array (Option Value)} {oc_Assembly_init kV_Assembly_init dc_Assembly_init pm_Assembly_init cd_Assembly_init ct_Assembly_init : Value}
    {A_Assembly_begin : Addr} {od_Assembly_begin an_Assembly_begin : Option Addr} {sl_Assembly_begin : Array (Option Value)} {oc_Assembly_begin kV_Assembly_begin dc_Assembly_begin pm_Assembly_begin cd_Assembly_begin ct_Assembly_begin : Value}
    {A_is_member : Addr} {od_is_member an_is_member : Option Addr} {sl_is_member : Array (Option Value)} {oc_is_member kV_is_member dc_is_member pm_is_member cd_is_member ct_is_member : Value}
    {A_absence : Addr} {od_absence an_absence : Option Addr} {sl_absence : Array (Option Value)} {oc_absence kV_absence dc_absence pm_absence cd_absence ct_absence : Value}
    {A_weigh : Addr} {od_weigh an_weigh : Option Addr} {sl_weigh : Array (Option Value)} {oc_weigh kV_weigh dc_weigh pm_weigh cd_weigh ct_weigh : Value}
    {A_weigh_those_there : Addr} {od_weigh_those_there an_weigh_those_there : Option Addr} {sl_weigh_those_there : Array (Option Value)} {oc_weigh_those_there kV_weigh_those_there dc_weigh_those_there pm_weigh_those_there cd_weigh_those_there ct_weigh_those_there : Value}
    {A_admit : Addr} {od_admit an_admit : Option Addr} {sl_admit : Array (Option Value)} {oc_admit kV_admit dc_admit pm_admit cd_admit ct_admit : Value}
    {A_comes : Addr} {od_comes an_comes : Option Addr} {sl_comes : Array (Option Value)} {oc_comes kV_comes dc_comes pm_comes cd_comes ct_comes : Value}
    {A_asked_sort : Addr} {od_asked_sort an_asked_sort : Option Addr} {sl_asked_sort : Array (Option Value)} {oc_asked_sort kV_asked_sort dc_asked_sort pm_asked_sort cd_asked_sort ct_asked_sort : Value}
    {A_asked_motion : Addr} {od_asked_motion an_asked_motion : Option Addr} {sl_asked_motion : Array (Option Value)} {oc_asked_motion kV_asked_motion dc_asked_motion pm_asked_motion cd_asked_motion ct_asked_motion : Value}
    {A_how_many_parts : Addr} {od_how_many_parts an_how_many_parts : Option Addr} {sl_how_many_parts : Array (Option Value)} {oc_how_many_parts kV_how_many_parts dc_how_many_parts pm_how_many_parts cd_how_many_parts ct_how_many_parts : Value}
    {A_make_way : Addr} {od_make_way an_make_way : Option Addr} {sl_make_way : Array (Option Value)} {oc_make_way kV_make_way dc_make_way pm_make_way cd_make_way ct_make_way : Value}
    {A_drop_asked : Addr} {od_drop_asked an_drop_asked : Option Addr} {sl_drop_asked : Array (Option Value)} {oc_drop_asked kV_drop_asked dc_drop_asked pm_drop_asked cd_drop_asked ct_drop_asked : Value}
    {A_amended : Addr} {od_amended an_amended : Option Addr} {sl_amended : Array (Option Value)} {oc_amended kV_amended dc_amended pm_amended cd_amended ct_amended : Value}
    {A_carry_in_place : Addr} {od_carry_in_place an_carry_in_place : Option Addr} {sl_carry_in_place : Array (Option Value)} {oc_carry_in_place kV_carry_in_place dc_carry_in_place pm_carry_in_place cd_carry_in_place ct_carry_in_place : Value}
    {A_carry_asked : Addr} {od_carry_asked an_carry_asked : Option Addr} {sl_carry_asked : Array (Option Value)} {oc_carry_asked kV_carry_asked dc_carry_asked pm_carry_asked cd_carry_asked ct_carry_asked : Value}
    {A_may_be_moved : Addr} {od_may_be_moved an_may_be_moved : Option Addr} {sl_may_be_moved : Array (Option Value)} {oc_may_be_moved kV_may_be_moved dc_may_be_moved pm_may_be_moved cd_may_be_moved ct_may_be_moved : Value}
    {A_motions_are_full : Addr} {od_motions_are_full an_motions_are_full : Option Addr} {sl_motions_are_full : Array (Option Value)} {oc_motions_are_full kV_motions_are_full dc_motions_are_full pm_motions_are_full cd_motions_are_full ct_motions_are_full : Value}
    {A_number_motion : Addr} {od_number_motion an_number_motion : Option Addr} {sl_number_motion : Array (Option Value)} {oc_number_motion kV_number_motion dc_number_motion pm_number_motion cd_number_motion ct_number_motion : Value}
    {A_words_of : Addr} {od_words_of an_words_of : Option Addr} {sl_words_of : Array (Option Value)} {oc_words_of kV_words_of dc_words_of pm_words_of cd_words_of ct_words_of : Value}
    {A_absence_or_nothing : Addr} {od_absence_or_nothing an_absence_or_nothing : Option Addr} {sl_absence_or_nothing : Array (Option Value)} {oc_absence_or_nothing kV_absence_or_nothing dc_absence_or_nothing pm_absence_or_nothing cd_absence_or_nothing ct_absence_or_nothing : Value}
    {A_move_refusal : Addr} {od_move_refusal an_move_refusal : Option Addr} {sl_move_refusal : Array (Option Value)} {oc_move_refusal kV_move_refusal dc_move_refusal pm_move_refusal cd_move_refusal ct_move_refusal : Value}
    {A_move : Addr} {od_move an_move : Option Addr} {sl_move : Array (Option Value)} {oc_move kV_move dc_move pm_move cd_move ct_move : Value}
    {A_words_to_amend : Addr} {od_words_to_amend an_words_to_amend : Option Addr} {sl_words_to_amend : Array (Option Value)} {oc_words_to_amend kV_words_to_amend dc_words_to_amend pm_words_to_amend cd_words_to_amend ct_words_to_amend : Value}
    {A_place_refusal : Addr} {od_place_refusal an_place_refusal : Option Addr} {sl_place_refusal : Array (Option Value)} {oc_place_refusal kV_place_refusal dc_place_refusal pm_place_refusal cd_place_refusal ct_place_refusal : Value}
    {A_amend_refusal : Addr} {od_amend_refusal an_amend_refusal : Option Addr} {sl_amend_refusal : Array (Option Value)} {oc_amend_refusal kV_amend_refusal dc_amend_refusal pm_amend_refusal cd_amend_refusal ct_amend_refusal : Value}
    {A_amend : Addr} {od_amend an_amend : Option Addr} {sl_amend : Array (Option Value)} {oc_amend kV_amend dc_amend pm_amend cd_amend ct_amend : Value}
    {A_go_refusal : Addr} {od_go_refusal an_go_refusal : Option Addr} {sl_go_refusal : Array (Option Value)} {oc_go_refusal kV_go_refusal dc_go_refusal pm_go_refusal cd_go_refusal ct_go_refusal : Value}
    {A_go : Addr} {od_go an_go : Option Addr} {sl_go : Array (Option Value)} {oc_go kV_go dc_go pm_go cd_go ct_go : Value}
    {A_divide_refusal : Addr} {od_divide_refusal an_divide_refusal : Option Addr} {sl_divide_refusal : Array (Option Value)} {oc_divide_refusal kV_divide_refusal dc_divide_refusal pm_divide_refusal cd_divide_refusal ct_divide_refusal : Value}
    {A_divide : Addr} {od_divide an_divide : Option Addr} {sl_divide : Array (Option Value)} {oc_divide kV_divide dc_divide pm_divide cd_divide ct_divide : Value}
    {A_withdraw : Addr} {od_withdraw an_withdraw : Option Addr} {sl_withdraw : Array (Option Value)} {oc_withdraw kV_withdraw dc_withdraw pm_withdraw cd_withdraw ct_withdraw : Value}
    {A_take_refusal : Addr} {od_take_refusal an_take_refusal : Option Addr} {sl_take_refusal : Array (Option Value)} {oc_take_refusal kV_take_refusal dc_take_refusal pm_take_refusal cd_take_refusal ct_take_refusal : Value}
    {A_take : Addr} {od_take an_take : Option Addr} {sl_take : Array (Option Value)} {oc_take kV_take dc_take pm_take cd_take ct_take : Value}
    {A_tell_asked : Addr} {od_tell_asked an_tell_asked : Option Addr} {sl_tell_asked : Array (Option Value)} {oc_tell_asked kV_tell_asked dc_tell_asked pm_tell_asked cd_tell_asked ct_tell_asked : Value}
    {A_tell_words : Addr} {od_tell_words an_tell_words : Option Addr} {sl_tell_words : Array (Option Value)} {oc_tell_words kV_tell_words dc_tell_words pm_tell_words cd_tell_words ct_tell_words : Value}
    {A_tell_amendment : Addr} {od_tell_amendment an_tell_amendment : Option Addr} {sl_tell_amendment : Array (Option Value)} {oc_tell_amendment kV_tell_amendment dc_tell_amendment pm_tell_amendment cd_tell_amendment ct_tell_amendment : Value}
    {A_tell_text : Addr} {od_tell_text an_tell_text : Option Addr} {sl_tell_text : Array (Option Value)} {oc_tell_text kV_tell_text dc_tell_text pm_tell_text cd_tell_text ct_tell_text : Value}
    {A_tell_passed : Addr} {od_tell_passed an_tell_passed : Option Addr} {sl_tell_passed : Array (Option Value)} {oc_tell_passed kV_tell_passed dc_tell_passed pm_tell_passed cd_tell_passed ct_tell_passed : Value}
    {A_voters_for : Addr} {od_voters_for an_voters_for : Option Addr} {sl_voters_for : Array (Option Value)} {oc_voters_for kV_voters_for dc_voters_for pm_voters_for cd_voters_for ct_voters_for : Value}
    {A_tell_who : Addr} {od_tell_who an_tell_who : Option Addr} {sl_tell_who : Array (Option Value)} {oc_tell_who kV_tell_who dc_tell_who pm_tell_who cd_tell_who ct_tell_who : Value}
    {A_tell_votes : Addr} {od_tell_votes an_tell_votes : Option Addr} {sl_tell_votes : Array (Option Value)} {oc_tell_votes kV_tell_votes dc_tell_votes pm_tell_votes cd_tell_votes ct_tell_votes : Value}
    {A_vote_refusal : Addr} {od_vote_refusal an_vote_refusal : Option Addr} {sl_vote_refusal : Array (Option Value)} {oc_vote_refusal kV_vote_refusal dc_vote_refusal pm_vote_refusal cd_vote_refusal ct_vote_refusal : Value}
    {A_is_carried : Addr} {od_is_carried an_is_carried : Option Addr} {sl_is_carried : Array (Option Value)} {oc_is_carried kV_is_carried dc_is_carried pm_is_carried cd_is_carried ct_is_carried : Value}
    {A_vote : Addr} {od_vote an_vote : Option Addr} {sl_vote : Array (Option Value)} {oc_vote kV_vote dc_vote pm_vote cd_vote ct_vote : Value}
    {A_call_begins : Addr} {od_call_begins an_call_begins : Option Addr} {sl_call_begins : Array (Option Value)} {oc_call_begins kV_call_begins dc_call_begins pm_call_begins cd_call_begins ct_call_begins : Value}
    {A_call_member : Addr} {od_call_member an_call_member : Option Addr} {sl_call_member : Array (Option Value)} {oc_call_member kV_call_member dc_call_member pm_call_member cd_call_member ct_call_member : Value}
    {A_call_comes : Addr} {od_call_comes an_call_comes : Option Addr} {sl_call_comes : Array (Option Value)} {oc_call_comes kV_call_comes dc_call_comes pm_call_comes cd_call_comes ct_call_comes : Value}
    {A_call_move : Addr} {od_call_move an_call_move : Option Addr} {sl_call_move : Array (Option Value)} {oc_call_move kV_call_move dc_call_move pm_call_move cd_call_move ct_call_move : Value}
    {A_call_amend : Addr} {od_call_amend an_call_amend : Option Addr} {sl_call_amend : Array (Option Value)} {oc_call_amend kV_call_amend dc_call_amend pm_call_amend cd_call_amend ct_call_amend : Value}
    {A_call_go : Addr} {od_call_go an_call_go : Option Addr} {sl_call_go : Array (Option Value)} {oc_call_go kV_call_go dc_call_go pm_call_go cd_call_go ct_call_go : Value}
    {A_call_divide : Addr} {od_call_divide an_call_divide : Option Addr} {sl_call_divide : Array (Option Value)} {oc_call_divide kV_call_divide dc_call_divide pm_call_divide cd_call_divide ct_call_divide : Value}
    {A_call_withdraw : Addr} {od_call_withdraw an_call_withdraw : Option Addr} {sl_call_withdraw : Array (Option Value)} {oc_call_withdraw kV_call_withdraw dc_call_withdraw pm_call_withdraw cd_call_withdraw ct_call_withdraw : Value}
    {A_call_take : Addr} {od_call_take an_call_take : Option Addr} {sl_call_take : Array (Option Value)} {oc_call_take kV_call_take dc_call_take pm_call_take cd_call_take ct_call_take : Value}
    {A_call_vote : Addr} {od_call_vote an_call_vote : Option Addr} {sl_call_vote : Array (Option Value)} {oc_call_vote kV_call_vote dc_call_vote pm_call_vote cd_call_vote ct_call_vote : Value}
    {A_call_asked : Addr} {od_call_asked an_call_asked : Option Addr} {sl_call_asked : Array (Option Value)} {oc_call_asked kV_call_asked dc_call_asked pm_call_asked cd_call_asked ct_call_asked : Value}
    {A_call_text : Addr} {od_call_text an_call_text : Option Addr} {sl_call_text : Array (Option Value)} {oc_call_text kV_call_text dc_call_text pm_call_text cd_call_text ct_call_text : Value}
    {A_call_passed : Addr} {od_call_passed an_call_passed : Option Addr} {sl_call_passed : Array (Option Value)} {oc_call_passed kV_call_passed dc_call_passed pm_call_passed cd_call_passed ct_call_passed : Value}
    {A_call_who : Addr} {od_call_who an_call_who : Option Addr} {sl_call_who : Array (Option Value)} {oc_call_who kV_call_who dc_call_who pm_call_who cd_call_who ct_call_who : Value}
    {A_call_votes : Addr} {od_call_votes an_call_votes : Option Addr} {sl_call_votes : Array (Option Value)} {oc_call_votes kV_call_votes dc_call_votes pm_call_votes cd_call_votes ct_call_votes : Value}
    {A_answers : Addr} {od_answers an_answers : Option Addr} {sl_answers : Array (Option Value)} {oc_answers kV_answers dc_answers pm_answers cd_answers ct_answers : Value}
    {C_Word : Addr}
    {C_Amendment : Addr}
    {C_WayOn : Addr}
    {C_MainMotion : Addr}
    {C_PassedText : Addr}
    {C_Vote : Addr}
    {C_Assembly : Addr}
    {tk_FIRST_QUORUM : Tok}
    {T_FIRST_RULES : Addr} {to_FIRST_RULES : Option Addr} {ti_FIRST_RULES : Array Value} {tn_FIRST_RULES : Nat} {ts_FIRST_RULES : Array (Option Value)}
    {tk_NO_REFUSAL : Tok}
    {tk_WRONG : Tok}
    {tk_UNKNOWN : Tok}
    {tk_AWAY : Tok}
    {tk_OUT_OF_ORDER : Tok}
    {tk_FULL : Tok}
    {tk_NOT_THE_MOVER : Tok}
    {tk_NOTHING_SUCH : Tok}
    {tk_NO_QUORUM : Tok}
    {tk_MOST_MEMBERS : Tok}
    {tk_MOST_WEIGHT : Tok}
    {tk_MAIN : Tok}
    {tk_AMENDMENT : Tok}
    {tk_FURTHER_AMENDMENT : Tok}
    {tk_SEND_BACK : Tok}
    {tk_CLOSE : Tok}
    {tk_PUT_OFF : Tok}
    {tk_MOST_MOTIONS : Tok}
    {tk_MOST_WORDS_MOVED : Tok}
    {tk_MOST_WORDS_AMENDED : Tok}
    {tk_LAST_WORD : Tok}
    {tk_SIMPLE : Tok}
    {tk_HALF_OF_THOSE_THERE : Tok}
    {tk_HALF_OF_ALL : Tok}
    {tk_TWO_THIRDS : Tok}
    {tk_CHAIR_FOR : Tok}
    {tk_CHAIR_AGAINST : Tok}
    {T_RULE_PLACES : Addr} {to_RULE_PLACES : Option Addr} {ti_RULE_PLACES : Array Value} {tn_RULE_PLACES : Nat} {ts_RULE_PLACES : Array (Option Value)}
    {T_CALLS : Addr} {to_CALLS : Option Addr} {ti_CALLS : Array Value} {tn_CALLS : Nat} {ts_CALLS : Array (Option Value)}
    (ac_Word : PySem.W.nsIn K mainGlobals "Word" = some (some (.ref C_Word)))
    (a_Word_init : PySem.W.findIn K (.ref C_Word) "__init__" = some (some (.ref A_Word_init)))
    (i_Word_init : PySem.W.isFn K (.ref A_Word_init) = true)
    (ac_Amendment : PySem.W.nsIn K mainGlobals "Amendment" = some (some (.ref C_Amendment)))
    (a_Amendment_init : PySem.W.findIn K (.ref C_Amendment) "__init__" = some (some (.ref A_Amendment_init)))
    (i_Amendment_init : PySem.W.isFn K (.ref A_Amendment_init) = true)
    (ac_WayOn : PySem.W.nsIn K mainGlobals "WayOn" = some (some (.ref C_WayOn)))
    (a_WayOn_init : PySem.W.findIn K (.ref C_WayOn) "__init__" = some (some (.ref A_WayOn_init)))
    (i_WayOn_init : PySem.W.isFn K (.ref A_WayOn_init) = true)
    (ac_MainMotion : PySem.W.nsIn K mainGlobals "MainMotion" = some (some (.ref C_MainMotion)))
    (a_MainMotion_init : PySem.W.findIn K (.ref C_MainMotion) "__init__" = some (some (.ref A_MainMotion_init)))
    (i_MainMotion_init : PySem.W.isFn K (.ref A_MainMotion_init) = true)
    (ac_PassedText : PySem.W.nsIn K mainGlobals "PassedText" = some (some (.ref C_PassedText)))
    (a_PassedText_init : PySem.W.findIn K (.ref C_PassedText) "__init__" = some (some (.ref A_PassedText_init)))
    (i_PassedText_init : PySem.W.isFn K (.ref A_PassedText_init) = true)
    (ac_Vote : PySem.W.nsIn K mainGlobals "Vote" = some (some (.ref C_Vote)))
    (a_Vote_init : PySem.W.findIn K (.ref C_Vote) "__init__" = some (some (.ref A_Vote_init)))
    (i_Vote_init : PySem.W.isFn K (.ref A_Vote_init) = true)
    (ac_Assembly : PySem.W.nsIn K mainGlobals "Assembly" = some (some (.ref C_Assembly)))
    (a_Assembly_init : PySem.W.findIn K (.ref C_Assembly) "__init__" = some (some (.ref A_Assembly_init)))
    (i_Assembly_init : PySem.W.isFn K (.ref A_Assembly_init) = true)
    (a_Assembly_begin : PySem.W.findIn K (.ref C_Assembly) "begin" = some (some (.ref A_Assembly_begin)))
    (i_Assembly_begin : PySem.W.isFn K (.ref A_Assembly_begin) = true)
    (l_Word_init : K.lookup A_Word_init = some ⟨oc_Word_init, od_Word_init, .func (PySem.W.fnOf "__init__" "Word.__init__" (defArgs s_Word_init) (defBody s_Word_init) (defScope s_Word_init) .none kV_Word_init dc_Word_init pm_Word_init an_Word_init cd_Word_init ct_Word_init), sl_Word_init⟩)
    (c_Word_init : PySem.W.codeIn K cd_Word_init "Word.__init__" = true)
    (k_Word_init : PySem.W.keepIn K (.ref A_Word_init) = true)
    (l_Amendment_init : K.lookup A_Amendment_init = some ⟨oc_Amendment_init, od_Amendment_init, .func (PySem.W.fnOf "__init__" "Amendment.__init__" (defArgs s_Amendment_init) (defBody s_Amendment_init) (defScope s_Amendment_init) .none kV_Amendment_init dc_Amendment_init pm_Amendment_init an_Amendment_init cd_Amendment_init ct_Amendment_init), sl_Amendment_init⟩)
    (c_Amendment_init : PySem.W.codeIn K cd_Amendment_init "Amendment.__init__" = true)
    (k_Amendment_init : PySem.W.keepIn K (.ref A_Amendment_init) = true)
    (l_WayOn_init : K.lookup A_WayOn_init = some ⟨oc_WayOn_init, od_WayOn_init, .func (PySem.W.fnOf "__init__" "WayOn.__init__" (defArgs s_WayOn_init) (defBody s_WayOn_init) (defScope s_WayOn_init) .none kV_WayOn_init dc_WayOn_init pm_WayOn_init an_WayOn_init cd_WayOn_init ct_WayOn_init), sl_WayOn_init⟩)
    (c_WayOn_init : PySem.W.codeIn K cd_WayOn_init "WayOn.__init__" = true)
    (k_WayOn_init : PySem.W.keepIn K (.ref A_WayOn_init) = true)
    (l_MainMotion_init : K.lookup A_MainMotion_init = some ⟨oc_MainMotion_init, od_MainMotion_init, .func (PySem.W.fnOf "__init__" "MainMotion.__init__" (defArgs s_MainMotion_init) (defBody s_MainMotion_init) (defScope s_MainMotion_init) .none kV_MainMotion_init dc_MainMotion_init pm_MainMotion_init an_MainMotion_init cd_MainMotion_init ct_MainMotion_init), sl_MainMotion_init⟩)
    (c_MainMotion_init : PySem.W.codeIn K cd_MainMotion_init "MainMotion.__init__" = true)
    (k_MainMotion_init : PySem.W.keepIn K (.ref A_MainMotion_init) = true)
    (l_PassedText_init : K.lookup A_PassedText_init = some ⟨oc_PassedText_init, od_PassedText_init, .func (PySem.W.fnOf "__init__" "PassedText.__init__" (defArgs s_PassedText_init) (defBody s_PassedText_init) (defScope s_PassedText_init) .none kV_PassedText_init dc_PassedText_init pm_PassedText_init an_PassedText_init cd_PassedText_init ct_PassedText_init), sl_PassedText_init⟩)
    (c_PassedText_init : PySem.W.codeIn K cd_PassedText_init "PassedText.__init__" = true)
    (k_PassedText_init : PySem.W.keepIn K (.ref A_PassedText_init) = true)
    (l_Vote_init : K.lookup A_Vote_init = some ⟨oc_Vote_init, od_Vote_init, .func (PySem.W.fnOf "__init__" "Vote.__init__" (defArgs s_Vote_init) (defBody s_Vote_init) (defScope s_Vote_init) .none kV_Vote_init dc_Vote_init pm_Vote_init an_Vote_init cd_Vote_init ct_Vote_init), sl_Vote_init⟩)
    (c_Vote_init : PySem.W.codeIn K cd_Vote_init "Vote.__init__" = true)
    (k_Vote_init : PySem.W.keepIn K (.ref A_Vote_init) = true)
    (l_Assembly_init : K.lookup A_Assembly_init = some ⟨oc_Assembly_init, od_Assembly_init, .func (PySem.W.fnOf "__init__" "Assembly.__init__" (defArgs s_Assembly_init) (defBody s_Assembly_init) (defScope s_Assembly_init) .none kV_Assembly_init dc_Assembly_init pm_Assembly_init an_Assembly_init cd_Assembly_init ct_Assembly_init), sl_Assembly_init⟩)
    (c_Assembly_init : PySem.W.codeIn K cd_Assembly_init "Assembly.__init__" = true)
    (k_Assembly_init : PySem.W.keepIn K (.ref A_Assembly_init) = true)
    (l_Assembly_begin : K.lookup A_Assembly_begin = some ⟨oc_Assembly_begin, od_Assembly_begin, .func (PySem.W.fnOf "begin" "Assembly.begin" (defArgs s_Assembly_begin) (defBody s_Assembly_begin) (defScope s_Assembly_begin) .none kV_Assembly_begin dc_Assembly_begin pm_Assembly_begin an_Assembly_begin cd_Assembly_begin ct_Assembly_begin), sl_Assembly_begin⟩)
    (c_Assembly_begin : PySem.W.codeIn K cd_Assembly_begin "Assembly.begin" = true)
    (k_Assembly_begin : PySem.W.keepIn K (.ref A_Assembly_begin) = true)
    (a_is_member : PySem.W.nsIn K mainGlobals "is_member" = some (some (.ref A_is_member)))
    (l_is_member : K.lookup A_is_member = some ⟨oc_is_member, od_is_member, .func (PySem.W.fnOf "is_member" "is_member" (defArgs s_is_member) (defBody s_is_member) (defScope s_is_member) .none kV_is_member dc_is_member pm_is_member an_is_member cd_is_member ct_is_member), sl_is_member⟩)
    (c_is_member : PySem.W.codeIn K cd_is_member "is_member" = true)
    (k_is_member : PySem.W.keepIn K (.ref A_is_member) = true)
    (a_absence : PySem.W.nsIn K mainGlobals "absence" = some (some (.ref A_absence)))
    (l_absence : K.lookup A_absence = some ⟨oc_absence, od_absence, .func (PySem.W.fnOf "absence" "absence" (defArgs s_absence) (defBody s_absence) (defScope s_absence) .none kV_absence dc_absence pm_absence an_absence cd_absence ct_absence), sl_absence⟩)
    (c_absence : PySem.W.codeIn K cd_absence "absence" = true)
    (k_absence : PySem.W.keepIn K (.ref A_absence) = true)
    (a_weigh : PySem.W.nsIn K mainGlobals "weigh" = some (some (.ref A_weigh)))
    (l_weigh : K.lookup A_weigh = some ⟨oc_weigh, od_weigh, .func (PySem.W.fnOf "weigh" "weigh" (defArgs s_weigh) (defBody s_weigh) (defScope s_weigh) .none kV_weigh dc_weigh pm_weigh an_weigh cd_weigh ct_weigh), sl_weigh⟩)
    (c_weigh : PySem.W.codeIn K cd_weigh "weigh" = true)
    (k_weigh : PySem.W.keepIn K (.ref A_weigh) = true)
    (a_weigh_those_there : PySem.W.nsIn K mainGlobals "weigh_those_there" = some (some (.ref A_weigh_those_there)))
    (l_weigh_those_there : K.lookup A_weigh_those_there = some ⟨oc_weigh_those_there, od_weigh_those_there, .func (PySem.W.fnOf "weigh_those_there" "weigh_those_there" (defArgs s_weigh_those_there) (defBody s_weigh_those_there) (defScope s_weigh_those_there) .none kV_weigh_those_there dc_weigh_those_there pm_weigh_those_there an_weigh_those_there cd_weigh_those_there ct_weigh_those_there), sl_weigh_those_there⟩)
    (c_weigh_those_there : PySem.W.codeIn K cd_weigh_those_there "weigh_those_there" = true)
    (k_weigh_those_there : PySem.W.keepIn K (.ref A_weigh_those_there) = true)
    (a_admit : PySem.W.nsIn K mainGlobals "admit" = some (some (.ref A_admit)))
    (l_admit : K.lookup A_admit = some ⟨oc_admit, od_admit, .func (PySem.W.fnOf "admit" "admit" (defArgs s_admit) (defBody s_admit) (defScope s_admit) .none kV_admit dc_admit pm_admit an_admit cd_admit ct_admit), sl_admit⟩)
    (c_admit : PySem.W.codeIn K cd_admit "admit" = true)
    (k_admit : PySem.W.keepIn K (.ref A_admit) = true)
    (a_comes : PySem.W.nsIn K mainGlobals "comes" = some (some (.ref A_comes)))
    (l_comes : K.lookup A_comes = some ⟨oc_comes, od_comes, .func (PySem.W.fnOf "comes" "comes" (defArgs s_comes) (defBody s_comes) (defScope s_comes) .none kV_comes dc_comes pm_comes an_comes cd_comes ct_comes), sl_comes⟩)
    (c_comes : PySem.W.codeIn K cd_comes "comes" = true)
    (k_comes : PySem.W.keepIn K (.ref A_comes) = true)
    (a_asked_sort : PySem.W.nsIn K mainGlobals "asked_sort" = some (some (.ref A_asked_sort)))
    (l_asked_sort : K.lookup A_asked_sort = some ⟨oc_asked_sort, od_asked_sort, .func (PySem.W.fnOf "asked_sort" "asked_sort" (defArgs s_asked_sort) (defBody s_asked_sort) (defScope s_asked_sort) .none kV_asked_sort dc_asked_sort pm_asked_sort an_asked_sort cd_asked_sort ct_asked_sort), sl_asked_sort⟩)
    (c_asked_sort : PySem.W.codeIn K cd_asked_sort "asked_sort" = true)
    (k_asked_sort : PySem.W.keepIn K (.ref A_asked_sort) = true)
    (a_asked_motion : PySem.W.nsIn K mainGlobals "asked_motion" = some (some (.ref A_asked_motion)))
    (l_asked_motion : K.lookup A_asked_motion = some ⟨oc_asked_motion, od_asked_motion, .func (PySem.W.fnOf "asked_motion" "asked_motion" (defArgs s_asked_motion) (defBody s_asked_motion) (defScope s_asked_motion) .none kV_asked_motion dc_asked_motion pm_asked_motion an_asked_motion cd_asked_motion ct_asked_motion), sl_asked_motion⟩)
    (c_asked_motion : PySem.W.codeIn K cd_asked_motion "asked_motion" = true)
    (k_asked_motion : PySem.W.keepIn K (.ref A_asked_motion) = true)
    (a_how_many_parts : PySem.W.nsIn K mainGlobals "how_many_parts" = some (some (.ref A_how_many_parts)))
    (l_how_many_parts : K.lookup A_how_many_parts = some ⟨oc_how_many_parts, od_how_many_parts, .func (PySem.W.fnOf "how_many_parts" "how_many_parts" (defArgs s_how_many_parts) (defBody s_how_many_parts) (defScope s_how_many_parts) .none kV_how_many_parts dc_how_many_parts pm_how_many_parts an_how_many_parts cd_how_many_parts ct_how_many_parts), sl_how_many_parts⟩)
    (c_how_many_parts : PySem.W.codeIn K cd_how_many_parts "how_many_parts" = true)
    (k_how_many_parts : PySem.W.keepIn K (.ref A_how_many_parts) = true)
    (a_make_way : PySem.W.nsIn K mainGlobals "make_way" = some (some (.ref A_make_way)))
    (l_make_way : K.lookup A_make_way = some ⟨oc_make_way, od_make_way, .func (PySem.W.fnOf "make_way" "make_way" (defArgs s_make_way) (defBody s_make_way) (defScope s_make_way) .none kV_make_way dc_make_way pm_make_way an_make_way cd_make_way ct_make_way), sl_make_way⟩)
    (c_make_way : PySem.W.codeIn K cd_make_way "make_way" = true)
    (k_make_way : PySem.W.keepIn K (.ref A_make_way) = true)
    (a_drop_asked : PySem.W.nsIn K mainGlobals "drop_asked" = some (some (.ref A_drop_asked)))
    (l_drop_asked : K.lookup A_drop_asked = some ⟨oc_drop_asked, od_drop_asked, .func (PySem.W.fnOf "drop_asked" "drop_asked" (defArgs s_drop_asked) (defBody s_drop_asked) (defScope s_drop_asked) .none kV_drop_asked dc_drop_asked pm_drop_asked an_drop_asked cd_drop_asked ct_drop_asked), sl_drop_asked⟩)
    (c_drop_asked : PySem.W.codeIn K cd_drop_asked "drop_asked" = true)
    (k_drop_asked : PySem.W.keepIn K (.ref A_drop_asked) = true)
    (a_amended : PySem.W.nsIn K mainGlobals "amended" = some (some (.ref A_amended)))
    (l_amended : K.lookup A_amended = some ⟨oc_amended, od_amended, .func (PySem.W.fnOf "amended" "amended" (defArgs s_amended) (defBody s_amended) (defScope s_amended) .none kV_amended dc_amended pm_amended an_amended cd_amended ct_amended), sl_amended⟩)
    (c_amended : PySem.W.codeIn K cd_amended "amended" = true)
    (k_amended : PySem.W.keepIn K (.ref A_amended) = true)
    (a_carry_in_place : PySem.W.nsIn K mainGlobals "carry_in_place" = some (some (.ref A_carry_in_place)))
    (l_carry_in_place : K.lookup A_carry_in_place = some ⟨oc_carry_in_place, od_carry_in_place, .func (PySem.W.fnOf "carry_in_place" "carry_in_place" (defArgs s_carry_in_place) (defBody s_carry_in_place) (defScope s_carry_in_place) .none kV_carry_in_place dc_carry_in_place pm_carry_in_place an_carry_in_place cd_carry_in_place ct_carry_in_place), sl_carry_in_place⟩)
    (c_carry_in_place : PySem.W.codeIn K cd_carry_in_place "carry_in_place" = true)
    (k_carry_in_place : PySem.W.keepIn K (.ref A_carry_in_place) = true)
    (a_carry_asked : PySem.W.nsIn K mainGlobals "carry_asked" = some (some (.ref A_carry_asked)))
    (l_carry_asked : K.lookup A_carry_asked = some ⟨oc_carry_asked, od_carry_asked, .func (PySem.W.fnOf "carry_asked" "carry_asked" (defArgs s_carry_asked) (defBody s_carry_asked) (defScope s_carry_asked) .none kV_carry_asked dc_carry_asked pm_carry_asked an_carry_asked cd_carry_asked ct_carry_asked), sl_carry_asked⟩)
    (c_carry_asked : PySem.W.codeIn K cd_carry_asked "carry_asked" = true)
    (k_carry_asked : PySem.W.keepIn K (.ref A_carry_asked) = true)
    (a_may_be_moved : PySem.W.nsIn K mainGlobals "may_be_moved" = some (some (.ref A_may_be_moved)))
    (l_may_be_moved : K.lookup A_may_be_moved = some ⟨oc_may_be_moved, od_may_be_moved, .func (PySem.W.fnOf "may_be_moved" "may_be_moved" (defArgs s_may_be_moved) (defBody s_may_be_moved) (defScope s_may_be_moved) .none kV_may_be_moved dc_may_be_moved pm_may_be_moved an_may_be_moved cd_may_be_moved ct_may_be_moved), sl_may_be_moved⟩)
    (c_may_be_moved : PySem.W.codeIn K cd_may_be_moved "may_be_moved" = true)
    (k_may_be_moved : PySem.W.keepIn K (.ref A_may_be_moved) = true)
    (a_motions_are_full : PySem.W.nsIn K mainGlobals "motions_are_full" = some (some (.ref A_motions_are_full)))
    (l_motions_are_full : K.lookup A_motions_are_full = some ⟨oc_motions_are_full, od_motions_are_full, .func (PySem.W.fnOf "motions_are_full" "motions_are_full" (defArgs s_motions_are_full) (defBody s_motions_are_full) (defScope s_motions_are_full) .none kV_motions_are_full dc_motions_are_full pm_motions_are_full an_motions_are_full cd_motions_are_full ct_motions_are_full), sl_motions_are_full⟩)
    (c_motions_are_full : PySem.W.codeIn K cd_motions_are_full "motions_are_full" = true)
    (k_motions_are_full : PySem.W.keepIn K (.ref A_motions_are_full) = true)
    (a_number_motion : PySem.W.nsIn K mainGlobals "number_motion" = some (some (.ref A_number_motion)))
    (l_number_motion : K.lookup A_number_motion = some ⟨oc_number_motion, od_number_motion, .func (PySem.W.fnOf "number_motion" "number_motion" (defArgs s_number_motion) (defBody s_number_motion) (defScope s_number_motion) .none kV_number_motion dc_number_motion pm_number_motion an_number_motion cd_number_motion ct_number_motion), sl_number_motion⟩)
    (c_number_motion : PySem.W.codeIn K cd_number_motion "number_motion" = true)
    (k_number_motion : PySem.W.keepIn K (.ref A_number_motion) = true)
    (a_words_of : PySem.W.nsIn K mainGlobals "words_of" = some (some (.ref A_words_of)))
    (l_words_of : K.lookup A_words_of = some ⟨oc_words_of, od_words_of, .func (PySem.W.fnOf "words_of" "words_of" (defArgs s_words_of) (defBody s_words_of) (defScope s_words_of) .none kV_words_of dc_words_of pm_words_of an_words_of cd_words_of ct_words_of), sl_words_of⟩)
    (c_words_of : PySem.W.codeIn K cd_words_of "words_of" = true)
    (k_words_of : PySem.W.keepIn K (.ref A_words_of) = true)
    (a_absence_or_nothing : PySem.W.nsIn K mainGlobals "absence_or_nothing" = some (some (.ref A_absence_or_nothing)))
    (l_absence_or_nothing : K.lookup A_absence_or_nothing = some ⟨oc_absence_or_nothing, od_absence_or_nothing, .func (PySem.W.fnOf "absence_or_nothing" "absence_or_nothing" (defArgs s_absence_or_nothing) (defBody s_absence_or_nothing) (defScope s_absence_or_nothing) .none kV_absence_or_nothing dc_absence_or_nothing pm_absence_or_nothing an_absence_or_nothing cd_absence_or_nothing ct_absence_or_nothing), sl_absence_or_nothing⟩)
    (c_absence_or_nothing : PySem.W.codeIn K cd_absence_or_nothing "absence_or_nothing" = true)
    (k_absence_or_nothing : PySem.W.keepIn K (.ref A_absence_or_nothing) = true)
    (a_move_refusal : PySem.W.nsIn K mainGlobals "move_refusal" = some (some (.ref A_move_refusal)))
    (l_move_refusal : K.lookup A_move_refusal = some ⟨oc_move_refusal, od_move_refusal, .func (PySem.W.fnOf "move_refusal" "move_refusal" (defArgs s_move_refusal) (defBody s_move_refusal) (defScope s_move_refusal) .none kV_move_refusal dc_move_refusal pm_move_refusal an_move_refusal cd_move_refusal ct_move_refusal), sl_move_refusal⟩)
    (c_move_refusal : PySem.W.codeIn K cd_move_refusal "move_refusal" = true)
    (k_move_refusal : PySem.W.keepIn K (.ref A_move_refusal) = true)
    (a_move : PySem.W.nsIn K mainGlobals "move" = some (some (.ref A_move)))
    (l_move : K.lookup A_move = some ⟨oc_move, od_move, .func (PySem.W.fnOf "move" "move" (defArgs s_move) (defBody s_move) (defScope s_move) .none kV_move dc_move pm_move an_move cd_move ct_move), sl_move⟩)
    (c_move : PySem.W.codeIn K cd_move "move" = true)
    (k_move : PySem.W.keepIn K (.ref A_move) = true)
    (a_words_to_amend : PySem.W.nsIn K mainGlobals "words_to_amend" = some (some (.ref A_words_to_amend)))
    (l_words_to_amend : K.lookup A_words_to_amend = some ⟨oc_words_to_amend, od_words_to_amend, .func (PySem.W.fnOf "words_to_amend" "words_to_amend" (defArgs s_words_to_amend) (defBody s_words_to_amend) (defScope s_words_to_amend) .none kV_words_to_amend dc_words_to_amend pm_words_to_amend an_words_to_amend cd_words_to_amend ct_words_to_amend), sl_words_to_amend⟩)
    (c_words_to_amend : PySem.W.codeIn K cd_words_to_amend "words_to_amend" = true)
    (k_words_to_amend : PySem.W.keepIn K (.ref A_words_to_amend) = true)
    (a_place_refusal : PySem.W.nsIn K mainGlobals "place_refusal" = some (some (.ref A_place_refusal)))
    (l_place_refusal : K.lookup A_place_refusal = some ⟨oc_place_refusal, od_place_refusal, .func (PySem.W.fnOf "place_refusal" "place_refusal" (defArgs s_place_refusal) (defBody s_place_refusal) (defScope s_place_refusal) .none kV_place_refusal dc_place_refusal pm_place_refusal an_place_refusal cd_place_refusal ct_place_refusal), sl_place_refusal⟩)
    (c_place_refusal : PySem.W.codeIn K cd_place_refusal "place_refusal" = true)
    (k_place_refusal : PySem.W.keepIn K (.ref A_place_refusal) = true)
    (a_amend_refusal : PySem.W.nsIn K mainGlobals "amend_refusal" = some (some (.ref A_amend_refusal)))
    (l_amend_refusal : K.lookup A_amend_refusal = some ⟨oc_amend_refusal, od_amend_refusal, .func (PySem.W.fnOf "amend_refusal" "amend_refusal" (defArgs s_amend_refusal) (defBody s_amend_refusal) (defScope s_amend_refusal) .none kV_amend_refusal dc_amend_refusal pm_amend_refusal an_amend_refusal cd_amend_refusal ct_amend_refusal), sl_amend_refusal⟩)
    (c_amend_refusal : PySem.W.codeIn K cd_amend_refusal "amend_refusal" = true)
    (k_amend_refusal : PySem.W.keepIn K (.ref A_amend_refusal) = true)
    (a_amend : PySem.W.nsIn K mainGlobals "amend" = some (some (.ref A_amend)))
    (l_amend : K.lookup A_amend = some ⟨oc_amend, od_amend, .func (PySem.W.fnOf "amend" "amend" (defArgs s_amend) (defBody s_amend) (defScope s_amend) .none kV_amend dc_amend pm_amend an_amend cd_amend ct_amend), sl_amend⟩)
    (c_amend : PySem.W.codeIn K cd_amend "amend" = true)
    (k_amend : PySem.W.keepIn K (.ref A_amend) = true)
    (a_go_refusal : PySem.W.nsIn K mainGlobals "go_refusal" = some (some (.ref A_go_refusal)))
    (l_go_refusal : K.lookup A_go_refusal = some ⟨oc_go_refusal, od_go_refusal, .func (PySem.W.fnOf "go_refusal" "go_refusal" (defArgs s_go_refusal) (defBody s_go_refusal) (defScope s_go_refusal) .none kV_go_refusal dc_go_refusal pm_go_refusal an_go_refusal cd_go_refusal ct_go_refusal), sl_go_refusal⟩)
    (c_go_refusal : PySem.W.codeIn K cd_go_refusal "go_refusal" = true)
    (k_go_refusal : PySem.W.keepIn K (.ref A_go_refusal) = true)
    (a_go : PySem.W.nsIn K mainGlobals "go" = some (some (.ref A_go)))
    (l_go : K.lookup A_go = some ⟨oc_go, od_go, .func (PySem.W.fnOf "go" "go" (defArgs s_go) (defBody s_go) (defScope s_go) .none kV_go dc_go pm_go an_go cd_go ct_go), sl_go⟩)
    (c_go : PySem.W.codeIn K cd_go "go" = true)
    (k_go : PySem.W.keepIn K (.ref A_go) = true)
    (a_divide_refusal : PySem.W.nsIn K mainGlobals "divide_refusal" = some (some (.ref A_divide_refusal)))
    (l_divide_refusal : K.lookup A_divide_refusal = some ⟨oc_divide_refusal, od_divide_refusal, .func (PySem.W.fnOf "divide_refusal" "divide_refusal" (defArgs s_divide_refusal) (defBody s_divide_refusal) (defScope s_divide_refusal) .none kV_divide_refusal dc_divide_refusal pm_divide_refusal an_divide_refusal cd_divide_refusal ct_divide_refusal), sl_divide_refusal⟩)
    (c_divide_refusal : PySem.W.codeIn K cd_divide_refusal "divide_refusal" = true)
    (k_divide_refusal : PySem.W.keepIn K (.ref A_divide_refusal) = true)
    (a_divide : PySem.W.nsIn K mainGlobals "divide" = some (some (.ref A_divide)))
    (l_divide : K.lookup A_divide = some ⟨oc_divide, od_divide, .func (PySem.W.fnOf "divide" "divide" (defArgs s_divide) (defBody s_divide) (defScope s_divide) .none kV_divide dc_divide pm_divide an_divide cd_divide ct_divide), sl_divide⟩)
    (c_divide : PySem.W.codeIn K cd_divide "divide" = true)
    (k_divide : PySem.W.keepIn K (.ref A_divide) = true)
    (a_withdraw : PySem.W.nsIn K mainGlobals "withdraw" = some (some (.ref A_withdraw)))
    (l_withdraw : K.lookup A_withdraw = some ⟨oc_withdraw, od_withdraw, .func (PySem.W.fnOf "withdraw" "withdraw" (defArgs s_withdraw) (defBody s_withdraw) (defScope s_withdraw) .none kV_withdraw dc_withdraw pm_withdraw an_withdraw cd_withdraw ct_withdraw), sl_withdraw⟩)
    (c_withdraw : PySem.W.codeIn K cd_withdraw "withdraw" = true)
    (k_withdraw : PySem.W.keepIn K (.ref A_withdraw) = true)
    (a_take_refusal : PySem.W.nsIn K mainGlobals "take_refusal" = some (some (.ref A_take_refusal)))
    (l_take_refusal : K.lookup A_take_refusal = some ⟨oc_take_refusal, od_take_refusal, .func (PySem.W.fnOf "take_refusal" "take_refusal" (defArgs s_take_refusal) (defBody s_take_refusal) (defScope s_take_refusal) .none kV_take_refusal dc_take_refusal pm_take_refusal an_take_refusal cd_take_refusal ct_take_refusal), sl_take_refusal⟩)
    (c_take_refusal : PySem.W.codeIn K cd_take_refusal "take_refusal" = true)
    (k_take_refusal : PySem.W.keepIn K (.ref A_take_refusal) = true)
    (a_take : PySem.W.nsIn K mainGlobals "take" = some (some (.ref A_take)))
    (l_take : K.lookup A_take = some ⟨oc_take, od_take, .func (PySem.W.fnOf "take" "take" (defArgs s_take) (defBody s_take) (defScope s_take) .none kV_take dc_take pm_take an_take cd_take ct_take), sl_take⟩)
    (c_take : PySem.W.codeIn K cd_take "take" = true)
    (k_take : PySem.W.keepIn K (.ref A_take) = true)
    (a_tell_asked : PySem.W.nsIn K mainGlobals "tell_asked" = some (some (.ref A_tell_asked)))
    (l_tell_asked : K.lookup A_tell_asked = some ⟨oc_tell_asked, od_tell_asked, .func (PySem.W.fnOf "tell_asked" "tell_asked" (defArgs s_tell_asked) (defBody s_tell_asked) (defScope s_tell_asked) .none kV_tell_asked dc_tell_asked pm_tell_asked an_tell_asked cd_tell_asked ct_tell_asked), sl_tell_asked⟩)
    (c_tell_asked : PySem.W.codeIn K cd_tell_asked "tell_asked" = true)
    (k_tell_asked : PySem.W.keepIn K (.ref A_tell_asked) = true)
    (a_tell_words : PySem.W.nsIn K mainGlobals "tell_words" = some (some (.ref A_tell_words)))
    (l_tell_words : K.lookup A_tell_words = some ⟨oc_tell_words, od_tell_words, .func (PySem.W.fnOf "tell_words" "tell_words" (defArgs s_tell_words) (defBody s_tell_words) (defScope s_tell_words) .none kV_tell_words dc_tell_words pm_tell_words an_tell_words cd_tell_words ct_tell_words), sl_tell_words⟩)
    (c_tell_words : PySem.W.codeIn K cd_tell_words "tell_words" = true)
    (k_tell_words : PySem.W.keepIn K (.ref A_tell_words) = true)
    (a_tell_amendment : PySem.W.nsIn K mainGlobals "tell_amendment" = some (some (.ref A_tell_amendment)))
    (l_tell_amendment : K.lookup A_tell_amendment = some ⟨oc_tell_amendment, od_tell_amendment, .func (PySem.W.fnOf "tell_amendment" "tell_amendment" (defArgs s_tell_amendment) (defBody s_tell_amendment) (defScope s_tell_amendment) .none kV_tell_amendment dc_tell_amendment pm_tell_amendment an_tell_amendment cd_tell_amendment ct_tell_amendment), sl_tell_amendment⟩)
    (c_tell_amendment : PySem.W.codeIn K cd_tell_amendment "tell_amendment" = true)
    (k_tell_amendment : PySem.W.keepIn K (.ref A_tell_amendment) = true)
    (a_tell_text : PySem.W.nsIn K mainGlobals "tell_text" = some (some (.ref A_tell_text)))
    (l_tell_text : K.lookup A_tell_text = some ⟨oc_tell_text, od_tell_text, .func (PySem.W.fnOf "tell_text" "tell_text" (defArgs s_tell_text) (defBody s_tell_text) (defScope s_tell_text) .none kV_tell_text dc_tell_text pm_tell_text an_tell_text cd_tell_text ct_tell_text), sl_tell_text⟩)
    (c_tell_text : PySem.W.codeIn K cd_tell_text "tell_text" = true)
    (k_tell_text : PySem.W.keepIn K (.ref A_tell_text) = true)
    (a_tell_passed : PySem.W.nsIn K mainGlobals "tell_passed" = some (some (.ref A_tell_passed)))
    (l_tell_passed : K.lookup A_tell_passed = some ⟨oc_tell_passed, od_tell_passed, .func (PySem.W.fnOf "tell_passed" "tell_passed" (defArgs s_tell_passed) (defBody s_tell_passed) (defScope s_tell_passed) .none kV_tell_passed dc_tell_passed pm_tell_passed an_tell_passed cd_tell_passed ct_tell_passed), sl_tell_passed⟩)
    (c_tell_passed : PySem.W.codeIn K cd_tell_passed "tell_passed" = true)
    (k_tell_passed : PySem.W.keepIn K (.ref A_tell_passed) = true)
    (a_voters_for : PySem.W.nsIn K mainGlobals "voters_for" = some (some (.ref A_voters_for)))
    (l_voters_for : K.lookup A_voters_for = some ⟨oc_voters_for, od_voters_for, .func (PySem.W.fnOf "voters_for" "voters_for" (defArgs s_voters_for) (defBody s_voters_for) (defScope s_voters_for) .none kV_voters_for dc_voters_for pm_voters_for an_voters_for cd_voters_for ct_voters_for), sl_voters_for⟩)
    (c_voters_for : PySem.W.codeIn K cd_voters_for "voters_for" = true)
    (k_voters_for : PySem.W.keepIn K (.ref A_voters_for) = true)
    (a_tell_who : PySem.W.nsIn K mainGlobals "tell_who" = some (some (.ref A_tell_who)))
    (l_tell_who : K.lookup A_tell_who = some ⟨oc_tell_who, od_tell_who, .func (PySem.W.fnOf "tell_who" "tell_who" (defArgs s_tell_who) (defBody s_tell_who) (defScope s_tell_who) .none kV_tell_who dc_tell_who pm_tell_who an_tell_who cd_tell_who ct_tell_who), sl_tell_who⟩)
    (c_tell_who : PySem.W.codeIn K cd_tell_who "tell_who" = true)
    (k_tell_who : PySem.W.keepIn K (.ref A_tell_who) = true)
    (a_tell_votes : PySem.W.nsIn K mainGlobals "tell_votes" = some (some (.ref A_tell_votes)))
    (l_tell_votes : K.lookup A_tell_votes = some ⟨oc_tell_votes, od_tell_votes, .func (PySem.W.fnOf "tell_votes" "tell_votes" (defArgs s_tell_votes) (defBody s_tell_votes) (defScope s_tell_votes) .none kV_tell_votes dc_tell_votes pm_tell_votes an_tell_votes cd_tell_votes ct_tell_votes), sl_tell_votes⟩)
    (c_tell_votes : PySem.W.codeIn K cd_tell_votes "tell_votes" = true)
    (k_tell_votes : PySem.W.keepIn K (.ref A_tell_votes) = true)
    (a_vote_refusal : PySem.W.nsIn K mainGlobals "vote_refusal" = some (some (.ref A_vote_refusal)))
    (l_vote_refusal : K.lookup A_vote_refusal = some ⟨oc_vote_refusal, od_vote_refusal, .func (PySem.W.fnOf "vote_refusal" "vote_refusal" (defArgs s_vote_refusal) (defBody s_vote_refusal) (defScope s_vote_refusal) .none kV_vote_refusal dc_vote_refusal pm_vote_refusal an_vote_refusal cd_vote_refusal ct_vote_refusal), sl_vote_refusal⟩)
    (c_vote_refusal : PySem.W.codeIn K cd_vote_refusal "vote_refusal" = true)
    (k_vote_refusal : PySem.W.keepIn K (.ref A_vote_refusal) = true)
    (a_is_carried : PySem.W.nsIn K mainGlobals "is_carried" = some (some (.ref A_is_carried)))
    (l_is_carried : K.lookup A_is_carried = some ⟨oc_is_carried, od_is_carried, .func (PySem.W.fnOf "is_carried" "is_carried" (defArgs s_is_carried) (defBody s_is_carried) (defScope s_is_carried) .none kV_is_carried dc_is_carried pm_is_carried an_is_carried cd_is_carried ct_is_carried), sl_is_carried⟩)
    (c_is_carried : PySem.W.codeIn K cd_is_carried "is_carried" = true)
    (k_is_carried : PySem.W.keepIn K (.ref A_is_carried) = true)
    (a_vote : PySem.W.nsIn K mainGlobals "vote" = some (some (.ref A_vote)))
    (l_vote : K.lookup A_vote = some ⟨oc_vote, od_vote, .func (PySem.W.fnOf "vote" "vote" (defArgs s_vote) (defBody s_vote) (defScope s_vote) .none kV_vote dc_vote pm_vote an_vote cd_vote ct_vote), sl_vote⟩)
    (c_vote : PySem.W.codeIn K cd_vote "vote" = true)
    (k_vote : PySem.W.keepIn K (.ref A_vote) = true)
    (a_call_begins : PySem.W.nsIn K mainGlobals "call_begins" = some (some (.ref A_call_begins)))
    (l_call_begins : K.lookup A_call_begins = some ⟨oc_call_begins, od_call_begins, .func (PySem.W.fnOf "call_begins" "call_begins" (defArgs s_call_begins) (defBody s_call_begins) (defScope s_call_begins) .none kV_call_begins dc_call_begins pm_call_begins an_call_begins cd_call_begins ct_call_begins), sl_call_begins⟩)
    (c_call_begins : PySem.W.codeIn K cd_call_begins "call_begins" = true)
    (k_call_begins : PySem.W.keepIn K (.ref A_call_begins) = true)
    (a_call_member : PySem.W.nsIn K mainGlobals "call_member" = some (some (.ref A_call_member)))
    (l_call_member : K.lookup A_call_member = some ⟨oc_call_member, od_call_member, .func (PySem.W.fnOf "call_member" "call_member" (defArgs s_call_member) (defBody s_call_member) (defScope s_call_member) .none kV_call_member dc_call_member pm_call_member an_call_member cd_call_member ct_call_member), sl_call_member⟩)
    (c_call_member : PySem.W.codeIn K cd_call_member "call_member" = true)
    (k_call_member : PySem.W.keepIn K (.ref A_call_member) = true)
    (a_call_comes : PySem.W.nsIn K mainGlobals "call_comes" = some (some (.ref A_call_comes)))
    (l_call_comes : K.lookup A_call_comes = some ⟨oc_call_comes, od_call_comes, .func (PySem.W.fnOf "call_comes" "call_comes" (defArgs s_call_comes) (defBody s_call_comes) (defScope s_call_comes) .none kV_call_comes dc_call_comes pm_call_comes an_call_comes cd_call_comes ct_call_comes), sl_call_comes⟩)
    (c_call_comes : PySem.W.codeIn K cd_call_comes "call_comes" = true)
    (k_call_comes : PySem.W.keepIn K (.ref A_call_comes) = true)
    (a_call_move : PySem.W.nsIn K mainGlobals "call_move" = some (some (.ref A_call_move)))
    (l_call_move : K.lookup A_call_move = some ⟨oc_call_move, od_call_move, .func (PySem.W.fnOf "call_move" "call_move" (defArgs s_call_move) (defBody s_call_move) (defScope s_call_move) .none kV_call_move dc_call_move pm_call_move an_call_move cd_call_move ct_call_move), sl_call_move⟩)
    (c_call_move : PySem.W.codeIn K cd_call_move "call_move" = true)
    (k_call_move : PySem.W.keepIn K (.ref A_call_move) = true)
    (a_call_amend : PySem.W.nsIn K mainGlobals "call_amend" = some (some (.ref A_call_amend)))
    (l_call_amend : K.lookup A_call_amend = some ⟨oc_call_amend, od_call_amend, .func (PySem.W.fnOf "call_amend" "call_amend" (defArgs s_call_amend) (defBody s_call_amend) (defScope s_call_amend) .none kV_call_amend dc_call_amend pm_call_amend an_call_amend cd_call_amend ct_call_amend), sl_call_amend⟩)
    (c_call_amend : PySem.W.codeIn K cd_call_amend "call_amend" = true)
    (k_call_amend : PySem.W.keepIn K (.ref A_call_amend) = true)
    (a_call_go : PySem.W.nsIn K mainGlobals "call_go" = some (some (.ref A_call_go)))
    (l_call_go : K.lookup A_call_go = some ⟨oc_call_go, od_call_go, .func (PySem.W.fnOf "call_go" "call_go" (defArgs s_call_go) (defBody s_call_go) (defScope s_call_go) .none kV_call_go dc_call_go pm_call_go an_call_go cd_call_go ct_call_go), sl_call_go⟩)
    (c_call_go : PySem.W.codeIn K cd_call_go "call_go" = true)
    (k_call_go : PySem.W.keepIn K (.ref A_call_go) = true)
    (a_call_divide : PySem.W.nsIn K mainGlobals "call_divide" = some (some (.ref A_call_divide)))
    (l_call_divide : K.lookup A_call_divide = some ⟨oc_call_divide, od_call_divide, .func (PySem.W.fnOf "call_divide" "call_divide" (defArgs s_call_divide) (defBody s_call_divide) (defScope s_call_divide) .none kV_call_divide dc_call_divide pm_call_divide an_call_divide cd_call_divide ct_call_divide), sl_call_divide⟩)
    (c_call_divide : PySem.W.codeIn K cd_call_divide "call_divide" = true)
    (k_call_divide : PySem.W.keepIn K (.ref A_call_divide) = true)
    (a_call_withdraw : PySem.W.nsIn K mainGlobals "call_withdraw" = some (some (.ref A_call_withdraw)))
    (l_call_withdraw : K.lookup A_call_withdraw = some ⟨oc_call_withdraw, od_call_withdraw, .func (PySem.W.fnOf "call_withdraw" "call_withdraw" (defArgs s_call_withdraw) (defBody s_call_withdraw) (defScope s_call_withdraw) .none kV_call_withdraw dc_call_withdraw pm_call_withdraw an_call_withdraw cd_call_withdraw ct_call_withdraw), sl_call_withdraw⟩)
    (c_call_withdraw : PySem.W.codeIn K cd_call_withdraw "call_withdraw" = true)
    (k_call_withdraw : PySem.W.keepIn K (.ref A_call_withdraw) = true)
    (a_call_take : PySem.W.nsIn K mainGlobals "call_take" = some (some (.ref A_call_take)))
    (l_call_take : K.lookup A_call_take = some ⟨oc_call_take, od_call_take, .func (PySem.W.fnOf "call_take" "call_take" (defArgs s_call_take) (defBody s_call_take) (defScope s_call_take) .none kV_call_take dc_call_take pm_call_take an_call_take cd_call_take ct_call_take), sl_call_take⟩)
    (c_call_take : PySem.W.codeIn K cd_call_take "call_take" = true)
    (k_call_take : PySem.W.keepIn K (.ref A_call_take) = true)
    (a_call_vote : PySem.W.nsIn K mainGlobals "call_vote" = some (some (.ref A_call_vote)))
    (l_call_vote : K.lookup A_call_vote = some ⟨oc_call_vote, od_call_vote, .func (PySem.W.fnOf "call_vote" "call_vote" (defArgs s_call_vote) (defBody s_call_vote) (defScope s_call_vote) .none kV_call_vote dc_call_vote pm_call_vote an_call_vote cd_call_vote ct_call_vote), sl_call_vote⟩)
    (c_call_vote : PySem.W.codeIn K cd_call_vote "call_vote" = true)
    (k_call_vote : PySem.W.keepIn K (.ref A_call_vote) = true)
    (a_call_asked : PySem.W.nsIn K mainGlobals "call_asked" = some (some (.ref A_call_asked)))
    (l_call_asked : K.lookup A_call_asked = some ⟨oc_call_asked, od_call_asked, .func (PySem.W.fnOf "call_asked" "call_asked" (defArgs s_call_asked) (defBody s_call_asked) (defScope s_call_asked) .none kV_call_asked dc_call_asked pm_call_asked an_call_asked cd_call_asked ct_call_asked), sl_call_asked⟩)
    (c_call_asked : PySem.W.codeIn K cd_call_asked "call_asked" = true)
    (k_call_asked : PySem.W.keepIn K (.ref A_call_asked) = true)
    (a_call_text : PySem.W.nsIn K mainGlobals "call_text" = some (some (.ref A_call_text)))
    (l_call_text : K.lookup A_call_text = some ⟨oc_call_text, od_call_text, .func (PySem.W.fnOf "call_text" "call_text" (defArgs s_call_text) (defBody s_call_text) (defScope s_call_text) .none kV_call_text dc_call_text pm_call_text an_call_text cd_call_text ct_call_text), sl_call_text⟩)
    (c_call_text : PySem.W.codeIn K cd_call_text "call_text" = true)
    (k_call_text : PySem.W.keepIn K (.ref A_call_text) = true)
    (a_call_passed : PySem.W.nsIn K mainGlobals "call_passed" = some (some (.ref A_call_passed)))
    (l_call_passed : K.lookup A_call_passed = some ⟨oc_call_passed, od_call_passed, .func (PySem.W.fnOf "call_passed" "call_passed" (defArgs s_call_passed) (defBody s_call_passed) (defScope s_call_passed) .none kV_call_passed dc_call_passed pm_call_passed an_call_passed cd_call_passed ct_call_passed), sl_call_passed⟩)
    (c_call_passed : PySem.W.codeIn K cd_call_passed "call_passed" = true)
    (k_call_passed : PySem.W.keepIn K (.ref A_call_passed) = true)
    (a_call_who : PySem.W.nsIn K mainGlobals "call_who" = some (some (.ref A_call_who)))
    (l_call_who : K.lookup A_call_who = some ⟨oc_call_who, od_call_who, .func (PySem.W.fnOf "call_who" "call_who" (defArgs s_call_who) (defBody s_call_who) (defScope s_call_who) .none kV_call_who dc_call_who pm_call_who an_call_who cd_call_who ct_call_who), sl_call_who⟩)
    (c_call_who : PySem.W.codeIn K cd_call_who "call_who" = true)
    (k_call_who : PySem.W.keepIn K (.ref A_call_who) = true)
    (a_call_votes : PySem.W.nsIn K mainGlobals "call_votes" = some (some (.ref A_call_votes)))
    (l_call_votes : K.lookup A_call_votes = some ⟨oc_call_votes, od_call_votes, .func (PySem.W.fnOf "call_votes" "call_votes" (defArgs s_call_votes) (defBody s_call_votes) (defScope s_call_votes) .none kV_call_votes dc_call_votes pm_call_votes an_call_votes cd_call_votes ct_call_votes), sl_call_votes⟩)
    (c_call_votes : PySem.W.codeIn K cd_call_votes "call_votes" = true)
    (k_call_votes : PySem.W.keepIn K (.ref A_call_votes) = true)
    (a_answers : PySem.W.nsIn K mainGlobals "answers" = some (some (.ref A_answers)))
    (l_answers : K.lookup A_answers = some ⟨oc_answers, od_answers, .func (PySem.W.fnOf "answers" "answers" (defArgs s_answers) (defBody s_answers) (defScope s_answers) .none kV_answers dc_answers pm_answers an_answers cd_answers ct_answers), sl_answers⟩)
    (c_answers : PySem.W.codeIn K cd_answers "answers" = true)
    (k_answers : PySem.W.keepIn K (.ref A_answers) = true)
    (pg_Word : PySem.W.plainGet K C_Word Str.empty = true)
    (hd_Word : PySem.W.hasDictIn K C_Word = true)
    (po_Word : PySem.W.plainOver K C_Word = true)
    (sa_Word : PySem.W.findIn K (.ref C_Word) "__setattr__" = some (some (.builtin "object.__setattr__")))
    (mk_Word : PySem.W.makesIn K C_Word = true)
    (kc_Word : PySem.W.keepIn K (.ref C_Word) = true)
    (n_Word_number : PySem.W.findIn K (.ref C_Word) "number" = some none)
    (n_Word_motion : PySem.W.findIn K (.ref C_Word) "motion" = some none)
    (pg_Amendment : PySem.W.plainGet K C_Amendment Str.empty = true)
    (hd_Amendment : PySem.W.hasDictIn K C_Amendment = true)
    (po_Amendment : PySem.W.plainOver K C_Amendment = true)
    (sa_Amendment : PySem.W.findIn K (.ref C_Amendment) "__setattr__" = some (some (.builtin "object.__setattr__")))
    (mk_Amendment : PySem.W.makesIn K C_Amendment = true)
    (kc_Amendment : PySem.W.keepIn K (.ref C_Amendment) = true)
    (n_Amendment_motion : PySem.W.findIn K (.ref C_Amendment) "motion" = some none)
    (n_Amendment_start : PySem.W.findIn K (.ref C_Amendment) "start" = some none)
    (n_Amendment_stop : PySem.W.findIn K (.ref C_Amendment) "stop" = some none)
    (n_Amendment_words : PySem.W.findIn K (.ref C_Amendment) "words" = some none)
    (pg_WayOn : PySem.W.plainGet K C_WayOn Str.empty = true)
    (hd_WayOn : PySem.W.hasDictIn K C_WayOn = true)
    (po_WayOn : PySem.W.plainOver K C_WayOn = true)
    (sa_WayOn : PySem.W.findIn K (.ref C_WayOn) "__setattr__" = some (some (.builtin "object.__setattr__")))
    (mk_WayOn : PySem.W.makesIn K C_WayOn = true)
    (kc_WayOn : PySem.W.keepIn K (.ref C_WayOn) = true)
    (n_WayOn_motion : PySem.W.findIn K (.ref C_WayOn) "motion" = some none)
    (n_WayOn_how : PySem.W.findIn K (.ref C_WayOn) "how" = some none)
    (pg_MainMotion : PySem.W.plainGet K C_MainMotion Str.empty = true)
    (hd_MainMotion : PySem.W.hasDictIn K C_MainMotion = true)
    (po_MainMotion : PySem.W.plainOver K C_MainMotion = true)
    (sa_MainMotion : PySem.W.findIn K (.ref C_MainMotion) "__setattr__" = some (some (.builtin "object.__setattr__")))
    (mk_MainMotion : PySem.W.makesIn K C_MainMotion = true)
    (kc_MainMotion : PySem.W.keepIn K (.ref C_MainMotion) = true)
    (n_MainMotion_motion : PySem.W.findIn K (.ref C_MainMotion) "motion" = some none)
    (n_MainMotion_words : PySem.W.findIn K (.ref C_MainMotion) "words" = some none)
    (n_MainMotion_parts_to_come : PySem.W.findIn K (.ref C_MainMotion) "parts_to_come" = some none)
    (n_MainMotion_amendment : PySem.W.findIn K (.ref C_MainMotion) "amendment" = some none)
    (n_MainMotion_further_amendment : PySem.W.findIn K (.ref C_MainMotion) "further_amendment" = some none)
    (n_MainMotion_ways_on : PySem.W.findIn K (.ref C_MainMotion) "ways_on" = some none)
    (n_MainMotion_closed : PySem.W.findIn K (.ref C_MainMotion) "closed" = some none)
    (pg_PassedText : PySem.W.plainGet K C_PassedText Str.empty = true)
    (hd_PassedText : PySem.W.hasDictIn K C_PassedText = true)
    (po_PassedText : PySem.W.plainOver K C_PassedText = true)
    (sa_PassedText : PySem.W.findIn K (.ref C_PassedText) "__setattr__" = some (some (.builtin "object.__setattr__")))
    (mk_PassedText : PySem.W.makesIn K C_PassedText = true)
    (kc_PassedText : PySem.W.keepIn K (.ref C_PassedText) = true)
    (n_PassedText_motion : PySem.W.findIn K (.ref C_PassedText) "motion" = some none)
    (n_PassedText_words : PySem.W.findIn K (.ref C_PassedText) "words" = some none)
    (n_PassedText_voters : PySem.W.findIn K (.ref C_PassedText) "voters" = some none)
    (pg_Vote : PySem.W.plainGet K C_Vote Str.empty = true)
    (hd_Vote : PySem.W.hasDictIn K C_Vote = true)
    (po_Vote : PySem.W.plainOver K C_Vote = true)
    (sa_Vote : PySem.W.findIn K (.ref C_Vote) "__setattr__" = some (some (.builtin "object.__setattr__")))
    (mk_Vote : PySem.W.makesIn K C_Vote = true)
    (kc_Vote : PySem.W.keepIn K (.ref C_Vote) = true)
    (n_Vote_motion : PySem.W.findIn K (.ref C_Vote) "motion" = some none)
    (n_Vote_asked : PySem.W.findIn K (.ref C_Vote) "asked" = some none)
    (n_Vote_carried : PySem.W.findIn K (.ref C_Vote) "carried" = some none)
    (pg_Assembly : PySem.W.plainGet K C_Assembly Str.empty = true)
    (hd_Assembly : PySem.W.hasDictIn K C_Assembly = true)
    (po_Assembly : PySem.W.plainOver K C_Assembly = true)
    (sa_Assembly : PySem.W.findIn K (.ref C_Assembly) "__setattr__" = some (some (.builtin "object.__setattr__")))
    (mk_Assembly : PySem.W.makesIn K C_Assembly = true)
    (kc_Assembly : PySem.W.keepIn K (.ref C_Assembly) = true)
    (n_Assembly_quorum : PySem.W.findIn K (.ref C_Assembly) "quorum" = some none)
    (n_Assembly_rules : PySem.W.findIn K (.ref C_Assembly) "rules" = some none)
    (n_Assembly_weights : PySem.W.findIn K (.ref C_Assembly) "weights" = some none)
    (n_Assembly_there : PySem.W.findIn K (.ref C_Assembly) "there" = some none)
    (n_Assembly_movers : PySem.W.findIn K (.ref C_Assembly) "movers" = some none)
    (n_Assembly_main : PySem.W.findIn K (.ref C_Assembly) "main" = some none)
    (n_Assembly_put_off : PySem.W.findIn K (.ref C_Assembly) "put_off" = some none)
    (n_Assembly_passed : PySem.W.findIn K (.ref C_Assembly) "passed" = some none)
    (n_Assembly_votes : PySem.W.findIn K (.ref C_Assembly) "votes" = some none)
    (n_Assembly_amendment_voters : PySem.W.findIn K (.ref C_Assembly) "amendment_voters" = some none)
    (k_FIRST_QUORUM : PySem.W.nsIn K mainGlobals "FIRST_QUORUM" = some (some (.int 1 tk_FIRST_QUORUM)))
    (k_FIRST_RULES : PySem.W.nsIn K mainGlobals "FIRST_RULES" = some (some (.ref T_FIRST_RULES)))
    (t_FIRST_RULES : K.lookup T_FIRST_RULES = some ⟨.type "tuple", to_FIRST_RULES, .seq ti_FIRST_RULES tn_FIRST_RULES, ts_FIRST_RULES⟩)
    (v_FIRST_RULES : Vals [V.int 0, V.int 0, V.int 0, V.int 3, V.int 0] ti_FIRST_RULES.toList)
    (w_FIRST_RULES : ti_FIRST_RULES.size ≤ sizeLine)
    (k_NO_REFUSAL : PySem.W.nsIn K mainGlobals "NO_REFUSAL" = some (some (.int 0 tk_NO_REFUSAL)))
    (k_WRONG : PySem.W.nsIn K mainGlobals "WRONG" = some (some (.int (-1) tk_WRONG)))
    (k_UNKNOWN : PySem.W.nsIn K mainGlobals "UNKNOWN" = some (some (.int (-2) tk_UNKNOWN)))
    (k_AWAY : PySem.W.nsIn K mainGlobals "AWAY" = some (some (.int (-3) tk_AWAY)))
    (k_OUT_OF_ORDER : PySem.W.nsIn K mainGlobals "OUT_OF_ORDER" = some (some (.int (-4) tk_OUT_OF_ORDER)))
    (k_FULL : PySem.W.nsIn K mainGlobals "FULL" = some (some (.int (-5) tk_FULL)))
    (k_NOT_THE_MOVER : PySem.W.nsIn K mainGlobals "NOT_THE_MOVER" = some (some (.int (-6) tk_NOT_THE_MOVER)))
    (k_NOTHING_SUCH : PySem.W.nsIn K mainGlobals "NOTHING_SUCH" = some (some (.int (-6) tk_NOTHING_SUCH)))
    (k_NO_QUORUM : PySem.W.nsIn K mainGlobals "NO_QUORUM" = some (some (.int (-7) tk_NO_QUORUM)))
    (k_MOST_MEMBERS : PySem.W.nsIn K mainGlobals "MOST_MEMBERS" = some (some (.int 20 tk_MOST_MEMBERS)))
    (k_MOST_WEIGHT : PySem.W.nsIn K mainGlobals "MOST_WEIGHT" = some (some (.int 100 tk_MOST_WEIGHT)))
    (k_MAIN : PySem.W.nsIn K mainGlobals "MAIN" = some (some (.int 1 tk_MAIN)))
    (k_AMENDMENT : PySem.W.nsIn K mainGlobals "AMENDMENT" = some (some (.int 2 tk_AMENDMENT)))
    (k_FURTHER_AMENDMENT : PySem.W.nsIn K mainGlobals "FURTHER_AMENDMENT" = some (some (.int 3 tk_FURTHER_AMENDMENT)))
    (k_SEND_BACK : PySem.W.nsIn K mainGlobals "SEND_BACK" = some (some (.int 4 tk_SEND_BACK)))
    (k_CLOSE : PySem.W.nsIn K mainGlobals "CLOSE" = some (some (.int 5 tk_CLOSE)))
    (k_PUT_OFF : PySem.W.nsIn K mainGlobals "PUT_OFF" = some (some (.int 6 tk_PUT_OFF)))
    (k_MOST_MOTIONS : PySem.W.nsIn K mainGlobals "MOST_MOTIONS" = some (some (.int 100 tk_MOST_MOTIONS)))
    (k_MOST_WORDS_MOVED : PySem.W.nsIn K mainGlobals "MOST_WORDS_MOVED" = some (some (.int 30 tk_MOST_WORDS_MOVED)))
    (k_MOST_WORDS_AMENDED : PySem.W.nsIn K mainGlobals "MOST_WORDS_AMENDED" = some (some (.int 60 tk_MOST_WORDS_AMENDED)))
    (k_LAST_WORD : PySem.W.nsIn K mainGlobals "LAST_WORD" = some (some (.int 99999 tk_LAST_WORD)))
    (k_SIMPLE : PySem.W.nsIn K mainGlobals "SIMPLE" = some (some (.int 0 tk_SIMPLE)))
    (k_HALF_OF_THOSE_THERE : PySem.W.nsIn K mainGlobals "HALF_OF_THOSE_THERE" = some (some (.int 1 tk_HALF_OF_THOSE_THERE)))
    (k_HALF_OF_ALL : PySem.W.nsIn K mainGlobals "HALF_OF_ALL" = some (some (.int 2 tk_HALF_OF_ALL)))
    (k_TWO_THIRDS : PySem.W.nsIn K mainGlobals "TWO_THIRDS" = some (some (.int 3 tk_TWO_THIRDS)))
    (k_CHAIR_FOR : PySem.W.nsIn K mainGlobals "CHAIR_FOR" = some (some (.int 1 tk_CHAIR_FOR)))
    (k_CHAIR_AGAINST : PySem.W.nsIn K mainGlobals "CHAIR_AGAINST" = some (some (.int 2 tk_CHAIR_AGAINST)))
    (k_RULE_PLACES : PySem.W.nsIn K mainGlobals "RULE_PLACES" = some (some (.ref T_RULE_PLACES)))
    (t_RULE_PLACES : K.lookup T_RULE_PLACES = some ⟨.type "tuple", to_RULE_PLACES, .seq ti_RULE_PLACES tn_RULE_PLACES, ts_RULE_PLACES⟩)
    (v_RULE_PLACES : Vals [V.non, V.int 0, V.int 1, V.int 1, V.int 2, V.int 3, V.int 4] ti_RULE_PLACES.toList)
    (w_RULE_PLACES : ti_RULE_PLACES.size ≤ sizeLine)
    (k_CALLS : PySem.W.nsIn K mainGlobals "CALLS" = some (some (.ref T_CALLS)))
    (t_CALLS : K.lookup T_CALLS = some ⟨.type "tuple", to_CALLS, .seq ti_CALLS tn_CALLS, ts_CALLS⟩)
    (v_CALLS : Vals [V.ref A_call_begins, V.ref A_call_member, V.ref A_call_comes, V.ref A_call_move, V.ref A_call_amend, V.ref A_call_go, V.ref A_call_divide, V.ref A_call_withdraw, V.ref A_call_take, V.ref A_call_vote, V.ref A_call_asked, V.ref A_call_text, V.ref A_call_passed, V.ref A_call_who, V.ref A_call_votes] ti_CALLS.toList)
    (w_CALLS : ti_CALLS.size ≤ sizeLine)
    (b_all : PySem.W.nsIn K mainGlobals "all" = some none)
    (b_len : PySem.W.nsIn K mainGlobals "len" = some none)
    (b_range : PySem.W.nsIn K mainGlobals "range" = some none)
    (b_set : PySem.W.nsIn K mainGlobals "set" = some none)
    (b_sum : PySem.W.nsIn K mainGlobals "sum" = some none)
    (b_tuple : PySem.W.nsIn K mainGlobals "tuple" = some none) :
    Tx K mg where
  f_Word_init := ⟨A_Word_init, _, fun_mk (st := s_Word_init) l_Word_init c_Word_init k_Word_init⟩
  f_Amendment_init := ⟨A_Amendment_init, _, fun_mk (st := s_Amendment_init) l_Amendment_init c_Amendment_init k_Amendment_init⟩
  f_WayOn_init := ⟨A_WayOn_init, _, fun_mk (st := s_WayOn_init) l_WayOn_init c_WayOn_init k_WayOn_init⟩
  f_MainMotion_init := ⟨A_MainMotion_init, _, fun_mk (st := s_MainMotion_init) l_MainMotion_init c_MainMotion_init k_MainMotion_init⟩
  f_PassedText_init := ⟨A_PassedText_init, _, fun_mk (st := s_PassedText_init) l_PassedText_init c_PassedText_init k_PassedText_init⟩
  f_Vote_init := ⟨A_Vote_init, _, fun_mk (st := s_Vote_init) l_Vote_init c_Vote_init k_Vote_init⟩
  f_Assembly_init := ⟨A_Assembly_init, _, fun_mk (st := s_Assembly_init) l_Assembly_init c_Assembly_init k_Assembly_init⟩
  f_Assembly_begin := ⟨A_Assembly_begin, _, fun_mk (st := s_Assembly_begin) l_Assembly_begin c_Assembly_begin k_Assembly_begin⟩
  f_is_member := ⟨⟨A_is_member, _, fun_mk (st := s_is_member) l_is_member c_is_member k_is_member⟩, PySem.W.mg_of X G a_is_member⟩
  f_absence := ⟨⟨A_absence, _, fun_mk (st := s_absence) l_absence c_absence k_absence⟩, PySem.W.mg_of X G a_absence⟩
  f_weigh := ⟨⟨A_weigh, _, fun_mk (st := s_weigh) l_weigh c_weigh k_weigh⟩, PySem.W.mg_of X G a_weigh⟩
  f_weigh_those_there := ⟨⟨A_weigh_those_there, _, fun_mk (st := s_weigh_those_there) l_weigh_those_there c_weigh_those_there k_weigh_those_there⟩, PySem.W.mg_of X G a_weigh_those_there⟩
  f_admit := ⟨⟨A_admit, _, fun_mk (st := s_admit) l_admit c_admit k_admit⟩, PySem.W.mg_of X G a_admit⟩
  f_comes := ⟨⟨A_comes, _, fun_mk (st := s_comes) l_comes c_comes k_comes⟩, PySem.W.mg_of X G a_comes⟩
  f_asked_sort := ⟨⟨A_asked_sort, _, fun_mk (st := s_asked_sort) l_asked_sort c_asked_sort k_asked_sort⟩, PySem.W.mg_of X G a_asked_sort⟩
  f_asked_motion := ⟨⟨A_asked_motion, _, fun_mk (st := s_asked_motion) l_asked_motion c_asked_motion k_asked_motion⟩, PySem.W.mg_of X G a_asked_motion⟩
  f_how_many_parts := ⟨⟨A_how_many_parts, _, fun_mk (st := s_how_many_parts) l_how_many_parts c_how_many_parts k_how_many_parts⟩, PySem.W.mg_of X G a_how_many_parts⟩
  f_make_way := ⟨⟨A_make_way, _, fun_mk (st := s_make_way) l_make_way c_make_way k_make_way⟩, PySem.W.mg_of X G a_make_way⟩
  f_drop_asked := ⟨⟨A_drop_asked, _, fun_mk (st := s_drop_asked) l_drop_asked c_drop_asked k_drop_asked⟩, PySem.W.mg_of X G a_drop_asked⟩
  f_amended := ⟨⟨A_amended, _, fun_mk (st := s_amended) l_amended c_amended k_amended⟩, PySem.W.mg_of X G a_amended⟩
  f_carry_in_place := ⟨⟨A_carry_in_place, _, fun_mk (st := s_carry_in_place) l_carry_in_place c_carry_in_place k_carry_in_place⟩, PySem.W.mg_of X G a_carry_in_place⟩
  f_carry_asked := ⟨⟨A_carry_asked, _, fun_mk (st := s_carry_asked) l_carry_asked c_carry_asked k_carry_asked⟩, PySem.W.mg_of X G a_carry_asked⟩
  f_may_be_moved := ⟨⟨A_may_be_moved, _, fun_mk (st := s_may_be_moved) l_may_be_moved c_may_be_moved k_may_be_moved⟩, PySem.W.mg_of X G a_may_be_moved⟩
  f_motions_are_full := ⟨⟨A_motions_are_full, _, fun_mk (st := s_motions_are_full) l_motions_are_full c_motions_are_full k_motions_are_full⟩, PySem.W.mg_of X G a_motions_are_full⟩
  f_number_motion := ⟨⟨A_number_motion, _, fun_mk (st := s_number_motion) l_number_motion c_number_motion k_number_motion⟩, PySem.W.mg_of X G a_number_motion⟩
  f_words_of := ⟨⟨A_words_of, _, fun_mk (st := s_words_of) l_words_of c_words_of k_words_of⟩, PySem.W.mg_of X G a_words_of⟩
  f_absence_or_nothing := ⟨⟨A_absence_or_nothing, _, fun_mk (st := s_absence_or_nothing) l_absence_or_nothing c_absence_or_nothing k_absence_or_nothing⟩, PySem.W.mg_of X G a_absence_or_nothing⟩
  f_move_refusal := ⟨⟨A_move_refusal, _, fun_mk (st := s_move_refusal) l_move_refusal c_move_refusal k_move_refusal⟩, PySem.W.mg_of X G a_move_refusal⟩
  f_move := ⟨⟨A_move, _, fun_mk (st := s_move) l_move c_move k_move⟩, PySem.W.mg_of X G a_move⟩
  f_words_to_amend := ⟨⟨A_words_to_amend, _, fun_mk (st := s_words_to_amend) l_words_to_amend c_words_to_amend k_words_to_amend⟩, PySem.W.mg_of X G a_words_to_amend⟩
  f_place_refusal := ⟨⟨A_place_refusal, _, fun_mk (st := s_place_refusal) l_place_refusal c_place_refusal k_place_refusal⟩, PySem.W.mg_of X G a_place_refusal⟩
  f_amend_refusal := ⟨⟨A_amend_refusal, _, fun_mk (st := s_amend_refusal) l_amend_refusal c_amend_refusal k_amend_refusal⟩, PySem.W.mg_of X G a_amend_refusal⟩
  f_amend := ⟨⟨A_amend, _, fun_mk (st := s_amend) l_amend c_amend k_amend⟩, PySem.W.mg_of X G a_amend⟩
  f_go_refusal := ⟨⟨A_go_refusal, _, fun_mk (st := s_go_refusal) l_go_refusal c_go_refusal k_go_refusal⟩, PySem.W.mg_of X G a_go_refusal⟩
  f_go := ⟨⟨A_go, _, fun_mk (st := s_go) l_go c_go k_go⟩, PySem.W.mg_of X G a_go⟩
  f_divide_refusal := ⟨⟨A_divide_refusal, _, fun_mk (st := s_divide_refusal) l_divide_refusal c_divide_refusal k_divide_refusal⟩, PySem.W.mg_of X G a_divide_refusal⟩
  f_divide := ⟨⟨A_divide, _, fun_mk (st := s_divide) l_divide c_divide k_divide⟩, PySem.W.mg_of X G a_divide⟩
  f_withdraw := ⟨⟨A_withdraw, _, fun_mk (st := s_withdraw) l_withdraw c_withdraw k_withdraw⟩, PySem.W.mg_of X G a_withdraw⟩
  f_take_refusal := ⟨⟨A_take_refusal, _, fun_mk (st := s_take_refusal) l_take_refusal c_take_refusal k_take_refusal⟩, PySem.W.mg_of X G a_take_refusal⟩
  f_take := ⟨⟨A_take, _, fun_mk (st := s_take) l_take c_take k_take⟩, PySem.W.mg_of X G a_take⟩
  f_tell_asked := ⟨⟨A_tell_asked, _, fun_mk (st := s_tell_asked) l_tell_asked c_tell_asked k_tell_asked⟩, PySem.W.mg_of X G a_tell_asked⟩
  f_tell_words := ⟨⟨A_tell_words, _, fun_mk (st := s_tell_words) l_tell_words c_tell_words k_tell_words⟩, PySem.W.mg_of X G a_tell_words⟩
  f_tell_amendment := ⟨⟨A_tell_amendment, _, fun_mk (st := s_tell_amendment) l_tell_amendment c_tell_amendment k_tell_amendment⟩, PySem.W.mg_of X G a_tell_amendment⟩
  f_tell_text := ⟨⟨A_tell_text, _, fun_mk (st := s_tell_text) l_tell_text c_tell_text k_tell_text⟩, PySem.W.mg_of X G a_tell_text⟩
  f_tell_passed := ⟨⟨A_tell_passed, _, fun_mk (st := s_tell_passed) l_tell_passed c_tell_passed k_tell_passed⟩, PySem.W.mg_of X G a_tell_passed⟩
  f_voters_for := ⟨⟨A_voters_for, _, fun_mk (st := s_voters_for) l_voters_for c_voters_for k_voters_for⟩, PySem.W.mg_of X G a_voters_for⟩
  f_tell_who := ⟨⟨A_tell_who, _, fun_mk (st := s_tell_who) l_tell_who c_tell_who k_tell_who⟩, PySem.W.mg_of X G a_tell_who⟩
  f_tell_votes := ⟨⟨A_tell_votes, _, fun_mk (st := s_tell_votes) l_tell_votes c_tell_votes k_tell_votes⟩, PySem.W.mg_of X G a_tell_votes⟩
  f_vote_refusal := ⟨⟨A_vote_refusal, _, fun_mk (st := s_vote_refusal) l_vote_refusal c_vote_refusal k_vote_refusal⟩, PySem.W.mg_of X G a_vote_refusal⟩
  f_is_carried := ⟨⟨A_is_carried, _, fun_mk (st := s_is_carried) l_is_carried c_is_carried k_is_carried⟩, PySem.W.mg_of X G a_is_carried⟩
  f_vote := ⟨⟨A_vote, _, fun_mk (st := s_vote) l_vote c_vote k_vote⟩, PySem.W.mg_of X G a_vote⟩
  f_call_begins := ⟨⟨A_call_begins, _, fun_mk (st := s_call_begins) l_call_begins c_call_begins k_call_begins⟩, PySem.W.mg_of X G a_call_begins⟩
  f_call_member := ⟨⟨A_call_member, _, fun_mk (st := s_call_member) l_call_member c_call_member k_call_member⟩, PySem.W.mg_of X G a_call_member⟩
  f_call_comes := ⟨⟨A_call_comes, _, fun_mk (st := s_call_comes) l_call_comes c_call_comes k_call_comes⟩, PySem.W.mg_of X G a_call_comes⟩
  f_call_move := ⟨⟨A_call_move, _, fun_mk (st := s_call_move) l_call_move c_call_move k_call_move⟩, PySem.W.mg_of X G a_call_move⟩
  f_call_amend := ⟨⟨A_call_amend, _, fun_mk (st := s_call_amend) l_call_amend c_call_amend k_call_amend⟩, PySem.W.mg_of X G a_call_amend⟩
  f_call_go := ⟨⟨A_call_go, _, fun_mk (st := s_call_go) l_call_go c_call_go k_call_go⟩, PySem.W.mg_of X G a_call_go⟩
  f_call_divide := ⟨⟨A_call_divide, _, fun_mk (st := s_call_divide) l_call_divide c_call_divide k_call_divide⟩, PySem.W.mg_of X G a_call_divide⟩
  f_call_withdraw := ⟨⟨A_call_withdraw, _, fun_mk (st := s_call_withdraw) l_call_withdraw c_call_withdraw k_call_withdraw⟩, PySem.W.mg_of X G a_call_withdraw⟩
  f_call_take := ⟨⟨A_call_take, _, fun_mk (st := s_call_take) l_call_take c_call_take k_call_take⟩, PySem.W.mg_of X G a_call_take⟩
  f_call_vote := ⟨⟨A_call_vote, _, fun_mk (st := s_call_vote) l_call_vote c_call_vote k_call_vote⟩, PySem.W.mg_of X G a_call_vote⟩
  f_call_asked := ⟨⟨A_call_asked, _, fun_mk (st := s_call_asked) l_call_asked c_call_asked k_call_asked⟩, PySem.W.mg_of X G a_call_asked⟩
  f_call_text := ⟨⟨A_call_text, _, fun_mk (st := s_call_text) l_call_text c_call_text k_call_text⟩, PySem.W.mg_of X G a_call_text⟩
  f_call_passed := ⟨⟨A_call_passed, _, fun_mk (st := s_call_passed) l_call_passed c_call_passed k_call_passed⟩, PySem.W.mg_of X G a_call_passed⟩
  f_call_who := ⟨⟨A_call_who, _, fun_mk (st := s_call_who) l_call_who c_call_who k_call_who⟩, PySem.W.mg_of X G a_call_who⟩
  f_call_votes := ⟨⟨A_call_votes, _, fun_mk (st := s_call_votes) l_call_votes c_call_votes k_call_votes⟩, PySem.W.mg_of X G a_call_votes⟩
  f_answers := ⟨⟨A_answers, _, fun_mk (st := s_answers) l_answers c_answers k_answers⟩, PySem.W.mg_of X G a_answers⟩
  C_Word := ⟨C_Word, ⟨pg_Word, hd_Word, po_Word, sa_Word⟩, PySem.W.mg_of X G ac_Word, (fun f hf => by
      rcases List.mem_cons.mp hf with rfl | hf
      · exact n_Word_number
      rcases List.mem_cons.mp hf with rfl | hf
      · exact n_Word_motion
      exact (nomatch hf)), ⟨mk_Word, a_Word_init, i_Word_init, kc_Word⟩⟩
  C_Amendment := ⟨C_Amendment, ⟨pg_Amendment, hd_Amendment, po_Amendment, sa_Amendment⟩, PySem.W.mg_of X G ac_Amendment, (fun f hf => by
      rcases List.mem_cons.mp hf with rfl | hf
      · exact n_Amendment_motion
      rcases List.mem_cons.mp hf with rfl | hf
      · exact n_Amendment_start
      rcases List.mem_cons.mp hf with rfl | hf
      · exact n_Amendment_stop
      rcases List.mem_cons.mp hf with rfl | hf
      · exact n_Amendment_words
      exact (nomatch hf)), ⟨mk_Amendment, a_Amendment_init, i_Amendment_init, kc_Amendment⟩⟩
  C_WayOn := ⟨C_WayOn, ⟨pg_WayOn, hd_WayOn, po_WayOn, sa_WayOn⟩, PySem.W.mg_of X G ac_WayOn, (fun f hf => by
      rcases List.mem_cons.mp hf with rfl | hf
      · exact n_WayOn_motion
      rcases List.mem_cons.mp hf with rfl | hf
      · exact n_WayOn_how
      exact (nomatch hf)), ⟨mk_WayOn, a_WayOn_init, i_WayOn_init, kc_WayOn⟩⟩
  C_MainMotion := ⟨C_MainMotion, ⟨pg_MainMotion, hd_MainMotion, po_MainMotion, sa_MainMotion⟩, PySem.W.mg_of X G ac_MainMotion, (fun f hf => by
      rcases List.mem_cons.mp hf with rfl | hf
      · exact n_MainMotion_motion
      rcases List.mem_cons.mp hf with rfl | hf
      · exact n_MainMotion_words
      rcases List.mem_cons.mp hf with rfl | hf
      · exact n_MainMotion_parts_to_come
      rcases List.mem_cons.mp hf with rfl | hf
      · exact n_MainMotion_amendment
      rcases List.mem_cons.mp hf with rfl | hf
      · exact n_MainMotion_further_amendment
      rcases List.mem_cons.mp hf with rfl | hf
      · exact n_MainMotion_ways_on
      rcases List.mem_cons.mp hf with rfl | hf
      · exact n_MainMotion_closed
      exact (nomatch hf)), ⟨mk_MainMotion, a_MainMotion_init, i_MainMotion_init, kc_MainMotion⟩⟩
  C_PassedText := ⟨C_PassedText, ⟨pg_PassedText, hd_PassedText, po_PassedText, sa_PassedText⟩, PySem.W.mg_of X G ac_PassedText, (fun f hf => by
      rcases List.mem_cons.mp hf with rfl | hf
      · exact n_PassedText_motion
      rcases List.mem_cons.mp hf with rfl | hf
      · exact n_PassedText_words
      rcases List.mem_cons.mp hf with rfl | hf
      · exact n_PassedText_voters
      exact (nomatch hf)), ⟨mk_PassedText, a_PassedText_init, i_PassedText_init, kc_PassedText⟩⟩
  C_Vote := ⟨C_Vote, ⟨pg_Vote, hd_Vote, po_Vote, sa_Vote⟩, PySem.W.mg_of X G ac_Vote, (fun f hf => by
      rcases List.mem_cons.mp hf with rfl | hf
      · exact n_Vote_motion
      rcases List.mem_cons.mp hf with rfl | hf
      · exact n_Vote_asked
      rcases List.mem_cons.mp hf with rfl | hf
      · exact n_Vote_carried
      exact (nomatch hf)), ⟨mk_Vote, a_Vote_init, i_Vote_init, kc_Vote⟩⟩
  C_Assembly := ⟨C_Assembly, ⟨pg_Assembly, hd_Assembly, po_Assembly, sa_Assembly⟩, PySem.W.mg_of X G ac_Assembly, (fun f hf => by
      rcases List.mem_cons.mp hf with rfl | hf
      · exact n_Assembly_quorum
      rcases List.mem_cons.mp hf with rfl | hf
      · exact n_Assembly_rules
      rcases List.mem_cons.mp hf with rfl | hf
      · exact n_Assembly_weights
      rcases List.mem_cons.mp hf with rfl | hf
      · exact n_Assembly_there
      rcases List.mem_cons.mp hf with rfl | hf
      · exact n_Assembly_movers
      rcases List.mem_cons.mp hf with rfl | hf
      · exact n_Assembly_main
      rcases List.mem_cons.mp hf with rfl | hf
      · exact n_Assembly_put_off
      rcases List.mem_cons.mp hf with rfl | hf
      · exact n_Assembly_passed
      rcases List.mem_cons.mp hf with rfl | hf
      · exact n_Assembly_votes
      rcases List.mem_cons.mp hf with rfl | hf
      · exact n_Assembly_amendment_voters
      exact (nomatch hf)), ⟨mk_Assembly, a_Assembly_init, i_Assembly_init, kc_Assembly⟩⟩
  m_Assembly_begin := ⟨a_Assembly_begin, i_Assembly_begin, k_Assembly_begin⟩
  k_FIRST_QUORUM := ⟨_, PySem.W.mg_of X G k_FIRST_QUORUM, ⟨_, rfl⟩⟩
  a_FIRST_RULES := T_FIRST_RULES
  k_FIRST_RULES := ⟨_, PySem.W.mg_of X G k_FIRST_RULES, rfl⟩
  t_FIRST_RULES := ⟨_, _, _, t_FIRST_RULES, rfl, rfl, w_FIRST_RULES, v_FIRST_RULES⟩
  k_NO_REFUSAL := ⟨_, PySem.W.mg_of X G k_NO_REFUSAL, ⟨_, rfl⟩⟩
  k_WRONG := ⟨_, PySem.W.mg_of X G k_WRONG, ⟨_, rfl⟩⟩
  k_UNKNOWN := ⟨_, PySem.W.mg_of X G k_UNKNOWN, ⟨_, rfl⟩⟩
  k_AWAY := ⟨_, PySem.W.mg_of X G k_AWAY, ⟨_, rfl⟩⟩
  k_OUT_OF_ORDER := ⟨_, PySem.W.mg_of X G k_OUT_OF_ORDER, ⟨_, rfl⟩⟩
  k_FULL := ⟨_, PySem.W.mg_of X G k_FULL, ⟨_, rfl⟩⟩
  k_NOT_THE_MOVER := ⟨_, PySem.W.mg_of X G k_NOT_THE_MOVER, ⟨_, rfl⟩⟩
  k_NOTHING_SUCH := ⟨_, PySem.W.mg_of X G k_NOTHING_SUCH, ⟨_, rfl⟩⟩
  k_NO_QUORUM := ⟨_, PySem.W.mg_of X G k_NO_QUORUM, ⟨_, rfl⟩⟩
  k_MOST_MEMBERS := ⟨_, PySem.W.mg_of X G k_MOST_MEMBERS, ⟨_, rfl⟩⟩
  k_MOST_WEIGHT := ⟨_, PySem.W.mg_of X G k_MOST_WEIGHT, ⟨_, rfl⟩⟩
  k_MAIN := ⟨_, PySem.W.mg_of X G k_MAIN, ⟨_, rfl⟩⟩
  k_AMENDMENT := ⟨_, PySem.W.mg_of X G k_AMENDMENT, ⟨_, rfl⟩⟩
  k_FURTHER_AMENDMENT := ⟨_, PySem.W.mg_of X G k_FURTHER_AMENDMENT, ⟨_, rfl⟩⟩
  k_SEND_BACK := ⟨_, PySem.W.mg_of X G k_SEND_BACK, ⟨_, rfl⟩⟩
  k_CLOSE := ⟨_, PySem.W.mg_of X G k_CLOSE, ⟨_, rfl⟩⟩
  k_PUT_OFF := ⟨_, PySem.W.mg_of X G k_PUT_OFF, ⟨_, rfl⟩⟩
  k_MOST_MOTIONS := ⟨_, PySem.W.mg_of X G k_MOST_MOTIONS, ⟨_, rfl⟩⟩
  k_MOST_WORDS_MOVED := ⟨_, PySem.W.mg_of X G k_MOST_WORDS_MOVED, ⟨_, rfl⟩⟩
  k_MOST_WORDS_AMENDED := ⟨_, PySem.W.mg_of X G k_MOST_WORDS_AMENDED, ⟨_, rfl⟩⟩
  k_LAST_WORD := ⟨_, PySem.W.mg_of X G k_LAST_WORD, ⟨_, rfl⟩⟩
  k_SIMPLE := ⟨_, PySem.W.mg_of X G k_SIMPLE, ⟨_, rfl⟩⟩
  k_HALF_OF_THOSE_THERE := ⟨_, PySem.W.mg_of X G k_HALF_OF_THOSE_THERE, ⟨_, rfl⟩⟩
  k_HALF_OF_ALL := ⟨_, PySem.W.mg_of X G k_HALF_OF_ALL, ⟨_, rfl⟩⟩
  k_TWO_THIRDS := ⟨_, PySem.W.mg_of X G k_TWO_THIRDS, ⟨_, rfl⟩⟩
  k_CHAIR_FOR := ⟨_, PySem.W.mg_of X G k_CHAIR_FOR, ⟨_, rfl⟩⟩
  k_CHAIR_AGAINST := ⟨_, PySem.W.mg_of X G k_CHAIR_AGAINST, ⟨_, rfl⟩⟩
  a_RULE_PLACES := T_RULE_PLACES
  k_RULE_PLACES := ⟨_, PySem.W.mg_of X G k_RULE_PLACES, rfl⟩
  t_RULE_PLACES := ⟨_, _, _, t_RULE_PLACES, rfl, rfl, w_RULE_PLACES, v_RULE_PLACES⟩
  a_CALLS := T_CALLS
  k_CALLS := ⟨_, PySem.W.mg_of X G k_CALLS, rfl⟩
  t_CALLS := ⟨_, _, _, t_CALLS, rfl, rfl, w_CALLS, v_CALLS⟩
  b_all := PySem.W.mg_none_of X G b_all
  b_len := PySem.W.mg_none_of X G b_len
  b_range := PySem.W.mg_none_of X G b_range
  b_set := PySem.W.mg_none_of X G b_set
  b_sum := PySem.W.mg_none_of X G b_sum
  b_tuple := PySem.W.mg_none_of X G b_tuple
theorem all_of {P : Program} {w : World} {K : PySem.W.Frag} {mg : Str → Option Value} {fa : Addr} (hfa : mg "answers" = some (.ref fa)) (T : Tx K mg) :
    ∃ fd : FuncData, (∀ (s : Shared) (us : List Value), us.length = (["calls"] : List Str).length → BindsTo s fd ⟨us, []⟩ ((["calls"] : List Str).zip us)) ∧ ∀ base : Heap, K.In base → base.Ns mainGlobals mg → FnOk P w K mg base CX0 7 fa fd ["calls"] (spAns K) := by
  have e := hfa.symm.trans T.f_answers.g
  cases e
  exact ⟨T.f_answers.d, fun s us hu => ansbind T s us hu, fun base _ _ => ok_answers T⟩
end My

end

section
set_option Elab.async false
set_option linter.all false
namespace PySem.W.Fast
theorem tw5684054047469731011 : True := ⟨⟩
theorem tw17316250572892017301 : True := ⟨⟩
theorem tw14976459226354026960 : True := ⟨⟩
theorem tw6701348281624706747 : True := ⟨⟩
theorem tw6589873192733864308 : True := ⟨⟩
theorem tw14779130295830098622 : True := ⟨⟩
theorem tw12646373634958416281 : True := ⟨⟩
theorem tw14794418702713554960 : True := ⟨⟩
theorem tw16600077166608958657 : True := ⟨⟩
theorem tw13895752800262604290 : True := ⟨⟩
theorem tw2303611484420916750 : True := ⟨⟩
theorem tw13550613085213330599 : True := ⟨⟩
theorem tw2016285881160123461 : True := ⟨⟩
theorem tw6871286691071697536 : True := ⟨⟩
theorem tw18045496786896305902 : True := ⟨⟩
theorem tw4152312081893436988 : True := ⟨⟩
theorem tw13709887097077783945 : True := ⟨⟩
theorem tw12609180171973343878 : True := ⟨⟩
theorem tw17301054402580066614 : True := ⟨⟩
theorem tw5705370737025531490 : True := ⟨⟩
theorem tw1108669456775694821 : True := ⟨⟩
theorem tw8732267334192576340 : True := ⟨⟩
theorem tw18186746595928413002 : True := ⟨⟩
theorem tw7853703736139417983 : True := ⟨⟩
theorem tw11619328190071722710 : True := ⟨⟩
theorem tw1650440009359199262 : True := ⟨⟩
theorem tw2804762816166934311 : True := ⟨⟩
theorem tw16370694141150937871 : True := ⟨⟩
theorem tw10433077258934623761 : True := ⟨⟩
theorem tw2950575631098982255 : True := ⟨⟩
theorem tw10177131589055806138 : True := ⟨⟩
theorem tw318352250924067585 : True := ⟨⟩
theorem tw3695393221072660191 : True := ⟨⟩
theorem tw8366916722645860224 : True := ⟨⟩
theorem tw9464237859782914460 : True := ⟨⟩
theorem tw474895679667974698 : True := ⟨⟩
theorem tw10513001849651351911 : True := ⟨⟩
theorem tw280497788899958549 : True := ⟨⟩
theorem tw8274560310564480642 : True := ⟨⟩
theorem tw13809091491512663988 : True := ⟨⟩
theorem tw9631416714616212895 : True := ⟨⟩
theorem tw13882003367242400226 : True := ⟨⟩
theorem tw15013535665927921383 : True := ⟨⟩
theorem tw10443906539455612956 : True := ⟨⟩
theorem tw14389656802884905360 : True := ⟨⟩
theorem tw16901053923205570176 : True := ⟨⟩
theorem tw8948287981095838995 : True := ⟨⟩
theorem tw11068192869903999679 : True := ⟨⟩
theorem tw3105123621199560941 : True := ⟨⟩
theorem tw7964197806382385290 : True := ⟨⟩
theorem tw18247464038937045901 : True := ⟨⟩
theorem tw5634727014550373221 : True := ⟨⟩
theorem tw16798790713095949922 : True := ⟨⟩
theorem tw7621968180427950826 : True := ⟨⟩
theorem tw6833627537133584314 : True := ⟨⟩
theorem tw6956078653072249646 : True := ⟨⟩
theorem tw2382034951292966938 : True := ⟨⟩
theorem tw7659421663269794283 : True := ⟨⟩
theorem tw2887212964038290919 : True := ⟨⟩
theorem tw14083334323425252727 : True := ⟨⟩
theorem tw7061908966790389274 : True := ⟨⟩
theorem tw10045364932740261471 : True := ⟨⟩
theorem tw12219392143100849184 : True := ⟨⟩
theorem tw4906374252582063068 : True := ⟨⟩
theorem tw1227996440062697935 : True := ⟨⟩
theorem tw11339248158289667699 : True := ⟨⟩
theorem tw5770546804032649004 : True := ⟨⟩
theorem tw4609903181755941647 : True := ⟨⟩
theorem tw8944928879717197963 : True := ⟨⟩
theorem tw14610859192497123946 : True := ⟨⟩
theorem tw3748724952116594974 : True := ⟨⟩
theorem tw7814650330162508625 : True := ⟨⟩
theorem tw15726168918777248236 : True := ⟨⟩
theorem tw6924397170245683123 : True := ⟨⟩
theorem tw10629884069507545016 : True := ⟨⟩
theorem tw9388577866273607351 : True := ⟨⟩
theorem tw5637870222981898249 : True := ⟨⟩
theorem tw8408725962419795651 : True := ⟨⟩
theorem tw1104573257391924421 : True := ⟨⟩
theorem tw17412388771025062824 : True := ⟨⟩
theorem tw17039319222671145744 : True := ⟨⟩
theorem tw15637427825659780209 : True := ⟨⟩
theorem tw8408268591819777460 : True := ⟨⟩
theorem tw17645619121774064537 : True := ⟨⟩
theorem tw6650272046079967021 : True := ⟨⟩
theorem tw6164432297431748833 : True := ⟨⟩
theorem tw12818694519170310443 : True := ⟨⟩
theorem tw17586474907704656994 : True := ⟨⟩
theorem tw1385835991725441145 : True := ⟨⟩
theorem tw10793971764102073467 : True := ⟨⟩
theorem tw4996503860354958607 : True := ⟨⟩
theorem tw14147922245072993104 : True := ⟨⟩
theorem tw9906948809511191668 : True := ⟨⟩
theorem tw10507757451091230832 : True := ⟨⟩
theorem tw4007123054436051659 : True := ⟨⟩
theorem tw3607170479742565787 : True := ⟨⟩
theorem tw17061521815578019982 : True := ⟨⟩
theorem tw13150755857337927752 : True := ⟨⟩
theorem tw9109293436430477275 : True := ⟨⟩
theorem tw7401570720166320958 : True := ⟨⟩
theorem tw10870789307593185745 : True := ⟨⟩
theorem tw13705129767022671859 : True := ⟨⟩
theorem tw6086007906734425245 : True := ⟨⟩
theorem tw6290839034376297756 : True := ⟨⟩
theorem tw12219405722220119964 : True := ⟨⟩
theorem tw3671890427330467593 : True := ⟨⟩
theorem tw11438434300704279186 : True := ⟨⟩
theorem tw3464646305424047565 : True := ⟨⟩
theorem tw17093148674541637201 : True := ⟨⟩
theorem tw170924146570730842 : True := ⟨⟩
theorem tw3030246165998822297 : True := ⟨⟩
theorem tw6659850590940538026 : True := ⟨⟩
theorem tw1892945192519301973 : True := ⟨⟩
theorem tw11598812690546290875 : True := ⟨⟩
theorem tw16804917305824833647 : True := ⟨⟩
theorem tw7704422393041422779 : True := ⟨⟩
theorem tw6468649809715498429 : True := ⟨⟩
theorem tw3516265334992582645 : True := ⟨⟩
theorem tw1858287368893738108 : True := ⟨⟩
theorem tw15570159211383879668 : True := ⟨⟩
theorem tw13420405277539254588 : True := ⟨⟩
theorem tw11083929821100385001 : True := ⟨⟩
theorem tw1758579286654420310 : True := ⟨⟩
theorem tw7684373277962886161 : True := ⟨⟩
theorem tw387751781090086719 : True := ⟨⟩
theorem tw13414757004883402642 : True := ⟨⟩
theorem tw1331270142538775619 : True := ⟨⟩
theorem tw13945139346133717077 : True := ⟨⟩
theorem tw8037865195132051729 : True := ⟨⟩
theorem tw13446294727167700016 : True := ⟨⟩
theorem tw13267055749736681800 : True := ⟨⟩
theorem tw17259832227114731593 : True := ⟨⟩
theorem tw2561668427648110519 : True := ⟨⟩
theorem tw5692631154185031537 : True := ⟨⟩
theorem tw16158300897113010689 : True := ⟨⟩
theorem tw15990126534787618053 : True := ⟨⟩
theorem tw11752280845121735224 : True := ⟨⟩
theorem tw897247493602480063 : True := ⟨⟩
theorem tw10408727518317666904 : True := ⟨⟩
theorem tw10578392412840573990 : True := ⟨⟩
theorem tw4653271442412476904 : True := ⟨⟩
theorem tw12524413929860002779 : True := ⟨⟩
theorem tw3129061614095543597 : True := ⟨⟩
theorem tw3658249105395926277 : True := ⟨⟩
theorem tw13544123757076555842 : True := ⟨⟩
theorem tw4277037125097490463 : True := ⟨⟩
theorem tw12698117772949883490 : True := ⟨⟩
theorem tw12785443993179195004 : True := ⟨⟩
theorem tw1028448104513638998 : True := ⟨⟩
theorem tw3656316196312551213 : True := ⟨⟩
theorem tw8563351149137006548 : True := ⟨⟩
theorem tw3651728571662664333 : True := ⟨⟩
theorem tw11790784853804981084 : True := ⟨⟩
theorem tw13212736421189715307 : True := ⟨⟩
theorem tw5354975050069178695 : True := ⟨⟩
theorem tw2786425094290620391 : True := ⟨⟩
theorem tw3801001164339629648 : True := ⟨⟩
theorem tw4577202277969848848 : True := ⟨⟩
theorem tw8491708679236965390 : True := ⟨⟩
theorem tw9430872597740537221 : True := ⟨⟩
theorem tw9761407917591480949 : True := ⟨⟩
theorem tw12822506533259413350 : True := ⟨⟩
theorem tw317550520471755502 : True := ⟨⟩
theorem tw4202518946634221182 : True := ⟨⟩
theorem tw5802214802759918928 : True := ⟨⟩
theorem tw13948014437820160199 : True := ⟨⟩
theorem tw8393572195591195128 : True := ⟨⟩
theorem tw3398851291181707219 : True := ⟨⟩
theorem tw11513435631857721444 : True := ⟨⟩
theorem tw9692888984912769038 : True := ⟨⟩
theorem tw10895795261853060612 : True := ⟨⟩
theorem tw15898209120846069660 : True := ⟨⟩
theorem tw1462897521402835178 : True := ⟨⟩
theorem tw9243950094215943975 : True := ⟨⟩
theorem tw11231553747161712609 : True := ⟨⟩
theorem tw2660562123918287483 : True := ⟨⟩
theorem tw18332485920674386375 : True := ⟨⟩
theorem tw11430819703853958400 : True := ⟨⟩
theorem tw13652787238474303651 : True := ⟨⟩
theorem tw10131869620166762012 : True := ⟨⟩
theorem tw12094334238592600743 : True := ⟨⟩
theorem tw16165028902629425444 : True := ⟨⟩
theorem tw471570676713521896 : True := ⟨⟩
theorem tw15508762189248982296 : True := ⟨⟩
theorem tw7455757058952531271 : True := ⟨⟩
theorem tw3998333316813780084 : True := ⟨⟩
theorem tw8438363239013532005 : True := ⟨⟩
theorem tw11207405050583694296 : True := ⟨⟩
theorem tw16474949102739418734 : True := ⟨⟩
theorem tw7891299140113503492 : True := ⟨⟩
theorem tw55659650456007014 : True := ⟨⟩
theorem tw8478062303753265426 : True := ⟨⟩
theorem tw11836218250288728776 : True := ⟨⟩
theorem tw14941097948818369918 : True := ⟨⟩
theorem tw1663792092771224709 : True := ⟨⟩
theorem tw5008821571085800382 : True := ⟨⟩
theorem tw16908049134435420437 : True := ⟨⟩
theorem tw6898871633552094247 : True := ⟨⟩
theorem tw6012023070060267965 : True := ⟨⟩
theorem tw6959487554037507937 : True := ⟨⟩
theorem tw18096086196302311910 : True := ⟨⟩
theorem tw13636369664349114462 : True := ⟨⟩
theorem tw17024813623695454466 : True := ⟨⟩
theorem tw4136112202268428635 : True := ⟨⟩
theorem tw7579130059068922689 : True := ⟨⟩
theorem tw6577470793544001942 : True := ⟨⟩
theorem tw13094651750203149921 : True := ⟨⟩
theorem tw7798168977212127477 : True := ⟨⟩
theorem tw10582796031867471643 : True := ⟨⟩
theorem tw17933679657747282054 : True := ⟨⟩
theorem tw56636756358682578 : True := ⟨⟩
theorem tw5256405677328098186 : True := ⟨⟩
theorem tw5941303987850344588 : True := ⟨⟩
theorem tw4038414387407240963 : True := ⟨⟩
theorem tw1757072627055510809 : True := ⟨⟩
theorem tw8256205683046190558 : True := ⟨⟩
theorem tw1145152365105653223 : True := ⟨⟩
theorem tw13260228111637106461 : True := ⟨⟩
theorem tw17359103681875662713 : True := ⟨⟩
theorem tw1130990876567723856 : True := ⟨⟩
theorem tw9884343881079851976 : True := ⟨⟩
theorem tw14872437242386571958 : True := ⟨⟩
theorem tw17496591391598939690 : True := ⟨⟩
theorem tw17756388022591240952 : True := ⟨⟩
theorem tw15288592802634818061 : True := ⟨⟩
theorem tw1606525135073713698 : True := ⟨⟩
theorem tw8053075675964399835 : True := ⟨⟩
theorem tw17339215492507030420 : True := ⟨⟩
theorem tw1790081351441338348 : True := ⟨⟩
theorem tw9889655705963677786 : True := ⟨⟩
theorem tw241892783591607822 : True := ⟨⟩
theorem tw15809954532251198687 : True := ⟨⟩
theorem tw4051066431961770695 : True := ⟨⟩
theorem tw17581057823396492727 : True := ⟨⟩
theorem tw16735187067593792967 : True := ⟨⟩
theorem tw800307758739899309 : True := ⟨⟩
theorem tw7081263931331916889 : True := ⟨⟩
theorem tw1571419613729949465 : True := ⟨⟩
theorem tw16988474301567973863 : True := ⟨⟩
theorem tw14708099630542137027 : True := ⟨⟩
theorem tw8425265797961545577 : True := ⟨⟩
theorem tw2839477678563845746 : True := ⟨⟩
theorem tw5471557431024313788 : True := ⟨⟩
theorem tw4773010681153834894 : True := ⟨⟩
theorem tw4054928668630299746 : True := ⟨⟩
theorem tw2456837896570194534 : True := ⟨⟩
theorem tw3864065681121585670 : True := ⟨⟩
theorem tw18287524784766503169 : True := ⟨⟩
theorem tw5015662457754519734 : True := ⟨⟩
theorem tw14122579083453705153 : True := ⟨⟩
theorem tw17565605342338736765 : True := ⟨⟩
theorem tw812736479927853302 : True := ⟨⟩
theorem tw15806508455823954960 : True := ⟨⟩
theorem tw1578564348897984463 : True := ⟨⟩
theorem tw9965308831714166916 : True := ⟨⟩
theorem tw9352474705105183422 : True := ⟨⟩
theorem tw17633183594615684930 : True := ⟨⟩
theorem tw661550575427189723 : True := ⟨⟩
theorem tw751376872494783733 : True := ⟨⟩
theorem tw17799750414409090342 : True := ⟨⟩
theorem tw4443708172358309212 : True := ⟨⟩
theorem tw8393090581881914843 : True := ⟨⟩
theorem tw14213658787936616341 : True := ⟨⟩
theorem tw2106040113155843363 : True := ⟨⟩
theorem tw8734043738899503090 : True := ⟨⟩
theorem tw8636498433001306034 : True := ⟨⟩
theorem tw14974123192812225900 : True := ⟨⟩
theorem tw15239508311893742615 : True := ⟨⟩
theorem tw4726031594341302670 : True := ⟨⟩
theorem tw7306034109737211877 : True := ⟨⟩
theorem tw7721277162330227820 : True := ⟨⟩
theorem tw10003284924375984449 : True := ⟨⟩
theorem tw12174221920032231134 : True := ⟨⟩
theorem tw7042196396579824790 : True := ⟨⟩
theorem tw3035204557498508635 : True := ⟨⟩
theorem tw8497251217412965893 : True := ⟨⟩
theorem tw13927827786333109782 : True := ⟨⟩
theorem tw8550072144688991951 : True := ⟨⟩
theorem tw3200287804714570070 : True := ⟨⟩
theorem tw15245567146140004993 : True := ⟨⟩
theorem tw8239918188112605076 : True := ⟨⟩
theorem tw16497396874724036813 : True := ⟨⟩
theorem tw13130802104886110453 : True := ⟨⟩
theorem tw6761500989659926559 : True := ⟨⟩
theorem tw15939086402245287799 : True := ⟨⟩
theorem tw2821418268448318366 : True := ⟨⟩
theorem tw16107505306984534183 : True := ⟨⟩
theorem tw16703918392757952452 : True := ⟨⟩
theorem tw5384813495646969136 : True := ⟨⟩
theorem tw15342436980552192214 : True := ⟨⟩
theorem tw2456636385688877291 : True := ⟨⟩
theorem tw15306420235222159961 : True := ⟨⟩
theorem tw6323709331058945830 : True := ⟨⟩
theorem tw11173477452515075114 : True := ⟨⟩
theorem tw18086727807612108452 : True := ⟨⟩
theorem tw9538833290160918257 : True := ⟨⟩
theorem tw1414599333037564759 : True := ⟨⟩
theorem tw4436430178827035644 : True := ⟨⟩
theorem tw2050387657417608463 : True := ⟨⟩
theorem tw10968744952405491396 : True := ⟨⟩
theorem tw1007370275074330233 : True := ⟨⟩
theorem tw6981232199361445326 : True := ⟨⟩
theorem tw14688075527740337934 : True := ⟨⟩
theorem tw12394208386934342719 : True := ⟨⟩
theorem tw8119152574972677638 : True := ⟨⟩
theorem tw10943495716759896152 : True := ⟨⟩
theorem tw6753316340139513467 : True := ⟨⟩
theorem tw17452925937056588773 : True := ⟨⟩
theorem tw16025041267833895480 : True := ⟨⟩
theorem tw15185225312237016238 : True := ⟨⟩
theorem tw9551032085022532087 : True := ⟨⟩
theorem tw4095123668022184611 : True := ⟨⟩
theorem tw3265822591704193885 : True := ⟨⟩
theorem tw5545839412457236057 : True := ⟨⟩
theorem tw10946757373944576714 : True := ⟨⟩
theorem tw3770536360883916538 : True := ⟨⟩
theorem tw6169630125956256887 : True := ⟨⟩
theorem tw10949240623107512587 : True := ⟨⟩
theorem tw1399900170136167587 : True := ⟨⟩
theorem tw13290006843580702705 : True := ⟨⟩
theorem tw17766363338625247196 : True := ⟨⟩
theorem tw10241238242490488347 : True := ⟨⟩
theorem tw8540499851193632897 : True := ⟨⟩
theorem tw14537605337666962106 : True := ⟨⟩
theorem tw2952077641177266771 : True := ⟨⟩
theorem tw7414716831340540408 : True := ⟨⟩
theorem tw18109808638109194790 : True := ⟨⟩
theorem tw12182349131246237019 : True := ⟨⟩
theorem tw3840139955026933801 : True := ⟨⟩
theorem tw16343436512102184257 : True := ⟨⟩
theorem tw10680003724103364723 : True := ⟨⟩
theorem tw14240619434758161782 : True := ⟨⟩
theorem tw17589244218253725411 : True := ⟨⟩
theorem tw18168053874869611250 : True := ⟨⟩
theorem tw14152130648434693360 : True := ⟨⟩
theorem tw3168397400413781824 : True := ⟨⟩
theorem tw11047419880609712805 : True := ⟨⟩
theorem tw2946827319736005103 : True := ⟨⟩
theorem tw13866894614961555121 : True := ⟨⟩
theorem tw5965607827025406523 : True := ⟨⟩
theorem tw6756787344259398226 : True := ⟨⟩
theorem tw6644096380511217967 : True := ⟨⟩
theorem tw17005029142210494727 : True := ⟨⟩
theorem tw8783484770922365567 : True := ⟨⟩
theorem tw5442188701185878744 : True := ⟨⟩
theorem tw11801413437949350620 : True := ⟨⟩
theorem tw8888522437097149773 : True := ⟨⟩
theorem tw65985877672486016 : True := ⟨⟩
theorem tw16010225185927243631 : True := ⟨⟩
theorem tw13931695419445564857 : True := ⟨⟩
theorem tw4699072753320047879 : True := ⟨⟩
theorem tw17185214372812208367 : True := ⟨⟩
theorem tw8034073211964106322 : True := ⟨⟩
theorem tw5227562294528190910 : True := ⟨⟩
theorem tw7012001596675082806 : True := ⟨⟩
theorem tw4556453560859665354 : True := ⟨⟩
theorem tw7145814286979815239 : True := ⟨⟩
theorem tw7825108815024455279 : True := ⟨⟩
theorem tw8598246751775990911 : True := ⟨⟩
theorem tw10446074036228687191 : True := ⟨⟩
theorem tw9646403039383042960 : True := ⟨⟩
theorem tw14802696479455569316 : True := ⟨⟩
theorem tw3007930682735711495 : True := ⟨⟩
theorem tw9361073903510175594 : True := ⟨⟩
theorem tw5164851836513742005 : True := ⟨⟩
theorem tw16312837882226541049 : True := ⟨⟩
theorem tw14782343566153874098 : True := ⟨⟩
theorem tw190840395047247642 : True := ⟨⟩
theorem tw15991155193304824064 : True := ⟨⟩
theorem tw10561059598658724384 : True := ⟨⟩
theorem tw1656350392647867168 : True := ⟨⟩
theorem tw17541829175615010881 : True := ⟨⟩
theorem tw6883432522940519879 : True := ⟨⟩
theorem tw18407514667217915755 : True := ⟨⟩
theorem tw6784839841383297843 : True := ⟨⟩
theorem tw797661421994937671 : True := ⟨⟩
theorem tw6734165595597982174 : True := ⟨⟩
theorem tw13548682377678593171 : True := ⟨⟩
theorem tw3634994095607157157 : True := ⟨⟩
theorem tw11639063541967945426 : True := ⟨⟩
theorem tw13186361952336847204 : True := ⟨⟩
theorem tw10838090644477258212 : True := ⟨⟩
theorem tw11837172594407481200 : True := ⟨⟩
theorem tw12330809192909684086 : True := ⟨⟩
theorem tw3212530486986975190 : True := ⟨⟩
theorem tw13006340619128972160 : True := ⟨⟩
theorem tw2727291555057291569 : True := ⟨⟩
theorem tw2371501017178804261 : True := ⟨⟩
theorem tw3455499555717793879 : True := ⟨⟩
theorem tw2701545464596726400 : True := ⟨⟩
theorem tw7180102325733962572 : True := ⟨⟩
theorem tw3724188958111580472 : True := ⟨⟩
theorem tw9859054970201699068 : True := ⟨⟩
theorem tw3890637343097546203 : True := ⟨⟩
theorem tw14923776618717959570 : True := ⟨⟩
theorem tw12460518378232670976 : True := ⟨⟩
theorem tw4490733314928682583 : True := ⟨⟩
theorem tw14091709946824208446 : True := ⟨⟩
theorem tw10602843047359231026 : True := ⟨⟩
theorem tw8107285494699633747 : True := ⟨⟩
theorem tw18073287827709273817 : True := ⟨⟩
theorem tw16276511407525682778 : True := ⟨⟩
theorem tw16916221783948809559 : True := ⟨⟩
theorem tw17555228316208823036 : True := ⟨⟩
theorem tw17430413703138412689 : True := ⟨⟩
theorem tw9951048917308771604 : True := ⟨⟩
theorem tw7634509019915926313 : True := ⟨⟩
theorem tw560139036784819933 : True := ⟨⟩
theorem tw429699314430200322 : True := ⟨⟩
theorem tw844816426246717851 : True := ⟨⟩
theorem tw4531824735563107714 : True := ⟨⟩
theorem tw284689143031795554 : True := ⟨⟩
theorem tw3558855732507510042 : True := ⟨⟩
theorem tw17096982606850614266 : True := ⟨⟩
theorem tw7621794021061878903 : True := ⟨⟩
theorem tw1688839976182909326 : True := ⟨⟩
theorem tw7337007770040472989 : True := ⟨⟩
theorem tw10588766959061285959 : True := ⟨⟩
theorem tw4866784908615680255 : True := ⟨⟩
theorem tw13762912132001134220 : True := ⟨⟩
theorem tw6130234422906019312 : True := ⟨⟩
theorem tw10575382762482425363 : True := ⟨⟩
theorem tw6573504938082962985 : True := ⟨⟩
theorem tw2457831200721557080 : True := ⟨⟩
theorem tw7738353643165327074 : True := ⟨⟩
theorem tw7047295418746207096 : True := ⟨⟩
theorem tw6045465790801263655 : True := ⟨⟩
theorem tw8676319150435355113 : True := ⟨⟩
theorem tw15023018076568120172 : True := ⟨⟩
theorem tw10610206393387790190 : True := ⟨⟩
theorem tw7994437752025497759 : True := ⟨⟩
theorem tw15993760303638699094 : True := ⟨⟩
theorem tw5066834088148860277 : True := ⟨⟩
theorem tw16197352579222688978 : True := ⟨⟩
theorem tw9627082370731051894 : True := ⟨⟩
theorem tw18414794778395268178 : True := ⟨⟩
theorem tw10441777897697940994 : True := ⟨⟩
theorem tw12072222775539208848 : True := ⟨⟩
theorem tw11152073561197145444 : True := ⟨⟩
theorem tw2463092570741564062 : True := ⟨⟩
theorem tw17824946814314703632 : True := ⟨⟩
theorem tw9939008176583945282 : True := ⟨⟩
theorem tw5523494544396761547 : True := ⟨⟩
theorem tw5423394354646532332 : True := ⟨⟩
theorem tw17441408886238698687 : True := ⟨⟩
theorem tw10343240138632275026 : True := ⟨⟩
theorem tw17886172845131632894 : True := ⟨⟩
theorem tw15597339591327859901 : True := ⟨⟩
theorem tw17093381865727326348 : True := ⟨⟩
theorem tw13307309991224186231 : True := ⟨⟩
theorem tw15966290610152359986 : True := ⟨⟩
theorem tw15474156225716466159 : True := ⟨⟩
theorem tw3819962872958080502 : True := ⟨⟩
theorem tw16796196555442682406 : True := ⟨⟩
theorem tw15307745586406133994 : True := ⟨⟩
theorem tw6047563908213864900 : True := ⟨⟩
theorem tw7347303355804867180 : True := ⟨⟩
theorem tw14080610975865314371 : True := ⟨⟩
theorem tw12905190993097343922 : True := ⟨⟩
theorem tw6758609193831973926 : True := ⟨⟩
theorem tw6045770391615351561 : True := ⟨⟩
theorem tw6319156916044450673 : True := ⟨⟩
theorem tw11556424344427496507 : True := ⟨⟩
theorem tw11664515997608292399 : True := ⟨⟩
theorem tw10624094614401438442 : True := ⟨⟩
theorem tw16484366361072676503 : True := ⟨⟩
theorem tw16171835603561012319 : True := ⟨⟩
theorem tw8252761064144606316 : True := ⟨⟩
theorem tw3262102039142150120 : True := ⟨⟩
theorem tw5570571247953607248 : True := ⟨⟩
theorem tw15090284052666989369 : True := ⟨⟩
theorem tw11959523150604043798 : True := ⟨⟩
theorem tw5255926908162828568 : True := ⟨⟩
theorem tw11536420419346852579 : True := ⟨⟩
theorem tw8844636196970138569 : True := ⟨⟩
theorem tw3227377337814472208 : True := ⟨⟩
theorem tw1854481799022097670 : True := ⟨⟩
theorem tw7019316071274774897 : True := ⟨⟩
theorem tw17500066759782685555 : True := ⟨⟩
theorem tw12210688622878684129 : True := ⟨⟩
theorem tw3469112322422448191 : True := ⟨⟩
theorem tw2728163434503653690 : True := ⟨⟩
theorem tw2042136469467022235 : True := ⟨⟩
theorem tw7120699642544331535 : True := ⟨⟩
theorem tw16125112328396121989 : True := ⟨⟩
theorem tw14366135206102971142 : True := ⟨⟩
theorem tw10490765212209830545 : True := ⟨⟩
theorem tw12863123278464067457 : True := ⟨⟩
theorem tw4281232241092498112 : True := ⟨⟩
theorem tw15614010852857093233 : True := ⟨⟩
theorem tw11061515025485187453 : True := ⟨⟩
theorem tw10893637720704123931 : True := ⟨⟩
theorem tw12506709321170219460 : True := ⟨⟩
theorem tw13359149118533094936 : True := ⟨⟩
theorem tw11527570249984518949 : True := ⟨⟩
theorem tw4526669898994357099 : True := ⟨⟩
theorem tw6387515710934468159 : True := ⟨⟩
theorem tw7106914175282515711 : True := ⟨⟩
theorem tw12237079685454217546 : True := ⟨⟩
theorem tw18131999971314155852 : True := ⟨⟩
theorem tw7266247247411925862 : True := ⟨⟩
theorem tw1493453149833048746 : True := ⟨⟩
theorem tw11367560987975770628 : True := ⟨⟩
theorem tw16060485101186233906 : True := ⟨⟩
theorem tw14994591905773147780 : True := ⟨⟩
theorem tw15270657154830575080 : True := ⟨⟩
theorem tw2353545314338534287 : True := ⟨⟩
theorem tw6727636673340580782 : True := ⟨⟩
theorem tw12827129436530243499 : True := ⟨⟩
theorem tw14948478985396403237 : True := ⟨⟩
theorem tw8922094156955111382 : True := ⟨⟩
theorem tw4053835405682783960 : True := ⟨⟩
theorem tw395143699742582501 : True := ⟨⟩
theorem tw9359655556917323337 : True := ⟨⟩
theorem tw6415257247379098156 : True := ⟨⟩
theorem tw15079806105347841038 : True := ⟨⟩
theorem tw13583986957571286611 : True := ⟨⟩
theorem tw8119288268815547645 : True := ⟨⟩
theorem tw12865025707559628783 : True := ⟨⟩
theorem tw17846638646837672835 : True := ⟨⟩
theorem tw8012742521016079535 : True := ⟨⟩
theorem tw9591243461637729824 : True := ⟨⟩
theorem tw7097518987588007274 : True := ⟨⟩
theorem tw9302528335439832804 : True := ⟨⟩
theorem tw6729230025050291104 : True := ⟨⟩
theorem tw891766462460057499 : True := ⟨⟩
theorem tw912096312259967977 : True := ⟨⟩
theorem tw16095321809655897156 : True := ⟨⟩
theorem tw3750047724055416413 : True := ⟨⟩
theorem tw18197586548724715298 : True := ⟨⟩
theorem tw532660045071560805 : True := ⟨⟩
theorem tw3869276417621900466 : True := ⟨⟩
theorem tw13145455703425334577 : True := ⟨⟩
theorem tw3479873413755850932 : True := ⟨⟩
theorem tw8155801338663596368 : True := ⟨⟩
theorem tw8818890427417015272 : True := ⟨⟩
theorem tw7816836591414415850 : True := ⟨⟩
theorem tw14328607460721274067 : True := ⟨⟩
theorem tw9946589907249559189 : True := ⟨⟩
theorem tw12505954092518125847 : True := ⟨⟩
theorem tw17152513292899043653 : True := ⟨⟩
theorem tw2273960782142291788 : True := ⟨⟩
theorem tw9382534824186656351 : True := ⟨⟩
theorem tw10019251852874743914 : True := ⟨⟩
theorem tw4909070262641692946 : True := ⟨⟩
theorem tw7271240425599952454 : True := ⟨⟩
theorem tw17280895706334587288 : True := ⟨⟩
theorem tw3361939462781380192 : True := ⟨⟩
theorem tw1716351353660394664 : True := ⟨⟩
theorem tw11115781574392996489 : True := ⟨⟩
theorem tw3129583951810921038 : True := ⟨⟩
theorem tw5196238347235940529 : True := ⟨⟩
theorem tw7479567390013011826 : True := ⟨⟩
theorem tw10948769434227056256 : True := ⟨⟩
theorem tw9562704325902439064 : True := ⟨⟩
theorem tw3020764525379062145 : True := ⟨⟩
theorem tw6796153084431525635 : True := ⟨⟩
theorem tw7584960311946832151 : True := ⟨⟩
theorem tw2028300266517700390 : True := ⟨⟩
theorem tw16094140130040346164 : True := ⟨⟩
theorem tw10684891269091721668 : True := ⟨⟩
theorem tw2519682487412290245 : True := ⟨⟩
theorem tw13775972309327066030 : True := ⟨⟩
theorem tw17165327164472393927 : True := ⟨⟩
theorem tw15184992360878523285 : True := ⟨⟩
theorem tw5911248640685878816 : True := ⟨⟩
theorem tw835582486509425039 : True := ⟨⟩
theorem tw5680829356041771009 : True := ⟨⟩
theorem tw17188089574411967083 : True := ⟨⟩
theorem tw10452434367452158540 : True := ⟨⟩
theorem tw3004431618315666866 : True := ⟨⟩
theorem tw15710525971560241409 : True := ⟨⟩
theorem tw3590006685948012354 : True := ⟨⟩
theorem tw3818202319421947678 : True := ⟨⟩
theorem tw13682453109335002243 : True := ⟨⟩
theorem tw6983756798843139921 : True := ⟨⟩
theorem tw14652823885056634700 : True := ⟨⟩
theorem tw13720432762232190666 : True := ⟨⟩
theorem tw3442657574552026475 : True := ⟨⟩
theorem tw11451769294129121990 : True := ⟨⟩
theorem tw10406366767647626831 : True := ⟨⟩
theorem tw3328091402972555655 : True := ⟨⟩
theorem tw6653022103080508865 : True := ⟨⟩
theorem tw15601985916982041438 : True := ⟨⟩
theorem tw9707128759066432030 : True := ⟨⟩
theorem tw15043389999115937276 : True := ⟨⟩
theorem tw11597417828405065382 : True := ⟨⟩
theorem tw13500303755176989087 : True := ⟨⟩
theorem tw14745776852662156353 : True := ⟨⟩
theorem tw17635654356604142323 : True := ⟨⟩
theorem tw15063235652878483759 : True := ⟨⟩
theorem tw631044497728184230 : True := ⟨⟩
theorem tw6474153698068313250 : True := ⟨⟩
theorem tw11126782673356100289 : True := ⟨⟩
theorem tw2990432782881835182 : True := ⟨⟩
theorem tw16762638993243901990 : True := ⟨⟩
theorem tw6297696465620040845 : True := ⟨⟩
theorem tw13788652241183463529 : True := ⟨⟩
theorem tw3447089146882326379 : True := ⟨⟩
theorem tw16936821270826876889 : True := ⟨⟩
theorem tw5984134499840787782 : True := ⟨⟩
theorem tw10294064790876644148 : True := ⟨⟩
theorem tw17609080188897342029 : True := ⟨⟩
theorem tw7649476216657312169 : True := ⟨⟩
theorem tw12864004474375695459 : True := ⟨⟩
theorem tw11885770412788325888 : True := ⟨⟩
theorem tw6122794679792889066 : True := ⟨⟩
theorem tw11785972076560110246 : True := ⟨⟩
theorem tw688452959454875168 : True := ⟨⟩
theorem tw15303699683245107420 : True := ⟨⟩
theorem tw12093550912429275263 : True := ⟨⟩
theorem tw429850026919610173 : True := ⟨⟩
theorem tw4945184748180036475 : True := ⟨⟩
theorem tw15051488508171822686 : True := ⟨⟩
theorem tw2995098005823759719 : True := ⟨⟩
theorem tw14804334240132511903 : True := ⟨⟩
theorem tw18033846910728162352 : True := ⟨⟩
theorem tw1619855362503354057 : True := ⟨⟩
theorem tw8159958642371106057 : True := ⟨⟩
theorem tw11500959315995587851 : True := ⟨⟩
theorem tw3731707525547727282 : True := ⟨⟩
theorem tw5365897881263067297 : True := ⟨⟩
end PySem.W.Fast
open PySem PySem.W PyProof.Rows
set_option maxRecDepth 100000 in
set_option maxHeartbeats 0 in
theorem PySem.Challenge.cw_assemblyhall_s01_answers_holds : PySem.Challenge.rw_assemblyhall_s01_answers.Holds := by
  w_on; k_headS; (case hw => exact ⟨[.list [.int 10, .int 0, .int 0]], by decide +kernel, by decide +kernel⟩)
  k_fillS
  refine L2.walk_specK (r := PySem.Challenge.rw_assemblyhall_s01_answers) (k := 7) (CX := L2.CX0) (ps := ["calls"]) (sp := My.spAns) (by decide +kernel) rfl rfl ⟨rfl, by decide, by decide⟩ (fun w h Y => PySem.W.kIn_of Y) ?F ?S (fun _ _ _ _ z => z)
  case F =>
    intro w mg fa h Y KX G hmg
    refine' My.all_of hmg (My.tx_mk KX G ?ac_Word ?a_Word_init ?i_Word_init ?ac_Amendment ?a_Amendment_init ?i_Amendment_init ?ac_WayOn ?a_WayOn_init ?i_WayOn_init ?ac_MainMotion ?a_MainMotion_init ?i_MainMotion_init ?ac_PassedText ?a_PassedText_init ?i_PassedText_init ?ac_Vote ?a_Vote_init ?i_Vote_init ?ac_Assembly ?a_Assembly_init ?i_Assembly_init ?a_Assembly_begin ?i_Assembly_begin ?l_Word_init ?c_Word_init ?k_Word_init ?l_Amendment_init ?c_Amendment_init ?k_Amendment_init ?l_WayOn_init ?c_WayOn_init ?k_WayOn_init ?l_MainMotion_init ?c_MainMotion_init ?k_MainMotion_init ?l_PassedText_init ?c_PassedText_init ?k_PassedText_init ?l_Vote_init ?c_Vote_init ?k_Vote_init ?l_Assembly_init ?c_Assembly_init ?k_Assembly_init ?l_Assembly_begin ?c_Assembly_begin ?k_Assembly_begin ?a_is_member ?l_is_member ?c_is_member ?k_is_member ?a_absence ?l_absence ?c_absence ?k_absence ?a_weigh ?l_weigh ?c_weigh ?k_weigh ?a_weigh_those_there ?l_weigh_those_there ?c_weigh_those_there ?k_weigh_those_there ?a_admit ?l_admit ?c_admit ?k_admit ?a_comes ?l_comes ?c_comes ?k_comes ?a_asked_sort ?l_asked_sort ?c_asked_sort ?k_asked_sort ?a_asked_motion ?l_asked_motion ?c_asked_motion ?k_asked_motion ?a_how_many_parts ?l_how_many_parts ?c_how_many_parts ?k_how_many_parts ?a_make_way ?l_make_way ?c_make_way ?k_make_way ?a_drop_asked ?l_drop_asked ?c_drop_asked ?k_drop_asked ?a_amended ?l_amended ?c_amended ?k_amended ?a_carry_in_place ?l_carry_in_place ?c_carry_in_place ?k_carry_in_place ?a_carry_asked ?l_carry_asked ?c_carry_asked ?k_carry_asked ?a_may_be_moved ?l_may_be_moved ?c_may_be_moved ?k_may_be_moved ?a_motions_are_full ?l_motions_are_full ?c_motions_are_full ?k_motions_are_full ?a_number_motion ?l_number_motion ?c_number_motion ?k_number_motion ?a_words_of ?l_words_of ?c_words_of ?k_words_of ?a_absence_or_nothing ?l_absence_or_nothing ?c_absence_or_nothing ?k_absence_or_nothing ?a_move_refusal ?l_move_refusal ?c_move_refusal ?k_move_refusal ?a_move ?l_move ?c_move ?k_move ?a_words_to_amend ?l_words_to_amend ?c_words_to_amend ?k_words_to_amend ?a_place_refusal ?l_place_refusal ?c_place_refusal ?k_place_refusal ?a_amend_refusal ?l_amend_refusal ?c_amend_refusal ?k_amend_refusal ?a_amend ?l_amend ?c_amend ?k_amend ?a_go_refusal ?l_go_refusal ?c_go_refusal ?k_go_refusal ?a_go ?l_go ?c_go ?k_go ?a_divide_refusal ?l_divide_refusal ?c_divide_refusal ?k_divide_refusal ?a_divide ?l_divide ?c_divide ?k_divide ?a_withdraw ?l_withdraw ?c_withdraw ?k_withdraw ?a_take_refusal ?l_take_refusal ?c_take_refusal ?k_take_refusal ?a_take ?l_take ?c_take ?k_take ?a_tell_asked ?l_tell_asked ?c_tell_asked ?k_tell_asked ?a_tell_words ?l_tell_words ?c_tell_words ?k_tell_words ?a_tell_amendment ?l_tell_amendment ?c_tell_amendment ?k_tell_amendment ?a_tell_text ?l_tell_text ?c_tell_text ?k_tell_text ?a_tell_passed ?l_tell_passed ?c_tell_passed ?k_tell_passed ?a_voters_for ?l_voters_for ?c_voters_for ?k_voters_for ?a_tell_who ?l_tell_who ?c_tell_who ?k_tell_who ?a_tell_votes ?l_tell_votes ?c_tell_votes ?k_tell_votes ?a_vote_refusal ?l_vote_refusal ?c_vote_refusal ?k_vote_refusal ?a_is_carried ?l_is_carried ?c_is_carried ?k_is_carried ?a_vote ?l_vote ?c_vote ?k_vote ?a_call_begins ?l_call_begins ?c_call_begins ?k_call_begins ?a_call_member ?l_call_member ?c_call_member ?k_call_member ?a_call_comes ?l_call_comes ?c_call_comes ?k_call_comes ?a_call_move ?l_call_move ?c_call_move ?k_call_move ?a_call_amend ?l_call_amend ?c_call_amend ?k_call_amend ?a_call_go ?l_call_go ?c_call_go ?k_call_go ?a_call_divide ?l_call_divide ?c_call_divide ?k_call_divide ?a_call_withdraw ?l_call_withdraw ?c_call_withdraw ?k_call_withdraw ?a_call_take ?l_call_take ?c_call_take ?k_call_take ?a_call_vote ?l_call_vote ?c_call_vote ?k_call_vote ?a_call_asked ?l_call_asked ?c_call_asked ?k_call_asked ?a_call_text ?l_call_text ?c_call_text ?k_call_text ?a_call_passed ?l_call_passed ?c_call_passed ?k_call_passed ?a_call_who ?l_call_who ?c_call_who ?k_call_who ?a_call_votes ?l_call_votes ?c_call_votes ?k_call_votes ?a_answers ?l_answers ?c_answers ?k_answers ?pg_Word ?hd_Word ?po_Word ?sa_Word ?mk_Word ?kc_Word ?n_Word_number ?n_Word_motion ?pg_Amendment ?hd_Amendment ?po_Amendment ?sa_Amendment ?mk_Amendment ?kc_Amendment ?n_Amendment_motion ?n_Amendment_start ?n_Amendment_stop ?n_Amendment_words ?pg_WayOn ?hd_WayOn ?po_WayOn ?sa_WayOn ?mk_WayOn ?kc_WayOn ?n_WayOn_motion ?n_WayOn_how ?pg_MainMotion ?hd_MainMotion ?po_MainMotion ?sa_MainMotion ?mk_MainMotion ?kc_MainMotion ?n_MainMotion_motion ?n_MainMotion_words ?n_MainMotion_parts_to_come ?n_MainMotion_amendment ?n_MainMotion_further_amendment ?n_MainMotion_ways_on ?n_MainMotion_closed ?pg_PassedText ?hd_PassedText ?po_PassedText ?sa_PassedText ?mk_PassedText ?kc_PassedText ?n_PassedText_motion ?n_PassedText_words ?n_PassedText_voters ?pg_Vote ?hd_Vote ?po_Vote ?sa_Vote ?mk_Vote ?kc_Vote ?n_Vote_motion ?n_Vote_asked ?n_Vote_carried ?pg_Assembly ?hd_Assembly ?po_Assembly ?sa_Assembly ?mk_Assembly ?kc_Assembly ?n_Assembly_quorum ?n_Assembly_rules ?n_Assembly_weights ?n_Assembly_there ?n_Assembly_movers ?n_Assembly_main ?n_Assembly_put_off ?n_Assembly_passed ?n_Assembly_votes ?n_Assembly_amendment_voters ?k_FIRST_QUORUM ?k_FIRST_RULES ?t_FIRST_RULES ?v_FIRST_RULES ?w_FIRST_RULES ?k_NO_REFUSAL ?k_WRONG ?k_UNKNOWN ?k_AWAY ?k_OUT_OF_ORDER ?k_FULL ?k_NOT_THE_MOVER ?k_NOTHING_SUCH ?k_NO_QUORUM ?k_MOST_MEMBERS ?k_MOST_WEIGHT ?k_MAIN ?k_AMENDMENT ?k_FURTHER_AMENDMENT ?k_SEND_BACK ?k_CLOSE ?k_PUT_OFF ?k_MOST_MOTIONS ?k_MOST_WORDS_MOVED ?k_MOST_WORDS_AMENDED ?k_LAST_WORD ?k_SIMPLE ?k_HALF_OF_THOSE_THERE ?k_HALF_OF_ALL ?k_TWO_THIRDS ?k_CHAIR_FOR ?k_CHAIR_AGAINST ?k_RULE_PLACES ?t_RULE_PLACES ?v_RULE_PLACES ?w_RULE_PLACES ?k_CALLS ?t_CALLS ?v_CALLS ?w_CALLS ?b_all ?b_len ?b_range ?b_set ?b_sum ?b_tuple)
    (case ac_Word => k_is)
    (case a_Word_init => k_is)
    (case i_Word_init => k_is)
    (case ac_Amendment => k_is)
    (case a_Amendment_init => k_is)
    (case i_Amendment_init => k_is)
    (case ac_WayOn => k_is)
    (case a_WayOn_init => k_is)
    (case i_WayOn_init => k_is)
    (case ac_MainMotion => k_is)
    (case a_MainMotion_init => k_is)
    (case i_MainMotion_init => k_is)
    (case ac_PassedText => k_is)
    (case a_PassedText_init => k_is)
    (case i_PassedText_init => k_is)
    (case ac_Vote => k_is)
    (case a_Vote_init => k_is)
    (case i_Vote_init => k_is)
    (case ac_Assembly => k_is)
    (case a_Assembly_init => k_is)
    (case i_Assembly_init => k_is)
    (case a_Assembly_begin => k_is)
    (case i_Assembly_begin => k_is)
    (case l_Word_init => k_is)
    (case c_Word_init => k_is)
    (case k_Word_init => k_is)
    (case l_Amendment_init => k_is)
    (case c_Amendment_init => k_is)
    (case k_Amendment_init => k_is)
    (case l_WayOn_init => k_is)
    (case c_WayOn_init => k_is)
    (case k_WayOn_init => k_is)
    (case l_MainMotion_init => k_is)
    (case c_MainMotion_init => k_is)
    (case k_MainMotion_init => k_is)
    (case l_PassedText_init => k_is)
    (case c_PassedText_init => k_is)
    (case k_PassedText_init => k_is)
    (case l_Vote_init => k_is)
    (case c_Vote_init => k_is)
    (case k_Vote_init => k_is)
    (case l_Assembly_init => k_is)
    (case c_Assembly_init => k_is)
    (case k_Assembly_init => k_is)
    (case l_Assembly_begin => k_is)
    (case c_Assembly_begin => k_is)
    (case k_Assembly_begin => k_is)
    (case a_is_member => k_is)
    (case l_is_member => k_is)
    (case c_is_member => k_is)
    (case k_is_member => k_is)
    (case a_absence => k_is)
    (case l_absence => k_is)
    (case c_absence => k_is)
    (case k_absence => k_is)
    (case a_weigh => k_is)
    (case l_weigh => k_is)
    (case c_weigh => k_is)
    (case k_weigh => k_is)
    (case a_weigh_those_there => k_is)
    (case l_weigh_those_there => k_is)
    (case c_weigh_those_there => k_is)
    (case k_weigh_those_there => k_is)
    (case a_admit => k_is)
    (case l_admit => k_is)
    (case c_admit => k_is)
    (case k_admit => k_is)
    (case a_comes => k_is)
    (case l_comes => k_is)
    (case c_comes => k_is)
    (case k_comes => k_is)
    (case a_asked_sort => k_is)
    (case l_asked_sort => k_is)
    (case c_asked_sort => k_is)
    (case k_asked_sort => k_is)
    (case a_asked_motion => k_is)
    (case l_asked_motion => k_is)
    (case c_asked_motion => k_is)
    (case k_asked_motion => k_is)
    (case a_how_many_parts => k_is)
    (case l_how_many_parts => k_is)
    (case c_how_many_parts => k_is)
    (case k_how_many_parts => k_is)
    (case a_make_way => k_is)
    (case l_make_way => k_is)
    (case c_make_way => k_is)
    (case k_make_way => k_is)
    (case a_drop_asked => k_is)
    (case l_drop_asked => k_is)
    (case c_drop_asked => k_is)
    (case k_drop_asked => k_is)
    (case a_amended => k_is)
    (case l_amended => k_is)
    (case c_amended => k_is)
    (case k_amended => k_is)
    (case a_carry_in_place => k_is)
    (case l_carry_in_place => k_is)
    (case c_carry_in_place => k_is)
    (case k_carry_in_place => k_is)
    (case a_carry_asked => k_is)
    (case l_carry_asked => k_is)
    (case c_carry_asked => k_is)
    (case k_carry_asked => k_is)
    (case a_may_be_moved => k_is)
    (case l_may_be_moved => k_is)
    (case c_may_be_moved => k_is)
    (case k_may_be_moved => k_is)
    (case a_motions_are_full => k_is)
    (case l_motions_are_full => k_is)
    (case c_motions_are_full => k_is)
    (case k_motions_are_full => k_is)
    (case a_number_motion => k_is)
    (case l_number_motion => k_is)
    (case c_number_motion => k_is)
    (case k_number_motion => k_is)
    (case a_words_of => k_is)
    (case l_words_of => k_is)
    (case c_words_of => k_is)
    (case k_words_of => k_is)
    (case a_absence_or_nothing => k_is)
    (case l_absence_or_nothing => k_is)
    (case c_absence_or_nothing => k_is)
    (case k_absence_or_nothing => k_is)
    (case a_move_refusal => k_is)
    (case l_move_refusal => k_is)
    (case c_move_refusal => k_is)
    (case k_move_refusal => k_is)
    (case a_move => k_is)
    (case l_move => k_is)
    (case c_move => k_is)
    (case k_move => k_is)
    (case a_words_to_amend => k_is)
    (case l_words_to_amend => k_is)
    (case c_words_to_amend => k_is)
    (case k_words_to_amend => k_is)
    (case a_place_refusal => k_is)
    (case l_place_refusal => k_is)
    (case c_place_refusal => k_is)
    (case k_place_refusal => k_is)
    (case a_amend_refusal => k_is)
    (case l_amend_refusal => k_is)
    (case c_amend_refusal => k_is)
    (case k_amend_refusal => k_is)
    (case a_amend => k_is)
    (case l_amend => k_is)
    (case c_amend => k_is)
    (case k_amend => k_is)
    (case a_go_refusal => k_is)
    (case l_go_refusal => k_is)
    (case c_go_refusal => k_is)
    (case k_go_refusal => k_is)
    (case a_go => k_is)
    (case l_go => k_is)
    (case c_go => k_is)
    (case k_go => k_is)
    (case a_divide_refusal => k_is)
    (case l_divide_refusal => k_is)
    (case c_divide_refusal => k_is)
    (case k_divide_refusal => k_is)
    (case a_divide => k_is)
    (case l_divide => k_is)
    (case c_divide => k_is)
    (case k_divide => k_is)
    (case a_withdraw => k_is)
    (case l_withdraw => k_is)
    (case c_withdraw => k_is)
    (case k_withdraw => k_is)
    (case a_take_refusal => k_is)
    (case l_take_refusal => k_is)
    (case c_take_refusal => k_is)
    (case k_take_refusal => k_is)
    (case a_take => k_is)
    (case l_take => k_is)
    (case c_take => k_is)
    (case k_take => k_is)
    (case a_tell_asked => k_is)
    (case l_tell_asked => k_is)
    (case c_tell_asked => k_is)
    (case k_tell_asked => k_is)
    (case a_tell_words => k_is)
    (case l_tell_words => k_is)
    (case c_tell_words => k_is)
    (case k_tell_words => k_is)
    (case a_tell_amendment => k_is)
    (case l_tell_amendment => k_is)
    (case c_tell_amendment => k_is)
    (case k_tell_amendment => k_is)
    (case a_tell_text => k_is)
    (case l_tell_text => k_is)
    (case c_tell_text => k_is)
    (case k_tell_text => k_is)
    (case a_tell_passed => k_is)
    (case l_tell_passed => k_is)
    (case c_tell_passed => k_is)
    (case k_tell_passed => k_is)
    (case a_voters_for => k_is)
    (case l_voters_for => k_is)
    (case c_voters_for => k_is)
    (case k_voters_for => k_is)
    (case a_tell_who => k_is)
    (case l_tell_who => k_is)
    (case c_tell_who => k_is)
    (case k_tell_who => k_is)
    (case a_tell_votes => k_is)
    (case l_tell_votes => k_is)
    (case c_tell_votes => k_is)
    (case k_tell_votes => k_is)
    (case a_vote_refusal => k_is)
    (case l_vote_refusal => k_is)
    (case c_vote_refusal => k_is)
    (case k_vote_refusal => k_is)
    (case a_is_carried => k_is)
    (case l_is_carried => k_is)
    (case c_is_carried => k_is)
    (case k_is_carried => k_is)
    (case a_vote => k_is)
    (case l_vote => k_is)
    (case c_vote => k_is)
    (case k_vote => k_is)
    (case a_call_begins => k_is)
    (case l_call_begins => k_is)
    (case c_call_begins => k_is)
    (case k_call_begins => k_is)
    (case a_call_member => k_is)
    (case l_call_member => k_is)
    (case c_call_member => k_is)
    (case k_call_member => k_is)
    (case a_call_comes => k_is)
    (case l_call_comes => k_is)
    (case c_call_comes => k_is)
    (case k_call_comes => k_is)
    (case a_call_move => k_is)
    (case l_call_move => k_is)
    (case c_call_move => k_is)
    (case k_call_move => k_is)
    (case a_call_amend => k_is)
    (case l_call_amend => k_is)
    (case c_call_amend => k_is)
    (case k_call_amend => k_is)
    (case a_call_go => k_is)
    (case l_call_go => k_is)
    (case c_call_go => k_is)
    (case k_call_go => k_is)
    (case a_call_divide => k_is)
    (case l_call_divide => k_is)
    (case c_call_divide => k_is)
    (case k_call_divide => k_is)
    (case a_call_withdraw => k_is)
    (case l_call_withdraw => k_is)
    (case c_call_withdraw => k_is)
    (case k_call_withdraw => k_is)
    (case a_call_take => k_is)
    (case l_call_take => k_is)
    (case c_call_take => k_is)
    (case k_call_take => k_is)
    (case a_call_vote => k_is)
    (case l_call_vote => k_is)
    (case c_call_vote => k_is)
    (case k_call_vote => k_is)
    (case a_call_asked => k_is)
    (case l_call_asked => k_is)
    (case c_call_asked => k_is)
    (case k_call_asked => k_is)
    (case a_call_text => k_is)
    (case l_call_text => k_is)
    (case c_call_text => k_is)
    (case k_call_text => k_is)
    (case a_call_passed => k_is)
    (case l_call_passed => k_is)
    (case c_call_passed => k_is)
    (case k_call_passed => k_is)
    (case a_call_who => k_is)
    (case l_call_who => k_is)
    (case c_call_who => k_is)
    (case k_call_who => k_is)
    (case a_call_votes => k_is)
    (case l_call_votes => k_is)
    (case c_call_votes => k_is)
    (case k_call_votes => k_is)
    (case a_answers => k_is)
    (case l_answers => k_is)
    (case c_answers => k_is)
    (case k_answers => k_is)
    (case pg_Word => k_is)
    (case hd_Word => k_is)
    (case po_Word => k_is)
    (case sa_Word => k_is)
    (case mk_Word => k_is)
    (case kc_Word => k_is)
    (case n_Word_number => k_is)
    (case n_Word_motion => k_is)
    (case pg_Amendment => k_is)
    (case hd_Amendment => k_is)
    (case po_Amendment => k_is)
    (case sa_Amendment => k_is)
    (case mk_Amendment => k_is)
    (case kc_Amendment => k_is)
    (case n_Amendment_motion => k_is)
    (case n_Amendment_start => k_is)
    (case n_Amendment_stop => k_is)
    (case n_Amendment_words => k_is)
    (case pg_WayOn => k_is)
    (case hd_WayOn => k_is)
    (case po_WayOn => k_is)
    (case sa_WayOn => k_is)
    (case mk_WayOn => k_is)
    (case kc_WayOn => k_is)
    (case n_WayOn_motion => k_is)
    (case n_WayOn_how => k_is)
    (case pg_MainMotion => k_is)
    (case hd_MainMotion => k_is)
    (case po_MainMotion => k_is)
    (case sa_MainMotion => k_is)
    (case mk_MainMotion => k_is)
    (case kc_MainMotion => k_is)
    (case n_MainMotion_motion => k_is)
    (case n_MainMotion_words => k_is)
    (case n_MainMotion_parts_to_come => k_is)
    (case n_MainMotion_amendment => k_is)
    (case n_MainMotion_further_amendment => k_is)
    (case n_MainMotion_ways_on => k_is)
    (case n_MainMotion_closed => k_is)
    (case pg_PassedText => k_is)
    (case hd_PassedText => k_is)
    (case po_PassedText => k_is)
    (case sa_PassedText => k_is)
    (case mk_PassedText => k_is)
    (case kc_PassedText => k_is)
    (case n_PassedText_motion => k_is)
    (case n_PassedText_words => k_is)
    (case n_PassedText_voters => k_is)
    (case pg_Vote => k_is)
    (case hd_Vote => k_is)
    (case po_Vote => k_is)
    (case sa_Vote => k_is)
    (case mk_Vote => k_is)
    (case kc_Vote => k_is)
    (case n_Vote_motion => k_is)
    (case n_Vote_asked => k_is)
    (case n_Vote_carried => k_is)
    (case pg_Assembly => k_is)
    (case hd_Assembly => k_is)
    (case po_Assembly => k_is)
    (case sa_Assembly => k_is)
    (case mk_Assembly => k_is)
    (case kc_Assembly => k_is)
    (case n_Assembly_quorum => k_is)
    (case n_Assembly_rules => k_is)
    (case n_Assembly_weights => k_is)
    (case n_Assembly_there => k_is)
    (case n_Assembly_movers => k_is)
    (case n_Assembly_main => k_is)
    (case n_Assembly_put_off => k_is)
    (case n_Assembly_passed => k_is)
    (case n_Assembly_votes => k_is)
    (case n_Assembly_amendment_voters => k_is)
    (case k_FIRST_QUORUM => k_is)
    (case k_FIRST_RULES => k_is)
    (case t_FIRST_RULES => k_is)
    (case v_FIRST_RULES => exact (.cons ⟨_, rfl⟩ (.cons ⟨_, rfl⟩ (.cons ⟨_, rfl⟩ (.cons ⟨_, rfl⟩ (.cons ⟨_, rfl⟩ .nil))))))
    (case w_FIRST_RULES => decide +kernel)
    (case k_NO_REFUSAL => k_is)
    (case k_WRONG => k_is)
    (case k_UNKNOWN => k_is)
    (case k_AWAY => k_is)
    (case k_OUT_OF_ORDER => k_is)
    (case k_FULL => k_is)
    (case k_NOT_THE_MOVER => k_is)
    (case k_NOTHING_SUCH => k_is)
    (case k_NO_QUORUM => k_is)
    (case k_MOST_MEMBERS => k_is)
    (case k_MOST_WEIGHT => k_is)
    (case k_MAIN => k_is)
    (case k_AMENDMENT => k_is)
    (case k_FURTHER_AMENDMENT => k_is)
    (case k_SEND_BACK => k_is)
    (case k_CLOSE => k_is)
    (case k_PUT_OFF => k_is)
    (case k_MOST_MOTIONS => k_is)
    (case k_MOST_WORDS_MOVED => k_is)
    (case k_MOST_WORDS_AMENDED => k_is)
    (case k_LAST_WORD => k_is)
    (case k_SIMPLE => k_is)
    (case k_HALF_OF_THOSE_THERE => k_is)
    (case k_HALF_OF_ALL => k_is)
    (case k_TWO_THIRDS => k_is)
    (case k_CHAIR_FOR => k_is)
    (case k_CHAIR_AGAINST => k_is)
    (case k_RULE_PLACES => k_is)
    (case t_RULE_PLACES => k_is)
    (case v_RULE_PLACES => exact (.cons rfl (.cons ⟨_, rfl⟩ (.cons ⟨_, rfl⟩ (.cons ⟨_, rfl⟩ (.cons ⟨_, rfl⟩ (.cons ⟨_, rfl⟩ (.cons ⟨_, rfl⟩ .nil))))))))
    (case w_RULE_PLACES => decide +kernel)
    (case k_CALLS => k_is)
    (case t_CALLS => k_is)
    (case v_CALLS => exact (.cons rfl (.cons rfl (.cons rfl (.cons rfl (.cons rfl (.cons rfl (.cons rfl (.cons rfl (.cons rfl (.cons rfl (.cons rfl (.cons rfl (.cons rfl (.cons rfl (.cons rfl .nil))))))))))))))))
    (case w_CALLS => decide +kernel)
    (case b_all => k_is)
    (case b_len => k_is)
    (case b_range => k_is)
    (case b_set => k_is)
    (case b_sum => k_is)
    (case b_tuple => k_is)
  case S =>
    intro K H xs a hO hwi hask hx
    cases hx with
    | cons h1 h2 =>
      cases h2
      cases h1 with
      | lst hs ha =>
        have e := L2.ints_dw a.1 _ ha
        subst e
        have q : ((Codec.inLen 0 30000 a.1 && a.1.all (Codec.inInt 0 4294967295)) && true) = true := hwi
        rw [Bool.and_eq_true, Bool.and_eq_true] at q
        exact ⟨_, a.1, rfl, hs, (Codec.inNat_iff.mp q.1.1).2, hask, fun H' p hp => .lst (L2.SqL.of hp) (L2.dw_ints _)⟩

end

import PyProof.Rows.All
import Wide.All
import OpenK.AllK
import Wide.FinOn
import PyProof.EqAt
import PyProof.EqKinds
import PyProof.TupleCall
import KE.BitLaws
import Open.SpecLaws
import KE.OsHead
import KE.OsGo
import PySem.Challenge.RW_longestrundesk_s01_answers
set_option Elab.async false
set_option linter.all false
set_option maxRecDepth 100000
set_option Elab.async false
set_option linter.all false
set_option maxRecDepth 100000
namespace L2
open PySem PySem.Spec PyProof.Rows

/-- a key: an int or a str -/
abbrev Key := Sum Int Str
def keyIs : Key → Value → Bool
  | .inl k, v => Value.isInt k v
  | .inr x, v => Value.isStrOf x v
def keyH (w : World) : Key → Int
  | .inl k => hashInt k
  | .inr x => hashStr w x
theorem keyIs_shape : ∀ {k : Key} {v : Value}, keyIs k v = true → (∃ i t, k = Sum.inl i ∧ v = Value.int i t) ∨ (∃ x t, k = Sum.inr x ∧ v = Value.str x t)
  | .inl i, v, h => by
    obtain ⟨t, e⟩ := Value.isInt_shape (k := i) (v := v) h
    exact .inl ⟨i, t, rfl, e⟩
  | .inr x, v, h => by
    obtain ⟨t, e⟩ := Value.isStrOf_shape (x := x) (v := v) h
    exact .inr ⟨x, t, rfl, e⟩
theorem key_ll (a b : Int) : decide ((Sum.inl a : Key) = Sum.inl b) = (a == b) := by
  by_cases e : a = b
  · subst e; simp
  · have h : ¬ (Sum.inl a : Key) = Sum.inl b := fun q => e (Sum.inl.inj q)
    rw [decide_eq_false h]
    exact (beq_eq_false_iff_ne.mpr e).symm
theorem key_rr (a b : Str) : decide ((Sum.inr a : Key) = Sum.inr b) = decide (a = b) := by
  by_cases e : a = b
  · subst e; simp
  · have h : ¬ (Sum.inr a : Key) = Sum.inr b := fun q => e (Sum.inr.inj q)
    rw [decide_eq_false h, decide_eq_false e]
theorem key_lr (a : Int) (b : Str) : decide ((Sum.inl a : Key) = Sum.inr b) = false := decide_eq_false (fun q => nomatch q)
theorem key_rl (a : Str) (b : Int) : decide ((Sum.inr a : Key) = Sum.inl b) = false := decide_eq_false (fun q => nomatch q)

def mixKind (prog : Program) (w : World) : PySem.KeyKind prog w Key where
  is := keyIs
  hash := keyH w
  inj := fun v a b ha hb => by
    rcases keyIs_shape ha with ⟨i, t, rfl, rfl⟩ | ⟨x, t, rfl, rfl⟩
    · rcases keyIs_shape hb with ⟨j, u, rfl, e⟩ | ⟨y, u, rfl, e⟩
      · injection e with e1 _; rw [e1]
      · exact nomatch e
    · rcases keyIs_shape hb with ⟨j, u, rfl, e⟩ | ⟨y, u, rfl, e⟩
      · exact nomatch e
      · injection e with e1 _; rw [e1]
  byValue := fun k v h => by
    rcases keyIs_shape h with ⟨i, t, rfl, rfl⟩ | ⟨x, t, rfl, rfl⟩ <;> rfl
  pyHash := fun hv h => by
    rcases keyIs_shape hv with ⟨i, t, rfl, rfl⟩ | ⟨x, t, rfl, rfl⟩
    · exact wpAny_pyHash_int h
    · exact wpAny_pyHash_str h
  eqBool := fun hu hv h => by
    rcases keyIs_shape hu with ⟨i, t, rfl, rfl⟩ | ⟨x, t, rfl, rfl⟩
    · rcases keyIs_shape hv with ⟨j, u, rfl, rfl⟩ | ⟨y, u, rfl, rfl⟩
      · rw [key_ll] at h; exact wpAny_eqBool_int h
      · rw [key_lr] at h; exact SeqAt.EqAt.int_str i t y u _ _ _ _ h
    · rcases keyIs_shape hv with ⟨j, u, rfl, rfl⟩ | ⟨y, u, rfl, rfl⟩
      · rw [key_rl] at h; exact SeqAt.EqAt.str_int x t j u _ _ _ _ h
      · rw [key_rr] at h; exact wpAny_eqBool_str h
  «strs» := fun k x t v h => by
    rcases keyIs_shape h with ⟨i, u, rfl, e⟩ | ⟨y, u, rfl, e⟩
    · exact nomatch e
    · injection e with e1 _
      subst e1
      cases v <;> rfl

end L2

namespace L2
open PySem PySem.Spec PyProof.Rows

/-- a value, without the heap -/
inductive V where
  | non | bl (b : Bool) | int (i : Int) | str (x : Str) | byt (b : Array UInt8) | flt (b : UInt64) | ref (a : Addr) | ty (n : String)
  deriving DecidableEq

def RelV : V → Value → Prop
  | .non, u => u = Value.none
  | .bl b, u => u = Value.bool b
  | .int i, u => ∃ t, u = Value.int i t
  | .str x, u => ∃ t, u = Value.str x t
  | .byt b, u => ∃ t, u = Value.bytes b t
  | .flt b, u => ∃ t, u = Value.float b t
  | .ref a, u => u = Value.ref a
  | .ty n, u => u = Value.type n

abbrev Vals : List V → List Value → Prop := Paired RelV
theorem Vals.length {xs : List V} {us : List Value} (r : Vals xs us) : xs.length = us.length := Paired.length r
theorem Vals.get : ∀ {xs : List V} {us : List Value} {i : Nat} {x : V}, Vals xs us → xs[i]? = some x → ∃ u, us[i]? = some u ∧ RelV x u
  | _, _, _, _, .nil, e => by simp at e
  | _, _, 0, _, .cons r _, e => by simp at e; subst e; exact ⟨_, rfl, r⟩
  | _, _, i + 1, x, .cons _ t, e => by
    obtain ⟨u, h1, h2⟩ := Vals.get (i := i) (x := x) t (by simpa using e)
    exact ⟨u, by simpa using h1, h2⟩
theorem Vals.set {x : V} {u : Value} (r : RelV x u) : ∀ {xs : List V} {us : List Value} (i : Nat), Vals xs us → Vals (xs.set i x) (us.set i u)
  | _, _, _, .nil => .nil
  | _, _, 0, .cons _ t => .cons r t
  | _, _, i + 1, .cons q t => .cons q (Vals.set r i t)
theorem Vals.append : ∀ {xs ys : List V} {us ws : List Value}, Vals xs us → Vals ys ws → Vals (xs ++ ys) (us ++ ws)
  | _, _, _, _, .nil, s => s
  | _, _, _, _, .cons r t, s => .cons r (Vals.append t s)
theorem Vals.take : ∀ {xs : List V} {us : List Value} (n : Nat), Vals xs us → Vals (xs.take n) (us.take n)
  | _, _, 0, _ => .nil
  | _, _, _ + 1, .nil => .nil
  | _, _, n + 1, .cons r t => .cons r (Vals.take n t)
theorem Vals.drop : ∀ {xs : List V} {us : List Value} (n : Nat), Vals xs us → Vals (xs.drop n) (us.drop n)
  | _, _, 0, r => r
  | _, _, _ + 1, .nil => .nil
  | _, _, n + 1, .cons _ t => Vals.drop n t

def RelO : Option V → Option Value → Prop
  | some v, some u => RelV v u
  | none, none => True
  | _, _ => False
def KV {κ : Type} : List (κ × V) → List (κ × Value) → Prop := Paired fun (p : κ × V) (q : κ × Value) => p.1 = q.1 ∧ RelV p.2 q.2

/-- a key of a dict (00_mix): an int or a text -/
def kV : Key → V
  | .inl i => .int i
  | .inr x => .str x

/-- what stands at a tracked address -/
inductive HO where
  /-- a list -/
  | lst (xs : List V)
  /-- a tuple (never changes) -/
  | tup (xs : List V)
  /-- a dict whose keys are ints and texts; one whose keys are tuples of ints and texts (the empty one is both) -/
  | dK (kvs : List (Key × V)) | dT (kvs : List (List Key × V))
  /-- a set of ints: its members, its size -/
  | set (S : Int → Bool) (n : Nat)
  /-- an instance of the class at C, its dict at dx, its attributes -/
  | ins (C dx : Addr) (fs : List (Str × V))
  /-- the dict of the instance at x -/
  | own (x : Addr)
  /-- the dict of an exception -/
  | xd (fs : List (Str × V))
  /-- a bound method, f of x -/
  | met (f x : Addr)
  /-- a range object lo, lo + 1, .. below hi -/
  | rng (lo hi : Int)
  /-- a thing that is known to the object (the script; a dict while a loop walks it): read, never written while it is so -/
  | frz (o : Obj) (u : HO)
  /-- a code object's table -/
  | tbl (ps : Array Value)
  /-- any other thing, by what is true of its one object (a def of one's own: SetO a S n := HO.ext fun h => ..) -/
  | ext (φ : Heap → Prop)

abbrev Hp := Addr → Option HO
def upd (H : Hp) (a : Addr) (o : HO) : Hp := fun b => if b = a then some o else H b
theorem upd_same {H : Hp} {a : Addr} {o : HO} : upd H a o a = some o := by unfold upd; rw [if_pos rfl]
theorem upd_ne {H : Hp} {a b : Addr} {o : HO} (h : b ≠ a) : upd H a o b = H b := by unfold upd; rw [if_neg h]
/-- two objects of different content stand apart -/
theorem ne_of {H : Hp} {a b : Addr} {o u : HO} (h : H a = some o) (h' : H b = some u) (d : o ≠ u) : a ≠ b := by
  intro e; subst e; rw [h] at h'; exact d (Option.some.inj h')
theorem ne_of_none {H : Hp} {a b : Addr} {o : HO} (h : H a = some o) (h' : H b = none) : a ≠ b := by
  intro e; subst e; rw [h] at h'; cases h'

section
variable (P : Program) (w : World)
def ObjOk (H : Hp) (h : Heap) (a : Addr) : HO → Prop
  | .lst xs => xs.length ≤ sizeLine ∧ ∃ (its : List Value) (n : Nat), Vals xs its ∧ h.get? a = some { cls := .type "list", data := .seq its.toArray n }
  | .tup xs => xs.length ≤ sizeLine ∧ ∃ its : List Value, Vals xs its ∧ IsTup h a its.toArray
  | .dK kvs => kvs.length ≤ sizeLine ∧ (a == sysModules) = false ∧ ∃ vs, KV kvs vs ∧ h.DictOf (mixKind P w) a vs
  | .dT kvs => kvs.length ≤ sizeLine ∧ (a == sysModules) = false ∧ ∃ xs : List (List Key × Addr × Value),
      Paired (fun (p : List Key × V) (q : List Key × Addr × Value) => p.1 = q.1 ∧ H q.2.1 = some (.tup (p.1.map kV)) ∧ RelV p.2 q.2.2) kvs xs ∧
      ∃ o es ep, h.get? a = some o ∧ o.ExactDict ∧ o.data = .dict es ep ∧ es.toList = xs.map (entryOfKey (tupleKind (mixKind P w))) ∧ (xs.map (·.1)).Nodup
  | .set S n => h.SetOf (intKind P w) a S n
  | .ins C dx fs => H dx = some (.own a) ∧ fs.length ≤ 1000 ∧ dx ≠ a ∧ h.get? a = some (PySem.W.instObj C dx) ∧
      ∃ mA, h.Ns1 dx mA ∧ (∀ f, RelO (fs.lookup f) (mA f)) ∧ PySem.Within mA (fs.map (·.1))
  | .own _ => ∃ o, h.get? a = some o
  | .xd fs => ∃ mA, h.Ns1 a mA ∧ ∀ f, RelO (fs.lookup f) (mA f)
  | .rng lo hi => ∃ t u v, h.get? a = some { cls := .type "range", data := .fields #[.int lo t, .int hi u, .int 1 v] }
  | .frz o u => h.get? a = some o ∧ ObjOk H h a u
  | .tbl ps => h.get? a = some { cls := .none, data := .fields ps }
  | .met f x => h.get? a = some (PySem.W.methodObj (.ref f) (.ref x))
  | .ext φ => φ h ∧ (∃ o, h.get? a = some o) ∧ ∀ h1 h2 : Heap, φ h1 → (∀ o, h1.get? a = some o → h2.get? a = some o) → φ h2
/-- the abstract heap is held -/
def HOk (H : Hp) (h : Heap) : Prop := ∀ a o, H a = some o → ObjOk P w H h a o
end

section
variable {P : Program} {w : World} {H H' : Hp} {h h' : Heap} {a : Addr} {o : HO}
theorem ObjOk.lt (x : ObjOk P w H h a o) : a < h.objs.size := by
  cases o with
  | lst xs => obtain ⟨_, _, _, _, e⟩ := x; exact Heap.lt_size e
  | tup xs => obtain ⟨_, _, _, p⟩ := x; exact p.lt
  | dK kvs => obtain ⟨_, _, _, _, o, _, _, e, _⟩ := x; exact Heap.lt_size e
  | dT kvs => obtain ⟨_, _, _, _, o, _, _, e, _⟩ := x; exact Heap.lt_size e
  | set S n => obtain ⟨o, _, _, _, e, _⟩ := x; exact Heap.lt_size e
  | ins C dx fs => obtain ⟨_, _, _, e, _⟩ := x; exact Heap.lt_size e
  | own y => obtain ⟨_, e⟩ := x; exact Heap.lt_size e
  | xd fs => obtain ⟨_, ⟨_, _, _, e, _⟩, _⟩ := x; exact Heap.lt_size e
  | rng lo hi => obtain ⟨_, _, _, e⟩ := x; exact Heap.lt_size e
  | frz ob u => obtain ⟨e, _⟩ := x; exact Heap.lt_size e
  | tbl ps => exact Heap.lt_size (show h.get? a = some _ from x)
  | met f y => exact Heap.lt_size (show h.get? a = some _ from x)
  | ext φ => obtain ⟨_, ⟨_, e⟩, _⟩ := x; exact Heap.lt_size e
theorem Paired.mapP {α β : Type} {F G : α → β → Prop} : ∀ {l₁ : List α} {l₂ : List β}, Paired F l₁ l₂ → (∀ a b, F a b → G a b) → Paired G l₁ l₂
  | _, _, .nil, _ => .nil
  | _, _, .cons r t, f => .cons (f _ _ r) (Paired.mapP t f)
/-- what an object's description leans on: its own object, its own dict, the tuples -/
theorem ObjOk.stay (x : ObjOk P w H h a o) (k : ∀ b u, (b = a ∨ H b = some (.own a)) → h.get? b = some u → h'.get? b = some u)
    (ho : ∀ b, H b = some (.own a) → H' b = some (.own a)) (ht : ∀ b xs, H b = some (.tup xs) → H' b = some (.tup xs)) : ObjOk P w H' h' a o := by
  induction o with
  | lst xs => obtain ⟨z, its, n, r, e⟩ := x; exact ⟨z, its, n, r, k _ _ (.inl rfl) e⟩
  | tup xs => obtain ⟨z, its, r, ob, e, c⟩ := x; exact ⟨z, its, r, ob, k _ _ (.inl rfl) e, c⟩
  | dK kvs => obtain ⟨z, y, vs, r, ob, es, ep, e, c⟩ := x; exact ⟨z, y, vs, r, ob, es, ep, k _ _ (.inl rfl) e, c⟩
  | dT kvs =>
    obtain ⟨z, y, xs, r, ob, es, ep, e, c⟩ := x
    exact ⟨z, y, xs, Paired.mapP r fun p q z => ⟨z.1, ht _ _ z.2.1, z.2.2⟩, ob, es, ep, k _ _ (.inl rfl) e, c⟩
  | set S n => obtain ⟨ob, es, ep, t, e, c⟩ := x; exact ⟨ob, es, ep, t, k _ _ (.inl rfl) e, c⟩
  | ins C dx fs =>
    obtain ⟨d, z, ne, e, mA, ⟨od, es, ep, e2, c⟩, r⟩ := x
    exact ⟨ho _ d, z, ne, k _ _ (.inl rfl) e, mA, ⟨od, es, ep, k _ _ (.inr d) e2, c⟩, r⟩
  | own y => obtain ⟨ob, e⟩ := x; exact ⟨ob, k _ _ (.inl rfl) e⟩
  | xd fs => obtain ⟨mA, ⟨od, es, ep, e, c⟩, r⟩ := x; exact ⟨mA, ⟨od, es, ep, k _ _ (.inl rfl) e, c⟩, r⟩
  | rng lo hi => obtain ⟨t, u, v, e⟩ := x; exact ⟨t, u, v, k _ _ (.inl rfl) e⟩
  | frz ob u ih => obtain ⟨e, q⟩ := x; exact ⟨k _ _ (.inl rfl) e, ih q⟩
  | tbl ps =>
    have e : h.get? a = some { cls := .none, data := .fields ps } := x
    show h'.get? a = some { cls := .none, data := .fields ps }
    exact k a _ (.inl rfl) e
  | met f y =>
    have e : h.get? a = some (PySem.W.methodObj (.ref f) (.ref y)) := x
    show h'.get? a = some (PySem.W.methodObj (.ref f) (.ref y))
    exact k a _ (.inl rfl) e
  | ext φ => obtain ⟨p, ⟨o, e⟩, st⟩ := x; exact ⟨st _ _ p fun o q => k _ _ (.inl rfl) q, ⟨o, k _ _ (.inl rfl) e⟩, st⟩
theorem HOk.lt (x : HOk P w H h) (e : H a = some o) : a < h.objs.size := (x a o e).lt
theorem HOk.fresh (x : HOk P w H h) (e : h.objs.size ≤ a) : H a = none := by
  cases q : H a with
  | none => rfl
  | some u => exact absurd (Nat.lt_of_lt_of_le (x.lt q) e) (Nat.lt_irrefl _)
/-- every object of the heap is kept -/
theorem HOk.kept (x : HOk P w H h) (k : ∀ b u, h.get? b = some u → h'.get? b = some u) : HOk P w H h' := fun a o e =>
  (x a o e).stay (fun b u _ q => k b u q) (fun _ q => q) fun _ _ q => q
/-- a new object is laid and tracked -/
theorem HOk.laid (x : HOk P w H h) (k : ∀ b u, h.get? b = some u → h'.get? b = some u) (hp : h.objs.size ≤ a) (new : ObjOk P w (upd H a o) h' a o) : HOk P w (upd H a o) h' := fun b u e => by
  have hn := x.fresh hp
  by_cases hb : b = a
  · subst hb; rw [upd_same] at e; cases e; exact new
  · rw [upd_ne hb] at e
    exact (x b u e).stay (fun c v _ q => k c v q) (fun c q => by rw [upd_ne (ne_of_none q hn)]; exact q) fun c xs q => by rw [upd_ne (ne_of_none q hn)]; exact q
end

/-- what may be read as u: it is u, or a known u -/
def Rd (H : Hp) (a : Addr) (u : HO) : Prop := H a = some u ∨ ∃ o, H a = some (.frz o u)
theorem Rd.ok {P : Program} {w : World} {H : Hp} {h : Heap} {a : Addr} {u : HO} (r : Rd H a u) (x : HOk P w H h) : ObjOk P w H h a u := by
  rcases r with r | ⟨o, r⟩
  · exact x a u r
  · obtain ⟨_, q⟩ := x a _ r
    exact q
/-- what may be written -/
def Mut : Option HO → Prop
  | some (.lst _) => True
  | some (.dK _) => True
  | some (.dT _) => True
  | some (.set _ _) => True
  | some (.ins _ _ _) => True
  | some (.ext _) => True
  | _ => False
section
variable {P : Program} {w : World} {H : Hp} {h h' : Heap} {x e : Addr} {o' : HO}
/-- the object at e is changed: x itself, or the dict of the instance x -/
theorem HOk.write (ok : HOk P w H h) (mu : Mut (H x)) (he : e = x ∨ H e = some (.own x)) (k : ∀ b u, b ≠ e → h.get? b = some u → h'.get? b = some u) (heo : ∃ u, h'.get? e = some u)
    (new : ObjOk P w (upd H x o') h' x o') : HOk P w (upd H x o') h' := fun b u q => by
  have nown : ∀ c y, H c = some (.own y) → c ≠ x := fun c y r z => by subst z; rw [r] at mu; exact mu
  have ntup : ∀ c xs, H c = some (.tup xs) → c ≠ x := fun c xs r z => by subst z; rw [r] at mu; exact mu
  by_cases hb : b = x
  · subst hb; rw [upd_same] at q; cases q; exact new
  · rw [upd_ne hb] at q
    by_cases hbe : b = e
    · have q' : H b = some (.own x) := by
        rcases he with z | z
        · exact absurd (hbe.trans z) hb
        · rw [hbe]; exact z
      rw [q] at q'; cases q'
      obtain ⟨v, hv⟩ := heo
      exact ⟨v, by rw [hbe]; exact hv⟩
    · refine (ok b u q).stay (fun c v hc r => k c v ?_ r) (fun c r => by rw [upd_ne (nown c b r)]; exact r) fun c xs r => by rw [upd_ne (ntup c xs r)]; exact r
      rcases hc with rfl | hc
      · exact hbe
      · rintro rfl
        rcases he with z | z
        · exact nown c b hc z
        · rw [hc] at z; cases z; exact hb rfl
end

structure Un (fs ex : List Addr) (H H' : Hp) (h h' : Heap) : Prop where
  keep : ∀ b o, h.get? b = some o → H b = none → b ∉ fs → b ∉ ex → h'.get? b = some o
  slot : ∀ b o, h.get? b = some o → H b = none → b ∈ fs → b ∉ ex → ∃ sl, h'.get? b = some { o with slots := sl }
  free : ∀ b o, h.get? b = some o → H b = none → b ∉ ex → H' b = none
  there : ∀ b o, h.get? b = some o → b ∉ ex → ∃ o', h'.get? b = some o'
  tups : ∀ b xs, H b = some (.tup xs) → H' b = some (.tup xs)
  frzs : ∀ b o u, H b = some (.frz o u) → H' b = some (.frz o u)
  tbls : ∀ b ps, H b = some (.tbl ps) → ∃ more, H' b = some (.tbl (ps ++ more))
section
variable {fs fs' ex ex' : List Addr} {H H1 H2 : Hp} {h h1 h2 h' : Heap} {a x e : Addr} {o : HO}
theorem Un.any (u : Un fs ex H H1 h h1) {b : Addr} {ob : Obj} (q : h.get? b = some ob) (n : H b = none) (hx : b ∉ ex) : ∃ sl, h1.get? b = some { ob with slots := sl } := by
  by_cases hb : b ∈ fs
  · exact u.slot b ob q n hb hx
  · exact ⟨ob.slots, u.keep b ob q n hb hx⟩
theorem Un.kept (k : ∀ b u, h.get? b = some u → h'.get? b = some u) : Un fs ex H H h h' :=
  ⟨fun b ob q _ _ _ => k b ob q, fun b ob q _ _ _ => ⟨ob.slots, k b ob q⟩, fun _ _ _ n _ => n, fun b ob q _ => ⟨ob, k b ob q⟩, fun _ _ q => q, fun _ _ _ q => q, fun _ ps q => ⟨#[], by rw [q]; simp⟩⟩
theorem Un.refl : Un fs ex H H h h := Un.kept fun _ _ q => q
theorem Un.laid (k : ∀ b u, h.get? b = some u → h'.get? b = some u) (hp : h.objs.size ≤ a) (hn : H a = none) : Un fs ex H (upd H a o) h h' where
  keep := fun b u q _ _ _ => k b u q
  slot := fun b u q _ _ _ => ⟨u.slots, k b u q⟩
  free := fun b u q n _ => by rw [upd_ne (Nat.ne_of_lt (Nat.lt_of_lt_of_le (Heap.lt_size q) hp))]; exact n
  there := fun b u q _ => ⟨u, k b u q⟩
  tups := fun b xs q => by rw [upd_ne (ne_of_none q hn)]; exact q
  frzs := fun b u xs q => by rw [upd_ne (ne_of_none q hn)]; exact q
  tbls := fun b ps q => ⟨#[], by rw [upd_ne (ne_of_none q hn), q]; simp⟩
theorem Un.write (mu : Mut (H x)) (he : e = x ∨ H e = some (.own x)) (k : ∀ b u, b ≠ e → h.get? b = some u → h'.get? b = some u) (heo : ∃ u, h'.get? e = some u) : Un fs ex H (upd H x o) h h' := by
  have hx : ∀ b, H b = none → b ≠ x := fun b n z => by subst z; rw [n] at mu; exact mu
  have hb : ∀ b, H b = none → b ≠ e := fun b n z => by
    subst z
    rcases he with r | r
    · exact hx b n r
    · rw [n] at r; cases r
  have hm : ∀ b u, H b = some u → ¬ Mut (some u) → b ≠ x := fun b u q nm z => by subst z; rw [q] at mu; exact nm mu
  refine ⟨fun b u q n _ _ => k b u (hb b n) q, fun b u q n _ _ => ⟨u.slots, k b u (hb b n) q⟩, fun b u q n _ => by rw [upd_ne (hx b n)]; exact n, fun b u q _ => ?_,
    fun b xs q => by rw [upd_ne (hm b _ q fun z => z)]; exact q, fun b u xs q => by rw [upd_ne (hm b _ q fun z => z)]; exact q, fun b ps q => ⟨#[], by rw [upd_ne (hm b _ q fun z => z), q]; simp⟩⟩
  by_cases hbe : b = e
  · subst hbe; exact heo
  · exact ⟨u, k b u hbe q⟩
end

def trk (h : Heap) (H : Hp) : List Addr := (List.range h.objs.size).filter fun a => (H a).isSome
def hidT (h : Heap) (H : Hp) : Heap := PySem.W.hideAll h (trk h H)
theorem hidT_size (h : Heap) (H : Hp) : (hidT h H).objs.size = h.objs.size := PySem.W.hideAll_size _ _
theorem hidT_get {h : Heap} {H : Hp} {b : Addr} {o : Obj} (e : h.get? b = some o) (n : H b = none) : (hidT h H).get? b = some o :=
  PySem.W.hideAll_get _ e fun hm => by
    have q : (H b).isSome = true := (List.mem_filter.mp hm).2
    rw [n] at q; simp at q
theorem of_hidT {h : Heap} {H : Hp} {b : Addr} {o : Obj} (e : (hidT h H).get? b = some o) : h.get? b = some o ∧ H b = none := by
  have e' : h.get? b = some o := PySem.W.of_hideAll (trk h H) e
  refine ⟨e', ?_⟩
  cases q : H b with
  | none => rfl
  | some x =>
    have hm : b ∈ trk h H := List.mem_filter.mpr ⟨List.mem_range.mpr (Heap.lt_size e'), by simp [q]⟩
    have z : (hidT h H).get? b = none := PySem.W.hideAll_none (trk h H) hm
    rw [z] at e; cases e

end L2

namespace L2
open PySem PySem.Spec PyProof.Rows

/-- the module's facts, over the base: the heap at the law's entry without what is tracked there -/
structure Mod (K : PySem.W.Frag) (mg : Str → Option Value) (base : Heap) : Prop where
  kin : K.In base
  glob : base.Ns mainGlobals mg
  blt : ∃ mb, base.Ns builtinsNs mb ∧ ∀ x : Str, x ≠ "__name__" → mb x = bootBuiltins x
  nolimit : base.NoLimit

/-- the context: a def's body (or a comprehension's block) running. base: fixed through the whole law; s₀, H₀: the entry; outer: the frames whose slots others may change (a def's callers); stack: all frames that run;
   ex: iterators that were made ahead of the entry and are walked here (a comprehension's); fn: the names whose cells were made at the entry (a def: all; a comprehension's block: its own); calm: not within an except suite; pn: pins that every state bears; xe: what is wanted of an exception that leaves the code -/
structure Cx where
  prog : Program
  w : World
  K : PySem.W.Frag
  mg : Str → Option Value
  base : Heap
  A : Around
  N : List Str
  s_0 : Shared
  H_0 : Hp
  env : Env
  outer : List Env
  stack : List Env
  ex : List Addr
  fn : Str → Bool
  calm : Bool
  pn : List (Addr × Obj)
  xe : Value → Shared → Prop
/-- the callers' frames -/
def frs (l : List Env) : List Addr := l.filterMap (·.frame)
abbrev Cx.fs (X : Cx) : List Addr := frs X.outer

def Vis (sc : Scope) (x : Str) : Prop := sc.names.lookup x = some .local ∨ sc.names.lookup x = some .cell ∨ sc.names.lookup x = some .free
def Loc (sc : Scope) (x : Str) : Prop := sc.names.lookup x = some .local ∨ sc.names.lookup x = some .cell
def Look (env : Env) (h : Heap) (m : Str → Option Value) (x : Str) (u : Value) : Prop :=
  (env.kindOf x = some .local ∧ m x = some u) ∨ ((env.kindOf x = some .cell ∨ env.kindOf x = some .free) ∧ ∃ c, env.cells.lookup x = some c ∧ h.IsCell c (some u))

structure Cx.Ok (X : Cx) : Prop where
  mod : Mod X.K X.mg X.base
  kind : X.env.scope.kind = .function
  glob : X.env.globals = mainGlobals
  blt : X.env.builtins = builtinsNs
  above : X.s_0.heap.objs.size ≤ X.env.locals
  inj : ∀ x y c, X.env.cells.lookup x = some c → X.env.cells.lookup y = some c → x = y
  has : ∀ x, (X.env.kindOf x = some .cell ∨ X.env.kindOf x = some .free) → ∃ c, X.env.cells.lookup x = some c
  cab : ∀ x c, X.fn x = true → X.env.cells.lookup x = some c → X.s_0.heap.objs.size ≤ c
  hd : X.calm = true → X.A.handled = none
  frames : X.A.frames = some X.stack
  stk : X.stack = X.outer ∨ (X.stack = X.env :: X.outer ∧ X.env.frame = some X.env.locals)
  exf : ∀ b ∈ X.ex, b ≠ X.env.locals ∧ ∀ x c, X.env.cells.lookup x = some c → c ≠ b
  bs : ∀ b o, X.base.get? b = some o → X.s_0.heap.get? b = some o ∧ X.H_0 b = none
  bsz : X.base.objs.size ≤ X.s_0.heap.objs.size
  noex : ∀ b o, X.base.get? b = some o → b ∉ X.ex
  exfs : ∀ b ∈ X.ex, b ∉ X.fs
  funs : X.s_0.heap.FunFrames X.base X.outer
  frf : ∀ b ∈ X.fs, X.H_0 b = none

structure Inv (X : Cx) (pins : List (Addr × Obj)) (σ : List (Option V)) (H : Hp) (s : Shared) : Prop where
  ok : X.Ok
  os : s.os = X.s_0.os
  bare : AllBare s.gens
  base : Un X.fs X.ex X.H_0 H X.s_0.heap s.heap
  loc : ∃ m, s.heap.Ns X.env.locals m ∧ ∀ (i : Nat) (x : Str) (v : V), X.N[i]? = some x → σ[i]? = some (some v) → Vis X.env.scope x → ∃ u, RelV v u ∧ Look X.env s.heap m x u
  cell : ∀ x c, X.env.cells.lookup x = some c → ∃ v, s.heap.IsCell c v
  free : H X.env.locals = none
  freeC : ∀ x c, X.env.cells.lookup x = some c → H c = none
  pin : ∀ p ∈ X.pn ++ pins, s.heap.get? p.1 = some p.2 ∧ H p.1 = none ∧ p.1 ≠ X.env.locals ∧ p.1 ∉ X.fs ∧ ∀ v, p.2.data ≠ .cell v
  hok : HOk X.prog X.w H s.heap
  len : σ.length = X.N.length

section
variable {X : Cx} {pins : List (Addr × Obj)} {σ : List (Option V)} {H H' : Hp} {s : Shared} {h' : Heap}

theorem Cx.Ok.nofr (ok : X.Ok) {b : Addr} {o : Obj} (e : X.base.get? b = some o) : b ∉ X.fs := fun hb => by
  have := (ok.funs.mem hb).1
  rw [e] at this; cases this
theorem Inv.bs (I : Inv X pins σ H s) : ∀ b o, X.base.get? b = some o → s.heap.get? b = some o ∧ H b = none := fun b o e =>
  ⟨I.base.keep b o (I.ok.bs b o e).1 (I.ok.bs b o e).2 (I.ok.nofr e) (I.ok.noex b o e), I.base.free b o (I.ok.bs b o e).1 (I.ok.bs b o e).2 (I.ok.noex b o e)⟩
theorem Inv.bk (I : Inv X pins σ H s) : ∀ b o, X.base.get? b = some o → s.heap.get? b = some o := fun b o e => (I.bs b o e).1
theorem Inv.mod (I : Inv X pins σ H s) : Mod X.K X.mg X.base := I.ok.mod
theorem Inv.kIn (I : Inv X pins σ H s) : X.K.In s.heap := I.ok.mod.kin.keeps I.bk
theorem Inv.lt (I : Inv X pins σ H s) : X.env.locals < s.heap.objs.size := let ⟨_, hn, _⟩ := I.loc; hn.lt
theorem Inv.sz (I : Inv X pins σ H s) : X.s_0.heap.objs.size ≤ s.heap.objs.size := Nat.le_trans I.ok.above (Nat.le_of_lt I.lt)
theorem Inv.nofs (I : Inv X pins σ H s) {a : Addr} (h : s.heap.objs.size ≤ a) : a ∉ X.fs := fun hb => by
  obtain ⟨_, o, ho, _⟩ := I.ok.funs.mem hb
  exact absurd (Nat.lt_of_lt_of_le (Heap.lt_size ho) (Nat.le_trans I.sz h)) (Nat.lt_irrefl _)
theorem Inv.cne (I : Inv X pins σ H s) : ∀ x c, X.env.cells.lookup x = some c → c ≠ X.env.locals := fun x c e z => by
  obtain ⟨v, o, ho, hd⟩ := I.cell x c e
  obtain ⟨m, ⟨o', es, ep, ho', hd', _⟩, _⟩ := I.loc
  rw [z, ho'] at ho; cases ho; rw [hd'] at hd; cases hd
theorem Inv.funs (I : Inv X pins σ H s) : s.heap.FunFrames X.base X.outer := by
  have all : ∀ (l : List Env), (∀ b ∈ frs l, b ∈ X.fs) → X.s_0.heap.FunFrames X.base l → s.heap.FunFrames X.base l := by
    intro l
    induction l with
    | nil => intro _ _; trivial
    | cons env r ih =>
      intro hs hl
      obtain ⟨hk, ⟨L, o, hf, hn, ho, hd⟩, hr⟩ := hl
      have hL : L ∈ X.fs := hs L (by unfold frs; rw [List.filterMap_cons, hf]; exact List.mem_cons_self)
      obtain ⟨sl, e⟩ := I.base.slot L o ho (I.ok.frf L hL) hL fun z => I.ok.exfs L z hL
      exact ⟨hk, ⟨L, _, hf, hn, e, hd⟩, ih (fun b hb => hs b (by unfold frs; rw [List.filterMap_cons, hf]; exact List.mem_cons_of_mem _ hb)) hr⟩
  exact all X.outer (fun _ hb => hb) I.ok.funs

/-- the frames that run, for a call -/
theorem Inv.stack (I : Inv X pins σ H s) : s.heap.FunFrames X.base X.stack := by
  rcases I.ok.stk with e | ⟨e, hf⟩
  · rw [e]; exact I.funs
  · rw [e]
    obtain ⟨m, hn, _⟩ := I.loc
    refine .cons (by rw [I.ok.kind]; decide) hf hn ?_ I.funs
    exact Heap.get?_none_of_le (Nat.le_trans I.ok.bsz I.ok.above)
theorem Inv.stkSub (I : Inv X pins σ H s) : ∀ b ∈ frs X.stack, b ∈ X.env.locals :: X.fs := fun b hb => by
  rcases I.ok.stk with e | ⟨e, hf⟩
  · rw [e] at hb; exact List.mem_cons_of_mem _ hb
  · rw [e] at hb
    unfold frs at hb
    rw [List.filterMap_cons, hf] at hb
    exact hb
theorem Inv.stkFree (I : Inv X pins σ H s) : ∀ b ∈ frs X.stack, H b = none := fun b hb => by
  rcases List.mem_cons.mp (I.stkSub b hb) with e | hb
  · rw [e]; exact I.free
  · obtain ⟨_, o, ho, _⟩ := I.ok.funs.mem hb
    exact I.base.free b o ho (I.ok.frf b hb) fun z => I.ok.exfs b z hb

/-- THE STEP: the untracked objects but the frame and the records at ch are kept (the callers' frames up to slots), the frame's map is kept, the new abstract heap is held -/
theorem Inv.step {g' : Array GenState} {t' : Nat} {d' : Drawn} {ch : List Addr} (I : Inv X pins σ H s)
    (hch : ∀ b ∈ ch, (b ∈ X.ex ∨ X.s_0.heap.objs.size ≤ b) ∧ b ≠ X.env.locals ∧ (∀ x c, X.env.cells.lookup x = some c → c ≠ b) ∧ ∀ p ∈ X.pn ++ pins, p.1 ≠ b)
    (keep : ∀ b o, b ≠ X.env.locals → b ∉ X.fs → b ∉ ch → s.heap.get? b = some o → H b = none → h'.get? b = some o)
    (slot : ∀ b o, b ≠ X.env.locals → b ∈ X.fs → b ∉ ch → s.heap.get? b = some o → H b = none → ∃ sl, h'.get? b = some { o with slots := sl }) (free : ∀ b o, b ∉ ch → s.heap.get? b = some o → H b = none → H' b = none)
    (there : ∀ b o, b ∉ ch → s.heap.get? b = some o → ∃ o', h'.get? b = some o')
    (tups : ∀ b xs, H b = some (.tup xs) → H' b = some (.tup xs)) (frzs : ∀ b o u, H b = some (.frz o u) → H' b = some (.frz o u)) (tbls : ∀ b ps, H b = some (.tbl ps) → ∃ more, H' b = some (.tbl (ps ++ more)))
    (ns : ∀ m, s.heap.Ns X.env.locals m → h'.Ns X.env.locals m) (hok : HOk X.prog X.w H' h') (hg : AllBare g') :
    Inv X pins σ H' { s with heap := h', gens := g', drawn := d', toks := t' } := by
  have neL : ∀ b o, X.s_0.heap.get? b = some o → b ≠ X.env.locals := fun b o e => Nat.ne_of_lt (Nat.lt_of_lt_of_le (Heap.lt_size e) I.ok.above)
  have neC : ∀ b o, X.s_0.heap.get? b = some o → b ∉ X.ex → b ∉ ch := fun b o e hx hb => by
    rcases (hch b hb).1 with z | z
    · exact hx z
    · exact absurd (Nat.lt_of_lt_of_le (Heap.lt_size e) z) (Nat.lt_irrefl _)
  have cellK : ∀ x c, X.env.cells.lookup x = some c → ∀ v, s.heap.IsCell c v → h'.IsCell c v := fun x c e v ⟨o, ho, hd⟩ => by
    have nch : c ∉ ch := fun z => (hch c z).2.2.1 x c e rfl
    by_cases hc : c ∈ X.fs
    · obtain ⟨sl, q⟩ := slot c o (I.cne x c e) hc nch ho (I.freeC x c e)
      exact ⟨_, q, hd⟩
    · exact ⟨o, keep c o (I.cne x c e) hc nch ho (I.freeC x c e), hd⟩
  refine ⟨I.ok, I.os, hg, ⟨fun b o e n hb hx => ?_, fun b o e n hb hx => ?_, fun b o e n hx => ?_, fun b o e hx => ?_, fun b xs e => tups b xs (I.base.tups b xs e), fun b o xs e => frzs b o xs (I.base.frzs b o xs e), fun b ps e => ?_⟩, ?_, fun x c e => ?_, ?_, fun x c e => ?_, fun p hp => ?_, hok, I.len⟩
  · exact keep b o (neL b o e) hb (neC b o e hx) (I.base.keep b o e n hb hx) (I.base.free b o e n hx)
  · obtain ⟨sl, e1⟩ := I.base.slot b o e n hb hx
    obtain ⟨sl', e2⟩ := slot b _ (neL b o e) hb (neC b o e hx) e1 (I.base.free b o e n hx)
    exact ⟨sl', e2⟩
  · obtain ⟨o', e1⟩ := I.base.there b o e hx
    exact free b o' (neC b o e hx) e1 (I.base.free b o e n hx)
  · obtain ⟨o', e1⟩ := I.base.there b o e hx
    exact there b o' (neC b o e hx) e1
  · obtain ⟨m1, e1⟩ := I.base.tbls b ps e
    obtain ⟨m2, e2⟩ := tbls b _ e1
    exact ⟨m1 ++ m2, by rw [e2, Array.append_assoc]⟩
  · obtain ⟨m, hn, hl⟩ := I.loc
    refine ⟨m, ns m hn, fun i x v e1 e2 e3 => ?_⟩
    obtain ⟨u, r, l⟩ := hl i x v e1 e2 e3
    refine ⟨u, r, ?_⟩
    rcases l with l | ⟨k, c, e, z⟩
    · exact .inl l
    · exact .inr ⟨k, c, e, cellK x c e _ z⟩
  · obtain ⟨v, z⟩ := I.cell x c e
    exact ⟨v, cellK x c e v z⟩
  · obtain ⟨m, ⟨o, _, _, ho, _⟩, _⟩ := I.loc
    exact free _ o (fun z => (hch _ z).2.1 rfl) ho I.free
  · obtain ⟨v, o, ho, hd⟩ := I.cell x c e
    exact free c o (fun z => (hch c z).2.2.1 x c e rfl) ho (I.freeC x c e)
  · obtain ⟨e, n, ne, nf, d⟩ := I.pin p hp
    have nch : p.1 ∉ ch := fun z => (hch p.1 z).2.2.2 p hp rfl
    exact ⟨keep p.1 p.2 ne nf nch e n, free p.1 p.2 nch e n, ne, nf, d⟩
/-- .. where the frame's own object is kept too -/
theorem Inv.un {t' : Nat} (I : Inv X pins σ H s) (u : Un X.fs [] H H' s.heap h') (hok : HOk X.prog X.w H' h') : Inv X pins σ H' { s with heap := h', toks := t' } := by
  obtain ⟨m, ⟨o, es, ep, ho, r⟩, _⟩ := id I.loc
  obtain ⟨sl, hL⟩ := u.any ho I.free (by simp)
  exact I.step (g' := s.gens) (d' := s.drawn) (ch := []) (fun _ z => nomatch z) (fun b o _ hb _ e n => u.keep b o e n hb (by simp)) (fun b o _ hb _ e n => u.slot b o e n hb (by simp)) (fun b o _ e n => u.free b o e n (by simp)) (fun b o _ e => u.there b o e (by simp)) u.tups u.frzs u.tbls (fun m' hm => by
    obtain ⟨o', es', ep', ho', r'⟩ := hm
    rw [ho] at ho'; cases ho'
    exact ⟨_, es', ep', hL, r'⟩) hok I.bare
/-- behind a call (or a comprehension's block): the slots of this frame may have changed too, the records at ch may have turned -/
theorem Inv.call {g' : Array GenState} {t' : Nat} {d' : Drawn} {ch : List Addr} (I : Inv X pins σ H s) (u : Un (frs X.stack) ch H H' s.heap h') (hok : HOk X.prog X.w H' h') (hg : AllBare g')
    (hch : ∀ b ∈ ch, (b ∈ X.ex ∨ X.s_0.heap.objs.size ≤ b) ∧ b ≠ X.env.locals ∧ (∀ x c, X.env.cells.lookup x = some c → c ≠ b) ∧ ∀ p ∈ X.pn ++ pins, p.1 ≠ b) :
    Inv X pins σ H' { s with heap := h', gens := g', drawn := d', toks := t' } := by
  obtain ⟨m, ⟨o, es, ep, ho, r⟩, _⟩ := id I.loc
  obtain ⟨sl, hL⟩ := u.any ho I.free fun z => (hch _ z).2.1 rfl
  exact I.step (ch := ch) hch (fun b o hL hb hc e n => u.keep b o e n (fun z => (List.mem_cons.mp (I.stkSub b z)).elim hL hb) hc) (fun b o _ _ hc e n => u.any e n hc) (fun b o hc e n => u.free b o e n hc) (fun b o hc e => u.there b o e hc) u.tups u.frzs u.tbls (fun m' hm => by
    obtain ⟨o', es', ep', ho', r'⟩ := hm
    rw [ho] at ho'; cases ho'
    exact ⟨_, es', ep', hL, r'⟩) hok hg
/-- an untracked record of ours (an iterator) has turned -/
theorem Inv.turned {t' : Nat} {it : Addr} (I : Inv X pins σ H s) (k : ∀ b o, b ≠ it → s.heap.get? b = some o → h'.get? b = some o) (hn : H it = none) (hL : it ≠ X.env.locals)
    (h1 : it ∈ X.ex ∨ X.s_0.heap.objs.size ≤ it) (h2 : ∀ x c, X.env.cells.lookup x = some c → c ≠ it) (h3 : ∀ p ∈ X.pn ++ pins, p.1 ≠ it) : Inv X pins σ H { s with heap := h', toks := t' } := by
  have nit : ∀ b u, H b = some u → b ≠ it := fun b u e z => by rw [z, hn] at e; cases e
  refine I.step (g' := s.gens) (d' := s.drawn) (ch := [it]) (fun b hb => ?_) (fun b o _ _ hc e _ => k b o (fun z => hc (by simp [z])) e) (fun b o _ _ hc e _ => ⟨o.slots, k b o (fun z => hc (by simp [z])) e⟩) (fun _ _ _ _ n => n)
    (fun b o hc e => ⟨o, k b o (fun z => hc (by simp [z])) e⟩) (fun _ _ e => e) (fun _ _ _ e => e) (fun b ps e => ⟨#[], by rw [e]; simp⟩) (fun m hm => ?_) (fun b u e => ?_) I.bare
  · have e : b = it := by simpa using hb
    subst e
    exact ⟨h1, hL, h2, h3⟩
  · obtain ⟨o, es, ep, ho, r⟩ := hm
    exact ⟨o, es, ep, k _ o (Ne.symm hL) ho, r⟩
  · refine (I.hok b u e).stay (fun c v hc q => k c v ?_ q) (fun _ q => q) fun _ _ q => q
    rcases hc with z | z
    · rw [z]; exact nit b u e
    · exact nit c _ z
theorem Inv.tok (I : Inv X pins σ H s) (t : Nat) : Inv X pins σ H { s with toks := t } := I.un (h' := s.heap) (t' := t) Un.refl I.hok
/-- all objects kept -/
theorem Inv.kept {t' : Nat} (I : Inv X pins σ H s) (k : ∀ b u, s.heap.get? b = some u → h'.get? b = some u) : Inv X pins σ H { s with heap := h', toks := t' } := I.un (Un.kept k) (I.hok.kept k)
/-- a new object laid and tracked -/
theorem Inv.laid {a : Addr} {o : HO} {t' : Nat} (I : Inv X pins σ H s) (k : ∀ b u, s.heap.get? b = some u → h'.get? b = some u) (hp : s.heap.objs.size ≤ a) (new : ObjOk X.prog X.w (upd H a o) h' a o) :
    Inv X pins σ (upd H a o) { s with heap := h', toks := t' } := I.un (Un.laid k hp (I.hok.fresh hp)) (I.hok.laid k hp new)
/-- an object written -/
theorem Inv.write {x e : Addr} {o : HO} {t' : Nat} (I : Inv X pins σ H s) (mu : Mut (H x)) (he : e = x ∨ H e = some (.own x)) (k : ∀ b u, b ≠ e → s.heap.get? b = some u → h'.get? b = some u) (heo : ∃ u, h'.get? e = some u)
    (new : ObjOk X.prog X.w (upd H x o) h' x o) : Inv X pins σ (upd H x o) { s with heap := h', toks := t' } := I.un (Un.write mu he k heo) (I.hok.write mu he k heo new)
/-- forgetting slots, pins -/
theorem Inv.weak {σ' : List (Option V)} (I : Inv X pins σ H s) (hl : σ'.length = σ.length) (w : ∀ (i : Nat) v, σ'[i]? = some (some v) → σ[i]? = some (some v)) : Inv X pins σ' H s :=
  ⟨I.ok, I.os, I.bare, I.base, let ⟨m, hn, hl'⟩ := I.loc; ⟨m, hn, fun i x v e1 e2 e3 => hl' i x v e1 (w i v e2) e3⟩, I.cell, I.free, I.freeC, I.pin, I.hok, hl.trans I.len⟩
theorem Inv.pins_of {pins' : List (Addr × Obj)} (I : Inv X pins σ H s) (h : ∀ p ∈ pins', s.heap.get? p.1 = some p.2 ∧ H p.1 = none ∧ p.1 ≠ X.env.locals ∧ p.1 ∉ X.fs ∧ ∀ v, p.2.data ≠ .cell v) : Inv X pins' σ H s :=
  ⟨I.ok, I.os, I.bare, I.base, I.loc, I.cell, I.free, I.freeC, fun p hp => (List.mem_append.mp hp).elim (fun z => I.pin p (List.mem_append_left _ z)) (h p), I.hok, I.len⟩

theorem nodup_ix {N : List Str} (hN : N.Nodup) {i j : Nat} {x : Str} (a : N[i]? = some x) (b : N[j]? = some x) : i = j := by
  obtain ⟨h1, e1⟩ := List.getElem?_eq_some_iff.mp a
  obtain ⟨h2, e2⟩ := List.getElem?_eq_some_iff.mp b
  exact (List.getElem_inj hN).mp (e1.trans e2.symm)

/-- a name is stored; what changed -/
theorem store_ok2 {M : Model} {A : Around} {E : Value → Shared → Prop} {i : Nat} {x : Str} {v : V} {u : Value} {Q : Unit → Shared → Prop} (I : Inv X pins σ H s) (hN : X.N.Nodup) (hi : X.N[i]? = some x) (hx : Loc X.env.scope x) (r : RelV v u)
    (h : ∀ s', Inv X pins (σ.set i (some v)) H s' → (∃ a, Heap.SameBut a s.heap s'.heap ∧ (a = X.env.locals ∨ X.env.cells.lookup x = some a)) → Q () s') (hf : X.fn x = true ∨ X.env.scope.names.lookup x = some .local := by first | exact .inl rfl | exact .inr rfl | assumption) : wpAny M A (storeName X.env x u) Q E s := by
  obtain ⟨m, hn, hl⟩ := id I.loc
  have hcls : (X.env.scope.kind == .class || (X.env.scope.kind == .module && X.env.locals != X.env.globals)) = false := by rw [I.ok.kind]; rfl
  have hiσ : i < σ.length := by rw [I.len]; exact (List.getElem?_eq_some_iff.mp hi).1
  have cne := I.cne
  have tracked : ∀ {a : Addr} {h' : Heap}, (∃ o, s.heap.get? a = some o ∧ H a = none) → Heap.SameBut a s.heap h' → HOk X.prog X.w H h' := fun {a h'} ha hs b ob e => by
    obtain ⟨_, _, hfree⟩ := ha
    refine (I.hok b ob e).stay (fun c w' hc q => (hs.2 c ?_).trans q) (fun _ q => q) fun _ _ q => q
    rintro rfl
    rcases hc with rfl | hc
    · rw [hfree] at e; cases e
    · rw [hfree] at hc; cases hc
  rcases hx with hk | hk
  · refine wpAny_storeName_local hk hn (fun h' hn' hs => ?_) hcls
    obtain ⟨oL, _, _, hoL, _⟩ := id hn
    refine h _ ⟨I.ok, I.os, I.bare, ⟨fun b o e n hb hx => ?_, fun b o e n hb hx => ?_, I.base.free, fun b o e hx => ?_, I.base.tups, I.base.frzs, I.base.tbls⟩, ⟨_, hn', fun j y v' e1 e2 e3 => ?_⟩, fun y c e => ?_, I.free, I.freeC, fun p hp => ?_, tracked ⟨oL, hoL, I.free⟩ hs, by simpa using I.len⟩ ⟨_, hs, .inl rfl⟩
    · exact (hs.2 b (Nat.ne_of_lt (Nat.lt_of_lt_of_le (Heap.lt_size e) I.ok.above))).trans (I.base.keep b o e n hb hx)
    · obtain ⟨sl, e1⟩ := I.base.slot b o e n hb hx
      exact ⟨sl, (hs.2 b (Nat.ne_of_lt (Nat.lt_of_lt_of_le (Heap.lt_size e) I.ok.above))).trans e1⟩
    · obtain ⟨o', e1⟩ := I.base.there b o e hx
      exact ⟨o', (hs.2 b (Nat.ne_of_lt (Nat.lt_of_lt_of_le (Heap.lt_size e) I.ok.above))).trans e1⟩
    · by_cases hj : j = i
      · subst hj
        rw [hi] at e1; cases e1
        rw [List.getElem?_set_self hiσ] at e2
        cases e2
        exact ⟨u, r, .inl ⟨hk, by simp⟩⟩
      · rw [List.getElem?_set_ne (Ne.symm hj)] at e2
        obtain ⟨u', r', q⟩ := hl j y v' e1 e2 e3
        refine ⟨u', r', ?_⟩
        rcases q with ⟨k, e⟩ | ⟨k, c, e, z⟩
        · refine .inl ⟨k, ?_⟩
          have : y ≠ x := fun e => hj (nodup_ix hN e1 (e ▸ hi))
          simp [this, e]
        · exact .inr ⟨k, c, e, z.sameBut hs (cne y c e)⟩
    · obtain ⟨w', z⟩ := I.cell y c e
      exact ⟨w', z.sameBut hs (cne y c e)⟩
    · obtain ⟨e, n, ne, nf, d⟩ := I.pin p hp
      exact ⟨(hs.2 p.1 ne).trans e, n, ne, nf, d⟩
  · have hfn : X.fn x = true := by
      rcases hf with z | z
      · exact z
      · rw [z] at hk; cases hk
    obtain ⟨c, hc⟩ := I.ok.has x (.inl hk)
    obtain ⟨w', z⟩ := I.cell x c hc
    refine wpAny_storeName_cell I.ok.kind hk hc z (fun h' hc' hs => ?_)
    obtain ⟨oc, hoc, hocd⟩ := id z
    refine h { s with heap := h' } ⟨I.ok, I.os, I.bare, ⟨fun b o e n hb hx => ?_, fun b o e n hb hx => ?_, I.base.free, fun b o e hx => ?_, I.base.tups, I.base.frzs, I.base.tbls⟩, ⟨m, hn.sameBut hs (Ne.symm (cne x c hc)), fun j y v' e1 e2 e3 => ?_⟩, fun y c' e => ?_, I.free, I.freeC, fun p hp => ?_, tracked ⟨oc, hoc, I.freeC x c hc⟩ hs, by simpa using I.len⟩ ⟨c, hs, .inr hc⟩
    · exact (hs.2 b (Nat.ne_of_lt (Nat.lt_of_lt_of_le (Heap.lt_size e) (I.ok.cab x c hfn hc)))).trans (I.base.keep b o e n hb hx)
    · obtain ⟨sl, e1⟩ := I.base.slot b o e n hb hx
      exact ⟨sl, (hs.2 b (Nat.ne_of_lt (Nat.lt_of_lt_of_le (Heap.lt_size e) (I.ok.cab x c hfn hc)))).trans e1⟩
    · obtain ⟨o', e1⟩ := I.base.there b o e hx
      exact ⟨o', (hs.2 b (Nat.ne_of_lt (Nat.lt_of_lt_of_le (Heap.lt_size e) (I.ok.cab x c hfn hc)))).trans e1⟩
    · by_cases hj : j = i
      · subst hj
        rw [hi] at e1; cases e1
        rw [List.getElem?_set_self hiσ] at e2
        cases e2
        exact ⟨u, r, .inr ⟨.inl hk, c, hc, hc'⟩⟩
      · rw [List.getElem?_set_ne (Ne.symm hj)] at e2
        obtain ⟨u', r', q⟩ := hl j y v' e1 e2 e3
        refine ⟨u', r', ?_⟩
        rcases q with q | ⟨k, c', e, z'⟩
        · exact .inl q
        · refine .inr ⟨k, c', e, z'.sameBut hs ?_⟩
          rintro rfl
          exact hj (nodup_ix hN e1 (I.ok.inj _ _ _ e hc ▸ hi))
    · by_cases hcc : c' = c
      · subst hcc; exact ⟨_, hc'⟩
      · obtain ⟨w2, z2⟩ := I.cell y c' e
        exact ⟨w2, z2.sameBut hs hcc⟩
    · obtain ⟨e, n, ne, nf, d⟩ := I.pin p hp
      refine ⟨(hs.2 p.1 ?_).trans e, n, ne, nf, d⟩
      intro q
      rw [q, hoc] at e
      have q' : oc = p.2 := Option.some.inj e
      exact d w' (by rw [← q']; exact hocd)
theorem store_ok {M : Model} {A : Around} {E : Value → Shared → Prop} {i : Nat} {x : Str} {v : V} {u : Value} {Q : Unit → Shared → Prop} (I : Inv X pins σ H s) (hN : X.N.Nodup) (hi : X.N[i]? = some x) (hx : Loc X.env.scope x) (r : RelV v u)
    (h : ∀ s', Inv X pins (σ.set i (some v)) H s' → Q () s') (hf : X.fn x = true ∨ X.env.scope.names.lookup x = some .local := by first | exact .inl rfl | exact .inr rfl | assumption) : wpAny M A (storeName X.env x u) Q E s :=
  store_ok2 I hN hi hx r (fun s' I' _ => h s' I') hf
/-- behind a call or a block, the state as it is -/
theorem Inv.call' {s' : Shared} {ch : List Addr} (I : Inv X pins σ H s) (ho : s'.os = s.os) (u : Un (frs X.stack) ch H H' s.heap s'.heap) (hok : HOk X.prog X.w H' s'.heap) (hg : AllBare s'.gens)
    (hch : ∀ b ∈ ch, (b ∈ X.ex ∨ X.s_0.heap.objs.size ≤ b) ∧ b ≠ X.env.locals ∧ (∀ x c, X.env.cells.lookup x = some c → c ≠ b) ∧ ∀ p ∈ X.pn ++ pins, p.1 ≠ b) : Inv X pins σ H' s' := by
  obtain ⟨h', g', d', t', o'⟩ := s'
  have e : o' = s.os := ho
  subst e
  exact I.call (g' := g') (t' := t') (d' := d') u hok hg hch
end

/-- an exception: its class, its own dict's address (where it has one), the abstract heap behind it -/
abbrev XK := Value → Option Addr → Hp → Prop
abbrev St := List (Option V)
abbrev VK := V → Hp → Prop
/-- an expression's reading; a test's; an argument list's -/
abbrev TE := St → Hp → VK → Prop
abbrev TT := St → Hp → (Bool → Hp → Prop) → Prop
abbrev TA := St → Hp → (List V → Hp → Prop) → Prop
/-- what is wanted behind a statement -/
structure Ends where
  nx : St → Hp → Prop
  rt : VK
  bk : St → Hp → Prop := fun _ _ => False
  ct : St → Hp → Prop := fun _ _ => False
abbrev TS := Ends → St → Hp → Prop

def EP (X : Cx) (pins : List (Addr × Obj)) (σ : St) (Q : VK) (u : Value) (s' : Shared) : Prop := ∃ v H', Inv X pins σ H' s' ∧ RelV v u ∧ Q v H'
def TP (X : Cx) (pins : List (Addr × Obj)) (σ : St) (Q : Bool → Hp → Prop) (b : Bool) (s' : Shared) : Prop := ∃ H', Inv X pins σ H' s' ∧ Q b H'
def AP (X : Cx) (pins : List (Addr × Obj)) (σ : St) (Q : List V → Hp → Prop) (us : List Value) (s' : Shared) : Prop := ∃ vs H', Inv X pins σ H' s' ∧ Vals vs us ∧ Q vs H'
def SP (X : Cx) (pins : List (Addr × Obj)) (D : Ends) (f : Flow) (s' : Shared) : Prop :=
  match f with
  | .next => ∃ σ' H', Inv X pins σ' H' s' ∧ D.nx σ' H'
  | .brk => ∃ σ' H', Inv X pins σ' H' s' ∧ D.bk σ' H'
  | .cont => ∃ σ' H', Inv X pins σ' H' s' ∧ D.ct σ' H'
  | .ret u => ∃ v σ' H', Inv X pins σ' H' s' ∧ RelV v u ∧ D.rt v H'

def PE (X : Cx) (e : Expr) (t : TE) : Prop :=
  ∀ (pins : List (Addr × Obj)) (s : Shared) (σ : St) (H : Hp) (Q : VK), Inv X pins σ H s → t σ H Q → wpAny (model X.prog X.w) X.A (eval e X.env) (EP X pins σ Q) X.xe s
def PT (X : Cx) (e : Expr) (t : TT) : Prop :=
  ∀ (pins : List (Addr × Obj)) (s : Shared) (σ : St) (H : Hp) (Q : Bool → Hp → Prop), Inv X pins σ H s → t σ H Q → wpAny (model X.prog X.w) X.A (isTrue e X.env (eval e X.env)) (TP X pins σ Q) X.xe s
/-- a test whatever its 'whole' is (and, or) -/
def PW (X : Cx) (e : Expr) (t : TT) : Prop :=
  ∀ (whole : Sem Value) (pins : List (Addr × Obj)) (s : Shared) (σ : St) (H : Hp) (Q : Bool → Hp → Prop), Inv X pins σ H s → t σ H Q → wpAny (model X.prog X.w) X.A (isTrue e X.env whole) (TP X pins σ Q) X.xe s
theorem PW.pt {X : Cx} {e : Expr} {t : TT} (h : PW X e t) : PT X e t := h _
/-- an argument list (no star), from the left -/
def PA (X : Cx) (es : List Expr) (t : TA) : Prop :=
  ∀ (pos : Pos) (pins : List (Addr × Obj)) (s : Shared) (σ : St) (H : Hp) (Q : List V → Hp → Prop), Inv X pins σ H s → t σ H Q → wpAny (model X.prog X.w) X.A (spliced (backTo pos (starEach es X.env))) (AP X pins σ Q) X.xe s
def PS (X : Cx) (st : Stmt) (t : TS) : Prop :=
  ∀ (pins : List (Addr × Obj)) (s : Shared) (σ : St) (H : Hp) (D : Ends), Inv X pins σ H s → t D σ H → wpAny (model X.prog X.w) X.A (exec st X.env) (SP X pins D) X.xe s
def PSs (X : Cx) (st : List Stmt) (t : TS) : Prop :=
  ∀ (pins : List (Addr × Obj)) (s : Shared) (σ : St) (H : Hp) (D : Ends), Inv X pins σ H s → t D σ H → wpAny (model X.prog X.w) X.A (execs st X.env) (SP X pins D) X.xe s
/-- weaken the end -/
theorem thn {α : Type} {t : Sem α} {Q Q' : α → Shared → Prop} {M : Model} {A : Around} {E : Value → Shared → Prop} {s : Shared} (h : wpAny M A t Q E s) (hQ : ∀ a s, Q a s → Q' a s) : wpAny M A t Q' E s := wpAny_mono h hQ fun _ _ x => x
end L2

namespace L2
open PySem PySem.Spec PyProof.Rows
section
variable {X : Cx}

def tVar (i : Nat) : TE := fun σ H Q => ∃ v, σ[i]? = some (some v) ∧ Q v H
def tC (v : V) : TE := fun _ H Q => Q v H
theorem pe_var {i : Nat} {x : Str} {pos : Pos} (hN : X.N[i]? = some x) (hv : Vis X.env.scope x) (hd : (x == ("__debug__" : Str)) = false := by decide) (hcd : (x == ("__classdict__" : Str)) = false := by decide) : PE X (.Name x pos) (tVar i) := by
  intro pins s σ H Q I h
  obtain ⟨v, e, h⟩ := h
  obtain ⟨m, hn, hl⟩ := I.loc
  obtain ⟨u, r, l⟩ := hl i x v hN e hv
  have fin : EP X pins σ Q u s := ⟨v, H, I, r, h⟩
  rcases l with ⟨hk, hm⟩ | ⟨hk, c, hc, hcell⟩
  · exact wpAny_Name (wpAny_loadName_local I.ok.kind hk hn hm fin) hd
  · rcases hk with hk | hk
    · exact wpAny_Name (wpAny_loadName_cell I.ok.kind hk hc hcell fin) hd
    · exact wpAny_Name (wpAny_loadName_free I.ok.kind hk hc hcell fin hcd) hd
theorem pe_int {i j pos} : PE X (.Constant (.int i) j pos) (tC (.int i)) := fun _ _ _ H _ I h => wpAny_Constant_int ⟨.int i, H, I.tok _, ⟨_, rfl⟩, h⟩
theorem pe_bl {b j pos} : PE X (.Constant (.bool b) j pos) (tC (.bl b)) := fun _ _ _ H _ I h => Constant_bool ⟨.bl b, H, I, rfl, h⟩
theorem pe_non {j pos} : PE X (.Constant .none j pos) (tC .non) := fun _ _ _ H _ I h => Constant_none ⟨.non, H, I, rfl, h⟩

/-- a global name of the def -/
def Gl (X : Cx) (x : Str) : Prop := X.env.kindOf x = some .globalImplicit
theorem ld_glob {E : Value → Shared → Prop} {pins : List (Addr × Obj)} {s : Shared} {σ : St} {H : Hp} {x : Str} {u : Value} {pos : Pos} {Q : Value → Shared → Prop} (I : Inv X pins σ H s) (hg : Gl X x) (hm : X.mg x = some u) (h : Q u s)
    (hd : (x == ("__debug__" : Str)) = false := by decide) : wpAny (model X.prog X.w) X.A (eval (.Name x pos) X.env) Q E s :=
  Calls.Name_function_global I.ok.kind hg (Calls.loadGlobal_global (by rw [I.ok.glob]; exact I.mod.glob.keeps I.bk) hm h) hd
theorem ld_blt {E : Value → Shared → Prop} {pins : List (Addr × Obj)} {s : Shared} {σ : St} {H : Hp} {x : Str} {u : Value} {pos : Pos} {Q : Value → Shared → Prop} (I : Inv X pins σ H s) (hg : Gl X x) (hm : X.mg x = none) (hv : bootBuiltins x = some u) (h : Q u s)
    (hn : x ≠ "__name__" := by decide) (hd : (x == ("__debug__" : Str)) = false := by decide) : wpAny (model X.prog X.w) X.A (eval (.Name x pos) X.env) Q E s := by
  obtain ⟨mb, h1, h2⟩ := I.mod.blt
  exact Calls.Name_function_global I.ok.kind hg (Calls.loadGlobal_builtin (by rw [I.ok.glob]; exact I.mod.glob.keeps I.bk) hm (by rw [I.ok.blt]; exact h1.keeps I.bk) ((h2 x hn).trans hv) h) hd
/-- a module's constant, a class, a function, as a value -/
theorem pe_glob {x : Str} {v : V} {u : Value} {pos : Pos} (hg : Gl X x) (hm : X.mg x = some u) (r : RelV v u) (hd : (x == ("__debug__" : Str)) = false := by decide) : PE X (.Name x pos) (tC v) :=
  fun _ _ _ H _ I h => ld_glob I hg hm ⟨v, H, I, r, h⟩ hd

variable {a b : Expr} {ta tb : TE} {pos : Pos}

def PC (X : Cx) (op : CmpOp) (a b : Expr) (t : TE) : Prop :=
  ∀ (pins : List (Addr × Obj)) (s : Shared) (σ : St) (H : Hp) (Q : VK), Inv X pins σ H s → t σ H Q →
    wpAny (model X.prog X.w) X.A (eval a X.env) (fun v s₁ => wpAny (model X.prog X.w) X.A (eval b X.env) (fun u s₂ => wpAny (model X.prog X.w) X.A (compareOp op v u) (EP X pins σ Q) X.xe s₂) X.xe s₁) X.xe s
theorem nobehind (b : Expr) {op : CmpOp} (h : op ≠ .In) (h2 : op ≠ .NotIn) : behindInMarks op b = false := by
  have e1 : (op == CmpOp.In) = false := by cases op <;> first | rfl | exact absurd rfl h
  have e2 : (op == CmpOp.NotIn) = false := by cases op <;> first | rfl | exact absurd rfl h2
  cases b <;> simp [behindInMarks, e1, e2]
/-- is None -/
def tIsN (ta : TE) : TE := fun σ H Q => ta σ H fun x H1 => Q (.bl (decide (x = .non))) H1
theorem RelV.none_iff {x : V} {v : Value} (r : RelV x v) : (v == Value.none) = decide (x = .non) := by
  cases x with
  | non => cases r; rfl
  | bl _ => cases r; rfl
  | int _ => obtain ⟨t, rfl⟩ := r; rfl
  | str _ => obtain ⟨t, rfl⟩ := r; rfl
  | byt _ => obtain ⟨t, rfl⟩ := r; rfl
  | flt _ => obtain ⟨t, rfl⟩ := r; rfl
  | ref _ => cases r; rfl
  | ty _ => cases r; rfl
theorem pc_isN {j pos'} (ha : PE X a ta) : PC X .Is a (.Constant .none j pos') (tIsN ta) := by
  intro pins s σ H Q I h
  refine thn (ha pins s σ H _ I h) fun v s1 ⟨x, H1, I1, r1, q1⟩ => ?_
  exact Constant_none (is_none_gen ⟨.bl _, H1, I1, by rw [r1.none_iff]; rfl, q1⟩)
/-- a comparison as a value, as a test -/
def tB (t : TE) : TT := fun σ H Q => t σ H fun x H1 => ∃ c, x = .bl c ∧ Q c H1
theorem pt_cmp {op : CmpOp} {t : TE} (h : PC X op a b t) (h1 : behindInMarks op b = false := by first | exact nobehind _ (by decide) (by decide) | rfl) : PT X (.Compare a [op] [b] pos) (tB t) := by
  intro pins s σ H Q I hw
  refine wpAny_isTrue_Compare1 (thn (h pins s σ H _ I hw) fun v s1 h1 => thn h1 fun u s2 h2 => thn h2 fun c s3 ⟨x, H1, I1, r1, q1⟩ => ?_) h1
  obtain ⟨d, rfl, q⟩ := q1
  cases r1
  exact wpAny_truthy_bool ⟨H1, I1, q⟩
/-- an expression whose value is a bool, as a test -/
theorem pt_val {e : Expr} {t : TE} (h : PE X e t) (he : ∀ whole, isTrue e X.env whole = (do let v ← whole; standAt e.pos; holding [v] (truthy v)) := by intro _; rfl) : PT X e (tB t) := by
  intro pins s σ H Q I hw
  refine isTrue_plain (thn (h pins s σ H _ I hw) fun v s1 ⟨x, H1, I1, r1, q1⟩ => ?_) (he _)
  obtain ⟨d, rfl, q⟩ := q1
  cases r1
  exact wpAny_truthy_bool ⟨H1, I1, q⟩

variable {tA tB' : TT} {rest : List Expr}
def tOr (t u : TT) : TT := fun σ H Q => t σ H fun c H1 => if c = true then Q true H1 else u σ H1 Q
def tNot (t : TT) : TT := fun σ H Q => t σ H fun c H1 => Q (!c) H1
theorem pw_or1 (ha : PT X a tA) : PW X (.BoolOp .Or [a] pos) tA := by
  intro wh pins s σ H Q I h
  refine isTrue_or (thn (ha pins s σ H Q I h) fun c s1 e => ?_)
  cases c with
  | false => exact isTrue_or_nil e
  | true => exact e
theorem pw_or (ha : PT X a tA) (hb : PW X (.BoolOp .Or (b :: rest) pos) tB') : PW X (.BoolOp .Or (a :: b :: rest) pos) (tOr tA tB') := by
  intro wh pins s σ H Q I h
  refine isTrue_or (thn (ha pins s σ H _ I h) fun c s1 ⟨H1, I1, q1⟩ => ?_)
  cases c with
  | true => exact ⟨H1, I1, q1⟩
  | false => exact hb wh pins s1 σ H1 Q I1 q1
theorem pt_not (ha : PT X a tA) : PT X (.UnaryOp .Not a pos) (tNot tA) := by
  intro pins s σ H Q I h
  exact isTrue_not (ha pins s σ H (fun c H1 => Q (!c) H1) I h)
/-- .. as values (bools) -/
def tAndV (ta tb : TE) : TE := fun σ H Q => ta σ H fun x H1 => ∃ c, x = .bl c ∧ if c = true then tb σ H1 Q else Q (.bl false) H1
theorem pe_one {op} {t : TE} (h : PE X a t) : PE X (.BoolOp op [a] pos) t := fun pins s σ H Q I hw => BoolOp_one (h pins s σ H Q I hw)
theorem pe_and (ha : PE X a ta) (hb : PE X (.BoolOp .And (b :: rest) pos) tb) : PE X (.BoolOp .And (a :: b :: rest) pos) (tAndV ta tb) := by
  intro pins s σ H Q I h
  refine BoolOp_and (thn (ha pins s σ H _ I h) fun v s1 ⟨x, H1, I1, r1, q1⟩ => ?_)
  obtain ⟨c, rfl, q1⟩ := q1
  cases r1
  refine wpAny_truthy_bool ?_
  cases c with
  | true => exact hb pins s1 σ H1 Q I1 q1
  | false => exact ⟨.bl false, H1, I1, rfl, q1⟩
/-- a if t else b -/
def tIf (t : TT) (ta tb : TE) : TE := fun σ H Q => t σ H fun c H1 => if c = true then ta σ H1 Q else tb σ H1 Q
theorem pe_ifExp {c : Expr} (hc : PT X c tA) (ha : PE X a ta) (hb : PE X b tb) : PE X (.IfExp c a b pos) (tIf tA ta tb) := by
  intro pins s σ H Q I h
  refine wpAny_IfExp (thn (hc pins s σ H _ I h) fun d s1 ⟨H1, I1, q1⟩ => ?_)
  cases d with
  | true => exact ha pins s1 σ H1 Q I1 q1
  | false => exact hb pins s1 σ H1 Q I1 q1
end
end L2

namespace L2
open PySem PySem.Spec PyProof.Rows

def SqL (K : PySem.W.Frag) (H : Hp) (a : Addr) (xs : List V) : Prop :=
  Rd H a (.lst xs) ∨
    ∃ (o : Obj) (its : Array Value) (n : Nat), K.lookup a = some o ∧ o.cls = .type "list" ∧ o.dict = none ∧ o.data = .seq its n ∧ its.size ≤ sizeLine ∧ Vals xs its.toList
def SqT (K : PySem.W.Frag) (H : Hp) (a : Addr) (xs : List V) : Prop :=
  Rd H a (.tup xs) ∨
    ∃ (o : Obj) (its : Array Value) (n : Nat), K.lookup a = some o ∧ o.cls = .type "tuple" ∧ o.data = .seq its n ∧ its.size ≤ sizeLine ∧ Vals xs its.toList
def absV : Value → Option V
  | .none => some .non
  | .bool b => some (.bl b)
  | .int i _ => some (.int i)
  | .str x _ => some (.str x)
  | .bytes b _ => some (.byt b)
  | .float b _ => some (.flt b)
  | .ref a => some (.ref a)
  | .type n => some (.ty n)
  | _ => none
theorem RelV.abs {x : V} {u : Value} (r : RelV x u) : absV u = some x := by
  cases x with
  | non => cases r; rfl
  | bl _ => cases r; rfl
  | int _ => obtain ⟨t, rfl⟩ := r; rfl
  | str _ => obtain ⟨t, rfl⟩ := r; rfl
  | byt _ => obtain ⟨t, rfl⟩ := r; rfl
  | flt _ => obtain ⟨t, rfl⟩ := r; rfl
  | ref _ => cases r; rfl
  | ty _ => cases r; rfl
theorem RelV.inj {x y : V} {u : Value} (r : RelV x u) (q : RelV y u) : x = y := Option.some.inj (r.abs.symm.trans q.abs)
theorem Vals.inj : ∀ {xs ys : List V} {us : List Value}, Vals xs us → Vals ys us → xs = ys
  | _, _, _, .nil, .nil => rfl
  | _, _, _, .cons r t, .cons r' t' => by rw [r.inj r', Vals.inj t t']
section
variable {X : Cx} {pins : List (Addr × Obj)} {σ : St} {H : Hp} {s : Shared} {a : Addr} {xs ys : List V}
theorem SqL.of {K : PySem.W.Frag} (h : H a = some (.lst xs)) : SqL K H a xs := .inl (.inl h)
theorem Inv.list (I : Inv X pins σ H s) (h : SqL X.K H a xs) : ∃ its : List Value, Vals xs its ∧ PlainL s.heap a its.toArray ∧ xs.length ≤ sizeLine := by
  rcases h with h | ⟨o, its, n, hk, hc, hd, hs, hz, r⟩
  · obtain ⟨z, its, n, r, e⟩ := h.ok I.hok
    exact ⟨its, r, ⟨_, n, e, rfl, rfl, rfl⟩, z⟩
  · refine ⟨its.toList, r, ⟨o, n, I.kIn a o hk, hc, hd, by simpa using hs⟩, ?_⟩
    have e := r.length
    simp only [Array.length_toList] at e
    omega
theorem Inv.tuple (I : Inv X pins σ H s) (h : SqT X.K H a xs) : ∃ its : List Value, Vals xs its ∧ IsTup s.heap a its.toArray ∧ xs.length ≤ sizeLine := by
  rcases h with h | ⟨o, its, n, hk, hc, hs, hz, r⟩
  · obtain ⟨z, its, r, p⟩ := h.ok I.hok
    exact ⟨its, r, p, z⟩
  · refine ⟨its.toList, r, ⟨o, I.kIn a o hk, hc, n, by simpa using hs⟩, ?_⟩
    have e := r.length
    simp only [Array.length_toList] at e
    omega
theorem Inv.list_inj (I : Inv X pins σ H s) (h : SqL X.K H a xs) (h' : SqL X.K H a ys) : xs = ys := by
  obtain ⟨its, r, ⟨o, n, e, _, _, d⟩, _⟩ := I.list h
  obtain ⟨its', r', ⟨o', n', e', _, _, d'⟩, _⟩ := I.list h'
  rw [e] at e'; cases e'
  rw [d] at d'
  injection d' with d1 _
  have : its = its' := by simpa using congrArg Array.toList d1
  subst this
  exact r.inj r'
end

abbrev Cx.wish (X : Cx) (E : Value → Shared → Prop) : Cx := { X with xe := E }
/-- no exception leaves -/
abbrev Cx.nox (X : Cx) : Cx := X.wish fun _ _ => False
theorem Cx.Ok.wish {X : Cx} (ok : X.Ok) (E : Value → Shared → Prop) : (X.wish E).Ok :=
  ⟨ok.mod, ok.kind, ok.glob, ok.blt, ok.above, ok.inj, ok.has, ok.cab, ok.hd, ok.frames, ok.stk, ok.exf, ok.bs, ok.bsz, ok.noex, ok.exfs, ok.funs, ok.frf⟩
theorem Cx.Ok.unwish {X : Cx} {E : Value → Shared → Prop} (ok : (X.wish E).Ok) : X.Ok :=
  ⟨ok.mod, ok.kind, ok.glob, ok.blt, ok.above, ok.inj, ok.has, ok.cab, ok.hd, ok.frames, ok.stk, ok.exf, ok.bs, ok.bsz, ok.noex, ok.exfs, ok.funs, ok.frf⟩
section
variable {X : Cx} {pins : List (Addr × Obj)} {σ : St} {H : Hp} {s : Shared} {E : Value → Shared → Prop}
theorem Inv.wish (I : Inv X pins σ H s) (E : Value → Shared → Prop) : Inv (X.wish E) pins σ H s := ⟨I.ok.wish E, I.os, I.bare, I.base, I.loc, I.cell, I.free, I.freeC, I.pin, I.hok, I.len⟩
theorem Inv.unwish (I : Inv (X.wish E) pins σ H s) : Inv X pins σ H s := ⟨I.ok.unwish, I.os, I.bare, I.base, I.loc, I.cell, I.free, I.freeC, I.pin, I.hok, I.len⟩
theorem SP.unwish {D : Ends} {f : Flow} {s' : Shared} (h : SP (X.wish E) pins D f s') : SP X pins D f s' := by
  cases f with
  | next => obtain ⟨σ', H', I, q⟩ := h; exact ⟨σ', H', I.unwish, q⟩
  | brk => obtain ⟨σ', H', I, q⟩ := h; exact ⟨σ', H', I.unwish, q⟩
  | cont => obtain ⟨σ', H', I, q⟩ := h; exact ⟨σ', H', I.unwish, q⟩
  | ret u => obtain ⟨v, σ', H', I, r, q⟩ := h; exact ⟨v, σ', H', I.unwish, r, q⟩
theorem PSs.nox {st : List Stmt} {t : TS} (h : PSs X.nox st t) : PSs X st t := fun pins s σ H D I hw =>
  wpAny_mono (h pins s σ H D (I.wish _) hw) (fun _ _ q => q.unwish) fun _ _ z => False.elim z
end

section
variable {X : Cx} {st : Stmt} {rest : List Stmt} {t u : TS} {e : Expr} {te : TE} {pos : Pos}
def tNext : TS := fun D σ H => D.nx σ H
def tSeq (t u : TS) : TS := fun D σ H => t { D with nx := u D } σ H
theorem pss_nil : PSs X [] tNext := fun _ _ σ H _ I h => wpAny_execs_nil ⟨σ, H, I, h⟩
theorem pss_cons (h1 : PS X st t) (h2 : PSs X rest u) : PSs X (st :: rest) (tSeq t u) := by
  intro pins s σ H D I h
  refine wpAny_execs_cons (thn (h1 pins s σ H { D with nx := u D } I h) fun f s1 q => ?_)
  cases f with
  | next =>
    obtain ⟨σ', H', I', q⟩ := q
    exact h2 pins s1 σ' H' D I' q
  | ret v => exact q
  | brk => exact q
  | cont => exact q
theorem pss_one (h1 : PS X st t) : PSs X [st] t := by
  intro pins s σ H D I h
  refine wpAny_execs_cons (thn (h1 pins s σ H D I h) fun f s1 q => ?_)
  cases f with
  | next => exact wpAny_execs_nil q
  | ret v => exact q
  | brk => exact q
  | cont => exact q
/-- in a def's body nothing is shown -/
theorem Inv.quiet {pins : List (Addr × Obj)} {σ : St} {H : Hp} {s : Shared} (I : Inv X pins σ H s) : interactive X.env = false := by simp [interactive, I.ok.kind]
/-- an expression whose value is dropped -/
def tDrop (te : TE) : TS := fun D σ H => te σ H fun _ H1 => D.nx σ H1
theorem ps_expr (he : PE X e te) (hs : swapsWith e none pos.line X.env = pure false := by rfl) : PS X (.Expr e pos) (tDrop te) := by
  intro pins s σ H D I h
  exact wpAny_Expr_any (thn (he pins s σ H _ I h) fun v s1 ⟨x, H1, I1, r1, q1⟩ => ⟨σ, H1, I1, q1⟩) I.quiet hs
def tRet (te : TE) : TS := fun D σ H => te σ H D.rt
theorem ps_ret (he : PE X e te) : PS X (.Return (some e) pos) (tRet te) := by
  intro pins s σ H D I h
  exact wpAny_Return_some (thn (he pins s σ H _ I h) fun v s1 ⟨x, H1, I1, r1, q1⟩ => ⟨x, σ, H1, I1, r1, q1⟩)
def tIfS (c : TT) (t u : TS) : TS := fun D σ H => c σ H fun b H1 => if b = true then t D σ H1 else u D σ H1
theorem ps_if {c : Expr} {a b : List Stmt} {tc : TT} (hc : PT X c tc) (ha : PSs X a t) (hb : PSs X b u) : PS X (.If c a b pos) (tIfS tc t u) := by
  intro pins s σ H D I h
  refine wpAny_If (thn (hc pins s σ H _ I h) fun d s1 ⟨H1, I1, q1⟩ => ?_)
  cases d with
  | true => exact ha pins s1 σ H1 D I1 q1
  | false => exact hb pins s1 σ H1 D I1 q1
/-- code that the proof never comes to -/
def tNever : TS := fun _ _ _ => False
theorem ps_never : PS X st tNever := fun _ _ _ _ _ _ h => h.elim
end

abbrev TG := V → St → Hp → (St → Hp → Prop) → Prop
def PG (X : Cx) (target : Expr) (t : TG) : Prop :=
  ∀ (pins : List (Addr × Obj)) (s : Shared) (σ : St) (H : Hp) (v : V) (u : Value) (Q : St → Hp → Prop), Inv X pins σ H s → RelV v u → t v σ H Q →
    wpAny (model X.prog X.w) X.A (assign target X.env u) (fun _ s' => ∃ σ' H', Inv X pins σ' H' s' ∧ Q σ' H') X.xe s
/-- o[i] = v, by values -/
abbrev TSet := V → V → V → Hp → (Hp → Prop) → Prop
def PSet (X : Cx) (t : TSet) : Prop :=
  ∀ (pins : List (Addr × Obj)) (s : Shared) (σ : St) (H : Hp) (o i v : V) (ov iv u : Value) (Q : Hp → Prop), Inv X pins σ H s → RelV o ov → RelV i iv → RelV v u → t o i v H Q →
    wpAny (model X.prog X.w) X.A (setItem ov iv u) (fun _ s' => ∃ H', Inv X pins σ H' s' ∧ Q H') X.xe s
/-- a op= b, by values -/
abbrev TIp := V → V → Hp → VK → Prop
def PIp (X : Cx) (op : Operator) (t : TIp) : Prop :=
  ∀ (pins : List (Addr × Obj)) (s : Shared) (σ : St) (H : Hp) (x y : V) (v u : Value) (Q : VK), Inv X pins σ H s → RelV x v → RelV y u → t x y H Q →
    wpAny (model X.prog X.w) X.A (inplaceOp op v u) (EP X pins σ Q) X.xe s
section
variable {X : Cx} {pos : Pos}
def gName (i : Nat) : TG := fun v σ H Q => Q (σ.set i (some v)) H
theorem pg_name {i : Nat} {x : Str} (hN : X.N.Nodup) (hi : X.N[i]? = some x) (hx : Loc X.env.scope x) (hf : X.fn x = true ∨ X.env.scope.names.lookup x = some .local := by first | exact .inl rfl | exact .inr rfl | assumption) : PG X (.Name x pos) (gName i) := by
  intro pins s σ H v u Q I r h
  exact wpAny_assign_Name (store_ok I hN hi hx r (fun s' I' => ⟨_, H, I', h⟩) hf)
/-- o[i] = .. -/
def gSub (to ti : TE) (t : TSet) : TG := fun v σ H Q => to σ H fun o H1 => ti σ H1 fun i H2 => t o i v H2 fun H3 => Q σ H3
theorem pg_sub {o i : Expr} {to ti : TE} {t : TSet} (ho : PE X o to) (hi : PE X i ti) (hs : PSet X t)
    (ha : ∀ v, assign (.Subscript o i pos) X.env v = (do
      let ov ← holding [v] (eval o X.env)
      let iv ← holding [v, ov] (eval i X.env)
      standAt pos
      holding [v, ov, iv] (setItem ov iv v)
      release [v, ov, iv] []) := by intro _; rfl) : PG X (.Subscript o i pos) (gSub to ti t) := by
  intro pins s σ H v u Q I r h
  rw [ha]
  refine wpAny_bind (wpAny_holding (thn (ho pins s σ H _ I h) fun ov s1 ⟨x, H1, I1, r1, q1⟩ => ?_))
  refine wpAny_bind (wpAny_holding (thn (hi pins s1 σ H1 _ I1 q1) fun iv s2 ⟨y, H2, I2, r2, q2⟩ => ?_))
  refine wpAny_bind (wpAny_standAt (wpAny_bind (wpAny_holding (thn (hs pins s2 σ H2 x y v ov iv u _ I2 r1 r2 r q2) fun _ s3 ⟨H3, I3, q3⟩ => ?_))))
  exact wpAny_release ⟨σ, H3, I3, q3⟩
/-- target = value -/
def tAsg (te : TE) (g : TG) : TS := fun D σ H => te σ H fun x H1 => g x σ H1 D.nx
theorem ps_asg {tg e : Expr} {te : TE} {g : TG} (he : PE X e te) (hg : PG X tg g) (hs : swapsWithSole [tg] e pos.line X.env = pure false := by rfl) (hw : swappedStores [tg] e X.env = pure none := by rfl)
    (h1 : (assignEach [tg] X.env).map (·.2) = [assign tg X.env] := by rfl) : PS X (.Assign [tg] e pos) (tAsg te g) := by
  intro pins s σ H D I h
  refine wpAny_Assign_stores (thn (he pins s σ H _ I h) fun v s1 ⟨x, H1, I1, r1, q1⟩ => ?_) hs hw
  rw [h1]
  exact thn (hg pins s1 σ H1 x v _ I1 r1 q1) fun _ s2 q => q
/-- name = value -/
theorem ps_set {i : Nat} {x : Str} {e : Expr} {te : TE} {pos' : Pos} (hN : X.N.Nodup) (hi : X.N[i]? = some x) (hx : Loc X.env.scope x) (he : PE X e te) (hs : swapsWith e (some (.Name x pos')) pos.line X.env = pure false := by rfl) (hf : X.fn x = true ∨ X.env.scope.names.lookup x = some .local := by first | exact .inl rfl | exact .inr rfl | assumption) :
    PS X (.Assign [.Name x pos'] e pos) (tAsg te (gName i)) := by
  intro pins s σ H D I h
  refine wpAny_Assign_Name (thn (he pins s σ H _ I h) fun v s1 ⟨y, H1, I1, r1, q1⟩ => ?_) hs
  exact store_ok I1 hN hi hx r1 (fun s2 I2 => ⟨_, H1, I2, q1⟩) hf
/-- name op= e -/
def tAug (i : Nat) (te : TE) (ti : TIp) : TS := fun D σ H => ∃ x, σ[i]? = some (some x) ∧ te σ H fun y H1 => ti x y H1 fun z H2 => D.nx (σ.set i (some z)) H2
theorem ps_aug {i : Nat} {x : Str} {e : Expr} {te : TE} {op : Operator} {ti : TIp} {pos' : Pos} (hN : X.N.Nodup) (hi : X.N[i]? = some x) (hx : Loc X.env.scope x) (he : PE X e te) (ho : PIp X op ti) (hf : X.fn x = true ∨ X.env.scope.names.lookup x = some .local := by first | exact .inl rfl | exact .inr rfl | assumption) :
    PS X (.AugAssign (.Name x pos') op e pos) (tAug i te ti) := by
  intro pins s σ H D I h
  obtain ⟨v, e1, h⟩ := h
  obtain ⟨m, hn, hl⟩ := I.loc
  have vis : Vis X.env.scope x := by rcases hx with k | k; exact .inl k; exact .inr (.inl k)
  obtain ⟨u, r, l⟩ := hl i x v hi e1 vis
  refine wpAny_AugAssign_Name ?_
  have go : wpAny (model X.prog X.w) X.A (eval e X.env) (fun w s₂ => wpAny (model X.prog X.w) X.A (inplaceOp op u w) (fun r s₃ => wpAny (model X.prog X.w) X.A (storeName X.env x r) (fun _ => SP X pins D .next) X.xe s₃) X.xe s₂) X.xe s := by
    refine thn (he pins s σ H _ I h) fun w s1 ⟨y, H1, I1, r1, q1⟩ => ?_
    refine thn (ho pins s1 σ H1 v y u w _ I1 r r1 q1) fun z s2 ⟨zv, H2, I2, r2, q2⟩ => ?_
    exact store_ok I2 hN hi hx r2 (fun s3 I3 => ⟨_, H2, I3, q2⟩) hf
  rcases l with ⟨hk, hm⟩ | ⟨hk, c, hc, hcell⟩
  · exact wpAny_loadName_local I.ok.kind hk hn hm go
  · rcases hk with hk | hk
    · exact wpAny_loadName_cell I.ok.kind hk hc hcell go
    · rcases hx with k | k
      · have : X.env.scope.names.lookup x = some .free := hk
        rw [k] at this; cases this
      · have : X.env.scope.names.lookup x = some .free := hk
        rw [k] at this; cases this
/-- o[i] op= e -/
def tAugS (to ti te : TE) (tget : V → V → Hp → VK → Prop) (tip : TIp) (tset : TSet) : TS := fun D σ H => to σ H fun o H1 => ti σ H1 fun i H2 => tget o i H2 fun x H3 => te σ H3 fun y H4 => tip x y H4 fun z H5 => tset o i z H5 fun H6 => D.nx σ H6
/-- o[i], by values -/
def PGet (X : Cx) (t : V → V → Hp → VK → Prop) : Prop :=
  ∀ (pins : List (Addr × Obj)) (s : Shared) (σ : St) (H : Hp) (o i : V) (ov iv : Value) (Q : VK), Inv X pins σ H s → RelV o ov → RelV i iv → t o i H Q →
    wpAny (model X.prog X.w) X.A (getItem ov iv) (EP X pins σ Q) X.xe s
theorem ps_augS {o i e : Expr} {to ti te : TE} {tget : V → V → Hp → VK → Prop} {tip : TIp} {tset : TSet} {op : Operator} {tpos : Pos} (ho : PE X o to) (hi : PE X i ti) (hg : PGet X tget) (he : PE X e te) (hp : PIp X op tip) (hs : PSet X tset)
    (ha : ∀ ov iv new, augStore i ov iv new = (do holding [new, ov, iv] (setItem ov iv new); release [new, ov, iv] []; pure .next) := by intros; rfl) : PS X (.AugAssign (.Subscript o i tpos) op e pos) (tAugS to ti te tget tip tset) := by
  intro pins s σ H D I h
  refine wpAny_AugAssign_SubscriptAny (thn (ho pins s σ H _ I h) fun ov s1 ⟨x1, H1, I1, r1, q1⟩ => ?_) ha
  refine thn (hi pins s1 σ H1 _ I1 q1) fun iv s2 ⟨x2, H2, I2, r2, q2⟩ => ?_
  refine thn (hg pins s2 σ H2 x1 x2 ov iv _ I2 r1 r2 q2) fun old s3 ⟨x3, H3, I3, r3, q3⟩ => ?_
  refine thn (he pins s3 σ H3 _ I3 q3) fun v s4 ⟨x4, H4, I4, r4, q4⟩ => ?_
  refine thn (hp pins s4 σ H4 x3 x4 old v _ I4 r3 r4 q4) fun new s5 ⟨x5, H5, I5, r5, q5⟩ => ?_
  exact thn (hs pins s5 σ H5 x1 x2 x5 ov iv new _ I5 r1 r2 r5 q5) fun _ s6 ⟨H6, I6, q6⟩ => ⟨σ, H6, I6, q6⟩
/-- ints -/
def ipI (f : Int → Int → Int) : TIp := fun x y H Q => ∃ i j, x = .int i ∧ y = .int j ∧ Q (.int (f i j)) H
theorem ip_add : PIp X .Add (ipI fun i j => i + j) := by
  intro pins s σ H x y v u Q I r1 r2 h
  obtain ⟨i, j, e1, e2, q⟩ := h
  subst e1; subst e2
  obtain ⟨t, rfl⟩ := r1
  obtain ⟨t', rfl⟩ := r2
  exact iadd_int ⟨.int _, H, I.tok _, ⟨_, rfl⟩, q⟩
theorem ip_sub : PIp X .Sub (ipI fun i j => i - j) := by
  intro pins s σ H x y v u Q I r1 r2 h
  obtain ⟨i, j, e1, e2, q⟩ := h
  subst e1; subst e2
  obtain ⟨t, rfl⟩ := r1
  obtain ⟨t', rfl⟩ := r2
  exact isub_int ⟨.int _, H, I.tok _, ⟨_, rfl⟩, q⟩
end

section
variable {X : Cx} {pos : Pos}
/-- the invariant W with its measure -/
def tWhile (c : TT) (tb : TS) : TS := fun D σ H => ∃ W : Nat → St → Hp → Prop, (∃ m, W m σ H) ∧ ∀ m σ H, W m σ H →
  c σ H fun b H1 => if b = true then ∃ N : St → Hp → Prop, (∀ σ' H', N σ' H' → ∃ m', m' < m ∧ W m' σ' H') ∧ tb { D with nx := N, ct := N, bk := D.nx } σ H1 else D.nx σ H1
theorem ps_while {c : Expr} {body : List Stmt} {tc : TT} {tb : TS} (hp : PassesOwn (model X.prog X.w) X.A X.env X.xe) (hc : PT X c tc) (hb : PSs X body tb) : PS X (.While c body [] pos) (tWhile tc tb) := by
  intro pins s σ H D I h
  obtain ⟨W, ⟨m0, w0⟩, turn⟩ := h
  refine wpAny_While (codeAny_whileLoop (fun n s' => ∃ σ' H', Inv X pins σ' H' s' ∧ W n σ' H') ?_ m0 ⟨σ, H, I, w0⟩)
  rintro n s1 ⟨σ1, H1, I1, w1⟩
  refine wpAny_passesOwn hp (thn (hc pins s1 σ1 H1 _ I1 (turn n σ1 H1 w1)) fun b s2 ⟨H2, I2, q2⟩ => ?_)
  cases b with
  | true =>
    obtain ⟨N, hN, q2⟩ := q2
    rw [if_pos rfl]
    refine wpAny_passesOwn hp (thn (hb pins s2 σ1 H2 _ I2 q2) fun f s3 q3 => ?_)
    cases f with
    | next =>
      obtain ⟨σ3, H3, I3, n3⟩ := q3
      obtain ⟨m', hm, w3⟩ := hN σ3 H3 n3
      exact ⟨m', hm, σ3, H3, I3, w3⟩
    | cont =>
      obtain ⟨σ3, H3, I3, n3⟩ := q3
      obtain ⟨m', hm, w3⟩ := hN σ3 H3 n3
      exact ⟨m', hm, σ3, H3, I3, w3⟩
    | brk => exact q3
    | ret v => exact q3
  | false =>
    rw [if_neg Bool.false_ne_true]
    exact wpAny_execs_nil ⟨σ1, H2, I2, q2⟩
end

/-- at turn i: it yields x (the heap may grow), or it stops -/
structure It where
  go : Nat → Hp → Prop
  yld : Nat → Hp → V → Hp → Prop
  stop : Nat → Hp → Prop
/-- the iterator's own objects may turn: they are not the frame's, not pinned, younger than the entry (or a comprehension's own) -/
def FpOk (X : Cx) (pins : List (Addr × Obj)) (H : Hp) (b : Addr) : Prop :=
  H b = none ∧ b ≠ X.env.locals ∧ b ∉ X.fs ∧ (b ∈ X.ex ∨ X.s_0.heap.objs.size ≤ b) ∧ (∀ x c, X.env.cells.lookup x = some c → c ≠ b) ∧ ∀ p ∈ X.pn ++ pins, p.1 ≠ b
theorem Inv.fpOk {X : Cx} {pins : List (Addr × Obj)} {σ : St} {H H' : Hp} {s : Shared} {b : Addr} (I : Inv X pins σ H s) (hb : s.heap.objs.size ≤ b) (hn : H' b = none) : FpOk X pins H' b := by
  refine ⟨hn, Nat.ne_of_gt (Nat.lt_of_lt_of_le I.lt hb), I.nofs hb, .inr (Nat.le_trans I.sz hb), fun x c e z => ?_, fun p hp z => ?_⟩
  · obtain ⟨v, q⟩ := I.cell x c e
    exact absurd (Nat.lt_of_lt_of_le q.lt (by rw [z]; exact hb)) (Nat.lt_irrefl _)
  · exact absurd (Nat.lt_of_lt_of_le (Heap.lt_size (I.pin p hp).1) (by rw [z]; exact hb)) (Nat.lt_irrefl _)
structure Turn (P : Program) (w : World) (K : PySem.W.Frag) (tg : Expr) (J : It) (fp : List Addr) (it : Addr) (tn : Nat → Heap → Prop) : Prop where
  mem : it ∈ fp
  obj : ∀ i h, tn i h → ∀ b ∈ fp, ∃ o, h.get? b = some o ∧ ∀ v, o.data ≠ .cell v
  keep : ∀ i h h', tn i h → (∀ b ∈ fp, ∀ o, h.get? b = some o → h'.get? b = some o) → tn i h'
  item : ∀ (X : Cx), X.prog = P → X.w = w → X.K = K → X.calm = true → ∀ (i : Nat) (pins : List (Addr × Obj)) (s : Shared) (σ : St) (H : Hp) (E : Value → Shared → Prop), Inv X pins σ H s → (∀ b ∈ fp, FpOk X pins H b) → tn i s.heap → J.go i H →
    wpAny (model P w) X.A (pyNext (.ref it)) (fun r s1 => ∃ u, r = some u ∧
      wpAny (model P w) X.A (letOwnedTupleGo tg (.ref it) u) (fun _ s2 => ∃ x H', Inv X pins σ H' s2 ∧ RelV x u ∧ J.yld i H x H' ∧ tn (i + 1) s2.heap ∧ ∀ b ∈ fp, H' b = none) E s1) E s
  done : ∀ (X : Cx), X.prog = P → X.w = w → X.K = K → X.calm = true → ∀ (i : Nat) (pins : List (Addr × Obj)) (s : Shared) (σ : St) (H : Hp) (E : Value → Shared → Prop), Inv X pins σ H s → (∀ b ∈ fp, FpOk X pins H b) → tn i s.heap → J.stop i H →
    wpAny (model P w) X.A (pyNext (.ref it)) (fun r s1 => r = none ∧ Inv X pins σ H s1) E s
  self : ∀ (A : Around) (i : Nat) (s : Shared) (Q : Value → Shared → Prop) (E : Value → Shared → Prop), tn i s.heap → Q (.ref it) s → wpAny (model P w) A (pyIter (.ref it)) Q E s
abbrev TI := St → Hp → (It → Hp → Prop) → Prop
/-- an iterator has come -/
def PIE (X : Cx) (pins : List (Addr × Obj)) (σ : St) (tg : Expr) (R : It → Hp → Prop) (itv : Value) (s2 : Shared) : Prop :=
  ∃ (it : Addr) (fp : List Addr) (tn : Nat → Heap → Prop) (J : It) (H' : Hp), itv = .ref it ∧ Inv X pins σ H' s2 ∧ Turn X.prog X.w X.K tg J fp it tn ∧ tn 0 s2.heap ∧ (∀ b ∈ fp, FpOk X pins H' b) ∧ R J H'
def PI (X : Cx) (tg iter : Expr) (wi : TI) : Prop :=
  ∀ (pins : List (Addr × Obj)) (s : Shared) (σ : St) (H : Hp) (R : It → Hp → Prop), Inv X pins σ H s → wi σ H R →
    wpAny (model X.prog X.w) X.A (eval iter X.env) (fun v s1 => wpAny (model X.prog X.w) X.A (pyIter v) (PIE X pins σ tg R) X.xe s1) X.xe s

/-- the step ahead of the store is nothing for an iterator that keeps no tuple -/
theorem go_of {M : Model} {A : Around} {E : Value → Shared → Prop} {s : Shared} {tg : Expr} {it : Addr} {u : Value} {o : Obj} {n : String} {vs : Array Value} {Q : Unit → Shared → Prop} (ho : s.heap.get? it = some o) (hc : o.cls = .type n) (hd : o.data = .fields vs)
    (hn : ["enumerate", "zip", "dict_itemiterator", "dict_reverseitemiterator", "odict_iterator", "itertools.zip_longest", "itertools.pairwise"].contains n = false) (hQ : Q () s) : wpAny M A (letOwnedTupleGo tg (.ref it) u) Q E s := by
  unfold letOwnedTupleGo
  cases tg <;> first
    | exact wpAny_pure hQ
    | (cases u <;> first
        | exact wpAny_pure hQ
        | (refine wpAny_bind (wpAny_load ho ?_)
           rw [hc, hd]
           show wpAny M A (if (["enumerate", "zip", "dict_itemiterator", "dict_reverseitemiterator", "odict_iterator", "itertools.zip_longest", "itertools.pairwise"].contains n && vs[0]? == some (rawInt _)) = true then _ else _) Q E s
           rw [if_neg (by intro h; rw [hn, Bool.false_and] at h; cases h)]
           exact wpAny_pure hQ))

/-- the list at a, as it stands at each turn (a loop may append to it) -/
def Itl (K : PySem.W.Frag) (a : Addr) : It :=
  ⟨fun i H => ∃ xs x, SqL K H a xs ∧ xs[i]? = some x, fun i H x H' => H' = H ∧ ∀ xs, SqL K H a xs → xs[i]? = some x, fun i H => ∃ xs, SqL K H a xs ∧ xs.length ≤ i⟩
/-- lo, lo + 1, .. (n of them) -/
def Itr (lo : Int) (n : Nat) : It := ⟨fun i _ => i < n, fun i H x H' => H' = H ∧ x = .int (lo + i), fun i _ => n ≤ i⟩
theorem turn_list {P : Program} {w : World} {K : PySem.W.Frag} {tg : Expr} (a it : Addr) : Turn P w K tg (Itl K a) [it] it (fun i h => h.IsListIter it a i) where
  mem := by simp
  obj := fun i h st b hb => by
    have e : b = it := by simpa using hb
    subst e
    obtain ⟨o, e, c, d⟩ := st
    exact ⟨o, e, fun v z => by rw [d] at z; cases z⟩
  keep := fun i h h' st k => st.at fun o e => k it (by simp) o e
  item := by
    intro X hP hw hK hc i pins s σ H E I hf st hg
    subst hP hw hK
    obtain ⟨xs, x, hq, hx⟩ := hg
    obtain ⟨its, rv, p, hz⟩ := I.list hq
    obtain ⟨u, hu, ru⟩ := rv.get hx
    obtain ⟨f0, f1, f2, f3, f4, f5⟩ := hf it (by simp)
    refine wpAny_pyNext_list_item st p.isList (x := u) (by simpa using hu) fun h' st' sb => ?_
    have I1 : Inv X pins σ H { s with heap := h' } := I.turned (t' := s.toks) (fun b o hb e => (sb.2 b hb).trans e) f0 f1 f3 f4 f5
    obtain ⟨o, e, c, d⟩ := id st'
    exact ⟨u, rfl, go_of (s := { s with heap := h' }) e c d (by decide) ⟨x, H, I1, ru, ⟨rfl, fun ys hy => by rw [I.list_inj hy hq]; exact hx⟩, st', fun b hb => (hf b hb).1⟩⟩
  done := by
    intro X hP hw hK hc i pins s σ H E I hf st hg
    subst hP hw hK
    obtain ⟨xs, hq, hx⟩ := hg
    obtain ⟨its, rv, p, hz⟩ := I.list hq
    obtain ⟨f0, f1, f2, f3, f4, f5⟩ := hf it (by simp)
    have hl := rv.length
    exact wpAny_pyNext_list_end (I.ok.hd hc) st p.isList (by simp; omega) fun h' eb => ⟨rfl, I.turned (t' := s.toks) (fun b o hb e => eb b o hb e) f0 f1 f3 f4 f5⟩
  self := fun _ _ _ _ _ st h => wpAny_pyIter_listiter st h
theorem turn_range {P : Program} {w : World} {K : PySem.W.Frag} {tg : Expr} (it : Addr) (lo : Int) (n : Nat) : Turn P w K tg (Itr lo n) [it] it (fun i h => IsRangeIter h it (lo + (i : Nat) * 1) ((n : Int) - (i : Nat)) 1) where
  mem := by simp
  obj := fun i h st b hb => by
    have e : b = it := by simpa using hb
    subst e
    exact ⟨_, st, fun v z => by
      have z' : Data.fields _ = Data.cell v := z
      cases z'⟩
  keep := fun i h h' st k => k it (by simp) _ st
  item := by
    intro X hP hw hK hc i pins s σ H E I hf st hg
    subst hP hw hK
    obtain ⟨f0, f1, f2, f3, f4, f5⟩ := hf it (by simp)
    have W := Walks.range (prog := X.prog) (w := X.w) (I.ok.hd hc) it lo 1 n
    refine W.item i s _ _ hg st fun v h' tk hv st' kk => ?_
    obtain ⟨t, rfl⟩ := hv
    have I1 : Inv X pins σ H { s with heap := h', toks := tk } := I.turned (fun b o hb e => kk b o (by simpa using hb) e) f0 f1 f3 f4 f5
    refine ⟨_, rfl, go_of (s := { s with heap := h', toks := tk }) (n := "range_iterator") st' rfl rfl (by decide) ⟨.int (lo + i), H, I1, ⟨t, ?_⟩, ⟨rfl, rfl⟩, st', fun b hb => (hf b hb).1⟩⟩
    rw [Int.mul_one]
  done := by
    intro X hP hw hK hc i pins s σ H E I hf st hg
    subst hP hw hK
    obtain ⟨f0, f1, f2, f3, f4, f5⟩ := hf it (by simp)
    exact wpAny_pyNext_range_end (I.ok.hd hc) st (by have : n ≤ i := hg; omega) fun h' eb => ⟨rfl, I.turned (t' := s.toks) (fun b o hb e => eb b o hb e) f0 f1 f3 f4 f5⟩
  self := fun _ _ _ _ _ st h => wpAny_pyIter_rangeiter st h
end L2

namespace L2
open PySem PySem.Spec PyProof.Rows
section
variable {X : Cx} {tg : Expr}
def iList (K : PySem.W.Frag) (tl : TE) : TI := fun σ H R => tl σ H fun x H1 => ∃ a, x = .ref a ∧ (∃ xs, SqL K H1 a xs) ∧ R (Itl K a) H1
theorem pi_list {l : Expr} {tl : TE} (hl : PE X l tl) : PI X tg l (iList X.K tl) := by
  intro pins s σ H R I h
  refine thn (hl pins s σ H _ I h) fun v s1 ⟨x, H1, I1, r1, q1⟩ => ?_
  obtain ⟨a, e, ⟨xs, hq⟩, q⟩ := q1
  subst e
  cases r1
  obtain ⟨its, rv, p, hz⟩ := I1.list hq
  refine wpAny_pyIter_list p.isList ?_
  refine ⟨s1.heap.objs.size, [s1.heap.objs.size], _, _, H1, rfl, I1.kept (t' := s1.toks) fun b o e => Heap.get?_push_of_some _ e, turn_list a _, ⟨_, Heap.get?_push_size _ rfl, rfl, rfl⟩, fun b hb => ?_, q⟩
  have e : b = s1.heap.objs.size := by simpa using hb
  subst e
  exact I1.fpOk (Nat.le_refl _) (I1.hok.fresh (Nat.le_refl _))
/-- a range object just made, walked -/
theorem range_it {pins : List (Addr × Obj)} {σ : St} {H : Hp} {s : Shared} {R : It → Hp → Prop} {E : Value → Shared → Prop} {lo hi : Int} {t u v : Tok} {tk : Nat} (I : Inv X pins σ H s) (h1 : -(2 ^ 62) ≤ lo) (h2 : lo < 2 ^ 62) (h3 : -(2 ^ 62) ≤ hi) (h4 : hi < 2 ^ 62)
    (q : R (Itr lo (hi - lo).toNat) H) : wpAny (model X.prog X.w) X.A (pyIter (.ref s.heap.objs.size)) (PIE X pins σ tg R) E { s with heap := s.heap.push { cls := .type "range", data := .fields #[.int lo t, .int hi u, .int 1 v] }, toks := tk } := by
  refine wpAny_pyIter_range (IsRange.new ..) (small_one h1 h2 h3 h4) ?_
  have I1 : Inv X pins σ H { s with heap := s.heap.push { cls := .type "range", data := .fields #[.int lo t, .int hi u, .int 1 v] }, toks := tk } := I.kept fun b o e => Heap.get?_push_of_some _ e
  refine ⟨(s.heap.push { cls := .type "range", data := .fields #[.int lo t, .int hi u, .int 1 v] }).objs.size, [(s.heap.push { cls := .type "range", data := .fields #[.int lo t, .int hi u, .int 1 v] }).objs.size], _, _, H, rfl,
    I1.kept (t' := tk) fun b o e => Heap.get?_push_of_some _ e, turn_range _ lo (hi - lo).toNat, ?_, fun b hb => ?_, q⟩
  · have e1 : lo + ((0 : Nat) : Int) * 1 = lo := by simp
    have e2 : (((hi - lo).toNat : Nat) : Int) - ((0 : Nat) : Int) = Builtin.Range.rangeSize lo hi 1 := by rw [rangeSize_one]; split <;> omega
    show IsRangeIter _ _ (lo + ((0 : Nat) : Int) * 1) ((((hi - lo).toNat : Nat) : Int) - ((0 : Nat) : Int)) 1
    rw [e1, e2]
    exact Heap.get?_push_size _ rfl
  · have e : b = (s.heap.push { cls := .type "range", data := .fields #[.int lo t, .int hi u, .int 1 v] }).objs.size := by simpa using hb
    subst e
    exact I1.fpOk (Nat.le_refl _) (I1.hok.fresh (Nat.le_refl _))
def iRng1 (ta : TA) : TI := fun σ H R => ta σ H fun vs H1 => ∃ j : Int, vs = [.int j] ∧ -(2 ^ 62) ≤ j ∧ j < 2 ^ 62 ∧ R (Itr 0 j.toNat) H1
theorem pi_range1 {a : Expr} {ta : TA} {p pos : Pos} (hg : Gl X "range") (hm : X.mg "range" = none) (ha : PA X [a] ta) (hs : starEach [a] X.env = [(false, eval a X.env)] := by rfl) : PI X tg (.Call (.Name "range" p) [a] [] pos) (iRng1 ta) := by
  intro pins s σ H R I h
  refine Call_ (ld_blt I hg hm boot_range (PyProof.Rows.callWith_type1 (thn (ha pos pins s σ H _ I h) fun us s1 ⟨vs, H1, I1, r1, q1⟩ => ?_) hs rfl))
  obtain ⟨j, e, q1, q2, q⟩ := q1
  subst e
  cases r1 with
  | cons r rr =>
    cases rr
    obtain ⟨t, rfl⟩ := r
    exact call_range_1 (range_it I1 (by omega) (by omega) q1 q2 (by simpa using q))

/-- W: the invariant by the turn and a measure; N: what the body is to reach -/
def tFor (wi : TI) (g : TG) (tb : TS) : TS := fun D σ H => wi σ H fun J H1 => ∃ W : Nat → Nat → St → Hp → Prop, (∃ m, W 0 m σ H1) ∧ ∀ i m σ H, W i m σ H →
  (J.stop i H ∧ D.nx σ H) ∨ (J.go i H ∧ ∃ N : St → Hp → Prop, (∀ σ' H', N σ' H' → ∃ m', m' < m ∧ W (i + 1) m' σ' H') ∧ ∀ x H', J.yld i H x H' → g x σ H' fun σ2 H2 => tb { D with nx := N, ct := N, bk := D.nx } σ2 H2)
/-- the records at fp as they stand -/
def pinsAt (fp : List Addr) (h : Heap) : List (Addr × Obj) := fp.filterMap fun b => (h.get? b).map fun o => (b, o)
theorem mem_pinsAt {fp : List Addr} {h : Heap} {b : Addr} {o : Obj} (hb : b ∈ fp) (e : h.get? b = some o) : (b, o) ∈ pinsAt fp h := List.mem_filterMap.mpr ⟨b, hb, by rw [e]; rfl⟩
theorem of_pinsAt {fp : List Addr} {h : Heap} {p : Addr × Obj} (hp : p ∈ pinsAt fp h) : p.1 ∈ fp ∧ h.get? p.1 = some p.2 := by
  obtain ⟨b, hb, e⟩ := List.mem_filterMap.mp hp
  cases q : h.get? b with
  | none => rw [q] at e; cases e
  | some o =>
    rw [q] at e
    have e' : (b, o) = p := Option.some.inj e
    subst e'
    exact ⟨hb, q⟩
theorem Inv.pinned {pins : List (Addr × Obj)} {σ : St} {H : Hp} {s : Shared} {fp : List Addr} (I : Inv X pins σ H s) (hf : ∀ b ∈ fp, FpOk X pins H b) (ho : ∀ b ∈ fp, ∃ o, s.heap.get? b = some o ∧ ∀ v, o.data ≠ .cell v) : Inv X (pins ++ pinsAt fp s.heap) σ H s :=
  I.pins_of fun p hp => (List.mem_append.mp hp).elim (fun z => I.pin p (List.mem_append_right _ z)) fun z => by
    obtain ⟨hb, e⟩ := of_pinsAt z
    obtain ⟨f0, f1, f2, _⟩ := hf p.1 hb
    obtain ⟨o, e', d⟩ := ho p.1 hb
    rw [e] at e'; cases e'
    exact ⟨e, f0, f1, f2, d⟩
theorem Inv.unpinned {pins pl : List (Addr × Obj)} {σ : St} {H : Hp} {s : Shared} (I : Inv X (pins ++ pl) σ H s) : Inv X pins σ H s := I.pins_of fun p hp => I.pin p (List.mem_append_right _ (List.mem_append_left _ hp))
theorem ps_for {iter : Expr} {body : List Stmt} {wi : TI} {g : TG} {tb : TS} {pos : Pos} (hp : PassesOwn (model X.prog X.w) X.A X.env X.xe) (hc : X.calm = true) (hi : PI X tg iter wi) (hg : PG X tg g) (hb : PSs X body tb)
    (hs : ∀ x, foldedSetIterable iter X.env x = pure x := by intro _; rfl) : PS X (.For tg iter body [] pos) (tFor wi g tb) := by
  intro pins s σ H D I h
  refine wpAny_For (thn (hi pins s σ H _ I h) fun v s1 h1 => thn h1 fun itv s2 h2 => ?_) hs
  obtain ⟨it, fp, tn, J, H2, e, I2, T, st2, f2, W, ⟨m0, w0⟩, turn⟩ := h2
  subst e
  -- what stays true of the iterator's objects through the loop
  have stat : ∀ {H' : Hp}, (∀ b ∈ fp, H' b = none) → ∀ b ∈ fp, FpOk X pins H' b := fun hn b hb => ⟨hn b hb, (f2 b hb).2⟩
  refine codeAny_forLoop_any (fun n s' => ∃ i σ' H', Inv X pins σ' H' s' ∧ tn i s'.heap ∧ (∀ b ∈ fp, H' b = none) ∧ W i n σ' H') ?_ m0 ⟨0, σ, H2, I2, st2, fun b hb => (f2 b hb).1, w0⟩
  rintro n s3 ⟨i, σ3, H3, I3, st3, fr3, w3⟩
  rcases turn i n σ3 H3 w3 with ⟨stop, qn⟩ | ⟨go, N, hN, step⟩
  · refine wpAny_passesOwn hp (thn (T.done X rfl rfl rfl hc i pins s3 σ3 H3 X.xe I3 (stat fr3) st3 stop) fun r s4 ⟨hr, I4⟩ => ?_)
    subst hr
    exact wpAny_execs_nil ⟨σ3, H3, I4, qn⟩
  · refine wpAny_passesOwn hp (thn (T.item X rfl rfl rfl hc i pins s3 σ3 H3 X.xe I3 (stat fr3) st3 go) fun r s4 ⟨u, hr, h4⟩ => ?_)
    subst hr
    refine wpAny_passesOwn hp (thn h4 fun _ s5 ⟨x, H5, I5, r5, y5, st5, fr5⟩ => ?_)
    have I5' := I5.pinned (stat fr5) (T.obj _ _ st5)
    refine wpAny_passesOwn hp (thn (hg _ s5 σ3 H5 x u _ I5' r5 (step x H5 y5)) fun _ s6 ⟨σ6, H6, I6, q6⟩ => ?_)
    refine wpAny_passesOwn hp (thn (hb _ s6 σ6 H6 _ I6 q6) fun f s7 q7 => ?_)
    have again : ∀ {σ7 : St} {H7 : Hp}, Inv X (pins ++ pinsAt fp s5.heap) σ7 H7 s7 → N σ7 H7 → ∃ m, m < n ∧ ∃ i σ' H', Inv X pins σ' H' s7 ∧ tn i s7.heap ∧ (∀ b ∈ fp, H' b = none) ∧ W i m σ' H' := fun {σ7 H7} I7 n7 => by
      obtain ⟨m', hm, w7⟩ := hN σ7 H7 n7
      refine ⟨m', hm, i + 1, σ7, H7, I7.unpinned, T.keep _ _ _ st5 fun b hb o e => (I7.pin (b, o) (List.mem_append_right _ (List.mem_append_right _ (mem_pinsAt hb e)))).1, fun b hb => ?_, w7⟩
      obtain ⟨o, e, d⟩ := T.obj _ _ st5 b hb
      exact (I7.pin (b, o) (List.mem_append_right _ (List.mem_append_right _ (mem_pinsAt hb e)))).2.1
    cases f with
    | next => obtain ⟨σ7, H7, I7, n7⟩ := q7; exact again I7 n7
    | cont => obtain ⟨σ7, H7, I7, n7⟩ := q7; exact again I7 n7
    | brk => obtain ⟨σ7, H7, I7, q7⟩ := q7; exact ⟨σ7, H7, I7.unpinned, q7⟩
    | ret v => obtain ⟨x7, σ7, H7, I7, r7, q7⟩ := q7; exact ⟨x7, σ7, H7, I7.unpinned, r7, q7⟩
end

/-- over a list that the body leaves as it is -/
theorem for_list {K : PySem.W.Frag} {a : Addr} {xs : List V} {g : TG} {tb : TS} {D : Ends} {σ : St} {H : Hp} (Pv : Nat → St → Hp → Prop) (h0 : Pv 0 σ H) (hl : ∀ i σ H, i ≤ xs.length → Pv i σ H → SqL K H a xs)
    (hs : ∀ i x σ H, xs[i]? = some x → Pv i σ H → g x σ H fun σ2 H2 => tb { D with nx := Pv (i + 1), ct := Pv (i + 1), bk := D.nx } σ2 H2) (hd : ∀ σ H, Pv xs.length σ H → D.nx σ H) :
    ∃ W : Nat → Nat → St → Hp → Prop, (∃ m, W 0 m σ H) ∧ ∀ i m σ H, W i m σ H →
      ((Itl K a).stop i H ∧ D.nx σ H) ∨ ((Itl K a).go i H ∧ ∃ N : St → Hp → Prop, (∀ σ' H', N σ' H' → ∃ m', m' < m ∧ W (i + 1) m' σ' H') ∧ ∀ x H', (Itl K a).yld i H x H' → g x σ H' fun σ2 H2 => tb { D with nx := N, ct := N, bk := D.nx } σ2 H2) := by
  refine ⟨fun i m σ H => m = xs.length - i ∧ i ≤ xs.length ∧ Pv i σ H, ⟨xs.length, by simp, Nat.zero_le _, h0⟩, ?_⟩
  rintro i m σ H ⟨rfl, hi, p⟩
  have q := hl i σ H hi p
  by_cases hlt : i < xs.length
  · refine .inr ⟨⟨xs, xs[i], q, by simp [hlt]⟩, Pv (i + 1), fun σ' H' p' => ⟨xs.length - (i + 1), by omega, rfl, hlt, p'⟩, fun x H' y => ?_⟩
    obtain ⟨e, y⟩ := y
    subst e
    exact hs i x σ _ (y xs q) p
  · have e : i = xs.length := by omega
    subst e
    exact .inl ⟨⟨xs, q, Nat.le_refl _⟩, hd σ H p⟩
end L2

namespace L2
open PySem PySem.Spec PyProof.Rows

abbrev R2 := V → V → Hp → VK → Prop
/-- a two-place operation on values: f is binaryOp op, inplaceOp op or compareOp op -/
def OpR (X : Cx) (f : Value → Value → Sem Value) (r : R2) : Prop :=
  ∀ (pins : List (Addr × Obj)) (s : Shared) (σ : St) (H : Hp) (x y : V) (v u : Value) (Q : VK), Inv X pins σ H s → RelV x v → RelV y u → r x y H Q →
    wpAny (model X.prog X.w) X.A (f v u) (EP X pins σ Q) X.xe s
/-- a one-place operation -/
def UnR (X : Cx) (f : Value → Sem Value) (r : V → Hp → VK → Prop) : Prop :=
  ∀ (pins : List (Addr × Obj)) (s : Shared) (σ : St) (H : Hp) (x : V) (v : Value) (Q : VK), Inv X pins σ H s → RelV x v → r x H Q →
    wpAny (model X.prog X.w) X.A (f v) (EP X pins σ Q) X.xe s
/-- a call of a value that is known (a builtin, a type) with values -/
def CallR (X : Cx) (f : Value) (r : List V → Hp → VK → Prop) : Prop :=
  ∀ (pins : List (Addr × Obj)) (s : Shared) (σ : St) (H : Hp) (xs : List V) (us : List Value) (Q : VK), Inv X pins σ H s → Vals xs us → r xs H Q →
    wpAny (model X.prog X.w) X.A (call f us) (EP X pins σ Q) X.xe s

def tOp (r : R2) (ta tb : TE) : TE := fun σ H Q => ta σ H fun x H1 => tb σ H1 fun y H2 => r x y H2 Q
def tUn (r : V → Hp → VK → Prop) (ta : TE) : TE := fun σ H Q => ta σ H fun x H1 => r x H1 Q
/-- ints in, under C, and a value out -/
def rI (C : Int → Int → Prop) (g : Int → Int → V) : R2 := fun x y H Q => ∃ i j, x = .int i ∧ y = .int j ∧ C i j ∧ Q (g i j) H
def rI0 (g : Int → Int → V) : R2 := fun x y H Q => ∃ i j, x = .int i ∧ y = .int j ∧ Q (g i j) H
def rU (g : Int → V) : V → Hp → VK → Prop := fun x H Q => ∃ i, x = .int i ∧ Q (g i) H

section
variable {X : Cx} {a b c : Expr} {ta tb tc : TE} {pos : Pos}

theorem binT (ha : PE X a ta) (hb : PE X b tb) {pins : List (Addr × Obj)} {s : Shared} {σ : St} {H : Hp} {R : V → V → Hp → Prop} (I : Inv X pins σ H s)
    (h : ta σ H fun x H1 => tb σ H1 fun y H2 => R x y H2) {Q : Value → Shared → Prop} {f : Value → Value → Sem Value}
    (hf : ∀ v u s2 x y H2, Inv X pins σ H2 s2 → RelV x v → RelV y u → R x y H2 → wpAny (model X.prog X.w) X.A (f v u) Q X.xe s2) :
    wpAny (model X.prog X.w) X.A (eval a X.env) (fun v s₁ => wpAny (model X.prog X.w) X.A (eval b X.env) (fun u s₂ => wpAny (model X.prog X.w) X.A (f v u) Q X.xe s₂) X.xe s₁) X.xe s := by
  refine thn (ha pins s σ H _ I h) fun v s1 ⟨x, H1, I1, r1, q1⟩ => ?_
  refine thn (hb pins s1 σ H1 _ I1 q1) fun u s2 ⟨y, H2, I2, r2, q2⟩ => ?_
  exact hf v u s2 x y H2 I2 r1 r2 q2

theorem pe_op {op : Operator} {r : R2} (ho : OpR X (binaryOp op) r) (ha : PE X a ta) (hb : PE X b tb) : PE X (.BinOp a op b pos) (tOp r ta tb) := by
  intro pins s σ H Q I h
  exact wpAny_BinOp (binT ha hb I h fun v u s2 x y H2 I2 rx ry q => ho pins s2 σ H2 x y v u Q I2 rx ry q)
theorem pe_un {op : UnaryOp} {r : V → Hp → VK → Prop} (ho : UnR X (unaryOp op) r) (ha : PE X a ta) : PE X (.UnaryOp op a pos) (tUn r ta) := by
  intro pins s σ H Q I h
  exact UnaryOp_ (thn (ha pins s σ H _ I h) fun v s1 ⟨x, H1, I1, r1, q1⟩ => ho pins s1 σ H1 x v Q I1 r1 q1)

theorem opI {f : Value → Value → Sem Value} {C : Int → Int → Prop} {g : Int → Int → Int}
    (rule : ∀ (i j : Int) (t u : Tok) (s : Shared) (Q : Value → Shared → Prop) (E : Value → Shared → Prop), C i j → Q (.int (g i j) s.toks) { s with toks := s.toks + 1 } → wpAny (model X.prog X.w) X.A (f (.int i t) (.int j u)) Q E s) :
    OpR X f (rI C fun i j => .int (g i j)) := by
  intro pins s σ H x y v u Q I rx ry h
  obtain ⟨i, j, rfl, rfl, hc, q⟩ := h
  obtain ⟨t, rfl⟩ := rx
  obtain ⟨t', rfl⟩ := ry
  exact rule i j t t' s _ _ hc ⟨.int (g i j), H, I.tok _, ⟨_, rfl⟩, q⟩
theorem opI0 {f : Value → Value → Sem Value} {g : Int → Int → Int}
    (rule : ∀ (i j : Int) (t u : Tok) (s : Shared) (Q : Value → Shared → Prop) (E : Value → Shared → Prop), Q (.int (g i j) s.toks) { s with toks := s.toks + 1 } → wpAny (model X.prog X.w) X.A (f (.int i t) (.int j u)) Q E s) :
    OpR X f (rI0 fun i j => .int (g i j)) := by
  intro pins s σ H x y v u Q I rx ry h
  obtain ⟨i, j, rfl, rfl, q⟩ := h
  obtain ⟨t, rfl⟩ := rx
  obtain ⟨t', rfl⟩ := ry
  exact rule i j t t' s _ _ ⟨.int (g i j), H, I.tok _, ⟨_, rfl⟩, q⟩
theorem opB0 {f : Value → Value → Sem Value} {g : Int → Int → Bool}
    (rule : ∀ (i j : Int) (t u : Tok) (s : Shared) (Q : Value → Shared → Prop) (E : Value → Shared → Prop), Q (.bool (g i j)) s → wpAny (model X.prog X.w) X.A (f (.int i t) (.int j u)) Q E s) :
    OpR X f (rI0 fun i j => .bl (g i j)) := by
  intro pins s σ H x y v u Q I rx ry h
  obtain ⟨i, j, rfl, rfl, q⟩ := h
  obtain ⟨t, rfl⟩ := rx
  obtain ⟨t', rfl⟩ := ry
  exact rule i j t t' s _ _ ⟨.bl (g i j), H, I, rfl, q⟩

def CDiv (i j : Int) : Prop := 0 < j ∧ j < 1073741824
def CPow (i j : Int) : Prop := 0 ≤ j ∧ j ≤ 1000000 ∧ i.natAbs < 2 ^ 64
def CMul (i j : Int) : Prop := (-(2 ^ 64) < i ∧ i < 2 ^ 64) ∨ (-(2 ^ 64) < j ∧ j < 2 ^ 64)
theorem CMul.ok {i j : Int} (h : CMul i j) : IntMulOk i j := by
  rcases h with ⟨h1, h2⟩ | ⟨h1, h2⟩
  · exact .of_left (intBits_le_64 h1 h2)
  · exact .of_right (intBits_le_64 h1 h2)
theorem two_pow_nn (k : Nat) : (0 : Int) ≤ 2 ^ k := by
  rw [two_pow_cast]
  exact Int.natCast_nonneg _

theorem op_add : OpR X (binaryOp .Add) (rI0 fun i j => .int (i + j)) := opI0 fun _ _ _ _ _ _ _ q => add_int q
theorem op_sub : OpR X (binaryOp .Sub) (rI0 fun i j => .int (i - j)) := opI0 fun _ _ _ _ _ _ _ q => sub_int q
theorem op_mul : OpR X (binaryOp .Mult) (rI CMul fun i j => .int (i * j)) := opI fun _ _ _ _ _ _ _ hc q => mul_int q hc.ok
/-- // by a positive divisor -/
theorem op_fdiv : OpR X (binaryOp .FloorDiv) (rI CDiv fun i j => .int (i / j)) := opI fun i j _ _ _ _ _ hc q => by
  have h1 : (0 : Int) < j := hc.1
  have h2 : j < 1073741824 := hc.2
  exact floordiv_int (by omega) (by rw [Int.fdiv_eq_ediv_of_nonneg i (by omega)]; exact q) (.inl (PyProof.noPylong_small (by omega)))
/-- % by a positive divisor of any size -/
theorem op_mod : OpR X (binaryOp .Mod) (rI (fun _ j => 0 < j) fun i j => .int (i % j)) := opI fun i j _ _ _ _ _ hc q => by
  have h1 : (0 : Int) < j := hc
  exact mod_int' (by omega) (by rw [Int.fmod_eq_emod_of_nonneg i (by omega)]; exact q)
theorem op_shl : OpR X (binaryOp .LShift) (rI CPow fun i j => .int (i * 2 ^ j.toNat)) := opI fun _ _ _ _ _ _ _ hc q => lshift_int_small hc.1 hc.2.1 hc.2.2 q
theorem op_shr : OpR X (binaryOp .RShift) (rI (fun _ j => 0 ≤ j) fun i j => .int (i / 2 ^ j.toNat)) := opI fun i j _ _ _ _ _ hc q =>
  rshift_int hc (by rw [Int.fdiv_eq_ediv_of_nonneg i (two_pow_nn _)]; exact q)
theorem op_and : OpR X (binaryOp .BitAnd) (rI0 fun i j => .int (Builtin.bitAnd i j)) := opI0 fun _ _ _ _ _ _ _ q => and_int q
theorem op_or : OpR X (binaryOp .BitOr) (rI0 fun i j => .int (Builtin.bitOr i j)) := opI0 fun _ _ _ _ _ _ _ q => or_int q

theorem iop_or : OpR X (inplaceOp .BitOr) (rI0 fun i j => .int (Builtin.bitOr i j)) := opI0 fun _ _ _ _ _ _ _ q => ior_int q
theorem iop_xor : OpR X (inplaceOp .BitXor) (rI0 fun i j => .int (Builtin.bitXor i j)) := opI0 fun _ _ _ _ _ _ _ q => ixor_int q

theorem unI {f : Value → Sem Value} {g : Int → Int}
    (rule : ∀ (i : Int) (t : Tok) (s : Shared) (Q : Value → Shared → Prop) (E : Value → Shared → Prop), Q (.int (g i) s.toks) { s with toks := s.toks + 1 } → wpAny (model X.prog X.w) X.A (f (.int i t)) Q E s) :
    UnR X f (rU fun i => .int (g i)) := by
  intro pins s σ H x v Q I rx h
  obtain ⟨i, rfl, q⟩ := h
  obtain ⟨t, rfl⟩ := rx
  exact rule i t s _ _ ⟨.int (g i), H, I.tok _, ⟨_, rfl⟩, q⟩
theorem un_neg : UnR X (unaryOp .USub) (rU fun i => .int (-i)) := unI fun _ _ _ _ _ q => neg_int q
theorem un_inv : UnR X (unaryOp .Invert) (rU fun i => .int (Builtin.bitNot i)) := unI fun _ _ _ _ _ q => invert_int q

end

/-- the scalars that == tells apart as data does -/
def scal : V → V → Bool
  | .non, .non => true | .non, .int _ => true | .int _, .non => true | .non, .bl _ => true | .bl _, .non => true | .non, .str _ => true | .str _, .non => true
  | .int _, .int _ => true | .bl _, .bl _ => true | .str _, .str _ => true | .byt _, .byt _ => true
  | .int _, .str _ => true | .str _, .int _ => true | .bl _, .str _ => true | .str _, .bl _ => true
  | _, _ => false
def rEq : R2 := fun x y H Q => scal x y = true ∧ Q (.bl (decide (x = y))) H
def rNe : R2 := fun x y H Q => scal x y = true ∧ Q (.bl (!decide (x = y))) H

theorem dec_int {i j : Int} : decide (V.int i = V.int j) = (i == j) := by
  rw [Bool.eq_iff_iff]
  simp
theorem dec_bl {i j : Bool} : decide (V.bl i = V.bl j) = (i == j) := by
  rw [Bool.eq_iff_iff]
  simp
theorem dec_str {i j : Str} : decide (V.str i = V.str j) = (i == j) := by
  rw [Bool.eq_iff_iff]
  simp
theorem dec_byt {i j : Array UInt8} : decide (V.byt i = V.byt j) = (i.toList == j.toList) := by
  rw [Bool.eq_iff_iff]
  cases i
  cases j
  simp

section
variable {X : Cx} {a b c : Expr} {ta tb tc : TE} {pos : Pos}
theorem fin_bl {pins : List (Addr × Obj)} {σ : St} {H : Hp} {s : Shared} {Q : VK} {k k' : Bool} (I : Inv X pins σ H s) (q : Q (.bl k) H) (e : k = k') : EP X pins σ Q (.bool k') s := by
  subst e
  exact ⟨.bl k, H, I, rfl, q⟩
theorem op_eq : OpR X (compareOp .Eq) rEq := by
  intro pins s σ H x y v u Q I rx ry h
  obtain ⟨hs, q⟩ := h
  cases x with
  | non =>
    cases rx
    cases y with
    | non => cases ry; exact PySem.EqNone.eq_none_none (fin_bl I q (by simp))
    | bl j => cases ry; exact PySem.EqNone.eq_none_bool (fin_bl I q (by simp))
    | int j => obtain ⟨t', rfl⟩ := ry; exact PySem.EqNone.eq_none_int (fin_bl I q (by simp))
    | str j => obtain ⟨t', rfl⟩ := ry; exact PySem.EqNone.eq_none_str (fin_bl I q (by simp))
    | _ => exact absurd (show false = true from hs) Bool.false_ne_true
  | bl i =>
    cases rx
    cases y with
    | non => cases ry; exact PySem.EqNone.eq_bool_none (fin_bl I q (by simp))
    | bl j => cases ry; exact eq_bool (fin_bl I q dec_bl)
    | str j => obtain ⟨t', rfl⟩ := ry; exact PySem.EqMixed.eq_bool_str (fin_bl I q (by simp))
    | _ => exact absurd (show false = true from hs) Bool.false_ne_true
  | int i =>
    obtain ⟨t, rfl⟩ := rx
    cases y with
    | non => cases ry; exact PySem.EqNone.eq_int_none (fin_bl I q (by simp))
    | int j => obtain ⟨t', rfl⟩ := ry; exact eq_int (fin_bl I q dec_int)
    | str j => obtain ⟨t', rfl⟩ := ry; exact PySem.EqMixed.eq_int_str (fin_bl I q (by simp))
    | _ => exact absurd (show false = true from hs) Bool.false_ne_true
  | str i =>
    obtain ⟨t, rfl⟩ := rx
    cases y with
    | non => cases ry; exact PySem.EqNone.eq_str_none (fin_bl I q (by simp))
    | bl j => cases ry; exact PySem.EqMixed.eq_str_bool (fin_bl I q (by simp))
    | int j => obtain ⟨t', rfl⟩ := ry; exact PySem.EqMixed.eq_str_int (fin_bl I q (by simp))
    | str j => obtain ⟨t', rfl⟩ := ry; exact eq_str (fin_bl I q dec_str)
    | _ => exact absurd (show false = true from hs) Bool.false_ne_true
  | byt i =>
    obtain ⟨t, rfl⟩ := rx
    cases y with
    | byt j => obtain ⟨t', rfl⟩ := ry; exact PySem.W.eq_bytes (fin_bl I q dec_byt)
    | _ => exact absurd (show false = true from hs) Bool.false_ne_true
  | _ => cases y <;> exact absurd (show false = true from hs) Bool.false_ne_true
theorem op_ne : OpR X (compareOp .NotEq) rNe := by
  intro pins s σ H x y v u Q I rx ry h
  obtain ⟨hs, q⟩ := h
  cases x with
  | non =>
    cases rx
    cases y with
    | non => cases ry; exact PySem.EqNone.ne_none_none (fin_bl I q (by simp))
    | bl j => cases ry; exact PySem.EqNone.ne_none_bool (fin_bl I q (by simp))
    | int j => obtain ⟨t', rfl⟩ := ry; exact PySem.EqNone.ne_none_int (fin_bl I q (by simp))
    | str j => obtain ⟨t', rfl⟩ := ry; exact PySem.EqNone.ne_none_str (fin_bl I q (by simp))
    | _ => exact absurd (show false = true from hs) Bool.false_ne_true
  | bl i =>
    cases rx
    cases y with
    | non => cases ry; exact PySem.EqNone.ne_bool_none (fin_bl I q (by simp))
    | bl j => cases ry; exact ne_bool (fin_bl I q (congrArg not dec_bl))
    | str j => obtain ⟨t', rfl⟩ := ry; exact PySem.EqMixed.ne_bool_str (fin_bl I q (by simp))
    | _ => exact absurd (show false = true from hs) Bool.false_ne_true
  | int i =>
    obtain ⟨t, rfl⟩ := rx
    cases y with
    | non => cases ry; exact PySem.EqNone.ne_int_none (fin_bl I q (by simp))
    | int j => obtain ⟨t', rfl⟩ := ry; exact ne_int (fin_bl I q (congrArg not dec_int))
    | str j => obtain ⟨t', rfl⟩ := ry; exact PySem.EqMixed.ne_int_str (fin_bl I q (by simp))
    | _ => exact absurd (show false = true from hs) Bool.false_ne_true
  | str i =>
    obtain ⟨t, rfl⟩ := rx
    cases y with
    | non => cases ry; exact PySem.EqNone.ne_str_none (fin_bl I q (by simp))
    | bl j => cases ry; exact PySem.EqMixed.ne_str_bool (fin_bl I q (by simp))
    | int j => obtain ⟨t', rfl⟩ := ry; exact PySem.EqMixed.ne_str_int (fin_bl I q (by simp))
    | str j => obtain ⟨t', rfl⟩ := ry; exact ne_str (fin_bl I q (congrArg not dec_str))
    | _ => exact absurd (show false = true from hs) Bool.false_ne_true
  | byt i =>
    obtain ⟨t, rfl⟩ := rx
    cases y with
    | byt j => obtain ⟨t', rfl⟩ := ry; exact PySem.W.ne_bytes (fin_bl I q (congrArg not dec_byt))
    | _ => exact absurd (show false = true from hs) Bool.false_ne_true
  | _ => cases y <;> exact absurd (show false = true from hs) Bool.false_ne_true

theorem op_lt : OpR X (compareOp .Lt) (rI0 fun i j => .bl (decide (i < j))) := opB0 fun _ _ _ _ _ _ _ q => lt_int q
theorem op_le : OpR X (compareOp .LtE) (rI0 fun i j => .bl (decide (i ≤ j))) := opB0 fun _ _ _ _ _ _ _ q => le_int q
theorem op_gt : OpR X (compareOp .Gt) (rI0 fun i j => .bl (decide (j < i))) := opB0 fun _ _ _ _ _ _ _ q => gt_int q
theorem op_ge : OpR X (compareOp .GtE) (rI0 fun i j => .bl (decide (j ≤ i))) := opB0 fun _ _ _ _ _ _ _ q => ge_int q

theorem nomark (b : Expr) {op : CmpOp} (h : op ≠ .In := by decide) (h2 : op ≠ .NotIn := by decide) : behindInMarks op b = false := by
  have e1 : (op == CmpOp.In) = false := by cases op <;> first | rfl | exact absurd rfl h
  have e2 : (op == CmpOp.NotIn) = false := by cases op <;> first | rfl | exact absurd rfl h2
  cases b <;> simp [behindInMarks, e1, e2]
/-- a comparison as a value; hm: nomark b, or (for in, not in) by with_unfolding_all rfl -/
theorem pe_cmpR {op : CmpOp} {r : R2} (ho : OpR X (compareOp op) r) (ha : PE X a ta) (hb : PE X b tb) (hm : behindInMarks op b = false) : PE X (.Compare a [op] [b] pos) (tOp r ta tb) := by
  intro pins s σ H Q I h
  exact wpAny_Compare1 (binT ha hb I h fun v u s2 x y H2 I2 rx ry q => ho pins s2 σ H2 x y v u Q I2 rx ry q) hm
/-- a reading of a value as a test -/
def tTest (t : TE) : TT := fun σ H Q => t σ H fun x H' => ∃ k, x = .bl k ∧ Q k H'
theorem pt_cmpR {op : CmpOp} {r : R2} (ho : OpR X (compareOp op) r) (ha : PE X a ta) (hb : PE X b tb) (hm : behindInMarks op b = false) : PT X (.Compare a [op] [b] pos) (tTest (tOp r ta tb)) := by
  intro pins s σ H Q I h
  refine wpAny_isTrue_Compare1 (thn (ha pins s σ H _ I h) fun v s1 ⟨x, H1, I1, r1, q1⟩ => thn (hb pins s1 σ H1 _ I1 q1) fun u s2 ⟨y, H2, I2, r2, q2⟩ =>
    thn (ho pins s2 σ H2 x y v u _ I2 r1 r2 q2) fun c s3 ⟨z, H3, I3, r3, k, e, q3⟩ => ?_) hm
  subst e
  cases r3
  exact wpAny_truthy_bool ⟨H3, I3, q3⟩

theorem line63 : (sizeLine : Nat) < 2 ^ 63 := by rw [sizeLine_eq]; decide

theorem vals1 {x : V} {us : List Value} (r : Vals [x] us) : ∃ u, us = [u] ∧ RelV x u := by
  cases r with
  | cons r1 r2 => cases r2; exact ⟨_, rfl, r1⟩
theorem vals2 {x y : V} {us : List Value} (r : Vals [x, y] us) : ∃ u w', us = [u, w'] ∧ RelV x u ∧ RelV y w' := by
  cases r with
  | cons r1 r2 =>
    cases r2 with
    | cons r3 r4 => cases r4; exact ⟨_, _, rfl, r1, r3⟩
theorem call_max2 (hc : X.calm = true) : CallR X (.builtin "max") (fun xs H Q => ∃ i j, xs = [.int i, .int j] ∧ Q (.int (if j > i then j else i)) H) := by
  intro pins s σ H xs us Q I r h
  obtain ⟨i, j, rfl, q⟩ := h
  obtain ⟨u, w', rfl, ⟨t, rfl⟩, ⟨t', rfl⟩⟩ := vals2 r
  refine max_two_ints (I.ok.hd hc) fun h' tk k => ⟨_, H, I.kept k, ?_, q⟩
  by_cases hj : j > i
  · rw [if_pos hj, if_pos hj]; exact ⟨_, rfl⟩
  · rw [if_neg hj, if_neg hj]; exact ⟨_, rfl⟩
theorem call_min2 (hc : X.calm = true) : CallR X (.builtin "min") (fun xs H Q => ∃ i j, xs = [.int i, .int j] ∧ Q (.int (if j < i then j else i)) H) := by
  intro pins s σ H xs us Q I r h
  obtain ⟨i, j, rfl, q⟩ := h
  obtain ⟨u, w', rfl, ⟨t, rfl⟩, ⟨t', rfl⟩⟩ := vals2 r
  refine min_two_ints (I.ok.hd hc) fun h' tk k => ⟨_, H, I.kept k, ?_, q⟩
  by_cases hj : j < i
  · rw [if_pos hj, if_pos hj]; exact ⟨_, rfl⟩
  · rw [if_neg hj, if_neg hj]; exact ⟨_, rfl⟩
end
end L2

namespace L2
open PySem PySem.Spec PyProof.Rows

structure ObjM (h : Heap) (x dx C : Addr) (mA : Str → Option Value) : Prop where
  obj : h.get? x = some (PySem.W.instObj C dx)
  ns : h.Ns1 dx mA
  ne : dx ≠ x

theorem lookIn_ns {h : Heap} {dx : Addr} {mA : Str → Option Value} (n : h.Ns1 dx mA) : ∃ od, h.get? dx = some od ∧ ∀ name, PySem.W.lookIn name od = some (mA name) := by
  obtain ⟨o, es, ep, ho, hd, hk, _, hm⟩ := n
  refine ⟨o, ho, fun name => ?_⟩
  have e := hm name
  unfold nsFind findBy at e
  rw [← Array.find?_toList] at e
  unfold PySem.W.lookIn
  rw [hd]
  dsimp only
  split
  · rename_i y q
    rw [q] at e
    exact congrArg some e
  · rename_i q
    rw [q] at e
    have a : es.toList.any (·.refKey) = false := by
      rw [List.any_eq_false]
      intro y hy
      obtain ⟨z, t, hkey⟩ := hk y (Array.mem_toList_iff.mp hy)
      simp [DictEntry.refKey, hkey]
    have a' : ¬ es.toList.any (·.refKey) = true := by rw [a]; exact Bool.false_ne_true
    rw [if_neg a']
    exact congrArg some e

theorem ObjM.look {h : Heap} {x dx C : Addr} {mA : Str → Option Value} (I : ObjM h x dx C mA) : ∃ od, PySem.W.InstAt h x (PySem.W.instObj C dx) C (some od) ∧ ∀ name, PySem.W.lookIn name od = some (mA name) :=
  let ⟨od, ho, hl⟩ := lookIn_ns I.ns
  ⟨od, ⟨I.obj, rfl, rfl, ho⟩, hl⟩

section
variable {prog : Program} {w : World} {A : Around} {E : Value → Shared → Prop} {s : Shared} {K : PySem.W.Frag} {x dx C f : Addr} {mA : Str → Option Value} {name : Str} {v : Value}

theorem get_map {expr : Bool} {Q : Value → Shared → Prop} (X : K.In s.heap) (I : ObjM s.heap x dx C mA) (hg : PySem.W.plainGet K C name = true) (hh : PySem.W.hasDictIn K C = true)
    (ha : PySem.W.findIn K (.ref C) name = some none) (hv : mA name = some v) (hv' : PySem.W.handedIn v = true) (h : Q v { s with toks := s.toks + 1 }) :
    wpAny (model prog w) A (getAttr (.ref x) name expr) Q E s := by
  obtain ⟨od, J, hl⟩ := I.look
  exact PySem.W.get_value X J (PySem.W.plainGet_of hg).1 (PySem.W.findObj_own hh ha rfl (by rw [hl, hv])) hv' h

theorem set_map {ns : List Str} {Q : Unit → Shared → Prop} (X : K.In s.heap) (I : ObjM s.heap x dx C mA)
    (hs : PySem.W.findIn K (.ref C) "__setattr__" = some (some (.builtin "object.__setattr__"))) (hp : PySem.W.plainOver K C = true) (ht : PySem.W.takerIn K C name = some none) (hh : PySem.W.hasDictIn K C = true)
    (hw : PySem.Within mA ns) (hsz : ns.length ≤ sizeLine)
    (h : ∀ h', ObjM h' x dx C (fun y => if y = name then some v else mA y) → Heap.SameBut dx s.heap h' → Q () { s with heap := h', toks := s.toks + 2 }) :
    wpAny (model prog w) A (setAttr (.ref x) name v) Q E s := by
  obtain ⟨od, J, hl⟩ := I.look
  refine PySem.W.set_plain X J hs (PySem.W.osa_open (s := { s with toks := s.toks + 1 }) (r := none) X J hp ht fun b => ?_)
  obtain ⟨cd, hc, hd'⟩ := PySem.W.any_some hh
  have hx : s.heap.get? x = some ⟨.ref C, some dx, .plain, #[]⟩ := I.obj
  refine wpAny_bind (wpAny_pure (wpAny_bind (wpAny_bind (wpAny_loadPart hx (wpAny_bind (PySem.W.Looks.here (s := { s with toks := s.toks + 1 }) (PySem.W.looks_clsIn X hc) ?_))))))
  rw [hd']
  refine wpAny_pure (a := some dx) (wpAny_bind (wpAny_pure (wpAny_bind ?_)))
  refine wpAny_nsSet1 (s := { s with toks := s.toks + 1 }) I.ns fun h' hn2 hs2 => ?_
  obtain ⟨oD, esD, epD, hoD, hdD, hcD⟩ := hn2.count (PySem.Within.cons name v hw)
  refine wpAny_bind (wpAny_lookBehind hoD (by rw [hdD]; exact pastItsLine_dict (Nat.le_trans hcD (by rw [List.length_cons]; omega))) ?_)
  exact wpAny_pure (h _ ⟨(hs2.2 _ (Ne.symm I.ne)).trans I.obj, hn2, I.ne⟩ hs2)

/-- C(..): the dict at the heap's end, the instance behind it; then its __init__ -/
theorem make_map {R : Result → Shared → Prop} {vs : List Value} {kw : List (Str × Value)} (X : K.In s.heap) (hm : PySem.W.makesIn K C = true)
    (hi : PySem.W.findIn K (.ref C) "__init__" = some (some (.ref f))) (hf : PySem.W.typeIn K (.ref f) = some (.type "function"))
    (h : codeAny (model prog w) (A.under (.builtin "type.__call__" ⟨.ref C :: vs, kw⟩)) (.call (.ref f) ⟨.ref (s.heap.objs.size + 1) :: vs, kw⟩) (PySem.W.InitBack (s.heap.objs.size + 1) R)
      { s with heap := (s.heap.push PySem.W.emptyDict).push (PySem.W.instObj C s.heap.objs.size) }) :
    codeAny (model prog w) A (.call (.ref C) ⟨vs, kw⟩) R s := by
  obtain ⟨hh, g, d, t, os⟩ := s
  exact PySem.W.make_core (PySem.W.makes_of X hm) (PySem.W.looks_findIn X hi) (fun self => PySem.W.bind_fn X self hf) (.inl rfl) h
end

def putF (f : Str) (v : V) : List (Str × V) → List (Str × V)
  | [] => [(f, v)]
  | (g, x) :: r => if g = f then (g, v) :: r else (g, x) :: putF f v r
theorem lookup_putF (f g : Str) (v : V) : ∀ fs : List (Str × V), (putF f v fs).lookup g = if g = f then some v else fs.lookup g
  | [] => by
    show List.lookup g [(f, v)] = _
    by_cases h : g = f
    · have hb : (g == f) = true := beq_iff_eq.mpr h
      simp only [List.lookup, hb, if_pos h]
    · have hb : (g == f) = false := beq_eq_false_iff_ne.mpr h
      simp only [List.lookup, hb, if_neg h]
  | (k, x) :: r => by
    have ih := lookup_putF f g v r
    rw [show putF f v ((k, x) :: r) = (if k = f then (k, v) :: r else (k, x) :: putF f v r) from rfl]
    by_cases hk : k = f
    · rw [if_pos hk]
      by_cases h : g = k
      · have hb : (g == k) = true := beq_iff_eq.mpr h
        simp only [List.lookup, hb, if_pos (h.trans hk)]
      · have hb : (g == k) = false := beq_eq_false_iff_ne.mpr h
        simp only [List.lookup, hb, if_neg (fun e : g = f => h (e.trans hk.symm))]
    · rw [if_neg hk]
      by_cases h : g = k
      · have hb : (g == k) = true := beq_iff_eq.mpr h
        simp only [List.lookup, hb, if_neg (fun e : g = f => hk (h.symm.trans e))]
      · have hb : (g == k) = false := beq_eq_false_iff_ne.mpr h
        simp only [List.lookup, hb]
        exact ih
theorem keys_putF (f : Str) (v : V) : ∀ fs : List (Str × V), f ∈ (putF f v fs).map (·.1) ∧ ∀ g, g ∈ fs.map (·.1) → g ∈ (putF f v fs).map (·.1)
  | [] => ⟨by simp [putF], fun g h => by simp at h⟩
  | (k, x) :: r => by
    obtain ⟨i1, i2⟩ := keys_putF f v r
    rw [show putF f v ((k, x) :: r) = (if k = f then (k, v) :: r else (k, x) :: putF f v r) from rfl]
    by_cases hk : k = f
    · rw [if_pos hk]
      subst hk
      exact ⟨by simp, fun g h => by simpa using h⟩
    · rw [if_neg hk]
      refine ⟨?_, fun g h => ?_⟩
      · rw [List.map_cons]
        exact List.mem_cons_of_mem _ i1
      · rw [List.map_cons] at h ⊢
        rcases List.mem_cons.mp h with e | e
        · exact List.mem_cons.mpr (.inl e)
        · exact List.mem_cons_of_mem _ (i2 g e)
theorem length_putF (f : Str) (v : V) : ∀ fs : List (Str × V), (putF f v fs).length ≤ fs.length + 1
  | [] => by simp [putF]
  | (k, x) :: r => by
    have ih := length_putF f v r
    rw [show putF f v ((k, x) :: r) = (if k = f then (k, v) :: r else (k, x) :: putF f v r) from rfl]
    by_cases hk : k = f
    · rw [if_pos hk, List.length_cons, List.length_cons]; omega
    · rw [if_neg hk, List.length_cons, List.length_cons]; omega

theorem RelO.some_of {v : V} {o : Option Value} (r : RelO (some v) o) : ∃ u, o = some u ∧ RelV v u := by
  cases o with
  | none => exact (show False from r).elim
  | some u => exact ⟨u, rfl, r⟩
theorem handed_of {v : V} {u : Value} (r : RelV v u) : PySem.W.handedIn u = true := by
  cases v with
  | non => cases (show u = Value.none from r); rfl
  | bl b => cases (show u = Value.bool b from r); rfl
  | int i => obtain ⟨t, e⟩ := (show ∃ t, u = Value.int i t from r); cases e; rfl
  | str x => obtain ⟨t, e⟩ := (show ∃ t, u = Value.str x t from r); cases e; rfl
  | byt b => obtain ⟨t, e⟩ := (show ∃ t, u = Value.bytes b t from r); cases e; rfl
  | flt b => obtain ⟨t, e⟩ := (show ∃ t, u = Value.float b t from r); cases e; rfl
  | ref a => cases (show u = Value.ref a from r); rfl
  | ty n => cases (show u = Value.type n from r); rfl

section
variable {P : Program} {w : World} {H H' : Hp} {h h' : Heap} {a C dx : Addr} {fs fs' : List (Str × V)}
theorem ins_get (hok : HOk P w H h) (e : H a = some (.ins C dx fs)) : ∃ mA, ObjM h a dx C mA ∧ (∀ f, RelO (fs.lookup f) (mA f)) ∧ PySem.Within mA (fs.map (·.1)) ∧ fs.length ≤ 1000 ∧ H dx = some (.own a) := by
  obtain ⟨d, z, ne, ob, mA, n, r, q⟩ := (show ObjOk P w H h a (.ins C dx fs) from hok a _ e)
  exact ⟨mA, ⟨ob, n, ne⟩, r, q, z, d⟩
end

structure Cls (K : PySem.W.Frag) (C : Addr) : Prop where
  pg : PySem.W.plainGet K C Str.empty = true
  hd : PySem.W.hasDictIn K C = true
  po : PySem.W.plainOver K C = true
  sa : PySem.W.findIn K (.ref C) "__setattr__" = some (some (.builtin "object.__setattr__"))
theorem Cls.get {K : PySem.W.Frag} {C : Addr} (c : Cls K C) (f : Str) : PySem.W.plainGet K C f = true := c.pg
/-- no class of it has the name -/
def NoAttr (K : PySem.W.Frag) (C : Addr) (f : Str) : Prop := PySem.W.findIn K (.ref C) f = some none
theorem NoAttr.taker {K : PySem.W.Frag} {C : Addr} {f : Str} (n : NoAttr K C f) : PySem.W.takerIn K C f = some none := by
  unfold PySem.W.takerIn
  rw [show PySem.W.findIn K (.ref C) f = some none from n]
  rfl

section
variable {X : Cx} {pins : List (Addr × Obj)} {σ : St} {H : Hp} {s : Shared} {a C dx : Addr} {fs : List (Str × V)} {f : Str} {v : V} {A : Around} {E : Value → Shared → Prop}

theorem getattr_ok {b : Bool} {Q : Value → Shared → Prop} (I : Inv X pins σ H s) (e : H a = some (.ins C dx fs)) (c : Cls X.K C) (n : NoAttr X.K C f) (l : fs.lookup f = some v)
    (h : ∀ u s', Inv X pins σ H s' → RelV v u → Q u s') : wpAny (model X.prog X.w) A (getAttr (.ref a) f b) Q E s := by
  obtain ⟨mA, O, r, _, _, _⟩ := ins_get I.hok e
  obtain ⟨u, hu, ru⟩ := RelO.some_of (v := v) (o := mA f) (by rw [← l]; exact r f)
  exact get_map I.kIn O (c.get f) c.hd n hu (handed_of ru) (h u _ (I.tok _) ru)

theorem setattr_ok {y : V} {u : Value} {Q : Unit → Shared → Prop} (I : Inv X pins σ H s) (e : H a = some (.ins C dx fs)) (c : Cls X.K C) (n : NoAttr X.K C f) (hl : fs.length < 1000) (ry : RelV y u)
    (h : ∀ s', Inv X pins σ (upd H a (.ins C dx (putF f y fs))) s' → Q () s') : wpAny (model X.prog X.w) A (setAttr (.ref a) f u) Q E s := by
  obtain ⟨mA, O, r, wi, _, ho⟩ := ins_get I.hok e
  have hz : (fs.map (·.1)).length ≤ sizeLine := by rw [List.length_map, sizeLine_eq]; omega
  refine set_map I.kIn O c.sa c.po n.taker c.hd wi hz fun h' O' sb => h _ ?_
  have hd : ∃ o, h'.get? dx = some o := let ⟨o, _, _, e', _⟩ := O'.ns; ⟨o, e'⟩
  refine I.write (x := a) (e := dx) (by rw [e]; exact True.intro) (.inr ho) (fun b q hb z => (sb.2 b hb).trans z) hd ?_
  refine ⟨by rw [upd_ne O.ne]; exact ho, ?_, O.ne, O'.obj, _, O'.ns, fun g => ?_, fun g hg => ?_⟩
  · have := length_putF f y fs; omega
  · show RelO ((putF f y fs).lookup g) (if g = f then some u else mA g)
    rw [lookup_putF]
    by_cases q : g = f
    · rw [if_pos q, if_pos q]; exact ry
    · rw [if_neg q, if_neg q]; exact r g
  · by_cases q : g = f
    · rw [q]; exact (keys_putF f y fs).1
    · refine (keys_putF f y fs).2 g (wi g fun z => hg ?_)
      show (if g = f then some u else mA g) = none
      rw [if_neg q]; exact z

/-- a new instance, tracked, without attributes -/
theorem Inv.made (I : Inv X pins σ H s) : Inv X pins σ (upd (upd H s.heap.objs.size (.own (s.heap.objs.size + 1))) (s.heap.objs.size + 1) (.ins C s.heap.objs.size []))
    { s with heap := (s.heap.push PySem.W.emptyDict).push (PySem.W.instObj C s.heap.objs.size) } := by
  have e1 : (s.heap.push PySem.W.emptyDict).get? s.heap.objs.size = some PySem.W.emptyDict := Heap.get?_push_size s.heap rfl
  have e2 : ((s.heap.push PySem.W.emptyDict).push (PySem.W.instObj C s.heap.objs.size)).get? (s.heap.objs.size + 1) = some (PySem.W.instObj C s.heap.objs.size) := by
    have := Heap.get?_push_size (s.heap.push PySem.W.emptyDict) (o := PySem.W.instObj C s.heap.objs.size) rfl
    rwa [Heap.size_push] at this
  have e3 : (s.heap.push PySem.W.emptyDict).Ns s.heap.objs.size (fun _ => none) := ⟨PySem.W.emptyDict, #[], _, e1, rfl, (fun e he => absurd he (by simp)), fun _ => rfl⟩
  have I1 := I.laid (a := s.heap.objs.size) (o := .own (s.heap.objs.size + 1)) (h' := s.heap.push PySem.W.emptyDict) (t' := s.toks) (fun b u q => Heap.get?_push_of_some _ q) (Nat.le_refl _) ⟨_, e1⟩
  refine I1.laid (a := s.heap.objs.size + 1) (o := .ins C s.heap.objs.size []) (t' := s.toks) (fun b u q => Heap.get?_push_of_some _ q) (Nat.le_of_eq (Heap.size_push _ _)) ?_
  have ne : s.heap.objs.size ≠ s.heap.objs.size + 1 := Nat.ne_of_lt (Nat.lt_succ_self _)
  refine ⟨by rw [upd_ne ne, upd_same], Nat.zero_le _, ne, e2, fun _ => none, (Heap.Ns1.of_empty e3).at fun o q => Heap.get?_push_of_some _ q, fun _ => True.intro, fun y hy => absurd rfl hy⟩

/-- e.f where nothing but the object is asked: through attributeBase (super) and the last hold -/
theorem attr_of {prog : Program} {w : World} {env : Env} {e : Expr} {f : Str} {pos : Pos} {s : Shared} {Q : Value → Shared → Prop} (hb : attributeBase e f env (eval e env) = eval e env)
    (h : wpAny (model prog w) A (eval e env) (fun o s₁ => wpAny (model prog w) A (getAttr o f true) Q E s₁) E s) : wpAny (model prog w) A (eval (.Attribute e f pos) env) Q E s :=
  Attribute_any_ h (by rw [arm_eval_Attribute, hb])
end

/-- e.f, an attribute of the instance -/
def tFld (K : PySem.W.Frag) (ta : TE) (f : Str) : TE := fun σ H Q => ta σ H fun x H1 => ∃ a C dx fs v, x = .ref a ∧ H1 a = some (.ins C dx fs) ∧ Cls K C ∧ NoAttr K C f ∧ fs.lookup f = some v ∧ Q v H1
/-- e.f = value -/
def sFld (K : PySem.W.Frag) (ta tv : TE) (f : Str) : TS := fun D σ H => tv σ H fun y H1 => ta σ H1 fun x H2 => ∃ a C dx fs, x = .ref a ∧ H2 a = some (.ins C dx fs) ∧ Cls K C ∧ NoAttr K C f ∧ fs.length < 1000 ∧
  D.nx σ (upd H2 a (.ins C dx (putF f y fs)))

section
variable {X : Cx} {o e value : Expr} {f : Str} {pos pos' tpos : Pos} {ta tv : TE}
theorem pe_fld (he : PE X e ta) (hb : attributeBase e f X.env (eval e X.env) = eval e X.env) : PE X (.Attribute e f pos) (tFld X.K ta f) := by
  intro pins s σ H Q I h
  refine attr_of hb (thn (he pins s σ H _ I h) fun u s1 ⟨x, H1, I1, rx, a, C, dx, fs, v, ex, ea, c, n, l, q⟩ => ?_)
  subst ex
  obtain rfl : u = Value.ref a := rx
  exact getattr_ok I1 ea c n l fun u' s2 I2 ru => ⟨v, H1, I2, ru, q⟩
theorem ps_fld (ha : PE X o ta) (hv : PE X value tv) (hs : swapsWith value (some (.Attribute o f pos')) pos.line X.env = pure false) : PS X (.Assign [.Attribute o f pos'] value pos) (sFld X.K ta tv f) := by
  intro pins s σ H D I h
  refine plainObj_wpAny_Assign_Attribute (thn (hv pins s σ H _ I h) fun u s1 ⟨y, H1, I1, ry, q⟩ => thn (ha pins s1 σ H1 _ I1 q) fun ov s2 ⟨x, H2, I2, rx, a, C, dx, fs, ex, ea, c, n, l, q2⟩ => ?_) hs
  subst ex
  obtain rfl : ov = Value.ref a := rx
  exact setattr_ok I2 ea c n l ry fun s3 I3 => ⟨σ, _, I3, q2⟩

end

section
variable {X : Cx} {pins : List (Addr × Obj)} {σ : St} {H : Hp} {s : Shared} {A : Around} {E : Value → Shared → Prop} {Q : Value → Shared → Prop} {c : Value} {b : Bool}
/-- the type of a value, as the fragment's deciders take it; for an instance its class -/
inductive TyOf (K : PySem.W.Frag) (H : Hp) : V → Value → Prop where
  | non : TyOf K H .non (.type "NoneType")
  | bl (x : Bool) : TyOf K H (.bl x) (.type "bool")
  | int (i : Int) : TyOf K H (.int i) (.type "int")
  | str (x : Str) : TyOf K H (.str x) (.type "str")
  | flt (x : UInt64) : TyOf K H (.flt x) (.type "float")
  | lst {a : Addr} {xs : List V} (e : H a = some (.lst xs)) : TyOf K H (.ref a) (.type "list")
  | frz {a : Addr} {o : Obj} {xs : List V} (e : H a = some (.frz o (.lst xs))) : TyOf K H (.ref a) (.type "list")
  | tup {a : Addr} {xs : List V} (e : H a = some (.tup xs)) : TyOf K H (.ref a) (.type "tuple")
  | dK {a : Addr} {kvs : List (Key × V)} (e : H a = some (.dK kvs)) : TyOf K H (.ref a) (.type "dict")
  | dT {a : Addr} {kvs : List (List Key × V)} (e : H a = some (.dT kvs)) : TyOf K H (.ref a) (.type "dict")
  | ins {a C dx : Addr} {fs : List (Str × V)} (e : H a = some (.ins C dx fs)) (cl : Cls K C) (ha : PySem.W.findIn K (.ref C) "__class__" = some (some (.builtin "object.__class__")))
      (hn : PySem.W.specialIn K (.builtin "object.__class__") "__get__" = some (some (.builtin "getset_descriptor.__get__"))) (htk : PySem.W.takesIn K (.builtin "object.__class__") = some true)
      (hm : PySem.W.mroIn K C (.type "object") = some true) : TyOf K H (.ref a) (.ref C)
/-- isinstance(x, c) for one class c, a built-in or an own one: kitOne's answer -/
theorem isinst_ok {x : V} {u t : Value} (I : Inv X pins σ H s) (rx : RelV x u) (ty : TyOf X.K H x t) (e : PySem.W.kitOne X.K t c = some b) (h : ∀ tk, Q (.bool b) { s with toks := tk }) :
    wpAny (model X.prog X.w) A (call (.builtin "isinstance") [u, c]) Q E s := by
  cases ty with
  | non => cases (show u = Value.none from rx); exact PySem.W.kia_one PySem.W.kitx_none I.kIn True.intro e (fun z => nomatch z) h
  | bl y => cases (show u = Value.bool y from rx); exact PySem.W.kia_one PySem.W.kitx_bool I.kIn True.intro e (fun z => nomatch z) h
  | int i => obtain ⟨t, q⟩ := (show ∃ t, u = Value.int i t from rx); cases q; exact PySem.W.kia_one PySem.W.kitx_int I.kIn True.intro e (fun z => nomatch z) h
  | str y => obtain ⟨t, q⟩ := (show ∃ t, u = Value.str y t from rx); cases q; exact PySem.W.kia_one PySem.W.kitx_str I.kIn True.intro e (fun z => nomatch z) h
  | flt y => obtain ⟨t, q⟩ := (show ∃ t, u = Value.float y t from rx); cases q; exact PySem.W.kia_one PySem.W.kitx_float I.kIn True.intro e (fun z => nomatch z) h
  | @lst a xs ea =>
    cases (show u = Value.ref a from rx)
    obtain ⟨_, _, n, _, h1⟩ := (show ObjOk X.prog X.w H s.heap a (.lst xs) from I.hok a _ ea)
    exact PySem.W.kia_one PySem.W.kitx_list I.kIn ⟨_, h1, rfl⟩ e (fun z => nomatch z) h
  | @frz a ob xs ea =>
    cases (show u = Value.ref a from rx)
    obtain ⟨_, _, _, n, _, h1⟩ := (show ObjOk X.prog X.w H s.heap a (.frz ob (.lst xs)) from I.hok a _ ea)
    exact PySem.W.kia_one PySem.W.kitx_list I.kIn ⟨_, h1, rfl⟩ e (fun z => nomatch z) h
  | @tup a xs ea =>
    cases (show u = Value.ref a from rx)
    obtain ⟨_, _, _, p⟩ := (show ObjOk X.prog X.w H s.heap a (.tup xs) from I.hok a _ ea)
    obtain ⟨o, h1, h2, _⟩ := p
    exact PySem.W.kia_one PySem.W.kitx_tuple I.kIn ⟨o, h1, h2⟩ e (fun z => nomatch z) h
  | @dK a kvs ea =>
    cases (show u = Value.ref a from rx)
    obtain ⟨_, _, vs, _, p⟩ := (show ObjOk X.prog X.w H s.heap a (.dK kvs) from I.hok a _ ea)
    obtain ⟨o, es, ep, h1, h2, _⟩ := p
    exact PySem.W.kia_one PySem.W.kitx_dict I.kIn ⟨o, h1, h2.1⟩ e (fun z => nomatch z) h
  | @dT a kvs ea =>
    cases (show u = Value.ref a from rx)
    obtain ⟨_, _, xs, _, o, es, ep, h1, h2, _⟩ := (show ObjOk X.prog X.w H s.heap a (.dT kvs) from I.hok a _ ea)
    exact PySem.W.kia_one PySem.W.kitx_dict I.kIn ⟨o, h1, h2.1⟩ e (fun z => nomatch z) h
  | @ins a C dx fs ea cl ha hn htk hm =>
    cases (show u = Value.ref a from rx)
    obtain ⟨mA, O, _⟩ := ins_get I.hok ea
    obtain ⟨od, J, _⟩ := O.look
    exact PySem.W.kia_one (PySem.W.kitx_own (cl.get _) cl.hd ha hn htk hm) I.kIn J e (fun z => nomatch z) h
end
end L2

namespace L2
open PySem PySem.Spec PyProof.Rows

structure Room (k : Nat) (A : Around) : Prop where
  hd : A.handled = none
  dp : A.depth + 3 * k + 5 < recursionLimit
  un : A.units + 16 * k + 200 < cLine
theorem Room.mono {j k : Nat} {A : Around} (r : Room k A) (h : j ≤ k) : Room j A := ⟨r.hd, by have := r.dp; omega, by have := r.un; omega⟩
theorem Room.deeper {k : Nat} {A : Around} (r : Room (k + 1) A) (env : Env) : Room k (A.deeper env) :=
  ⟨r.hd, by have := r.dp; show A.depth + 1 + 3 * k + 5 < _; omega, by have := r.un; show A.units + 3 + 16 * k + 200 < _; omega⟩
theorem make_depth {A : Around} {C : Addr} {us : List Value} {kw : List (Str × Value)} : (A.under (.builtin "type.__call__" ⟨.ref C :: us, kw⟩)).depth = A.depth + 1 := by
  first | rfl | simp [Around.under, Code.weight, Code.isCreation, Code.isGuard, Code.isCaller, Code.frames, Code.isFrame, guardIds]
theorem make_units {A : Around} {C : Addr} {us : List Value} {kw : List (Str × Value)} : (A.under (.builtin "type.__call__" ⟨.ref C :: us, kw⟩)).units = A.units + 1 := by
  first | rfl | simp [Around.under, Code.cUnits, Code.frames, Code.isFrame]
theorem Room.make {k : Nat} {A : Around} (r : Room (k + 1) A) (C : Addr) (us : List Value) (kw : List (Str × Value)) : Room k (A.under (.builtin "type.__call__" ⟨.ref C :: us, kw⟩)) :=
  ⟨r.hd, by have := r.dp; rw [make_depth]; omega, by have := r.un; rw [make_units]; omega⟩
theorem Room.depth {k : Nat} {A : Around} (r : Room k A) : A.depth < recursionLimit := by have := r.dp; omega

def tNil : TA := fun _ H Q => Q [] H
def tCons (ta : TE) (tr : TA) : TA := fun σ H Q => ta σ H fun x H1 => tr σ H1 fun xs H2 => Q (x :: xs) H2
section
variable {X : Cx} {e : Expr} {es : List Expr} {te : TE} {t : TA} {pos : Pos}
theorem pa_nil : PA X [] tNil := fun _ _ _ _ H Q I h => Calls.spliced_nil ⟨[], H, I, .nil, h⟩
theorem pa_cons (ha : PE X e te) (hr : PA X es t) (hs : starEach (e :: es) X.env = (false, eval e X.env) :: starEach es X.env := by rfl) : PA X (e :: es) (tCons te t) := by
  intro pos pins s σ H Q I h
  rw [hs]
  show wpAny _ _ (spliced ((false, eval e X.env) :: backTo pos (starEach es X.env))) _ _ s
  refine Calls.spliced_cons (thn (ha pins s σ H _ I h) fun u s1 ⟨x, H1, I1, r1, q1⟩ => ?_)
  exact thn (hr pos pins s1 σ H1 _ I1 q1) fun us s2 ⟨xs, H2, I2, r2, q2⟩ => ⟨x :: xs, H2, I2, .cons r1 r2, q2⟩

def tLst (t : TA) : TE := fun σ H Q => t σ H fun xs H1 => xs.length ≤ sizeLine ∧ ∀ p, H1 p = none → Q (.ref p) (upd H1 p (.lst xs))
theorem pe_lst (h : PA X es t) : PE X (.List es pos) (tLst t) := by
  intro pins s σ H Q I hq
  refine wpAny_List_spliced (thn (h pos pins s σ H _ I hq) fun us s1 ⟨xs, H1, I1, r, z, q⟩ => ⟨by rw [← r.length]; exact z, ?_⟩)
  have hf : H1 s1.heap.objs.size = none := I1.hok.fresh (Nat.le_refl _)
  refine ⟨.ref s1.heap.objs.size, upd H1 s1.heap.objs.size (.lst xs), I1.laid (t' := s1.toks) (fun b u e => Heap.get?_push_of_some _ e) (Nat.le_refl _) ?_, rfl, q _ hf⟩
  exact ⟨z, us, 0, r, Heap.get?_push_size _ rfl⟩
end

/-- a def's promise: the bound arguments in the parameters' order, the heap, the wanted end, the wanted exception -/
abbrev Sp := List V → Hp → VK → XK → Prop
/-- how an exception lies behind a call (file 08 gives it): the callers' frames, abstract heap and state ahead of the call, the wish, the exception, the state -/
abbrev CXT := List Env → Hp → Shared → XK → Value → Shared → Prop

/-- the state at a call -/
structure Env0 (P : Program) (w : World) (K : PySem.W.Frag) (mg : Str → Option Value) (base : Heap) (A : Around) (outer : List Env) (s : Shared) (H : Hp) : Prop where
  frames : A.frames = some outer
  mod : Mod K mg base
  bs : ∀ b o, base.get? b = some o → s.heap.get? b = some o ∧ H b = none
  bsz : base.objs.size ≤ s.heap.objs.size
  funs : s.heap.FunFrames base outer
  frf : ∀ b ∈ frs outer, H b = none
  hok : HOk P w H s.heap
  bare : AllBare s.gens
/-- a call's end -/
def CE (outer : List Env) (P : Program) (w : World) (H : Hp) (s : Shared) (Q : VK) (u : Value) (s' : Shared) : Prop :=
  ∃ v H', s'.os = s.os ∧ AllBare s'.gens ∧ Un (frs outer) [] H H' s.heap s'.heap ∧ HOk P w H' s'.heap ∧ RelV v u ∧ Q v H'
def CR (CX : CXT) (outer : List Env) (P : Program) (w : World) (H : Hp) (s : Shared) (Q : VK) (E : XK) (r : Result) (s' : Shared) : Prop :=
  match r with
  | .ok (.ret u) => CE outer P w H s Q u s'
  | .ok _ => False
  | .error e => CX outer H s E e s'
structure FnOk (P : Program) (w : World) (K : PySem.W.Frag) (mg : Str → Option Value) (base : Heap) (CX : CXT) (k : Nat) (f : Addr) (fd : FuncData) (ps : List Str) (sp : Sp) : Prop where
  len : ∀ vs H Q E, sp vs H Q E → vs.length = ps.length
  run : ∀ (A : Around) (outer : List Env) (s : Shared) (H : Hp) (args : Args) (us : List Value) (vs : List V) (Q : VK) (E : XK), Room k A → Env0 P w K mg base A outer s H → BindsTo s fd args (ps.zip us) → Vals vs us → sp vs H Q E →
    codeAny (model P w) A (.call (.ref f) args) (CR CX outer P w H s Q E) s

theorem Env0.make {P : Program} {w : World} {K : PySem.W.Frag} {mg : Str → Option Value} {base : Heap} {A : Around} {outer : List Env} {s : Shared} {H : Hp} (e : Env0 P w K mg base A outer s H) (C : Addr) (us : List Value) (kw : List (Str × Value)) :
    Env0 P w K mg base (A.under (.builtin "type.__call__" ⟨.ref C :: us, kw⟩)) outer s H := ⟨by first | exact e.frames | (simpa [Around.under, Code.envs, Code.isFrame, pushEnvs] using e.frames), e.mod, e.bs, e.bsz, e.funs, e.frf, e.hok, e.bare⟩

section
variable {X : Cx} {pins : List (Addr × Obj)} {σ : St} {H : Hp} {s s' : Shared}
/-- from a body: what a callee wants -/
theorem Inv.env0 (I : Inv X pins σ H s) : Env0 X.prog X.w X.K X.mg X.base X.A X.stack s H :=
  ⟨I.ok.frames, I.ok.mod, I.bs, Nat.le_trans I.ok.bsz I.sz, I.stack, I.stkFree, I.hok, I.bare⟩
/-- behind a call -/
theorem Inv.after {Q : VK} {u : Value} (I : Inv X pins σ H s) (h : CE X.stack X.prog X.w H s Q u s') : EP X pins σ Q u s' := by
  obtain ⟨v, H', os, bare, un, hok, r, q⟩ := h
  obtain ⟨hh, g, d, t, os'⟩ := s'
  obtain rfl : os' = s.os := os
  exact ⟨v, H', I.call (h' := hh) (g' := g) (d' := d) (t' := t) (ch := []) un hok bare (fun b z => absurd z (by simp)), r, q⟩
end

/-- f(..): the written arguments, then the defaults dvs; E: what is wanted of an exception -/
def tCall (sp : Sp) (dvs : List V) (E : XK) (t : TA) : TE := fun σ H Q => t σ H fun vs H1 => sp (vs ++ dvs) H1 Q E
/-- C(..): a new instance and its dict, then __init__ -/
def tMake (C : Addr) (sp : Sp) (dvs : List V) (E : XK) (t : TA) : TE := fun σ H Q => t σ H fun vs H1 => ∀ x dx, H1 x = none → H1 dx = none → dx ≠ x →
  sp (.ref x :: (vs ++ dvs)) (upd (upd H1 dx (.own x)) x (.ins C dx [])) (fun v H2 => v = .non ∧ Q (.ref x) H2) E

/-- how the parameters are bound: us the positional arguments, kw the keywords' values by name, ds the defaults that fill up -/
def Binds (K : PySem.W.Frag) (fd : FuncData) (ps : List Str) (ds : List Value) : Prop :=
  ∀ (s : Shared) (us : List Value), K.In s.heap → (us ++ ds).length = ps.length → BindsTo s fd ⟨us, []⟩ (ps.zip (us ++ ds))
/-- every parameter is given -/
theorem Binds.all {K : PySem.W.Frag} {fd : FuncData} {ps : List Str} (h : ∀ us : List Value, us.length = ps.length → bindArgs fd ⟨us, []⟩ = pure (ps.zip us)) : Binds K fd ps [] := fun s us _ hl => by
  rw [List.append_nil] at hl ⊢
  exact .of_eq (h us hl)

/-- an exception of a callee reaches what this body wants of exceptions -/
def Passes (CX : CXT) (X : Cx) (E : XK) : Prop := ∀ (pins : List (Addr × Obj)) (σ : St) (H : Hp) (s : Shared) (e : Value) (s' : Shared), Inv X pins σ H s → CX X.stack H s E e s' → X.xe e s'

section
variable {X : Cx} {CX : CXT} {k : Nat} {f C : Addr} {fd : FuncData} {ps : List Str} {sp : Sp} {dvs : List V} {ds : List Value} {E : XK} {x m : Str} {p pos apos : Pos} {e o : Expr} {es : List Expr} {ta : TE} {t : TA}

/-- the callee runs -/
theorem run_fn {pins : List (Addr × Obj)} {σ : St} {H : Hp} {s : Shared} {Q : VK} {us : List Value} {vs : List V} (F : FnOk X.prog X.w X.K X.mg X.base CX k f fd ps sp) (hr : Room k X.A) (hb : Binds X.K fd ps ds) (hd : Vals dvs ds) (hx : Passes CX X E)
    (I : Inv X pins σ H s) (r : Vals vs us) (h : sp (vs ++ dvs) H Q E) : wpAny (model X.prog X.w) X.A (call (.ref f) us) (EP X pins σ Q) X.xe s := by
  have r2 : Vals (vs ++ dvs) (us ++ ds) := r.append hd
  have hl : (us ++ ds).length = ps.length := by rw [← r2.length]; exact F.len _ _ _ _ h
  refine wpAny_call (codeAny_mono (F.run X.A X.stack s H ⟨us, []⟩ (us ++ ds) (vs ++ dvs) Q E hr I.env0 (hb s us I.kIn hl) r2 h) fun r s' hq => ?_)
  cases r with
  | error e => exact hx pins σ H s e s' I hq
  | ok fl =>
    cases fl with
    | ret u => exact I.after hq
    | next => exact False.elim hq
    | brk => exact False.elim hq
    | cont => exact False.elim hq

theorem pe_call (F : FnOk X.prog X.w X.K X.mg X.base CX k f fd ps sp) (hr : Room k X.A) (hg : Gl X x) (hm : X.mg x = some (.ref f)) (hk : PySem.W.keepIn X.K (.ref f) = true) (hb : Binds X.K fd ps ds) (hd : Vals dvs ds) (hx : Passes CX X E)
    (ha : PA X (e :: es) t) (hdb : (x == ("__debug__" : Str)) = false := by decide) (he : starEach (e :: es) X.env = (false, eval e X.env) :: starEach es X.env := by rfl) (hpl : (backTo pos (starEach es X.env)).any (·.1) = false := by rfl) :
    PE X (.Call (.Name x p) (e :: es) [] pos) (tCall sp dvs E t) := by
  intro pins s σ H Q I h
  refine wpAny_Call_Name_kw (ld_glob I hg hm ?_ hdb)
  refine PySem.W.callWith_K (h₀ := X.base) I.ok.mod.kin hk (thn (ha pos pins s σ H _ I h) fun us s1 ⟨vs, H1, I1, r, q⟩ => ⟨I1.kIn, ?_⟩) he hpl
  exact run_fn F hr hb hd hx I1 r q

/-- what a class must have to be made -/
structure Mk (K : PySem.W.Frag) (C f : Addr) : Prop where
  makes : PySem.W.makesIn K C = true
  init : PySem.W.findIn K (.ref C) "__init__" = some (some (.ref f))
  fn : PySem.W.isFn K (.ref f) = true
  kp : PySem.W.keepIn K (.ref C) = true

theorem run_make {pins : List (Addr × Obj)} {σ : St} {H : Hp} {s : Shared} {Q : VK} {us : List Value} {vs : List V} (M : Mk X.K C f) (F : FnOk X.prog X.w X.K X.mg X.base CX k f fd ps sp) (hr : Room (k + 1) X.A) (hb : Binds X.K fd ps ds) (hd : Vals dvs ds)
    (hx : Passes CX X E) (I : Inv X pins σ H s) (r : Vals vs us)
    (h : ∀ x dx, H x = none → H dx = none → dx ≠ x → sp (.ref x :: (vs ++ dvs)) (upd (upd H dx (.own x)) x (.ins C dx [])) (fun v H2 => v = .non ∧ Q (.ref x) H2) E) :
    wpAny (model X.prog X.w) X.A (call (.ref C) us) (EP X pins σ Q) X.xe s := by
  have hq := h (s.heap.objs.size + 1) s.heap.objs.size (I.hok.fresh (Nat.le_succ _)) (I.hok.fresh (Nat.le_refl _)) (Nat.ne_of_lt (Nat.lt_succ_self _))
  have I2 := Inv.made (C := C) I
  have r2 : Vals (V.ref (s.heap.objs.size + 1) :: (vs ++ dvs)) (Value.ref (s.heap.objs.size + 1) :: (us ++ ds)) := .cons rfl (r.append hd)
  have hl : (Value.ref (s.heap.objs.size + 1) :: us ++ ds).length = ps.length := by
    have e := r2.length
    rw [F.len _ _ _ _ hq] at e
    exact e.symm
  refine wpAny_call (make_map (f := f) I.kIn M.makes M.init (beq_iff_eq.mp M.fn) (codeAny_mono (F.run _ X.stack _ _ ⟨Value.ref (s.heap.objs.size + 1) :: us, []⟩ (Value.ref (s.heap.objs.size + 1) :: (us ++ ds)) _ _ E (hr.make C us [])
    (I2.env0.make C us []) (hb _ (Value.ref (s.heap.objs.size + 1) :: us) I2.kIn hl) r2 hq) fun r s' hq' => ?_))
  cases r with
  | error e => exact hx pins σ _ _ e s' I2 hq'
  | ok fl =>
    cases fl with
    | ret u =>
      obtain ⟨v, H', I3, rv, ev, q3⟩ := I2.after hq'
      subst ev
      exact ⟨rv, ⟨V.ref (s.heap.objs.size + 1), H', I3, rfl, q3⟩⟩
    | next => exact False.elim hq'
    | brk => exact False.elim hq'
    | cont => exact False.elim hq'
theorem pe_make (M : Mk X.K C f) (F : FnOk X.prog X.w X.K X.mg X.base CX k f fd ps sp) (hr : Room (k + 1) X.A) (hg : Gl X x) (hm : X.mg x = some (.ref C)) (hb : Binds X.K fd ps ds) (hd : Vals dvs ds) (hx : Passes CX X E)
    (ha : PA X (e :: es) t) (hdb : (x == ("__debug__" : Str)) = false := by decide) (he : starEach (e :: es) X.env = (false, eval e X.env) :: starEach es X.env := by rfl) (hpl : (backTo pos (starEach es X.env)).any (·.1) = false := by rfl) :
    PE X (.Call (.Name x p) (e :: es) [] pos) (tMake C sp dvs E t) := by
  intro pins s σ H Q I h
  refine wpAny_Call_Name_kw (ld_glob I hg hm ?_ hdb)
  refine PySem.W.callWith_K (h₀ := X.base) I.ok.mod.kin M.kp (thn (ha pos pins s σ H _ I h) fun us s1 ⟨vs, H1, I1, r, q⟩ => ⟨I1.kIn, ?_⟩) he hpl
  exact run_make M F hr hb hd hx I1 r q
end

section
variable {X : Cx} {CX : CXT} {k : Nat} {f C : Addr} {fd : FuncData} {ps ks : List Str} {sp : Sp} {E : XK} {x m : Str} {p pos apos kpos : Pos} {e o : Expr} {es : List Expr} {kws : List Keyword} {te ta : TE} {t tk : TA} {nm : Option Str}

variable {g : List Value → List Value → List Value} {gV : List V → List V → List V}
end

/-- names: the parameters first -/
structure FnScope (N P : List Str) (sc : Scope) : Prop where
  kind : sc.kind = .function
  co : sc.isCoroutine = false
  gen : sc.isGenerator = false
  nd : N.Nodup
  pre : N.take P.length = P
  par : ∀ x ∈ P, sc.names.lookup x = some .local ∨ sc.names.lookup x = some .cell
  nofree : ∀ y ∈ sc.names, y.2 ≠ .free

theorem bindL_out {kindOf : Str → Option NameKind} {x : Str} : ∀ {binds : List (Str × Value)} {m : Str → Option Value}, (∀ v, (x, v) ∉ binds) → bindL kindOf binds m x = m x
  | [], _, _ => rfl
  | (n, v) :: r, m, h => by
    unfold bindL
    rw [bindL_out fun w hw => h w (List.mem_cons_of_mem _ hw)]
    split
    · have : x ≠ n := by rintro rfl; exact h v List.mem_cons_self
      simp [this]
    · rfl
theorem bindC_out {kindOf : Str → Option NameKind} {x : Str} : ∀ {binds : List (Str × Value)} {m : Str → Option Value}, (∀ v, (x, v) ∉ binds) → bindC kindOf binds m x = m x
  | [], _, _ => rfl
  | (n, v) :: r, m, h => by
    unfold bindC
    rw [bindC_out fun w hw => h w (List.mem_cons_of_mem _ hw)]
    split
    · rfl
    · have : x ≠ n := by rintro rfl; exact h v List.mem_cons_self
      simp [this]
theorem bindL_get {kindOf : Str → Option NameKind} {x : Str} {v : Value} : ∀ {P : List Str} {vs : List Value} {i : Nat} {m : Str → Option Value}, P.Nodup → P[i]? = some x → vs[i]? = some v → kindOf x = some .local →
    bindL kindOf (P.zip vs) m x = some v
  | [], _, _, _, _, h, _, _ => by simp at h
  | _ :: _, [], _, _, _, _, h, _ => by simp at h
  | p :: P, w :: vs, 0, m, nd, h1, h2, hk => by
    simp at h1 h2; subst h1; subst h2
    show bindL kindOf ((p, w) :: P.zip vs) m p = _
    unfold bindL
    rw [bindL_out fun v hv => (List.nodup_cons.mp nd).1 (List.of_mem_zip hv).1, if_pos hk]
    simp
  | p :: P, w :: vs, i + 1, m, nd, h1, h2, hk => by
    show bindL kindOf ((p, w) :: P.zip vs) m x = _
    unfold bindL
    exact bindL_get (i := i) (List.nodup_cons.mp nd).2 (by simpa using h1) (by simpa using h2) hk
theorem bindC_get {kindOf : Str → Option NameKind} {x : Str} {v : Value} : ∀ {P : List Str} {vs : List Value} {i : Nat} {m : Str → Option Value}, P.Nodup → P[i]? = some x → vs[i]? = some v → kindOf x ≠ some .local →
    bindC kindOf (P.zip vs) m x = some v
  | [], _, _, _, _, h, _, _ => by simp at h
  | _ :: _, [], _, _, _, _, h, _ => by simp at h
  | p :: P, w :: vs, 0, m, nd, h1, h2, hk => by
    simp at h1 h2; subst h1; subst h2
    show bindC kindOf ((p, w) :: P.zip vs) m p = _
    unfold bindC
    rw [bindC_out fun v hv => (List.nodup_cons.mp nd).1 (List.of_mem_zip hv).1, if_neg hk]
    simp
  | p :: P, w :: vs, i + 1, m, nd, h1, h2, hk => by
    show bindC kindOf ((p, w) :: P.zip vs) m x = _
    unfold bindC
    exact bindC_get (i := i) (List.nodup_cons.mp nd).2 (by simpa using h1) (by simpa using h2) hk

/-- the names' values at the entry -/
def start (N : List Str) (vs : List V) : St := vs.map some ++ List.replicate (N.length - vs.length) none

/-- the context of a def's body, at its entry; an exception leaves the frame, then lies as CX says -/
def cxOf (CX : CXT) (P : Program) (w : World) (K : PySem.W.Frag) (mg : Str → Option Value) (base : Heap) (N : List Str) (qual : Str) (scope : Scope) (f : Addr) (cd : Value) (A : Around) (outer : List Env) (s : Shared) (H : Hp) (E : XK) : Cx where
  prog := P
  w := w
  K := K
  mg := mg
  base := base
  A := A.deeper (envOfC qual scope s.heap.objs.size f cd)
  N := N
  s_0 := s
  H_0 := H
  env := envOfC qual scope s.heap.objs.size f cd
  outer := outer
  stack := envOfC qual scope s.heap.objs.size f cd :: outer
  ex := []
  calm := true
  fn := fun _ => true
  pn := []
  xe := fun e s' => wpAny (model P w) (A.deeper (envOfC qual scope s.heap.objs.size f cd)) (leaving (envOfC qual scope s.heap.objs.size f cd) e) (fun _ s'' => CX outer H s E e s'') (fun e' s'' => CX outer H s E e' s'') s'

theorem cell_has {sc : Scope} {n : Nat} {x : Str} (h : sc.names.lookup x = some .cell) : ∃ c, (cellsFrom n sc.names []).lookup x = some c := by
  have q := PySem.W.cellsFrom_some sc.names n [] (.inl h)
  exact Option.isSome_iff_exists.mp q

theorem inv_start {CX : CXT} {P : Program} {w : World} {K : PySem.W.Frag} {mg : Str → Option Value} {base : Heap} {N ps : List Str} {qual : Str} {scope : Scope} {f : Addr} {cd : Value} {A : Around} {outer : List Env} {s s1 : Shared} {H : Hp} {E : XK} {us : List Value} {vs : List V}
    (S : FnScope N ps scope) (hd : A.handled = none) (e0 : Env0 P w K mg base A outer s H) (hl : vs.length = ps.length) (r : Vals vs us)
    (x : InCallC s s.heap.objs.size (bindL (envOfC qual scope s.heap.objs.size f cd).kindOf (ps.zip us) fun _ => none) (cellsFrom (s.heap.objs.size + 1) scope.names []) (bindC (envOfC qual scope s.heap.objs.size f cd).kindOf (ps.zip us) fun _ => none) s1) :
    Inv (cxOf CX P w K mg base N qual scope f cd A outer s H E) [] (start N vs) H s1 := by
  have hpl : ps.length ≤ N.length := by have := congrArg List.length S.pre; rw [List.length_take] at this; omega
  obtain ⟨h1, tk, rfl, hk⟩ := x.done
  have noA : ∀ b : Addr, b ∉ (cxOf CX P w K mg base N qual scope f cd A outer s H E).ex := fun b z => absurd (show b ∈ ([] : List Addr) from z) (by simp)
  refine ⟨⟨e0.mod, S.kind, rfl, rfl, Nat.le_refl _, fun y z c h1 h2 => ?_, fun y hy => ?_, fun y c _ h => ?_, fun _ => hd, Around.frames_deeper e0.frames, .inr ⟨rfl, rfl⟩, fun b z => absurd z (noA b), e0.bs, e0.bsz, fun b _ _ => noA b, fun b z => absurd z (noA b), e0.funs, e0.frf⟩,
    rfl, e0.bare, Un.kept hk, ⟨_, x.toInCall.ns, fun i y v h1 h2 h3 => ?_⟩, fun y c h => ⟨_, x.cell y c h⟩, e0.hok.fresh (Nat.le_refl _), fun y c h => ?_, fun p hp => absurd (show p ∈ ([] : List (Addr × Obj)) from hp) (by simp), e0.hok.kept hk, ?_⟩
  · exact name_of_addr x.apart (PySem.mem_of_lookup h1) (PySem.mem_of_lookup h2)
  · have hy : scope.names.lookup y = some .cell ∨ scope.names.lookup y = some .free := hy
    rcases hy with hy | hy
    · exact cell_has hy
    · exact absurd rfl (S.nofree _ (PySem.mem_of_lookup hy))
  · exact Nat.le_of_lt (x.above y c (PySem.mem_of_lookup h))
  · have hi : i < vs.length := by
      unfold start at h2
      by_cases hi : i < vs.length
      · exact hi
      · rw [List.getElem?_append_right (by simpa using hi)] at h2
        rw [List.getElem?_replicate] at h2
        split at h2 <;> cases h2
    have ha : vs[i]? = some v := by
      unfold start at h2
      rw [List.getElem?_append_left (by simpa using hi), List.getElem?_map] at h2
      cases e : vs[i]? with
      | none => rw [e] at h2; cases h2
      | some a => rw [e] at h2; cases h2; rfl
    obtain ⟨u, hu, rv⟩ := r.get ha
    have hp : ps[i]? = some y := by
      rw [← S.pre, List.getElem?_take_of_lt (by omega)]; exact h1
    have ndP : ps.Nodup := by rw [← S.pre]; exact S.nd.sublist (List.take_sublist _ _)
    refine ⟨u, rv, ?_⟩
    rcases S.par y (List.mem_of_getElem? hp) with k | k
    · exact .inl ⟨k, bindL_get ndP hp hu k⟩
    · obtain ⟨c, e⟩ := cell_has (n := s.heap.objs.size + 1) k
      refine .inr ⟨.inl k, c, e, ?_⟩
      have q := x.cell y c e
      rw [bindC_get ndP hp hu (by show scope.names.lookup y ≠ _; rw [k]; decide)] at q
      exact q
  · exact e0.hok.fresh (Nat.le_of_lt (x.above y c (PySem.mem_of_lookup h)))
  · unfold start
    show _ = N.length
    rw [List.length_append, List.length_map, List.length_replicate]
    omega

/-- THE RULE: a def (or a method) of the text, by its body. The body's reading t is chosen for each entry; it is run at the parameters' values -/
theorem fn_of {CX : CXT} {P : Program} {w : World} {K : PySem.W.Frag} {mg : Str → Option Value} {base : Heap} {k : Nat} {f : Addr} {name qual : Str} {params : Arguments} {body : List Stmt} {scope : Scope} {dV kV doc pm cdv ct oc : Value} {an od : Option Addr}
    {osl : Array (Option Value)} {N ps : List Str} {sp : Sp} (lk : K.lookup f = some ⟨oc, od, .func (PySem.W.fnOf name qual params body scope dV kV doc pm an cdv ct), osl⟩) (hcd : PySem.W.codeIn K cdv qual = true) (S : FnScope N ps scope)
    (len : ∀ vs H Q E, sp vs H Q E → vs.length = ps.length)
    (hbody : ∀ (A : Around) (outer : List Env) (s : Shared) (H : Hp) (vs : List V) (Q : VK) (E : XK), Room k (A.deeper (envOfC qual scope s.heap.objs.size f cdv)) → sp vs H Q E →
      ∃ t, PSs (cxOf CX P w K mg base N qual scope f cdv A outer s H E) body t ∧ t { nx := fun _ H' => Q .non H', rt := Q } (start N vs) H) :
    FnOk P w K mg base CX (k + 1) f (PySem.W.fnOf name qual params body scope dV kV doc pm an cdv ct) ps sp := by
  refine ⟨len, fun A outer s H args us vs Q E hr e0 hb r hsp => ?_⟩
  have hl := len _ _ _ _ hsp
  have KX : K.In s.heap := e0.mod.kin.keeps fun b o e => (e0.bs b o e).1
  have lim : s.heap.NoLimit := e0.mod.nolimit.keeps fun b o e => (e0.bs b o e).1
  have hkind : ∀ y ∈ ps.zip us, scope.names.lookup y.1 = some .local ∨ (scope.names.lookup y.1 = some .cell ∧ ((cellsFrom (s.heap.objs.size + 1) scope.names []).lookup y.1).isSome = true) := fun ⟨n, v⟩ hy => by
    rcases S.par n (List.of_mem_zip hy).1 with q | q
    · exact .inl q
    · exact .inr ⟨q, PySem.W.cellsFrom_some _ _ _ (.inl q)⟩
  refine codeAny_call_function hr.depth (KX _ _ lk) rfl S.co S.gen rfl (PySem.W.codeRec_of KX hcd) (hb _ _ _ _ ?_)
  refine wpAny_newFunctionEnv_cells S.kind hkind fun env he s1 x => ?_
  subst he
  refine ⟨lim.keeps x.toInCall.keep, codeAny_func ?_⟩
  obtain ⟨t, ht, hq⟩ := hbody A outer s H vs Q E (hr.deeper _) hsp
  have I : Inv (cxOf CX P w K mg base N qual scope f cdv A outer s H E) [] (start N vs) H s1 := inv_start S hr.hd e0 hl r x
  refine wpAny_mono (ht [] s1 (start N vs) H _ I hq) (fun fl s' hs => ?_) fun e s' hs => hs
  have fin : ∀ {σ' : St} {H' : Hp} {v : V} {u : Value}, Inv (cxOf CX P w K mg base N qual scope f cdv A outer s H E) [] σ' H' s' → RelV v u → Q v H' → CE outer P w H s Q u s' :=
    fun {σ' H' v u} J rv q => ⟨v, H', J.os, J.bare, J.base, J.hok, rv, q⟩
  cases fl with
  | ret u =>
    obtain ⟨v, σ', H', J, rv, q⟩ := hs
    exact fin J rv q
  | next =>
    obtain ⟨σ', H', J, q⟩ := hs
    exact fin (v := V.non) (u := Value.none) J rfl q
  | brk =>
    obtain ⟨_, _, _, q⟩ := hs
    exact False.elim q
  | cont =>
    obtain ⟨_, _, _, q⟩ := hs
    exact False.elim q
end L2

namespace L2
open PySem PySem.Spec PyProof.Rows
section
variable {X : Cx} {x : Str} {p pos : Pos} {e : Expr} {es : List Expr} {t : TA} {id T : String} {r : List V → Hp → VK → Prop}

def tCB (r : List V → Hp → VK → Prop) (t : TA) : TE := fun σ H Q => t σ H fun vs H1 => r vs H1 Q
/-- f(e, ..), f a built-in function -/
theorem pe_callB (hc : CallR X (.builtin id) r) (hg : Gl X x) (hm : X.mg x = none) (hv : bootBuiltins x = some (.builtin id)) (ha : PA X (e :: es) t) (hn : x ≠ "__name__" := by decide) (hdb : (x == ("__debug__" : Str)) = false := by decide)
    (he : starEach (e :: es) X.env = (false, eval e X.env) :: starEach es X.env := by rfl) (hpl : (backTo pos (starEach es X.env)).any (·.1) = false := by rfl) : PE X (.Call (.Name x p) (e :: es) [] pos) (tCB r t) := by
  intro pins s σ H Q I h
  refine wpAny_Call_Name_kw (ld_blt I hg hm hv ?_ hn hdb)
  exact PyProof.Rows.callWith_builtin1 (thn (ha pos pins s σ H _ I h) fun us s1 ⟨vs, H1, I1, r1, q1⟩ => hc pins s1 σ H1 vs us Q I1 r1 q1) he hpl
end
end L2

namespace HT
open PySem PyProof.Rows

section
open PySem.SeqAt
open PySem.AutoSeq1 (wpAny_loadPart')
open PySem.MeetsSeq PySem.MeetsSeq2 PySem.MeetsSeq3

end

section
variable {prog : Program} {w : World} {A : Around} {E : Value → Shared → Prop} {s : Shared}

/-- a slice's bound as a place among n (d where it is left out) -/
def sIx (n d : Nat) : Option Int → Nat
  | none => d
  | some v => if v < 0 then (v + (n : Int)).toNat else min v.toNat n
theorem sIx_none (n d : Nat) : sIx n d none = d := rfl
theorem sIx_nat (n d k : Nat) : sIx n d (some (k : Int)) = min k n := by
  show (if (k : Int) < 0 then ((k : Int) + (n : Int)).toNat else min (k : Int).toNat n) = min k n
  rw [if_neg (by omega), Int.toNat_natCast]

end
end HT

namespace L2
open PySem PySem.Spec PyProof.Rows

abbrev TO := St → Hp → (Option Int → Hp → Prop) → Prop
/-- a slice's part (left out, or an int) -/
def PO (X : Cx) (e : Option Expr) (t : TO) : Prop :=
  ∀ (pins : List (Addr × Obj)) (s : Shared) (σ : St) (H : Hp) (Q : Option Int → Hp → Prop), Inv X pins σ H s → t σ H Q →
    wpAny (model X.prog X.w) X.A (evalPart e X.env) (fun u s' => ∃ o H', Inv X pins σ H' s' ∧ IsPart u o ∧ Q o H') X.xe s
def tNoPart : TO := fun _ H Q => Q none H
def tPart (t : TE) : TO := fun σ H Q => t σ H fun x H1 => ∃ i, x = .int i ∧ Q (some i) H1

section
variable {X : Cx} {e : Expr} {te : TE} {lo hi : Option Expr} {tl th : TO} {pos p2 : Pos}

theorem po_none : PO X none tNoPart := by
  intro pins s σ H Q I h
  rw [evalPart_none]
  exact wpAny_pure ⟨none, H, I, .none, h⟩
theorem po_some (h : PE X e te) : PO X (some e) (tPart te) := by
  intro pins s σ H Q I hw
  rw [evalPart_some]
  refine thn (h pins s σ H _ I hw) fun u s1 ⟨x, H1, I1, r1, q1⟩ => ?_
  obtain ⟨i, rfl, q⟩ := q1
  obtain ⟨t, rfl⟩ := r1
  exact ⟨some i, H1, I1, .int i t, q⟩

/-- what a slice of a value is, by values: the slice object stands at sl -/
def SlR (X : Cx) (r : V → Option Int → Option Int → Hp → VK → Prop) : Prop :=
  ∀ (pins : List (Addr × Obj)) (s : Shared) (σ : St) (H : Hp) (x : V) (v vl vu : Value) (lo hi : Option Int) (sl : Addr) (Q : VK), Inv X pins σ H s → RelV x v → s.heap.IsSliceOf sl vl vu .none → IsPart vl lo → IsPart vu hi → r x lo hi H Q →
    ∃ T id, typeLookup (.type T) "__getitem__" = pure (some (.builtin id)) ∧ s.TypeIs v T ∧ wpAny (model X.prog X.w) X.A (getItem v (.ref sl)) (EP X pins σ Q) X.xe s
def tSl (r : V → Option Int → Option Int → Hp → VK → Prop) (te : TE) (tl th : TO) : TE := fun σ H Q => te σ H fun x H1 => tl σ H1 fun l H2 => th σ H2 fun u H3 => r x l u H3 Q
/-- a[lo:hi], any a -/
theorem pe_slice {r : V → Option Int → Option Int → Hp → VK → Prop} (hr : SlR X r) (he : PE X e te) (hl : PO X lo tl) (hu : PO X hi th) : PE X (.Subscript e (.Slice lo hi none p2) pos) (tSl r te tl th) := by
  intro pins s σ H Q I h
  refine Subscript_ (thn (he pins s σ H _ I h) fun v s1 ⟨x, H1, I1, r1, q1⟩ => ?_)
  refine wpAny_Slice (thn (hl pins s1 σ H1 _ I1 q1) fun vl s2 ⟨l, H2, I2, pl, q2⟩ => thn (hu pins s2 σ H2 _ I2 q2) fun vu s3 ⟨u, H3, I3, pu, q3⟩ => ?_)
  rw [evalPart_none]
  refine wpAny_pure ?_
  have I4 : Inv X pins σ H3 { s3 with heap := s3.heap.push { cls := .type "slice", data := .fields #[vl, vu, .none] } } := I3.kept (t' := s3.toks) fun b ob q => Heap.get?_push_of_some _ q
  obtain ⟨T, id, hT, ht, hg⟩ := hr pins { s3 with heap := s3.heap.push { cls := .type "slice", data := .fields #[vl, vu, .none] } } σ H3 x v vl vu l u s3.heap.objs.size Q I4 r1 (Heap.IsSliceOf.new ..) pl pu q3
  show wpAny (model X.prog X.w) X.A (subscriptTail e (.Slice lo hi none p2) v (.ref s3.heap.objs.size)) (EP X pins σ Q) X.xe { s3 with heap := s3.heap.push { cls := .type "slice", data := .fields #[vl, vu, .none] } }
  exact tail_any (ops := [.ref s3.heap.objs.size, v]) ht hT hg (by with_unfolding_all rfl)

/-- the items of xs[lo:hi] -/
def cutV (xs : List V) (lo hi : Option Int) : List V := (xs.drop (HT.sIx xs.length 0 lo)).take (HT.sIx xs.length xs.length hi - HT.sIx xs.length 0 lo)
theorem cutV_length (xs : List V) (lo hi : Option Int) : (cutV xs lo hi).length ≤ xs.length := by
  unfold cutV
  rw [List.length_take, List.length_drop]
  omega

end
end L2

namespace L2
open PySem PySem.Spec PyProof.Rows

/-- the place that an index of any sign means -/
def ixN (n : Nat) (i : Int) : Option Nat := if 0 ≤ i then (if i < n then some i.toNat else none) else if -(n : Int) ≤ i then some (i + n).toNat else none
def atI {α : Type} (xs : List α) (i : Int) : Option α := (ixN xs.length i).bind fun j => xs[j]?
theorem ixN_seq {n : Nat} {i : Int} {j : Nat} (h : ixN n i = some j) : seqIndex? i n = some j ∧ j < n ∧ -(n : Int) ≤ i ∧ i < n := by
  unfold ixN at h
  by_cases h0 : 0 ≤ i
  · rw [if_pos h0] at h
    by_cases h1 : i < n
    · rw [if_pos h1] at h
      have e : i.toNat = j := Option.some.inj h
      exact ⟨by rw [seqIndex_of h0 h1, e], by omega, by omega, h1⟩
    · rw [if_neg h1] at h; cases h
  · rw [if_neg h0] at h
    by_cases h1 : -(n : Int) ≤ i
    · rw [if_pos h1] at h
      have e : (i + n).toNat = j := Option.some.inj h
      exact ⟨by rw [seqIndex_neg (by omega) h1, e], by omega, h1, by omega⟩
    · rw [if_neg h1] at h; cases h
theorem atI_get {α : Type} {xs : List α} {i : Int} {v : α} (h : atI xs i = some v) : ∃ j, seqIndex? i xs.length = some j ∧ xs[j]? = some v ∧ j < xs.length ∧ -(xs.length : Int) ≤ i ∧ i < xs.length := by
  unfold atI at h
  cases e : ixN xs.length i with
  | none => rw [e] at h; cases h
  | some j =>
    rw [e] at h
    obtain ⟨h1, h2, h3, h4⟩ := ixN_seq e
    exact ⟨j, h1, h, h2, h3, h4⟩
theorem atI_nat {α : Type} {xs : List α} {j : Nat} {v : α} (h : xs[j]? = some v) : atI xs (j : Int) = some v := by
  have hj : j < xs.length := (List.getElem?_eq_some_iff.mp h).1
  have e : ixN xs.length (j : Int) = some j := by
    unfold ixN
    rw [if_pos (by omega), if_pos (by omega)]; simp
  unfold atI; rw [e]; exact h

/-- what stands as an index of a plain subscript -/
def PlainIx (b : Expr) : Prop := ∀ o i, subscripted b false o i = operate [o, i] (getItem o i)
/-- a subscript by values -/
def IxR (X : Cx) (r : R2) : Prop :=
  ∀ (value slice : Expr) (pins : List (Addr × Obj)) (s : Shared) (σ : St) (H : Hp) (x y : V) (v u : Value) (Q : VK), Inv X pins σ H s → RelV x v → RelV y u → r x y H Q →
    subscripted slice false v u = operate [v, u] (getItem v u) → wpAny (model X.prog X.w) X.A (subscriptTail value slice v u) (EP X pins σ Q) X.xe s
/-- a call of a builtin's method by values: the receiver, the arguments -/
def MtR (X : Cx) (id : String) (r : V → List V → Hp → VK → Prop) : Prop :=
  ∀ (pins : List (Addr × Obj)) (s : Shared) (σ : St) (H : Hp) (x : V) (xs : List V) (v : Value) (us : List Value) (Q : VK), Inv X pins σ H s → RelV x v → Vals xs us → r x xs H Q →
    wpAny (model X.prog X.w) X.A (call (.builtin id) (v :: us)) (EP X pins σ Q) X.xe s
section
variable {X : Cx} {a b : Expr} {ta tb : TE} {pos : Pos}
/-- a[b] -/
theorem pe_ix {r : R2} (hr : IxR X r) (ha : PE X a ta) (hb : PE X b tb) (hs : PlainIx b) : PE X (.Subscript a b pos) (tOp r ta tb) := by
  intro pins s σ H Q I h
  exact Subscript_ (binT ha hb I h fun v u s2 x y H2 I2 rx ry q => hr a b pins s2 σ H2 x y v u Q I2 rx ry q (hs _ _))

def rIxL (K : PySem.W.Frag) : R2 := fun x y H Q => ∃ p xs i v, x = .ref p ∧ y = .int i ∧ SqL K H p xs ∧ atI xs i = some v ∧ Q v H
def rIxT (K : PySem.W.Frag) : R2 := fun x y H Q => ∃ p xs i v, x = .ref p ∧ y = .int i ∧ SqT K H p xs ∧ atI xs i = some v ∧ Q v H
theorem ix_list : IxR X (rIxL X.K) := by
  intro value slice pins s σ H x y v u Q I rx ry h hs
  obtain ⟨p, xs, i, z, rfl, rfl, hq, he, q⟩ := h
  cases rx
  obtain ⟨t, rfl⟩ := ry
  obtain ⟨its, r, pl, hz⟩ := I.list hq
  obtain ⟨j, h1, h2, h3, h4, h5⟩ := atI_get he
  obtain ⟨w, ew, rw'⟩ := r.get h2
  have hl := r.length
  have hn := line63
  have fin : EP X pins σ Q w s := ⟨z, H, I, rw', q⟩
  by_cases h0 : 0 ≤ i
  · have hj : i.toNat = j := by
      rw [seqIndex_of h0 h5] at h1
      exact Option.some.inj h1
    exact item_listR pl.isList h0 (by omega) (by rw [hj]; simpa using ew) fin hs
  · have hj : (i + (its.toArray.size : Int)).toNat = j := by
      rw [seqIndex_neg (by omega) h4] at h1
      rw [List.size_toArray, ← hl]
      exact Option.some.inj h1
    exact subscriptTail_builtinR (x := w) pl.isList.typeIs slot_list_getitem.lookup
      (wpAny_getItem_list_neg (Q := fun r s' => r = w ∧ EP X pins σ Q r s') pl.isList (by omega) (by rw [List.size_toArray] <;> omega) (by omega) (by rw [hj]; simpa using ew) ⟨rfl, fin⟩) hs
theorem ix_tup : IxR X (rIxT X.K) := by
  intro value slice pins s σ H x y v u Q I rx ry h hs
  obtain ⟨p, xs, i, z, rfl, rfl, hq, he, q⟩ := h
  cases rx
  obtain ⟨t, rfl⟩ := ry
  obtain ⟨its, r, pl, hz⟩ := I.tuple hq
  obtain ⟨j, h1, h2, h3, h4, h5⟩ := atI_get he
  obtain ⟨w, ew, rw'⟩ := r.get h2
  have hl := r.length
  have hn := line63
  have fin : EP X pins σ Q w s := ⟨z, H, I, rw', q⟩
  exact subscriptTail_builtinR (x := w) pl.typeIs slot_tuple_getitem.lookup
    (getItem_tuple (j := j) (Q := fun r s' => r = w ∧ EP X pins σ Q r s') pl (by omega) (by omega) (by rw [List.size_toArray, ← hl]; exact h1) (by simpa using ew) ⟨rfl, fin⟩) hs

/-- the list's object behind a store -/
theorem mapSeq_set (its : List Value) (n j : Nat) (u : Value) : Obj.mapSeq (·.setIfInBounds j u) { cls := .type "list", data := .seq its.toArray n } = { cls := .type "list", data := .seq (its.set j u).toArray n } := by
  simp [Obj.mapSeq]
theorem Inv.lst {pins : List (Addr × Obj)} {σ : St} {H : Hp} {s : Shared} {p : Addr} {xs : List V} (I : Inv X pins σ H s) (h : H p = some (.lst xs)) :
    ∃ (its : List Value) (n : Nat), Vals xs its ∧ s.heap.get? p = some { cls := .type "list", data := .seq its.toArray n } ∧ xs.length ≤ sizeLine := by
  obtain ⟨z, its, n, r, e⟩ := I.hok p _ h
  exact ⟨its, n, r, e, z⟩
/-- the list at p is written by an update of its object -/
theorem Inv.lstUpd {pins : List (Addr × Obj)} {σ : St} {H : Hp} {s : Shared} {p : Addr} {xs ys : List V} {its its' : List Value} {n n' : Nat} {f : Obj → Obj} (I : Inv X pins σ H s) (h : H p = some (.lst xs))
    (ho : s.heap.get? p = some { cls := .type "list", data := .seq its.toArray n }) (hf : f { cls := .type "list", data := .seq its.toArray n } = { cls := .type "list", data := .seq its'.toArray n' }) (r : Vals ys its') (hz : ys.length ≤ sizeLine) (t : Nat) :
    Inv X pins σ (upd H p (.lst ys)) { s with heap := s.heap.update p f, toks := t } := by
  have e : (s.heap.update p f).get? p = some { cls := .type "list", data := .seq its'.toArray n' } := by
    rw [Heap.get?_update_self f ho (by rw [hf] <;> rfl), hf]
  refine I.write (x := p) (e := p) (by rw [h]; trivial) (.inl rfl) (fun b u hb q => (Heap.get?_update_other _ _ (Ne.symm hb)).trans q) ⟨_, e⟩ ?_
  exact ⟨hz, its', n', r, e⟩
def rSetL : V → V → V → Hp → (Hp → Prop) → Prop := fun o i v H Q => ∃ p xs k j, o = .ref p ∧ i = .int k ∧ H p = some (.lst xs) ∧ ixN xs.length k = some j ∧ Q (upd H p (.lst (xs.set j v)))
theorem set_list : PSet X rSetL := by
  intro pins s σ H o i v ov iv u Q I ro ri rv h
  obtain ⟨p, xs, k, j, rfl, rfl, hp, hj, q⟩ := h
  cases ro
  obtain ⟨t, rfl⟩ := ri
  obtain ⟨its, n, r, ho, hz⟩ := I.lst hp
  obtain ⟨h1, h2, h3, h4⟩ := ixN_seq hj
  have hl := r.length
  have hn := line63
  have I' : Inv X pins σ (upd H p (.lst (xs.set j v))) { s with heap := s.heap.update p (Obj.mapSeq (·.setIfInBounds j u)) } :=
    I.lstUpd hp ho (mapSeq_set its n j u) (r.set rv j) (by rw [List.length_set]; exact hz) s.toks
  by_cases h0 : 0 ≤ k
  · have hk : k.toNat = j := by
      rw [seqIndex_of h0 h4] at h1
      exact Option.some.inj h1
    exact PySem.W.ki_setAt ho h0 (by omega) (by rw [List.size_toArray, ← hl]; exact h4) (by rw [hk]; exact ⟨_, I', q⟩)
  · have hk : (k + (its.toArray.size : Int)).toNat = j := by
      rw [seqIndex_neg (by omega) h3] at h1
      rw [List.size_toArray, ← hl]
      exact Option.some.inj h1
    exact PySem.W.ki_setBack ho (by omega) (by rw [List.size_toArray, ← hl]; exact h3) (by omega) (by rw [hk]; exact ⟨_, I', q⟩)

theorem slice_bounds (lo hi : Option Int) (n : Nat) : (sliceBounds lo hi none n).1 = ((HT.sIx n 0 lo : Nat) : Int) ∧ (sliceBounds lo hi none n).2.1 = ((HT.sIx n n hi : Nat) : Int) ∧ (sliceBounds lo hi none n).2.2 = 1 := by
  refine ⟨?_, ?_, rfl⟩
  · cases lo with
    | none => simp [sliceBounds, HT.sIx]
    | some i =>
      simp only [sliceBounds, HT.sIx, Option.getD_none, show (1 : Int) > 0 by decide, if_true]
      by_cases h : i < 0
      · simp only [h, if_true] <;> omega
      · simp only [h, if_false] <;> omega
  · cases hi with
    | none => simp [sliceBounds, HT.sIx]
    | some i =>
      simp only [sliceBounds, HT.sIx, Option.getD_none, show (1 : Int) > 0 by decide, if_true]
      by_cases h : i < 0
      · simp only [h, if_true] <;> omega
      · simp only [h, if_false] <;> omega
theorem slicePick_cut (its : List Value) (lo hi : Option Int) : slicePick its.toArray lo hi none = ((its.drop (HT.sIx its.length 0 lo)).take (HT.sIx its.length its.length hi - HT.sIx its.length 0 lo)).toArray := by
  obtain ⟨h1, h2, h3⟩ := slice_bounds lo hi its.toArray.size
  unfold slicePick
  rw [h1, h2, h3]
  simp only [sliceRange_one, pick_run, List.size_toArray] <;> rfl
/-- xs[lo:hi] of a list: a new list -/
def rSlL (K : PySem.W.Frag) : V → Option Int → Option Int → Hp → VK → Prop := fun x lo hi H Q => ∃ a xs, x = .ref a ∧ SqL K H a xs ∧ ∀ p, H p = none → Q (.ref p) (upd H p (.lst (cutV xs lo hi)))
theorem sl_list : SlR X (rSlL X.K) := by
  intro pins s σ H x v vl vu lo hi sl Q I rx hs pl pu h
  obtain ⟨a, xs, rfl, hx, q⟩ := h
  cases rx
  obtain ⟨its, r, ht, hz⟩ := I.list hx
  have hlen := r.length
  refine ⟨"list", _, slot_list_getitem.lookup, ht.isList.typeIs, ?_⟩
  refine wpAny_getItem_list_slice ht.isList hs pl pu .none (by simp) ?_ (by rw [List.size_toArray] <;> omega)
  rw [slicePick_cut, ← hlen]
  refine ⟨.ref s.heap.objs.size, _, I.laid (t' := s.toks) (o := .lst (cutV xs lo hi)) (fun b ob q => Heap.get?_push_of_some _ q) (Nat.le_refl _) ?_, rfl, q _ (I.hok.fresh (Nat.le_refl _))⟩
  exact ⟨Nat.le_trans (cutV_length xs lo hi) hz, _, 0, (r.drop (HT.sIx xs.length 0 lo)).take (HT.sIx xs.length xs.length hi - HT.sIx xs.length 0 lo), Heap.get?_push_size _ rfl⟩

theorem call_len_seq : CallR X (.builtin "len") (fun xs H Q => ∃ p ys, xs = [.ref p] ∧ (SqL X.K H p ys ∨ SqT X.K H p ys) ∧ Q (.int ys.length) H) := by
  intro pins s σ H xs us Q I r h
  obtain ⟨p, ys, rfl, hq, q⟩ := h
  obtain ⟨u, rfl, rx⟩ := vals1 r
  cases rx
  have hn := line63
  rcases hq with hq | hq
  · obtain ⟨its, r', pl, hz⟩ := I.list hq
    have hlen := r'.length
    exact Calls.call_len_list pl.isList (by simp only [List.size_toArray] <;> omega) ⟨.int ys.length, H, I.tok _, ⟨s.toks + 1, by rw [List.size_toArray, hlen]⟩, q⟩
  · obtain ⟨its, r', pl, hz⟩ := I.tuple hq
    have hlen := r'.length
    exact len_tuple pl (by simp only [List.size_toArray] <;> omega) ⟨.int ys.length, H, I.tok _, ⟨s.toks + 1, by rw [List.size_toArray, hlen]⟩, q⟩

/-- the value is of that builtin type -/
def tyV (K : PySem.W.Frag) (T : String) (x : V) (H : Hp) : Prop := match x with
  | .str _ => T = "str"
  | .int _ => T = "int"
  | .ref p => (T = "list" ∧ ∃ xs, SqL K H p xs) ∨ (T = "tuple" ∧ ∃ o, K.lookup p = some o ∧ o.cls = .type "tuple" ∧ o.dict = none) ∨
      (T = "dict" ∧ ((∃ kvs, H p = some (.dK kvs)) ∨ ∃ kvs, H p = some (.dT kvs))) ∨ (T = "set" ∧ ∃ S n, H p = some (.set S n))
  | _ => False
theorem tyV_is {pins : List (Addr × Obj)} {σ : St} {H : Hp} {s : Shared} {T : String} {x : V} {v : Value} (I : Inv X pins σ H s) (r : RelV x v) (ty : tyV X.K T x H) :
    s.TypeIs v T ∧ ∀ a, v = .ref a → ∃ ob, s.heap.get? a = some ob ∧ ob.dict = none := by
  cases x with
  | str z =>
    obtain ⟨t, rfl⟩ := r
    cases (show T = "str" from ty)
    exact ⟨typeIs_str s z t, fun _ e => nomatch e⟩
  | int i =>
    obtain ⟨t, rfl⟩ := r
    cases (show T = "int" from ty)
    exact ⟨typeIs_int s i t, fun _ e => nomatch e⟩
  | ref p =>
    cases r
    rcases ty with ⟨rfl, xs, hq⟩ | ⟨rfl, o, hk, hc, hd⟩ | ⟨rfl, hk⟩ | ⟨rfl, S, n, hk⟩
    · obtain ⟨its, _, pl, _⟩ := I.list hq
      refine ⟨pl.isList.typeIs, fun a e => ?_⟩
      cases e
      obtain ⟨o, n, e, c, hd, _⟩ := pl
      exact ⟨o, e, hd⟩
    · refine ⟨⟨o, I.kIn p o hk, hc⟩, fun a e => ?_⟩
      cases e
      exact ⟨o, I.kIn _ o hk, hd⟩
    · have z : ∃ o, s.heap.get? p = some o ∧ o.ExactDict := by
        rcases hk with ⟨kvs, hk⟩ | ⟨kvs, hk⟩
        · obtain ⟨_, _, _, _, o, _, _, e, ex, _⟩ := I.hok p _ hk
          exact ⟨o, e, ex⟩
        · obtain ⟨_, _, _, _, o, _, _, e, ex, _⟩ := I.hok p _ hk
          exact ⟨o, e, ex⟩
      obtain ⟨o, e, ex⟩ := z
      refine ⟨⟨o, e, ex.1⟩, fun a e2 => ?_⟩
      cases e2
      exact ⟨o, e, ex.2.1⟩
    · obtain ⟨o, _, _, _, e, ex, _⟩ := I.hok p _ hk
      refine ⟨⟨o, e, ex.1⟩, fun a e2 => ?_⟩
      cases e2
      exact ⟨o, e, ex.2.1⟩
  | _ => exact False.elim ty
def tBM0 (K : PySem.W.Frag) (T : String) (r : V → List V → Hp → VK → Prop) (to : TE) : TE := fun σ H Q => to σ H fun x H1 => tyV K T x H1 ∧ r x [] H1 Q
def tBM (K : PySem.W.Frag) (T : String) (r : V → List V → Hp → VK → Prop) (to : TE) (t : TA) : TE := fun σ H Q => to σ H fun x H1 => tyV K T x H1 ∧ t σ H1 fun xs H2 => r x xs H2 Q
variable {o e : Expr} {es : List Expr} {to : TE} {t : TA} {name : Str} {apos cpos : Pos} {T id : String} {r : V → List V → Hp → VK → Prop}
theorem pe_bm0 (pa : PlainAttrs T) (slot : Slot T name id) (hty : typeOf (.builtin id) = pure (.type "method_descriptor")) (hm : MtR X id r) (ho : PE X o to)
    (hbase : attributeBase o name X.env (eval o X.env) = eval o X.env := by rfl) (hline : (apos.endLine == cpos.line) = true := by rfl) : PE X (.Call (.Attribute o name apos) [] [] cpos) (tBM0 X.K T r to) := by
  intro pins s σ H Q I h
  refine wpAny_Call_method0_late hbase hline (thn (ho pins s σ H _ I h) fun v s1 ⟨x, H1, I1, r1, ty, q1⟩ => ?_)
  obtain ⟨h1, h2⟩ := tyV_is I1 r1 ty
  exact ⟨T, id, pa, slot, hty, h1, h2, Calls.callWith_builtin rfl (PySem.evalArgs_none (hm pins s1 σ H1 x [] v [] Q I1 r1 .nil q1))⟩
theorem pe_bm (pa : PlainAttrs T) (slot : Slot T name id) (hty : typeOf (.builtin id) = pure (.type "method_descriptor")) (hm : MtR X id r) (ho : PE X o to) (ha : PA X (e :: es) t)
    (hbase : attributeBase o name X.env (eval o X.env) = eval o X.env := by rfl)
    (hfew : ((backTo cpos (starEach (e :: es) X.env)).all (fun x => !x.1) && (backToKw cpos (keywordEach [] X.env)).all (fun x => x.1.isSome)
      && decide ((e :: es).length + ([] : List Keyword).length + (if ([] : List Keyword).isEmpty then 0 else 1) < 30)) = true := by rfl)
    (hline : (apos.endLine == cpos.line) = true := by rfl) (hs : starEach (e :: es) X.env = (false, eval e X.env) :: starEach es X.env := by rfl) (hplain : (backTo cpos (starEach es X.env)).any (·.1) = false := by rfl) :
    PE X (.Call (.Attribute o name apos) (e :: es) [] cpos) (tBM X.K T r to t) := by
  intro pins s σ H Q I h
  refine wpAny_Call_method_late hbase hfew hline rfl (thn (ho pins s σ H _ I h) fun v s1 ⟨x, H1, I1, r1, ty, q1⟩ => ?_)
  obtain ⟨h1, h2⟩ := tyV_is I1 r1 ty
  refine ⟨T, id, pa, slot, hty, h1, h2, ?_⟩
  have hA := ha cpos pins s1 σ H1 _ I1 q1
  rw [hs] at hA ⊢
  refine Calls.callWith_builtin (by show (false || (backTo cpos (starEach es X.env)).any (·.1)) = false; rw [hplain] <;> rfl) (Calls.evalArgs_plain ?_)
  exact thn hA fun us s2 ⟨vs, H2, I2, r2, q2⟩ => hm pins s2 σ H2 x vs v us Q I2 r1 r2 q2
end
end L2

namespace L2
open PySem PySem.Spec PyProof.Rows

def MtM (X : Cx) (id : String) (r : V → List V → Hp → VK → Prop) : Prop :=
  ∀ (pins : List (Addr × Obj)) (s : Shared) (σ : St) (H : Hp) (x : V) (xs : List V) (v : Value) (us : List Value) (Q : VK), Inv X pins σ H s → RelV x v → Vals xs us → r x xs H Q →
    wpAny (model X.prog X.w) X.A (call (.builtin id) (v :: us)) (EP X pins σ Q) X.xe s

theorem Vals.one : ∀ {x : V} {us : List Value}, Vals [x] us → ∃ u, us = [u] ∧ RelV x u
  | _, _, .cons r .nil => ⟨_, rfl, r⟩
theorem Vals.zero : ∀ {us : List Value}, Vals [] us → us = []
  | _, .nil => rfl
theorem Vals.rep {xs : List V} {us : List Value} (h : Vals xs us) : ∀ k : Nat, Vals (List.replicate k xs).flatten (List.replicate k us).flatten
  | 0 => .nil
  | k + 1 => by
    rw [List.replicate_succ, List.replicate_succ, List.flatten_cons, List.flatten_cons]
    exact Vals.append h (Vals.rep h k)
theorem foldl_rep (its : List Value) : ∀ (k : Nat) (acc : List Value),
    List.foldl (fun x1 x2 => x1 ++ x2) acc.toArray (List.replicate k its.toArray) = (acc ++ (List.replicate k its).flatten).toArray
  | 0, acc => by simp
  | k + 1, acc => by
    have e : acc.toArray ++ its.toArray = (acc ++ its).toArray := by simp
    have e2 : (acc ++ its) ++ (List.replicate k its).flatten = acc ++ (List.replicate (k + 1) its).flatten := by
      rw [List.replicate_succ, List.flatten_cons, List.append_assoc]
    rw [← e2, ← foldl_rep its k (acc ++ its), ← e, List.replicate_succ, List.foldl_cons]

section
variable {X : Cx} {pins : List (Addr × Obj)} {σ : St} {H : Hp} {s : Shared} {l b : Addr} {xs ys zs : List V}

theorem Inv.lset {its its' : List Value} {n : Nat} {f : Array Value → Array Value} {t' : Nat} (I : Inv X pins σ H s) (hH : H l = some (.lst xs))
    (e : s.heap.get? l = some { cls := .type "list", data := .seq its.toArray n }) (hf : f its.toArray = its'.toArray) (hv : Vals ys its') (hz : ys.length ≤ sizeLine) :
    Inv X pins σ (upd H l (.lst ys)) { s with heap := s.heap.update l (Obj.mapSeq f), toks := t' } := by
  have q := PySem.IsL.update e f
  rw [hf] at q
  refine I.write (x := l) (e := l) (by rw [hH]; exact trivial) (.inl rfl) (fun b' u hb hu => (Heap.get?_update_other s.heap (Obj.mapSeq f) (Ne.symm hb)).trans hu) ⟨_, q⟩ ?_
  exact ⟨hz, its', _, hv, q⟩
theorem Inv.lnew {its : List Value} {t' : Nat} (I : Inv X pins σ H s) (hv : Vals ys its) (hz : ys.length ≤ sizeLine) :
    Inv X pins σ (upd H s.heap.objs.size (.lst ys)) { s with heap := s.heap.push { cls := .type "list", data := .seq its.toArray }, toks := t' } :=
  I.laid (fun _ _ q => Heap.get?_push_of_some _ q) (Nat.le_refl _) ⟨hz, its, 0, hv, Heap.get?_push_size _ rfl⟩
theorem Inv.fresh (I : Inv X pins σ H s) : H s.heap.objs.size = none := I.hok.fresh (Nat.le_refl _)
theorem Inv.lstM (I : Inv X pins σ H s) (hH : H l = some (.lst xs)) : xs.length ≤ sizeLine ∧ ∃ (its : List Value) (n : Nat), Vals xs its ∧ xs.length = its.length ∧ s.heap.get? l = some { cls := .type "list", data := .seq its.toArray n } := by
  obtain ⟨z, its, n, r, e⟩ := I.hok l _ hH
  exact ⟨z, its, n, r, r.length, e⟩

theorem notLongL {n : Nat} (h : n ≤ sizeLine) : Builtin.List.listTooLong n = false := by
  unfold Builtin.List.listTooLong
  exact decide_eq_false (by omega)
end

section
variable {X : Cx}

def rAppend : V → List V → Hp → VK → Prop := fun x vs H Q => ∃ l xs y, x = .ref l ∧ vs = [y] ∧ H l = some (.lst xs) ∧ xs.length < sizeLine ∧ Q .non (upd H l (.lst (xs ++ [y])))
theorem mt_append : MtM X "list.append" rAppend := by
  intro pins s σ H x vs v us Q I rx rv h
  obtain ⟨l, xs, y, rfl, rfl, hH, hz, q⟩ := h
  cases rx
  obtain ⟨u, rfl, ru⟩ := rv.one
  obtain ⟨z, its, n, r, hl, e⟩ := I.lstM hH
  refine call_meets F.slot_list_append ⟨_, e, rfl⟩ F.entry_list_append (F.args_list_append_2 _ _) (PySem.list_append l its.toArray n u (by rw [List.size_toArray]; omega)) ⟨e, ?_⟩
  refine ⟨.non, _, I.lset (its' := its ++ [u]) hH e (by simp) (r.append (.cons ru .nil)) ?_, rfl, q⟩
  rw [List.length_append, List.length_singleton]
  omega

def rExtend : V → List V → Hp → VK → Prop := fun x vs H Q => ∃ l b xs zs, x = .ref l ∧ vs = [.ref b] ∧ H l = some (.lst xs) ∧ H b = some (.lst zs) ∧ xs.length + zs.length ≤ sizeLine ∧ Q .non (upd H l (.lst (xs ++ zs)))
theorem mt_extend : MtM X "list.extend" rExtend := by
  intro pins s σ H x vs v us Q I rx rv h
  obtain ⟨l, b, xs, zs, rfl, rfl, hH, hB, hz, q⟩ := h
  cases rx
  obtain ⟨u, rfl, ru⟩ := rv.one
  cases ru
  obtain ⟨z, its, n, r, hl, e⟩ := I.lstM hH
  obtain ⟨z2, its2, n2, r2, hl2, e2⟩ := I.lstM hB
  have hsz : its.toArray.size + its2.toArray.size ≤ sizeLine := by rw [List.size_toArray, List.size_toArray]; omega
  have hlong : ¬ (!its.toArray.isEmpty && Builtin.List.listTooLong (its.toArray.size + its2.toArray.size)) = true := by
    rw [notLongL hsz, Bool.and_false]
    exact Bool.false_ne_true
  refine call_meets F.slot_list_extend ⟨_, e, rfl⟩ F.entry_list_extend (F.args_list_extend_2 _ _)
    (AutoSeq1.list_extend_list_list_0 l its.toArray n b its2.toArray n2 hlong (by rw [List.size_toArray]; omega) (by omega)) ⟨e, e2, ?_⟩
  refine ⟨.non, _, I.lset (its' := its ++ its2) hH e (by simp) (r.append r2) ?_, rfl, q⟩
  rw [List.length_append]
  omega

def rClear : V → List V → Hp → VK → Prop := fun x vs H Q => ∃ l xs, x = .ref l ∧ vs = [] ∧ H l = some (.lst xs) ∧ Q .non (upd H l (.lst []))
theorem mt_clear : MtM X "list.clear" rClear := by
  intro pins s σ H x vs v us Q I rx rv h
  obtain ⟨l, xs, rfl, rfl, hH, q⟩ := h
  cases rx
  have hus := rv.zero
  subst hus
  obtain ⟨z, its, n, r, hl, e⟩ := I.lstM hH
  refine call_meets F.slot_list_clear ⟨_, e, rfl⟩ F.entry_list_clear (F.args_list_clear_1 _) (AutoSeq1.list_clear_list_0 l its.toArray n (by rw [List.size_toArray]; omega)) ⟨e, ?_⟩
  exact ⟨.non, _, I.lset (its' := []) (ys := []) hH e rfl .nil (Nat.zero_le _), rfl, q⟩

/-- a list times an int (a negative one is nothing) -/
def rRep : R2 := fun x y H Q => ∃ l k xs, x = .ref l ∧ y = .int k ∧ H l = some (.lst xs) ∧ -(2 ^ 63) ≤ k ∧ k < 2 ^ 63 ∧ xs.length * k.toNat ≤ sizeLine ∧
  ∀ p, H p = none → Q (.ref p) (upd H p (.lst (List.replicate k.toNat xs).flatten))
theorem len_rep {α : Type} (xs : List α) (k : Nat) : (List.replicate k xs).flatten.length = k * xs.length := by
  induction k with
  | zero => simp
  | succ k ih => rw [List.replicate_succ, List.flatten_cons, List.length_append, ih, Nat.succ_mul, Nat.add_comm]
theorem op_rep : OpR X (binaryOp .Mult) rRep := by
  intro pins s σ H x y v u Q I rx ry h
  obtain ⟨l, k, xs, rfl, rfl, hH, h1, h2, hz, q⟩ := h
  cases rx
  obtain ⟨t, rfl⟩ := ry
  obtain ⟨z, its, n, r, hl, e⟩ := I.lstM hH
  have hlen : its.toArray.size * k.toNat ≤ sizeLine := by rw [List.size_toArray, ← hl]; exact hz
  have hcap : ¬ its.toArray.size * k.toNat > (2 ^ 63 - 1) / 8 := by
    have : (sizeLine : Nat) ≤ (2 ^ 63 - 1) / 8 := by decide
    omega
  have hfit : ¬ (!Builtin.List.listFitsIndex k) = true := by
    rw [fitsIndex_both h1 h2]
    exact Bool.false_ne_true
  have hlong : ¬ Builtin.List.listTooLong (its.toArray.size * k.toNat) = true := by
    rw [notLongL hlen]
    exact Bool.false_ne_true
  have hnew : List.foldl (fun x1 x2 => x1 ++ x2) #[] (List.replicate (if its.toArray.isEmpty = true then 0 else k.toNat) its.toArray) = (List.replicate k.toNat its).flatten.toArray := by
    have f0 : ∀ m : Nat, List.foldl (fun x1 x2 => x1 ++ x2) #[] (List.replicate m its.toArray) = (List.replicate m its).flatten.toArray := fun m => by
      have := foldl_rep its m []
      rw [List.nil_append] at this
      exact this
    rw [f0]
    cases its with
    | nil => simp
    | cons a r' => rw [if_neg (by simp)]
  refine wpAny_binaryOp_repeat_ref (T := "list") (U := "int") (by decide) ⟨_, e, rfl⟩ (fun s' => typeIs_int s' k t) noFill_list_mul F.fills_int_mul F.slot_int_rmul repeat_list F.slot_int_index.lookup
    (call_meets F.slot_int_rmul (typeIs_int s k t) F.entry_int_rmul (F.args_int_rmul_2 _ _) (int___rmul___int_list k t l its.toArray n)
      ⟨e, rfl, ⟨_, e, rfl⟩, call_meets F.slot_list_mul ⟨_, e, rfl⟩ F.entry_list_mul (F.args_list_mul_2 _ _) (AutoListH.list___mul___list_int_3 l its.toArray n k t hfit hcap hlong) ⟨e, ?_⟩⟩)
  rw [hnew]
  exact ⟨.ref _, _, I.lnew (t' := s.toks) (r.rep k.toNat) (by rw [len_rep, Nat.mul_comm]; exact hz), rfl, q _ I.fresh⟩

end

section
variable {prog : Program} {w : World} {A : Around} {E : Value → Shared → Prop} {s : Shared}
end

section
variable {X : Cx}
end
end L2

namespace L2
open PySem PySem.Spec PyProof.Rows

theorem Vals.ints : ∀ {ns : List Int} {us : List Value}, Vals (ns.map V.int) us → IntsAre us ns
  | [], us, h => by
    rw [List.map_nil] at h
    cases h
    exact IntsAre.nil
  | n :: ns, us, h => by
    rw [List.map_cons] at h
    cases h with
    | cons r t =>
      obtain ⟨k, rfl⟩ := r
      exact IntsAre.cons n k (Vals.ints t)
theorem Vals.ref1 {a : Addr} {us : List Value} (r : Vals [V.ref a] us) : us = [Value.ref a] := by
  cases r with
  | cons r t =>
    cases t
    cases r
    rfl

section
variable {prog : Program} {w : World} {A : Around} {E : Value → Shared → Prop} {s : Shared} {l : Addr} {its : List Value} {ns : List Int} {Q : Value → Shared → Prop}
theorem max_raw (hh : A.handled = none) (hl : s.heap.IsList l its.toArray) (hi : IntsAre its ns) (hne : 0 < ns.length)
    (h : ∀ h' tk M t', (∀ b o, s.heap.get? b = some o → h'.get? b = some o) → M ∈ ns → (∀ a, a ∈ ns → a ≤ M) → Q (.int M t') { s with heap := h', toks := tk }) : wpAny (model prog w) A (call (.builtin "max") [.ref l]) Q E s := by
  obtain ⟨xs, e⟩ := hi.allInts.items
  have hn : numsOf (intItems xs).toList = ns := by rw [← e]; exact hi.numsOf
  rw [nums_intItems] at hn
  subst hn
  rw [e] at hl
  have hsz : 0 < xs.size := by simpa using hne
  refine PySem.max_intList hh hl hsz fun v h' tk hv hk => ?_
  obtain ⟨t, rfl⟩ := intItems_at hv
  obtain ⟨h1, h2⟩ := argBest_gt (numAt xs) (xs.size - 1)
  refine h h' tk _ t hk ?_ fun a ha => ?_
  · rw [numAt_eq]; exact PySem.getD_mem (by rw [List.length_map, Array.length_toList]; omega)
  · obtain ⟨j, hj, rfl⟩ := mem_getD ha
    rw [List.length_map, Array.length_toList] at hj
    rw [← numAt_eq]; exact h2 j (by omega)
theorem min_raw (hh : A.handled = none) (hl : s.heap.IsList l its.toArray) (hi : IntsAre its ns) (hne : 0 < ns.length)
    (h : ∀ h' tk M t', (∀ b o, s.heap.get? b = some o → h'.get? b = some o) → M ∈ ns → (∀ a, a ∈ ns → M ≤ a) → Q (.int M t') { s with heap := h', toks := tk }) : wpAny (model prog w) A (call (.builtin "min") [.ref l]) Q E s := by
  obtain ⟨xs, e⟩ := hi.allInts.items
  have hn : numsOf (intItems xs).toList = ns := by rw [← e]; exact hi.numsOf
  rw [nums_intItems] at hn
  subst hn
  rw [e] at hl
  have hsz : 0 < xs.size := by simpa using hne
  refine PySem.min_intList hh hl hsz fun v h' tk hv hk => ?_
  obtain ⟨t, rfl⟩ := intItems_at hv
  obtain ⟨h1, h2⟩ := argBest_lt (numAt xs) (xs.size - 1)
  refine h h' tk _ t hk ?_ fun a ha => ?_
  · rw [numAt_eq]; exact PySem.getD_mem (by rw [List.length_map, Array.length_toList]; omega)
  · obtain ⟨j, hj, rfl⟩ := mem_getD ha
    rw [List.length_map, Array.length_toList] at hj
    rw [← numAt_eq]; exact h2 j (by omega)
end

section
variable {X : Cx}
/-- max(xs), min(xs) of a list of ints -/
def rMax (K : PySem.W.Frag) : List V → Hp → VK → Prop := fun vs H Q => ∃ (a : Addr) (ns : List Int), vs = [V.ref a] ∧ SqL K H a (ns.map V.int) ∧ 0 < ns.length ∧ ∀ m, m ∈ ns → (∀ y, y ∈ ns → y ≤ m) → Q (.int m) H
def rMin (K : PySem.W.Frag) : List V → Hp → VK → Prop := fun vs H Q => ∃ (a : Addr) (ns : List Int), vs = [V.ref a] ∧ SqL K H a (ns.map V.int) ∧ 0 < ns.length ∧ ∀ m, m ∈ ns → (∀ y, y ∈ ns → m ≤ y) → Q (.int m) H
theorem cr_max (hc : X.calm = true) : CallR X (.builtin "max") (rMax X.K) := by
  intro pins s σ H vs us Q I r h
  obtain ⟨a, ns, rfl, hs, hne, q⟩ := h
  obtain ⟨its, rv, hl, _⟩ := I.list hs
  rw [Vals.ref1 r]
  exact max_raw (I.ok.hd hc) hl.isList rv.ints hne fun h' tk m t' hk h1 h2 => ⟨.int _, H, I.kept hk, ⟨_, rfl⟩, q m h1 h2⟩
theorem cr_min (hc : X.calm = true) : CallR X (.builtin "min") (rMin X.K) := by
  intro pins s σ H vs us Q I r h
  obtain ⟨a, ns, rfl, hs, hne, q⟩ := h
  obtain ⟨its, rv, hl, _⟩ := I.list hs
  rw [Vals.ref1 r]
  exact min_raw (I.ok.hd hc) hl.isList rv.ints hne fun h' tk m t' hk h1 h2 => ⟨.int _, H, I.kept hk, ⟨_, rfl⟩, q m h1 h2⟩

end

section
variable {X : Cx}
end

section
variable {X : Cx}
end

section
variable {X : Cx}
end

section
variable {X : Cx} {pins : List (Addr × Obj)} {σ : St} {H : Hp} {s : Shared}
end
section
variable {X : Cx}
end
end L2

namespace L2
open PySem PySem.Spec PyProof.Rows
abbrev CellAt (h : Heap) (c : Addr) (v : Option Value) : Prop := h.IsCell c v
def relS (scope sc : Scope) : Scope :=
  { scope with names := scope.names.map fun (n, k) => if (k == .free && sc.kind == .function && sc.names.lookup n == some .cell) then (n, .cell) else (n, k) }

def cloFrom (cells : List (Str × Addr)) : List (Str × NameKind) → List (Str × Addr) → List (Str × Addr)
  | [], acc => acc
  | (n, k) :: r, acc => if k == .free then cloFrom cells r ((n, (cells.lookup n).getD 0) :: acc) else cloFrom cells r acc

theorem closure_loop (env : Env) (f : Str × NameKind → List (Str × Addr) → Sem (ForInStep (List (Str × Addr))))
    (hf : ∀ n k c, f (n, k) c = if k == .free then (do let a ← cellOf env n; pure (.yield ((n, a) :: c))) else pure (.yield c)) :
    ∀ (names : List (Str × NameKind)) (acc : List (Str × Addr)), (∀ y ∈ names, y.2 = .free → ∃ c, env.cells.lookup y.1 = some c) → forIn names acc f = pure (cloFrom env.cells names acc)
  | [], acc, _ => by rw [List.forIn_nil]; rfl
  | (n, k) :: r, acc, h => by
    rw [List.forIn_cons, hf]
    have ih := fun acc => closure_loop env f hf r acc fun y hy => h y (List.mem_cons_of_mem _ hy)
    unfold cloFrom
    by_cases hk : (k == NameKind.free) = true
    · rw [if_pos hk, if_pos hk]
      obtain ⟨c, hc⟩ := h (n, k) List.mem_cons_self (by simpa using hk)
      have e : cellOf env n = pure c := by unfold cellOf; rw [hc]
      rw [e]
      have e2 : (env.cells.lookup n).getD 0 = c := by rw [hc]; rfl
      rw [e2]
      exact ih _
    · rw [if_neg hk, if_neg hk]
      exact ih _
theorem closure_ok {scope : Scope} {env : Env} (h : ∀ y ∈ scope.names, y.2 = .free → ∃ c, env.cells.lookup y.1 = some c) : closureFor scope env = pure (cloFrom env.cells scope.names []) := by
  simp only [closureFor]
  rw [closure_loop env _ (fun n k c => rfl) scope.names [] h]
  rfl

theorem mem_lookup {α : Type} : ∀ {l : List (Str × α)} {n : Str} {c : α}, (n, c) ∈ l → ∃ c', l.lookup n = some c'
  | (k, v) :: r, n, c, h => by
    rw [List.lookup_cons]
    cases hb : n == k with
    | true => exact ⟨_, rfl⟩
    | false =>
      rcases List.mem_cons.mp h with e | h
      · cases e; simp at hb
      · exact mem_lookup h

theorem cloFrom_mem {cells : List (Str × Addr)} : ∀ {names : List (Str × NameKind)} {acc : List (Str × Addr)} {n : Str} {c : Addr}, (n, c) ∈ cloFrom cells names acc → (n, c) ∈ acc ∨ ((n, .free) ∈ names ∧ c = (cells.lookup n).getD 0)
  | [], _, _, _, h => .inl h
  | (m, k) :: r, acc, n, c, h => by
    unfold cloFrom at h
    split at h
    · rename_i hk
      have hk : k = .free := by simpa using hk
      rcases cloFrom_mem h with h | ⟨h1, h2⟩
      · rcases List.mem_cons.mp h with e | h
        · cases e; exact .inr ⟨hk ▸ List.mem_cons_self, rfl⟩
        · exact .inl h
      · exact .inr ⟨List.mem_cons_of_mem _ h1, h2⟩
    · rcases cloFrom_mem h with h | ⟨h1, h2⟩
      · exact .inl h
      · exact .inr ⟨List.mem_cons_of_mem _ h1, h2⟩
theorem cloFrom_acc {cells : List (Str × Addr)} : ∀ {names : List (Str × NameKind)} {acc : List (Str × Addr)} {p : Str × Addr}, p ∈ acc → p ∈ cloFrom cells names acc
  | [], _, _, h => h
  | (m, k) :: r, acc, p, h => by
    unfold cloFrom
    split
    · exact cloFrom_acc (List.mem_cons_of_mem _ h)
    · exact cloFrom_acc h
theorem cloFrom_has {cells : List (Str × Addr)} : ∀ {names : List (Str × NameKind)} {acc : List (Str × Addr)} {n : Str}, (n, .free) ∈ names → (n, (cells.lookup n).getD 0) ∈ cloFrom cells names acc
  | (m, k) :: r, acc, n, h => by
    unfold cloFrom
    rcases List.mem_cons.mp h with e | h
    · cases e
      exact cloFrom_acc List.mem_cons_self
    · split
      · exact cloFrom_has h
      · exact cloFrom_has h

theorem cells_mem : ∀ {names : List (Str × NameKind)} {h : Heap} {acc : List (Str × Addr)} {x : Str} {c : Addr}, (x, c) ∈ cellsFrom h.objs.size names acc →
    (x, c) ∈ acc ∨ ((x, .cell) ∈ names ∧ h.objs.size ≤ c ∧ CellAt (pushCells h names) c none)
  | [], _, _, _, _, h => .inl h
  | (n, k) :: r, h, acc, x, c, hm => by
    unfold cellsFrom at hm
    unfold pushCells
    split at hm
    · rename_i hk
      rw [if_pos hk]
      have hk : k = .cell := by simpa using hk
      rw [← Heap.size_push h { cls := .type "cell", data := .cell none }] at hm
      rcases cells_mem hm with hm | ⟨h1, h2, h3⟩
      · rcases List.mem_cons.mp hm with e | hm
        · cases e
          exact .inr ⟨hk ▸ List.mem_cons_self, Nat.le_refl _, _, pushCells_keeps r _ _ _ (Heap.get?_push_size _ rfl), rfl⟩
        · exact .inl hm
      · rw [Heap.size_push] at h2
        exact .inr ⟨List.mem_cons_of_mem _ h1, Nat.le_of_succ_le h2, h3⟩
    · rename_i hk
      rw [if_neg hk]
      rcases cells_mem hm with hm | ⟨h1, h2, h3⟩
      · exact .inl hm
      · exact .inr ⟨List.mem_cons_of_mem _ h1, h2, h3⟩
theorem cells_acc : ∀ {names : List (Str × NameKind)} {n : Nat} {acc : List (Str × Addr)} {p : Str × Addr}, p ∈ acc → p ∈ cellsFrom n names acc
  | [], _, _, _, h => h
  | (m, k) :: r, n, acc, p, h => by
    unfold cellsFrom
    split
    · exact cells_acc (List.mem_cons_of_mem _ h)
    · exact cells_acc h
theorem cells_has : ∀ {names : List (Str × NameKind)} {n : Nat} {acc : List (Str × Addr)} {x : Str}, (x, .cell) ∈ names → ∃ c, (x, c) ∈ cellsFrom n names acc
  | (m, k) :: r, n, acc, x, h => by
    unfold cellsFrom
    rcases List.mem_cons.mp h with e | h
    · cases e
      exact ⟨n, cells_acc List.mem_cons_self⟩
    · split
      · exact cells_has h
      · exact cells_has h
theorem cells_inj : ∀ {names : List (Str × NameKind)} {h : Heap} {acc : List (Str × Addr)} {x y : Str} {c : Addr}, (∀ p ∈ acc, p.2 < h.objs.size) → (∀ x y c, (x, c) ∈ acc → (y, c) ∈ acc → x = y) →
    (x, c) ∈ cellsFrom h.objs.size names acc → (y, c) ∈ cellsFrom h.objs.size names acc → x = y
  | [], _, _, _, _, _, _, hi, h1, h2 => hi _ _ _ h1 h2
  | (n, k) :: r, h, acc, x, y, c, hl, hi, h1, h2 => by
    unfold cellsFrom at h1 h2
    split at h1
    · rename_i hk
      rw [if_pos hk] at h2
      rw [← Heap.size_push h { cls := .type "cell", data := .cell none }] at h1 h2
      refine cells_inj (h := h.push _) (fun p hp => ?_) (fun x y c a b => ?_) h1 h2
      · rw [Heap.size_push]
        rcases List.mem_cons.mp hp with rfl | hp
        · exact Nat.lt_succ_self _
        · exact Nat.lt_succ_of_lt (hl p hp)
      · rcases List.mem_cons.mp a with e | a <;> rcases List.mem_cons.mp b with e' | b
        · cases e; cases e'; rfl
        · cases e; exact absurd (hl _ b) (Nat.lt_irrefl _)
        · cases e'; exact absurd (hl _ a) (Nat.lt_irrefl _)
        · exact hi _ _ _ a b
    · rename_i hk
      rw [if_neg hk] at h2
      exact cells_inj hl hi h1 h2

theorem newEnv_comp {M : Model} {A : Around} {E : Value → Shared → Prop} {s : Shared} {scope : Scope} {globals : Addr} {closure : List (Str × Addr)} {qual : Str} {func : Option Addr} {code : Value} {around : Env} {builtins : Addr} {Q : Env → Shared → Prop}
    (h : Q (newEnv scope s.heap.objs.size globals (cellsFrom (s.heap.objs.size + 1) scope.names closure) qual func code (some around) builtins)
      { s with heap := pushCells (s.heap.push { cls := .type "dict", data := .dict #[] }) scope.names }) :
    wpAny M A (newFunctionEnv scope globals closure [] qual func code (some around) builtins) Q E s := by
  simp only [newFunctionEnv, Option.isSome_some, if_true]
  refine wpAny_bind (wpAny_alloc ?_)
  refine wpAny_bind (wpAny_layCells _ (fun n k c => rfl) scope.names closure _ _ ?_)
  rw [show ({ s with heap := s.heap.push { cls := .type "dict", data := .dict #[] } } : Shared).heap.objs.size = s.heap.objs.size + 1 from Heap.size_push ..]
  rw [List.forIn_nil]
  exact wpAny_bind (wpAny_pure (wpAny_pure h))

/-- every name of the written scope, in the scope that runs -/
theorem lookup_relS {sc : Scope} : ∀ {names : List (Str × NameKind)} {x : Str} {k : NameKind},
    (names.map fun (n, k) => if (k == NameKind.free && sc.kind == .function && sc.names.lookup n == some .cell) then (n, NameKind.cell) else (n, k)).lookup x = some k →
    ∃ k', names.lookup x = some k' ∧ (k = k' ∨ (k' = .free ∧ k = .cell))
  | [], _, _, h => by simp at h
  | (n, k₀) :: r, x, k, h => by
    have ih := @lookup_relS sc r x k
    have h' : List.lookup x ((if (k₀ == NameKind.free && sc.kind == .function && sc.names.lookup n == some .cell) = true then (n, NameKind.cell) else (n, k₀)) :: (r.map _)) = some k := h
    cases hx : x == n with
    | true =>
      simp only [List.lookup_cons, hx]
      by_cases hc : (k₀ == NameKind.free && sc.kind == .function && sc.names.lookup n == some .cell) = true
      · rw [if_pos hc] at h'
        simp only [List.lookup_cons, hx] at h'
        cases h'
        simp only [Bool.and_eq_true, beq_iff_eq] at hc
        exact ⟨k₀, rfl, .inr ⟨hc.1.1, rfl⟩⟩
      · rw [if_neg hc] at h'
        simp only [List.lookup_cons, hx] at h'
        cases h'
        exact ⟨_, rfl, .inl rfl⟩
    | false =>
      simp only [List.lookup_cons, hx]
      by_cases hc : (k₀ == NameKind.free && sc.kind == .function && sc.names.lookup n == some .cell) = true
      · rw [if_pos hc] at h'
        simp only [List.lookup_cons, hx] at h'
        exact ih h'
      · rw [if_neg hc] at h'
        simp only [List.lookup_cons, hx] at h'
        exact ih h'

/-- the names of a comprehension's block: its own (with their places in N), or captured -/
structure BlkOk (N : List Str) (sc scope : Scope) (own : List (Str × Nat)) : Prop where
  kind : scope.kind = .function
  uniq : ∀ y ∈ scope.names, scope.names.lookup y.1 = some y.2
  ix : ∀ p ∈ own, N[p.2]? = some p.1
  free : ∀ y ∈ scope.names, y.2 = .free → sc.names.lookup y.1 = some .cell ∨ sc.names.lookup y.1 = some .free
  own : ∀ y ∈ scope.names, y.2 = .local ∨ y.2 = .cell → y.1 ∈ own.map (·.1) ∨ y.1 ∉ N
/-- the slots of the block's own names forgotten -/
def wipe (σ : St) : List Nat → St
  | [] => σ
  | v :: vs => (wipe σ vs).set v none
theorem wipe_length (σ : St) : ∀ vs : List Nat, (wipe σ vs).length = σ.length
  | [] => rfl
  | v :: vs => by unfold wipe; rw [List.length_set, wipe_length σ vs]
theorem wipe_some {σ : St} {i : Nat} {x : V} : ∀ {vs : List Nat}, (wipe σ vs)[i]? = some (some x) → σ[i]? = some (some x) ∧ i ∉ vs
  | [], h => ⟨h, by simp⟩
  | v :: vs, h => by
    unfold wipe at h
    by_cases hi : v = i
    · subst hi
      by_cases hv : v < (wipe σ vs).length
      · rw [List.getElem?_set_self hv] at h; cases h
      · rw [List.getElem?_eq_none (by simpa using hv)] at h; cases h
    · rw [List.getElem?_set_ne hi] at h
      obtain ⟨h1, h2⟩ := wipe_some h
      exact ⟨h1, by simp only [List.mem_cons, not_or]; exact ⟨fun e => hi e.symm, h2⟩⟩

/-- the context of a block that starts at s, its iterator's objects at fp -/
abbrev Cx.blk (X : Cx) (s : Shared) (H : Hp) (scope : Scope) (cenv : Env) (fp : List Addr) : Cx := { X with s_0 := s, H_0 := H, env := cenv, outer := X.stack, ex := fp, fn := fun x => scope.names.lookup x == some .cell, pn := [], xe := fun _ _ => False }
section
variable {X : Cx} {pins : List (Addr × Obj)} {σ : St} {H : Hp} {s : Shared}
theorem block_start {scope : Scope} {own : List (Str × Nat)} {fp : List Addr} (I : Inv X pins σ H s) (ok : BlkOk X.N X.env.scope scope own) (hN : X.N.Nodup) (hfp : ∀ b ∈ fp, FpOk X pins H b ∧ b < s.heap.objs.size) :
    Inv (X.blk s H scope (compEnvC scope (cellsFrom (s.heap.objs.size + 1) scope.names (cloFrom X.env.cells scope.names [])) s.heap.objs.size X.env) fp) [] (wipe σ (own.map (·.2))) H { s with heap := pushCells (s.heap.push { cls := .type "dict", data := .dict #[] }) scope.names } := by
  have hfree : ∀ y ∈ scope.names, y.2 = .free → ∃ c, X.env.cells.lookup y.1 = some c := fun y hy e => by
    rcases ok.free y hy e with k | k
    · exact I.ok.has _ (.inl k)
    · exact I.ok.has _ (.inr k)
  generalize hcenv : compEnvC scope (cellsFrom (s.heap.objs.size + 1) scope.names (cloFrom X.env.cells scope.names [])) s.heap.objs.size X.env = cenv
  have kp : ∀ b o, s.heap.get? b = some o → (pushCells (s.heap.push { cls := .type "dict", data := .dict #[] }) scope.names).get? b = some o := fun b o e => pushCells_keeps _ _ _ _ (Heap.get?_push_of_some _ e)
  have hL : cenv.locals = s.heap.objs.size := by rw [← hcenv]; rfl
  have hcl : cenv.cells = cellsFrom (s.heap.objs.size + 1) scope.names (cloFrom X.env.cells scope.names []) := by rw [← hcenv]; rfl
  have hsc : cenv.scope = relS scope X.env.scope := by rw [← hcenv]; rfl
  rw [← Heap.size_push s.heap { cls := .type "dict", data := .dict #[] }] at hcl
  have cm : ∀ {y c}, (y, c) ∈ cloFrom X.env.cells scope.names [] → X.env.cells.lookup y = some c ∧ c < s.heap.objs.size := fun {y c} hm => by
    rcases cloFrom_mem hm with hm | ⟨h1, rfl⟩
    · cases hm
    · obtain ⟨c, hc⟩ := hfree _ h1 rfl
      rw [hc]
      obtain ⟨w, z⟩ := I.cell _ _ hc
      exact ⟨rfl, z.lt⟩
  have mem : ∀ {y c}, cenv.cells.lookup y = some c → (X.env.cells.lookup y = some c ∧ c < s.heap.objs.size) ∨ (s.heap.objs.size + 1 ≤ c ∧ CellAt (pushCells (s.heap.push { cls := .type "dict", data := .dict #[] }) scope.names) c none) := fun {y c} e => by
    rw [hcl] at e
    rcases cells_mem (PySem.mem_of_lookup e) with hm | ⟨_, h2, h3⟩
    · exact .inl (cm hm)
    · rw [Heap.size_push] at h2; exact .inr ⟨h2, h3⟩
  have look : ∀ {y}, scope.names.lookup y = some .free → ∃ c, cenv.cells.lookup y = some c ∧ X.env.cells.lookup y = some c := fun {y} hl => by
    have hy : (y, NameKind.free) ∈ scope.names := PySem.mem_of_lookup hl
    obtain ⟨c', e'⟩ := mem_lookup (cells_acc (names := scope.names) (n := (s.heap.push { cls := .type "dict", data := .dict #[] }).objs.size) (cloFrom_has (cells := X.env.cells) (acc := []) hy))
    rw [← hcl] at e'
    refine ⟨c', e', ?_⟩
    rw [hcl] at e'
    rcases cells_mem (PySem.mem_of_lookup e') with hm | ⟨h1, _, _⟩
    · exact (cm hm).1
    · have := ok.uniq _ h1
      rw [hl] at this; cases this
  have okB : (X.blk s H scope cenv fp).Ok := by
    refine ⟨I.ok.mod, by show cenv.scope.kind = _; rw [hsc]; exact ok.kind, by show cenv.globals = _; rw [← hcenv]; exact I.ok.glob, by show cenv.builtins = _; rw [← hcenv]; exact I.ok.blt, by show s.heap.objs.size ≤ cenv.locals; rw [hL]; exact Nat.le_refl _,
      fun y z c e1 e2 => ?_, fun y hy => ?_, fun y c z e => ?_, I.ok.hd, I.ok.frames, .inl rfl, fun b hb => ⟨?_, fun y c e z => ?_⟩, I.bs, Nat.le_trans I.ok.bsz I.sz, fun b o e hb => ?_, fun b hb z => ?_, I.stack, I.stkFree⟩
    · have e1 : cenv.cells.lookup y = some c := e1
      have e2 : cenv.cells.lookup z = some c := e2
      rw [hcl] at e1 e2
      refine cells_inj (fun p hp => ?_) (fun y z c a b => I.ok.inj y z c (cm a).1 (cm b).1) (PySem.mem_of_lookup e1) (PySem.mem_of_lookup e2)
      rw [Heap.size_push]
      exact Nat.lt_succ_of_lt (cm (y := p.1) (c := p.2) hp).2
    · show ∃ c, cenv.cells.lookup y = some c
      have key : ∀ k, cenv.kindOf y = some k → (k = .cell ∨ k = .free) → ∃ c, cenv.cells.lookup y = some c := fun k hk hk' => by
        unfold Env.kindOf at hk
        rw [hsc] at hk
        obtain ⟨k', e, r⟩ := lookup_relS hk
        have : k' = .cell ∨ k' = .free := by
          rcases r with rfl | ⟨rfl, _⟩
          · exact hk'
          · exact .inr rfl
        rcases this with rfl | rfl
        · obtain ⟨c, hm⟩ := cells_has (n := (s.heap.push { cls := .type "dict", data := .dict #[] }).objs.size) (acc := cloFrom X.env.cells scope.names []) (PySem.mem_of_lookup e)
          obtain ⟨c', e'⟩ := mem_lookup hm
          exact ⟨c', by rw [hcl]; exact e'⟩
        · obtain ⟨c, h1, _⟩ := look e
          exact ⟨c, h1⟩
      rcases hy with hy | hy
      · exact key _ hy (.inl rfl)
      · exact key _ hy (.inr rfl)
    · have z : (scope.names.lookup y == some NameKind.cell) = true := z
      have z : scope.names.lookup y = some .cell := by simpa using z
      have e : cenv.cells.lookup y = some c := e
      rw [hcl] at e
      rcases cells_mem (PySem.mem_of_lookup e) with hm | ⟨_, h2, _⟩
      · rcases cloFrom_mem hm with hm | ⟨h1, _⟩
        · cases hm
        · have q := ok.uniq _ h1
          rw [z] at q; cases q
      · rw [Heap.size_push] at h2
        exact Nat.le_of_succ_le h2
    · show b ≠ cenv.locals
      rw [hL]; exact Nat.ne_of_lt (hfp b hb).2
    · have e : cenv.cells.lookup y = some c := e
      rcases mem e with ⟨h1, _⟩ | ⟨h1, _⟩
      · exact (hfp b hb).1.2.2.2.2.1 y c h1 z
      · have h2 : s.heap.objs.size + 1 ≤ b := by rw [← z]; exact h1
        exact absurd (Nat.lt_of_lt_of_le (hfp b hb).2 (Nat.le_of_succ_le h2)) (Nat.lt_irrefl _)
    · rcases (hfp b hb).1.2.2.2.1 with z | z
      · exact I.ok.noex b o e z
      · exact absurd (Nat.lt_of_lt_of_le (Heap.lt_size e) (Nat.le_trans I.ok.bsz z)) (Nat.lt_irrefl _)
    · rcases List.mem_cons.mp (I.stkSub b z) with z | z
      · exact (hfp b hb).1.2.1 z
      · exact (hfp b hb).1.2.2.1 z
  refine ⟨okB, rfl, I.bare, Un.kept kp, ⟨fun _ => none, ?_, fun i y av e1 e2 e3 => ?_⟩, fun y c e => ?_, ?_, fun y c e => ?_, fun p hp => ?_, I.hok.kept kp, by rw [wipe_length]; exact I.len⟩
  · show Heap.Ns _ cenv.locals _
    rw [hL]
    exact Heap.Ns.keeps (Heap.Ns.new ..) fun b o e => pushCells_keeps _ _ _ _ e
  · obtain ⟨e2, hne⟩ := wipe_some e2
    have hfr : scope.names.lookup y = some .free ∧ (cenv.kindOf y = some .cell ∨ cenv.kindOf y = some .free) := by
      have key : ∀ k, cenv.scope.names.lookup y = some k → k = .local ∨ k = .cell ∨ k = .free → scope.names.lookup y = some .free ∧ (cenv.kindOf y = some .cell ∨ cenv.kindOf y = some .free) := fun k hk hk' => by
        have hk0 := hk
        rw [hsc] at hk
        obtain ⟨k', e, r⟩ := lookup_relS hk
        have no : ¬ (k' = .local ∨ k' = .cell) := fun hh => by
          rcases ok.own _ (PySem.mem_of_lookup e) hh with e' | e'
          · obtain ⟨p, hp, hpy⟩ := List.mem_map.mp e'
            have e3 := ok.ix p hp
            have : p.1 = y := hpy
            rw [this] at e3
            exact hne (List.mem_map.mpr ⟨p, hp, nodup_ix hN e3 e1⟩)
          · exact e' (List.mem_of_getElem? e1)
        rcases r with rfl | ⟨rfl, rfl⟩
        · rcases hk' with rfl | rfl | rfl
          · exact absurd (.inl rfl) no
          · exact absurd (.inr rfl) no
          · exact ⟨e, .inr hk0⟩
        · exact ⟨e, .inl hk0⟩
      have e3 : Vis cenv.scope y := e3
      rcases e3 with e3 | e3 | e3
      · exact key _ e3 (.inl rfl)
      · exact key _ e3 (.inr (.inl rfl))
      · exact key _ e3 (.inr (.inr rfl))
    obtain ⟨m, hn, hl⟩ := I.loc
    have hvis : Vis X.env.scope y := (ok.free _ (PySem.mem_of_lookup hfr.1) rfl).elim (fun k => .inr (.inl k)) (fun k => .inr (.inr k))
    obtain ⟨w, r, q⟩ := hl i y av e1 e2 hvis
    refine ⟨w, r, .inr ⟨hfr.2, ?_⟩⟩
    obtain ⟨c, h1, h2⟩ := look hfr.1
    rcases q with ⟨k, _⟩ | ⟨_, c', e', z⟩
    · have k : X.env.scope.names.lookup y = some .local := k
      rcases ok.free _ (PySem.mem_of_lookup hfr.1) rfl with k' | k' <;> rw [show X.env.scope.names.lookup y = _ from k'] at k <;> cases k
    · rw [h2] at e'; cases e'
      exact ⟨c, h1, z.keeps kp⟩
  · have e : cenv.cells.lookup y = some c := e
    rcases mem e with ⟨h1, _⟩ | ⟨_, z⟩
    · obtain ⟨w, z⟩ := I.cell y c h1
      exact ⟨w, z.keeps kp⟩
    · exact ⟨_, z⟩
  · show H cenv.locals = none
    rw [hL]; exact I.hok.fresh (Nat.le_refl _)
  · have e : cenv.cells.lookup y = some c := e
    rcases mem e with ⟨h1, _⟩ | ⟨h1, _⟩
    · exact I.freeC y c h1
    · exact I.hok.fresh (Nat.le_of_succ_le h1)
  · exact absurd (show p ∈ ([] : List (Addr × Obj)) ++ [] from hp) (by simp)

/-- an item appended to a tracked list -/
theorem app_ok {E : Value → Shared → Prop} {D : Addr} {xs : List V} {y : V} {v : Value} {Q : Value → Shared → Prop} (I : Inv X pins σ H s) (hD : H D = some (.lst xs)) (hz : xs.length < sizeLine) (r : RelV y v)
    (h : ∀ s', Inv X pins σ (upd H D (.lst (xs ++ [y]))) s' → Q .none s') : wpAny (model X.prog X.w) X.A (call (.builtin "list.append") [.ref D, v]) Q E s := by
  obtain ⟨hz', its, n, ri, e⟩ := I.hok D _ hD
  have hl := ri.length
  refine append_at (hsz := by rw [List.size_toArray]; omega) e fun h' sb ho' => ?_
  refine h { s with heap := h' } (I.write (t' := s.toks) (by rw [hD]; trivial) (.inl rfl) (fun b u hb q => (sb.2 b hb).trans q) ⟨_, ho'⟩ ⟨by rw [List.length_append]; exact hz, its ++ [v], n + 1, ri.append (.cons r .nil), ?_⟩)
  rw [ho']
  simp

/-- a clause's tests -/
def PTs (X : Cx) (ifs : List Expr) (t : TT) : Prop :=
  ∀ (pins : List (Addr × Obj)) (s : Shared) (σ : St) (H : Hp) (Q : Bool → Hp → Prop), Inv X pins σ H s → t σ H Q →
    wpAny (model X.prog X.w) X.A (forIn ifs true fun c r => if r = true then do let ok ← isTrue c X.env (eval c X.env); pure (ForInStep.yield ok) else pure (ForInStep.yield r)) (TP X pins σ Q) X.xe s
def tYes : TT := fun _ H Q => Q true H
theorem pts_nil : PTs X [] tYes := fun _ _ _ H _ I h => wpAny_tests_nil ⟨H, I, h⟩
end

theorem thnF {α : Type} {t : Sem α} {Q Q' : α → Shared → Prop} {M : Model} {A : Around} {E : Value → Shared → Prop} {s : Shared} (h : wpAny M A t Q (fun _ _ => False) s) (hQ : ∀ a s, Q a s → Q' a s) : wpAny M A t Q' E s := wpAny_mono h hQ fun _ _ z => False.elim z

/-- the loop of a list comprehension's block, the target of any form (codeAny_compLoop_tests asks a target that no tuple goes to; statement and proof follow it, PyProof/CompMap.lean:41-61, with the step letOwnedTupleGo kept) -/
theorem compLoop_any {prog : Program} {w : World} {A : Around} {R : Result → Shared → Prop} {s : Shared} {elt target iter : Expr} {ifs : List Expr} {scope : Scope} {pos : Pos} {it acc : Value} {env : Env} (I : Nat → Shared → Prop)
    (turn : ∀ n s, I n s → wpAny (model prog w) A (pyNext it) (fun r s₁ => match r with
      | none => R (.ok .next) s₁
      | some v => wpAny (model prog w) A (letOwnedTupleGo target it v) (fun _ s₁' => wpAny (model prog w) A (assign target env v) (fun _ s₂ =>
          wpAny (model prog w) A (forIn ifs true fun c r => if r = true then do let ok ← isTrue c env (eval c env); pure (ForInStep.yield ok) else pure (ForInStep.yield r)) (fun ok s₃ =>
            if ok = true then wpAny (model prog w) A (eval elt env) (fun x s₄ =>
              wpAny (model prog w) A (call (.builtin "list.append") [acc, x]) (fun _ s₅ => ∃ m, m < n ∧ I m s₅) (notedBy (model prog w) A env fun e s' => R (.error e) s') s₄) (notedBy (model prog w) A env fun e s' => R (.error e) s') s₃
            else ∃ m, m < n ∧ I m s₃) (notedBy (model prog w) A env fun e s' => R (.error e) s') s₂) (notedBy (model prog w) A env fun e s' => R (.error e) s') s₁') (notedBy (model prog w) A env fun e s' => R (.error e) s') s₁) (notedBy (model prog w) A env fun e s' => R (.error e) s') s)
    (n : Nat) (h : I n s) :
    codeAny (model prog w) A (.compLoop (.ListComp elt [⟨target, iter, ifs, 0⟩] scope pos) 0 it acc env) R s := by
  refine codeAny_loop rfl I (fun n s hI => ?_) n h
  show wpAny _ A ((compTurn (.ListComp elt [⟨target, iter, ifs, 0⟩] scope pos) 0 it acc env).onRaise (fun x => do noteFrame x env; theTreesLotGoes x)) _ _ s
  refine wpAny_noted ?_
  rw [compTurn_list]
  refine wpAny_bind (wpAny_standAt (wpAny_bind (wpAny_mono (turn n s hI) (fun r s₁ h₁ => ?_) fun _ _ h' => h')))
  cases r with
  | none => exact wpAny_pure h₁
  | some v =>
    refine wpAny_bind (wpAny_mono h₁ (fun _ s₁' h₁' => ?_) fun _ _ h' => h')
    refine wpAny_bind (wpAny_mono h₁' (fun _ s₂ h₂ => wpAny_bind (wpAny_mono h₂ (fun ok s₃ h₃ => ?_) fun _ _ h' => h')) fun _ _ h' => h')
    cases ok with
    | false => exact wpAny_pure ⟨rfl, h₃⟩
    | true =>
      exact wpAny_bind (wpAny_bind (wpAny_mono h₃ (fun x s₄ h₄ => wpAny_bind (wpAny_mono h₄ (fun _ s₅ h₅ => wpAny_pure (wpAny_pure ⟨rfl, h₅⟩)) fun _ _ h' => h')) fun _ _ h' => h'))

section
variable {X : Cx}
/-- [elt for target in iter if ..]: D the new list; W by the turn and a measure, Nx what a turn is to reach -/
def tLc (wi : TI) (g : TG) (tt : TT) (te : TE) (vs : List Nat) : TE := fun σ H Q => wi σ H fun J H1 => ∀ D, H1 D = none → ∃ W : Nat → Nat → Hp → Prop, (∃ m, W 0 m (upd H1 D (.lst []))) ∧ ∀ i m H, W i m H →
  (J.stop i H ∧ Q (.ref D) H) ∨ (J.go i H ∧ ∃ Nx : Hp → Prop, (∀ H', Nx H' → ∃ m', m' < m ∧ W (i + 1) m' H') ∧ ∀ x H', J.yld i H x H' → g x (wipe σ vs) H' fun σ2 H2 => wipe σ2 vs = wipe σ vs ∧ tt σ2 H2 fun b H3 =>
    if b = true then te σ2 H3 fun y H4 => ∃ acc, H4 D = some (.lst acc) ∧ acc.length < sizeLine ∧ Nx (upd H4 D (.lst (acc ++ [y]))) else Nx H3)
theorem lc_core {pins : List (Addr × Obj)} {s : Shared} {σ : St} {H : Hp} {Q : VK} {elt tg iter : Expr} {ifs : List Expr} {scope : Scope} {own : List (Str × Nat)} {pos pos' : Pos} {wi : TI} {g : TG} {tt : TT} {te : TE} {use : Option (Value → Sem Unit)} {Qf : Value → Shared → Prop}
    (hc : X.calm = true) (hN : X.N.Nodup) (I : Inv X pins σ H s) (hi : PI X tg iter wi) (ok : BlkOk X.N X.env.scope scope own)
    (hg : ∀ (s : Shared) (H : Hp) (C : Addr) (cl : List (Str × Addr)) (fp : List Addr), PG (X.blk s H scope (compEnvC scope cl C X.env) fp) tg g) (ht : ∀ (s : Shared) (H : Hp) (C : Addr) (cl : List (Str × Addr)) (fp : List Addr), PTs (X.blk s H scope (compEnvC scope cl C X.env) fp) ifs tt)
    (he : ∀ (s : Shared) (H : Hp) (C : Addr) (cl : List (Str × Addr)) (fp : List Addr), PE (X.blk s H scope (compEnvC scope cl C X.env) fp) elt te) (hs : ∀ x, foldedSetIterable iter X.env x = pure x)
    (h : tLc wi g tt te (own.map (·.2)) σ H Q)
    (hRR : ∀ D C s' m H', Inv X pins σ H' s' → Q (.ref D) H' → s'.heap.Ns C m → FpOk X pins H' C → compPost (model X.prog X.w) X.A X.xe use Qf (.ref D) C (.ok .next) s') :
    wpAny (model X.prog X.w) X.A (comprehension (.ListComp elt [⟨tg, iter, ifs, 0⟩] scope pos) scope X.env pos' (newList []) false (eval iter X.env) use) Qf X.xe s := by
  have hfree : ∀ y ∈ scope.names, y.2 = .free → ∃ c, X.env.cells.lookup y.1 = some c := fun y hy e => by
    rcases ok.free y hy e with k | k
    · exact I.ok.has _ (.inl k)
    · exact I.ok.has _ (.inr k)
  refine wpAny_comprehension_free (use := use) rfl hs (closure_ok hfree) ok.kind (fun y hy e => by rw [ok.uniq y hy, e])
    (thn (hi pins s σ H _ I h) fun xv s1 hx => thn hx fun itv s2 h2 => ?_)
  obtain ⟨it, fp, tn, J, H2, e, I2, T, st2, f2, q⟩ := h2
  subst e
  refine wpAny_newObj_type (newEnv_comp ?_) (by show 0 ≤ sizeLine; decide)
  generalize hD : s2.heap.objs.size = D
  have hDn : H2 D = none := I2.hok.fresh (Nat.le_of_eq hD)
  obtain ⟨W, ⟨m0, w0⟩, turn⟩ := q D hDn
  -- the new list
  generalize hs3 : ({ s2 with heap := s2.heap.push { cls := .type "list", data := .seq ([] : List Value).toArray } } : Shared) = s3
  have I3 : Inv X pins σ (upd H2 D (.lst [])) s3 := by
    rw [← hs3]
    refine I2.laid (t' := s2.toks) (fun b o e => Heap.get?_push_of_some _ e) (Nat.le_of_eq hD) ⟨Nat.zero_le _, [], 0, .nil, ?_⟩
    rw [← hD]
    exact Heap.get?_push_size _ rfl
  have h3 : s3.heap = s2.heap.push { cls := .type "list", data := .seq ([] : List Value).toArray } := by rw [← hs3]
  have sz : ∀ b ∈ fp, b < s2.heap.objs.size := fun b hb => by
    obtain ⟨o, e, _⟩ := T.obj _ _ st2 b hb
    exact Heap.lt_size e
  have f3 : ∀ b ∈ fp, FpOk X pins (upd H2 D (.lst [])) b ∧ b < s3.heap.objs.size := fun b hb => by
    have hlt := sz b hb
    refine ⟨⟨?_, (f2 b hb).2⟩, by rw [h3, Heap.size_push]; exact Nat.lt_succ_of_lt hlt⟩
    rw [upd_ne (by rw [← hD]; exact Nat.ne_of_lt hlt)]
    exact (f2 b hb).1
  have st3 : tn 0 s3.heap := T.keep _ _ _ st2 fun b _ o e => by rw [h3]; exact Heap.get?_push_of_some _ e
  have I4 := block_start I3 ok hN f3
  have pg := hg s3 (upd H2 D (.lst [])) s3.heap.objs.size (cellsFrom (s3.heap.objs.size + 1) scope.names (cloFrom X.env.cells scope.names [])) fp
  have pt := ht s3 (upd H2 D (.lst [])) s3.heap.objs.size (cellsFrom (s3.heap.objs.size + 1) scope.names (cloFrom X.env.cells scope.names [])) fp
  have pe := he s3 (upd H2 D (.lst [])) s3.heap.objs.size (cellsFrom (s3.heap.objs.size + 1) scope.names (cloFrom X.env.cells scope.names [])) fp
  show codeAny _ _ (.compStart (.ListComp elt [⟨tg, iter, ifs, 0⟩] scope pos) 0 (.ref it) (.ref D) (compEnvC scope (cellsFrom (s3.heap.objs.size + 1) scope.names (cloFrom X.env.cells scope.names [])) s3.heap.objs.size X.env)) (compPost (model X.prog X.w) X.A X.xe use Qf (.ref D) s3.heap.objs.size) { s3 with heap := pushCells (s3.heap.push { cls := .type "dict", data := .dict #[] }) scope.names }
  have nfp : ∀ b ∈ fp, (upd H2 D (.lst [])) b = none := fun b hb => (f3 b hb).1.1
  generalize hce : compEnvC scope (cellsFrom (s3.heap.objs.size + 1) scope.names (cloFrom X.env.cells scope.names [])) s3.heap.objs.size X.env = ce at I4 pg pt pe ⊢
  have cL : ce.locals = s3.heap.objs.size := by subst hce; rfl
  generalize hH3 : upd H2 D (.lst []) = H3 at I3 I4 pg pt pe w0 nfp f3
  generalize hs4 : ({ s3 with heap := pushCells (s3.heap.push { cls := .type "dict", data := .dict #[] }) scope.names } : Shared) = s4 at I4 ⊢
  have st4 : tn 0 s4.heap := T.keep _ _ _ st3 fun b _ o e => by rw [← hs4]; exact pushCells_keeps _ _ _ _ (Heap.get?_push_of_some _ e)
  have stat : ∀ {σ' : St} {H' : Hp} {s' : Shared}, Inv (X.blk s3 H3 scope ce fp) [] σ' H' s' → (∀ b ∈ fp, H' b = none) → ∀ b ∈ fp, FpOk (X.blk s3 H3 scope ce fp) [] H' b := fun {σ' H' s'} I' hn b hb =>
    ⟨hn b hb, (I'.ok.exf b hb).1, I'.ok.exfs b hb, .inl hb, fun x c e => (I'.ok.exf b hb).2 x c e, fun p hp => absurd (show p ∈ ([] : List (Addr × Obj)) ++ [] from hp) (by simp)⟩
  have loop : codeAny (model X.prog X.w) X.A (.compLoop (.ListComp elt [⟨tg, iter, ifs, 0⟩] scope pos) 0 (.ref it) (.ref D) ce) (compPost (model X.prog X.w) X.A X.xe use Qf (.ref D) s3.heap.objs.size) s4 := by
    refine compLoop_any (fun n s' => ∃ i H', Inv (X.blk s3 H3 scope ce fp) [] (wipe σ (own.map (·.2))) H' s' ∧ tn i s'.heap ∧ (∀ b ∈ fp, H' b = none) ∧ W i n H') ?_ m0 ⟨0, H3, I4, st4, nfp, w0⟩
    rintro n s5 ⟨i, H5, I5, st5, n5, w5⟩
    rcases turn i n H5 w5 with ⟨stop, qq⟩ | ⟨go, Nx, hNx, step⟩
    · have td := T.done (X.blk s3 H3 scope ce fp) rfl rfl rfl hc i [] s5 _ H5 (fun _ _ => False) I5 (stat I5 n5) st5 stop
      refine thnF td fun r s6 ⟨hr, I6⟩ => ?_
      subst hr
      -- back in the def's context
      have I7 : Inv X pins σ H5 s6 := I3.call' (ch := fp) I6.os I6.base I6.hok I6.bare fun b hb => ⟨(f3 b hb).1.2.2.2.1, (f3 b hb).1.2.1, (f3 b hb).1.2.2.2.2.1, (f3 b hb).1.2.2.2.2.2⟩
      have nC : H5 s3.heap.objs.size = none := by
        have z : H5 ce.locals = none := I6.free
        rw [cL] at z
        exact z
      obtain ⟨m, hn, _⟩ := I6.loc
      have hn : s6.heap.Ns ce.locals m := hn
      rw [cL] at hn
      exact hRR D s3.heap.objs.size s6 m H5 I7 qq hn (I3.fpOk (Nat.le_refl _) nC)
    · have ti := T.item (X.blk s3 H3 scope ce fp) rfl rfl rfl hc i [] s5 _ H5 (fun _ _ => False) I5 (stat I5 n5) st5 go
      refine thnF ti fun r s6 ⟨u, hr, h6⟩ => ?_
      subst hr
      refine thnF h6 fun _ s7 ⟨x, H7, I7, r7, y7, st7, n7⟩ => ?_
      have I7' := I7.pinned (stat I7 n7) (T.obj _ _ st7)
      refine thnF (pg _ s7 _ H7 x u _ I7' r7 (step x H7 y7)) fun _ s8 ⟨σ8, H8, I8, hw8, q8⟩ => ?_
      refine thnF (pt _ s8 σ8 H8 _ I8 q8) fun b s9 ⟨H9, I9, q9⟩ => ?_
      -- the turn's end
      have fin : ∀ {s' : Shared} {H' : Hp}, Inv (X.blk s3 H3 scope ce fp) ([] ++ pinsAt fp s7.heap) σ8 H' s' → Nx H' → ∃ m, m < n ∧ ∃ i H', Inv (X.blk s3 H3 scope ce fp) [] (wipe σ (own.map (·.2))) H' s' ∧ tn i s'.heap ∧ (∀ b ∈ fp, H' b = none) ∧ W i m H' := fun {s' H'} I' nx => by
        obtain ⟨m', hm, w'⟩ := hNx H' nx
        have pin' : ∀ b ∈ fp, ∀ o, s7.heap.get? b = some o → s'.heap.get? b = some o ∧ H' b = none := fun b hb o e =>
          let z := I'.pin (b, o) (List.mem_append_right _ (List.mem_append_right _ (mem_pinsAt hb e)))
          ⟨z.1, z.2.1⟩
        have hl : (wipe σ (own.map (·.2))).length = σ8.length := by rw [← hw8, wipe_length]
        refine ⟨m', hm, i + 1, H', (I'.unpinned (pins := [])).weak hl (fun j v e => ?_), T.keep _ _ _ st7 fun b hb o e => (pin' b hb o e).1, fun b hb => ?_, w'⟩
        · rw [← hw8] at e
          exact (wipe_some e).1
        · obtain ⟨o, e, _⟩ := T.obj _ _ st7 b hb
          exact (pin' b hb o e).2
      cases b with
      | false =>
        simp only [Bool.false_eq_true, if_false] at q9 ⊢
        exact fin I9 q9
      | true =>
        simp only [if_true] at q9 ⊢
        refine thnF (pe _ s9 σ8 H9 _ I9 q9) fun z s10 ⟨yv, H10, I10, r10, acc, hD10, hz10, nx⟩ => ?_
        exact app_ok (X := X.blk s3 H3 scope ce fp) I10 hD10 hz10 r10 fun s11 I11 => fin I11 nx
  exact codeAny_compStart_list loop (T.self X.A 0 _ _ _ st4 loop)
/-- as a value -/
theorem pe_lc {elt tg iter : Expr} {ifs : List Expr} {scope : Scope} {own : List (Str × Nat)} {pos : Pos} {wi : TI} {g : TG} {tt : TT} {te : TE} (hc : X.calm = true) (hN : X.N.Nodup) (hi : PI X tg iter wi) (ok : BlkOk X.N X.env.scope scope own)
    (hg : ∀ (s : Shared) (H : Hp) (C : Addr) (cl : List (Str × Addr)) (fp : List Addr), PG (X.blk s H scope (compEnvC scope cl C X.env) fp) tg g) (ht : ∀ (s : Shared) (H : Hp) (C : Addr) (cl : List (Str × Addr)) (fp : List Addr), PTs (X.blk s H scope (compEnvC scope cl C X.env) fp) ifs tt)
    (he : ∀ (s : Shared) (H : Hp) (C : Addr) (cl : List (Str × Addr)) (fp : List Addr), PE (X.blk s H scope (compEnvC scope cl C X.env) fp) elt te) (hs : ∀ x, foldedSetIterable iter X.env x = pure x := by intro _; rfl) :
    PE X (.ListComp elt [⟨tg, iter, ifs, 0⟩] scope pos) (tLc wi g tt te (own.map (·.2))) := by
  intro pins s σ H Q I h
  rw [eval_ListComp]
  refine lc_core hc hN I hi ok hg ht he hs h fun D C s' m H' I' q hn f => ⟨m, hn, fun h'' sb => ?_⟩
  obtain ⟨f0, f1, f2, f3, f4, f5⟩ := f
  exact ⟨.ref D, H', I'.turned (t' := s'.toks) (fun b o hb e => (sb.2 b hb).trans e) f0 f1 f3 f4 f5, rfl, q⟩
/-- name = [..] on one line, the name a local -/
theorem ps_setLc {i : Nat} {y : Str} {py : Pos} {elt tg iter : Expr} {ifs : List Expr} {scope : Scope} {own : List (Str × Nat)} {pos spos : Pos} {wi : TI} {g : TG} {tt : TT} {te : TE} (hc : X.calm = true) (hN : X.N.Nodup) (hy : X.N[i]? = some y) (hyl : X.env.scope.names.lookup y = some .local)
    (hsw : swapsWith (.ListComp elt [⟨tg, iter, ifs, 0⟩] scope pos) (some (.Name y py)) spos.line X.env = pure true) (hi : PI X tg iter wi) (ok : BlkOk X.N X.env.scope scope own)
    (hg : ∀ (s : Shared) (H : Hp) (C : Addr) (cl : List (Str × Addr)) (fp : List Addr), PG (X.blk s H scope (compEnvC scope cl C X.env) fp) tg g) (ht : ∀ (s : Shared) (H : Hp) (C : Addr) (cl : List (Str × Addr)) (fp : List Addr), PTs (X.blk s H scope (compEnvC scope cl C X.env) fp) ifs tt)
    (he : ∀ (s : Shared) (H : Hp) (C : Addr) (cl : List (Str × Addr)) (fp : List Addr), PE (X.blk s H scope (compEnvC scope cl C X.env) fp) elt te) (hs : ∀ x, foldedSetIterable iter X.env x = pure x := by intro _; rfl) :
    PS X (.Assign [.Name y py] (.ListComp elt [⟨tg, iter, ifs, 0⟩] scope pos) spos) (tAsg (tLc wi g tt te (own.map (·.2))) (gName i)) := by
  intro pins s σ H D I h
  rw [exec_Assign_Name_used _ _ _ _ hsw]
  refine wpAny_bind (wpAny_standAt (wpAny_bind ?_))
  show wpAny _ X.A (do let _ ← comprehension (.ListComp elt [⟨tg, iter, ifs, 0⟩] scope pos) scope X.env (firstIterPos [⟨tg, iter, ifs, 0⟩] pos) (newList []) false (eval iter X.env) (some (assign (.Name y py) X.env))) _ _ s
  have h : tLc wi g tt te (own.map (·.2)) σ H (fun x H1 => gName i x σ H1 D.nx) := h
  refine wpAny_bind (thn (lc_core (Qf := fun _ s' => SP X pins D .next s') hc hN I hi ok hg ht he hs h fun L C s' m H' I' q hn f => ?_) fun _ s' hq => wpAny_pure (wpAny_pure hq))
  show wpAny _ _ (assign (.Name y py) X.env (.ref L)) _ _ _
  refine wpAny_assign_Name (store_ok2 (v := V.ref L) I' hN hy (.inl hyl) rfl (fun s2 I2 ⟨a, sb, ha⟩ => ?_) (.inr hyl))
  obtain ⟨f0, f1, f2, f3, f4, f5⟩ := f
  have haC : C ≠ a := by
    rcases ha with z | z
    · rw [z]; exact f1
    · exact fun e => f4 y a z e.symm
  refine ⟨m, hn.sameBut sb haC, fun h3 sb3 => ?_⟩
  exact ⟨_, H', I2.turned (t' := s2.toks) (fun b o hb e => (sb3.2 b hb).trans e) f0 f1 f3 f4 f5, q⟩
theorem sw_true {elt : Expr} {gs : List Comprehension} {scope : Scope} {pos py : Pos} {y : Str} {l : Nat} {env : Env} (hk : env.scope.kind = .function) (hy : env.scope.names.lookup y = some .local) (hl : (py.line == pos.line) = true)
    (ha : (scope.names.any fun (n, k) => n == y && (k == .local || k == .cell)) = false) : swapsWith (.ListComp elt gs scope pos) (some (.Name y py)) l env = pure true := by
  have ky : env.kindOf y = some .local := hy
  have hb : env.blockKind = .function := by unfold Env.blockKind; rw [hk]; rfl
  unfold swapsWith
  simp only [hb, ky, ha, Expr.pos, hl]
  rfl
end

/-- over a range: Pv by the turn and the heap (the new list at D within) -/
theorem lc_range {lo : Int} {n : Nat} {g : TG} {tt : TT} {te : TE} {vs : List Nat} {σ : St} {H1 : Hp} {D : Addr} {Qd : Hp → Prop} (Pv : Nat → Hp → Prop) (h0 : Pv 0 (upd H1 D (.lst [])))
    (hs : ∀ i H, i < n → Pv i H → g (.int (lo + i)) (wipe σ vs) H fun σ2 H2 => wipe σ2 vs = wipe σ vs ∧ tt σ2 H2 fun b H3 =>
      if b = true then te σ2 H3 fun y H4 => ∃ acc, H4 D = some (.lst acc) ∧ acc.length < sizeLine ∧ Pv (i + 1) (upd H4 D (.lst (acc ++ [y]))) else Pv (i + 1) H3) (hd : ∀ H, Pv n H → Qd H) :
    ∃ W : Nat → Nat → Hp → Prop, (∃ m, W 0 m (upd H1 D (.lst []))) ∧ ∀ i m H, W i m H →
      ((Itr lo n).stop i H ∧ Qd H) ∨ ((Itr lo n).go i H ∧ ∃ Nx : Hp → Prop, (∀ H', Nx H' → ∃ m', m' < m ∧ W (i + 1) m' H') ∧ ∀ x H', (Itr lo n).yld i H x H' → g x (wipe σ vs) H' fun σ2 H2 => wipe σ2 vs = wipe σ vs ∧ tt σ2 H2 fun b H3 =>
        if b = true then te σ2 H3 fun y H4 => ∃ acc, H4 D = some (.lst acc) ∧ acc.length < sizeLine ∧ Nx (upd H4 D (.lst (acc ++ [y]))) else Nx H3) := by
  refine ⟨fun i m H => m = n - i ∧ i ≤ n ∧ Pv i H, ⟨n, by simp, Nat.zero_le _, h0⟩, ?_⟩
  rintro i m H ⟨rfl, hi, p⟩
  by_cases hlt : i < n
  · refine .inr ⟨hlt, Pv (i + 1), fun H' p' => ⟨n - (i + 1), by omega, rfl, hlt, p'⟩, fun x H' y => ?_⟩
    obtain ⟨e, y⟩ := y
    subst e y
    exact hs i _ hlt p
  · have e : i = n := by omega
    subst e
    exact .inl ⟨Nat.le_refl _, hd H p⟩
/-- over a list that the block leaves as it is -/
theorem lc_list {K : PySem.W.Frag} {a : Addr} {xs : List V} {g : TG} {tt : TT} {te : TE} {vs : List Nat} {σ : St} {H1 : Hp} {D : Addr} {Qd : Hp → Prop} (Pv : Nat → Hp → Prop) (h0 : Pv 0 (upd H1 D (.lst []))) (hl : ∀ i H, i ≤ xs.length → Pv i H → SqL K H a xs)
    (hs : ∀ i x H, xs[i]? = some x → Pv i H → g x (wipe σ vs) H fun σ2 H2 => wipe σ2 vs = wipe σ vs ∧ tt σ2 H2 fun b H3 =>
      if b = true then te σ2 H3 fun y H4 => ∃ acc, H4 D = some (.lst acc) ∧ acc.length < sizeLine ∧ Pv (i + 1) (upd H4 D (.lst (acc ++ [y]))) else Pv (i + 1) H3) (hd : ∀ H, Pv xs.length H → Qd H) :
    ∃ W : Nat → Nat → Hp → Prop, (∃ m, W 0 m (upd H1 D (.lst []))) ∧ ∀ i m H, W i m H →
      ((Itl K a).stop i H ∧ Qd H) ∨ ((Itl K a).go i H ∧ ∃ Nx : Hp → Prop, (∀ H', Nx H' → ∃ m', m' < m ∧ W (i + 1) m' H') ∧ ∀ x H', (Itl K a).yld i H x H' → g x (wipe σ vs) H' fun σ2 H2 => wipe σ2 vs = wipe σ vs ∧ tt σ2 H2 fun b H3 =>
        if b = true then te σ2 H3 fun y H4 => ∃ acc, H4 D = some (.lst acc) ∧ acc.length < sizeLine ∧ Nx (upd H4 D (.lst (acc ++ [y]))) else Nx H3) := by
  refine ⟨fun i m H => m = xs.length - i ∧ i ≤ xs.length ∧ Pv i H, ⟨xs.length, by simp, Nat.zero_le _, h0⟩, ?_⟩
  rintro i m H ⟨rfl, hi, p⟩
  have q := hl i H hi p
  by_cases hlt : i < xs.length
  · refine .inr ⟨⟨xs, xs[i], q, by simp [hlt]⟩, Pv (i + 1), fun H' p' => ⟨xs.length - (i + 1), by omega, rfl, hlt, p'⟩, fun x H' y => ?_⟩
    obtain ⟨e, y⟩ := y
    subst e
    exact hs i x _ (y xs q) p
  · have e : i = xs.length := by omega
    subst e
    exact .inl ⟨⟨xs, q, Nat.le_refl _⟩, hd H p⟩
def blkC (N : List Str) (sc scope : Scope) (own : List (Str × Nat)) : Bool :=
  (match scope.kind with | .function => true | _ => false) && (scope.names.all fun y => decide (scope.names.lookup y.1 = some y.2)) && (own.all fun p => decide (N[p.2]? = some p.1)) &&
    (scope.names.all fun y => match y.2 with
      | .free => (match sc.names.lookup y.1 with | some .cell => true | some .free => true | _ => false)
      | .local => decide (y.1 ∈ own.map (·.1)) || decide (y.1 ∉ N)
      | .cell => decide (y.1 ∈ own.map (·.1)) || decide (y.1 ∉ N)
      | _ => true)
theorem blkOk_by {N : List Str} {sc scope : Scope} {own : List (Str × Nat)} (h : blkC N sc scope own = true) : BlkOk N sc scope own := by
  unfold blkC at h
  simp only [Bool.and_eq_true, List.all_eq_true, decide_eq_true_eq] at h
  obtain ⟨⟨⟨h1, h2⟩, h3⟩, h4⟩ := h
  refine ⟨?_, h2, h3, fun y hy e => ?_, fun y hy e => ?_⟩
  · split at h1
    · assumption
    · cases h1
  · have q := h4 y hy
    simp only [e] at q
    split at q <;> first | exact .inl (by assumption) | exact .inr (by assumption) | cases q
  · have q := h4 y hy
    rcases e with e | e <;> (simp only [e, Bool.or_eq_true, decide_eq_true_eq] at q; exact q)
end L2

namespace L2
open PySem PySem.Spec PyProof.Rows

section
variable {prog : Program} {w : World} {A : Around} {R : Result → Shared → Prop} {s : Shared} {elt t0 i0 t1 i1 : Expr} {ifs0 ifs1 : List Expr} {scope : Scope} {pos : Pos} {it acc : Value} {env : Env}
end

section
variable {X : Cx}
end
end L2

namespace L2
open PySem PySem.Spec PyProof.Rows

section
variable {κ : Type} [DecidableEq κ]

end

section
variable {P : Program} {w : World} {H : Hp} {h : Heap} {a : Addr}
end

section
variable {X : Cx} {pins : List (Addr × Obj)} {σ : St} {H : Hp} {s : Shared} {a : Addr} {y v : V} {u r : Value} {o : Option V} {A : Around} {E : Value → Shared → Prop}

end

section
variable {X : Cx} {pins : List (Addr × Obj)} {σ : St} {H : Hp} {s : Shared} {a : Addr} {kvs : List (Key × V)} {k : Key} {u : Value} {A : Around} {E : Value → Shared → Prop}
end

section
variable {X : Cx} {o i e value : Expr} {pos pos' tpos : Pos} {td ty tv : TE}
end

section
variable {X : Cx} {pos : Pos}
end

section
variable {X : Cx} {pins : List (Addr × Obj)} {σ : St} {H : Hp} {s : Shared} {a : Addr} {y d : V} {u r : Value} {o : Option V} {A : Around} {E : Value → Shared → Prop}
end

section
variable {X : Cx} {o e f : Expr} {apos cpos : Pos} {td ty tx : TE}
end

section
variable {X : Cx} {pins : List (Addr × Obj)} {σ : St} {H : Hp} {s : Shared} {a : Addr} {kvs : List (Key × V)} {A : Around} {E : Value → Shared → Prop}
end

section
variable {X : Cx} {pins : List (Addr × Obj)} {σ : St} {H : Hp} {s : Shared} {a : Addr} {y : V} {u : Value} {A : Around} {E : Value → Shared → Prop}
end
end L2

namespace L2
open PySem PySem.Spec PyProof.Rows

section
variable {prog : Program} {w : World} {A : Around} {E : Value → Shared → Prop}

end

section
variable {X : Cx}
end
end L2

namespace L2
open PySem PySem.Spec PyProof.Rows

section
variable {X : Cx} {pins : List (Addr × Obj)} {σ : St} {H : Hp} {s : Shared} {h' : Heap}

end
section
variable {X : Cx}

theorem pi_one {tg : Expr} {pins : List (Addr × Obj)} {σ : St} {H : Hp} {s : Shared} {R : It → Hp → Prop} {J : It} {tn : Nat → Heap → Prop} {tk : Nat} (I : Inv X pins σ H s) (o : Obj)
    (T : Turn X.prog X.w X.K tg J [s.heap.objs.size] s.heap.objs.size tn) (st : tn 0 (s.heap.push o)) (q : R J H) : PIE X pins σ tg R (.ref s.heap.objs.size) { s with heap := s.heap.push o, toks := tk } := by
  refine ⟨s.heap.objs.size, [s.heap.objs.size], tn, J, H, rfl, I.kept fun b ob e => Heap.get?_push_of_some _ e, T, st, fun b hb => ?_, q⟩
  have e : b = s.heap.objs.size := by simpa using hb
  subst e
  exact I.fpOk (Nat.le_refl _) (I.hok.fresh (Nat.le_refl _))
end

/-- lo, lo + c, .. (n of them) -/
def Itc (lo c : Int) (n : Nat) : It := ⟨fun i _ => i < n, fun i H x H' => H' = H ∧ x = .int (lo + (i : Nat) * c), fun i _ => n ≤ i⟩
theorem turn_rangeC {P : Program} {w : World} {K : PySem.W.Frag} {tg : Expr} (it : Addr) (lo c : Int) (n : Nat) : Turn P w K tg (Itc lo c n) [it] it (fun i h => IsRangeIter h it (lo + (i : Nat) * c) ((n : Int) - (i : Nat)) c) where
  mem := by simp
  obj := fun i h st b hb => by
    have e : b = it := by simpa using hb
    subst e
    exact ⟨_, st, fun v z => nomatch z⟩
  keep := fun i h h' st k => k it (by simp) _ st
  item := by
    intro X hP hw hK hc i pins s σ H E I hf st hg
    subst hP hw hK
    obtain ⟨f0, f1, f2, f3, f4, f5⟩ := hf it (by simp)
    have W := Walks.range (prog := X.prog) (w := X.w) (I.ok.hd hc) it lo c n
    refine W.item i s _ _ hg st fun v h' tk hv st' kk => ?_
    obtain ⟨t, rfl⟩ := hv
    have I1 : Inv X pins σ H { s with heap := h', toks := tk } := I.turned (fun b o hb e => kk b o (by simpa using hb) e) f0 f1 f3 f4 f5
    exact ⟨_, rfl, go_of (s := { s with heap := h', toks := tk }) (n := "range_iterator") st' rfl rfl (by decide) ⟨.int (lo + (i : Nat) * c), H, I1, ⟨t, rfl⟩, ⟨rfl, rfl⟩, st', fun b hb => (hf b hb).1⟩⟩
  done := by
    intro X hP hw hK hc i pins s σ H E I hf st hg
    subst hP hw hK
    obtain ⟨f0, f1, f2, f3, f4, f5⟩ := hf it (by simp)
    exact wpAny_pyNext_range_end (I.ok.hd hc) st (by have : n ≤ i := hg; omega) fun h' eb => ⟨rfl, I.turned (t' := s.toks) (fun b o hb e => eb b o hb e) f0 f1 f3 f4 f5⟩
  self := fun A i s Q E st h => wpAny_pyIter_rangeiter st h
/-- range(i, j, c): small bounds, n items -/
def RgC (i j c : Int) (n : Nat) : Prop := c ≠ 0 ∧ c.natAbs < 1073741824 ∧ Builtin.Range.small i j c = true ∧ Builtin.Range.rangeSize i j c = n
theorem RgC.neg {i j : Int} (ha : -(2 ^ 62) ≤ i) (ha' : i < 2 ^ 62) (hb : -(2 ^ 62) ≤ j) (hb' : j < 2 ^ 62) : RgC i j (-1) (i - j).toNat :=
  ⟨by decide, by decide, PySem.W.small_down ha ha' hb hb', PySem.W.rangeSize_downNat i j⟩
def iRng3 (ta : TA) : TI := fun σ H R => ta σ H fun vs H1 => ∃ (i j c : Int) (n : Nat), vs = [.int i, .int j, .int c] ∧ RgC i j c n ∧ R (Itc i c n) H1
section
variable {X : Cx} {tg : Expr}
theorem pi_range3 {a b c : Expr} {ta : TA} {p pos : Pos} (hg : Gl X "range") (hm : X.mg "range" = none) (ha : PA X [a, b, c] ta)
    (hs : starEach [a, b, c] X.env = (false, eval a X.env) :: starEach [b, c] X.env := by rfl) (hpl : (backTo pos (starEach [b, c] X.env)).any (·.1) = false := by rfl) :
    PI X tg (.Call (.Name "range" p) [a, b, c] [] pos) (iRng3 ta) := by
  intro pins s σ H R I h
  refine Call_ (ld_blt I hg hm boot_range (PyProof.Rows.callWith_type1 (thn (ha pos pins s σ H _ I h) fun us s1 ⟨vs, H1, I1, r1, q1⟩ => ?_) hs hpl))
  obtain ⟨i, j, k, n, e, ⟨c0, c1, c2, c3⟩, q⟩ := q1
  subst e
  cases r1 with
  | cons r rr =>
    cases rr with
    | cons r' rr =>
      cases rr with
      | cons r'' rr =>
        cases rr
        obtain ⟨t, rfl⟩ := r
        obtain ⟨t', rfl⟩ := r'
        obtain ⟨t'', rfl⟩ := r''
        refine call_range_3 c0 ?_ (.inl (PyProof.noPylong_small c1))
        refine wpAny_pyIter_range (IsRange.new ..) c2 ?_
        have I2 : Inv X pins σ H1 { s1 with heap := s1.heap.push { cls := .type "range", data := .fields #[.int i t, .int j t', .int k t''] } } := I1.kept (t' := s1.toks) fun b o e => Heap.get?_push_of_some _ e
        refine pi_one (tk := s1.toks) I2 _ (turn_rangeC _ i k n) ?_ q
        have e1 : i + ((0 : Nat) : Int) * k = i := by simp
        have e2 : (n : Int) - ((0 : Nat) : Int) = Builtin.Range.rangeSize i j k := by rw [c3]; simp
        show IsRangeIter _ _ (i + ((0 : Nat) : Int) * k) ((n : Int) - ((0 : Nat) : Int)) k
        rw [e1, e2]
        exact Heap.get?_push_size _ rfl
end
/-- the turns of a step range, for the for loop -/
theorem for_rangeC {lo c : Int} {n : Nat} {g : TG} {tb : TS} {D : Ends} {σ : St} {H : Hp} (Pv : Nat → St → Hp → Prop) (h0 : Pv 0 σ H)
    (hs : ∀ i σ H, i < n → Pv i σ H → g (.int (lo + (i : Nat) * c)) σ H fun σ2 H2 => tb { D with nx := Pv (i + 1), ct := Pv (i + 1), bk := D.nx } σ2 H2) (hd : ∀ σ H, Pv n σ H → D.nx σ H) :
    ∃ W : Nat → Nat → St → Hp → Prop, (∃ m, W 0 m σ H) ∧ ∀ i m σ H, W i m σ H →
      ((Itc lo c n).stop i H ∧ D.nx σ H) ∨ ((Itc lo c n).go i H ∧ ∃ N : St → Hp → Prop, (∀ σ' H', N σ' H' → ∃ m', m' < m ∧ W (i + 1) m' σ' H') ∧ ∀ x H', (Itc lo c n).yld i H x H' → g x σ H' fun σ2 H2 => tb { D with nx := N, ct := N, bk := D.nx } σ2 H2) := by
  refine ⟨fun i m σ H => m = n - i ∧ i ≤ n ∧ Pv i σ H, ⟨n, by simp, Nat.zero_le _, h0⟩, ?_⟩
  rintro i m σ H ⟨rfl, hi, p⟩
  by_cases hlt : i < n
  · refine .inr ⟨hlt, Pv (i + 1), fun σ' H' p' => ⟨n - (i + 1), by omega, rfl, hlt, p'⟩, fun x H' y => ?_⟩
    obtain ⟨e, y⟩ := y
    subst e y
    exact hs i σ _ hlt p
  · have e : i = n := by omega
    subst e
    exact .inl ⟨Nat.le_refl _, hd σ H p⟩

section
variable {X : Cx} {tg : Expr}
end

section
variable {prog : Program} {w : World} {A : Around} {E : Value → Shared → Prop} {s : Shared}
end

section
variable {X : Cx} {pins : List (Addr × Obj)} {σ : St} {H : Hp} {s : Shared} {d : Addr} {o : Obj}
end

section
variable {P : Program} {w : World} {K : PySem.W.Frag} {tg : Expr} {d : Addr} {o : Obj} {es : Array DictEntry} {ep : Nat}
end

section
variable {X : Cx} {tg e : Expr} {td : TE} {apos cpos : Pos}
end

end L2

section 
namespace Bits
open PySem PyProof.Rows

theorem nat_xor_add_and (m : Nat) : ∀ n : Nat, (m ^^^ n) + 2 * (m &&& n) = m + n := by
  induction m using Nat.strongRecOn with
  | _ m ih =>
    intro n
    by_cases h0 : m = 0
    · subst h0
      simp
    · have ih' := ih (m / 2) (by omega) (n / 2)
      rw [← Nat.xor_div_two, ← Nat.and_div_two] at ih'
      have o1 := @Nat.xor_mod_two_eq_one m n
      have a1 := @Nat.and_mod_two_eq_one m n
      omega

theorem bitXor_pp {x y : Int} (hx : 0 ≤ x) (hy : 0 ≤ y) : Builtin.bitXor x y = ((x.toNat ^^^ y.toNat : Nat) : Int) := by
  have e := nat_xor_add_and x.toNat y.toNat
  rw [bitXor_and, bitAnd_pp hx hy]
  omega
theorem bitOr_pp {x y : Int} (hx : 0 ≤ x) (hy : 0 ≤ y) : Builtin.bitOr x y = ((x.toNat ||| y.toNat : Nat) : Int) := by
  have e := nat_or_add_and x.toNat y.toNat
  rw [bitOr_and, bitAnd_pp hx hy]
  omega

end Bits
end 

section 
namespace TL
open PySem PySem.Builtin PySem.Builtin.Str PySem.StrLaws

end TL
end 

namespace L2
open PySem PySem.Spec PyProof.Rows

section
variable {X : Cx} {pins : List (Addr × Obj)} {σ : St} {H : Hp} {s : Shared} {Q : VK}
end

section
variable {X : Cx}

end

section
variable {X : Cx} {o e : Expr} {to te : TE}

end
end L2

namespace L2
open PySem PySem.Spec PyProof.Rows

section
variable {X : Cx}
end

end L2

namespace Att
open PySem PySem.W PySem.Calls PyProof.Rows

section
variable {prog : Program} {w : World} {A : Around} {E : Value → Shared → Prop} {s : Shared} {K : Frag}

end
end Att

namespace L2
open PySem PySem.Spec PyProof.Rows

end L2

namespace L2
open PySem PySem.Spec PyProof.Rows

abbrev KOf {K : PySem.W.Frag} {h : Heap} (_ : K.In h) : PySem.W.Frag := K

end L2

namespace L2
open PySem PySem.Spec PyProof.Rows

/-- the j-th statement of a class's body -/
def inClass (s : Stmt) (j : Nat) : Stmt := match s with
  | .ClassDef _ _ _ body _ _ _ _ _ _ _ => body.getD j (.Pass ⟨0, 0, 0, 0⟩)
  | _ => .Pass ⟨0, 0, 0, 0⟩
def defArgs (s : Stmt) : Arguments := match s with
  | .FunctionDef _ a _ _ _ _ _ _ _ _ => a
  | _ => { posonlyargs := [], args := [], vararg := none, kwonlyargs := [], kw_defaults := [], kwarg := none, defaults := [] }
def defBody (s : Stmt) : List Stmt := match s with
  | .FunctionDef _ _ b _ _ _ _ _ _ _ => b
  | _ => []
def defScope (s : Stmt) : Scope := match s with
  | .FunctionDef _ _ _ _ _ _ sc _ _ _ => sc
  | _ => { kind := .function, names := [], isGenerator := false, isCoroutine := false }

abbrev CX0 : CXT := fun _ _ _ _ _ _ => False
abbrev E0 : XK := fun _ _ _ => False
theorem pass0 {X : Cx} : Passes CX0 X E0 := fun _ _ _ _ _ _ _ h => h.elim

structure Fun (K : PySem.W.Frag) (x qual : Str) (st : Stmt) (f : Addr) (fd : FuncData) : Prop where
  ex : ∃ (oc : Value) (od : Option Addr) (kV doc pm : Value) (an : Option Addr) (cdv ct : Value) (osl : Array (Option Value)),
    fd = PySem.W.fnOf x qual (defArgs st) (defBody st) (defScope st) .none kV doc pm an cdv ct ∧ K.lookup f = some ⟨oc, od, .func fd, osl⟩ ∧ PySem.W.codeIn K cdv qual = true
  kp : PySem.W.keepIn K (.ref f) = true
section
variable {P : Program} {w : World} {K : PySem.W.Frag} {mg : Str → Option Value} {base : Heap}
/-- THE RULE for a def: its body as a term of rules, and the reading of that term -/
theorem Fun.ok {x qual : Str} {st : Stmt} {f : Addr} {fd : FuncData} {N ps : List Str} {k : Nat} {sp : Sp} (F : Fun K x qual st f fd) (S : FnScope N ps (defScope st)) (len : ∀ vs H Q E, sp vs H Q E → vs.length = ps.length)
    (hbody : ∀ (cdv : Value) (A : Around) (outer : List Env) (s : Shared) (H : Hp) (vs : List V) (Q : VK) (E : XK), Room k (A.deeper (envOfC qual (defScope st) s.heap.objs.size f cdv)) → sp vs H Q E →
      ∃ t, PSs (cxOf CX0 P w K mg base N qual (defScope st) f cdv A outer s H E).nox (defBody st) t ∧ t { nx := fun _ H' => Q .non H', rt := Q } (start N vs) H) : FnOk P w K mg base CX0 (k + 1) f fd ps sp := by
  obtain ⟨oc, od, kV, doc, pm, an, cdv, ct, osl, rfl, lk, hcd⟩ := F.ex
  refine fn_of lk hcd S len fun A outer s H vs Q E hr hsp => ?_
  obtain ⟨t, h, q⟩ := hbody cdv A outer s H vs Q E hr hsp
  exact ⟨t, h.nox, q⟩
/-- how its arguments bind (no defaults): h is «fun _ _ _ _ _ _ us hl => match us, hl with | [_, _], _ => rfl», one _ a parameter -/
theorem Fun.binds {x qual : Str} {st : Stmt} {f : Addr} {fd : FuncData} {ps : List Str} (F : Fun K x qual st f fd)
    (h : ∀ (kV doc pm : Value) (an : Option Addr) (cdv ct : Value) (us : List Value), us.length = ps.length → bindArgs (PySem.W.fnOf x qual (defArgs st) (defBody st) (defScope st) .none kV doc pm an cdv ct) ⟨us, []⟩ = pure (ps.zip us)) : Binds K fd ps [] := by
  obtain ⟨oc, od, kV, doc, pm, an, cdv, ct, osl, rfl, lk, hcd⟩ := F.ex
  exact .all (h kV doc pm an cdv ct)
theorem fun_mk {x qual : Str} {st : Stmt} {f : Addr} {oc : Value} {od an : Option Addr} {osl : Array (Option Value)} {kV doc pm cdv ct : Value} (l : K.lookup f = some ⟨oc, od, .func (PySem.W.fnOf x qual (defArgs st) (defBody st) (defScope st) .none kV doc pm an cdv ct), osl⟩)
    (c : PySem.W.codeIn K cdv qual = true) (k : PySem.W.keepIn K (.ref f) = true) : Fun K x qual st f (PySem.W.fnOf x qual (defArgs st) (defBody st) (defScope st) .none kV doc pm an cdv ct) := ⟨⟨oc, od, kV, doc, pm, an, cdv, ct, osl, rfl, l, c⟩, k⟩
end
theorem small1000 {n : Nat} (h : n ≤ 1000) : n < sizeLine := Nat.lt_of_le_of_lt h (by decide)

section
variable {X : Cx}
theorem pv (i : Nat) {x : Str} {pos : Pos} (hN : X.N[i]? = some x := by rfl) (hv : Vis X.env.scope x := by first | exact Or.inl rfl | exact Or.inr (Or.inl rfl) | exact Or.inr (Or.inr rfl)) (hd : (x == ("__debug__" : Str)) = false := by decide)
    (hcd : (x == ("__classdict__" : Str)) = false := by decide) : PE X (.Name x pos) (tVar i) := pe_var hN hv hd hcd
end

theorem iteF {A B : Prop} (h : B) : if false = true then A else B := by
  rw [if_neg Bool.false_ne_true]
  exact h
theorem iteT {A B : Prop} (h : A) : if true = true then A else B := by
  rw [if_pos rfl]
  exact h
theorem ite2 {c A B : Prop} [Decidable c] (h1 : c → A) (h2 : ¬ c → B) : if c then A else B := by
  by_cases h : c
  · rw [if_pos h]
    exact h1 h
  · rw [if_neg h]
    exact h2 h

/-- all that was tracked is as it was -/
def Same (H H' : Hp) : Prop := ∀ b o, H b = some o → H' b = some o
theorem Same.refl (H : Hp) : Same H H := fun _ _ h => h
theorem Same.trans {H H1 H2 : Hp} (a : Same H H1) (b : Same H1 H2) : Same H H2 := fun c o h => b c o (a c o h)
theorem Same.free {H H' : Hp} (e : Same H H') {l : Addr} (h : H' l = Option.none) : H l = Option.none := by
  cases q : H l with
  | none => rfl
  | some o =>
    rw [e l o q] at h
    cases h

section
variable {κ : Type} [DecidableEq κ]
theorem nd_snoc : ∀ {l : List κ} {k : κ}, l.Nodup → ¬ k ∈ l → (l ++ [k]).Nodup
  | [], k, _, _ => by simp
  | a :: r, k, h, hk => by
    obtain ⟨h1, h2⟩ := List.nodup_cons.mp h
    show (a :: (r ++ [k])).Nodup
    refine List.nodup_cons.mpr ⟨fun m => ?_, nd_snoc h2 fun m => hk (List.mem_cons.mpr (Or.inr m))⟩
    rcases List.mem_append.mp m with q | q
    · exact h1 q
    · exact hk (List.mem_cons.mpr (Or.inl (List.mem_singleton.mp q).symm))
end
theorem at_of {xs : List V} {z : Int} {j : Nat} {v : V} (e : z = (j : Int)) (h : xs[j]? = some v) : atI xs z = some v := by
  rw [e]
  exact atI_nat h
theorem nd_ix {α : Type} {l : List α} (hN : l.Nodup) {i j : Nat} {x : α} (a : l[i]? = some x) (b : l[j]? = some x) : i = j := by
  obtain ⟨h1, e1⟩ := List.getElem?_eq_some_iff.mp a
  obtain ⟨h2, e2⟩ := List.getElem?_eq_some_iff.mp b
  exact (List.getElem_inj hN).mp (e1.trans e2.symm)
end L2

section
set_option Elab.async false
set_option linter.all false
set_option maxRecDepth 100000
set_option maxHeartbeats 2000000
namespace L2
open PySem PySem.Spec PyProof.Rows
open PySem.W (WData Codec OpenSpec Well WellAll ReadsW ReadsAllW)
mutual
/-- x stands for the datum d, lists and tuples all the way -/
inductive Dw (K : PySem.W.Frag) (H : Hp) : V → WData → Prop
  | non : Dw K H .non .none
  | bl (b : Bool) : Dw K H (.bl b) (.bool b)
  | int (i : Int) : Dw K H (.int i) (.int i)
  | str (x : Str) : Dw K H (.str x) (.str x)
  | byt (b : Array UInt8) : Dw K H (.byt b) (.bytes b.toList)
  | lst {a : Addr} {xs : List V} {ds : List WData} : SqL K H a xs → DwAll K H xs ds → Dw K H (.ref a) (.list ds)
  | tup {a : Addr} {xs : List V} {ds : List WData} : SqT K H a xs → DwAll K H xs ds → Dw K H (.ref a) (.tuple ds)
inductive DwAll (K : PySem.W.Frag) (H : Hp) : List V → List WData → Prop
  | nil : DwAll K H [] []
  | cons {v : V} {vs : List V} {d : WData} {ds : List WData} : Dw K H v d → DwAll K H vs ds → DwAll K H (v :: vs) (d :: ds)
end
theorem dw_ints {K : PySem.W.Frag} {H : Hp} : ∀ ns : List Int, DwAll K H (ns.map V.int) (ns.map WData.int)
  | [] => .nil
  | n :: r => .cons (.int n) (dw_ints r)
theorem ints_dw {K : PySem.W.Frag} {H : Hp} : ∀ (ns : List Int) (xs : List V), DwAll K H xs (ns.map WData.int) → xs = ns.map V.int
  | [], xs, h => by
    cases h
    rfl
  | n :: r, xs, h => by
    cases h with
    | cons h1 h2 =>
      cases h1
      rw [ints_dw r _ h2] <;> rfl
section
variable {P : Program} {w : World} {K : PySem.W.Frag} {H : Hp} {h : Heap} {R : PySem.W.WRecords} {cl : Str → Option Addr}
theorem sqL_at {a : Addr} {xs : List V} (hok : HOk P w H h) (KX : K.In h) (q : SqL K H a xs) : ∃ (its : List Value) (o : Obj) (n : Nat), Vals xs its ∧ h.get? a = some o ∧ o.cls = .type "list" ∧ o.data = .seq its.toArray n := by
  rcases q with q | ⟨o, its, n, e, hc, _, hd, _, hv⟩
  · obtain ⟨_, its, n, hv, e⟩ := (show ObjOk P w H h a (.lst xs) from q.ok hok)
    exact ⟨its, _, n, hv, e, rfl, rfl⟩
  · exact ⟨its.toList, o, n, hv, KX _ _ e, hc, by simp [hd]⟩
theorem sqT_at {a : Addr} {xs : List V} (hok : HOk P w H h) (KX : K.In h) (q : SqT K H a xs) : ∃ (its : List Value) (o : Obj) (n : Nat), Vals xs its ∧ h.get? a = some o ∧ o.cls = .type "tuple" ∧ o.data = .seq its.toArray n := by
  rcases q with q | ⟨o, its, n, e, hc, hd, _, hv⟩
  · obtain ⟨_, its, hv, o, e, hc, n, hd⟩ := (show ObjOk P w H h a (.tup xs) from q.ok hok)
    exact ⟨its, o, n, hv, e, hc, hd⟩
  · exact ⟨its.toList, o, n, hv, KX _ _ e, hc, by simp [hd]⟩
mutual
theorem Dw.reads (hok : HOk P w H h) (KX : K.In h) : ∀ (d : WData) (v : V) (u : Value), Dw K H v d → RelV v u → ∃ as, ReadsW R cl h u d as
  | .none, _, _, x, r => by
    cases x
    cases r
    exact ⟨_, ReadsW.none⟩
  | .bool b, _, _, x, r => by
    cases x
    cases r
    exact ⟨_, ReadsW.bool b⟩
  | .int i, _, _, x, r => by
    cases x
    obtain ⟨t, rfl⟩ := r
    exact ⟨_, ReadsW.int i t⟩
  | .str s, _, _, x, r => by
    cases x
    obtain ⟨t, rfl⟩ := r
    exact ⟨_, ReadsW.str s t⟩
  | .bytes b, _, _, x, r => by
    cases x
    obtain ⟨t, rfl⟩ := r
    exact ⟨_, ReadsW.bytes _ t⟩
  | .list ds, _, _, x, r => by
    cases x with
    | lst hs ha =>
      cases r
      obtain ⟨its, o, n, rv, ho, hc, hd⟩ := sqL_at hok KX hs
      obtain ⟨as, hr⟩ := Dw.readsAll hok KX ds _ its ha rv
      exact ⟨_, ReadsW.list ho hc hd hr⟩
  | .tuple ds, _, _, x, r => by
    cases x with
    | tup hs ha =>
      cases r
      obtain ⟨its, o, n, rv, ho, hc, hd⟩ := sqT_at hok KX hs
      obtain ⟨as, hr⟩ := Dw.readsAll hok KX ds _ its ha rv
      exact ⟨_, ReadsW.tuple ho hc hd hr⟩
  | .float _, _, _, x, _ => by cases x
  | .dict _, _, _, x, _ => by cases x
  | .bytearray _, _, _, x, _ => by cases x
  | .set _, _, _, x, _ => by cases x
  | .frozenset _, _, _, x, _ => by cases x
  | .obj _ _, _, _, x, _ => by cases x
theorem Dw.readsAll (hok : HOk P w H h) (KX : K.In h) : ∀ (ds : List WData) (vs : List V) (us : List Value), DwAll K H vs ds → Vals vs us → ∃ as, ReadsAllW R cl h us ds as
  | [], _, _, x, r => by
    cases x
    cases r
    exact ⟨_, ReadsAllW.nil⟩
  | d :: ds, _, _, x, r => by
    cases x with
    | cons h1 h2 =>
      cases r with
      | cons r1 r2 =>
        obtain ⟨as, q1⟩ := Dw.reads hok KX d _ _ h1 r1
        obtain ⟨bs, q2⟩ := Dw.readsAll hok KX ds _ _ h2 r2
        exact ⟨_, ReadsAllW.cons q1 q2⟩
end
end
mutual
/-- data that a codec tells -/
def plW : WData → Bool
  | .none => true
  | .bool _ => true
  | .int _ => true
  | .str _ => true
  | .bytes _ => true
  | .list xs => plWs xs
  | .tuple xs => plWs xs
  | _ => false
def plWs : List WData → Bool
  | [] => true
  | x :: r => plW x && plWs r
end
theorem plWs_map {α : Type} {f : α → WData} (h : ∀ a, plW (f a) = true) : ∀ l : List α, plWs (l.map f) = true
  | [] => rfl
  | x :: r => by
    show (plW (f x) && plWs (r.map f)) = true
    rw [h x, plWs_map h r] <;> rfl
theorem pl_enc : ∀ (c : Codec) (a : c.denote), plW (c.enc a) = true
  | .unit, _ => rfl
  | .bool, _ => rfl
  | .int _ _, _ => rfl
  | .nat _ _, _ => rfl
  | .u8, _ => rfl
  | .bytes _ _, _ => rfl
  | .text _ _ _ _, _ => rfl
  | .list _ _ c, a => plWs_map (fun x => pl_enc c x) a
  | .pair c d, a => by
    show (plW (c.enc a.1) && (plW (d.enc a.2) && true)) = true
    rw [pl_enc c a.1, pl_enc d a.2] <;> rfl
  | .triple c d e, a => by
    show (plW (c.enc a.1) && (plW (d.enc a.2.1) && (plW (e.enc a.2.2) && true))) = true
    rw [pl_enc c a.1, pl_enc d a.2.1, pl_enc e a.2.2] <;> rfl
  | .option c, none => rfl
  | .option c, some x => pl_enc c x
theorem pl_encAll : ∀ (cs : List Codec) (a : Codec.denoteAll cs), plWs (Codec.encAll cs a) = true
  | [], _ => rfl
  | c :: cs, a => by
    show (plW (c.enc a.1) && plWs (Codec.encAll cs a.2)) = true
    rw [pl_enc c a.1, pl_encAll cs a.2] <;> rfl
theorem weight_mem : ∀ {xs : List WData} {d : WData}, d ∈ xs → d.weight ≤ WData.weightAll xs
  | [], d, h => absurd h (by simp)
  | x :: r, d, h => by
    show d.weight ≤ x.weight + 1 + WData.weightAll r
    rcases List.mem_cons.mp h with e | m
    · rw [e]
      omega
    · have z := weight_mem m
      omega
def toV : Value → V
  | .none => .non
  | .bool b => .bl b
  | .int i _ => .int i
  | .str x _ => .str x
  | .bytes b _ => .byt b
  | .ref a => .ref a
  | _ => .non
/-- a value of the arguments, its objects among A -/
def OkU (A : List Addr) : Value → Prop
  | .none => True
  | .bool _ => True
  | .int _ _ => True
  | .str _ _ => True
  | .bytes _ _ => True
  | .ref a => a ∈ A
  | _ => False
theorem OkU.mono {A B : List Addr} (h : ∀ a ∈ A, a ∈ B) : ∀ {u : Value}, OkU A u → OkU B u := fun {u} x => by
  cases u with
  | ref a => exact h a x
  | none => trivial
  | bool b => trivial
  | int i t => trivial
  | str s t => trivial
  | bytes b t => trivial
  | _ => exact False.elim x
theorem relV_toV {A : List Addr} {u : Value} (x : OkU A u) : RelV (toV u) u := by
  cases u with
  | ref a => rfl
  | none => rfl
  | bool b => rfl
  | int i t => exact ⟨t, rfl⟩
  | str s t => exact ⟨t, rfl⟩
  | bytes b t => exact ⟨t, rfl⟩
  | _ => exact False.elim x
theorem vals_toV {A : List Addr} : ∀ {vs : List Value}, (∀ u ∈ vs, OkU A u) → Vals (vs.map toV) vs
  | [], _ => .nil
  | u :: r, h => .cons (relV_toV (h u (List.mem_cons_self ..))) (vals_toV fun x hx => h x (List.mem_cons_of_mem _ hx))
/-- an object of the arguments -/
def ArgOb (h : Heap) (A : List Addr) (a : Addr) : Prop := ∃ vs : List Value, vs.length ≤ sizeLine ∧ (∀ u ∈ vs, OkU A u) ∧
  (h.get? a = some { cls := .type "list", data := .seq vs.toArray } ∨ h.get? a = some { cls := .type "tuple", data := .seq vs.toArray })
theorem ArgOb.mono {h : Heap} {A B : List Addr} {a : Addr} (k : ∀ a ∈ A, a ∈ B) (x : ArgOb h A a) : ArgOb h B a := by
  obtain ⟨vs, h1, h2, h3⟩ := x
  exact ⟨vs, h1, fun u hu => (h2 u hu).mono k, h3⟩
theorem wellAll_len {P : Params} {h : Heap} : ∀ {vs : List Value} {ds : List WData}, WellAll P h vs ds → vs.length = ds.length
  | _, _, .nil => rfl
  | _, _, .cons _ b => by
    show _ + 1 = _ + 1
    rw [wellAll_len b]
theorem well_list {P : Params} {h : Heap} {v : Value} {ds : List WData} (x : Well P h v (.list ds)) : ∃ (a : Addr) (vs : List Value), v = .ref a ∧ h.get? a = some { cls := .type "list", data := .seq vs.toArray } ∧ WellAll P h vs ds := by
  cases x with
  | list ho hall => exact ⟨_, _, rfl, ho, hall⟩
theorem well_tuple {P : Params} {h : Heap} {v : Value} {ds : List WData} (x : Well P h v (.tuple ds)) : ∃ (a : Addr) (vs : List Value), v = .ref a ∧ h.get? a = some { cls := .type "tuple", data := .seq vs.toArray } ∧ WellAll P h vs ds := by
  cases x with
  | tuple ho hall => exact ⟨_, _, rfl, ho, hall⟩
theorem well_cons {P : Params} {h : Heap} {us : List Value} {d : WData} {ds : List WData} (x : WellAll P h us (d :: ds)) : ∃ (v : Value) (vs : List Value), us = v :: vs ∧ Well P h v d ∧ WellAll P h vs ds := by
  cases x with
  | cons a b => exact ⟨_, _, rfl, a, b⟩
theorem line_of {n : Nat} (h : n ≤ 1048576) : n ≤ sizeLine := Nat.le_trans h (by decide)
section
variable {P : Params} {h : Heap}
mutual
theorem area_one : ∀ (d : WData) (v : Value), Well P h v d → plW d = true → d.weight ≤ 1048576 → ∃ A : List Addr, OkU A v ∧ ∀ a ∈ A, ArgOb h A a
  | .none, _, x, _, _ => by
    cases x
    exact ⟨[], trivial, fun a m => absurd m (by simp)⟩
  | .bool b, _, x, _, _ => by
    cases x
    exact ⟨[], trivial, fun a m => absurd m (by simp)⟩
  | .int i, _, x, _, _ => by
    cases x
    exact ⟨[], trivial, fun a m => absurd m (by simp)⟩
  | .str s, _, x, _, _ => by
    cases x
    exact ⟨[], trivial, fun a m => absurd m (by simp)⟩
  | .bytes b, _, x, _, _ => by
    cases x
    exact ⟨[], trivial, fun a m => absurd m (by simp)⟩
  | .list ds, _, x, p, z => by
    obtain ⟨a, vs, rfl, ho, hall⟩ := well_list x
    have z2 : WData.weightAll ds ≤ 1048576 := z
    obtain ⟨A, h1, h2⟩ := area_all ds _ hall p fun d hd => Nat.le_trans (weight_mem hd) z2
    have k : ∀ b ∈ A, b ∈ a :: A := fun b hb => List.mem_cons_of_mem _ hb
    refine ⟨a :: A, List.mem_cons_self .., fun b hb => ?_⟩
    rcases List.mem_cons.mp hb with e | m
    · rw [e]
      exact ⟨vs, line_of (by rw [wellAll_len hall]; exact Nat.le_trans (PySem.W.length_le_weightAllW ds) z2), fun u hu => (h1 u hu).mono k, .inl ho⟩
    · exact (h2 b m).mono k
  | .tuple ds, _, x, p, z => by
    obtain ⟨a, vs, rfl, ho, hall⟩ := well_tuple x
    have z2 : WData.weightAll ds ≤ 1048576 := z
    obtain ⟨A, h1, h2⟩ := area_all ds _ hall p fun d hd => Nat.le_trans (weight_mem hd) z2
    have k : ∀ b ∈ A, b ∈ a :: A := fun b hb => List.mem_cons_of_mem _ hb
    refine ⟨a :: A, List.mem_cons_self .., fun b hb => ?_⟩
    rcases List.mem_cons.mp hb with e | m
    · rw [e]
      exact ⟨vs, line_of (by rw [wellAll_len hall]; exact Nat.le_trans (PySem.W.length_le_weightAllW ds) z2), fun u hu => (h1 u hu).mono k, .inr ho⟩
    · exact (h2 b m).mono k
  | .float _, _, _, p, _ => Bool.noConfusion (show false = true from p)
  | .dict _, _, _, p, _ => Bool.noConfusion (show false = true from p)
  | .bytearray _, _, _, p, _ => Bool.noConfusion (show false = true from p)
  | .set _, _, _, p, _ => Bool.noConfusion (show false = true from p)
  | .frozenset _, _, _, p, _ => Bool.noConfusion (show false = true from p)
  | .obj _ _, _, _, p, _ => Bool.noConfusion (show false = true from p)
theorem area_all : ∀ (ds : List WData) (vs : List Value), WellAll P h vs ds → plWs ds = true → (∀ d ∈ ds, d.weight ≤ 1048576) → ∃ A : List Addr, (∀ u ∈ vs, OkU A u) ∧ ∀ a ∈ A, ArgOb h A a
  | [], _, x, _, _ => by
    cases x
    exact ⟨[], fun u m => absurd m (by simp), fun a m => absurd m (by simp)⟩
  | d :: ds, _, x, p, z => by
    obtain ⟨v, vs, rfl, x1, x2⟩ := well_cons x
    have q : plW d = true ∧ plWs ds = true := Bool.and_eq_true_iff.mp p
    obtain ⟨A, a1, a2⟩ := area_one d v x1 q.1 (z d (List.mem_cons_self ..))
    obtain ⟨B, b1, b2⟩ := area_all ds vs x2 q.2 fun e he => z e (List.mem_cons_of_mem _ he)
    have kA : ∀ b ∈ A, b ∈ A ++ B := fun b hb => List.mem_append.mpr (.inl hb)
    have kB : ∀ b ∈ B, b ∈ A ++ B := fun b hb => List.mem_append.mpr (.inr hb)
    refine ⟨A ++ B, fun u hu => ?_, fun b hb => ?_⟩
    · rcases List.mem_cons.mp hu with e | m
      · rw [e]
        exact a1.mono kA
      · exact (b1 u m).mono kB
    · rcases List.mem_append.mp hb with m | m
      · exact (a2 b m).mono kA
      · exact (b2 b m).mono kB
end
end
/-- what is tracked of an argument's object -/
def hoOf (o : Obj) : Option HO := match o.data with
  | .seq vs _ => if (o.cls == Value.type "list") = true then some (.frz o (.lst (vs.toList.map toV))) else some (.frz o (.tup (vs.toList.map toV)))
  | _ => none
def argH (K : PySem.W.Frag) (h : Heap) (A : List Addr) : Hp := fun b => if b ∈ A then (if (K.lookup b).isNone = true then (h.get? b).bind hoOf else none) else none
/-- nothing is tracked but what is known to the object -/
def OnlyF (H : Hp) : Prop := ∀ b, H b = none ∨ ∃ o u, H b = some (.frz o u)
theorem hoOf_lst (vs : List Value) : hoOf { cls := .type "list", data := .seq vs.toArray } = some (.frz { cls := .type "list", data := .seq vs.toArray } (.lst (vs.map toV))) := by
  show (if (Value.type "list" == Value.type "list") = true then some (HO.frz { cls := .type "list", data := .seq vs.toArray } (.lst (vs.toArray.toList.map toV))) else some (HO.frz { cls := .type "list", data := .seq vs.toArray } (.tup (vs.toArray.toList.map toV)))) = _
  rw [if_pos (beq_self_eq_true _)]
theorem hoOf_tup (vs : List Value) : hoOf { cls := .type "tuple", data := .seq vs.toArray } = some (.frz { cls := .type "tuple", data := .seq vs.toArray } (.tup (vs.map toV))) := by
  show (if (Value.type "tuple" == Value.type "list") = true then some (HO.frz { cls := .type "tuple", data := .seq vs.toArray } (.lst (vs.toArray.toList.map toV))) else some (HO.frz { cls := .type "tuple", data := .seq vs.toArray } (.tup (vs.toArray.toList.map toV)))) = _
  rw [if_neg (by decide)]
section
variable {P : Program} {w : World} {K : PySem.W.Frag} {h : Heap} {A : List Addr}
theorem argH_at {b : Addr} {o : Obj} (hb : b ∈ A) (hk : K.lookup b = none) (e : h.get? b = some o) : argH K h A b = hoOf o := by
  unfold argH
  rw [if_pos hb, hk, if_pos (show (none : Option Obj).isNone = true from rfl), e] <;> rfl
theorem of_argH {b : Addr} {u : HO} (q : argH K h A b = some u) : b ∈ A ∧ K.lookup b = none := by
  unfold argH at q
  by_cases hb : b ∈ A
  · rw [if_pos hb] at q
    cases hk : K.lookup b with
    | none => exact ⟨hb, rfl⟩
    | some o =>
      rw [hk, if_neg (by simp)] at q
      cases q
  · rw [if_neg hb] at q
    cases q
/-- what stands tracked -/
theorem argH_is (ar : ∀ a ∈ A, ArgOb h A a) {b : Addr} {u : HO} (q : argH K h A b = some u) : K.lookup b = none ∧ ∃ vs : List Value, vs.length ≤ sizeLine ∧ (∀ u ∈ vs, OkU A u) ∧
    ((h.get? b = some { cls := .type "list", data := .seq vs.toArray } ∧ u = .frz { cls := .type "list", data := .seq vs.toArray } (.lst (vs.map toV))) ∨
     (h.get? b = some { cls := .type "tuple", data := .seq vs.toArray } ∧ u = .frz { cls := .type "tuple", data := .seq vs.toArray } (.tup (vs.map toV)))) := by
  obtain ⟨hb, hk⟩ := of_argH q
  obtain ⟨vs, h1, h2, h3⟩ := ar b hb
  refine ⟨hk, vs, h1, h2, ?_⟩
  rcases h3 with e | e
  · rw [argH_at hb hk e, hoOf_lst] at q
    exact .inl ⟨e, (Option.some.inj q).symm⟩
  · rw [argH_at hb hk e, hoOf_tup] at q
    exact .inr ⟨e, (Option.some.inj q).symm⟩
theorem argH_only (ar : ∀ a ∈ A, ArgOb h A a) : OnlyF (argH K h A) := fun b => by
  cases q : argH K h A b with
  | none => exact .inl rfl
  | some u =>
    obtain ⟨_, vs, _, _, ⟨_, e⟩ | ⟨_, e⟩⟩ := argH_is ar q
    · exact .inr ⟨_, _, by rw [e]⟩
    · exact .inr ⟨_, _, by rw [e]⟩
theorem argH_ok (ar : ∀ a ∈ A, ArgOb h A a) : HOk P w (argH K h A) h := fun b u q => by
  obtain ⟨_, vs, h1, h2, ⟨e, rfl⟩ | ⟨e, rfl⟩⟩ := argH_is ar q
  · exact ⟨e, by rw [List.length_map]; exact h1, vs, _, vals_toV h2, e⟩
  · exact ⟨e, by rw [List.length_map]; exact h1, vs, vals_toV h2, _, e, rfl, _, rfl⟩
theorem seq_inj {c c' : Value} {vs us : List Value} (e : (some { cls := c, data := .seq vs.toArray } : Option Obj) = some { cls := c', data := .seq us.toArray }) : c = c' ∧ vs = us := by
  have e1 := Option.some.inj e
  have e2 : c = c' := congrArg Obj.cls e1
  have e3 : Data.seq vs.toArray = Data.seq us.toArray := congrArg Obj.data e1
  injection e3 with e4
  refine ⟨e2, ?_⟩
  have e5 := congrArg Array.toList e4
  simpa using e5
/-- a list argument -/
theorem argL (KX : K.In h) (ar : ∀ a ∈ A, ArgOb h A a) {a : Addr} {vs : List Value} (ha : a ∈ A) (e : h.get? a = some { cls := .type "list", data := .seq vs.toArray }) : (∀ u ∈ vs, OkU A u) ∧ SqL K (argH K h A) a (vs.map toV) := by
  obtain ⟨us, h1, h2, h3⟩ := ar a ha
  have hu : us = vs := by
    rcases h3 with q | q
    · rw [e] at q
      exact (seq_inj q).2.symm
    · rw [e] at q
      exact absurd (Value.type.inj (seq_inj q).1) (by decide)
  subst hu
  refine ⟨h2, ?_⟩
  cases hk : K.lookup a with
  | none => exact .inl (.inr ⟨_, by rw [argH_at ha hk e, hoOf_lst]⟩)
  | some o =>
    have e2 := KX a o hk
    rw [e] at e2
    obtain rfl := Option.some.inj e2
    exact .inr ⟨_, us.toArray, _, hk, rfl, rfl, rfl, by rw [List.size_toArray]; exact h1, by simpa using vals_toV h2⟩
theorem argT (KX : K.In h) (ar : ∀ a ∈ A, ArgOb h A a) {a : Addr} {vs : List Value} (ha : a ∈ A) (e : h.get? a = some { cls := .type "tuple", data := .seq vs.toArray }) : (∀ u ∈ vs, OkU A u) ∧ SqT K (argH K h A) a (vs.map toV) := by
  obtain ⟨us, h1, h2, h3⟩ := ar a ha
  have hu : us = vs := by
    rcases h3 with q | q
    · rw [e] at q
      exact absurd (Value.type.inj (seq_inj q).1) (by decide)
    · rw [e] at q
      exact (seq_inj q).2.symm
  subst hu
  refine ⟨h2, ?_⟩
  cases hk : K.lookup a with
  | none => exact .inl (.inr ⟨_, by rw [argH_at ha hk e, hoOf_tup]⟩)
  | some o =>
    have e2 := KX a o hk
    rw [e] at e2
    obtain rfl := Option.some.inj e2
    exact .inr ⟨_, us.toArray, _, hk, rfl, rfl, by rw [List.size_toArray]; exact h1, by simpa using vals_toV h2⟩
mutual
theorem dw_one {Pm : Params} (KX : K.In h) (ar : ∀ a ∈ A, ArgOb h A a) : ∀ (d : WData) (v : Value), Well Pm h v d → plW d = true → OkU A v → Dw K (argH K h A) (toV v) d
  | .none, _, x, _, _ => by
    cases x
    exact .non
  | .bool b, _, x, _, _ => by
    cases x
    exact .bl b
  | .int i, _, x, _, _ => by
    cases x
    exact .int i
  | .str s, _, x, _, _ => by
    cases x
    exact .str s
  | .bytes b, _, x, _, _ => by
    cases x
    have z := Dw.byt (K := K) (H := argH K h A) b.toArray
    exact z
  | .list ds, _, x, p, hu => by
    obtain ⟨a, vs, rfl, ho, hall⟩ := well_list x
    obtain ⟨h2, hs⟩ := argL KX ar hu ho
    exact .lst hs (dw_all KX ar ds _ hall p h2)
  | .tuple ds, _, x, p, hu => by
    obtain ⟨a, vs, rfl, ho, hall⟩ := well_tuple x
    obtain ⟨h2, hs⟩ := argT KX ar hu ho
    exact .tup hs (dw_all KX ar ds _ hall p h2)
  | .float _, _, _, p, _ => Bool.noConfusion (show false = true from p)
  | .dict _, _, _, p, _ => Bool.noConfusion (show false = true from p)
  | .bytearray _, _, _, p, _ => Bool.noConfusion (show false = true from p)
  | .set _, _, _, p, _ => Bool.noConfusion (show false = true from p)
  | .frozenset _, _, _, p, _ => Bool.noConfusion (show false = true from p)
  | .obj _ _, _, _, p, _ => Bool.noConfusion (show false = true from p)
theorem dw_all {Pm : Params} (KX : K.In h) (ar : ∀ a ∈ A, ArgOb h A a) : ∀ (ds : List WData) (vs : List Value), WellAll Pm h vs ds → plWs ds = true → (∀ u ∈ vs, OkU A u) → DwAll K (argH K h A) (vs.map toV) ds
  | [], _, x, _, _ => by
    cases x
    exact .nil
  | d :: ds, _, x, p, hu => by
    obtain ⟨v, vs, rfl, x1, x2⟩ := well_cons x
    have q : plW d = true ∧ plWs ds = true := Bool.and_eq_true_iff.mp p
    exact .cons (dw_one KX ar d v x1 q.1 (hu _ (List.mem_cons_self ..))) (dw_all KX ar ds vs x2 q.2 fun u m => hu u (List.mem_cons_of_mem _ m))
end
end
theorem spec_call {P : Program} {w : World} {K : PySem.W.Frag} {mg mb : Str → Option Value} {CX : CXT} {k : Nat} {fa : Addr} {fd : FuncData} {ps : List Str} {sp : Sp} {s₁ : Shared} {vals : List Value} {ds : List WData} {R : PySem.W.WRecords} {cl : Str → Option Addr} {d0 : WData}
    (KX : K.In s₁.heap) (hns : s₁.heap.Ns mainGlobals mg) (hb : s₁.heap.Ns builtinsNs mb) (hbb : ∀ x : Str, x ≠ "__name__" → mb x = bootBuiltins x) (hlim : s₁.heap.NoLimit) (hg : s₁.gens = #[])
    (hwl : WellAll w.params s₁.heap vals ds) (hpl : plWs ds = true) (hwt : ∀ d ∈ ds, d.weight ≤ 1048576) (hr : Room k callerA)
    (F : ∀ base : Heap, K.In base → base.Ns mainGlobals mg → FnOk P w K mg base CX k fa fd ps sp) (hbind : ∀ (s : Shared) (us : List Value), us.length = ps.length → BindsTo s fd ⟨us, []⟩ (ps.zip us)) (hlen : ds.length = ps.length)
    (hsp : ∀ (H : Hp) (xs : List V), OnlyF H → DwAll K H xs ds → sp xs H (fun v H' => Dw K H' v d0) fun _ _ _ => False)
    (hCX : ∀ H e s', CX [] H s₁ (fun _ _ _ => False) e s' → False) :
    codeAny (model P w) callerA (.call (.ref fa) ⟨vals, []⟩) (fun r s' => ∃ u as, r = .ok (.ret u) ∧ ReadsW R cl s'.heap u d0 as ∧ OldK s₁.heap s'.heap ∧ s'.os = s₁.os ∧ AllBare s'.gens) s₁ := by
  obtain ⟨A, ho, ar⟩ := area_all ds vals hwl hpl hwt
  have hO : OnlyF (argH K s₁.heap A) := argH_only ar
  have hok : HOk P w (argH K s₁.heap A) s₁.heap := argH_ok ar
  have hS := dw_all KX ar ds vals hwl hpl ho
  have hV := vals_toV ho
  have hK : ∀ b u, argH K s₁.heap A b = some u → K.lookup b = none := fun b u q => (argH_is ar q).1
  have noA : ∀ {b : Addr} {o : Obj} {es : Array DictEntry} {ep : Nat}, s₁.heap.get? b = some o → o.data = .dict es ep → argH K s₁.heap A b = none := fun {b o es ep} e d => by
    cases q : argH K s₁.heap A b with
    | none => rfl
    | some u =>
      obtain ⟨_, vs, _, _, ⟨e2, _⟩ | ⟨e2, _⟩⟩ := argH_is ar q
      · rw [e2] at e
        cases e
        have d' : Data.seq vs.toArray _ = Data.dict es ep := d
        cases d'
      · rw [e2] at e
        cases e
        have d' : Data.seq vs.toArray _ = Data.dict es ep := d
        cases d'
  generalize argH K s₁.heap A = H at hO hok hS hK noA
  have base_of : ∀ {b : Addr} {o : Obj}, s₁.heap.get? b = some o → H b = none → (hidT s₁.heap H).get? b = some o := fun e n => hidT_get e n
  have nsK : ∀ {b : Addr} {m : Str → Option Value}, s₁.heap.Ns b m → (hidT s₁.heap H).Ns b m := fun {b m} ⟨o, es, ep, e, d, r⟩ => ⟨o, es, ep, base_of e (noA e d), d, r⟩
  have nK : ∀ b o, K.lookup b = some o → H b = none := fun b o e => by
    cases q : H b with
    | none => rfl
    | some u =>
      rw [hK b u q] at e
      cases e
  have hKb : K.In (hidT s₁.heap H) := fun b o e => base_of (KX b o e) (nK b o e)
  have hM : Mod K mg (hidT s₁.heap H) := ⟨hKb, nsK hns, ⟨mb, nsK hb, hbb⟩, let ⟨mc, h1, h2⟩ := hlim; ⟨mc, nsK h1, h2⟩⟩
  have e0 : Env0 P w K mg (hidT s₁.heap H) callerA [] s₁ H := ⟨rfl, hM, fun b o e => of_hidT e, Nat.le_of_eq (hidT_size _ _), trivial, fun b hb => absurd (show b ∈ ([] : List Addr) from hb) (by simp), hok, .of_eq hg⟩
  have hl : vals.length = ps.length := by rw [wellAll_len hwl]; exact hlen
  refine codeAny_mono ((F _ hKb (nsK hns)).run callerA [] s₁ H ⟨vals, []⟩ vals (vals.map toV) _ _ hr e0 (hbind s₁ vals hl) hV (hsp H _ hO hS)) fun r s' x => ?_
  cases r with
  | error e => exact (hCX H e s' x).elim
  | ok fl =>
    cases fl with
    | next => exact False.elim x
    | brk => exact False.elim x
    | cont => exact False.elim x
    | ret u =>
      obtain ⟨v, H', os, bare, un, hok', r', q⟩ := x
      have kept : ∀ b o, s₁.heap.get? b = some o → s'.heap.get? b = some o := fun b o e => by
        cases q2 : H b with
        | none => exact un.keep b o e q2 (by intro z; exact absurd (show b ∈ ([] : List Addr) from z) (by simp)) (by simp)
        | some u2 =>
          rcases hO b with z | ⟨ob, u3, z⟩
          · rw [q2] at z
            cases z
          · have z2 := un.frzs b ob _ z
            obtain ⟨e1, _⟩ := hok b _ z
            obtain ⟨e2, _⟩ := hok' b _ z2
            rw [e] at e1
            cases e1
            exact e2
      have KX' : K.In s'.heap := fun b o e => kept b o (KX b o e)
      obtain ⟨as, hrd⟩ := Dw.reads (R := R) (cl := cl) hok' KX' d0 v u q r'
      exact ⟨u, as, rfl, hrd, OldK.of_keep kept, os, bare⟩
theorem layable_weight {ds : List WData} (h : WData.layableAll ds = true) : ∀ d ∈ ds, d.weight ≤ 1048576 := fun d hd =>
  (PySem.W.layableW_iff.mp (List.all_eq_true.mp h d hd)).2.2
theorem encAll_len : ∀ (cs : List Codec) (a : Codec.denoteAll cs), (Codec.encAll cs a).length = cs.length
  | [], _ => rfl
  | c :: cs, a => by
    show (Codec.encAll cs a.2).length + 1 = cs.length + 1
    rw [encAll_len cs a.2]
/-- the goal that k_headS leaves (case hc), from the promise of the row's def: whatever the arguments that the codecs let and the row asks for, the def gives what stands for enc (f ..) -/
theorem walk_spec {r : OpenSpec} {k : Nat} {q : Program} {loose : List Str} {XP : (Str → Option Value) → Heap → Prop} {YP : World → Heap → Prop} {d : DefRec} {K : Params → PySem.W.Frag} {CX : World → CXT} {ps : List Str} {sp : World → Sp}
    (hwell : r.wellSaid = true) (hdf : d.params.defaults = []) (hlen : r.args.length = ps.length) (hr : Room k callerA)
    (hY : ∀ (w : World) (h : Heap), YP w h → (K w.params).In h)
    (F : ∀ (w : World) (mg : Str → Option Value) (fa : Addr) (h : Heap), YP w h → (K w.params).In h → h.Ns mainGlobals mg → mg d.name = some (.ref fa) →
      ∃ fd : FuncData, (∀ (s : Shared) (us : List Value), us.length = ps.length → BindsTo s fd ⟨us, []⟩ (ps.zip us)) ∧
        ∀ base : Heap, (K w.params).In base → base.Ns mainGlobals mg → FnOk r.prog w (K w.params) mg base (CX w) k fa fd ps (sp w))
    (hsp : ∀ (w : World) (H : Hp) (xs : List V) (a : Codec.denoteAll r.args), OnlyF H → Codec.withinAll r.args a = true → Codec.app r.args r.asked a = true → DwAll (K w.params) H xs (Codec.encAll r.args a) →
      sp w xs H (fun v H' => Dw (K w.params) H' v (r.ret.enc (Codec.app r.args r.f a))) fun _ _ _ => False)
    (hCX : ∀ (w : World) (H : Hp) (s : Shared) (e : Value) (s' : Shared), CX w [] H s (fun _ _ _ => False) e s' → False) :
    PySem.W.WalkOS q loose XP YP r d [] (fun f vs => PySem.call f vs) := by
  intro w s_0 s₁ mg mb G Y fa o pm cd doc dV kV ho hd hcd hD hmg hg args vals as hpre hlay hrd hwl hlo
  obtain ⟨a, e1, e2⟩ := PySem.W.os_pre_some hpre
  obtain ⟨e3, hwi⟩ := Codec.encAll_of_decAll r.args args a e1
  subst e3
  have KX := hY w _ Y
  obtain ⟨fd, hb, hF⟩ := F w mg fa _ Y KX G.T.g hmg
  refine PySem.W.enter_call (codeAny_mono (spec_call (R := []) (cl := classAt s_0.heap) (d0 := r.ret.enc (Codec.app r.args r.f a)) KX G.T.g G.T.b G.T.builtins G.T.nolimit hg hwl (pl_encAll _ _) (layable_weight hlay) hr hF hb (by rw [encAll_len]; exact hlen)
    (fun H xs hO hS => hsp w H xs a hO hwi e2 hS) fun H e s' => hCX w H s₁ e s') fun r' s' hq => ?_)
  obtain ⟨u, as', rfl, h1, h2, h3, h4⟩ := hq
  exact ⟨.inl ⟨u, _, as', rfl, fun _ => rfl, h1, (OpenSpec.post_iff hwell hwi _ _).mpr rfl, fun z => Bool.noConfusion (show false = true from z)⟩, h2, h3, h4⟩
/-- the same where the promise hangs on the written part alone -/
theorem walk_specK {r : OpenSpec} {k : Nat} {q : Program} {loose : List Str} {XP : (Str → Option Value) → Heap → Prop} {YP : World → Heap → Prop} {d : DefRec} {K : Params → PySem.W.Frag} {CX : CXT} {ps : List Str} {sp : PySem.W.Frag → Sp}
    (hwell : r.wellSaid = true) (hdf : d.params.defaults = []) (hlen : r.args.length = ps.length) (hr : Room k callerA)
    (hY : ∀ (w : World) (h : Heap), YP w h → (K w.params).In h)
    (F : ∀ (w : World) (mg : Str → Option Value) (fa : Addr) (h : Heap), YP w h → (K w.params).In h → h.Ns mainGlobals mg → mg d.name = some (.ref fa) →
      ∃ fd : FuncData, (∀ (s : Shared) (us : List Value), us.length = ps.length → BindsTo s fd ⟨us, []⟩ (ps.zip us)) ∧
        ∀ base : Heap, (K w.params).In base → base.Ns mainGlobals mg → FnOk r.prog w (K w.params) mg base CX k fa fd ps (sp (K w.params)))
    (hsp : ∀ (K : PySem.W.Frag) (H : Hp) (xs : List V) (a : Codec.denoteAll r.args), OnlyF H → Codec.withinAll r.args a = true → Codec.app r.args r.asked a = true → DwAll K H xs (Codec.encAll r.args a) →
      sp K xs H (fun v H' => Dw K H' v (r.ret.enc (Codec.app r.args r.f a))) fun _ _ _ => False)
    (hCX : ∀ (H : Hp) (s : Shared) (e : Value) (s' : Shared), CX [] H s (fun _ _ _ => False) e s' → False) :
    PySem.W.WalkOS q loose XP YP r d [] (fun f vs => PySem.call f vs) :=
  walk_spec (K := K) (CX := fun _ => CX) (sp := fun w => sp (K w.params)) hwell hdf hlen hr hY F (fun w H xs a h1 h2 h3 h4 => hsp (K w.params) H xs a h1 h2 h3 h4) fun _ H s e s' => hCX H s e s'
end L2
end

namespace WcP
open Wc

theorem snoc_ind {α : Type} {P : List α → Prop} (h0 : P []) (h1 : ∀ l x, P l → P (l ++ [x])) : ∀ l, P l := by
  have h : ∀ l : List α, P l.reverse := by
    intro l
    induction l with
    | nil => exact h0
    | cons a l ih => rw [List.reverse_cons]; exact h1 _ _ ih
  intro l
  have := h l.reverse
  rwa [List.reverse_reverse] at this

/-! ### tables -/
section
variable {α : Type} (d : α) (f : (Nat → α) → Nat → Piece → α)
theorem table_nil : table d f [] = [] := rfl
theorem table_snoc (l : List Piece) (x : Piece) : table d f (l ++ [x]) = table d f l ++ [f (fun k => (table d f l).getD k d) (table d f l).length x] := by
  unfold table
  rw [List.foldl_append]
  rfl
theorem table_length (l : List Piece) : (table d f l).length = l.length := by
  induction l using snoc_ind with
  | h0 => rfl
  | h1 l x ih => rw [table_snoc, List.length_append, List.length_append, ih]; rfl
theorem table_snoc_old (l : List Piece) (x : Piece) {k : Nat} (h : k < l.length) : (table d f (l ++ [x])).getD k d = (table d f l).getD k d := by
  rw [table_snoc, List.getD_eq_getElem?_getD, List.getD_eq_getElem?_getD, List.getElem?_append_left (by rw [table_length]; exact h)]
theorem table_snoc_new (l : List Piece) (x : Piece) : (table d f (l ++ [x])).getD l.length d = f (fun k => (table d f l).getD k d) l.length x := by
  rw [table_snoc, List.getD_eq_getElem?_getD, List.getElem?_append_right (by rw [table_length]; exact Nat.le_refl _), table_length]
  simp
theorem table_take (l : List Piece) (n : Nat) {k : Nat} (h : k < n) : (table d f (l.take n)).getD k d = (table d f l).getD k d := by
  induction l using snoc_ind with
  | h0 => rw [List.take_nil]
  | h1 l x ih =>
    by_cases hn : n ≤ l.length
    · rw [List.take_append_of_le_length hn, ih, table_snoc_old _ _ _ _ (Nat.lt_of_lt_of_le h hn)]
    · rw [List.take_of_length_le (by rw [List.length_append]; show l.length + 1 ≤ n; omega)]
theorem table_out (l : List Piece) {k : Nat} (h : l.length ≤ k) : (table d f l).getD k d = d := by
  rw [List.getD_eq_getElem?_getD, List.getElem?_eq_none (by rw [table_length]; exact h)]
  rfl
theorem table_at (l : List Piece) {k : Nat} {x : Piece} (h : l[k]? = some x) : (table d f l).getD k d = f (fun j => (table d f (l.take k)).getD j d) k x := by
  have hk := (List.getElem?_eq_some_iff.mp h).1
  have e : l.take (k + 1) = l.take k ++ [x] := by
    rw [List.take_add_one, h]
    rfl
  have hl : (l.take k).length = k := by rw [List.length_take]; omega
  rw [← table_take d f l (k + 1) (Nat.lt_succ_self k), e]
  have := table_snoc_new d f (l.take k) x
  rw [hl] at this
  exact this
end

/-! ### a piece's parts lie below it -/
def Below (n : Nat) : Piece → Prop
  | .block => True
  | .seq a b => a < n ∧ b < n
  | .alt a b => a < n ∧ b < n
  | .loop a _ _ => a < n
  | .call a _ => a < n
def Wf (l : List Piece) : Prop := ∀ k x, l[k]? = some x → Below k x
theorem Wf.nil : Wf [] := fun k x h => by simp at h
theorem Wf.snoc {l : List Piece} {x : Piece} (h : Wf l) (hx : Below l.length x) : Wf (l ++ [x]) := fun k y e => by
  rw [List.getElem?_append] at e
  split at e
  · exact h k y e
  · rename_i hk
    have : k - l.length = 0 := by
      cases q : k - l.length with
      | zero => rfl
      | succ n => rw [q] at e; simp at e
    have hk' : k = l.length := by omega
    rw [this] at e
    cases e
    rw [hk']; exact hx

/-- a step that looks at lower places alone -/
def Low {α : Type} (f : (Nat → α) → Nat → Piece → α) : Prop := ∀ (v v' : Nat → α) (n : Nat) (x : Piece), Below n x → (∀ j, j < n → v j = v' j) → f v n x = f v' n x
theorem low_most (w : Nat → Nat) : Low (mostBy w) := fun v v' n x hb h => by
  cases x <;> simp only [Below] at hb <;> simp only [mostBy] <;> first | rfl | rw [h _ hb] | rw [h _ hb.1, h _ hb.2]
theorem low_least (w : Nat → Nat) : Low (leastBy w) := fun v v' n x hb h => by
  cases x <;> simp only [Below] at hb <;> simp only [leastBy] <;> first | rfl | rw [h _ hb] | rw [h _ hb.1, h _ hb.2]
theorem low_stack : Low stackBy := fun v v' n x hb h => by
  cases x <;> simp only [Below] at hb <;> simp only [stackBy] <;> first | rfl | rw [h _ hb] | rw [h _ hb.1, h _ hb.2]
theorem low_told (c : Nat → Nat) : Low (toldBy c) := fun v v' n x hb h => by
  cases x <;> simp only [Below] at hb <;> simp only [toldBy] <;> first | rfl | rw [h _ hb] | rw [h _ hb.1, h _ hb.2]
theorem low_judge (r : List Nat) : Low (judgeBy r) := fun v v' n x hb h => by
  cases x <;> simp only [Below] at hb <;> simp only [judgeBy] <;> first | rfl | rw [h _ hb] | rw [h _ hb.1, h _ hb.2]
/-- the equation of a table -/
theorem table_eq {α : Type} {d : α} {f : (Nat → α) → Nat → Piece → α} (L : Low f) {l : List Piece} (W : Wf l) {k : Nat} {x : Piece} (h : l[k]? = some x) :
    (table d f l).getD k d = f (fun j => (table d f l).getD j d) k x := by
  rw [table_at d f l h]
  exact L _ _ k x (W k x h) fun j hj => table_take d f l k hj
theorem most_eq {l : List Piece} (W : Wf l) (w : Nat → Nat) {k : Nat} {x : Piece} (h : l[k]? = some x) : most l w k = mostBy w (most l w) k x := table_eq (low_most w) W h
theorem least_eq {l : List Piece} (W : Wf l) (w : Nat → Nat) {k : Nat} {x : Piece} (h : l[k]? = some x) : least l w k = leastBy w (least l w) k x := table_eq (low_least w) W h
theorem stack_eq {l : List Piece} (W : Wf l) {k : Nat} {x : Piece} (h : l[k]? = some x) : Wc.stack l k = stackBy (Wc.stack l) k x := table_eq low_stack W h
theorem most_snoc_old {l : List Piece} {x : Piece} {w : Nat → Nat} {k : Nat} (h : k < l.length) : most (l ++ [x]) w k = most l w k := table_snoc_old _ _ l x h
theorem most_snoc_new {l : List Piece} {x : Piece} {w : Nat → Nat} : most (l ++ [x]) w l.length = mostBy w (most l w) l.length x := table_snoc_new _ _ l x
theorem longest_snoc_old {l : List Piece} {x : Piece} {k : Nat} (h : k < l.length) : longest (l ++ [x]) k = longest l k := most_snoc_old h
theorem longest_snoc_new {l : List Piece} {x : Piece} : longest (l ++ [x]) l.length = mostBy (fun _ => 1) (longest l) l.length x := most_snoc_new

/-- induction along the programs -/
theorem piece_ind {l : List Piece} (W : Wf l) {P : Nat → Prop} (h : ∀ k x, l[k]? = some x → (∀ j, j < k → P j) → P k) : ∀ k, k < l.length → P k := by
  intro k
  induction k using Nat.strongRecOn with
  | _ k ih =>
    intro hk
    exact h k _ (List.getElem?_eq_getElem hk) fun j hj => ih j hj (Nat.lt_trans hj hk)

/-! ### how most grows with its weights -/
theorem most_mono {l : List Piece} (W : Wf l) {w w' : Nat → Nat} (h : ∀ n, w n ≤ w' n) : ∀ k, k < l.length → most l w k ≤ most l w' k := by
  refine piece_ind W fun k x e ih => ?_
  rw [most_eq W w e, most_eq W w' e]
  have hb := W k x e
  cases x <;> simp only [Below] at hb <;> simp only [mostBy]
  · exact h k
  · exact Nat.add_le_add (ih _ hb.1) (ih _ hb.2)
  · have := ih _ hb.1
    have := ih _ hb.2
    omega
  · exact Nat.mul_le_mul_left _ (ih _ hb)
  · exact ih _ hb
theorem most_bound {l : List Piece} (W : Wf l) {w : Nat → Nat} {c : Nat} (h : ∀ n, w n ≤ c) : ∀ k, k < l.length → most l w k ≤ c * longest l k := by
  refine piece_ind W fun k x e ih => ?_
  unfold longest
  rw [most_eq W w e, most_eq W _ e]
  have hb := W k x e
  cases x <;> simp only [Below] at hb <;> simp only [mostBy]
  · rw [Nat.mul_one]; exact h k
  · rw [Nat.mul_add]; exact Nat.add_le_add (ih _ hb.1) (ih _ hb.2)
  · exact Nat.max_le.mpr ⟨Nat.le_trans (ih _ hb.1) (Nat.mul_le_mul_left _ (Nat.le_max_left _ _)), Nat.le_trans (ih _ hb.2) (Nat.mul_le_mul_left _ (Nat.le_max_right _ _))⟩
  · rw [Nat.mul_left_comm]; exact Nat.mul_le_mul_left _ (ih _ hb)
  · exact ih _ hb
/-- where b may be met, b's price by d more costs d more at least -/
theorem most_grows {l : List Piece} (W : Wf l) {w : Nat → Nat} {b d : Nat} (hw : d ≤ w b) : ∀ k, k < l.length → 0 < most l (isOne b) k → d ≤ most l w k := by
  refine piece_ind W fun k x e ih => ?_
  rw [most_eq W w e, most_eq W _ e]
  have hb := W k x e
  cases x <;> simp only [Below] at hb <;> simp only [mostBy]
  · intro h
    unfold isOne at h
    split at h
    · rename_i q; rw [q]; exact hw
    · omega
  · rename_i a c
    intro h
    rcases Nat.lt_or_ge 0 (most l (isOne b) a) with q | q
    · exact Nat.le_trans (ih _ hb.1 q) (Nat.le_add_right _ _)
    · have : 0 < most l (isOne b) c := by omega
      exact Nat.le_trans (ih _ hb.2 this) (Nat.le_add_left _ _)
  · rename_i a c
    intro h
    rcases Nat.lt_or_ge 0 (most l (isOne b) a) with q | q
    · exact Nat.le_trans (ih _ hb.1 q) (Nat.le_max_left _ _)
    · have : 0 < most l (isOne b) c := by omega
      exact Nat.le_trans (ih _ hb.2 this) (Nat.le_max_right _ _)
  · rename_i a lo hi
    intro h
    have h1 : 0 < hi := Nat.pos_of_mul_pos_right h
    have h2 : 0 < most l (isOne b) a := Nat.pos_of_mul_pos_left h
    exact Nat.le_trans (ih _ hb h2) (Nat.le_mul_of_pos_left _ h1)
  · exact ih _ hb
end WcP

namespace WcP
open Wc

/-! ### what holds of every state -/
structure Good (s : State) : Prop where
  len : s.costs.length = s.pieces.length
  few : s.pieces.length ≤ 64
  wf : Wf s.pieces
  long : ∀ k, k < s.pieces.length → longest s.pieces k ≤ 1099511627776
  cost : ∀ k, costOf s k ≤ 65535
  hi : ∀ (k a lo hi : Nat), s.pieces[k]? = some (.loop a lo hi) → lo ≤ hi ∧ hi ≤ 65535
  fr : ∀ (k a f : Nat), s.pieces[k]? = some (.call a f) → f ≤ 65535
theorem Good.start : Good Wc.start := ⟨rfl, by decide, Wf.nil, fun k h => absurd h (Nat.not_lt_zero _), fun k => by simp [costOf, Wc.start], fun k a lo hi h => by simp [Wc.start] at h, fun k a f h => by simp [Wc.start] at h⟩
/-- a piece that may stand as the next -/
def Fit (n : Nat) : Piece → Prop
  | .block => True
  | .seq a b => a < n ∧ b < n
  | .alt a b => a < n ∧ b < n
  | .loop a lo hi => a < n ∧ lo ≤ hi ∧ hi ≤ 65535
  | .call a f => a < n ∧ f ≤ 65535
theorem Fit.below {n : Nat} {x : Piece} (h : Fit n x) : Below n x := by
  cases x <;> simp only [Fit] at h <;> simp only [Below] <;> first | exact h | exact h.1
theorem getElem?_snoc {α : Type} {l : List α} {x y : α} {k : Nat} (h : (l ++ [x])[k]? = some y) : l[k]? = some y ∨ (k = l.length ∧ y = x) := by
  rw [List.getElem?_append] at h
  split at h
  · exact .inl h
  · rename_i hk
    cases q : k - l.length with
    | zero => rw [q] at h; cases h; exact .inr ⟨by omega, rfl⟩
    | succ n => rw [q] at h; simp at h
theorem Good.more {s : State} (G : Good s) {x : Piece} {c : Nat} (hx : Fit s.pieces.length x) (hc : c ≤ 65535) (h1 : s.pieces.length < 64) (h2 : longest (s.pieces ++ [x]) s.pieces.length ≤ 1099511627776) : Good ⟨s.pieces ++ [x], s.costs ++ [c]⟩ where
  len := by simp [G.len]
  few := by simp; omega
  wf := G.wf.snoc hx.below
  long := fun k hk => by
    simp at hk
    rcases Nat.lt_or_ge k s.pieces.length with q | q
    · show longest (s.pieces ++ [x]) k ≤ _
      rw [longest_snoc_old q]; exact G.long k q
    · have : k = s.pieces.length := by omega
      subst this; exact h2
  cost := fun k => by
    show (s.costs ++ [c]).getD k 0 ≤ 65535
    rw [List.getD_eq_getElem?_getD]
    cases e : (s.costs ++ [c])[k]? with
    | none => simp
    | some z =>
      rcases getElem?_snoc e with h | ⟨_, rfl⟩
      · have := G.cost k
        unfold costOf at this
        rw [List.getD_eq_getElem?_getD, h] at this
        exact this
      · exact hc
  hi := fun k a lo hi e => by
    rcases getElem?_snoc e with h | ⟨_, rfl⟩
    · exact G.hi k a lo hi h
    · exact hx.2
  fr := fun k a f e => by
    rcases getElem?_snoc e with h | ⟨_, rfl⟩
    · exact G.fr k a f h
    · exact hx.2
theorem Good.added {s : State} (G : Good s) {x : Piece} {c : Nat} (hx : Fit s.pieces.length x) (hc : c ≤ 65535) : Good (added s x c).1 := by
  unfold Wc.added
  dsimp only
  split
  · rename_i h; exact G.more hx hc h.1 h.2
  · exact G
theorem Good.recost {s : State} (G : Good s) {b c : Nat} (hc : c ≤ 65535) : Good ⟨s.pieces, s.costs.set b c⟩ where
  len := by simp [G.len]
  few := G.few
  wf := G.wf
  long := G.long
  cost := fun k => by
    show (s.costs.set b c).getD k 0 ≤ 65535
    have := G.cost k
    unfold costOf at this
    rw [List.getD_eq_getElem?_getD] at this ⊢
    rw [List.getElem?_set]
    split
    · split
      · exact hc
      · simp
    · exact this
  hi := G.hi
  fr := G.fr
theorem Good.step {s : State} (G : Good s) (c : Wc.Call) : Good (Wc.step s c).1 := by
  cases c <;> simp only [Wc.step, may]
  all_goals first
    | exact Good.start
    | (split <;> first
        | exact G
        | (rename_i h
           simp only [Bool.and_eq_true, decide_eq_true_eq, there] at h
           first
             | exact G.added (x := .block) trivial h
             | exact G.added (x := .seq _ _) h (by decide)
             | exact G.added (x := .alt _ _) h (by decide)
             | exact G.added (x := .loop _ _ _) h (by decide)
             | exact G.added (x := .call _ _) h (by decide)
             | exact G.recost h.2))
/-- every answer is one number -/
theorem step_says (s : State) (c : Wc.Call) : (Wc.step s c).2 = says (Wc.step s c).2.ret := by
  have ha : ∀ (x : Piece) (k : Nat), (added s x k).2 = says (added s x k).2.ret := by
    intro x k; unfold Wc.added; dsimp only; split <;> rfl
  cases c <;> simp only [Wc.step, may]
  all_goals first
    | rfl
    | (split <;> first | rfl | exact ha _ _ | (dsimp only; split <;> rfl))

/-! ### the calls, one behind another -/
inductive Tok : List Int → Wc.Call → List Int → Prop
  | init (t : List Int) : Tok (0 :: t) .init t
  | block (c : Nat) (t : List Int) : Tok (1 :: (c : Int) :: t) (.block c) t
  | seq (a b : Nat) (t : List Int) : Tok (2 :: (a : Int) :: (b : Int) :: t) (.seq a b) t
  | alt (a b : Nat) (t : List Int) : Tok (3 :: (a : Int) :: (b : Int) :: t) (.alt a b) t
  | loop (a lo hi : Nat) (t : List Int) : Tok (4 :: (a : Int) :: (lo : Int) :: (hi : Int) :: t) (.loop a lo hi) t
  | call (a f : Nat) (t : List Int) : Tok (5 :: (a : Int) :: (f : Int) :: t) (.call a f) t
  | cost (b c : Nat) (t : List Int) : Tok (6 :: (b : Int) :: (c : Int) :: t) (.cost b c) t
  | time (a m : Nat) (t : List Int) : Tok (7 :: (a : Int) :: (m : Int) :: t) (.time a m) t
  | often (a b m : Nat) (t : List Int) : Tok (8 :: (a : Int) :: (b : Int) :: (m : Int) :: t) (.often a b m) t
  | stack (a : Nat) (t : List Int) : Tok (9 :: (a : Int) :: t) (.stack a) t
  | slack (a b : Nat) (t : List Int) : Tok (10 :: (a : Int) :: (b : Int) :: t) (.slack a b) t
  | nth (a i : Nat) (t : List Int) : Tok (11 :: (a : Int) :: (i : Int) :: t) (.nth a i) t
  | is (a : Nat) (r : List Nat) (t : List Int) : Tok (12 :: (a : Int) :: (r.length : Int) :: (r.map (fun (n : Nat) => (n : Int)) ++ t)) (.is a r) t
inductive Toks : List Int → List Wc.Call → Prop
  | nil : Toks [] []
  | cons {l t : List Int} {c : Wc.Call} {cs : List Wc.Call} (h : Tok l c t) (r : Toks t cs) : Toks l (c :: cs)
/-- the answers, as one list -/
def outs : State → List Wc.Call → List Int
  | _, [] => []
  | s, c :: l => 3 :: (Wc.step s c).2.ret :: 0 :: 0 :: outs (Wc.step s c).1 l

theorem nat_of {z : Int} (h : WcNeutral.natural z 64 = true) : ∃ n : Nat, z = (n : Int) ∧ z.toNat = n := by
  unfold WcNeutral.natural at h
  rw [Bool.and_eq_true] at h
  have : 0 ≤ z := of_decide_eq_true h.1
  exact ⟨z.toNat, by omega, rfl⟩
theorem nats_of : ∀ {r : List Int}, r.all (fun (z : Int) => WcNeutral.natural z 64) = true → r = (WcNeutral.nats r).map (fun (n : Nat) => (n : Int))
  | [], _ => rfl
  | z :: r, h => by
    rw [List.all_cons, Bool.and_eq_true] at h
    obtain ⟨n, e1, e2⟩ := nat_of h.1
    have ih := nats_of h.2
    show z :: r = ((z.toNat : Nat) : Int) :: (WcNeutral.nats r).map _
    rw [e2, ← e1, ← ih]
theorem numbers_says (z : Int) : WcNeutral.numbersOf (says z) = [z, 0, 0] := rfl
theorem shape_cases {p : Int} {x : Nat × Nat} (h : PyWqaeap.shape p = some x) : (p = 0 ∧ x = (0, 0)) ∨ (p = 1 ∧ x = (1, 0)) ∨ (p = 2 ∧ x = (2, 0)) ∨ (p = 3 ∧ x = (2, 0)) ∨ (p = 4 ∧ x = (3, 0)) ∨ (p = 5 ∧ x = (2, 0)) ∨ (p = 6 ∧ x = (2, 0)) ∨
    (p = 7 ∧ x = (2, 0)) ∨ (p = 8 ∧ x = (3, 0)) ∨ (p = 9 ∧ x = (1, 0)) ∨ (p = 10 ∧ x = (2, 0)) ∨ (p = 11 ∧ x = (2, 0)) ∨ (p = 12 ∧ x = (1, 1)) := by
  have key : ∀ {c : Prop} [Decidable c] {a : Nat × Nat} {o : Option (Nat × Nat)}, (if c then some a else o) = some x → (c ∧ x = a) ∨ (o = some x) := by
    intro c _ a o h
    by_cases hc : c
    · rw [if_pos hc] at h; exact .inl ⟨hc, (Option.some.inj h).symm⟩
    · rw [if_neg hc] at h; exact .inr h
  unfold PyWqaeap.shape at h
  rcases key h with q | h
  · exact .inl q
  right
  rcases key h with q | h
  · exact .inl q
  right
  rcases key h with q | h
  · exact .inl q
  right
  rcases key h with q | h
  · exact .inl q
  right
  rcases key h with q | h
  · exact .inl q
  right
  rcases key h with q | h
  · exact .inl q
  right
  rcases key h with q | h
  · exact .inl q
  right
  rcases key h with q | h
  · exact .inl q
  right
  rcases key h with q | h
  · exact .inl q
  right
  rcases key h with q | h
  · exact .inl q
  right
  rcases key h with q | h
  · exact .inl q
  right
  rcases key h with q | h
  · exact .inl q
  right
  rcases key h with q | h
  · exact q
  · cases h
theorem call_plain {p : Int} {n : Nat} {r t : List Int} {c : List (List Int)} (hs : PyWqaeap.shape p = some (n, 0)) (h : PyFlat.call PyWqaeap.shape (p :: r) = some (c, t)) : n ≤ r.length ∧ c = [p :: r.take n] ∧ t = r.drop n := by
  simp only [PyFlat.call, hs] at h
  split at h
  · cases h
  · rename_i q
    simp only [PyFlat.rows] at h
    cases h
    exact ⟨by omega, rfl, rfl⟩
theorem call_is {r t : List Int} {c : List (List Int)} (h : PyFlat.call PyWqaeap.shape (12 :: r) = some (c, t)) : ∃ (a n : Int) (u : List Int), r = a :: n :: u ∧ 0 ≤ n ∧ n.toNat ≤ u.length ∧ c = [[12, a], u.take n.toNat] ∧ t = u.drop n.toNat := by
  simp only [PyFlat.call, show PyWqaeap.shape 12 = some (1, 1) from rfl] at h
  split at h
  · cases h
  · rename_i q
    match r, q, h with
    | [], q, h => simp at q
    | a :: u, q, h =>
      simp only [List.drop_succ_cons, List.drop_zero, List.take_succ_cons, List.take_zero, PyFlat.rows] at h
      match u, h with
      | [], h => simp [PyFlat.row] at h
      | n :: u, h =>
        simp only [PyFlat.row] at h
        by_cases hn : 0 ≤ n ∧ n.toNat ≤ u.length
        · rw [if_pos hn] at h
          cases h
          exact ⟨a, n, u, rfl, hn.1, hn.2, rfl, rfl⟩
        · rw [if_neg hn] at h; cases h
theorem drop_two_of {r : List Int} (h : 2 ≤ r.length) : ∃ a b t, r = a :: b :: t := by
  match r, h with
  | a :: b :: t, _ => exact ⟨a, b, t, rfl⟩
theorem drop_one_of {r : List Int} (h : 1 ≤ r.length) : ∃ a t, r = a :: t := by
  match r, h with
  | a :: t, _ => exact ⟨a, t, rfl⟩
theorem drop_three_of {r : List Int} (h : 3 ≤ r.length) : ∃ a b c t, r = a :: b :: c :: t := by
  match r, h with
  | a :: b :: c :: t, _ => exact ⟨a, b, c, t, rfl⟩
/-- one call read: which it is -/
theorem tok_of {l t : List Int} {c : List (List Int)} (h : PyFlat.call PyWqaeap.shape l = some (c, t)) (ha : WcNeutral.asked1 (PyWqaeap.whole c) = true) : ∃ x, Tok l x t ∧ WcNeutral.callOf (PyWqaeap.whole c) = some x := by
  match l, h with
  | [], h => simp [PyFlat.call] at h
  | p :: r, h =>
    cases e : PyWqaeap.shape p with
    | none => simp [PyFlat.call, e] at h
    | some x =>
      rcases shape_cases e with ⟨rfl, rfl⟩ | ⟨rfl, rfl⟩ | ⟨rfl, rfl⟩ | ⟨rfl, rfl⟩ | ⟨rfl, rfl⟩ | ⟨rfl, rfl⟩ | ⟨rfl, rfl⟩ | ⟨rfl, rfl⟩ | ⟨rfl, rfl⟩ | ⟨rfl, rfl⟩ | ⟨rfl, rfl⟩ | ⟨rfl, rfl⟩ | ⟨rfl, rfl⟩
      · obtain ⟨h1, rfl, rfl⟩ := call_plain e h
        exact ⟨_, .init _, rfl⟩
      · obtain ⟨h1, rfl, rfl⟩ := call_plain e h
        obtain ⟨a, u, rfl⟩ := drop_one_of h1
        obtain ⟨n, rfl, e2⟩ := nat_of (z := a) ha
        exact ⟨_, .block n _, rfl⟩
      · obtain ⟨h1, rfl, rfl⟩ := call_plain e h
        obtain ⟨a, b, u, rfl⟩ := drop_two_of h1
        have ha2 : (WcNeutral.natural a 64 && WcNeutral.natural b 64) = true := ha
        rw [Bool.and_eq_true] at ha2
        obtain ⟨n, rfl, e2⟩ := nat_of ha2.1
        obtain ⟨m, rfl, e3⟩ := nat_of ha2.2
        exact ⟨_, .seq n m _, rfl⟩
      · obtain ⟨h1, rfl, rfl⟩ := call_plain e h
        obtain ⟨a, b, u, rfl⟩ := drop_two_of h1
        have ha2 : (WcNeutral.natural a 64 && WcNeutral.natural b 64) = true := ha
        rw [Bool.and_eq_true] at ha2
        obtain ⟨n, rfl, e2⟩ := nat_of ha2.1
        obtain ⟨m, rfl, e3⟩ := nat_of ha2.2
        exact ⟨_, .alt n m _, rfl⟩
      · obtain ⟨h1, rfl, rfl⟩ := call_plain e h
        obtain ⟨a, b, c, u, rfl⟩ := drop_three_of h1
        have ha2 : (WcNeutral.natural a 64 && WcNeutral.natural b 64 && WcNeutral.natural c 64) = true := ha
        rw [Bool.and_eq_true, Bool.and_eq_true] at ha2
        obtain ⟨n, rfl, e2⟩ := nat_of ha2.1.1
        obtain ⟨m, rfl, e3⟩ := nat_of ha2.1.2
        obtain ⟨k, rfl, e4⟩ := nat_of ha2.2
        exact ⟨_, .loop n m k _, rfl⟩
      · obtain ⟨h1, rfl, rfl⟩ := call_plain e h
        obtain ⟨a, b, u, rfl⟩ := drop_two_of h1
        have ha2 : (WcNeutral.natural a 64 && WcNeutral.natural b 64) = true := ha
        rw [Bool.and_eq_true] at ha2
        obtain ⟨n, rfl, e2⟩ := nat_of ha2.1
        obtain ⟨m, rfl, e3⟩ := nat_of ha2.2
        exact ⟨_, .call n m _, rfl⟩
      · obtain ⟨h1, rfl, rfl⟩ := call_plain e h
        obtain ⟨a, b, u, rfl⟩ := drop_two_of h1
        have ha2 : (WcNeutral.natural a 64 && WcNeutral.natural b 64) = true := ha
        rw [Bool.and_eq_true] at ha2
        obtain ⟨n, rfl, e2⟩ := nat_of ha2.1
        obtain ⟨m, rfl, e3⟩ := nat_of ha2.2
        exact ⟨_, .cost n m _, rfl⟩
      · obtain ⟨h1, rfl, rfl⟩ := call_plain e h
        obtain ⟨a, b, u, rfl⟩ := drop_two_of h1
        have ha2 : (WcNeutral.natural a 64 && WcNeutral.natural b 64) = true := ha
        rw [Bool.and_eq_true] at ha2
        obtain ⟨n, rfl, e2⟩ := nat_of ha2.1
        obtain ⟨m, rfl, e3⟩ := nat_of ha2.2
        exact ⟨_, .time n m _, rfl⟩
      · obtain ⟨h1, rfl, rfl⟩ := call_plain e h
        obtain ⟨a, b, c, u, rfl⟩ := drop_three_of h1
        have ha2 : (WcNeutral.natural a 64 && WcNeutral.natural b 64 && WcNeutral.natural c 64) = true := ha
        rw [Bool.and_eq_true, Bool.and_eq_true] at ha2
        obtain ⟨n, rfl, e2⟩ := nat_of ha2.1.1
        obtain ⟨m, rfl, e3⟩ := nat_of ha2.1.2
        obtain ⟨k, rfl, e4⟩ := nat_of ha2.2
        exact ⟨_, .often n m k _, rfl⟩
      · obtain ⟨h1, rfl, rfl⟩ := call_plain e h
        obtain ⟨a, u, rfl⟩ := drop_one_of h1
        obtain ⟨n, rfl, e2⟩ := nat_of (z := a) ha
        exact ⟨_, .stack n _, rfl⟩
      · obtain ⟨h1, rfl, rfl⟩ := call_plain e h
        obtain ⟨a, b, u, rfl⟩ := drop_two_of h1
        have ha2 : (WcNeutral.natural a 64 && WcNeutral.natural b 64) = true := ha
        rw [Bool.and_eq_true] at ha2
        obtain ⟨n, rfl, e2⟩ := nat_of ha2.1
        obtain ⟨m, rfl, e3⟩ := nat_of ha2.2
        exact ⟨_, .slack n m _, rfl⟩
      · obtain ⟨h1, rfl, rfl⟩ := call_plain e h
        obtain ⟨a, b, u, rfl⟩ := drop_two_of h1
        have ha2 : (WcNeutral.natural a 64 && WcNeutral.natural b 64) = true := ha
        rw [Bool.and_eq_true] at ha2
        obtain ⟨n, rfl, e2⟩ := nat_of ha2.1
        obtain ⟨m, rfl, e3⟩ := nat_of ha2.2
        exact ⟨_, .nth n m _, rfl⟩
      · obtain ⟨a, n, u, rfl, h0, h1, rfl, rfl⟩ := call_is h
        have ha2 : (WcNeutral.natural a 64 && (u.take n.toNat).all (fun (z : Int) => WcNeutral.natural z 64)) = true := ha
        rw [Bool.and_eq_true] at ha2
        obtain ⟨k, rfl, e2⟩ := nat_of ha2.1
        have e3 := nats_of ha2.2
        refine ⟨_, ?_, rfl⟩
        have e4 : (12 : Int) :: (k : Int) :: n :: u = 12 :: (k : Int) :: ((WcNeutral.nats (u.take n.toNat)).length : Int) :: ((WcNeutral.nats (u.take n.toNat)).map (fun (n : Nat) => (n : Int)) ++ u.drop n.toNat) := by
          rw [← e3, List.take_append_drop]
          unfold WcNeutral.nats
          rw [List.length_map, List.length_take, Nat.min_eq_left h1]
          rw [Int.toNat_of_nonneg h0]
        rw [e4]
        exact .is k _ _
theorem step_of {s : State} {c : List (List Int)} {x : Wc.Call} (h : WcNeutral.callOf c = some x) : WcNeutral.step s c = ((Wc.step s x).1, [(Wc.step s x).2.ret, 0, 0]) := by
  unfold WcNeutral.step
  rw [h]
  dsimp only
  rw [step_says s x, numbers_says]
  rfl
theorem toks_of : ∀ (f : Nat) (l : List Int) (cs : List (List (List Int))), PyFlat.calls PyWqaeap.shape f l = some cs → (cs.map PyWqaeap.whole).all WcNeutral.asked1 = true →
    ∃ xs, Toks l xs ∧ xs.length = cs.length ∧ ∀ s, PyFlat.told (PyFlat.played WcNeutral.step s (cs.map PyWqaeap.whole)) = outs s xs
  | f, [], cs, h, _ => by
    have e : cs = [] := by
      unfold PyFlat.calls at h
      cases h; rfl
    subst e
    exact ⟨[], .nil, rfl, fun s => rfl⟩
  | 0, p :: r, cs, h, _ => by simp [PyFlat.calls] at h
  | f + 1, p :: r, cs, h, ha => by
    unfold PyFlat.calls at h
    cases e1 : PyFlat.call PyWqaeap.shape (p :: r) with
    | none => rw [e1] at h; cases h
    | some ct =>
      obtain ⟨c, t⟩ := ct
      rw [e1] at h
      dsimp only at h
      cases e2 : PyFlat.calls PyWqaeap.shape f t with
      | none => rw [e2] at h; cases h
      | some cs' =>
        rw [e2] at h
        cases h
        rw [List.map_cons, List.all_cons, Bool.and_eq_true] at ha
        obtain ⟨x, h1, h2⟩ := tok_of e1 ha.1
        obtain ⟨xs, h3, h4, h5⟩ := toks_of f t cs' e2 ha.2
        refine ⟨x :: xs, .cons h1 h3, by simp [h4], fun s => ?_⟩
        rw [List.map_cons]
        show PyFlat.told ((WcNeutral.step s _).2 :: PyFlat.played WcNeutral.step (WcNeutral.step s _).1 _) = _
        rw [step_of h2]
        show (3 : Int) :: (Wc.step s x).2.ret :: 0 :: 0 :: PyFlat.told _ = _
        rw [h5]
        rfl
/-- what is asked, and what is due, read call by call -/
theorem answers_toks {l : List Int} (h : PyWqaeap.answers_asked l = true) : ∃ xs, Toks l xs ∧ xs.length ≤ 400 ∧ PyWqaeap.answers l = outs Wc.start xs := by
  unfold PyWqaeap.answers_asked at h
  unfold PyWqaeap.answers
  unfold PyWqaeap.calls at h ⊢
  cases e : PyFlat.calls PyWqaeap.shape l.length l with
  | none => rw [e] at h; cases h
  | some cs =>
    rw [e] at h
    dsimp only at h ⊢
    rw [Bool.and_eq_true] at h
    have h2 := h.2
    unfold WcNeutral.asked at h2
    rw [Bool.and_eq_true, Bool.and_eq_true] at h2
    obtain ⟨xs, h3, h4, h5⟩ := toks_of _ l cs e h2.1
    refine ⟨xs, h3, ?_, h5 _⟩
    have := of_decide_eq_true h2.2.2
    rw [List.length_map] at this
    omega
end WcP

namespace WcP
open Wc

/-! ### slack -/
theorem dearer_zero (s : State) (b : Nat) : dearer s b 0 = costOf s := by
  funext n
  unfold dearer
  split <;> rfl
theorem dearer_mono {s : State} {b d e : Nat} (h : d ≤ e) (n : Nat) : dearer s b d n ≤ dearer s b e n := by
  unfold dearer
  split <;> omega
theorem dearer_ge (s : State) (b d : Nat) : d ≤ dearer s b d b := by
  unfold dearer
  rw [if_pos rfl]
  omega
theorem slackFrom_spec {s : State} (W : Wf s.pieces) {a b n : Nat} (ha : a < s.pieces.length) : ∀ (f d : Nat), most s.pieces (dearer s b d) a = n → n < most s.pieces (dearer s b (d + 2 ^ f)) a →
    most s.pieces (dearer s b (slackFrom s a b n f d)) a = n ∧ n < most s.pieces (dearer s b (slackFrom s a b n f d + 1)) a
  | 0, d, h1, h2 => ⟨h1, h2⟩
  | f + 1, d, h1, h2 => by
    unfold slackFrom
    split
    · rename_i h
      refine slackFrom_spec W ha f _ h ?_
      rw [Nat.add_assoc, ← Nat.two_mul, ← Nat.pow_succ']
      exact h2
    · rename_i h
      refine slackFrom_spec W ha f _ h1 ?_
      have h3 := most_mono W (dearer_mono (s := s) (b := b) (Nat.le_add_right d (2 ^ f))) a ha
      omega
theorem most_cost_lt {s : State} (G : Good s) {a : Nat} (ha : a < s.pieces.length) : most s.pieces (costOf s) a ≤ 65535 * 1099511627776 :=
  Nat.le_trans (most_bound G.wf G.cost a ha) (Nat.mul_le_mul_left _ (G.long a ha))
/-- the slack: what is told is exact -/
theorem slack_spec {s : State} (G : Good s) {a b : Nat} (ha : a < s.pieces.length) (hb : 0 < most s.pieces (isOne b) a) :
    most s.pieces (dearer s b (Wc.slack s a b)) a = most s.pieces (costOf s) a ∧ most s.pieces (costOf s) a < most s.pieces (dearer s b (Wc.slack s a b + 1)) a := by
  refine slackFrom_spec G.wf ha 60 0 (by rw [dearer_zero]) ?_
  have h1 := most_grows G.wf (w := dearer s b (0 + 2 ^ 60)) (b := b) (d := 0 + 2 ^ 60) (dearer_ge s b _) a ha hb
  have h2 := most_cost_lt G ha
  omega
theorem slack_of {s : State} (G : Good s) {a b d : Nat} (ha : a < s.pieces.length) (hb : 0 < most s.pieces (isOne b) a) (h1 : most s.pieces (dearer s b d) a = most s.pieces (costOf s) a) (h2 : most s.pieces (costOf s) a < most s.pieces (dearer s b (d + 1)) a) :
    Wc.slack s a b = d := by
  obtain ⟨g1, g2⟩ := slack_spec G ha hb
  rcases Nat.lt_trichotomy (Wc.slack s a b) d with q | q | q
  · have := most_mono G.wf (dearer_mono (s := s) (b := b) (show Wc.slack s a b + 1 ≤ d from q)) a ha
    omega
  · exact q
  · have := most_mono G.wf (dearer_mono (s := s) (b := b) (show d + 1 ≤ Wc.slack s a b from q)) a ha
    omega
/-- weights are looked at where blocks stand alone -/
theorem most_congr {l : List Piece} (W : Wf l) {w w' : Nat → Nat} (h : ∀ n, l[n]? = some .block → w n = w' n) : ∀ k, k < l.length → most l w k = most l w' k := by
  refine piece_ind W fun k x e ih => ?_
  rw [most_eq W w e, most_eq W w' e]
  have hb := W k x e
  cases x <;> simp only [Below] at hb <;> simp only [mostBy] <;> first | exact h k e | rw [ih _ hb] | rw [ih _ hb.1, ih _ hb.2]
theorem least_congr {l : List Piece} (W : Wf l) {w w' : Nat → Nat} (h : ∀ n, l[n]? = some .block → w n = w' n) : ∀ k, k < l.length → least l w k = least l w' k := by
  refine piece_ind W fun k x e ih => ?_
  rw [least_eq W w e, least_eq W w' e]
  have hb := W k x e
  cases x <;> simp only [Below] at hb <;> simp only [leastBy] <;> first | exact h k e | rw [ih _ hb] | rw [ih _ hb.1, ih _ hb.2]

/-! ### the block at a place -/
theorem nthOf_fuel {l : List Piece} (W : Wf l) (c n : Nat → Nat) : ∀ (a f i : Nat), a < f → nthOf l c n f a i = nthOf l c n (a + 1) a i := by
  intro a
  induction a using Nat.strongRecOn with
  | _ a ih =>
    intro f i hf
    cases f with
    | zero => omega
    | succ f =>
      unfold nthOf
      cases e : l[a]? with
      | none => rfl
      | some x =>
        have hb := W a x e
        cases x <;> simp only [Below] at hb <;> dsimp only
        · rename_i x y
          rw [ih x hb.1 f _ (by omega), ih x hb.1 a _ (by omega), ih y hb.2 f _ (by omega), ih y hb.2 a _ (by omega)]
        · rename_i x y
          have hz : (if c x < c y then y else x) < a := by split <;> omega
          rw [ih _ hz f _ (by omega), ih _ hz a _ (by omega)]
        · rename_i x lo hi
          rw [ih x hb f _ (by omega), ih x hb a _ (by omega)]
        · rename_i x fr
          rw [ih x hb f _ (by omega), ih x hb a _ (by omega)]
/-- the run that's told: how many blocks it has -/
def toldLen (s : State) (k : Nat) : Nat := (table 0 (toldBy (most s.pieces (costOf s))) s.pieces).getD k 0
theorem toldLen_eq {s : State} (W : Wf s.pieces) {k : Nat} {x : Piece} (h : s.pieces[k]? = some x) : toldLen s k = toldBy (most s.pieces (costOf s)) (toldLen s) k x := table_eq (low_told _) W h
def nthAt (s : State) (a i : Nat) : Option Nat := nthOf s.pieces (most s.pieces (costOf s)) (toldLen s) (a + 1) a i
theorem nth_at (s : State) (a i : Nat) : Wc.nth s a i = nthAt s a i := rfl
/-- one step down -/
def nthStep (s : State) (i : Nat) (a : Nat) : Piece → Option Nat
  | .block => if i = 0 then some a else none
  | .seq x y => if i < toldLen s x then nthAt s x i else nthAt s y (i - toldLen s x)
  | .alt x y => nthAt s (if most s.pieces (costOf s) x < most s.pieces (costOf s) y then y else x) i
  | .loop x _ hi => if toldLen s x = 0 then none else if i / toldLen s x < hi then nthAt s x (i % toldLen s x) else none
  | .call x _ => nthAt s x i
theorem nthAt_eq {s : State} (W : Wf s.pieces) {a i : Nat} {x : Piece} (h : s.pieces[a]? = some x) : nthAt s a i = nthStep s i a x := by
  have hb := W a x h
  unfold nthAt
  unfold nthOf
  rw [h]
  cases x <;> simp only [Below] at hb <;> dsimp only [nthStep]
  · rename_i x y
    rw [nthOf_fuel W _ _ x a _ (by omega), nthOf_fuel W _ _ y a _ (by omega)]
    rfl
  · rename_i x y
    rw [nthOf_fuel W _ _ _ a _ (by split <;> omega)]
    rfl
  · rename_i x lo hi
    rw [nthOf_fuel W _ _ x a _ (by omega)]
    rfl
  · rename_i x fr
    rw [nthOf_fuel W _ _ x a _ (by omega)]
    rfl
/-- the run that's told has no more blocks than the longest -/
theorem toldLen_le {s : State} (W : Wf s.pieces) : ∀ k, k < s.pieces.length → toldLen s k ≤ longest s.pieces k := by
  refine piece_ind W fun k x e ih => ?_
  unfold longest
  rw [toldLen_eq W e, most_eq W _ e]
  have hb := W k x e
  unfold longest at ih
  cases x <;> simp only [Below] at hb <;> simp only [toldBy, mostBy]
  · exact Nat.le_refl _
  · exact Nat.add_le_add (ih _ hb.1) (ih _ hb.2)
  · have h1 := ih _ hb.1
    have h2 := ih _ hb.2
    split <;> omega
  · exact Nat.mul_le_mul_left _ (ih _ hb)
  · exact ih _ hb
/-- there is a block at a place just where the run that's told reaches to it -/
theorem nthAt_some {s : State} (W : Wf s.pieces) : ∀ k, k < s.pieces.length → ∀ i, (nthAt s k i).isSome = true ↔ i < toldLen s k := by
  refine piece_ind W fun k x e ih i => ?_
  rw [nthAt_eq W e, toldLen_eq W e]
  have hb := W k x e
  cases x <;> simp only [Below] at hb <;> simp only [toldBy, nthStep]
  · split
    · rename_i h; subst h; simp
    · rename_i h
      simp
      omega
  · rename_i x y
    split
    · rename_i h
      rw [ih _ hb.1]
      omega
    · rename_i h
      rw [ih _ hb.2]
      omega
  · rename_i x y
    split
    · exact ih _ hb.2 i
    · exact ih _ hb.1 i
  · rename_i x lo hi
    split
    · rename_i h; rw [h, Nat.mul_zero]; simp
    · rename_i h
      rw [← Nat.div_lt_iff_lt_mul (Nat.pos_of_ne_zero h)]
      split
      · rename_i q
        rw [ih _ hb]
        exact ⟨fun _ => q, fun _ => Nat.mod_lt _ (Nat.pos_of_ne_zero h)⟩
      · rename_i q
        exact ⟨fun z => (by cases z), fun z => absurd z q⟩
  · exact ih _ hb i

/-! ### a row judged -/
theorem has_spans {n : Nat} {f : Nat → Nat → Bool} {i j : Nat} : has (spansOf n f) i j = true ↔ i ≤ j ∧ j ≤ n ∧ f i j = true := by
  unfold has spansOf
  rw [List.getD_eq_getElem?_getD, List.getD_eq_getElem?_getD, List.getElem?_map]
  by_cases hi : i < n + 1
  · rw [List.getElem?_range hi]
    simp only [Option.map_some, Option.getD_some, List.getElem?_map]
    by_cases hj : j < n + 1
    · rw [List.getElem?_range hj]
      simp only [Option.map_some, Option.getD_some, Bool.and_eq_true, decide_eq_true_eq]
      constructor
      · rintro ⟨h1, h2⟩; exact ⟨h1, by omega, h2⟩
      · rintro ⟨h1, _, h2⟩; exact ⟨h1, h2⟩
    · rw [List.getElem?_eq_none (by rw [List.length_range]; omega)]
      simp
      intro _ h; omega
  · rw [List.getElem?_eq_none (l := List.range (n + 1)) (by rw [List.length_range]; omega)]
    simp
    intro _ h; omega
/-- program k has the stretch from i to j of the row r as a run -/
def Sp (l : List Piece) (r : List Nat) (k i j : Nat) : Prop := has ((table [] (judgeBy r) l).getD k []) i j = true
instance (l : List Piece) (r : List Nat) (k i j : Nat) : Decidable (Sp l r k i j) := inferInstanceAs (Decidable (_ = true))
/-- so many stretches one after another -/
def Chain (R : Nat → Nat → Prop) : Nat → Nat → Nat → Prop
  | 0, i, j => i = j
  | c + 1, i, j => ∃ m, R i m ∧ Chain R c m j
theorem Chain.snoc {R : Nat → Nat → Prop} : ∀ {c i j k : Nat}, Chain R c i j → R j k → Chain R (c + 1) i k
  | 0, i, j, k, h, r => by cases h; exact ⟨k, r, rfl⟩
  | c + 1, i, j, k, ⟨m, h1, h2⟩, r => ⟨m, h1, h2.snoc r⟩
theorem Chain.unsnoc {R : Nat → Nat → Prop} : ∀ {c i k : Nat}, Chain R (c + 1) i k → ∃ j, Chain R c i j ∧ R j k
  | 0, i, k, ⟨m, h1, h2⟩ => by cases h2; exact ⟨i, rfl, h1⟩
  | c + 1, i, k, ⟨m, h1, h2⟩ => by
    obtain ⟨j, h3, h4⟩ := Chain.unsnoc h2
    exact ⟨j, ⟨m, h1, h3⟩, h4⟩
theorem Chain.add {R : Nat → Nat → Prop} : ∀ {c d i j k : Nat}, Chain R c i j → Chain R d j k → Chain R (c + d) i k
  | 0, d, i, j, k, h, r => by cases h; rw [Nat.zero_add]; exact r
  | c + 1, d, i, j, k, ⟨m, h1, h2⟩, r => by
    rw [Nat.add_right_comm]
    exact ⟨m, h1, h2.add r⟩
theorem Chain.imp {R Q : Nat → Nat → Prop} (h : ∀ i j, R i j → Q i j) : ∀ {c i j : Nat}, Chain R c i j → Chain Q c i j
  | 0, _, _, e => e
  | _ + 1, _, _, ⟨m, h1, h2⟩ => ⟨m, h _ _ h1, h2.imp h⟩
theorem Chain.le {R : Nat → Nat → Prop} (h : ∀ i j, R i j → i ≤ j) : ∀ {c i j : Nat}, Chain R c i j → i ≤ j
  | 0, _, _, e => by cases e; exact Nat.le_refl _
  | _ + 1, _, _, ⟨m, h1, h2⟩ => Nat.le_trans (h _ _ h1) (h2.le h)
theorem Chain.lt {R : Nat → Nat → Prop} (h : ∀ i j, R i j → i < j) : ∀ {c i j : Nat}, Chain R c i j → i + c ≤ j
  | 0, _, _, e => by cases e; exact Nat.le_refl _
  | c + 1, _, _, ⟨m, h1, h2⟩ => by
    have := h _ _ h1
    have := h2.lt h
    omega
theorem Chain.stay {R : Nat → Nat → Prop} {i : Nat} (h : R i i) : ∀ c, Chain R c i i
  | 0 => rfl
  | c + 1 => ⟨i, h, Chain.stay h c⟩
/-- empty stretches taken away -/
theorem Chain.strip {R : Nat → Nat → Prop} (h : ∀ i j, R i j → i ≤ j) : ∀ {c i j : Nat}, Chain R c i j → ∃ d, d ≤ c ∧ Chain (fun a b => R a b ∧ a < b) d i j ∧ (d = c ∨ ∃ m, i ≤ m ∧ m ≤ j ∧ R m m)
  | 0, i, j, e => ⟨0, Nat.le_refl _, e, .inl rfl⟩
  | c + 1, i, j, ⟨m, h1, h2⟩ => by
    obtain ⟨d, g1, g2, g3⟩ := Chain.strip h h2
    have hm := h _ _ h1
    have hj := h2.le h
    rcases Nat.lt_or_ge i m with q | q
    · refine ⟨d + 1, by omega, ⟨m, ⟨h1, q⟩, g2⟩, ?_⟩
      rcases g3 with g3 | ⟨z, z1, z2, z3⟩
      · exact .inl (by omega)
      · exact .inr ⟨z, by omega, z2, z3⟩
    · have : i = m := by omega
      subst this
      exact ⟨d, by omega, g2, .inr ⟨i, Nat.le_refl _, hj, h1⟩⟩
theorem mem_hop {n : Nat} {t : Spans} {l : List Nat} {j : Nat} : j ∈ hop n t l ↔ j ≤ n ∧ ∃ i, i ∈ l ∧ i < j ∧ has t i j = true := by
  unfold hop
  rw [List.mem_filter, List.mem_range, List.any_eq_true]
  constructor
  · rintro ⟨h1, i, h2, h3⟩
    rw [Bool.and_eq_true, decide_eq_true_eq] at h3
    exact ⟨by omega, i, h2, h3⟩
  · rintro ⟨h1, i, h2, h3, h4⟩
    exact ⟨by omega, i, h2, by rw [Bool.and_eq_true, decide_eq_true_eq]; exact ⟨h3, h4⟩⟩
theorem hops_at {n : Nat} {t : Spans} : ∀ (f : Nat) (l : List Nat) (c : Nat) (x : List Nat), (hops n t f l)[c]? = some x → c ≤ f ∧ ∀ j, j ∈ x → ∃ i, i ∈ l ∧ Chain (fun a b => has t a b = true ∧ a < b) c i j
  | 0, l, c, x, h => by
    cases c with
    | zero => cases h; exact ⟨Nat.le_refl _, fun j hj => ⟨j, hj, rfl⟩⟩
    | succ c => simp [hops] at h
  | f + 1, l, c, x, h => by
    cases c with
    | zero => cases h; exact ⟨Nat.zero_le _, fun j hj => ⟨j, hj, rfl⟩⟩
    | succ c =>
      have h' : (hops n t f (hop n t l))[c]? = some x := h
      obtain ⟨h1, h2⟩ := hops_at f _ c x h'
      refine ⟨by omega, fun j hj => ?_⟩
      obtain ⟨i, hi, hc⟩ := h2 j hj
      obtain ⟨_, m, hm, hlt, ht⟩ := mem_hop.mp hi
      exact ⟨m, hm, i, ⟨ht, hlt⟩, hc⟩
theorem hops_has {n : Nat} {t : Spans} (ht : ∀ a b, has t a b = true → b ≤ n) : ∀ (f : Nat) (l : List Nat) (c i j : Nat), c ≤ f → i ∈ l → Chain (fun a b => has t a b = true ∧ a < b) c i j → ∃ x, (hops n t f l)[c]? = some x ∧ j ∈ x
  | 0, l, c, i, j, hc, hi, h => by
    have : c = 0 := by omega
    subst this
    cases h
    exact ⟨l, rfl, hi⟩
  | f + 1, l, c, i, j, hc, hi, h => by
    cases c with
    | zero => cases h; exact ⟨l, rfl, hi⟩
    | succ c =>
      obtain ⟨m, ⟨h1, h2⟩, h3⟩ := h
      exact hops_has ht f _ c m j (by omega) (mem_hop.mpr ⟨ht _ _ h1, i, hi, h2, h1⟩) h3
theorem looped_iff {n : Nat} {t : Spans} (ht : ∀ a b, has t a b = true → a ≤ b ∧ b ≤ n) (he : ∀ a b, a ≤ n → b ≤ n → has t a a = true → has t b b = true) {lo hi i j : Nat} (hl : lo ≤ hi) (hij : i ≤ j) (hj : j ≤ n) :
    looped n t lo hi i j = true ↔ ∃ c, lo ≤ c ∧ c ≤ hi ∧ Chain (fun a b => has t a b = true) c i j := by
  unfold looped
  rw [List.any_eq_true]
  constructor
  · rintro ⟨⟨x, c⟩, hx, h⟩
    have hx' : (hops n t n [i])[c]? = some x := by
      have := List.mem_zipIdx_iff_getElem?.mp hx
      exact this
    rw [Bool.and_eq_true, Bool.and_eq_true, Bool.or_eq_true, decide_eq_true_eq, decide_eq_true_eq] at h
    obtain ⟨h1, h2, h3⟩ := h
    obtain ⟨_, g⟩ := hops_at n [i] c x hx'
    obtain ⟨i', hi', hc⟩ := g j (by simpa using h1)
    have : i' = i := by simpa using hi'
    subst this
    have hc' : Chain (fun a b => has t a b = true) c i' j := hc.imp fun _ _ z => z.1
    rcases Nat.lt_or_ge c lo with q | q
    · rcases h3 with h3 | h3
      · refine ⟨(lo - c) + c, by omega, by omega, (Chain.stay (R := fun a b => has t a b = true) h3 _).add hc'⟩
      · exact absurd h3 (by simp; omega)
    · exact ⟨c, q, h2, hc'⟩
  · rintro ⟨c, h1, h2, h3⟩
    obtain ⟨d, g1, g2, g3⟩ := h3.strip fun a b z => (ht a b z).1
    have hd : i + d ≤ j := g2.lt fun _ _ z => z.2
    obtain ⟨x, hx, hjx⟩ := hops_has (fun a b z => (ht a b z).2) n [i] d i j (by omega) (by simp) g2
    refine ⟨(x, d), List.mem_zipIdx_iff_getElem?.mpr hx, ?_⟩
    rw [Bool.and_eq_true, Bool.and_eq_true, Bool.or_eq_true, decide_eq_true_eq, decide_eq_true_eq]
    refine ⟨by simpa using hjx, by show d ≤ hi; omega, ?_⟩
    rcases g3 with g3 | ⟨m, m1, m2, m3⟩
    · exact .inr (by show lo ≤ d; omega)
    · exact .inl (he m i (by omega) (by omega) m3)

section
variable {l : List Piece} {r : List Nat}
theorem judge_eq (W : Wf l) {k : Nat} {x : Piece} (h : l[k]? = some x) : (table [] (judgeBy r) l).getD k [] = judgeBy r (fun j => (table [] (judgeBy r) l).getD j []) k x := table_eq (low_judge r) W h
theorem Sp.le (W : Wf l) : ∀ k, k < l.length → ∀ i j, Sp l r k i j → i ≤ j ∧ j ≤ r.length := by
  refine piece_ind W fun k x e ih i j h => ?_
  unfold Sp at h ih
  rw [judge_eq W e] at h
  have hb := W k x e
  cases x <;> simp only [Below] at hb <;> simp only [judgeBy] at h
  · exact ⟨(has_spans.mp h).1, (has_spans.mp h).2.1⟩
  · exact ⟨(has_spans.mp h).1, (has_spans.mp h).2.1⟩
  · exact ⟨(has_spans.mp h).1, (has_spans.mp h).2.1⟩
  · exact ⟨(has_spans.mp h).1, (has_spans.mp h).2.1⟩
  · exact ih _ hb i j h
theorem sp_block (W : Wf l) {k : Nat} (h : l[k]? = some .block) {i j : Nat} : Sp l r k i j ↔ j = i + 1 ∧ i < r.length ∧ r[i]? = some k := by
  unfold Sp
  rw [judge_eq W h]
  simp only [judgeBy]
  rw [has_spans, Bool.and_eq_true, beq_iff_eq, beq_iff_eq]
  constructor
  · rintro ⟨h1, h2, h3, h4⟩
    subst h3
    refine ⟨rfl, by omega, ?_⟩
    rw [List.getD_eq_getElem?_getD] at h4
    rw [List.getElem?_eq_getElem (by omega)] at h4 ⊢
    exact congrArg some h4
  · rintro ⟨rfl, h2, h3⟩
    refine ⟨by omega, by omega, rfl, ?_⟩
    rw [List.getD_eq_getElem?_getD, h3]
    rfl
theorem sp_seq (W : Wf l) {k a b : Nat} (h : l[k]? = some (.seq a b)) {i j : Nat} : Sp l r k i j ↔ ∃ m, Sp l r a i m ∧ Sp l r b m j := by
  have hb := W k _ h
  have hk := (List.getElem?_eq_some_iff.mp h).1
  simp only [Below] at hb
  constructor
  · intro q
    unfold Sp at q ⊢
    rw [judge_eq W h] at q
    simp only [judgeBy] at q
    obtain ⟨_, _, q⟩ := has_spans.mp q
    obtain ⟨m, _, q⟩ := List.any_eq_true.mp q
    rw [Bool.and_eq_true] at q
    exact ⟨m, q⟩
  · rintro ⟨m, q1, q2⟩
    have g1 := Sp.le W a (by omega) i m q1
    have g2 := Sp.le W b (by omega) m j q2
    unfold Sp at q1 q2 ⊢
    rw [judge_eq W h]
    simp only [judgeBy]
    refine has_spans.mpr ⟨by omega, g2.2, List.any_eq_true.mpr ⟨m, List.mem_range.mpr (by omega), ?_⟩⟩
    rw [Bool.and_eq_true]
    exact ⟨q1, q2⟩
theorem sp_alt (W : Wf l) {k a b : Nat} (h : l[k]? = some (.alt a b)) {i j : Nat} : Sp l r k i j ↔ Sp l r a i j ∨ Sp l r b i j := by
  have hb := W k _ h
  have hk := (List.getElem?_eq_some_iff.mp h).1
  simp only [Below] at hb
  constructor
  · intro q
    unfold Sp at q ⊢
    rw [judge_eq W h] at q
    simp only [judgeBy] at q
    obtain ⟨_, _, q⟩ := has_spans.mp q
    exact (Bool.or_eq_true _ _).mp q
  · intro q
    have g : i ≤ j ∧ j ≤ r.length := by
      rcases q with q | q
      · exact Sp.le W a (by omega) i j q
      · exact Sp.le W b (by omega) i j q
    unfold Sp at q ⊢
    rw [judge_eq W h]
    simp only [judgeBy]
    exact has_spans.mpr ⟨g.1, g.2, (Bool.or_eq_true _ _).mpr q⟩
theorem sp_call (W : Wf l) {k a f : Nat} (h : l[k]? = some (.call a f)) {i j : Nat} : Sp l r k i j ↔ Sp l r a i j := by
  unfold Sp
  rw [judge_eq W h]
  exact Iff.rfl
def LoopsOk (l : List Piece) : Prop := ∀ (k a lo hi : Nat), l[k]? = some (.loop a lo hi) → lo ≤ hi
/-- a loop, by what its body does to empty stretches -/
theorem sp_loop0 (W : Wf l) (O : LoopsOk l) {k a lo hi : Nat} (h : l[k]? = some (.loop a lo hi)) (he : ∀ p q, p ≤ r.length → q ≤ r.length → Sp l r a p p → Sp l r a q q) {i j : Nat} :
    Sp l r k i j ↔ i ≤ j ∧ j ≤ r.length ∧ ∃ c, lo ≤ c ∧ c ≤ hi ∧ Chain (Sp l r a) c i j := by
  have hb := W k _ h
  have hk := (List.getElem?_eq_some_iff.mp h).1
  simp only [Below] at hb
  constructor
  · intro q
    unfold Sp at q
    rw [judge_eq W h] at q
    simp only [judgeBy] at q
    obtain ⟨h1, h2, q⟩ := has_spans.mp q
    exact ⟨h1, h2, (looped_iff (fun p q z => Sp.le W a (by omega) p q z) he (O k a lo hi h) h1 h2).mp q⟩
  · rintro ⟨h1, h2, q⟩
    unfold Sp
    rw [judge_eq W h]
    simp only [judgeBy]
    exact has_spans.mpr ⟨h1, h2, (looped_iff (fun p q z => Sp.le W a (by omega) p q z) he (O k a lo hi h) h1 h2).mpr q⟩
theorem chain_stay {R : Nat → Nat → Prop} (h : ∀ i j, R i j → i ≤ j) : ∀ {c i : Nat}, Chain R c i i → c = 0 ∨ R i i
  | 0, i, _ => .inl rfl
  | c + 1, i, ⟨m, h1, h2⟩ => by
    have e1 := h _ _ h1
    have e2 := h2.le h
    have : m = i := by omega
    subst this
    exact .inr h1
/-- whether a stretch that is empty is a run does not hang on where it lies -/
theorem Sp.empty (W : Wf l) (O : LoopsOk l) : ∀ k, k < l.length → ∀ p q, p ≤ r.length → q ≤ r.length → Sp l r k p p → Sp l r k q q := by
  refine piece_ind W fun k x e ih p q hp hq h => ?_
  have hb := W k x e
  have hk := (List.getElem?_eq_some_iff.mp e).1
  cases x <;> simp only [Below] at hb
  · have := ((sp_block W e).mp h).1
    omega
  · rename_i a b
    obtain ⟨m, h1, h2⟩ := (sp_seq W e).mp h
    have g1 := Sp.le W a (by omega) p m h1
    have g2 := Sp.le W b (by omega) m p h2
    have : m = p := by omega
    subst this
    exact (sp_seq W e).mpr ⟨q, ih a hb.1 m q hp hq h1, ih b hb.2 m q hp hq h2⟩
  · rename_i a b
    rcases (sp_alt W e).mp h with h | h
    · exact (sp_alt W e).mpr (.inl (ih a hb.1 p q hp hq h))
    · exact (sp_alt W e).mpr (.inr (ih b hb.2 p q hp hq h))
  · rename_i a lo hi
    obtain ⟨_, _, c, c1, c2, hc⟩ := (sp_loop0 W O e (ih a hb)).mp h
    refine (sp_loop0 W O e (ih a hb)).mpr ⟨Nat.le_refl _, hq, ?_⟩
    rcases chain_stay (fun i j z => (Sp.le W a (by omega) i j z).1) hc with z | z
    · subst z
      exact ⟨0, c1, c2, rfl⟩
    · exact ⟨c, c1, c2, Chain.stay (ih a hb p q hp hq z) c⟩
  · rename_i a f
    exact (sp_call W e).mpr (ih a hb p q hp hq ((sp_call W e).mp h))
theorem sp_loop (W : Wf l) (O : LoopsOk l) {k a lo hi : Nat} (h : l[k]? = some (.loop a lo hi)) {i j : Nat} : Sp l r k i j ↔ i ≤ j ∧ j ≤ r.length ∧ ∃ c, lo ≤ c ∧ c ≤ hi ∧ Chain (Sp l r a) c i j := by
  have hb := W k _ h
  have hk := (List.getElem?_eq_some_iff.mp h).1
  simp only [Below] at hb
  exact sp_loop0 W O h (Sp.empty W O a (by omega))
theorem isRun_iff {a : Nat} : isRun l a r = true ↔ Sp l r a 0 r.length := Iff.rfl
end
end WcP

namespace WcP
open Wc
/-! ### rows judged by bits -/
/-- of program k: for every start the places where its runs from there may end, as bits -/
def EndsOf (l : List Piece) (r : List Nat) (k : Nat) (e : List Nat) : Prop := e.length = r.length + 1 ∧ ∀ i, i ≤ r.length → ∀ j, (e.getD i 0).testBit j = true ↔ Sp l r k i j
/-- all that is reached from places of M -/
def Thru (M : Nat) (E : List Nat) (R : Nat) : Prop := ∀ j, R.testBit j = true ↔ ∃ m, M.testBit m = true ∧ (E.getD m 0).testBit j = true
def ThruI (M : Nat) (E : List Nat) (M' R' : Nat) : Prop := (∀ m, M'.testBit m = true → m < E.length) ∧ ∀ j, (∃ m, M.testBit m = true ∧ (E.getD m 0).testBit j = true) ↔ (R'.testBit j = true ∨ ∃ m, M'.testBit m = true ∧ (E.getD m 0).testBit j = true)
theorem ThruI.start {M : Nat} {E : List Nat} (h : ∀ m, M.testBit m = true → m < E.length) : ThruI M E M 0 := ⟨h, fun j => by simp⟩
theorem ThruI.fin {M R : Nat} {E : List Nat} (h : ThruI M E 0 R) : Thru M E R := fun j => by
  rw [h.2 j]
  simp
theorem log2_bit {M : Nat} (h : M ≠ 0) : M.testBit M.log2 = true := by
  rw [Nat.testBit_eq_decide_div_mod_eq, decide_eq_true_eq]
  have h1 := Nat.log2_self_le h
  have h2 := Nat.lt_log2_self (n := M)
  have h3 : M / 2 ^ M.log2 = 1 := by
    rw [Nat.pow_succ] at h2
    exact Nat.div_eq_of_lt_le (by omega) (by omega)
  rw [h3]
theorem xor_bit {M p m : Nat} : (M ^^^ 2 ^ p).testBit m = (M.testBit m != decide (p = m)) := by
  rw [Nat.testBit_xor, Nat.testBit_two_pow]
/-- bits below w bits -/
theorem lt_of_bits {M w : Nat} (h : ∀ j, M.testBit j = true → j < w) : M < 2 ^ w := by
  refine Nat.lt_pow_two_of_testBit M fun i hi => ?_
  cases q : M.testBit i with
  | false => rfl
  | true => have := h i q; omega
theorem xor_lt {M : Nat} (h : M ≠ 0) : M ^^^ 2 ^ M.log2 < M := by
  refine Nat.lt_of_lt_of_le (lt_of_bits fun j hj => ?_) (Nat.log2_self_le h)
  refine Nat.lt_of_not_le fun z => ?_
  rw [xor_bit] at hj
  rcases Nat.lt_or_eq_of_le z with z | z
  · rw [decide_eq_false (by omega), Nat.testBit_lt_two_pow (Nat.lt_of_lt_of_le Nat.lt_log2_self (Nat.pow_le_pow_right (by decide) z))] at hj
    cases hj
  · rw [decide_eq_true z, ← z, log2_bit h] at hj
    cases hj
theorem ThruI.step {M M' R' : Nat} {E : List Nat} (h : ThruI M E M' R') (h0 : M' ≠ 0) : M'.log2 < E.length ∧ ThruI M E (M' ^^^ 2 ^ M'.log2) (R' ||| E.getD M'.log2 0) := by
  have hb := log2_bit h0
  refine ⟨h.1 _ hb, fun m hm => ?_, fun j => ?_⟩
  · rw [xor_bit] at hm
    by_cases e : M'.log2 = m
    · subst e; exact h.1 _ hb
    · rw [decide_eq_false e] at hm
      exact h.1 m (by simpa using hm)
  · rw [h.2 j, Nat.testBit_or, Bool.or_eq_true]
    constructor
    · rintro (q | ⟨m, q1, q2⟩)
      · exact .inl (.inl q)
      · by_cases e : M'.log2 = m
        · subst e; exact .inl (.inr q2)
        · refine .inr ⟨m, ?_, q2⟩
          rw [xor_bit, decide_eq_false e, q1]
          rfl
    · rintro ((q | q) | ⟨m, q1, q2⟩)
      · exact .inl q
      · exact .inr ⟨_, hb, q⟩
      · by_cases e : M'.log2 = m
        · subst e; exact .inr ⟨_, hb, q2⟩
        · rw [xor_bit, decide_eq_false e] at q1
          exact .inr ⟨m, by simpa using q1, q2⟩
/-- group k has the ends behind k stretches -/
def GrpAt (R : Nat → Nat → Prop) (w G s : Nat) : Prop := ∀ p, G.testBit p = true ↔ Chain R (p / w) s (p % w)
theorem GrpAt.make {R : Nat → Nat → Prop} {w s L T : Nat} {Gs : List Nat} (hw : 0 < w) (hs : s < w) (hL : ∀ m, L.testBit m = true ↔ R s m) (hT : Thru L Gs T) (hG : ∀ m, R s m → GrpAt R w (Gs.getD m 0) m) :
    GrpAt R w (2 ^ s ||| T * 2 ^ w) s := fun p => by
  rw [Nat.testBit_or, Nat.testBit_two_pow, Nat.testBit_mul_two_pow]
  by_cases hp : p < w
  · rw [Nat.div_eq_of_lt hp, Nat.mod_eq_of_lt hp]
    have e : decide (w ≤ p) = false := decide_eq_false (by omega)
    rw [e]
    simp [Chain]
  · have e1 : decide (s = p) = false := decide_eq_false (by omega)
    have e2 : decide (w ≤ p) = true := decide_eq_true (by omega)
    have e3 : p / w = (p - w) / w + 1 := by
      have : p = (p - w) + w := by omega
      conv => lhs; rw [this]
      rw [Nat.add_div_right _ hw]
    have e4 : p % w = (p - w) % w := by
      have : p = (p - w) + w := by omega
      conv => lhs; rw [this]
      rw [Nat.add_mod_right]
    rw [e1, e2, e3, e4]
    simp only [Bool.false_or, Bool.true_and]
    rw [hT (p - w)]
    constructor
    · rintro ⟨m, q1, q2⟩
      have q3 := (hL m).mp q1
      exact ⟨m, q3, (hG m q3 _).mp q2⟩
    · rintro ⟨m, q1, q2⟩
      exact ⟨m, (hL m).mpr q1, (hG m q1 _).mpr q2⟩
/-- the groups laid over one another -/
def InGr (w G R : Nat) : Prop := ∀ j, R.testBit j = true ↔ j < w ∧ ∃ k, G.testBit (k * w + j) = true
def InGrI (w G G' R' : Nat) : Prop := ∀ j, (j < w ∧ ∃ k, G.testBit (k * w + j) = true) ↔ (R'.testBit j = true ∨ (j < w ∧ ∃ k, G'.testBit (k * w + j) = true))
theorem InGrI.start {w G : Nat} : InGrI w G G 0 := fun j => by simp
theorem InGrI.fin {w G R : Nat} (h : InGrI w G 0 R) : InGr w G R := fun j => by
  rw [h j]
  simp
theorem InGrI.step {w G G' R' : Nat} (h : InGrI w G G' R') : InGrI w G (G' / 2 ^ w) (R' ||| G' % 2 ^ w) := fun j => by
  rw [h j, Nat.testBit_or, Bool.or_eq_true, Nat.testBit_mod_two_pow, Bool.and_eq_true, decide_eq_true_eq]
  constructor
  · rintro (q | ⟨q1, k, q2⟩)
    · exact .inl (.inl q)
    · cases k with
      | zero => exact .inl (.inr ⟨q1, by simpa using q2⟩)
      | succ k =>
        refine .inr ⟨q1, k, ?_⟩
        rw [Nat.testBit_div_two_pow]
        rw [Nat.succ_mul] at q2
        have e : k * w + j + w = k * w + w + j := by omega
        rw [e]; exact q2
  · rintro ((q | q) | ⟨q1, k, q2⟩)
    · exact .inl q
    · exact .inr ⟨q.1, 0, by simpa using q.2⟩
    · refine .inr ⟨q1, k + 1, ?_⟩
      rw [Nat.testBit_div_two_pow] at q2
      rw [Nat.succ_mul]
      have e : k * w + j + w = k * w + w + j := by omega
      rw [e] at q2; exact q2
/-- the groups from least on, as many as there are to most -/
theorem InGr.cut {R : Nat → Nat → Prop} {w G s a b X : Nat} (hw : 0 < w) (hab : a ≤ b) (hG : GrpAt R w G s) (h : InGr w (G / 2 ^ (a * w) % 2 ^ ((b - a + 1) * w)) X) (j : Nat) : X.testBit j = true ↔ j < w ∧ ∃ c, a ≤ c ∧ c ≤ b ∧ Chain R c s j := by
  rw [h j]
  constructor
  · rintro ⟨q1, k, q2⟩
    rw [Nat.testBit_mod_two_pow, Bool.and_eq_true, decide_eq_true_eq, Nat.testBit_div_two_pow] at q2
    obtain ⟨q2, q3⟩ := q2
    have hk : k < b - a + 1 := by
      refine Nat.lt_of_not_le fun z => ?_
      have := Nat.mul_le_mul_right w z
      omega
    have e : k * w + j + a * w = (k + a) * w + j := by rw [Nat.add_mul]; omega
    rw [e] at q3
    have q4 := (hG _).mp q3
    have e1 : ((k + a) * w + j) / w = k + a := by rw [Nat.mul_comm, Nat.mul_add_div hw, Nat.div_eq_of_lt q1]; omega
    have e2 : ((k + a) * w + j) % w = j := by rw [Nat.mul_comm, Nat.mul_add_mod, Nat.mod_eq_of_lt q1]
    rw [e1, e2] at q4
    exact ⟨q1, k + a, by omega, by omega, q4⟩
  · rintro ⟨q1, c, c1, c2, q⟩
    refine ⟨q1, c - a, ?_⟩
    rw [Nat.testBit_mod_two_pow, Bool.and_eq_true, decide_eq_true_eq, Nat.testBit_div_two_pow]
    constructor
    · have := Nat.mul_le_mul_right w (show c - a + 1 ≤ b - a + 1 by omega)
      rw [Nat.succ_mul (c - a)] at this
      omega
    · have e : (c - a) * w + j + a * w = c * w + j := by
        have : c * w = (c - a) * w + a * w := by rw [← Nat.add_mul]; congr 1; omega
        omega
      rw [e, hG]
      have e1 : (c * w + j) / w = c := by rw [Nat.mul_comm, Nat.mul_add_div hw, Nat.div_eq_of_lt q1]; omega
      have e2 : (c * w + j) % w = j := by rw [Nat.mul_comm, Nat.mul_add_mod, Nat.mod_eq_of_lt q1]
      rw [e1, e2]
      exact q
section
variable {l : List Piece} {r : List Nat}
theorem EndsOf.bound {k : Nat} {e : List Nat} (W : Wf l) (hk : k < l.length) (h : EndsOf l r k e) {i j : Nat} (hi : i ≤ r.length) (q : (e.getD i 0).testBit j = true) : i ≤ j ∧ j ≤ r.length := Sp.le W k hk i j ((h.2 i hi j).mp q)
theorem EndsOf.block {k : Nat} (W : Wf l) (h : l[k]? = some .block) {e : List Nat} (hl : e.length = r.length + 1) (h1 : ∀ i, i < r.length → e.getD i 0 = if r[i]? = some k then 2 ^ (i + 1) else 0) (h2 : e.getD r.length 0 = 0) : EndsOf l r k e := by
  refine ⟨hl, fun i hi j => ?_⟩
  rw [sp_block W h]
  by_cases hlt : i < r.length
  · rw [h1 i hlt]
    by_cases hr : r[i]? = some k
    · rw [if_pos hr, Nat.testBit_two_pow, decide_eq_true_eq]
      exact ⟨fun q => ⟨q.symm, hlt, hr⟩, fun q => q.1.symm⟩
    · rw [if_neg hr]
      simp [hr]
  · have : i = r.length := by omega
    subst this
    rw [h2]
    simp
theorem EndsOf.seq {k a b : Nat} (W : Wf l) (h : l[k]? = some (.seq a b)) {ea eb e : List Nat} (ha : EndsOf l r a ea) (hb : EndsOf l r b eb) (hl : e.length = r.length + 1) (he : ∀ i, i ≤ r.length → Thru (ea.getD i 0) eb (e.getD i 0)) : EndsOf l r k e := by
  have hw := W k _ h
  have hk := (List.getElem?_eq_some_iff.mp h).1
  simp only [Below] at hw
  refine ⟨hl, fun i hi j => ?_⟩
  rw [sp_seq W h, he i hi j]
  constructor
  · rintro ⟨m, q1, q2⟩
    have q3 := (ha.2 i hi m).mp q1
    have q4 := Sp.le W a (by omega) i m q3
    exact ⟨m, q3, (hb.2 m q4.2 j).mp q2⟩
  · rintro ⟨m, q1, q2⟩
    have q4 := Sp.le W a (by omega) i m q1
    exact ⟨m, (ha.2 i hi m).mpr q1, (hb.2 m q4.2 j).mpr q2⟩
theorem EndsOf.alt {k a b : Nat} (W : Wf l) (h : l[k]? = some (.alt a b)) {ea eb e : List Nat} (ha : EndsOf l r a ea) (hb : EndsOf l r b eb) (hl : e.length = r.length + 1) (he : ∀ i, i ≤ r.length → e.getD i 0 = ea.getD i 0 ||| eb.getD i 0) : EndsOf l r k e := by
  refine ⟨hl, fun i hi j => ?_⟩
  rw [sp_alt W h, he i hi, Nat.testBit_or, Bool.or_eq_true, ha.2 i hi, hb.2 i hi]
theorem EndsOf.call {k a f : Nat} (W : Wf l) (h : l[k]? = some (.call a f)) {e : List Nat} (ha : EndsOf l r a e) : EndsOf l r k e := ⟨ha.1, fun i hi j => by rw [sp_call W h]; exact ha.2 i hi j⟩
/-- a loop's stretches by stretches that aren't empty -/
theorem sp_loop_strict (W : Wf l) (O : LoopsOk l) {k a lo hi : Nat} (h : l[k]? = some (.loop a lo hi)) {i j least : Nat} (hi' : i ≤ r.length) (h1 : Sp l r a 0 0 → least = 0) (h2 : ¬ Sp l r a 0 0 → least = lo) :
    Sp l r k i j ↔ j < r.length + 1 ∧ ∃ c, least ≤ c ∧ c ≤ min hi r.length ∧ Chain (fun p q => Sp l r a p q ∧ p < q) c i j := by
  have hw := W k _ h
  have hk := (List.getElem?_eq_some_iff.mp h).1
  simp only [Below] at hw
  rw [sp_loop W O h]
  have hlo := O k a lo hi h
  constructor
  · rintro ⟨q1, q2, c, c1, c2, q⟩
    obtain ⟨d, g1, g2, g3⟩ := q.strip fun p q z => (Sp.le W a (by omega) p q z).1
    have hd : i + d ≤ j := g2.lt fun _ _ z => z.2
    refine ⟨by omega, d, ?_, by omega, g2⟩
    by_cases z : Sp l r a 0 0
    · have := h1 z; omega
    · have := h2 z
      rcases g3 with g3 | ⟨m, m1, m2, m3⟩
      · omega
      · exact absurd (Sp.empty W O a (by omega) m 0 (by omega) (by omega) m3) z
  · rintro ⟨q1, c, c1, c2, q⟩
    have q0 : Chain (Sp l r a) c i j := q.imp fun _ _ z => z.1
    have hij := q0.le fun p q z => (Sp.le W a (by omega) p q z).1
    refine ⟨hij, by omega, ?_⟩
    by_cases z : Sp l r a 0 0
    · rcases Nat.lt_or_ge c lo with y | y
      · exact ⟨(lo - c) + c, by omega, by omega, (Chain.stay (Sp.empty W O a (by omega) 0 i (by omega) hi' z) _).add q0⟩
      · exact ⟨c, y, by omega, q0⟩
    · have := h2 z
      exact ⟨c, by omega, by omega, q0⟩
theorem EndsOf.loop {k a lo hi least : Nat} (W : Wf l) (O : LoopsOk l) (h : l[k]? = some (.loop a lo hi)) (h1 : Sp l r a 0 0 → least = 0) (h2 : ¬ Sp l r a 0 0 → least = lo) {G e : List Nat} (hm : least ≤ min hi r.length)
    (hG : ∀ i, i ≤ r.length → GrpAt (fun p q => Sp l r a p q ∧ p < q) (r.length + 1) (G.getD i 0) i) (hl : e.length = r.length + 1)
    (he : ∀ i, i ≤ r.length → InGr (r.length + 1) (G.getD i 0 / 2 ^ (least * (r.length + 1)) % 2 ^ ((min hi r.length - least + 1) * (r.length + 1))) (e.getD i 0)) : EndsOf l r k e := by
  refine ⟨hl, fun i hi' j => ?_⟩
  rw [sp_loop_strict W O h hi' h1 h2, (he i hi').cut (by omega) hm (hG i hi') j]
theorem EndsOf.none {k a lo hi least : Nat} (W : Wf l) (O : LoopsOk l) (h : l[k]? = some (.loop a lo hi)) (h1 : Sp l r a 0 0 → least = 0) (h2 : ¬ Sp l r a 0 0 → least = lo) {e : List Nat} (hm : ¬ least ≤ min hi r.length) (hl : e.length = r.length + 1) (he : ∀ i, i ≤ r.length → e.getD i 0 = 0) :
    EndsOf l r k e := by
  refine ⟨hl, fun i hi' j => ?_⟩
  rw [sp_loop_strict W O h hi' h1 h2, he i hi']
  constructor
  · intro q; simp at q
  · rintro ⟨_, c, c1, c2, _⟩
    omega
theorem EndsOf.zero {k : Nat} {e : List Nat} (h : EndsOf l r k e) : (e.getD 0 0 % 2 = 1) ↔ Sp l r k 0 0 := by
  rw [← h.2 0 (Nat.zero_le _) 0, Nat.testBit_zero, decide_eq_true_eq]
theorem EndsOf.run {k : Nat} {e : List Nat} (h : EndsOf l r k e) : (e.getD 0 0 / 2 ^ r.length % 2 = 1) ↔ isRun l k r = true := by
  rw [isRun_iff, ← h.2 0 (Nat.zero_le _) r.length, Nat.testBit_eq_decide_div_mod_eq, decide_eq_true_eq]
end
theorem Good.loops {s : State} (G : Good s) : LoopsOk s.pieces := fun k a lo hi h => (G.hi k a lo hi h).1
end WcP

set_option maxHeartbeats 2000000
namespace L2
open PySem PySem.Spec PyProof.Rows
section
variable {X : Cx}
/-- a name of the top that holds a plain value -/
def GC (mg : Str → Option Value) (x : Str) (v : V) : Prop := ∃ u, mg x = some u ∧ RelV v u
theorem pe_gl {x : Str} {v : V} {pos : Pos} (h : GC X.mg x v) (hg : Gl X x := by rfl) (hd : (x == ("__debug__" : Str)) = false := by decide) : PE X (.Name x pos) (tC v) := by
  obtain ⟨u, hm, r⟩ := h
  exact pe_glob hg hm r hd
theorem boot_isinstance5 : bootBuiltins "isinstance" = some (.builtin "isinstance") := by decide +kernel
/-- isinstance(x, C), C a class of the text -/
theorem call_isinst : CallR X (.builtin "isinstance") (fun xs H Q => ∃ x c t b, xs = [x, .ref c] ∧ TyOf X.K H x t ∧ PySem.W.kitOne X.K t (.ref c) = some b ∧ Q (.bl b) H) := by
  intro pins s σ H xs us Q I r h
  obtain ⟨x, c, t, b, rfl, ty, k, q⟩ := h
  obtain ⟨u, w', rfl, r1, r2⟩ := vals2 r
  cases (show w' = Value.ref c from r2)
  exact isinst_ok I r1 ty k fun tk => ⟨.bl b, H, I.tok tk, rfl, q⟩
/-- what isinstance asks of an own class -/
structure TyC (K : PySem.W.Frag) (C : Addr) : Prop where
  ha : PySem.W.findIn K (.ref C) "__class__" = some (some (.builtin "object.__class__"))
  hn : PySem.W.specialIn K (.builtin "object.__class__") "__get__" = some (some (.builtin "getset_descriptor.__get__"))
  htk : PySem.W.takesIn K (.builtin "object.__class__") = some true
  hm : PySem.W.mroIn K C (.type "object") = some true
theorem TyC.of {K : PySem.W.Frag} {H : Hp} {C a dx : Addr} {fs : List (Str × V)} (t : TyC K C) (c : Cls K C) (e : H a = some (.ins C dx fs)) : TyOf K H (.ref a) (.ref C) := .ins e c t.ha t.hn t.htk t.hm
/-- a def of the top, as it stands behind it -/
structure Def (K : PySem.W.Frag) (mg : Str → Option Value) (x : Str) (st : Stmt) (ps : List Str) (f : Addr) (fd : FuncData) : Prop where
  fn : Fun K x x st f fd
  b : Binds K fd ps []
  mg : mg x = some (.ref f)
/-- a class of the top with the __init__ that it has -/
structure Cld (K : PySem.W.Frag) (mg : Str → Option Value) (x qual : Str) (st : Stmt) (ps : List Str) (C f : Addr) (fd : FuncData) : Prop where
  fn : Fun K "__init__" qual st f fd
  b : Binds K fd ps []
  make : Mk K C f
  mg : mg x = some (.ref C)
  cl : Cls K C
  ty : TyC K C
variable {x qual : Str} {st : Stmt} {ps : List Str} {f C : Addr} {fd : FuncData} {sp : Sp} {j k : Nat} {e : Expr} {es : List Expr} {t : TA} {p pos : Pos}
theorem pe_fn (D : Def X.K X.mg x st ps f fd) (F : FnOk X.prog X.w X.K X.mg X.base CX0 k f fd ps sp) (hr : Room j X.A) (ha : PA X (e :: es) t) (hj : k ≤ j := by decide) (hg : Gl X x := by rfl)
    (hdb : (x == ("__debug__" : Str)) = false := by decide) (he : starEach (e :: es) X.env = (false, eval e X.env) :: starEach es X.env := by rfl) (hpl : (backTo pos (starEach es X.env)).any (·.1) = false := by rfl) :
    PE X (.Call (.Name x p) (e :: es) [] pos) (tCall sp [] E0 t) := pe_call F (hr.mono hj) hg D.mg D.fn.kp D.b .nil pass0 ha hdb he hpl
theorem pe_mk (D : Cld X.K X.mg x qual st ps C f fd) (F : FnOk X.prog X.w X.K X.mg X.base CX0 k f fd ps sp) (hr : Room j X.A) (ha : PA X (e :: es) t) (hj : k + 1 ≤ j := by decide) (hg : Gl X x := by rfl)
    (hdb : (x == ("__debug__" : Str)) = false := by decide) (he : starEach (e :: es) X.env = (false, eval e X.env) :: starEach es X.env := by rfl) (hpl : (backTo pos (starEach es X.env)).any (·.1) = false := by rfl) :
    PE X (.Call (.Name x p) (e :: es) [] pos) (tMake C sp [] E0 t) := pe_make D.make F (hr.mono hj) hg D.mg D.b .nil pass0 ha hdb he hpl
/-- // by a positive divisor below 2^64 -/
def CDiv64 (i j : Int) : Prop := 0 < j ∧ j < 18446744073709551616
theorem op_fdiv64 : OpR X (binaryOp .FloorDiv) (rI CDiv64 fun i j => .int (i / j)) := opI fun i j _ _ _ _ _ hc q => by
  have h1 : (0 : Int) < j := hc.1
  have h2 : j < 18446744073709551616 := hc.2
  refine floordiv_int (by omega) (by rw [Int.fdiv_eq_ediv_of_nonneg i (by omega)]; exact q) (.inl (PyProof.noPylong_of_log2 ?_))
  have h0 : j.natAbs ≠ 0 := by omega
  have h3 : j.natAbs.log2 < 64 := (Nat.log2_lt h0).mpr (by omega)
  omega
/-- o[i] of a list, by values -/
theorem get_list : PGet X (fun x y H Q => ∃ (p : Addr) (xs : List V) (n : Nat) (v : V), x = .ref p ∧ y = .int (n : Nat) ∧ SqL X.K H p xs ∧ xs[n]? = some v ∧ Q v H) := by
  intro pins s σ H o i ov iv Q I ro ri h
  obtain ⟨p, xs, n, z, rfl, rfl, hq, he, q⟩ := h
  cases ro
  obtain ⟨t, rfl⟩ := ri
  obtain ⟨its, r, pl, hz⟩ := I.list hq
  obtain ⟨w', ew, rw'⟩ := r.get he
  have hlt := (List.getElem?_eq_some_iff.mp he).1
  have hn := line63
  exact wpAny_getItem_list pl.isList (by omega) (by omega) (by simpa using ew) ⟨z, H, I, rw', q⟩
/-- << of a number of so many bits -/
def CShl (i j : Int) : Prop := 0 ≤ j ∧ j ≤ 1000000 ∧ ∃ m : Nat, m ≤ 1000000 ∧ i.natAbs < 2 ^ m
theorem op_shlB : OpR X (binaryOp .LShift) (rI CShl fun i j => .int (i * 2 ^ j.toNat)) := opI fun i j _ _ _ _ _ hc q => by
  obtain ⟨h1, h2, m, hm, h3⟩ := hc
  have h4 := PySem.intBits_le_iff.mpr h3
  exact lshift_int h1 (by omega) q
theorem mt_bitlen : MtR X "int.bit_length" (fun x xs H Q => ∃ i, x = .int i ∧ xs = [] ∧ Q (.int (Builtin.Int.intBits i : Nat)) H) := by
  intro pins s σ H x xs v us Q I rx rs h
  obtain ⟨i, rfl, rfl, q⟩ := h
  obtain ⟨t, rfl⟩ := rx
  cases rs
  exact call_int_bit_length ⟨.int _, H, I.tok _, ⟨_, rfl⟩, q⟩
/-- a if t else b, the rest read once -/
def tIfJ (t : TT) (ta tb : TE) : TE := fun σ H Q => t σ H fun c H1 => ∃ v, (if c = true then ta σ H1 (fun x H2 => x = v ∧ H2 = H1) else tb σ H1 (fun x H2 => x = v ∧ H2 = H1)) ∧ Q v H1
theorem pe_ifJ {c a b : Expr} {tA : TT} {ta tb : TE} {pos : Pos} (hc : PT X c tA) (ha : PE X a ta) (hb : PE X b tb) : PE X (.IfExp c a b pos) (tIfJ tA ta tb) := by
  intro pins s σ H Q I h
  refine wpAny_IfExp (thn (hc pins s σ H _ I h) fun d s1 ⟨H1, I1, v, hv, q1⟩ => ?_)
  cases d with
  | true =>
    rw [if_pos rfl] at hv
    refine thn (ha pins s1 σ H1 _ I1 hv) fun u s2 ⟨x, H2, I2, r2, e1, e2⟩ => ?_
    subst e1
    subst e2
    exact ⟨x, H2, I2, r2, q1⟩
  | false =>
    rw [if_neg Bool.false_ne_true] at hv
    refine thn (hb pins s1 σ H1 _ I1 hv) fun u s2 ⟨x, H2, I2, r2, e1, e2⟩ => ?_
    subst e1
    subst e2
    exact ⟨x, H2, I2, r2, q1⟩
/-! the same where the context is a comprehension's block: K is told -/
def rInst (K : PySem.W.Frag) : List V → Hp → VK → Prop := fun xs H Q => ∃ x c t b, xs = [x, .ref c] ∧ TyOf K H x t ∧ PySem.W.kitOne K t (.ref c) = some b ∧ Q (.bl b) H
theorem call_isinstK {K : PySem.W.Frag} (h : X.K = K := by rfl) : CallR X (.builtin "isinstance") (rInst K) := by
  subst h
  exact call_isinst
theorem ix_listK {K : PySem.W.Frag} (h : X.K = K := by rfl) : IxR X (rIxL K) := by
  subst h
  exact ix_list
theorem pe_fldK {K : PySem.W.Frag} {e : Expr} {f : Str} {pos : Pos} {ta : TE} (he : PE X e ta) (hb : attributeBase e f X.env (eval e X.env) = eval e X.env := by rfl) (h : X.K = K := by rfl) : PE X (.Attribute e f pos) (tFld K ta f) := by
  subst h
  exact pe_fld he hb
end
end L2

set_option maxHeartbeats 2000000
namespace Wp
open PySem PySem.Spec PyProof.Rows L2
open PySem.W (Codec)
open WcP (Good Fit Wf)
def top (i : Nat) : Stmt := PySem.Challenge.pw_longestrundesk_s01_answers.main.body.getD i (.Pass ⟨0, 0, 0, 0⟩)
abbrev sBlockInit : Stmt := inClass (top 1) 0
abbrev sPairInit : Stmt := inClass (top 2) 0
abbrev sLoopInit : Stmt := inClass (top 5) 0
abbrev sCallInit : Stmt := inClass (top 6) 0
abbrev s_is_program : Stmt := top 59
abbrev s_is_block : Stmt := top 60
abbrev s_add_program : Stmt := top 61
abbrev s_forget_all : Stmt := top 62
abbrev s_make_block : Stmt := top 63
abbrev s_make_seq : Stmt := top 64
structure Adr where
  cB : Addr
  cS : Addr
  cA : Addr
  cL : Addr
  cC : Addr
  cP : Addr
  cN : Addr
def bF (c n : Nat) : List (Str × V) := [("cost", .int c), ("longest", .int n)]
def pF (a b n : Nat) : List (Str × V) := [("first", .int a), ("second", .int b), ("longest", .int n)]
def lF (a lo hi n : Nat) : List (Str × V) := [("body", .int a), ("lo", .int lo), ("hi", .int hi), ("longest", .int n)]
def cF (a f n : Nat) : List (Str × V) := [("body", .int a), ("frame", .int f), ("longest", .int n)]
def PcAt (A : Adr) (H : Hp) (p : Addr) (c n : Nat) : Wc.Piece → Prop
  | .block => ∃ dx, H p = some (.ins A.cB dx (bF c n))
  | .seq a b => ∃ dx, H p = some (.ins A.cS dx (pF a b n))
  | .alt a b => ∃ dx, H p = some (.ins A.cA dx (pF a b n))
  | .loop a lo hi => ∃ dx, H p = some (.ins A.cL dx (lF a lo hi n))
  | .call a f => ∃ dx, H p = some (.ins A.cC dx (cF a f n))
structure ProgAt (A : Adr) (H : Hp) (l : Addr) (s : Wc.State) (as : List Addr) : Prop where
  lst : H l = some (.lst (as.map V.ref))
  len : as.length = s.pieces.length
  nd : as.Nodup
  good : Good s
  at_ : ∀ (k : Nat) (p : Addr) (x : Wc.Piece), as[k]? = some p → s.pieces[k]? = some x → PcAt A H p (Wc.costOf s k) (Wc.longest s.pieces k) x
/-- what isinstance says of an object of the class at t -/
structure Kit (K : PySem.W.Frag) (A : Adr) (t : Addr) (b s a l c p : Bool) : Prop where
  qB : PySem.W.kitOne K (.ref t) (.ref A.cB) = some b
  qS : PySem.W.kitOne K (.ref t) (.ref A.cS) = some s
  qA : PySem.W.kitOne K (.ref t) (.ref A.cA) = some a
  qL : PySem.W.kitOne K (.ref t) (.ref A.cL) = some l
  qC : PySem.W.kitOne K (.ref t) (.ref A.cC) = some c
  qP : PySem.W.kitOne K (.ref t) (.ref A.cP) = some p
structure Txt (K : PySem.W.Frag) (mg : Str → Option Value) (A : Adr) : Prop where
  no_len : mg "len" = none
  no_isinstance : mg "isinstance" = none
  no_max : mg "max" = none
  no_min : mg "min" = none
  no_range : mg "range" = none
  MOST_PROGRAMS : GC mg "MOST_PROGRAMS" (.int 64)
  MOST_COST : GC mg "MOST_COST" (.int 65535)
  MOST_FRAME : GC mg "MOST_FRAME" (.int 65535)
  MOST_TIMES : GC mg "MOST_TIMES" (.int 65535)
  MOST_BLOCKS : GC mg "MOST_BLOCKS" (.int 1099511627776)
  MOST_ROW : GC mg "MOST_ROW" (.int 24)
  NO_ROOM : GC mg "NO_ROOM" (.int (-2))
  WRONG : GC mg "WRONG" (.int (-1))
  DONE : GC mg "DONE" (.int 0)
  NOT_THERE : GC mg "NOT_THERE" (.int (-3))
  INIT : GC mg "INIT" (.int 0)
  BLOCK : GC mg "BLOCK" (.int 1)
  SEQ : GC mg "SEQ" (.int 2)
  ALT : GC mg "ALT" (.int 3)
  LOOP : GC mg "LOOP" (.int 4)
  CALL : GC mg "CALL" (.int 5)
  COST : GC mg "COST" (.int 6)
  TIME : GC mg "TIME" (.int 7)
  OFTEN : GC mg "OFTEN" (.int 8)
  STACK : GC mg "STACK" (.int 9)
  SLACK : GC mg "SLACK" (.int 10)
  NTH : GC mg "NTH" (.int 11)
  IS_RUN : GC mg "IS_RUN" (.int 12)
  ARGUMENT_COUNTS : GC mg "ARGUMENT_COUNTS" (.ref A.cN)
  cnt : ∀ H : Hp, SqT K H A.cN (([0, 1, 2, 2, 3, 2, 2, 2, 3, 1, 2, 2, 2] : List Nat).map fun n => V.int (n : Nat))
  Block : GC mg "Block" (.ref A.cB)
  Seq : GC mg "Seq" (.ref A.cS)
  Alt : GC mg "Alt" (.ref A.cA)
  Loop : GC mg "Loop" (.ref A.cL)
  Call : GC mg "Call" (.ref A.cC)
  Pair : GC mg "Pair" (.ref A.cP)
  clB : Cls K A.cB
  clS : Cls K A.cS
  clA : Cls K A.cA
  clL : Cls K A.cL
  clC : Cls K A.cC
  tyB : TyC K A.cB
  tyS : TyC K A.cS
  tyA : TyC K A.cA
  tyL : TyC K A.cL
  tyC : TyC K A.cC
  kB : Kit K A A.cB true false false false false false
  kS : Kit K A A.cS false true false false false true
  kA : Kit K A A.cA false false true false false true
  kL : Kit K A A.cL false false false true false false
  kC : Kit K A A.cC false false false false true false
  nB_cost : NoAttr K A.cB "cost"
  nB_longest : NoAttr K A.cB "longest"
  nS_longest : NoAttr K A.cS "longest"
  nA_longest : NoAttr K A.cA "longest"
  nL_longest : NoAttr K A.cL "longest"
  nC_longest : NoAttr K A.cC "longest"
  nS_first : NoAttr K A.cS "first"
  nS_second : NoAttr K A.cS "second"
  nA_first : NoAttr K A.cA "first"
  nA_second : NoAttr K A.cA "second"
  nL_body : NoAttr K A.cL "body"
  nL_lo : NoAttr K A.cL "lo"
  nL_hi : NoAttr K A.cL "hi"
  nC_body : NoAttr K A.cC "body"
  nC_frame : NoAttr K A.cC "frame"
section
variable {P : Program} {w : World} {K : PySem.W.Frag} {mg : Str → Option Value} {base : Heap} {A : Adr}
theorem ProgAt.item {H : Hp} {l : Addr} {s : Wc.State} {as : List Addr} (B : ProgAt A H l s as) {n : Nat} (h : n < s.pieces.length) : ∃ p x, as[n]? = some p ∧ s.pieces[n]? = some x ∧ PcAt A H p (Wc.costOf s n) (Wc.longest s.pieces n) x :=
  ⟨_, _, List.getElem?_eq_getElem (by rw [B.len]; exact h), List.getElem?_eq_getElem h, B.at_ n _ _ (List.getElem?_eq_getElem (by rw [B.len]; exact h)) (List.getElem?_eq_getElem h)⟩
theorem at_ref {as : List Addr} {n : Nat} {p : Addr} (h : as[n]? = some p) : atI (as.map V.ref) (n : Int) = some (.ref p) := atI_nat (by rw [List.getElem?_map, h]; rfl)
/-! is_program -/
def sp_is_program (A : Adr) : Sp := fun vs H Q _ => ∃ (l : Addr) (n : Nat) (s : Wc.State) (as : List Addr), vs = [.ref l, .int n] ∧ ProgAt A H l s as ∧ Q (.bl (decide (n < s.pieces.length))) H
theorem sc_is_program : FnScope ["programs", "number"] ["programs", "number"] (defScope s_is_program) := ⟨rfl, rfl, rfl, by decide +kernel, rfl, by decide +kernel, by decide +kernel⟩
theorem ok_is_program {f : Addr} {fd : FuncData} (D : Def K mg "is_program" s_is_program ["programs", "number"] f fd) (T : Txt K mg A) : FnOk P w K mg base CX0 1 f fd ["programs", "number"] (sp_is_program A) := by
  refine D.fn.ok sc_is_program (fun vs H Q E h => ?_) (fun cdv A' outer s' H vs Q E hr h => ?_)
  · obtain ⟨l, n, s, as, rfl, _⟩ := h
    rfl
  · obtain ⟨l, n, s, as, rfl, B, k⟩ := h
    refine ⟨_, pss_one (ps_ret (pe_cmpR op_lt (pv 1) (pe_callB call_len_seq (by rfl) T.no_len PySem.boot_len (pa_cons (pv 0) pa_nil)) (nomark _))), ?_⟩
    refine ⟨_, rfl, _, rfl, l, _, rfl, .inl (SqL.of B.lst), _, _, rfl, rfl, ?_⟩
    rw [List.length_map, B.len]
    dsimp only
    have e : decide ((n : Int) < (s.pieces.length : Int)) = decide (n < s.pieces.length) := decide_eq_decide.mpr (by omega)
    rw [e]
    exact k

/-! is_block -/
def isB : Wc.Piece → Bool
  | .block => true
  | _ => false
theorem kit_of (T : Txt K mg A) {H : Hp} {p : Addr} {c n : Nat} {x : Wc.Piece} (h : PcAt A H p c n x) : ∃ t, TyOf K H (.ref p) t ∧ PySem.W.kitOne K t (.ref A.cB) = some (isB x) := by
  cases x <;> obtain ⟨dx, e⟩ := h
  · exact ⟨_, T.tyB.of T.clB e, T.kB.qB⟩
  · exact ⟨_, T.tyS.of T.clS e, T.kS.qB⟩
  · exact ⟨_, T.tyA.of T.clA e, T.kA.qB⟩
  · exact ⟨_, T.tyL.of T.clL e, T.kL.qB⟩
  · exact ⟨_, T.tyC.of T.clC e, T.kC.qB⟩
theorem isBlock_at {s : Wc.State} {n : Nat} {x : Wc.Piece} (h : s.pieces[n]? = some x) : Wc.isBlock s n = (isB x) := by
  unfold Wc.isBlock
  rw [h]
  cases x <;> rfl
theorem isBlock_out {s : Wc.State} {n : Nat} (h : ¬ n < s.pieces.length) : Wc.isBlock s n = false := by
  unfold Wc.isBlock
  rw [List.getElem?_eq_none (by omega)]
def sp_is_block (A : Adr) : Sp := fun vs H Q _ => ∃ (l : Addr) (n : Nat) (s : Wc.State) (as : List Addr), vs = [.ref l, .int n] ∧ ProgAt A H l s as ∧ Q (.bl (Wc.isBlock s n)) H
theorem sc_is_block : FnScope ["programs", "number"] ["programs", "number"] (defScope s_is_block) := ⟨rfl, rfl, rfl, by decide +kernel, rfl, by decide +kernel, by decide +kernel⟩
theorem ok_is_block {f f1 : Addr} {fd fd1 : FuncData} (D : Def K mg "is_block" s_is_block ["programs", "number"] f fd) (T : Txt K mg A) (D_is_program : Def K mg "is_program" s_is_program ["programs", "number"] f1 fd1) :
    FnOk P w K mg base CX0 2 f fd ["programs", "number"] (sp_is_block A) := by
  have G_is_program : FnOk P w K mg base CX0 1 f1 fd1 ["programs", "number"] (sp_is_program A) := ok_is_program D_is_program T
  refine D.fn.ok sc_is_block (fun vs H Q E h => ?_) (fun cdv A' outer s' H vs Q E hr h => ?_)
  · obtain ⟨l, n, s, as, rfl, _⟩ := h
    rfl
  · obtain ⟨l, n, s, as, rfl, B, k⟩ := h
    refine ⟨_, (pss_one (ps_ret (pe_and (pe_fn D_is_program G_is_program hr (pa_cons (pv 0) (pa_cons (pv 1) pa_nil))) (pe_one (pe_callB call_isinst (by rfl) T.no_isinstance boot_isinstance5 (pa_cons (pe_ix ix_list (pv 0) (pv 1) (fun _ _ => rfl)) (pa_cons (pe_gl T.Block) pa_nil))))))), ?_⟩
    refine ⟨_, rfl, _, rfl, l, n, s, as, rfl, B, _, rfl, ite2 (fun h => ?_) (fun h => ?_)⟩
    · have hn : n < s.pieces.length := of_decide_eq_true h
      obtain ⟨p, x, h1, h2, h3⟩ := B.item hn
      obtain ⟨t, ty, kt⟩ := kit_of T h3
      rw [isBlock_at h2] at k
      exact ⟨_, rfl, _, rfl, l, _, _, _, rfl, rfl, SqL.of B.lst, at_ref h1, _, _, t, _, rfl, ty, kt, k⟩
    · have hn : ¬ n < s.pieces.length := fun q => h (decide_eq_true q)
      rw [isBlock_out hn] at k
      exact k
/-! add_program -/
theorem PcAt.long (T : Txt K mg A) {H : Hp} {p : Addr} {c n : Nat} {x : Wc.Piece} (h : PcAt A H p c n x) : ∃ C dx fs, H p = some (.ins C dx fs) ∧ Cls K C ∧ NoAttr K C "longest" ∧ fs.lookup ("longest" : Str) = some (.int n) := by
  cases x <;> obtain ⟨dx, e⟩ := h
  · exact ⟨_, _, _, e, T.clB, T.nB_longest, rfl⟩
  · exact ⟨_, _, _, e, T.clS, T.nS_longest, rfl⟩
  · exact ⟨_, _, _, e, T.clA, T.nA_longest, rfl⟩
  · exact ⟨_, _, _, e, T.clL, T.nL_longest, rfl⟩
  · exact ⟨_, _, _, e, T.clC, T.nC_longest, rfl⟩
theorem PcAt.keep {H H' : Hp} {p : Addr} {c n : Nat} {x : Wc.Piece} (h : PcAt A H p c n x) (k : ∀ o, H p = some o → H' p = some o) : PcAt A H' p c n x := by
  cases x <;> obtain ⟨dx, e⟩ := h <;> exact ⟨dx, k _ e⟩
theorem PcAt.nolist {H : Hp} {p l : Addr} {c n : Nat} {x : Wc.Piece} {xs : List V} (h : PcAt A H p c n x) (hl : H l = some (.lst xs)) : p ≠ l := by
  cases x <;> obtain ⟨dx, e⟩ := h <;> exact ne_of e hl (by intro q; cases q)
theorem PcAt.some {H : Hp} {p : Addr} {c n : Nat} {x : Wc.Piece} (h : PcAt A H p c n x) : ∃ o, H p = some o := by
  cases x <;> obtain ⟨dx, e⟩ := h <;> exact ⟨_, e⟩
def Keep (H H' : Hp) (l : Addr) (as : List Addr) : Prop := ∀ b o, H b = some o → b ≠ l → b ∉ as → H' b = some o
def sp_add_program (A : Adr) : Sp := fun vs H Q _ => ∃ (l p : Addr) (s : Wc.State) (as : List Addr) (x : Wc.Piece) (c : Nat), vs = [.ref l, .ref p] ∧ ProgAt A H l s as ∧ p ∉ as ∧ Fit s.pieces.length x ∧ c ≤ 65535 ∧
  PcAt A H p c (Wc.longest (s.pieces ++ [x]) s.pieces.length) x ∧ (∀ (H' : Hp) (as' : List Addr), ProgAt A H' l (Wc.added s x c).1 as' → (∀ b o, H b = some o → b ≠ l → H' b = some o) → Q (.int (Wc.added s x c).2.ret) H')
theorem ProgAt.push {H : Hp} {l p : Addr} {s : Wc.State} {as : List Addr} {x : Wc.Piece} {c : Nat} (B : ProgAt A H l s as) (hp : p ∉ as) (hx : Fit s.pieces.length x) (hc : c ≤ 65535) (h : PcAt A H p c (Wc.longest (s.pieces ++ [x]) s.pieces.length) x)
    (h1 : s.pieces.length < 64) (h2 : Wc.longest (s.pieces ++ [x]) s.pieces.length ≤ 1099511627776) : ProgAt A (upd H l (.lst ((as.map V.ref) ++ [.ref p]))) l ⟨s.pieces ++ [x], s.costs ++ [c]⟩ (as ++ [p]) where
  lst := by rw [upd_same, List.map_append]; rfl
  len := by simp [B.len]
  nd := nd_snoc B.nd hp
  good := B.good.more hx hc h1 h2
  at_ := fun k q y e1 e2 => by
    rcases WcP.getElem?_snoc e1 with e1 | ⟨rfl, rfl⟩
    · have hk : k < s.pieces.length := by rw [← B.len]; exact (List.getElem?_eq_some_iff.mp e1).1
      have e3 : s.pieces[k]? = some y := by
        have e4 : (s.pieces ++ [x])[k]? = some y := e2
        rw [List.getElem?_append_left hk] at e4
        exact e4
      have g := B.at_ k q y e1 e3
      have e5 : Wc.costOf ⟨s.pieces ++ [x], s.costs ++ [c]⟩ k = Wc.costOf s k := by
        unfold Wc.costOf
        rw [List.getD_eq_getElem?_getD, List.getD_eq_getElem?_getD, List.getElem?_append_left (by rw [B.good.len]; exact hk)]
      have e6 : Wc.longest (s.pieces ++ [x]) k = Wc.longest s.pieces k := WcP.longest_snoc_old hk
      rw [e5]
      show PcAt A _ q _ (Wc.longest (s.pieces ++ [x]) k) y
      rw [e6]
      exact g.keep fun o e => by rw [upd_ne (g.nolist B.lst)]; exact e
    · have e3 : x = y := by
        have e4 : (s.pieces ++ [x])[as.length]? = some y := e2
        rw [B.len, List.getElem?_append_right (Nat.le_refl _), Nat.sub_self] at e4
        exact Option.some.inj e4
      subst e3
      have e5 : Wc.costOf ⟨s.pieces ++ [x], s.costs ++ [c]⟩ as.length = c := by
        unfold Wc.costOf
        rw [List.getD_eq_getElem?_getD, List.getElem?_append_right (by rw [B.good.len, B.len]; exact Nat.le_refl _), B.good.len, B.len, Nat.sub_self]
        rfl
      rw [e5]
      show PcAt A _ q _ (Wc.longest (s.pieces ++ [x]) as.length) x
      rw [B.len]
      exact h.keep fun o e => by rw [upd_ne (h.nolist B.lst)]; exact e
theorem sc_add_program : FnScope ["programs", "program"] ["programs", "program"] (defScope s_add_program) := ⟨rfl, rfl, rfl, by decide +kernel, rfl, by decide +kernel, by decide +kernel⟩
theorem ok_add_program {f : Addr} {fd : FuncData} (D : Def K mg "add_program" s_add_program ["programs", "program"] f fd) (T : Txt K mg A) : FnOk P w K mg base CX0 1 f fd ["programs", "program"] (sp_add_program A) := by
  refine D.fn.ok sc_add_program (fun vs H Q E h => ?_) (fun cdv A' outer s' H vs Q E hr h => ?_)
  · obtain ⟨l, p, s, as, x, c, rfl, _⟩ := h
    rfl
  · obtain ⟨l, p, s, as, x, c, rfl, B, hp, hx, hc, h, k⟩ := h
    refine ⟨_, (pss_cons (ps_if (pw_or (pt_cmpR op_ge (pe_callB call_len_seq (by rfl) T.no_len PySem.boot_len (pa_cons (pv 0) pa_nil)) (pe_gl T.MOST_PROGRAMS) (nomark _)) (pw_or1 (pt_cmpR op_gt (pe_fld (pv 1) rfl) (pe_gl T.MOST_BLOCKS) (nomark _)))).pt (pss_one (ps_ret (pe_gl T.NO_ROOM))) pss_nil)
      (pss_cons (ps_expr (pe_bm PySem.F.plainAttrs_list PySem.F.slot_list_append PySem.F.type_list_append mt_append (pv 0) (pa_cons (pv 1) pa_nil)))
      (pss_one (ps_ret (pe_op op_sub (pe_callB call_len_seq (by rfl) T.no_len PySem.boot_len (pa_cons (pv 0) pa_nil)) pe_int))))), ?_⟩
    have no : ¬ (s.pieces.length < Wc.NODES ∧ Wc.longest (s.pieces ++ [x]) s.pieces.length ≤ Wc.LONGEST) → Q (.int (-2)) H := fun n => by
      have e : Wc.added s x c = (s, Wc.says (-2)) := by
        unfold Wc.added
        exact if_neg n
      rw [e] at k
      exact k H as B fun b o e _ => e
    refine ⟨_, rfl, l, _, rfl, .inl (SqL.of B.lst), _, _, rfl, rfl, _, rfl, ite2 (fun q => ?_) (fun q => ?_)⟩
    · refine iteT ?_
      have q' : (64 : Int) ≤ ((as.map V.ref).length : Nat) := of_decide_eq_true q
      rw [List.length_map, B.len] at q'
      exact no fun z => absurd z.1 (by show ¬ s.pieces.length < 64; omega)
    · have q' : ¬ (64 : Int) ≤ ((as.map V.ref).length : Nat) := fun z => q (decide_eq_true z)
      rw [List.length_map, B.len] at q'
      obtain ⟨C, dx, fs, e1, e2, e3, e4⟩ := h.long T
      refine ⟨_, rfl, p, C, dx, fs, _, rfl, e1, e2, e3, e4, _, _, rfl, rfl, _, rfl, ite2 (fun z => ?_) (fun z => ?_)⟩
      · have z' : (1099511627776 : Int) < (Wc.longest (s.pieces ++ [x]) s.pieces.length : Nat) := of_decide_eq_true z
        exact no fun y => absurd y.2 (by show ¬ Wc.longest (s.pieces ++ [x]) s.pieces.length ≤ 1099511627776; omega)
      · have z' : ¬ (1099511627776 : Int) < (Wc.longest (s.pieces ++ [x]) s.pieces.length : Nat) := fun y => z (decide_eq_true y)
        have hlen : (as.map V.ref).length < sizeLine := by
          rw [List.length_map, B.len]
          exact small1000 (by have := B.good.few; omega)
        refine ⟨_, rfl, .inl ⟨rfl, _, SqL.of B.lst⟩, _, rfl, l, _, _, rfl, rfl, B.lst, hlen, ?_⟩
        refine ⟨_, rfl, l, _, rfl, .inl (SqL.of upd_same), _, _, rfl, rfl, ?_⟩
        have e : Wc.added s x c = (⟨s.pieces ++ [x], s.costs ++ [c]⟩, Wc.says (s.pieces.length : Nat)) := by
          unfold Wc.added
          exact if_pos ⟨by show s.pieces.length < 64; omega, by show _ ≤ 1099511627776; omega⟩
        rw [e] at k
        have k2 := k (upd H l (.lst ((as.map V.ref) ++ [.ref p]))) (as ++ [p]) (B.push hp hx hc h (by omega) (by omega)) fun b o e hb => by rw [upd_ne hb]; exact e
        have e5 : (((as.map V.ref) ++ [V.ref p]).length : Int) - 1 = (s.pieces.length : Nat) := by
          rw [List.length_append, List.length_map, B.len]
          show ((s.pieces.length + 1 : Nat) : Int) - 1 = _
          omega
        dsimp only
        rw [e5]
        exact k2
end
end Wp

set_option maxHeartbeats 2000000
namespace Wp
open PySem PySem.Spec PyProof.Rows L2
open PySem.W (Codec)
open WcP (Good Fit Wf)
abbrev s_make_alt : Stmt := top 65
abbrev s_make_loop : Stmt := top 66
abbrev s_make_call : Stmt := top 67
abbrev s_change_cost : Stmt := top 68
section
variable {P : Program} {w : World} {K : PySem.W.Frag} {mg : Str → Option Value} {base : Heap} {A : Adr}
/-! a step's ways -/
theorem may_yes {s : Wc.State} {b : Bool} {x : Wc.State × Wc.Answer} (h : b = true) : Wc.may s b x = x := if_pos h
theorem may_no {s : Wc.State} {b : Bool} {x : Wc.State × Wc.Answer} (h : b = false) : Wc.may s b x = (s, Wc.says (-1)) := if_neg (by rw [h]; decide)
theorem there_yes {s : Wc.State} {a : Nat} (h : a < s.pieces.length) : Wc.there s a = true := decide_eq_true h
theorem there_no {s : Wc.State} {a : Nat} (h : ¬ a < s.pieces.length) : Wc.there s a = false := decide_eq_false h
/-! __init__ -/
/-- an object at p of class C has these attributes; the rest of the heap is as it was -/
def spNew (C : Addr) (n : Nat) (fs : List V → Option (List (Str × V))) : Sp := fun vs H Q _ => ∃ (p dx : Addr) (us : List V) (g : List (Str × V)), vs = .ref p :: us ∧ us.length = n ∧ fs us = some g ∧ H p = some (.ins C dx []) ∧ ∀ H' : Hp, H' p = some (.ins C dx g) → (∀ b, b ≠ p → H' b = H b) → Q .non H'
def blockFs : List V → Option (List (Str × V))
  | [c] => some [("cost", c), ("longest", .int 1)]
  | _ => none
def pairFs : List V → Option (List (Str × V))
  | [a, b, n] => some [("first", a), ("second", b), ("longest", n)]
  | _ => none
def loopFs : List V → Option (List (Str × V))
  | [a, lo, hi, n] => some [("body", a), ("lo", lo), ("hi", hi), ("longest", n)]
  | _ => none
def callFs : List V → Option (List (Str × V))
  | [a, f, n] => some [("body", a), ("frame", f), ("longest", n)]
  | _ => none
theorem sc_BlockInit : FnScope ["self", "cost"] ["self", "cost"] (defScope sBlockInit) := ⟨rfl, rfl, rfl, by decide +kernel, rfl, by decide +kernel, by decide +kernel⟩
theorem ok_BlockInit {f C : Addr} {fd : FuncData} (F : Fun K "__init__" "Block.__init__" sBlockInit f fd) (cl : Cls K C) (n1 : NoAttr K C "cost") (n2 : NoAttr K C "longest") : FnOk P w K mg base CX0 1 f fd ["self", "cost"] (spNew C 1 blockFs) := by
  refine F.ok sc_BlockInit (fun vs H Q E h => ?_) (fun cdv A' outer s' H vs Q E hr h => ?_)
  · obtain ⟨p, dx, us, g, rfl, h1, _⟩ := h
    simp [h1]
  · obtain ⟨p, dx, us, g, rfl, h1, h2, h3, k⟩ := h
    match us, h2, h1 with
    | [c], h2, _ =>
      cases h2
      refine ⟨_, (pss_cons (ps_fld (pv 0) (pv 1) rfl) (pss_one (ps_fld (pv 0) pe_int rfl))), ?_⟩
      refine ⟨_, rfl, _, rfl, p, C, dx, [], rfl, h3, cl, n1, (by show 0 < 1000; decide), ?_⟩
      refine ⟨_, rfl, p, C, dx, _, rfl, upd_same, cl, n2, (by show 1 < 1000; decide), ?_⟩
      refine k _ ?_ fun b hb => by rw [upd_ne hb, upd_ne hb]
      exact upd_same
theorem sc_PairInit : FnScope ["self", "first", "second", "longest"] ["self", "first", "second", "longest"] (defScope sPairInit) := ⟨rfl, rfl, rfl, by decide +kernel, rfl, by decide +kernel, by decide +kernel⟩
theorem ok_PairInit {f C : Addr} {fd : FuncData} (F : Fun K "__init__" "Pair.__init__" sPairInit f fd) (cl : Cls K C) (n1 : NoAttr K C "first") (n2 : NoAttr K C "second") (n3 : NoAttr K C "longest") : FnOk P w K mg base CX0 1 f fd ["self", "first", "second", "longest"] (spNew C 3 pairFs) := by
  refine F.ok sc_PairInit (fun vs H Q E h => ?_) (fun cdv A' outer s' H vs Q E hr h => ?_)
  · obtain ⟨p, dx, us, g, rfl, h1, _⟩ := h
    simp [h1]
  · obtain ⟨p, dx, us, g, rfl, h1, h2, h3, k⟩ := h
    match us, h2, h1 with
    | [a, b, n], h2, _ =>
      cases h2
      refine ⟨_, (pss_cons (ps_fld (pv 0) (pv 1) rfl) (pss_cons (ps_fld (pv 0) (pv 2) rfl) (pss_one (ps_fld (pv 0) (pv 3) rfl)))), ?_⟩
      refine ⟨_, rfl, _, rfl, p, C, dx, [], rfl, h3, cl, n1, (by show 0 < 1000; decide), ?_⟩
      refine ⟨_, rfl, _, rfl, p, C, dx, _, rfl, upd_same, cl, n2, (by show 1 < 1000; decide), ?_⟩
      refine ⟨_, rfl, _, rfl, p, C, dx, _, rfl, upd_same, cl, n3, (by show 2 < 1000; decide), ?_⟩
      refine k _ ?_ fun b hb => by rw [upd_ne hb, upd_ne hb, upd_ne hb]
      exact upd_same
/-! a new object beside what there was -/
theorem ProgAt.same {H H' : Hp} {l : Addr} {s : Wc.State} {as : List Addr} (B : ProgAt A H l s as) (e : Same H H') : ProgAt A H' l s as :=
  ⟨e _ _ B.lst, B.len, B.nd, B.good, fun k p x h1 h2 => (B.at_ k p x h1 h2).keep fun o q => e _ _ q⟩
theorem ProgAt.fresh {H : Hp} {l x : Addr} {s : Wc.State} {as : List Addr} (B : ProgAt A H l s as) (h : H x = none) : x ∉ as := fun hx => by
  obtain ⟨k, hk⟩ := List.getElem?_of_mem hx
  have h1 : k < s.pieces.length := by rw [← B.len]; exact (List.getElem?_eq_some_iff.mp hk).1
  obtain ⟨o, e⟩ := (B.at_ k x _ hk (List.getElem?_eq_getElem h1)).some
  rw [h] at e
  cases e
theorem made_same {H H' : Hp} {x dx C : Addr} (hx : H x = none) (hd : H dx = none) (k : ∀ b, b ≠ x → H' b = (upd (upd H dx (.own x)) x (.ins C dx [])) b) : Same H H' := fun b o e => by
  have h1 : b ≠ x := ne_of_none e hx
  have h2 : b ≠ dx := ne_of_none e hd
  rw [k b h1, upd_ne h1, upd_ne h2]
  exact e
/-! make_block -/
def sp_make_block (A : Adr) : Sp := fun vs H Q _ => ∃ (l : Addr) (c : Nat) (s : Wc.State) (as : List Addr), vs = [.ref l, .int c] ∧ ProgAt A H l s as ∧
  ∀ (H' : Hp) (as' : List Addr), ProgAt A H' l (Wc.step s (.block c)).1 as' → (∀ b o, H b = some o → b ≠ l → H' b = some o) → Q (.int (Wc.step s (.block c)).2.ret) H'
theorem sc_make_block : FnScope ["programs", "cost"] ["programs", "cost"] (defScope s_make_block) := ⟨rfl, rfl, rfl, by decide +kernel, rfl, by decide +kernel, by decide +kernel⟩
theorem ok_make_block {f f1 f2 : Addr} {fd fd1 fd2 : FuncData} (D : Def K mg "make_block" s_make_block ["programs", "cost"] f fd) (T : Txt K mg A) (D_add_program : Def K mg "add_program" s_add_program ["programs", "program"] f1 fd1)
    (DBlock : Cld K mg "Block" "Block.__init__" sBlockInit ["self", "cost"] A.cB f2 fd2) : FnOk P w K mg base CX0 3 f fd ["programs", "cost"] (sp_make_block A) := by
  have G_add_program : FnOk P w K mg base CX0 1 f1 fd1 ["programs", "program"] (sp_add_program A) := ok_add_program D_add_program T
  have GBlock : FnOk P w K mg base CX0 1 f2 fd2 ["self", "cost"] (spNew A.cB 1 blockFs) := ok_BlockInit DBlock.fn T.clB T.nB_cost T.nB_longest
  refine D.fn.ok sc_make_block (fun vs H Q E h => ?_) (fun cdv A' outer s' H vs Q E hr h => ?_)
  · obtain ⟨l, n, s, as, rfl, _⟩ := h
    rfl
  · obtain ⟨l, c, s, as, rfl, B, k⟩ := h
    refine ⟨_, (pss_cons (ps_if (pt_cmpR op_gt (pv 1) (pe_gl T.MOST_COST) (nomark _)) (pss_one (ps_ret (pe_gl T.WRONG))) pss_nil)
      (pss_one (ps_ret (pe_fn D_add_program G_add_program hr (pa_cons (pv 0) (pa_cons (pe_mk DBlock GBlock hr (pa_cons (pv 1) pa_nil)) pa_nil)))))), ?_⟩
    refine ⟨_, rfl, _, _, rfl, rfl, _, rfl, ite2 (fun q => ?_) (fun q => ?_)⟩
    · have q' : (65535 : Int) < (c : Nat) := of_decide_eq_true q
      have e : Wc.step s (.block c) = (s, Wc.says (-1)) := may_no (decide_eq_false (by show ¬ c ≤ 65535; omega))
      rw [e] at k
      exact k H as B fun b o h _ => h
    · have q' : ¬ (65535 : Int) < (c : Nat) := fun z => q (decide_eq_true z)
      have e : Wc.step s (.block c) = Wc.added s .block c := may_yes (decide_eq_true (by show c ≤ 65535; omega))
      rw [e] at k
      refine ⟨_, rfl, _, rfl, fun x dx hx hd hne => ⟨x, dx, [.int c], _, rfl, rfl, rfl, upd_same, fun H2 h2 k2 => ⟨rfl, ?_⟩⟩⟩
      have sm : Same H H2 := made_same hx hd k2
      refine ⟨l, x, s, as, .block, c, rfl, B.same sm, B.fresh hx, trivial, by omega, ⟨dx, ?_⟩, fun H' as' B' kp => k H' as' B' fun b o h hb => kp b o (sm b o h) hb⟩
      rw [h2, WcP.longest_snoc_new]
      rfl
/-! make_seq -/
def sp_make_seq (A : Adr) : Sp := fun vs H Q _ => ∃ (l : Addr) (a b : Nat) (s : Wc.State) (as : List Addr), vs = [.ref l, .int a, .int b] ∧ ProgAt A H l s as ∧
  ∀ (H' : Hp) (as' : List Addr), ProgAt A H' l (Wc.step s (.seq a b)).1 as' → (∀ b o, H b = some o → b ≠ l → H' b = some o) → Q (.int (Wc.step s (.seq a b)).2.ret) H'
theorem sc_make_seq : FnScope ["programs", "first", "second", "longest"] ["programs", "first", "second"] (defScope s_make_seq) := ⟨rfl, rfl, rfl, by decide +kernel, rfl, by decide +kernel, by decide +kernel⟩
theorem ok_make_seq {f f1 f2 f3 : Addr} {fd fd1 fd2 fd3 : FuncData} (D : Def K mg "make_seq" s_make_seq ["programs", "first", "second"] f fd) (T : Txt K mg A) (D_add_program : Def K mg "add_program" s_add_program ["programs", "program"] f1 fd1)
    (D_is_program : Def K mg "is_program" s_is_program ["programs", "number"] f3 fd3) (DSeq : Cld K mg "Seq" "Pair.__init__" sPairInit ["self", "first", "second", "longest"] A.cS f2 fd2) (n1 : NoAttr K A.cS "first") (n2 : NoAttr K A.cS "second") :
    FnOk P w K mg base CX0 3 f fd ["programs", "first", "second"] (sp_make_seq A) := by
  have G_add_program : FnOk P w K mg base CX0 1 f1 fd1 ["programs", "program"] (sp_add_program A) := ok_add_program D_add_program T
  have G_is_program : FnOk P w K mg base CX0 1 f3 fd3 ["programs", "number"] (sp_is_program A) := ok_is_program D_is_program T
  have GSeq : FnOk P w K mg base CX0 1 f2 fd2 ["self", "first", "second", "longest"] (spNew A.cS 3 pairFs) := ok_PairInit DSeq.fn T.clS n1 n2 T.nS_longest
  have sc := @sc_make_seq
  refine D.fn.ok sc (fun vs H Q E h => ?_) (fun cdv A' outer s' H vs Q E hr h => ?_)
  · obtain ⟨l, a, b, s, as, rfl, _⟩ := h
    rfl
  · obtain ⟨l, a, b, s, as, rfl, B, k⟩ := h
    refine ⟨_, (pss_cons (ps_if (pw_or (pt_not (pt_val (pe_fn D_is_program G_is_program hr (pa_cons (pv 0) (pa_cons (pv 1) pa_nil))))) (pw_or1 (pt_not (pt_val (pe_fn D_is_program G_is_program hr (pa_cons (pv 0) (pa_cons (pv 2) pa_nil))))))).pt (pss_one (ps_ret (pe_gl T.WRONG))) pss_nil)
      (pss_cons (ps_set (i := 3) sc.nd rfl (Or.inl rfl) (pe_op op_add (pe_fld (pe_ix ix_list (pv 0) (pv 1) (fun _ _ => rfl)) rfl) (pe_fld (pe_ix ix_list (pv 0) (pv 2) (fun _ _ => rfl)) rfl)))
      (pss_one (ps_ret (pe_fn D_add_program G_add_program hr (pa_cons (pv 0) (pa_cons (pe_mk DSeq GSeq hr (pa_cons (pv 1) (pa_cons (pv 2) (pa_cons (pv 3) pa_nil)))) pa_nil))))))), ?_⟩
    have no : ¬ (a < s.pieces.length ∧ b < s.pieces.length) → Q (.int (-1)) H := fun z => by
      have e : Wc.step s (.seq a b) = (s, Wc.says (-1)) := may_no (by
        rw [Bool.and_eq_false_iff]
        rcases Decidable.em (a < s.pieces.length) with y | y
        · exact .inr (there_no fun q => z ⟨y, q⟩)
        · exact .inl (there_no y))
      rw [e] at k
      exact k H as B fun b o h _ => h
    refine ⟨_, rfl, _, rfl, l, a, s, as, rfl, B, _, rfl, ite2 (fun q => ?_) (fun q => ?_)⟩
    · exact no fun z => absurd (decide_eq_true z.1) (by simpa using q)
    · have ha : a < s.pieces.length := by simpa using q
      refine ⟨_, rfl, _, rfl, l, b, s, as, rfl, B, _, rfl, ite2 (fun q => ?_) (fun q => ?_)⟩
      · exact no fun z => absurd (decide_eq_true z.2) (by simpa using q)
      · have hb : b < s.pieces.length := by simpa using q
        have e : Wc.step s (.seq a b) = Wc.added s (.seq a b) 0 := may_yes (by rw [there_yes ha, there_yes hb]; rfl)
        rw [e] at k
        obtain ⟨p1, x1, i1, j1, o1⟩ := B.item ha
        obtain ⟨p2, x2, i2, j2, o2⟩ := B.item hb
        obtain ⟨C1, d1, g1, u1, v1, w1, y1⟩ := o1.long T
        obtain ⟨C2, d2, g2, u2, v2, w2, y2⟩ := o2.long T
        refine ⟨_, rfl, _, rfl, l, _, _, _, rfl, rfl, SqL.of B.lst, at_ref i1, p1, C1, d1, g1, _, rfl, u1, v1, w1, y1,
          _, rfl, _, rfl, l, _, _, _, rfl, rfl, SqL.of B.lst, at_ref i2, p2, C2, d2, g2, _, rfl, u2, v2, w2, y2, _, _, rfl, rfl, ?_⟩
        refine ⟨_, rfl, _, rfl, _, rfl, _, rfl, fun x dx hx hd hne => ⟨x, dx, [.int a, .int b, .int (Wc.longest s.pieces a + Wc.longest s.pieces b : Nat)], _, rfl, rfl, rfl, upd_same, fun H2 h2 k2 => ⟨rfl, ?_⟩⟩⟩
        have sm : Same H H2 := made_same hx hd k2
        refine ⟨l, x, s, as, .seq a b, 0, rfl, B.same sm, B.fresh hx, ⟨ha, hb⟩, by decide, ⟨dx, ?_⟩, fun H' as' B' kp => k H' as' B' fun b o h hb => kp b o (sm b o h) hb⟩
        rw [h2, WcP.longest_snoc_new]
        rfl
end
end Wp

set_option maxHeartbeats 2000000
namespace Wp
open PySem PySem.Spec PyProof.Rows L2
open PySem.W (Codec)
open WcP (Good Fit Wf)
section
variable {P : Program} {w : World} {K : PySem.W.Frag} {mg : Str → Option Value} {base : Heap} {A : Adr}
theorem sc_LoopInit : FnScope ["self", "body", "lo", "hi", "longest"] ["self", "body", "lo", "hi", "longest"] (defScope sLoopInit) := ⟨rfl, rfl, rfl, by decide +kernel, rfl, by decide +kernel, by decide +kernel⟩
theorem ok_LoopInit {f C : Addr} {fd : FuncData} (F : Fun K "__init__" "Loop.__init__" sLoopInit f fd) (cl : Cls K C) (n1 : NoAttr K C "body") (n2 : NoAttr K C "lo") (n3 : NoAttr K C "hi") (n4 : NoAttr K C "longest") :
    FnOk P w K mg base CX0 1 f fd ["self", "body", "lo", "hi", "longest"] (spNew C 4 loopFs) := by
  refine F.ok sc_LoopInit (fun vs H Q E h => ?_) (fun cdv A' outer s' H vs Q E hr h => ?_)
  · obtain ⟨p, dx, us, g, rfl, h1, _⟩ := h
    simp [h1]
  · obtain ⟨p, dx, us, g, rfl, h1, h2, h3, k⟩ := h
    match us, h2, h1 with
    | [a, b, c, n], h2, _ =>
      cases h2
      refine ⟨_, (pss_cons (ps_fld (pv 0) (pv 1) rfl) (pss_cons (ps_fld (pv 0) (pv 2) rfl) (pss_cons (ps_fld (pv 0) (pv 3) rfl) (pss_one (ps_fld (pv 0) (pv 4) rfl))))), ?_⟩
      refine ⟨_, rfl, _, rfl, p, C, dx, [], rfl, h3, cl, n1, (by show 0 < 1000; decide), ?_⟩
      refine ⟨_, rfl, _, rfl, p, C, dx, _, rfl, upd_same, cl, n2, (by show 1 < 1000; decide), ?_⟩
      refine ⟨_, rfl, _, rfl, p, C, dx, _, rfl, upd_same, cl, n3, (by show 2 < 1000; decide), ?_⟩
      refine ⟨_, rfl, _, rfl, p, C, dx, _, rfl, upd_same, cl, n4, (by show 3 < 1000; decide), ?_⟩
      refine k _ ?_ fun b hb => by rw [upd_ne hb, upd_ne hb, upd_ne hb, upd_ne hb]
      exact upd_same
theorem sc_CallInit : FnScope ["self", "body", "frame", "longest"] ["self", "body", "frame", "longest"] (defScope sCallInit) := ⟨rfl, rfl, rfl, by decide +kernel, rfl, by decide +kernel, by decide +kernel⟩
theorem ok_CallInit {f C : Addr} {fd : FuncData} (F : Fun K "__init__" "Call.__init__" sCallInit f fd) (cl : Cls K C) (n1 : NoAttr K C "body") (n2 : NoAttr K C "frame") (n3 : NoAttr K C "longest") : FnOk P w K mg base CX0 1 f fd ["self", "body", "frame", "longest"] (spNew C 3 callFs) := by
  refine F.ok sc_CallInit (fun vs H Q E h => ?_) (fun cdv A' outer s' H vs Q E hr h => ?_)
  · obtain ⟨p, dx, us, g, rfl, h1, _⟩ := h
    simp [h1]
  · obtain ⟨p, dx, us, g, rfl, h1, h2, h3, k⟩ := h
    match us, h2, h1 with
    | [a, b, n], h2, _ =>
      cases h2
      refine ⟨_, (pss_cons (ps_fld (pv 0) (pv 1) rfl) (pss_cons (ps_fld (pv 0) (pv 2) rfl) (pss_one (ps_fld (pv 0) (pv 3) rfl)))), ?_⟩
      refine ⟨_, rfl, _, rfl, p, C, dx, [], rfl, h3, cl, n1, (by show 0 < 1000; decide), ?_⟩
      refine ⟨_, rfl, _, rfl, p, C, dx, _, rfl, upd_same, cl, n2, (by show 1 < 1000; decide), ?_⟩
      refine ⟨_, rfl, _, rfl, p, C, dx, _, rfl, upd_same, cl, n3, (by show 2 < 1000; decide), ?_⟩
      refine k _ ?_ fun b hb => by rw [upd_ne hb, upd_ne hb, upd_ne hb]
      exact upd_same
/-! make_alt -/
def sp_make_alt (A : Adr) : Sp := fun vs H Q _ => ∃ (l : Addr) (a b : Nat) (s : Wc.State) (as : List Addr), vs = [.ref l, .int a, .int b] ∧ ProgAt A H l s as ∧
  ∀ (H' : Hp) (as' : List Addr), ProgAt A H' l (Wc.step s (.alt a b)).1 as' → (∀ b o, H b = some o → b ≠ l → H' b = some o) → Q (.int (Wc.step s (.alt a b)).2.ret) H'
theorem sc_make_alt : FnScope ["programs", "first", "second", "longest"] ["programs", "first", "second"] (defScope s_make_alt) := ⟨rfl, rfl, rfl, by decide +kernel, rfl, by decide +kernel, by decide +kernel⟩
theorem max_nat (a b : Nat) : (if (b : Int) > (a : Int) then (b : Int) else (a : Int)) = ((max a b : Nat) : Int) := by
  split <;> omega
theorem ok_make_alt {f f1 f2 f3 : Addr} {fd fd1 fd2 fd3 : FuncData} (D : Def K mg "make_alt" s_make_alt ["programs", "first", "second"] f fd) (T : Txt K mg A) (D_add_program : Def K mg "add_program" s_add_program ["programs", "program"] f1 fd1)
    (D_is_program : Def K mg "is_program" s_is_program ["programs", "number"] f3 fd3) (DAlt : Cld K mg "Alt" "Pair.__init__" sPairInit ["self", "first", "second", "longest"] A.cA f2 fd2) (n1 : NoAttr K A.cA "first") (n2 : NoAttr K A.cA "second") :
    FnOk P w K mg base CX0 3 f fd ["programs", "first", "second"] (sp_make_alt A) := by
  have G_add_program : FnOk P w K mg base CX0 1 f1 fd1 ["programs", "program"] (sp_add_program A) := ok_add_program D_add_program T
  have G_is_program : FnOk P w K mg base CX0 1 f3 fd3 ["programs", "number"] (sp_is_program A) := ok_is_program D_is_program T
  have GAlt : FnOk P w K mg base CX0 1 f2 fd2 ["self", "first", "second", "longest"] (spNew A.cA 3 pairFs) := ok_PairInit DAlt.fn T.clA n1 n2 T.nA_longest
  have sc := @sc_make_alt
  refine D.fn.ok sc (fun vs H Q E h => ?_) (fun cdv A' outer s' H vs Q E hr h => ?_)
  · obtain ⟨l, a, b, s, as, rfl, _⟩ := h
    rfl
  · obtain ⟨l, a, b, s, as, rfl, B, k⟩ := h
    refine ⟨_, (pss_cons (ps_if (pw_or (pt_not (pt_val (pe_fn D_is_program G_is_program hr (pa_cons (pv 0) (pa_cons (pv 1) pa_nil))))) (pw_or1 (pt_not (pt_val (pe_fn D_is_program G_is_program hr (pa_cons (pv 0) (pa_cons (pv 2) pa_nil))))))).pt (pss_one (ps_ret (pe_gl T.WRONG))) pss_nil)
      (pss_cons (ps_set (i := 3) sc.nd rfl (Or.inl rfl) (pe_callB (call_max2 rfl) (by rfl) T.no_max boot_max (pa_cons (pe_fld (pe_ix ix_list (pv 0) (pv 1) (fun _ _ => rfl)) rfl) (pa_cons (pe_fld (pe_ix ix_list (pv 0) (pv 2) (fun _ _ => rfl)) rfl) pa_nil))))
      (pss_one (ps_ret (pe_fn D_add_program G_add_program hr (pa_cons (pv 0) (pa_cons (pe_mk DAlt GAlt hr (pa_cons (pv 1) (pa_cons (pv 2) (pa_cons (pv 3) pa_nil)))) pa_nil))))))), ?_⟩
    have no : ¬ (a < s.pieces.length ∧ b < s.pieces.length) → Q (.int (-1)) H := fun z => by
      have e : Wc.step s (.alt a b) = (s, Wc.says (-1)) := may_no (by
        rw [Bool.and_eq_false_iff]
        rcases Decidable.em (a < s.pieces.length) with y | y
        · exact .inr (there_no fun q => z ⟨y, q⟩)
        · exact .inl (there_no y))
      rw [e] at k
      exact k H as B fun b o h _ => h
    refine ⟨_, rfl, _, rfl, l, a, s, as, rfl, B, _, rfl, ite2 (fun q => ?_) (fun q => ?_)⟩
    · exact no fun z => absurd (decide_eq_true z.1) (by simpa using q)
    · have ha : a < s.pieces.length := by simpa using q
      refine ⟨_, rfl, _, rfl, l, b, s, as, rfl, B, _, rfl, ite2 (fun q => ?_) (fun q => ?_)⟩
      · exact no fun z => absurd (decide_eq_true z.2) (by simpa using q)
      · have hb : b < s.pieces.length := by simpa using q
        have e : Wc.step s (.alt a b) = Wc.added s (.alt a b) 0 := may_yes (by rw [there_yes ha, there_yes hb]; rfl)
        rw [e] at k
        obtain ⟨p1, x1, i1, j1, o1⟩ := B.item ha
        obtain ⟨p2, x2, i2, j2, o2⟩ := B.item hb
        obtain ⟨C1, d1, g1, u1, v1, w1, y1⟩ := o1.long T
        obtain ⟨C2, d2, g2, u2, v2, w2, y2⟩ := o2.long T
        refine ⟨_, rfl, _, rfl, l, _, _, _, rfl, rfl, SqL.of B.lst, at_ref i1, p1, C1, d1, g1, _, rfl, u1, v1, w1, y1,
          _, rfl, _, rfl, l, _, _, _, rfl, rfl, SqL.of B.lst, at_ref i2, p2, C2, d2, g2, _, rfl, u2, v2, w2, y2, _, _, rfl, ?_⟩
        rw [max_nat]
        refine ⟨_, rfl, _, rfl, _, rfl, _, rfl, fun x dx hx hd hne => ⟨x, dx, [.int a, .int b, .int (max (Wc.longest s.pieces a) (Wc.longest s.pieces b) : Nat)], _, rfl, rfl, rfl, upd_same, fun H2 h2 k2 => ⟨rfl, ?_⟩⟩⟩
        have sm : Same H H2 := made_same hx hd k2
        refine ⟨l, x, s, as, .alt a b, 0, rfl, B.same sm, B.fresh hx, ⟨ha, hb⟩, by decide, ⟨dx, ?_⟩, fun H' as' B' kp => k H' as' B' fun b o h hb => kp b o (sm b o h) hb⟩
        rw [h2, WcP.longest_snoc_new]
        rfl
/-! make_loop -/
def sp_make_loop (A : Adr) : Sp := fun vs H Q _ => ∃ (l : Addr) (a lo hi : Nat) (s : Wc.State) (as : List Addr), vs = [.ref l, .int a, .int lo, .int hi] ∧ ProgAt A H l s as ∧
  ∀ (H' : Hp) (as' : List Addr), ProgAt A H' l (Wc.step s (.loop a lo hi)).1 as' → (∀ b o, H b = some o → b ≠ l → H' b = some o) → Q (.int (Wc.step s (.loop a lo hi)).2.ret) H'
theorem sc_make_loop : FnScope ["programs", "body", "lo", "hi", "longest"] ["programs", "body", "lo", "hi"] (defScope s_make_loop) := ⟨rfl, rfl, rfl, by decide +kernel, rfl, by decide +kernel, by decide +kernel⟩
theorem ok_make_loop {f f1 f2 f3 : Addr} {fd fd1 fd2 fd3 : FuncData} (D : Def K mg "make_loop" s_make_loop ["programs", "body", "lo", "hi"] f fd) (T : Txt K mg A) (D_add_program : Def K mg "add_program" s_add_program ["programs", "program"] f1 fd1)
    (D_is_program : Def K mg "is_program" s_is_program ["programs", "number"] f3 fd3) (DLoop : Cld K mg "Loop" "Loop.__init__" sLoopInit ["self", "body", "lo", "hi", "longest"] A.cL f2 fd2) (n1 : NoAttr K A.cL "body") (n2 : NoAttr K A.cL "lo") (n3 : NoAttr K A.cL "hi") :
    FnOk P w K mg base CX0 3 f fd ["programs", "body", "lo", "hi"] (sp_make_loop A) := by
  have G_add_program : FnOk P w K mg base CX0 1 f1 fd1 ["programs", "program"] (sp_add_program A) := ok_add_program D_add_program T
  have G_is_program : FnOk P w K mg base CX0 1 f3 fd3 ["programs", "number"] (sp_is_program A) := ok_is_program D_is_program T
  have GLoop : FnOk P w K mg base CX0 1 f2 fd2 ["self", "body", "lo", "hi", "longest"] (spNew A.cL 4 loopFs) := ok_LoopInit DLoop.fn T.clL n1 n2 n3 T.nL_longest
  have sc := @sc_make_loop
  refine D.fn.ok sc (fun vs H Q E h => ?_) (fun cdv A' outer s' H vs Q E hr h => ?_)
  · obtain ⟨l, a, lo, hi, s, as, rfl, _⟩ := h
    rfl
  · obtain ⟨l, a, lo, hi, s, as, rfl, B, k⟩ := h
    refine ⟨_, (pss_cons (ps_if (pw_or (pt_not (pt_val (pe_fn D_is_program G_is_program hr (pa_cons (pv 0) (pa_cons (pv 1) pa_nil))))) (pw_or (pt_cmpR op_gt (pv 2) (pv 3) (nomark _)) (pw_or1 (pt_cmpR op_gt (pv 3) (pe_gl T.MOST_TIMES) (nomark _))))).pt (pss_one (ps_ret (pe_gl T.WRONG))) pss_nil)
      (pss_cons (ps_set (i := 4) sc.nd rfl (Or.inl rfl) (pe_op op_mul (pe_fld (pe_ix ix_list (pv 0) (pv 1) (fun _ _ => rfl)) rfl) (pv 3)))
      (pss_one (ps_ret (pe_fn D_add_program G_add_program hr (pa_cons (pv 0) (pa_cons (pe_mk DLoop GLoop hr (pa_cons (pv 1) (pa_cons (pv 2) (pa_cons (pv 3) (pa_cons (pv 4) pa_nil))))) pa_nil))))))), ?_⟩
    have no : ¬ (a < s.pieces.length ∧ lo ≤ hi ∧ hi ≤ 65535) → Q (.int (-1)) H := fun z => by
      have e : Wc.step s (.loop a lo hi) = (s, Wc.says (-1)) := may_no (by
        rw [Bool.and_eq_false_iff, Bool.and_eq_false_iff]
        rcases Decidable.em (a < s.pieces.length) with y | y
        · rcases Decidable.em (lo ≤ hi) with y2 | y2
          · exact .inr (.inr (decide_eq_false fun q => z ⟨y, y2, q⟩))
          · exact .inr (.inl (decide_eq_false y2))
        · exact .inl (there_no y))
      rw [e] at k
      exact k H as B fun b o h _ => h
    refine ⟨_, rfl, _, rfl, l, a, s, as, rfl, B, _, rfl, ite2 (fun q => ?_) (fun q => ?_)⟩
    · exact no fun z => absurd (decide_eq_true z.1) (by simpa using q)
    · have ha : a < s.pieces.length := by simpa using q
      refine ⟨_, rfl, _, rfl, _, _, rfl, rfl, _, rfl, ite2 (fun q => ?_) (fun q => ?_)⟩
      · have q' : (hi : Int) < (lo : Int) := of_decide_eq_true q
        exact no fun z => by omega
      · have q1 : ¬ (hi : Int) < (lo : Int) := fun z => q (decide_eq_true z)
        refine ⟨_, rfl, _, _, rfl, rfl, _, rfl, ite2 (fun q => ?_) (fun q => ?_)⟩
        · have q' : (65535 : Int) < (hi : Int) := of_decide_eq_true q
          exact no fun z => by omega
        · have q2 : ¬ (65535 : Int) < (hi : Int) := fun z => q (decide_eq_true z)
          have h1 : lo ≤ hi := by omega
          have h2 : hi ≤ 65535 := by omega
          have e : Wc.step s (.loop a lo hi) = Wc.added s (.loop a lo hi) 0 := may_yes (by rw [there_yes ha, decide_eq_true h1, decide_eq_true (show hi ≤ Wc.ROUNDS from h2)]; rfl)
          rw [e] at k
          obtain ⟨p1, x1, i1, j1, o1⟩ := B.item ha
          obtain ⟨C1, d1, g1, u1, v1, w1, y1⟩ := o1.long T
          refine ⟨_, rfl, _, rfl, l, _, _, _, rfl, rfl, SqL.of B.lst, at_ref i1, p1, C1, d1, g1, _, rfl, u1, v1, w1, y1, _, rfl, _, _, rfl, rfl, .inr ⟨by omega, by omega⟩, ?_⟩
          refine ⟨_, rfl, _, rfl, _, rfl, _, rfl, _, rfl, fun x dx hx hd hne => ⟨x, dx, [.int a, .int lo, .int hi, .int (hi * Wc.longest s.pieces a : Nat)], _, ?_, rfl, rfl, upd_same, fun H2 h2 k2 => ⟨rfl, ?_⟩⟩⟩
          · have e9 : ((Wc.longest s.pieces a : Nat) : Int) * (hi : Int) = ((hi * Wc.longest s.pieces a : Nat) : Int) := by rw [Int.natCast_mul, Int.mul_comm]
            rw [← e9]
            rfl
          · have sm : Same H H2 := made_same hx hd k2
            refine ⟨l, x, s, as, .loop a lo hi, 0, rfl, B.same sm, B.fresh hx, ⟨ha, h1, by assumption⟩, by decide, ⟨dx, ?_⟩, fun H' as' B' kp => k H' as' B' fun b o h hb => kp b o (sm b o h) hb⟩
            rw [h2, WcP.longest_snoc_new]
            rfl
end
end Wp

set_option maxHeartbeats 2000000
namespace Wp
open PySem PySem.Spec PyProof.Rows L2
open PySem.W (Codec)
open WcP (Good Fit Wf)
section
variable {P : Program} {w : World} {K : PySem.W.Frag} {mg : Str → Option Value} {base : Heap} {A : Adr}
/-! make_call -/
def sp_make_call (A : Adr) : Sp := fun vs H Q _ => ∃ (l : Addr) (a fr : Nat) (s : Wc.State) (as : List Addr), vs = [.ref l, .int a, .int fr] ∧ ProgAt A H l s as ∧
  ∀ (H' : Hp) (as' : List Addr), ProgAt A H' l (Wc.step s (.call a fr)).1 as' → (∀ b o, H b = some o → b ≠ l → H' b = some o) → Q (.int (Wc.step s (.call a fr)).2.ret) H'
theorem sc_make_call : FnScope ["programs", "body", "frame"] ["programs", "body", "frame"] (defScope s_make_call) := ⟨rfl, rfl, rfl, by decide +kernel, rfl, by decide +kernel, by decide +kernel⟩
theorem ok_make_call {f f1 f2 f3 : Addr} {fd fd1 fd2 fd3 : FuncData} (D : Def K mg "make_call" s_make_call ["programs", "body", "frame"] f fd) (T : Txt K mg A) (D_add_program : Def K mg "add_program" s_add_program ["programs", "program"] f1 fd1)
    (D_is_program : Def K mg "is_program" s_is_program ["programs", "number"] f3 fd3) (DCall : Cld K mg "Call" "Call.__init__" sCallInit ["self", "body", "frame", "longest"] A.cC f2 fd2) (n1 : NoAttr K A.cC "body") (n2 : NoAttr K A.cC "frame") :
    FnOk P w K mg base CX0 3 f fd ["programs", "body", "frame"] (sp_make_call A) := by
  have G_add_program : FnOk P w K mg base CX0 1 f1 fd1 ["programs", "program"] (sp_add_program A) := ok_add_program D_add_program T
  have G_is_program : FnOk P w K mg base CX0 1 f3 fd3 ["programs", "number"] (sp_is_program A) := ok_is_program D_is_program T
  have GCall : FnOk P w K mg base CX0 1 f2 fd2 ["self", "body", "frame", "longest"] (spNew A.cC 3 callFs) := ok_CallInit DCall.fn T.clC n1 n2 T.nC_longest
  have sc := @sc_make_call
  refine D.fn.ok sc (fun vs H Q E h => ?_) (fun cdv A' outer s' H vs Q E hr h => ?_)
  · obtain ⟨l, a, fr, s, as, rfl, _⟩ := h
    rfl
  · obtain ⟨l, a, fr, s, as, rfl, B, k⟩ := h
    refine ⟨_, (pss_cons (ps_if (pw_or (pt_not (pt_val (pe_fn D_is_program G_is_program hr (pa_cons (pv 0) (pa_cons (pv 1) pa_nil))))) (pw_or1 (pt_cmpR op_gt (pv 2) (pe_gl T.MOST_FRAME) (nomark _)))).pt (pss_one (ps_ret (pe_gl T.WRONG))) pss_nil)
      (pss_one (ps_ret (pe_fn D_add_program G_add_program hr (pa_cons (pv 0) (pa_cons (pe_mk DCall GCall hr (pa_cons (pv 1) (pa_cons (pv 2) (pa_cons (pe_fld (pe_ix ix_list (pv 0) (pv 1) (fun _ _ => rfl)) rfl) pa_nil)))) pa_nil)))))), ?_⟩
    have no : ¬ (a < s.pieces.length ∧ fr ≤ 65535) → Q (.int (-1)) H := fun z => by
      have e : Wc.step s (.call a fr) = (s, Wc.says (-1)) := may_no (by
        rw [Bool.and_eq_false_iff]
        rcases Decidable.em (a < s.pieces.length) with y | y
        · exact .inr (decide_eq_false fun q => z ⟨y, q⟩)
        · exact .inl (there_no y))
      rw [e] at k
      exact k H as B fun b o h _ => h
    refine ⟨_, rfl, _, rfl, l, a, s, as, rfl, B, _, rfl, ite2 (fun q => ?_) (fun q => ?_)⟩
    · exact no fun z => absurd (decide_eq_true z.1) (by simpa using q)
    · have ha : a < s.pieces.length := by simpa using q
      refine ⟨_, rfl, _, _, rfl, rfl, _, rfl, ite2 (fun q => ?_) (fun q => ?_)⟩
      · have q' : (65535 : Int) < (fr : Int) := of_decide_eq_true q
        exact no fun z => by omega
      · have q1 : ¬ (65535 : Int) < (fr : Int) := fun z => q (decide_eq_true z)
        have h1 : fr ≤ 65535 := by omega
        have e : Wc.step s (.call a fr) = Wc.added s (.call a fr) 0 := may_yes (by rw [there_yes ha, decide_eq_true (show fr ≤ Wc.COST from h1)]; rfl)
        rw [e] at k
        obtain ⟨p1, x1, i1, j1, o1⟩ := B.item ha
        obtain ⟨C1, d1, g1, u1, v1, w1, y1⟩ := o1.long T
        refine ⟨_, rfl, _, rfl, _, rfl, _, rfl, _, rfl, l, _, _, _, rfl, rfl, SqL.of B.lst, at_ref i1, p1, C1, d1, g1, _, rfl, u1, v1, w1, y1,
          fun x dx hx hd hne => ⟨x, dx, [.int a, .int fr, .int (Wc.longest s.pieces a : Nat)], _, rfl, rfl, rfl, upd_same, fun H2 h2 k2 => ⟨rfl, ?_⟩⟩⟩
        have sm : Same H H2 := made_same hx hd k2
        refine ⟨l, x, s, as, .call a fr, 0, rfl, B.same sm, B.fresh hx, ⟨ha, h1⟩, by decide, ⟨dx, ?_⟩, fun H' as' B' kp => k H' as' B' fun b o h hb => kp b o (sm b o h) hb⟩
        rw [h2, WcP.longest_snoc_new]
        rfl
/-! forget_all -/
def sp_forget_all (A : Adr) : Sp := fun vs H Q _ => ∃ (l : Addr) (s : Wc.State) (as : List Addr), vs = [.ref l] ∧ ProgAt A H l s as ∧
  ∀ (H' : Hp) (as' : List Addr), ProgAt A H' l Wc.start as' → (∀ b o, H b = some o → b ≠ l → H' b = some o) → Q (.int 0) H'
theorem ProgAt.start {H : Hp} {l : Addr} (h : H l = some (.lst [])) : ProgAt A H l Wc.start [] :=
  ⟨h, rfl, List.nodup_nil, Good.start, fun k p x e _ => by simp at e⟩
theorem sc_forget_all : FnScope ["programs"] ["programs"] (defScope s_forget_all) := ⟨rfl, rfl, rfl, by decide +kernel, rfl, by decide +kernel, by decide +kernel⟩
theorem ok_forget_all {f : Addr} {fd : FuncData} (D : Def K mg "forget_all" s_forget_all ["programs"] f fd) (T : Txt K mg A) : FnOk P w K mg base CX0 1 f fd ["programs"] (sp_forget_all A) := by
  refine D.fn.ok sc_forget_all (fun vs H Q E h => ?_) (fun cdv A' outer s' H vs Q E hr h => ?_)
  · obtain ⟨l, s, as, rfl, _⟩ := h
    rfl
  · obtain ⟨l, s, as, rfl, B, k⟩ := h
    refine ⟨_, (pss_cons (ps_expr (pe_bm0 PySem.F.plainAttrs_list PySem.F.slot_list_clear PySem.F.type_list_clear mt_clear (pv 0))) (pss_one (ps_ret (pe_gl T.DONE)))), ?_⟩
    refine ⟨_, rfl, .inl ⟨rfl, _, SqL.of B.lst⟩, l, _, rfl, rfl, B.lst, ?_⟩
    exact k _ [] (ProgAt.start upd_same) fun b o e hb => by rw [upd_ne hb]; exact e
/-! change_cost -/
def sp_change_cost (A : Adr) : Sp := fun vs H Q _ => ∃ (l : Addr) (b c : Nat) (s : Wc.State) (as : List Addr), vs = [.ref l, .int b, .int c] ∧ ProgAt A H l s as ∧
  ∀ (H' : Hp) (as' : List Addr), ProgAt A H' l (Wc.step s (.cost b c)).1 as' → Keep H H' l as → Q (.int (Wc.step s (.cost b c)).2.ret) H'
theorem isBlock_get {s : Wc.State} {n : Nat} (h : Wc.isBlock s n = true) : s.pieces[n]? = some .block := by
  unfold Wc.isBlock at h
  cases e : s.pieces[n]? with
  | none => rw [e] at h; cases h
  | some x => rw [e] at h; cases x <;> first | rfl | cases h
theorem ProgAt.recost {H : Hp} {l p dx : Addr} {s : Wc.State} {as : List Addr} {b c : Nat} (B : ProgAt A H l s as) (hb : s.pieces[b]? = some .block) (hp : as[b]? = some p) (hc : c ≤ 65535) :
    ProgAt A (upd H p (.ins A.cB dx (bF c (Wc.longest s.pieces b)))) l ⟨s.pieces, s.costs.set b c⟩ as where
  lst := by
    have n1 := (B.at_ b p _ hp hb).nolist B.lst
    rw [upd_ne (fun q => n1 q.symm)]
    exact B.lst
  len := B.len
  nd := B.nd
  good := B.good.recost hc
  at_ := fun k q x e1 e2 => by
    by_cases hk : k = b
    · subst hk
      have e3 : q = p := Option.some.inj (e1.symm.trans hp)
      subst e3
      have e4 : x = .block := Option.some.inj (e2.symm.trans hb)
      subst e4
      refine ⟨dx, ?_⟩
      have e5 : Wc.costOf ⟨s.pieces, s.costs.set k c⟩ k = c := by
        unfold Wc.costOf
        rw [List.getD_eq_getElem?_getD, List.getElem?_set_self (by rw [B.good.len]; exact (List.getElem?_eq_some_iff.mp hb).1)]
        rfl
      rw [e5, upd_same]
    · have g := B.at_ k q x e1 e2
      have e5 : Wc.costOf ⟨s.pieces, s.costs.set b c⟩ k = Wc.costOf s k := by
        unfold Wc.costOf
        rw [List.getD_eq_getElem?_getD, List.getD_eq_getElem?_getD, List.getElem?_set_ne (fun q => hk q.symm)]
      rw [e5]
      refine g.keep fun o e => ?_
      rw [upd_ne (fun z => hk (nd_ix B.nd e1 (by rw [z]; exact hp)))]
      exact e
theorem sc_change_cost : FnScope ["programs", "number", "cost", "block"] ["programs", "number", "cost"] (defScope s_change_cost) := ⟨rfl, rfl, rfl, by decide +kernel, rfl, by decide +kernel, by decide +kernel⟩
theorem ok_change_cost {f f1 f2 : Addr} {fd fd1 fd2 : FuncData} (D : Def K mg "change_cost" s_change_cost ["programs", "number", "cost"] f fd) (T : Txt K mg A) (D_is_block : Def K mg "is_block" s_is_block ["programs", "number"] f1 fd1)
    (D_is_program : Def K mg "is_program" s_is_program ["programs", "number"] f2 fd2) : FnOk P w K mg base CX0 3 f fd ["programs", "number", "cost"] (sp_change_cost A) := by
  have G_is_block : FnOk P w K mg base CX0 2 f1 fd1 ["programs", "number"] (sp_is_block A) := ok_is_block D_is_block T D_is_program
  have sc := @sc_change_cost
  refine D.fn.ok sc (fun vs H Q E h => ?_) (fun cdv A' outer s' H vs Q E hr h => ?_)
  · obtain ⟨l, b, c, s, as, rfl, _⟩ := h
    rfl
  · obtain ⟨l, b, c, s, as, rfl, B, k⟩ := h
    refine ⟨_, (pss_cons (ps_if (pw_or (pt_not (pt_val (pe_fn D_is_block G_is_block hr (pa_cons (pv 0) (pa_cons (pv 1) pa_nil))))) (pw_or1 (pt_cmpR op_gt (pv 2) (pe_gl T.MOST_COST) (nomark _)))).pt (pss_one (ps_ret (pe_gl T.WRONG))) pss_nil)
      (pss_cons (ps_set (i := 3) sc.nd rfl (Or.inl rfl) (pe_ix ix_list (pv 0) (pv 1) (fun _ _ => rfl)))
      (pss_cons (ps_fld (pv 3) (pv 2) rfl)
      (pss_one (ps_ret (pe_gl T.DONE)))))), ?_⟩
    have no : ¬ (Wc.isBlock s b = true ∧ c ≤ 65535) → Q (.int (-1)) H := fun z => by
      have e : Wc.step s (.cost b c) = (s, Wc.says (-1)) := may_no (by
        rw [Bool.and_eq_false_iff]
        cases y : Wc.isBlock s b with
        | true => exact .inr (decide_eq_false fun q => z ⟨y, q⟩)
        | false => exact .inl rfl)
      rw [e] at k
      exact k H as B fun b o h _ _ => h
    refine ⟨_, rfl, _, rfl, l, b, s, as, rfl, B, _, rfl, ite2 (fun q => ?_) (fun q => ?_)⟩
    · exact no fun z => by rw [z.1] at q; cases q
    · have hb : Wc.isBlock s b = true := by
        cases y : Wc.isBlock s b with
        | true => rfl
        | false => rw [y] at q; exact absurd rfl q
      refine ⟨_, rfl, _, _, rfl, rfl, _, rfl, ite2 (fun q => ?_) (fun q => ?_)⟩
      · have q' : (65535 : Int) < (c : Int) := of_decide_eq_true q
        exact no fun z => by omega
      · have q1 : ¬ (65535 : Int) < (c : Int) := fun z => q (decide_eq_true z)
        have hc : c ≤ 65535 := by omega
        have e : Wc.step s (.cost b c) = (⟨s.pieces, s.costs.set b c⟩, Wc.says 0) := may_yes (by rw [hb, decide_eq_true (show c ≤ Wc.COST from hc)]; rfl)
        rw [e] at k
        have hb2 := isBlock_get hb
        have hlt := (List.getElem?_eq_some_iff.mp hb2).1
        obtain ⟨p, x, i1, j1, o1⟩ := B.item hlt
        have e4 : x = .block := Option.some.inj (j1.symm.trans hb2)
        subst e4
        obtain ⟨dx, o2⟩ := o1
        refine ⟨_, rfl, _, rfl, l, _, _, _, rfl, rfl, SqL.of B.lst, at_ref i1, ?_⟩
        refine ⟨_, rfl, _, rfl, p, A.cB, dx, _, rfl, o2, T.clB, T.nB_cost, (by show 2 < 1000; decide), ?_⟩
        refine k _ as (B.recost (dx := dx) hb2 i1 hc) fun b' o h _ hn => ?_
        rw [upd_ne (fun z => hn (by rw [z]; exact List.mem_of_getElem? i1))]
        exact h
end
end Wp

set_option maxHeartbeats 2000000
namespace Wp
open PySem PySem.Spec PyProof.Rows L2
open PySem.W (Codec)
open WcP (Good Fit Wf)
abbrev s_run_weight : Stmt := top 18
abbrev s_run_weights : Stmt := top 19
abbrev s_block_costs : Stmt := top 20
abbrev s_block_counts : Stmt := top 21
abbrev s_run_costs : Stmt := top 22
abbrev s_times_in_runs : Stmt := top 23
/-! numbers in a list -/
def nvs (ts : List Nat) : List V := ts.map fun n => V.int (n : Nat)
theorem ints_len (ts : List Nat) : (nvs ts).length = ts.length := List.length_map ..
theorem ints_snoc (ts : List Nat) (n : Nat) : nvs (ts ++ [n]) = nvs ts ++ [V.int (n : Nat)] := List.map_append
theorem ints_at {ts : List Nat} {n : Nat} (h : n < ts.length) : (nvs ts)[n]? = some (V.int (ts.getD n 0 : Nat)) := by
  unfold nvs
  rw [List.getElem?_map, List.getD_eq_getElem?_getD, List.getElem?_eq_getElem h]
  rfl
theorem at_i {ts : List Nat} {n : Nat} (h : n < ts.length) : atI (nvs ts) (n : Int) = some (.int (ts.getD n 0 : Nat)) := atI_nat (ints_at h)
theorem same_new {H : Hp} {l : Addr} {o : HO} (h : H l = none) : Same H (upd H l o) := fun b u e => by
  rw [upd_ne (ne_of_none e h)]
  exact e
theorem same_upd {H H' : Hp} {l : Addr} {o : HO} (h : H l = none) (e : Same H H') : Same H (upd H' l o) := fun b u q => by
  rw [upd_ne (ne_of_none q h)]
  exact e b u q
theorem take_snoc {α : Type} {l : List α} {i : Nat} {x : α} (h : l[i]? = some x) : l.take (i + 1) = l.take i ++ [x] := by
  rw [List.take_succ, h]
  rfl
theorem good_fit {s : Wc.State} (G : Good s) {k : Nat} {x : Wc.Piece} (h : s.pieces[k]? = some x) : Fit k x := by
  have hb := G.wf k x h
  cases x with
  | block => trivial
  | seq a b => exact hb
  | alt a b => exact hb
  | loop a lo hi => exact ⟨hb, (G.hi k a lo hi h).1, (G.hi k a lo hi h).2⟩
  | call a f => exact ⟨hb, G.fr k a f h⟩
/-! the least or the most that runs add up -/
def wBy : Bool → (Nat → Nat) → (Nat → Nat) → Nat → Wc.Piece → Nat
  | true => Wc.leastBy
  | false => Wc.mostBy
def wOf : Bool → List Wc.Piece → (Nat → Nat) → Nat → Nat
  | true => Wc.least
  | false => Wc.most
def wT (b : Bool) (w : Nat → Nat) (l : List Wc.Piece) : List Nat := Wc.table 0 (wBy b w) l
theorem wT_len (b : Bool) (w : Nat → Nat) (l : List Wc.Piece) : (wT b w l).length = l.length := WcP.table_length _ _ l
theorem wT_snoc (b : Bool) (w : Nat → Nat) (l : List Wc.Piece) (x : Wc.Piece) : wT b w (l ++ [x]) = wT b w l ++ [wBy b w (fun k => (wT b w l).getD k 0) l.length x] := by
  have e := WcP.table_snoc 0 (wBy b w) l x
  rw [WcP.table_length] at e
  exact e
theorem wT_at {b : Bool} {l : List Wc.Piece} (W : Wf l) {w w' : Nat → Nat} (hw : ∀ n, l[n]? = some .block → w n = w' n) {k : Nat} (hk : k < l.length) : (wT b w l).getD k 0 = wOf b l w' k := by
  cases b with
  | true => exact WcP.least_congr W hw k hk
  | false => exact WcP.most_congr W hw k hk
section
variable {P : Program} {w : World} {K : PySem.W.Frag} {mg : Str → Option Value} {base : Heap} {A : Adr}
/-! run_weight -/
def sp_run_weight (A : Adr) : Sp := fun vs H Q _ => ∃ (p f : Addr) (wt : Nat → Nat) (c n k : Nat) (x : Wc.Piece) (b : Bool) (ts : List Nat), vs = [.ref p, .int (wt k : Nat), .ref f, .bl b] ∧ PcAt A H p c n x ∧ H f = some (.lst (nvs ts)) ∧ Fit ts.length x ∧
  ∀ H', Same H H' → Q (.int (wBy b wt (fun j => ts.getD j 0) k x : Nat)) H'
theorem sc_run_weight : FnScope ["program", "weight", "found", "least", "either"] ["program", "weight", "found", "least"] (defScope s_run_weight) := ⟨rfl, rfl, rfl, by decide +kernel, rfl, by decide +kernel, by decide +kernel⟩
theorem ok_run_weight {f : Addr} {fd : FuncData} (D : Def K mg "run_weight" s_run_weight ["program", "weight", "found", "least"] f fd) (T : Txt K mg A) : FnOk P w K mg base CX0 1 f fd ["program", "weight", "found", "least"] (sp_run_weight A) := by
  have sc := @sc_run_weight
  refine D.fn.ok sc (fun vs H Q E h => ?_) (fun cdv A' outer s' H vs Q E hr h => ?_)
  · obtain ⟨p, f, wt, c, n, k, x, b, ts, rfl, _⟩ := h
    rfl
  · obtain ⟨p, fo, wt, c, n, k, x, b, ts, rfl, hp, hf, hx, kk⟩ := h
    refine ⟨_, (pss_cons (ps_if (pt_val (pe_callB call_isinst (by rfl) T.no_isinstance boot_isinstance5 (pa_cons (pv 0) (pa_cons (pe_gl T.Block) pa_nil)))) (pss_one (ps_ret (pv 1))) pss_nil)
      (pss_cons (ps_if (pt_val (pe_callB call_isinst (by rfl) T.no_isinstance boot_isinstance5 (pa_cons (pv 0) (pa_cons (pe_gl T.Seq) pa_nil)))) (pss_one (ps_ret (pe_op op_add (pe_ix ix_list (pv 2) (pe_fld (pv 0) rfl) (fun _ _ => rfl)) (pe_ix ix_list (pv 2) (pe_fld (pv 0) rfl) (fun _ _ => rfl))))) pss_nil)
      (pss_cons (ps_if (pt_val (pe_callB call_isinst (by rfl) T.no_isinstance boot_isinstance5 (pa_cons (pv 0) (pa_cons (pe_gl T.Alt) pa_nil)))) (pss_cons (ps_set (i := 4) sc.nd rfl (Or.inl rfl) (pe_lst (pa_cons (pe_ix ix_list (pv 2) (pe_fld (pv 0) rfl) (fun _ _ => rfl)) (pa_cons (pe_ix ix_list (pv 2) (pe_fld (pv 0) rfl) (fun _ _ => rfl)) pa_nil))))
      (pss_one (ps_ret (pe_ifExp (pt_val (pv 3)) (pe_callB (cr_min rfl) (by rfl) T.no_min boot_min (pa_cons (pv 4) pa_nil)) (pe_callB (cr_max rfl) (by rfl) T.no_max boot_max (pa_cons (pv 4) pa_nil)))))) pss_nil)
      (pss_cons (ps_if (pt_val (pe_callB call_isinst (by rfl) T.no_isinstance boot_isinstance5 (pa_cons (pv 0) (pa_cons (pe_gl T.Loop) pa_nil)))) (pss_one (ps_ret (pe_op op_mul (pe_ix ix_list (pv 2) (pe_fld (pv 0) rfl) (fun _ _ => rfl)) (pe_ifExp (pt_val (pv 3)) (pe_fld (pv 0) rfl) (pe_fld (pv 0) rfl))))) pss_nil)
      (pss_one (ps_ret (pe_ix ix_list (pv 2) (pe_fld (pv 0) rfl) (fun _ _ => rfl)))))))), ?_⟩
    cases x with
    | block =>
      obtain ⟨dx, e⟩ := hp
      refine ⟨_, rfl, _, _, _, _, rfl, T.tyB.of T.clB e, T.kB.qB, _, rfl, iteT ⟨_, rfl, ?_⟩⟩
      have e1 : wBy b wt (fun j => ts.getD j 0) k .block = wt k := by cases b <;> rfl
      rw [e1] at kk
      exact kk H (Same.refl H)
    | seq a b' =>
      obtain ⟨dx, e⟩ := hp
      refine ⟨_, rfl, _, _, _, _, rfl, T.tyS.of T.clS e, T.kS.qB, _, rfl, iteF ?_⟩
      refine ⟨_, rfl, _, _, _, _, rfl, T.tyS.of T.clS e, T.kS.qS, _, rfl, iteT ?_⟩
      refine ⟨_, rfl, _, rfl, p, _, dx, _, _, rfl, e, T.clS, T.nS_first, rfl, fo, _, _, _, rfl, rfl, SqL.of hf, at_i hx.1, _, rfl, _, rfl, p, _, dx, _, _, rfl, e, T.clS, T.nS_second, rfl, fo, _, _, _, rfl, rfl, SqL.of hf, at_i hx.2, _, _, rfl, rfl, ?_⟩
      have e1 : wBy b wt (fun j => ts.getD j 0) k (.seq a b') = ts.getD a 0 + ts.getD b' 0 := by cases b <;> rfl
      rw [e1] at kk
      exact kk H (Same.refl H)
    | alt a b' =>
      obtain ⟨dx, e⟩ := hp
      refine ⟨_, rfl, _, _, _, _, rfl, T.tyA.of T.clA e, T.kA.qB, _, rfl, iteF ?_⟩
      refine ⟨_, rfl, _, _, _, _, rfl, T.tyA.of T.clA e, T.kA.qS, _, rfl, iteF ?_⟩
      refine ⟨_, rfl, _, _, _, _, rfl, T.tyA.of T.clA e, T.kA.qA, _, rfl, iteT ?_⟩
      refine ⟨_, rfl, _, rfl, p, _, dx, _, _, rfl, e, T.clA, T.nA_first, rfl, fo, _, _, _, rfl, rfl, SqL.of hf, at_i hx.1, _, rfl, _, rfl, p, _, dx, _, _, rfl, e, T.clA, T.nA_second, rfl, fo, _, _, _, rfl, rfl, SqL.of hf, at_i hx.2, (by show 2 ≤ sizeLine; decide), fun l hl => ?_⟩
      cases b with
      | true =>
        refine ⟨_, rfl, _, rfl, iteT ⟨_, rfl, l, [(ts.getD a 0 : Nat), (ts.getD b' 0 : Nat)], rfl, SqL.of upd_same, Nat.succ_pos _, fun m hm hle => ?_⟩⟩
        have h1 := hle (ts.getD a 0 : Nat) (by simp)
        have h2 := hle (ts.getD b' 0 : Nat) (by simp)
        have e1 : m = ((min (ts.getD a 0) (ts.getD b' 0) : Nat) : Int) := by
          simp only [List.mem_cons, List.not_mem_nil, or_false] at hm
          omega
        rw [e1]
        exact kk _ (same_new hl)
      | false =>
        refine ⟨_, rfl, _, rfl, iteF ⟨_, rfl, l, [(ts.getD a 0 : Nat), (ts.getD b' 0 : Nat)], rfl, SqL.of upd_same, Nat.succ_pos _, fun m hm hle => ?_⟩⟩
        have h1 := hle (ts.getD a 0 : Nat) (by simp)
        have h2 := hle (ts.getD b' 0 : Nat) (by simp)
        have e1 : m = ((max (ts.getD a 0) (ts.getD b' 0) : Nat) : Int) := by
          simp only [List.mem_cons, List.not_mem_nil, or_false] at hm
          omega
        rw [e1]
        exact kk _ (same_new hl)
    | loop a lo hi =>
      obtain ⟨dx, e⟩ := hp
      obtain ⟨ha, hlo, hhi⟩ := hx
      refine ⟨_, rfl, _, _, _, _, rfl, T.tyL.of T.clL e, T.kL.qB, _, rfl, iteF ?_⟩
      refine ⟨_, rfl, _, _, _, _, rfl, T.tyL.of T.clL e, T.kL.qS, _, rfl, iteF ?_⟩
      refine ⟨_, rfl, _, _, _, _, rfl, T.tyL.of T.clL e, T.kL.qA, _, rfl, iteF ?_⟩
      refine ⟨_, rfl, _, _, _, _, rfl, T.tyL.of T.clL e, T.kL.qL, _, rfl, iteT ?_⟩
      refine ⟨_, rfl, _, rfl, p, _, dx, _, _, rfl, e, T.clL, T.nL_body, rfl, fo, _, _, _, rfl, rfl, SqL.of hf, at_i ha, _, rfl, _, rfl, ?_⟩
      cases b with
      | true =>
        refine iteT ⟨_, rfl, p, _, dx, _, _, rfl, e, T.clL, T.nL_lo, rfl, _, _, rfl, rfl, .inr ⟨by omega, by omega⟩, ?_⟩
        have e1 : ((ts.getD a 0 : Nat) : Int) * (lo : Int) = ((lo * ts.getD a 0 : Nat) : Int) := by rw [Int.natCast_mul, Int.mul_comm]
        dsimp only
        rw [e1]
        exact kk H (Same.refl H)
      | false =>
        refine iteF ⟨_, rfl, p, _, dx, _, _, rfl, e, T.clL, T.nL_hi, rfl, _, _, rfl, rfl, .inr ⟨by omega, by omega⟩, ?_⟩
        have e1 : ((ts.getD a 0 : Nat) : Int) * (hi : Int) = ((hi * ts.getD a 0 : Nat) : Int) := by rw [Int.natCast_mul, Int.mul_comm]
        dsimp only
        rw [e1]
        exact kk H (Same.refl H)
    | call a fr =>
      obtain ⟨dx, e⟩ := hp
      refine ⟨_, rfl, _, _, _, _, rfl, T.tyC.of T.clC e, T.kC.qB, _, rfl, iteF ?_⟩
      refine ⟨_, rfl, _, _, _, _, rfl, T.tyC.of T.clC e, T.kC.qS, _, rfl, iteF ?_⟩
      refine ⟨_, rfl, _, _, _, _, rfl, T.tyC.of T.clC e, T.kC.qA, _, rfl, iteF ?_⟩
      refine ⟨_, rfl, _, _, _, _, rfl, T.tyC.of T.clC e, T.kC.qL, _, rfl, iteF ?_⟩
      refine ⟨_, rfl, _, rfl, p, _, dx, _, _, rfl, e, T.clC, T.nC_body, rfl, fo, _, _, _, rfl, rfl, SqL.of hf, at_i hx.1, ?_⟩
      have e1 : wBy b wt (fun j => ts.getD j 0) k (.call a fr) = ts.getD a 0 := by cases b <;> rfl
      rw [e1] at kk
      exact kk H (Same.refl H)
/-! run_weights -/
def sp_run_weights (A : Adr) : Sp := fun vs H Q _ => ∃ (l wl : Addr) (s : Wc.State) (as : List Addr) (ws : List Nat) (b : Bool), vs = [.ref l, .ref wl, .bl b] ∧ ProgAt A H l s as ∧ H wl = some (.lst (nvs ws)) ∧ ws.length = s.pieces.length ∧
  ∀ (H' : Hp) (f : Addr), Same H H' → H f = none → H' f = some (.lst (nvs (wT b (fun n => ws.getD n 0) s.pieces))) → Q (.ref f) H'
theorem sc_run_weights : FnScope ["programs", "weights", "least", "found", "program"] ["programs", "weights", "least"] (defScope s_run_weights) := ⟨rfl, rfl, rfl, by decide +kernel, rfl, by decide +kernel, by decide +kernel⟩
theorem refs_at {as : List Addr} {i : Nat} {y : V} (h : (as.map V.ref)[i]? = some y) : ∃ p, as[i]? = some p ∧ y = .ref p := by
  rw [List.getElem?_map] at h
  cases e : as[i]? with
  | none => rw [e] at h; cases h
  | some p => rw [e] at h; exact ⟨p, rfl, (Option.some.inj h).symm⟩
theorem ProgAt.get {H : Hp} {l : Addr} {s : Wc.State} {as : List Addr} (B : ProgAt A H l s as) {i : Nat} {p : Addr} (h : as[i]? = some p) : ∃ x, i < s.pieces.length ∧ s.pieces[i]? = some x ∧ PcAt A H p (Wc.costOf s i) (Wc.longest s.pieces i) x := by
  have hi : i < s.pieces.length := by rw [← B.len]; exact (List.getElem?_eq_some_iff.mp h).1
  exact ⟨_, hi, List.getElem?_eq_getElem hi, B.at_ i p _ h (List.getElem?_eq_getElem hi)⟩
theorem ProgAt.few {H : Hp} {l : Addr} {s : Wc.State} {as : List Addr} (B : ProgAt A H l s as) : s.pieces.length ≤ 64 := B.good.few
theorem ok_run_weights {f f1 : Addr} {fd fd1 : FuncData} (D : Def K mg "run_weights" s_run_weights ["programs", "weights", "least"] f fd) (T : Txt K mg A) (D_run_weight : Def K mg "run_weight" s_run_weight ["program", "weight", "found", "least"] f1 fd1) :
    FnOk P w K mg base CX0 2 f fd ["programs", "weights", "least"] (sp_run_weights A) := by
  have G_run_weight : FnOk P w K mg base CX0 1 f1 fd1 ["program", "weight", "found", "least"] (sp_run_weight A) := ok_run_weight D_run_weight T
  have sc := @sc_run_weights
  refine D.fn.ok sc (fun vs H Q E h => ?_) (fun cdv A' outer s' H vs Q E hr h => ?_)
  · obtain ⟨l, wl, s, as, ws, b, rfl, _⟩ := h
    rfl
  · obtain ⟨l, wl, s, as, ws, b, rfl, B, hw, hl, kk⟩ := h
    refine ⟨_, (pss_cons (ps_set (i := 3) sc.nd rfl (Or.inl rfl) (pe_lst pa_nil))
      (pss_cons (ps_for PassesOwn.never rfl (pi_list (pv 0)) (pg_name (i := 4) sc.nd rfl (Or.inl rfl)) (pss_one (ps_expr (pe_bm PySem.F.plainAttrs_list PySem.F.slot_list_append PySem.F.type_list_append mt_append (pv 3) (pa_cons (pe_fn D_run_weight G_run_weight hr (pa_cons (pv 4) (pa_cons (pe_ix ix_list (pv 1) (pe_callB call_len_seq (by rfl) T.no_len PySem.boot_len (pa_cons (pv 3) pa_nil)) (fun _ _ => rfl)) (pa_cons (pv 3) (pa_cons (pv 2) pa_nil))))) pa_nil)))))
      (pss_one (ps_ret (pv 3))))), ?_⟩
    refine ⟨Nat.zero_le _, fun q hq => ?_⟩
    refine ⟨_, rfl, l, rfl, ⟨_, SqL.of (same_new hq _ _ B.lst)⟩, for_list (K := K) (a := l) (xs := as.map V.ref) (fun i σ H' => ∃ v : Option V, σ = [some (.ref l), some (.ref wl), some (.bl b), some (.ref q), v] ∧ Same H H' ∧ H' q = some (.lst (nvs (wT b (fun n => ws.getD n 0) (s.pieces.take i)))))
      ⟨none, rfl, same_new hq, upd_same⟩ (fun i σ H' _ ⟨_, _, s5, _⟩ => SqL.of (s5 _ _ B.lst)) ?_ ?_⟩
    · rintro i y σ H' hi ⟨v, rfl, s5, hq'⟩
      obtain ⟨p, hp, rfl⟩ := refs_at hi
      obtain ⟨x, hlt, hx, hpc⟩ := B.get hp
      have hlen : (wT b (fun n => ws.getD n 0) (s.pieces.take i)).length = i := by rw [wT_len, List.length_take]; omega
      refine ⟨_, rfl, .inl ⟨rfl, _, SqL.of hq'⟩, _, rfl, _, rfl, _, rfl, q, _, rfl, .inl (SqL.of hq'), wl, _, _, _, rfl, rfl, SqL.of (s5 _ _ hw), at_of (j := i) (by rw [ints_len, hlen]) (ints_at (by omega)), _, rfl, _, rfl, ?_⟩
      refine ⟨p, q, (fun n => ws.getD n 0), _, _, i, x, b, _, rfl, hpc.keep fun o e => s5 _ _ e, hq', by rw [hlen]; exact good_fit B.good hx, fun H2 s6 => ?_⟩
      refine ⟨q, _, _, rfl, rfl, s6 _ _ hq', small1000 (by rw [ints_len, hlen]; have := B.few; omega), ?_⟩
      refine ⟨_, rfl, same_upd hq (s5.trans s6), ?_⟩
      rw [upd_same, take_snoc hx, wT_snoc, ints_snoc, List.length_take, Nat.min_eq_left (by omega)]
    · rintro σ H2' ⟨v, rfl, s5, hq'⟩
      rw [List.length_map, B.len, List.take_length] at hq'
      exact ⟨_, rfl, kk H2' q s5 hq hq'⟩
end
end Wp

set_option maxHeartbeats 2000000
namespace Wp
open PySem PySem.Spec PyProof.Rows L2
open PySem.W (Codec)
open WcP (Good Fit Wf)
section
variable {P : Program} {w : World} {K : PySem.W.Frag} {mg : Str → Option Value} {base : Heap} {A : Adr}
/-! block_costs -/
def bc (s : Wc.State) (k : Nat) : Nat := if Wc.isBlock s k = true then Wc.costOf s k else 0
theorem range_snoc {α : Type} (g : Nat → α) (i : Nat) : (List.range (i + 1)).map g = (List.range i).map g ++ [g i] := by
  rw [List.range_succ, List.map_append]
  rfl
theorem range_at (g : Nat → Nat) {n k : Nat} (h : k < n) : ((List.range n).map g).getD k 0 = g k := by
  rw [List.getD_eq_getElem?_getD, List.getElem?_map, List.getElem?_range h]
  rfl
theorem range_len (g : Nat → Nat) (n : Nat) : ((List.range n).map g).length = n := by
  rw [List.length_map, List.length_range]
theorem bc_block {s : Wc.State} {n : Nat} (h : s.pieces[n]? = some .block) : ((List.range s.pieces.length).map (bc s)).getD n 0 = Wc.costOf s n := by
  rw [range_at _ (List.getElem?_eq_some_iff.mp h).1]
  unfold bc
  rw [isBlock_at h]
  rfl
def sp_block_costs (A : Adr) : Sp := fun vs H Q _ => ∃ (l : Addr) (s : Wc.State) (as : List Addr), vs = [.ref l] ∧ ProgAt A H l s as ∧
  ∀ (H' : Hp) (f : Addr), Same H H' → H f = none → H' f = some (.lst (nvs ((List.range s.pieces.length).map (bc s)))) → Q (.ref f) H'
theorem sc_block_costs : FnScope ["programs", "program"] ["programs"] (defScope s_block_costs) := ⟨rfl, rfl, rfl, by decide +kernel, rfl, by decide +kernel, by decide +kernel⟩
theorem ok_block_costs {f : Addr} {fd : FuncData} (D : Def K mg "block_costs" s_block_costs ["programs"] f fd) (T : Txt K mg A) : FnOk P w K mg base CX0 1 f fd ["programs"] (sp_block_costs A) := by
  have sc := @sc_block_costs
  refine D.fn.ok sc (fun vs H Q E h => ?_) (fun cdv A' outer s' H vs Q E hr h => ?_)
  · obtain ⟨l, s, as, rfl, _⟩ := h
    rfl
  · obtain ⟨l, s, as, rfl, B, kk⟩ := h
    refine ⟨_, (pss_one (ps_ret (pe_lc rfl sc.nd (pi_list (pv 0)) (blkOk_by (own := [("program", 1)]) (by show blkC ["programs", "program"] (defScope s_block_costs) _ _ = true; decide +kernel)) (fun _ _ _ _ _ => pg_name (i := 1) sc.nd rfl (Or.inl rfl)) (fun _ _ _ _ _ => pts_nil)
      (fun _ _ _ _ _ => pe_ifExp (pt_val (pe_callB (call_isinstK (K := K)) (by rfl) T.no_isinstance boot_isinstance5 (pa_cons (pv 1) (pa_cons (pe_gl T.Block) pa_nil)))) (pe_fldK (K := K) (pv 1)) pe_int)))), ?_⟩
    refine ⟨_, rfl, l, rfl, ⟨_, SqL.of B.lst⟩, fun q hq => ?_⟩
    refine lc_list (K := K) (a := l) (xs := as.map V.ref) (fun i H' => Same H H' ∧ H' q = some (.lst (nvs ((List.range i).map (bc s))))) ⟨same_new hq, upd_same⟩ (fun i H' _ h => SqL.of (h.1 _ _ B.lst)) ?_ ?_
    · rintro i y H' hi ⟨s5, hq'⟩
      obtain ⟨p, hp, rfl⟩ := refs_at hi
      obtain ⟨x, hlt, hx, hpc⟩ := B.get hp
      have hpc' := hpc.keep fun o e => s5 _ _ e
      have fin : ∀ n : Nat, n = bc s i → ∃ acc, H' q = some (.lst acc) ∧ acc.length < sizeLine ∧ (Same H (upd H' q (.lst (acc ++ [V.int (n : Nat)]))) ∧ (upd H' q (.lst (acc ++ [V.int (n : Nat)]))) q = some (.lst (nvs ((List.range (i + 1)).map (bc s))))) := fun n hn => by
        refine ⟨_, hq', small1000 (by rw [ints_len, range_len]; have := B.few; omega), same_upd hq s5, ?_⟩
        rw [upd_same, range_snoc, ints_snoc, hn]
      have e0 : bc s i = if isB x = true then Wc.costOf s i else 0 := by
        unfold bc
        rw [isBlock_at hx]
      obtain ⟨t, ty, kt⟩ := kit_of T hpc'
      refine ⟨rfl, _, rfl, _, _, t, _, rfl, ty, kt, _, rfl, ?_⟩
      cases x with
      | block =>
        obtain ⟨dx, e⟩ := hpc'
        refine iteT ⟨_, rfl, p, _, dx, _, _, rfl, e, T.clB, T.nB_cost, rfl, ?_⟩
        exact fin _ e0.symm
      | seq _ _ => exact iteF (fin 0 e0.symm)
      | alt _ _ => exact iteF (fin 0 e0.symm)
      | loop _ _ _ => exact iteF (fin 0 e0.symm)
      | call _ _ => exact iteF (fin 0 e0.symm)
    · rintro H' ⟨s5, hq'⟩
      rw [List.length_map, B.len] at hq'
      exact kk H' q s5 hq hq'
/-! block_counts -/
def sp_block_counts (A : Adr) : Sp := fun vs H Q _ => ∃ (l : Addr) (b : Nat) (s : Wc.State) (as : List Addr), vs = [.ref l, .int (b : Nat)] ∧ ProgAt A H l s as ∧
  ∀ (H' : Hp) (f : Addr), Same H H' → H f = none → H' f = some (.lst (nvs ((List.range s.pieces.length).map (Wc.isOne b)))) → Q (.ref f) H'
theorem sc_block_counts : FnScope ["programs", "block", "number"] ["programs", "block"] (defScope s_block_counts) := ⟨rfl, rfl, rfl, by decide +kernel, rfl, by decide +kernel, by decide +kernel⟩
theorem ok_block_counts {f : Addr} {fd : FuncData} (D : Def K mg "block_counts" s_block_counts ["programs", "block"] f fd) (T : Txt K mg A) : FnOk P w K mg base CX0 1 f fd ["programs", "block"] (sp_block_counts A) := by
  have sc := @sc_block_counts
  refine D.fn.ok sc (fun vs H Q E h => ?_) (fun cdv A' outer s' H vs Q E hr h => ?_)
  · obtain ⟨l, b, s, as, rfl, _⟩ := h
    rfl
  · obtain ⟨l, b, s, as, rfl, B, kk⟩ := h
    refine ⟨_, (pss_one (ps_ret (pe_lc rfl sc.nd (pi_range1 rfl T.no_range (pa_cons (pe_callB call_len_seq (by rfl) T.no_len PySem.boot_len (pa_cons (pv 0) pa_nil)) pa_nil)) (blkOk_by (own := [("number", 2)]) (by show blkC ["programs", "block", "number"] (defScope s_block_counts) _ _ = true; decide +kernel)) (fun _ _ _ _ _ => pg_name (i := 2) sc.nd rfl (Or.inl rfl)) (fun _ _ _ _ _ => pts_nil)
      (fun _ _ _ _ _ => pe_ifExp (pt_cmpR op_eq (pv 2) (pv 1) (nomark _)) pe_int pe_int)))), ?_⟩
    have h64 := B.few
    have hz : (((as.map V.ref).length : Nat) : Int).toNat = s.pieces.length := by rw [List.length_map, B.len, Int.toNat_natCast]
    have hlen : (as.map V.ref).length = s.pieces.length := by rw [List.length_map, B.len]
    refine ⟨_, rfl, l, _, rfl, .inl (SqL.of B.lst), _, rfl, by omega, by omega, fun q hq => ?_⟩
    rw [hz]
    refine lc_range (lo := 0) (n := s.pieces.length) (fun i H' => Same H H' ∧ H' q = some (.lst (nvs ((List.range i).map (Wc.isOne b))))) ⟨same_new hq, upd_same⟩ ?_ ?_
    · rintro i H' hi ⟨s5, hq'⟩
      have fin : ∀ n : Nat, n = Wc.isOne b i → ∃ acc, H' q = some (.lst acc) ∧ acc.length < sizeLine ∧ (Same H (upd H' q (.lst (acc ++ [V.int (n : Nat)]))) ∧ (upd H' q (.lst (acc ++ [V.int (n : Nat)]))) q = some (.lst (nvs ((List.range (i + 1)).map (Wc.isOne b))))) := fun n hn => by
        refine ⟨_, hq', small1000 (by rw [ints_len, range_len]; omega), same_upd hq s5, ?_⟩
        rw [upd_same, range_snoc, ints_snoc, hn]
      refine ⟨rfl, _, rfl, _, rfl, rfl, _, rfl, ite2 (fun h => ?_) (fun h => ?_)⟩
      · have h1 : V.int (0 + (i : Int)) = V.int (b : Int) := of_decide_eq_true h
        have h2 : i = b := by injection h1 with h1; omega
        exact fin 1 (by unfold Wc.isOne; rw [if_pos h2])
      · have h1 : ¬ V.int (0 + (i : Int)) = V.int (b : Int) := fun z => h (decide_eq_true z)
        have h2 : ¬ i = b := fun z => h1 (by rw [z, Int.zero_add])
        exact fin 0 (by unfold Wc.isOne; rw [if_neg h2])
    · rintro H' ⟨s5, hq'⟩
      exact kk H' q s5 hq hq'
/-! run_costs, times_in_runs -/
/-- a list of what is told of every program -/
def TabAt (H : Hp) (f : Addr) (n : Nat) (g : Nat → Nat) : Prop := ∃ ts : List Nat, H f = some (.lst (nvs ts)) ∧ ts.length = n ∧ ∀ k, k < n → ts.getD k 0 = g k
def sp_run_costs (A : Adr) : Sp := fun vs H Q _ => ∃ (l : Addr) (s : Wc.State) (as : List Addr) (b : Bool), vs = [.ref l, .bl b] ∧ ProgAt A H l s as ∧
  ∀ (H' : Hp) (f : Addr), Same H H' → H f = none → TabAt H' f s.pieces.length (wOf b s.pieces (Wc.costOf s)) → Q (.ref f) H'
theorem sc_run_costs : FnScope ["programs", "least"] ["programs", "least"] (defScope s_run_costs) := ⟨rfl, rfl, rfl, by decide +kernel, rfl, by decide +kernel, by decide +kernel⟩
theorem ok_run_costs {f f1 f2 f3 : Addr} {fd fd1 fd2 fd3 : FuncData} (D : Def K mg "run_costs" s_run_costs ["programs", "least"] f fd) (T : Txt K mg A) (D_run_weights : Def K mg "run_weights" s_run_weights ["programs", "weights", "least"] f1 fd1)
    (D_run_weight : Def K mg "run_weight" s_run_weight ["program", "weight", "found", "least"] f2 fd2) (D_block_costs : Def K mg "block_costs" s_block_costs ["programs"] f3 fd3) : FnOk P w K mg base CX0 3 f fd ["programs", "least"] (sp_run_costs A) := by
  have G_run_weights : FnOk P w K mg base CX0 2 f1 fd1 ["programs", "weights", "least"] (sp_run_weights A) := ok_run_weights D_run_weights T D_run_weight
  have G_block_costs : FnOk P w K mg base CX0 1 f3 fd3 ["programs"] (sp_block_costs A) := ok_block_costs D_block_costs T
  refine D.fn.ok sc_run_costs (fun vs H Q E h => ?_) (fun cdv A' outer s' H vs Q E hr h => ?_)
  · obtain ⟨l, s, as, b, rfl, _⟩ := h
    rfl
  · obtain ⟨l, s, as, b, rfl, B, kk⟩ := h
    refine ⟨_, (pss_one (ps_ret (pe_fn D_run_weights G_run_weights hr (pa_cons (pv 0) (pa_cons (pe_fn D_block_costs G_block_costs hr (pa_cons (pv 0) pa_nil)) (pa_cons (pv 1) pa_nil)))))), ?_⟩
    refine ⟨_, rfl, _, rfl, l, s, as, rfl, B, fun H1 q s1 hq hq1 => ?_⟩
    refine ⟨_, rfl, l, q, s, as, _, b, rfl, B.same s1, hq1, range_len _ _, fun H2 f2 s2 hf2 hf => ?_⟩
    exact kk H2 f2 (s1.trans s2) (s1.free hf2) ⟨_, hf, wT_len _ _ _, fun k hk => wT_at B.good.wf (fun n hn => bc_block hn) hk⟩
def sp_times_in_runs (A : Adr) : Sp := fun vs H Q _ => ∃ (l : Addr) (bl : Nat) (s : Wc.State) (as : List Addr) (b : Bool), vs = [.ref l, .int (bl : Nat), .bl b] ∧ ProgAt A H l s as ∧
  ∀ (H' : Hp) (f : Addr), Same H H' → H f = none → TabAt H' f s.pieces.length (wOf b s.pieces (Wc.isOne bl)) → Q (.ref f) H'
theorem sc_times_in_runs : FnScope ["programs", "block", "least"] ["programs", "block", "least"] (defScope s_times_in_runs) := ⟨rfl, rfl, rfl, by decide +kernel, rfl, by decide +kernel, by decide +kernel⟩
theorem ok_times_in_runs {f f1 f2 f3 : Addr} {fd fd1 fd2 fd3 : FuncData} (D : Def K mg "times_in_runs" s_times_in_runs ["programs", "block", "least"] f fd) (T : Txt K mg A) (D_run_weights : Def K mg "run_weights" s_run_weights ["programs", "weights", "least"] f1 fd1)
    (D_run_weight : Def K mg "run_weight" s_run_weight ["program", "weight", "found", "least"] f2 fd2) (D_block_counts : Def K mg "block_counts" s_block_counts ["programs", "block"] f3 fd3) : FnOk P w K mg base CX0 3 f fd ["programs", "block", "least"] (sp_times_in_runs A) := by
  have G_run_weights : FnOk P w K mg base CX0 2 f1 fd1 ["programs", "weights", "least"] (sp_run_weights A) := ok_run_weights D_run_weights T D_run_weight
  have G_block_counts : FnOk P w K mg base CX0 1 f3 fd3 ["programs", "block"] (sp_block_counts A) := ok_block_counts D_block_counts T
  refine D.fn.ok sc_times_in_runs (fun vs H Q E h => ?_) (fun cdv A' outer s' H vs Q E hr h => ?_)
  · obtain ⟨l, bl, s, as, b, rfl, _⟩ := h
    rfl
  · obtain ⟨l, bl, s, as, b, rfl, B, kk⟩ := h
    refine ⟨_, (pss_one (ps_ret (pe_fn D_run_weights G_run_weights hr (pa_cons (pv 0) (pa_cons (pe_fn D_block_counts G_block_counts hr (pa_cons (pv 0) (pa_cons (pv 1) pa_nil))) (pa_cons (pv 2) pa_nil)))))), ?_⟩
    refine ⟨_, rfl, _, rfl, _, rfl, l, bl, s, as, rfl, B, fun H1 q s1 hq hq1 => ?_⟩
    refine ⟨_, rfl, l, q, s, as, _, b, rfl, B.same s1, hq1, range_len _ _, fun H2 f2 s2 hf2 hf => ?_⟩
    exact kk H2 f2 (s1.trans s2) (s1.free hf2) ⟨_, hf, wT_len _ _ _, fun k hk => wT_at B.good.wf (fun n hn => range_at _ (List.getElem?_eq_some_iff.mp hn).1) hk⟩
end
end Wp

set_option maxHeartbeats 2000000
namespace Wp
open PySem PySem.Spec PyProof.Rows L2
open PySem.W (Codec)
open WcP (Good Fit Wf)
abbrev s_stack_of_one : Stmt := top 24
abbrev s_most_stacks : Stmt := top 25
abbrev s_dearest_with : Stmt := top 26
abbrev s_slack_of : Stmt := top 27
section
variable {P : Program} {w : World} {K : PySem.W.Frag} {mg : Str → Option Value} {base : Heap} {A : Adr}
/-! stack_of_one -/
def sp_stack_of_one (A : Adr) : Sp := fun vs H Q _ => ∃ (p f : Addr) (c n k : Nat) (x : Wc.Piece) (ts : List Nat), vs = [.ref p, .ref f] ∧ PcAt A H p c n x ∧ H f = some (.lst (nvs ts)) ∧ Fit ts.length x ∧
  Q (.int (Wc.stackBy (fun j => ts.getD j 0) k x : Nat)) H
theorem sc_stack_of_one : FnScope ["program", "found"] ["program", "found"] (defScope s_stack_of_one) := ⟨rfl, rfl, rfl, by decide +kernel, rfl, by decide +kernel, by decide +kernel⟩
theorem max_int (a b : Nat) : (if (b : Int) > (a : Int) then (b : Int) else (a : Int)) = ((max a b : Nat) : Int) := by
  by_cases h : (b : Int) > (a : Int)
  · rw [if_pos h]; omega
  · rw [if_neg h]; omega
theorem ok_stack_of_one {f : Addr} {fd : FuncData} (D : Def K mg "stack_of_one" s_stack_of_one ["program", "found"] f fd) (T : Txt K mg A) : FnOk P w K mg base CX0 1 f fd ["program", "found"] (sp_stack_of_one A) := by
  refine D.fn.ok sc_stack_of_one (fun vs H Q E h => ?_) (fun cdv A' outer s' H vs Q E hr h => ?_)
  · obtain ⟨p, f, c, n, k, x, ts, rfl, _⟩ := h
    rfl
  · obtain ⟨p, fo, c, n, k, x, ts, rfl, hp, hf, hx, kk⟩ := h
    refine ⟨_, (pss_cons (ps_if (pt_val (pe_callB call_isinst (by rfl) T.no_isinstance boot_isinstance5 (pa_cons (pv 0) (pa_cons (pe_gl T.Block) pa_nil)))) (pss_one (ps_ret pe_int)) pss_nil)
      (pss_cons (ps_if (pt_val (pe_callB call_isinst (by rfl) T.no_isinstance boot_isinstance5 (pa_cons (pv 0) (pa_cons (pe_gl T.Pair) pa_nil)))) (pss_one (ps_ret (pe_callB (call_max2 rfl) (by rfl) T.no_max boot_max (pa_cons (pe_ix ix_list (pv 1) (pe_fld (pv 0) rfl) (fun _ _ => rfl)) (pa_cons (pe_ix ix_list (pv 1) (pe_fld (pv 0) rfl) (fun _ _ => rfl)) pa_nil))))) pss_nil)
      (pss_cons (ps_if (pt_val (pe_callB call_isinst (by rfl) T.no_isinstance boot_isinstance5 (pa_cons (pv 0) (pa_cons (pe_gl T.Call) pa_nil)))) (pss_one (ps_ret (pe_op op_add (pe_ix ix_list (pv 1) (pe_fld (pv 0) rfl) (fun _ _ => rfl)) (pe_fld (pv 0) rfl)))) pss_nil)
      (pss_one (ps_ret (pe_ifExp (pt_cmpR op_gt (pe_fld (pv 0) rfl) pe_int (nomark _)) (pe_ix ix_list (pv 1) (pe_fld (pv 0) rfl) (fun _ _ => rfl)) pe_int)))))), ?_⟩
    cases x with
    | block =>
      obtain ⟨dx, e⟩ := hp
      exact ⟨_, rfl, _, _, _, _, rfl, T.tyB.of T.clB e, T.kB.qB, _, rfl, iteT kk⟩
    | seq a b' =>
      obtain ⟨dx, e⟩ := hp
      refine ⟨_, rfl, _, _, _, _, rfl, T.tyS.of T.clS e, T.kS.qB, _, rfl, iteF ?_⟩
      refine ⟨_, rfl, _, _, _, _, rfl, T.tyS.of T.clS e, T.kS.qP, _, rfl, iteT ?_⟩
      refine ⟨_, rfl, _, rfl, p, _, dx, _, _, rfl, e, T.clS, T.nS_first, rfl, fo, _, _, _, rfl, rfl, SqL.of hf, at_i hx.1, _, rfl, _, rfl, p, _, dx, _, _, rfl, e, T.clS, T.nS_second, rfl, fo, _, _, _, rfl, rfl, SqL.of hf, at_i hx.2, _, _, rfl, ?_⟩
      rw [max_int]
      exact kk
    | alt a b' =>
      obtain ⟨dx, e⟩ := hp
      refine ⟨_, rfl, _, _, _, _, rfl, T.tyA.of T.clA e, T.kA.qB, _, rfl, iteF ?_⟩
      refine ⟨_, rfl, _, _, _, _, rfl, T.tyA.of T.clA e, T.kA.qP, _, rfl, iteT ?_⟩
      refine ⟨_, rfl, _, rfl, p, _, dx, _, _, rfl, e, T.clA, T.nA_first, rfl, fo, _, _, _, rfl, rfl, SqL.of hf, at_i hx.1, _, rfl, _, rfl, p, _, dx, _, _, rfl, e, T.clA, T.nA_second, rfl, fo, _, _, _, rfl, rfl, SqL.of hf, at_i hx.2, _, _, rfl, ?_⟩
      rw [max_int]
      exact kk
    | loop a lo hi =>
      obtain ⟨dx, e⟩ := hp
      refine ⟨_, rfl, _, _, _, _, rfl, T.tyL.of T.clL e, T.kL.qB, _, rfl, iteF ?_⟩
      refine ⟨_, rfl, _, _, _, _, rfl, T.tyL.of T.clL e, T.kL.qP, _, rfl, iteF ?_⟩
      refine ⟨_, rfl, _, _, _, _, rfl, T.tyL.of T.clL e, T.kL.qC, _, rfl, iteF ?_⟩
      refine ⟨_, rfl, p, _, dx, _, _, rfl, e, T.clL, T.nL_hi, rfl, _, _, rfl, rfl, _, rfl, ite2 (fun h => ?_) (fun h => ?_)⟩
      · have h1 : (0 : Int) < (hi : Nat) := of_decide_eq_true h
        refine ⟨_, rfl, _, rfl, p, _, dx, _, _, rfl, e, T.clL, T.nL_body, rfl, fo, _, _, _, rfl, rfl, SqL.of hf, at_i hx.1, ?_⟩
        have e1 : Wc.stackBy (fun j => ts.getD j 0) k (.loop a lo hi) = ts.getD a 0 := if_neg (by omega)
        rw [e1] at kk
        exact kk
      · have h1 : ¬ (0 : Int) < (hi : Nat) := fun z => h (decide_eq_true z)
        have e1 : Wc.stackBy (fun j => ts.getD j 0) k (.loop a lo hi) = 0 := if_pos (by omega)
        rw [e1] at kk
        exact kk
    | call a fr =>
      obtain ⟨dx, e⟩ := hp
      refine ⟨_, rfl, _, _, _, _, rfl, T.tyC.of T.clC e, T.kC.qB, _, rfl, iteF ?_⟩
      refine ⟨_, rfl, _, _, _, _, rfl, T.tyC.of T.clC e, T.kC.qP, _, rfl, iteF ?_⟩
      refine ⟨_, rfl, _, _, _, _, rfl, T.tyC.of T.clC e, T.kC.qC, _, rfl, iteT ?_⟩
      refine ⟨_, rfl, _, rfl, p, _, dx, _, _, rfl, e, T.clC, T.nC_body, rfl, fo, _, _, _, rfl, rfl, SqL.of hf, at_i hx.1, _, rfl, p, _, dx, _, _, rfl, e, T.clC, T.nC_frame, rfl, _, _, rfl, rfl, ?_⟩
      have e1 : ((ts.getD a 0 : Nat) : Int) + ((fr : Nat) : Int) = ((fr + ts.getD a 0 : Nat) : Int) := by omega
      dsimp only
      rw [e1]
      exact kk
/-! most_stacks -/
def sp_most_stacks (A : Adr) : Sp := fun vs H Q _ => ∃ (l : Addr) (s : Wc.State) (as : List Addr), vs = [.ref l] ∧ ProgAt A H l s as ∧
  ∀ (H' : Hp) (f : Addr), Same H H' → TabAt H' f s.pieces.length (Wc.stack s.pieces) → Q (.ref f) H'
theorem sc_most_stacks : FnScope ["programs", "found", "program"] ["programs"] (defScope s_most_stacks) := ⟨rfl, rfl, rfl, by decide +kernel, rfl, by decide +kernel, by decide +kernel⟩
theorem ok_most_stacks {f f1 : Addr} {fd fd1 : FuncData} (D : Def K mg "most_stacks" s_most_stacks ["programs"] f fd) (T : Txt K mg A) (D_stack_of_one : Def K mg "stack_of_one" s_stack_of_one ["program", "found"] f1 fd1) :
    FnOk P w K mg base CX0 2 f fd ["programs"] (sp_most_stacks A) := by
  have G_stack_of_one : FnOk P w K mg base CX0 1 f1 fd1 ["program", "found"] (sp_stack_of_one A) := ok_stack_of_one D_stack_of_one T
  have sc := @sc_most_stacks
  refine D.fn.ok sc (fun vs H Q E h => ?_) (fun cdv A' outer s' H vs Q E hr h => ?_)
  · obtain ⟨l, s, as, rfl, _⟩ := h
    rfl
  · obtain ⟨l, s, as, rfl, B, kk⟩ := h
    refine ⟨_, (pss_cons (ps_set (i := 1) sc.nd rfl (Or.inl rfl) (pe_lst pa_nil))
      (pss_cons (ps_for PassesOwn.never rfl (pi_list (pv 0)) (pg_name (i := 2) sc.nd rfl (Or.inl rfl)) (pss_one (ps_expr (pe_bm PySem.F.plainAttrs_list PySem.F.slot_list_append PySem.F.type_list_append mt_append (pv 1) (pa_cons (pe_fn D_stack_of_one G_stack_of_one hr (pa_cons (pv 2) (pa_cons (pv 1) pa_nil))) pa_nil)))))
      (pss_one (ps_ret (pv 1))))), ?_⟩
    refine ⟨Nat.zero_le _, fun q hq => ?_⟩
    refine ⟨_, rfl, l, rfl, ⟨_, SqL.of (same_new hq _ _ B.lst)⟩, for_list (K := K) (a := l) (xs := as.map V.ref) (fun i σ H' => ∃ v : Option V, σ = [some (.ref l), some (.ref q), v] ∧ Same H H' ∧ H' q = some (.lst (nvs (Wc.table 0 Wc.stackBy (s.pieces.take i)))))
      ⟨none, rfl, same_new hq, upd_same⟩ (fun i σ H' _ ⟨_, _, s5, _⟩ => SqL.of (s5 _ _ B.lst)) ?_ ?_⟩
    · rintro i y σ H' hi ⟨v, rfl, s5, hq'⟩
      obtain ⟨p, hp, rfl⟩ := refs_at hi
      obtain ⟨x, hlt, hx, hpc⟩ := B.get hp
      have hlen : (Wc.table 0 Wc.stackBy (s.pieces.take i)).length = i := by rw [WcP.table_length, List.length_take]; omega
      refine ⟨_, rfl, .inl ⟨rfl, _, SqL.of hq'⟩, _, rfl, _, rfl, ?_⟩
      refine ⟨p, q, _, _, i, x, _, rfl, hpc.keep fun o e => s5 _ _ e, hq', by rw [hlen]; exact good_fit B.good hx, ?_⟩
      refine ⟨q, _, _, rfl, rfl, hq', small1000 (by rw [ints_len, hlen]; have := B.few; omega), ?_⟩
      refine ⟨_, rfl, same_upd hq s5, ?_⟩
      rw [upd_same, take_snoc hx, WcP.table_snoc, ints_snoc, hlen]
    · rintro σ H2' ⟨v, rfl, s5, hq'⟩
      rw [List.length_map, B.len, List.take_length] at hq'
      exact ⟨_, rfl, kk H2' q s5 ⟨_, hq', WcP.table_length _ _ _, fun k hk => rfl⟩⟩
/-! dearest_with -/
theorem tab_at {H : Hp} {f : Addr} {n : Nat} {g : Nat → Nat} (t : TabAt H f n g) {k : Nat} (hk : k < n) : ∃ xs, SqL K H f xs ∧ atI xs (k : Int) = some (.int (g k : Nat)) := by
  obtain ⟨ts, h1, h2, h3⟩ := t
  refine ⟨_, SqL.of h1, ?_⟩
  rw [at_i (by omega), h3 k hk]
def sp_dearest_with (A : Adr) : Sp := fun vs H Q _ => ∃ (l : Addr) (a b d : Nat) (s : Wc.State) (as : List Addr), vs = [.ref l, .int (a : Nat), .int (b : Nat), .int (d : Nat)] ∧ ProgAt A H l s as ∧ a < s.pieces.length ∧ Wc.isBlock s b = true ∧
  ∀ (H' : Hp), Same H H' → Q (.int (Wc.most s.pieces (Wc.dearer s b d) a : Nat)) H'
theorem sc_dearest_with : FnScope ["programs", "number", "block", "more", "costs"] ["programs", "number", "block", "more"] (defScope s_dearest_with) := ⟨rfl, rfl, rfl, by decide +kernel, rfl, by decide +kernel, by decide +kernel⟩
theorem ints_set (ts : List Nat) (k n : Nat) : (nvs ts).set k (V.int (n : Nat)) = nvs (ts.set k n) := by
  unfold nvs
  rw [List.map_set]
theorem ixN_nat {n k : Nat} (h : k < n) : ixN n (k : Int) = some k := by
  unfold ixN
  rw [if_pos (by omega), if_pos (by omega)]
  rfl
theorem ok_dearest_with {f f1 f2 f3 : Addr} {fd fd1 fd2 fd3 : FuncData} (D : Def K mg "dearest_with" s_dearest_with ["programs", "number", "block", "more"] f fd) (T : Txt K mg A) (D_run_weights : Def K mg "run_weights" s_run_weights ["programs", "weights", "least"] f1 fd1)
    (D_run_weight : Def K mg "run_weight" s_run_weight ["program", "weight", "found", "least"] f2 fd2) (D_block_costs : Def K mg "block_costs" s_block_costs ["programs"] f3 fd3) : FnOk P w K mg base CX0 3 f fd ["programs", "number", "block", "more"] (sp_dearest_with A) := by
  have G_run_weights : FnOk P w K mg base CX0 2 f1 fd1 ["programs", "weights", "least"] (sp_run_weights A) := ok_run_weights D_run_weights T D_run_weight
  have G_block_costs : FnOk P w K mg base CX0 1 f3 fd3 ["programs"] (sp_block_costs A) := ok_block_costs D_block_costs T
  have sc := @sc_dearest_with
  refine D.fn.ok sc (fun vs H Q E h => ?_) (fun cdv A' outer s' H vs Q E hr h => ?_)
  · obtain ⟨l, a, b, d, s, as, rfl, _⟩ := h
    rfl
  · obtain ⟨l, a, b, d, s, as, rfl, B, ha, hb, kk⟩ := h
    refine ⟨_, (pss_cons (ps_set (i := 4) sc.nd rfl (Or.inl rfl) (pe_fn D_block_costs G_block_costs hr (pa_cons (pv 0) pa_nil)))
      (pss_cons (ps_augS (pv 4) (pv 2) get_list (pv 3) ip_add set_list)
      (pss_one (ps_ret (pe_ix ix_list (pe_fn D_run_weights G_run_weights hr (pa_cons (pv 0) (pa_cons (pv 4) (pa_cons pe_bl pa_nil)))) (pv 1) (fun _ _ => rfl)))))), ?_⟩
    have hbp := isBlock_get hb
    have hbl : b < s.pieces.length := (List.getElem?_eq_some_iff.mp hbp).1
    refine ⟨_, rfl, l, s, as, rfl, B, fun H1 q s1 hq hq1 => ?_⟩
    have hbl' : b < ((List.range s.pieces.length).map (bc s)).length := by rw [range_len]; exact hbl
    refine ⟨_, rfl, _, rfl, q, _, b, _, rfl, rfl, SqL.of hq1, ints_at hbl', _, rfl, _, _, rfl, rfl, q, _, _, b, rfl, rfl, hq1, ixN_nat (by rw [ints_len]; exact hbl'), ?_⟩
    have s2 : Same H (upd H1 q (.lst ((nvs ((List.range s.pieces.length).map (bc s))).set b (V.int ((((List.range s.pieces.length).map (bc s)).getD b 0 : Nat) + (d : Nat)))))) := same_upd hq s1
    refine ⟨_, rfl, _, rfl, l, q, s, as, (((List.range s.pieces.length).map (bc s)).set b (((List.range s.pieces.length).map (bc s)).getD b 0 + d)), false, rfl, B.same s2, ?_, by rw [List.length_set, range_len], fun H2 f2 s3 hf2 hf => ?_⟩
    · rw [upd_same, ← ints_set]
      rfl
    · refine ⟨_, rfl, f2, _, _, _, rfl, rfl, SqL.of hf, at_i (by rw [wT_len]; exact ha), ?_⟩
      have e1 : ((wT false (fun n => (((List.range s.pieces.length).map (bc s)).set b (((List.range s.pieces.length).map (bc s)).getD b 0 + d)).getD n 0) s.pieces).getD a 0) = Wc.most s.pieces (Wc.dearer s b d) a := by
        refine wT_at (b := false) B.good.wf (fun n hn => ?_) ha
        unfold Wc.dearer
        by_cases e : n = b
        · subst e
          rw [if_pos rfl, List.getD_eq_getElem?_getD, List.getElem?_set_self hbl', Option.getD_some, bc_block hn]
        · rw [if_neg e, List.getD_eq_getElem?_getD, List.getElem?_set_ne (fun z => e z.symm), ← List.getD_eq_getElem?_getD, bc_block hn]
      rw [e1]
      exact kk H2 (s2.trans s3)
end
end Wp

set_option maxHeartbeats 2000000
namespace Wp
open PySem PySem.Spec PyProof.Rows L2
open PySem.W (Codec)
open WcP (Good Fit Wf)
abbrev s_told_choice : Stmt := top 29
abbrev s_told_length : Stmt := top 30
abbrev s_told_lengths : Stmt := top 31
abbrev s_told_block : Stmt := top 32
section
variable {P : Program} {w : World} {K : PySem.W.Frag} {mg : Str → Option Value} {base : Heap} {A : Adr}
/-! slack_of -/
def sp_slack_of (A : Adr) : Sp := fun vs H Q _ => ∃ (l : Addr) (a b : Nat) (s : Wc.State) (as : List Addr), vs = [.ref l, .int (a : Nat), .int (b : Nat)] ∧ ProgAt A H l s as ∧ a < s.pieces.length ∧ Wc.isBlock s b = true ∧ 0 < Wc.most s.pieces (Wc.isOne b) a ∧
  ∀ (H' : Hp), Same H H' → Q (.int (Wc.slack s a b : Nat)) H'
theorem sc_slack_of : FnScope ["programs", "number", "block", "dearest", "fits", "fails", "middle"] ["programs", "number", "block"] (defScope s_slack_of) := ⟨rfl, rfl, rfl, by decide +kernel, rfl, by decide +kernel, by decide +kernel⟩
theorem ok_slack_of {f f0 f1 f2 f3 : Addr} {fd fd0 fd1 fd2 fd3 : FuncData} (D : Def K mg "slack_of" s_slack_of ["programs", "number", "block"] f fd) (T : Txt K mg A) (D_dearest_with : Def K mg "dearest_with" s_dearest_with ["programs", "number", "block", "more"] f0 fd0)
    (D_run_weights : Def K mg "run_weights" s_run_weights ["programs", "weights", "least"] f1 fd1) (D_run_weight : Def K mg "run_weight" s_run_weight ["program", "weight", "found", "least"] f2 fd2) (D_block_costs : Def K mg "block_costs" s_block_costs ["programs"] f3 fd3) :
    FnOk P w K mg base CX0 4 f fd ["programs", "number", "block"] (sp_slack_of A) := by
  have G_dearest_with : FnOk P w K mg base CX0 3 f0 fd0 ["programs", "number", "block", "more"] (sp_dearest_with A) := ok_dearest_with D_dearest_with T D_run_weights D_run_weight D_block_costs
  have sc := @sc_slack_of
  refine D.fn.ok sc (fun vs H Q E h => ?_) (fun cdv A' outer s' H vs Q E hr h => ?_)
  · obtain ⟨l, a, b, s, as, rfl, _⟩ := h
    rfl
  · obtain ⟨l, a, b, s, as, rfl, B, ha, hb, ho, kk⟩ := h
    refine ⟨_, (pss_cons (ps_set (i := 3) sc.nd rfl (Or.inl rfl) (pe_fn D_dearest_with G_dearest_with hr (pa_cons (pv 0) (pa_cons (pv 1) (pa_cons (pv 2) (pa_cons pe_int pa_nil))))))
      (pss_cons (ps_set (i := 4) sc.nd rfl (Or.inl rfl) pe_int)
      (pss_cons (ps_set (i := 5) sc.nd rfl (Or.inl rfl) (pe_op op_add (pv 3) pe_int))
      (pss_cons (ps_while PassesOwn.never (pt_cmpR op_gt (pe_op op_sub (pv 5) (pv 4)) pe_int (nomark _)) (pss_cons (ps_set (i := 6) sc.nd rfl (Or.inl rfl) (pe_op op_fdiv (pe_op op_add (pv 4) (pv 5)) pe_int))
      (pss_one (ps_if (pt_cmpR op_eq (pe_fn D_dearest_with G_dearest_with hr (pa_cons (pv 0) (pa_cons (pv 1) (pa_cons (pv 2) (pa_cons (pv 6) pa_nil))))) (pv 3) (nomark _)) (pss_one (ps_set (i := 4) sc.nd rfl (Or.inl rfl) (pv 6))) (pss_one (ps_set (i := 5) sc.nd rfl (Or.inl rfl) (pv 6)))))))
      (pss_one (ps_ret (pv 4))))))), ?_⟩
    have e0 : Wc.most s.pieces (Wc.dearer s b 0) a = Wc.most s.pieces (Wc.costOf s) a := by rw [WcP.dearer_zero]
    refine ⟨_, rfl, _, rfl, _, rfl, l, a, b, 0, s, as, rfl, B, ha, hb, fun H1 s1 => ?_⟩
    rw [e0]
    generalize hd : Wc.most s.pieces (Wc.costOf s) a = d at e0 ⊢
    refine ⟨_, rfl, _, _, rfl, rfl, ?_⟩
    refine ⟨fun m σ H' => ∃ (lo hi : Nat) (v : Option V), σ = [some (.ref l), some (.int (a : Nat)), some (.int (b : Nat)), some (.int (d : Nat)), some (.int (lo : Nat)), some (.int (hi : Nat)), v] ∧ m = hi - lo ∧ lo < hi ∧ Same H H' ∧
      Wc.most s.pieces (Wc.dearer s b lo) a = d ∧ d < Wc.most s.pieces (Wc.dearer s b hi) a, ⟨d + 1, 0, d + 1, none, rfl, rfl, by omega, s1, e0, ?_⟩, ?_⟩
    · exact WcP.most_grows B.good.wf (WcP.dearer_ge s b (d + 1)) a ha ho
    · rintro m σ H2 ⟨lo, hi, v, rfl, rfl, hlt, s2, h1, h2⟩
      refine ⟨_, rfl, _, rfl, _, _, rfl, rfl, _, _, rfl, rfl, _, rfl, ite2 (fun h => ?_) (fun h => ?_)⟩
      · have h3 : (1 : Int) < (hi : Int) - (lo : Int) := of_decide_eq_true h
        refine ⟨fun σ' H' => ∃ m', m' < hi - lo ∧ ∃ (lo hi : Nat) (v : Option V), σ' = [some (.ref l), some (.int (a : Nat)), some (.int (b : Nat)), some (.int (d : Nat)), some (.int (lo : Nat)), some (.int (hi : Nat)), v] ∧ m' = hi - lo ∧ lo < hi ∧ Same H H' ∧
          Wc.most s.pieces (Wc.dearer s b lo) a = d ∧ d < Wc.most s.pieces (Wc.dearer s b hi) a, fun σ' H' z => z, ?_⟩
        refine ⟨_, rfl, _, rfl, _, _, rfl, rfl, _, _, rfl, rfl, ⟨by decide, by decide⟩, ?_⟩
        have e1 : ((lo : Int) + (hi : Int)) / 2 = (((lo + hi) / 2 : Nat) : Int) := by omega
        dsimp only
        rw [e1]
        generalize hm : (lo + hi) / 2 = mid
        refine ⟨_, rfl, _, rfl, _, rfl, _, rfl, l, a, b, mid, s, as, rfl, B.same s2, ha, hb, fun H3 s3 => ?_⟩
        refine ⟨_, rfl, rfl, _, rfl, ite2 (fun z => ?_) (fun z => ?_)⟩
        · have z1 : V.int (Wc.most s.pieces (Wc.dearer s b mid) a : Nat) = V.int (d : Nat) := of_decide_eq_true z
          have z2 : Wc.most s.pieces (Wc.dearer s b mid) a = d := by injection z1 with z1; omega
          exact ⟨_, rfl, hi - mid, by omega, mid, hi, _, rfl, rfl, by omega, s2.trans s3, z2, h2⟩
        · have z1 : ¬ V.int (Wc.most s.pieces (Wc.dearer s b mid) a : Nat) = V.int (d : Nat) := fun y => z (decide_eq_true y)
          have z2 : ¬ Wc.most s.pieces (Wc.dearer s b mid) a = d := fun y => z1 (by rw [y])
          have z3 : Wc.most s.pieces (Wc.dearer s b lo) a ≤ Wc.most s.pieces (Wc.dearer s b mid) a := WcP.most_mono B.good.wf (WcP.dearer_mono (by omega)) a ha
          exact ⟨_, rfl, mid - lo, by omega, lo, mid, _, rfl, rfl, by omega, s2.trans s3, h1, by omega⟩
      · have h3 : ¬ (1 : Int) < (hi : Int) - (lo : Int) := fun y => h (decide_eq_true y)
        have e1 : hi = lo + 1 := by omega
        subst e1
        have e2 := WcP.slack_of B.good (d := lo) ha ho (by rw [hd]; exact h1) (by rw [hd]; exact h2)
        rw [e2] at kk
        exact ⟨_, rfl, kk H2 s2⟩
/-! told_choice -/
def chosen (g : Nat → Nat) (a b : Nat) : Nat := if g a < g b then b else a
def sp_told_choice (A : Adr) : Sp := fun vs H Q _ => ∃ (p f : Addr) (c n a b m : Nat) (g : Nat → Nat), vs = [.ref p, .ref f] ∧ PcAt A H p c n (.alt a b) ∧ TabAt H f m g ∧ a < m ∧ b < m ∧ Q (.int (chosen g a b : Nat)) H
theorem sc_told_choice : FnScope ["program", "dearest"] ["program", "dearest"] (defScope s_told_choice) := ⟨rfl, rfl, rfl, by decide +kernel, rfl, by decide +kernel, by decide +kernel⟩
theorem ok_told_choice {f : Addr} {fd : FuncData} (D : Def K mg "told_choice" s_told_choice ["program", "dearest"] f fd) (T : Txt K mg A) : FnOk P w K mg base CX0 1 f fd ["program", "dearest"] (sp_told_choice A) := by
  refine D.fn.ok sc_told_choice (fun vs H Q E h => ?_) (fun cdv A' outer s' H vs Q E hr h => ?_)
  · obtain ⟨p, f, c, n, a, b, m, g, rfl, _⟩ := h
    rfl
  · obtain ⟨p, fo, c, n, a, b, m, g, rfl, ⟨dx, e⟩, ht, ha, hb, kk⟩ := h
    refine ⟨_, (pss_cons (ps_if (pt_cmpR op_gt (pe_ix ix_list (pv 1) (pe_fld (pv 0) rfl) (fun _ _ => rfl)) (pe_ix ix_list (pv 1) (pe_fld (pv 0) rfl) (fun _ _ => rfl)) (nomark _)) (pss_one (ps_ret (pe_fld (pv 0) rfl))) pss_nil)
      (pss_one (ps_ret (pe_fld (pv 0) rfl)))), ?_⟩
    obtain ⟨xs, h1, h2⟩ := tab_at (K := K) ht hb
    obtain ⟨ys, h3, h4⟩ := tab_at (K := K) ht ha
    refine ⟨_, rfl, _, rfl, p, _, dx, _, _, rfl, e, T.clA, T.nA_second, rfl, fo, _, _, _, rfl, rfl, h1, h2, _, rfl, _, rfl, p, _, dx, _, _, rfl, e, T.clA, T.nA_first, rfl, fo, _, _, _, rfl, rfl, h3, h4, _, _, rfl, rfl, _, rfl, ite2 (fun h => ?_) (fun h => ?_)⟩
    · have z : (g a : Int) < (g b : Int) := of_decide_eq_true h
      refine ⟨_, rfl, p, _, dx, _, _, rfl, e, T.clA, T.nA_second, rfl, ?_⟩
      have e1 : chosen g a b = b := if_pos (by omega)
      rw [e1] at kk
      exact kk
    · have z : ¬ (g a : Int) < (g b : Int) := fun y => h (decide_eq_true y)
      refine ⟨_, rfl, p, _, dx, _, _, rfl, e, T.clA, T.nA_first, rfl, ?_⟩
      have e1 : chosen g a b = a := if_neg (by omega)
      rw [e1] at kk
      exact kk
/-! told_length -/
def sp_told_length (A : Adr) : Sp := fun vs H Q _ => ∃ (p f fo : Addr) (c n k m : Nat) (x : Wc.Piece) (g : Nat → Nat) (ts : List Nat), vs = [.ref p, .ref f, .ref fo] ∧ PcAt A H p c n x ∧ TabAt H f m g ∧ H fo = some (.lst (nvs ts)) ∧ Fit ts.length x ∧ ts.length ≤ m ∧
  Q (.int (Wc.toldBy g (fun j => ts.getD j 0) k x : Nat)) H
theorem sc_told_length : FnScope ["program", "dearest", "found"] ["program", "dearest", "found"] (defScope s_told_length) := ⟨rfl, rfl, rfl, by decide +kernel, rfl, by decide +kernel, by decide +kernel⟩
theorem ok_told_length {f f1 : Addr} {fd fd1 : FuncData} (D : Def K mg "told_length" s_told_length ["program", "dearest", "found"] f fd) (T : Txt K mg A) (D_told_choice : Def K mg "told_choice" s_told_choice ["program", "dearest"] f1 fd1) :
    FnOk P w K mg base CX0 2 f fd ["program", "dearest", "found"] (sp_told_length A) := by
  have G_told_choice : FnOk P w K mg base CX0 1 f1 fd1 ["program", "dearest"] (sp_told_choice A) := ok_told_choice D_told_choice T
  refine D.fn.ok sc_told_length (fun vs H Q E h => ?_) (fun cdv A' outer s' H vs Q E hr h => ?_)
  · obtain ⟨p, f, fo, c, n, k, m, x, g, ts, rfl, _⟩ := h
    rfl
  · obtain ⟨p, fd', fo, c, n, k, m, x, g, ts, rfl, hp, ht, hf, hx, hm, kk⟩ := h
    refine ⟨_, (pss_cons (ps_if (pt_val (pe_callB call_isinst (by rfl) T.no_isinstance boot_isinstance5 (pa_cons (pv 0) (pa_cons (pe_gl T.Block) pa_nil)))) (pss_one (ps_ret pe_int)) pss_nil)
      (pss_cons (ps_if (pt_val (pe_callB call_isinst (by rfl) T.no_isinstance boot_isinstance5 (pa_cons (pv 0) (pa_cons (pe_gl T.Seq) pa_nil)))) (pss_one (ps_ret (pe_op op_add (pe_ix ix_list (pv 2) (pe_fld (pv 0) rfl) (fun _ _ => rfl)) (pe_ix ix_list (pv 2) (pe_fld (pv 0) rfl) (fun _ _ => rfl))))) pss_nil)
      (pss_cons (ps_if (pt_val (pe_callB call_isinst (by rfl) T.no_isinstance boot_isinstance5 (pa_cons (pv 0) (pa_cons (pe_gl T.Alt) pa_nil)))) (pss_one (ps_ret (pe_ix ix_list (pv 2) (pe_fn D_told_choice G_told_choice hr (pa_cons (pv 0) (pa_cons (pv 1) pa_nil))) (fun _ _ => rfl)))) pss_nil)
      (pss_cons (ps_if (pt_val (pe_callB call_isinst (by rfl) T.no_isinstance boot_isinstance5 (pa_cons (pv 0) (pa_cons (pe_gl T.Loop) pa_nil)))) (pss_one (ps_ret (pe_op op_mul (pe_ix ix_list (pv 2) (pe_fld (pv 0) rfl) (fun _ _ => rfl)) (pe_fld (pv 0) rfl)))) pss_nil)
      (pss_one (ps_ret (pe_ix ix_list (pv 2) (pe_fld (pv 0) rfl) (fun _ _ => rfl)))))))), ?_⟩
    cases x with
    | block =>
      obtain ⟨dx, e⟩ := hp
      exact ⟨_, rfl, _, _, _, _, rfl, T.tyB.of T.clB e, T.kB.qB, _, rfl, iteT kk⟩
    | seq a b' =>
      obtain ⟨dx, e⟩ := hp
      refine ⟨_, rfl, _, _, _, _, rfl, T.tyS.of T.clS e, T.kS.qB, _, rfl, iteF ?_⟩
      refine ⟨_, rfl, _, _, _, _, rfl, T.tyS.of T.clS e, T.kS.qS, _, rfl, iteT ?_⟩
      exact ⟨_, rfl, _, rfl, p, _, dx, _, _, rfl, e, T.clS, T.nS_first, rfl, fo, _, _, _, rfl, rfl, SqL.of hf, at_i hx.1, _, rfl, _, rfl, p, _, dx, _, _, rfl, e, T.clS, T.nS_second, rfl, fo, _, _, _, rfl, rfl, SqL.of hf, at_i hx.2, _, _, rfl, rfl, kk⟩
    | alt a b' =>
      have hx' : a < ts.length ∧ b' < ts.length := hx
      have hp' := hp
      obtain ⟨dx, e⟩ := hp
      refine ⟨_, rfl, _, _, _, _, rfl, T.tyA.of T.clA e, T.kA.qB, _, rfl, iteF ?_⟩
      refine ⟨_, rfl, _, _, _, _, rfl, T.tyA.of T.clA e, T.kA.qS, _, rfl, iteF ?_⟩
      refine ⟨_, rfl, _, _, _, _, rfl, T.tyA.of T.clA e, T.kA.qA, _, rfl, iteT ?_⟩
      have hc : chosen g a b' < ts.length := by
        unfold chosen
        split <;> omega
      refine ⟨_, rfl, _, rfl, _, rfl, p, fd', _, _, a, b', m, g, rfl, hp', ht, by omega, by omega, fo, _, _, _, rfl, rfl, SqL.of hf, at_i hc, ?_⟩
      have e1 : Wc.toldBy g (fun j => ts.getD j 0) k (.alt a b') = ts.getD (chosen g a b') 0 := by
        unfold chosen
        show (if g a < g b' then ts.getD b' 0 else ts.getD a 0) = _
        split <;> rfl
      rw [e1] at kk
      exact kk
    | loop a lo hi =>
      obtain ⟨dx, e⟩ := hp
      obtain ⟨ha, hlo, hhi⟩ := hx
      refine ⟨_, rfl, _, _, _, _, rfl, T.tyL.of T.clL e, T.kL.qB, _, rfl, iteF ?_⟩
      refine ⟨_, rfl, _, _, _, _, rfl, T.tyL.of T.clL e, T.kL.qS, _, rfl, iteF ?_⟩
      refine ⟨_, rfl, _, _, _, _, rfl, T.tyL.of T.clL e, T.kL.qA, _, rfl, iteF ?_⟩
      refine ⟨_, rfl, _, _, _, _, rfl, T.tyL.of T.clL e, T.kL.qL, _, rfl, iteT ?_⟩
      refine ⟨_, rfl, _, rfl, p, _, dx, _, _, rfl, e, T.clL, T.nL_body, rfl, fo, _, _, _, rfl, rfl, SqL.of hf, at_i ha, _, rfl, p, _, dx, _, _, rfl, e, T.clL, T.nL_hi, rfl, _, _, rfl, rfl, .inr ⟨by omega, by omega⟩, ?_⟩
      have e1 : ((ts.getD a 0 : Nat) : Int) * (hi : Int) = ((hi * ts.getD a 0 : Nat) : Int) := by rw [Int.natCast_mul, Int.mul_comm]
      dsimp only
      rw [e1]
      exact kk
    | call a fr =>
      obtain ⟨dx, e⟩ := hp
      refine ⟨_, rfl, _, _, _, _, rfl, T.tyC.of T.clC e, T.kC.qB, _, rfl, iteF ?_⟩
      refine ⟨_, rfl, _, _, _, _, rfl, T.tyC.of T.clC e, T.kC.qS, _, rfl, iteF ?_⟩
      refine ⟨_, rfl, _, _, _, _, rfl, T.tyC.of T.clC e, T.kC.qA, _, rfl, iteF ?_⟩
      refine ⟨_, rfl, _, _, _, _, rfl, T.tyC.of T.clC e, T.kC.qL, _, rfl, iteF ?_⟩
      exact ⟨_, rfl, _, rfl, p, _, dx, _, _, rfl, e, T.clC, T.nC_body, rfl, fo, _, _, _, rfl, rfl, SqL.of hf, at_i hx.1, kk⟩
/-! told_lengths -/
theorem TabAt.keep {H H' : Hp} {f : Addr} {n : Nat} {g : Nat → Nat} (t : TabAt H f n g) (e : Same H H') : TabAt H' f n g := by
  obtain ⟨ts, h1, h2, h3⟩ := t
  exact ⟨ts, e _ _ h1, h2, h3⟩
def sp_told_lengths (A : Adr) : Sp := fun vs H Q _ => ∃ (l f : Addr) (s : Wc.State) (as : List Addr), vs = [.ref l, .ref f] ∧ ProgAt A H l s as ∧ TabAt H f s.pieces.length (Wc.most s.pieces (Wc.costOf s)) ∧
  ∀ (H' : Hp) (q : Addr), Same H H' → TabAt H' q s.pieces.length (WcP.toldLen s) → Q (.ref q) H'
theorem sc_told_lengths : FnScope ["programs", "dearest", "found", "program"] ["programs", "dearest"] (defScope s_told_lengths) := ⟨rfl, rfl, rfl, by decide +kernel, rfl, by decide +kernel, by decide +kernel⟩
theorem ok_told_lengths {f f1 f2 : Addr} {fd fd1 fd2 : FuncData} (D : Def K mg "told_lengths" s_told_lengths ["programs", "dearest"] f fd) (T : Txt K mg A) (D_told_length : Def K mg "told_length" s_told_length ["program", "dearest", "found"] f1 fd1)
    (D_told_choice : Def K mg "told_choice" s_told_choice ["program", "dearest"] f2 fd2) : FnOk P w K mg base CX0 3 f fd ["programs", "dearest"] (sp_told_lengths A) := by
  have G_told_length : FnOk P w K mg base CX0 2 f1 fd1 ["program", "dearest", "found"] (sp_told_length A) := ok_told_length D_told_length T D_told_choice
  have sc := @sc_told_lengths
  refine D.fn.ok sc (fun vs H Q E h => ?_) (fun cdv A' outer s' H vs Q E hr h => ?_)
  · obtain ⟨l, f, s, as, rfl, _⟩ := h
    rfl
  · obtain ⟨l, fo, s, as, rfl, B, ht, kk⟩ := h
    refine ⟨_, (pss_cons (ps_set (i := 2) sc.nd rfl (Or.inl rfl) (pe_lst pa_nil))
      (pss_cons (ps_for PassesOwn.never rfl (pi_list (pv 0)) (pg_name (i := 3) sc.nd rfl (Or.inl rfl)) (pss_one (ps_expr (pe_bm PySem.F.plainAttrs_list PySem.F.slot_list_append PySem.F.type_list_append mt_append (pv 2) (pa_cons (pe_fn D_told_length G_told_length hr (pa_cons (pv 3) (pa_cons (pv 1) (pa_cons (pv 2) pa_nil)))) pa_nil)))))
      (pss_one (ps_ret (pv 2))))), ?_⟩
    refine ⟨Nat.zero_le _, fun q hq => ?_⟩
    refine ⟨_, rfl, l, rfl, ⟨_, SqL.of (same_new hq _ _ B.lst)⟩, for_list (K := K) (a := l) (xs := as.map V.ref) (fun i σ H' => ∃ v : Option V, σ = [some (.ref l), some (.ref fo), some (.ref q), v] ∧ Same H H' ∧ H' q = some (.lst (nvs (Wc.table 0 (Wc.toldBy (Wc.most s.pieces (Wc.costOf s))) (s.pieces.take i)))))
      ⟨none, rfl, same_new hq, upd_same⟩ (fun i σ H' _ ⟨_, _, s5, _⟩ => SqL.of (s5 _ _ B.lst)) ?_ ?_⟩
    · rintro i y σ H' hi ⟨v, rfl, s5, hq'⟩
      obtain ⟨p, hp, rfl⟩ := refs_at hi
      obtain ⟨x, hlt, hx, hpc⟩ := B.get hp
      have hlen : (Wc.table 0 (Wc.toldBy (Wc.most s.pieces (Wc.costOf s))) (s.pieces.take i)).length = i := by rw [WcP.table_length, List.length_take]; omega
      refine ⟨_, rfl, .inl ⟨rfl, _, SqL.of hq'⟩, _, rfl, _, rfl, _, rfl, ?_⟩
      refine ⟨p, fo, q, _, _, i, s.pieces.length, x, Wc.most s.pieces (Wc.costOf s), _, rfl, hpc.keep fun o e => s5 _ _ e, ht.keep s5, hq', by rw [hlen]; exact good_fit B.good hx, by rw [hlen]; omega, ?_⟩
      refine ⟨q, _, _, rfl, rfl, hq', small1000 (by rw [ints_len, hlen]; have := B.few; omega), ?_⟩
      refine ⟨_, rfl, same_upd hq s5, ?_⟩
      rw [upd_same, take_snoc hx, WcP.table_snoc, ints_snoc, hlen]
    · rintro σ H2' ⟨v, rfl, s5, hq'⟩
      rw [List.length_map, B.len, List.take_length] at hq'
      exact ⟨_, rfl, kk H2' q s5 ⟨_, hq', WcP.table_length _ _ _, fun k hk => rfl⟩⟩
end
end Wp

set_option maxHeartbeats 2000000
namespace Wp
open PySem PySem.Spec PyProof.Rows L2
open PySem.W (Codec)
open WcP (Good Fit Wf nthAt toldLen)
abbrev s_time_of : Stmt := top 69
abbrev s_how_often : Stmt := top 70
abbrev s_stack_of : Stmt := top 71
abbrev s_slack_in : Stmt := top 72
abbrev s_nth_of : Stmt := top 73
section
variable {P : Program} {w : World} {K : PySem.W.Frag} {mg : Str → Option Value} {base : Heap} {A : Adr}
/-! told_block -/
def optV : Option Nat → V
  | some b => .int (b : Nat)
  | none => .non
def sp_told_block (A : Adr) : Sp := fun vs H Q _ => ∃ (l : Addr) (a i : Nat) (s : Wc.State) (as : List Addr), vs = [.ref l, .int (a : Nat), .int (i : Nat)] ∧ ProgAt A H l s as ∧ a < s.pieces.length ∧ ∀ (H' : Hp), Same H H' → Q (optV (nthAt s a i)) H'
theorem sc_told_block : FnScope ["programs", "number", "place", "dearest", "lengths", "program"] ["programs", "number", "place"] (defScope s_told_block) := ⟨rfl, rfl, rfl, by decide +kernel, rfl, by decide +kernel, by decide +kernel⟩
theorem ok_told_block {f f1 f2 f3 : Addr} {fd fd1 fd2 fd3 : FuncData} (D : Def K mg "told_block" s_told_block ["programs", "number", "place"] f fd) (T : Txt K mg A)
    (D_run_costs : Def K mg "run_costs" s_run_costs ["programs", "least"] f1 fd1) (G_run_costs : FnOk P w K mg base CX0 3 f1 fd1 ["programs", "least"] (sp_run_costs A))
    (D_told_lengths : Def K mg "told_lengths" s_told_lengths ["programs", "dearest"] f2 fd2) (G_told_lengths : FnOk P w K mg base CX0 3 f2 fd2 ["programs", "dearest"] (sp_told_lengths A))
    (D_told_choice : Def K mg "told_choice" s_told_choice ["program", "dearest"] f3 fd3) (G_told_choice : FnOk P w K mg base CX0 1 f3 fd3 ["program", "dearest"] (sp_told_choice A)) :
    FnOk P w K mg base CX0 4 f fd ["programs", "number", "place"] (sp_told_block A) := by
  have sc := @sc_told_block
  refine D.fn.ok sc (fun vs H Q E h => ?_) (fun cdv A' outer s' H vs Q E hr h => ?_)
  · obtain ⟨l, a, i, s, as, rfl, _⟩ := h
    rfl
  · obtain ⟨l, a, i, s, as, rfl, B, ha, kk⟩ := h
    refine ⟨_, (pss_cons (ps_set (i := 3) sc.nd rfl (Or.inl rfl) (pe_fn D_run_costs G_run_costs hr (pa_cons (pv 0) (pa_cons pe_bl pa_nil))))
      (pss_cons (ps_set (i := 4) sc.nd rfl (Or.inl rfl) (pe_fn D_told_lengths G_told_lengths hr (pa_cons (pv 0) (pa_cons (pv 3) pa_nil))))
      (pss_cons (ps_if (pt_cmpR op_ge (pv 2) (pe_ix ix_list (pv 4) (pv 1) (fun _ _ => rfl)) (nomark _)) (pss_one (ps_ret pe_non)) pss_nil)
      (pss_cons (ps_while PassesOwn.never (pt_not (pt_val (pe_callB call_isinst (by rfl) T.no_isinstance boot_isinstance5 (pa_cons (pe_ix ix_list (pv 0) (pv 1) (fun _ _ => rfl)) (pa_cons (pe_gl T.Block) pa_nil))))) (pss_cons (ps_set (i := 5) sc.nd rfl (Or.inl rfl) (pe_ix ix_list (pv 0) (pv 1) (fun _ _ => rfl)))
      (pss_one (ps_if (pt_val (pe_callB call_isinst (by rfl) T.no_isinstance boot_isinstance5 (pa_cons (pv 5) (pa_cons (pe_gl T.Alt) pa_nil)))) (pss_one (ps_set (i := 1) sc.nd rfl (Or.inl rfl) (pe_fn D_told_choice G_told_choice hr (pa_cons (pv 5) (pa_cons (pv 3) pa_nil))))) (pss_one (ps_if (pt_not (pt_val (pe_callB call_isinst (by rfl) T.no_isinstance boot_isinstance5 (pa_cons (pv 5) (pa_cons (pe_gl T.Seq) pa_nil))))) (pss_cons (ps_set (i := 2) sc.nd rfl (Or.inl rfl) (pe_op op_mod (pv 2) (pe_ix ix_list (pv 4) (pe_fld (pv 5) rfl) (fun _ _ => rfl))))
      (pss_one (ps_set (i := 1) sc.nd rfl (Or.inl rfl) (pe_fld (pv 5) rfl)))) (pss_one (ps_if (pt_cmpR op_lt (pv 2) (pe_ix ix_list (pv 4) (pe_fld (pv 5) rfl) (fun _ _ => rfl)) (nomark _)) (pss_one (ps_set (i := 1) sc.nd rfl (Or.inl rfl) (pe_fld (pv 5) rfl))) (pss_cons (ps_aug (i := 2) sc.nd rfl (Or.inl rfl) (pe_ix ix_list (pv 4) (pe_fld (pv 5) rfl) (fun _ _ => rfl)) ip_sub)
      (pss_one (ps_set (i := 1) sc.nd rfl (Or.inl rfl) (pe_fld (pv 5) rfl))))))))))))
      (pss_one (ps_ret (pv 1))))))), ?_⟩
    refine ⟨_, rfl, l, s, as, false, rfl, B, fun H1 q s1 _ t1 => ?_⟩
    refine ⟨_, rfl, _, rfl, l, q, s, as, rfl, B.same s1, t1, fun H2 u s2 t2 => ?_⟩
    have B2 := B.same (s1.trans s2)
    have t1' := t1.keep s2
    have tl : ∀ {k : Nat}, k < s.pieces.length → ∃ xs, SqL K H2 u xs ∧ atI xs (k : Int) = some (.int (toldLen s k : Nat)) := fun hk => tab_at t2 hk
    obtain ⟨xs, x1, x2⟩ := tl ha
    have fin := kk H2 (s1.trans s2)
    refine ⟨_, rfl, _, rfl, _, rfl, u, _, _, _, rfl, rfl, x1, x2, _, _, rfl, rfl, _, rfl, ite2 (fun h => ?_) (fun h => ?_)⟩
    · have h1 : (toldLen s a : Int) ≤ (i : Int) := of_decide_eq_true h
      have h2 := WcP.nthAt_some B.good.wf a ha i
      have h3 : nthAt s a i = none := by
        cases e : nthAt s a i with
        | none => rfl
        | some b =>
          rw [e] at h2
          have := h2.mp rfl
          omega
      rw [h3] at fin
      exact fin
    · have h1 : ¬ (toldLen s a : Int) ≤ (i : Int) := fun z => h (decide_eq_true z)
      refine ⟨fun m σ H' => ∃ (a' i' : Nat) (v : Option V), σ = [some (.ref l), some (.int (a' : Nat)), some (.int (i' : Nat)), some (.ref q), some (.ref u), v] ∧ H2 = H' ∧ a' = m ∧ a' < s.pieces.length ∧ i' < toldLen s a' ∧ nthAt s a' i' = nthAt s a i,
        ⟨a, a, i, none, rfl, rfl, rfl, ha, by omega, rfl⟩, ?_⟩
      rintro m σ H' ⟨a', i', v, rfl, rfl, rfl, ha', hi', hn⟩
      obtain ⟨p, x, p1, p2, p3⟩ := B2.item ha'
      obtain ⟨t, ty, kt⟩ := kit_of T p3
      have hw := B.good.wf a' x p2
      have en := WcP.nthAt_eq (i := i') B.good.wf p2
      have el := WcP.toldLen_eq B.good.wf p2
      refine ⟨_, rfl, _, rfl, l, _, _, _, rfl, rfl, SqL.of B2.lst, at_ref p1, _, _, t, _, rfl, ty, kt, _, rfl, ?_⟩
      obtain ⟨Nx, hNm, hN⟩ : ∃ Nx : L2.St → Hp → Prop, (∀ σ' H'', Nx σ' H'' → ∃ m', m' < a' ∧ ∃ (a'' i'' : Nat) (v : Option V), σ' = [some (.ref l), some (.int (a'' : Nat)), some (.int (i'' : Nat)), some (.ref q), some (.ref u), v] ∧ H2 = H'' ∧ a'' = m' ∧ a'' < s.pieces.length ∧ i'' < toldLen s a'' ∧ nthAt s a'' i'' = nthAt s a i) ∧
          ∀ σ' H'', (∃ (a'' i'' : Nat) (v : Option V), σ' = [some (.ref l), some (.int (a'' : Nat)), some (.int (i'' : Nat)), some (.ref q), some (.ref u), v] ∧ H'' = H2 ∧ a'' < a' ∧ i'' < toldLen s a'' ∧ nthAt s a'' i'' = nthAt s a i) → Nx σ' H'' :=
        ⟨fun σ' H'' => ∃ (a'' i'' : Nat) (v : Option V), σ' = [some (.ref l), some (.int (a'' : Nat)), some (.int (i'' : Nat)), some (.ref q), some (.ref u), v] ∧ H'' = H2 ∧ a'' < a' ∧ i'' < toldLen s a'' ∧ nthAt s a'' i'' = nthAt s a i,
          fun σ' H'' ⟨a'', i'', v, e1, e2, e3, e4, e5⟩ => ⟨a'', e3, a'', i'', v, e1, e2.symm, rfl, by omega, e4, e5⟩, fun _ _ z => z⟩
      cases x with
      | block =>
        refine iteF ⟨_, rfl, ?_⟩
        have e1 : toldLen s a' = 1 := el
        have e2 : nthAt s a' i' = if i' = 0 then some a' else none := en
        rw [if_pos (by omega)] at e2
        rw [← hn, e2] at fin
        exact fin
      | seq x y =>
        have hw' : x < a' ∧ y < a' := hw
        obtain ⟨dx, e⟩ := p3
        have e1 : toldLen s a' = toldLen s x + toldLen s y := el
        have e2 : nthAt s a' i' = if i' < toldLen s x then nthAt s x i' else nthAt s y (i' - toldLen s x) := en
        obtain ⟨ys, y1, y2⟩ := tl (k := x) (by omega)
        refine iteT ⟨Nx, hNm, ?_⟩
        refine ⟨_, rfl, _, rfl, l, _, _, _, rfl, rfl, SqL.of B2.lst, at_ref p1, ?_⟩
        refine ⟨_, rfl, _, _, _, _, rfl, T.tyS.of T.clS e, T.kS.qA, _, rfl, iteF ?_⟩
        refine ⟨_, rfl, _, _, _, _, rfl, T.tyS.of T.clS e, T.kS.qS, _, rfl, iteF ?_⟩
        refine ⟨_, rfl, _, rfl, _, rfl, p, _, dx, _, _, rfl, e, T.clS, T.nS_first, rfl, u, _, _, _, rfl, rfl, y1, y2, _, _, rfl, rfl, _, rfl, ite2 (fun z => ?_) (fun z => ?_)⟩
        · have z1 : (i' : Int) < (toldLen s x : Int) := of_decide_eq_true z
          refine ⟨_, rfl, p, _, dx, _, _, rfl, e, T.clS, T.nS_first, rfl, hN _ _ ⟨x, i', _, rfl, rfl, hw'.1, by omega, ?_⟩⟩
          rw [if_pos (by omega)] at e2
          rw [← hn, e2]
        · have z1 : ¬ (i' : Int) < (toldLen s x : Int) := fun y => z (decide_eq_true y)
          refine ⟨_, rfl, _, rfl, _, rfl, p, _, dx, _, _, rfl, e, T.clS, T.nS_first, rfl, u, _, _, _, rfl, rfl, y1, y2, _, _, rfl, rfl, ?_⟩
          have e3 : (i' : Int) - (toldLen s x : Int) = ((i' - toldLen s x : Nat) : Int) := by omega
          dsimp only
          rw [e3]
          refine ⟨_, rfl, p, _, dx, _, _, rfl, e, T.clS, T.nS_second, rfl, hN _ _ ⟨y, i' - toldLen s x, _, rfl, rfl, hw'.2, by omega, ?_⟩⟩
          rw [if_neg (by omega)] at e2
          rw [← hn, e2]
      | alt x y =>
        have hw' : x < a' ∧ y < a' := hw
        have p3' := p3
        obtain ⟨dx, e⟩ := p3
        have e1 : toldLen s a' = if Wc.most s.pieces (Wc.costOf s) x < Wc.most s.pieces (Wc.costOf s) y then toldLen s y else toldLen s x := el
        have e2 : nthAt s a' i' = nthAt s (if Wc.most s.pieces (Wc.costOf s) x < Wc.most s.pieces (Wc.costOf s) y then y else x) i' := en
        refine iteT ⟨Nx, hNm, ?_⟩
        refine ⟨_, rfl, _, rfl, l, _, _, _, rfl, rfl, SqL.of B2.lst, at_ref p1, ?_⟩
        refine ⟨_, rfl, _, _, _, _, rfl, T.tyA.of T.clA e, T.kA.qA, _, rfl, iteT ?_⟩
        refine ⟨_, rfl, _, rfl, p, q, _, _, x, y, s.pieces.length, Wc.most s.pieces (Wc.costOf s), rfl, p3', t1', by omega, by omega, ?_⟩
        refine hN _ _ ⟨chosen (Wc.most s.pieces (Wc.costOf s)) x y, i', _, rfl, rfl, ?_, ?_, ?_⟩
        · unfold chosen
          split <;> omega
        · unfold chosen
          by_cases z : Wc.most s.pieces (Wc.costOf s) x < Wc.most s.pieces (Wc.costOf s) y
          · rw [if_pos z] at e1 ⊢
            omega
          · rw [if_neg z] at e1 ⊢
            omega
        · rw [← hn, e2]
          rfl
      | loop x lo hi =>
        have hw' : x < a' := hw
        obtain ⟨dx, e⟩ := p3
        have e1 : toldLen s a' = hi * toldLen s x := el
        have e2 : nthAt s a' i' = if toldLen s x = 0 then none else if i' / toldLen s x < hi then nthAt s x (i' % toldLen s x) else none := en
        have h0 : 0 < toldLen s x := by
          refine Nat.pos_of_ne_zero fun z => ?_
          rw [z, Nat.mul_zero] at e1
          omega
        have h3 : i' / toldLen s x < hi := (Nat.div_lt_iff_lt_mul h0).mpr (by omega)
        obtain ⟨ys, y1, y2⟩ := tl (k := x) (by omega)
        refine iteT ⟨Nx, hNm, ?_⟩
        refine ⟨_, rfl, _, rfl, l, _, _, _, rfl, rfl, SqL.of B2.lst, at_ref p1, ?_⟩
        refine ⟨_, rfl, _, _, _, _, rfl, T.tyL.of T.clL e, T.kL.qA, _, rfl, iteF ?_⟩
        refine ⟨_, rfl, _, _, _, _, rfl, T.tyL.of T.clL e, T.kL.qS, _, rfl, iteT ?_⟩
        refine ⟨_, rfl, _, rfl, _, rfl, p, _, dx, _, _, rfl, e, T.clL, T.nL_body, rfl, u, _, _, _, rfl, rfl, y1, y2, _, _, rfl, rfl, (by show (0 : Int) < (toldLen s x : Int); omega), ?_⟩
        have e3 : (i' : Int) % (toldLen s x : Int) = ((i' % toldLen s x : Nat) : Int) := by omega
        dsimp only
        rw [e3]
        refine ⟨_, rfl, p, _, dx, _, _, rfl, e, T.clL, T.nL_body, rfl, hN _ _ ⟨x, i' % toldLen s x, _, rfl, rfl, hw', Nat.mod_lt _ h0, ?_⟩⟩
        rw [if_neg (by omega), if_pos h3] at e2
        rw [← hn, e2]
      | call x fr =>
        have hw' : x < a' := hw
        obtain ⟨dx, e⟩ := p3
        have e1 : toldLen s a' = toldLen s x := el
        have e2 : nthAt s a' i' = nthAt s x i' := en
        obtain ⟨ys, y1, y2⟩ := tl (k := x) (by omega)
        refine iteT ⟨Nx, hNm, ?_⟩
        refine ⟨_, rfl, _, rfl, l, _, _, _, rfl, rfl, SqL.of B2.lst, at_ref p1, ?_⟩
        refine ⟨_, rfl, _, _, _, _, rfl, T.tyC.of T.clC e, T.kC.qA, _, rfl, iteF ?_⟩
        refine ⟨_, rfl, _, _, _, _, rfl, T.tyC.of T.clC e, T.kC.qS, _, rfl, iteT ?_⟩
        refine ⟨_, rfl, _, rfl, _, rfl, p, _, dx, _, _, rfl, e, T.clC, T.nC_body, rfl, u, _, _, _, rfl, rfl, y1, y2, _, _, rfl, rfl, (by show (0 : Int) < (toldLen s x : Int); omega), ?_⟩
        have e3 : (i' : Int) % (toldLen s x : Int) = ((i' : Nat) : Int) := Int.emod_eq_of_lt (by omega) (by omega)
        dsimp only
        rw [e3]
        refine ⟨_, rfl, p, _, dx, _, _, rfl, e, T.clC, T.nC_body, rfl, hN _ _ ⟨x, i', _, rfl, rfl, hw', by omega, ?_⟩⟩
        rw [← hn, e2]
/-! the calls that ask -/
/-- what a call that asks promises: the state stays, its answer is the specification's -/
def Asks (A : Adr) (H : Hp) (l : Addr) (s : Wc.State) (c : Wc.Call) (Q : VK) : Prop := ∀ (H' : Hp), Same H H' → Q (.int (Wc.step s c).2.ret) H'
theorem wOf_if (m : Nat) (l : List Wc.Piece) (g : Nat → Nat) (a : Nat) : wOf (!decide (V.int (m : Nat) = V.int 0)) l g a = if m = 0 then Wc.most l g a else Wc.least l g a := by
  by_cases h : m = 0
  · subst h
    rfl
  · have h1 : ¬ V.int (m : Nat) = V.int 0 := fun z => h (by injection z with z; omega)
    rw [decide_eq_false h1, if_neg h]
    rfl
def sp_time_of (A : Adr) : Sp := fun vs H Q _ => ∃ (l : Addr) (a m : Nat) (s : Wc.State) (as : List Addr), vs = [.ref l, .int (a : Nat), .int (m : Nat)] ∧ ProgAt A H l s as ∧ Asks A H l s (.time a m) Q
theorem sc_time_of : FnScope ["programs", "number", "least"] ["programs", "number", "least"] (defScope s_time_of) := ⟨rfl, rfl, rfl, by decide +kernel, rfl, by decide +kernel, by decide +kernel⟩
theorem ok_time_of {f f1 f2 : Addr} {fd fd1 fd2 : FuncData} (D : Def K mg "time_of" s_time_of ["programs", "number", "least"] f fd) (T : Txt K mg A) (D_is_program : Def K mg "is_program" s_is_program ["programs", "number"] f1 fd1)
    (D_run_costs : Def K mg "run_costs" s_run_costs ["programs", "least"] f2 fd2) (G_run_costs : FnOk P w K mg base CX0 3 f2 fd2 ["programs", "least"] (sp_run_costs A)) : FnOk P w K mg base CX0 4 f fd ["programs", "number", "least"] (sp_time_of A) := by
  have G_is_program : FnOk P w K mg base CX0 1 f1 fd1 ["programs", "number"] (sp_is_program A) := ok_is_program D_is_program T
  refine D.fn.ok sc_time_of (fun vs H Q E h => ?_) (fun cdv A' outer s' H vs Q E hr h => ?_)
  · obtain ⟨l, a, m, s, as, rfl, _⟩ := h
    rfl
  · obtain ⟨l, a, m, s, as, rfl, B, kk⟩ := h
    refine ⟨_, (pss_cons (ps_if (pt_not (pt_val (pe_fn D_is_program G_is_program hr (pa_cons (pv 0) (pa_cons (pv 1) pa_nil))))) (pss_one (ps_ret (pe_gl T.WRONG))) pss_nil)
      (pss_one (ps_ret (pe_ix ix_list (pe_fn D_run_costs G_run_costs hr (pa_cons (pv 0) (pa_cons (pe_cmpR op_ne (pv 2) pe_int (nomark _)) pa_nil))) (pv 1) (fun _ _ => rfl))))), ?_⟩
    refine ⟨_, rfl, _, rfl, l, a, s, as, rfl, B, _, rfl, ite2 (fun q => ?_) (fun q => ?_)⟩
    · have h : ¬ a < s.pieces.length := fun z => by simp [z] at q
      have e : Wc.step s (.time a m) = (s, Wc.says (-1)) := may_no (there_no h)
      have k1 := kk H (Same.refl H)
      rw [e] at k1
      exact k1
    · have h : a < s.pieces.length := by simpa using q
      have e : Wc.step s (.time a m) = (s, Wc.says ((if m = 0 then Wc.most s.pieces (Wc.costOf s) a else Wc.least s.pieces (Wc.costOf s) a : Nat) : Int)) := may_yes (there_yes h)
      refine ⟨_, rfl, _, rfl, rfl, l, s, as, _, rfl, B, fun H1 u s1 _ t1 => ?_⟩
      obtain ⟨xs, x1, x2⟩ := tab_at (K := K) t1 h
      refine ⟨_, rfl, u, _, _, _, rfl, rfl, x1, x2, ?_⟩
      have k1 := kk H1 s1
      rw [e] at k1
      rw [wOf_if]
      exact k1
def sp_how_often (A : Adr) : Sp := fun vs H Q _ => ∃ (l : Addr) (a b m : Nat) (s : Wc.State) (as : List Addr), vs = [.ref l, .int (a : Nat), .int (b : Nat), .int (m : Nat)] ∧ ProgAt A H l s as ∧ Asks A H l s (.often a b m) Q
theorem sc_how_often : FnScope ["programs", "number", "block", "least"] ["programs", "number", "block", "least"] (defScope s_how_often) := ⟨rfl, rfl, rfl, by decide +kernel, rfl, by decide +kernel, by decide +kernel⟩
theorem and_no {s : Wc.State} {a b : Nat} (h : ¬ (a < s.pieces.length ∧ Wc.isBlock s b = true)) : (Wc.there s a && Wc.isBlock s b) = false := by
  rw [Bool.and_eq_false_iff]
  by_cases y : a < s.pieces.length
  · exact .inr (Bool.eq_false_iff.mpr fun q => h ⟨y, q⟩)
  · exact .inl (there_no y)
theorem ok_how_often {f f1 f2 f3 : Addr} {fd fd1 fd2 fd3 : FuncData} (D : Def K mg "how_often" s_how_often ["programs", "number", "block", "least"] f fd) (T : Txt K mg A) (D_is_program : Def K mg "is_program" s_is_program ["programs", "number"] f1 fd1)
    (D_is_block : Def K mg "is_block" s_is_block ["programs", "number"] f3 fd3) (D_times_in_runs : Def K mg "times_in_runs" s_times_in_runs ["programs", "block", "least"] f2 fd2) (G_times_in_runs : FnOk P w K mg base CX0 3 f2 fd2 ["programs", "block", "least"] (sp_times_in_runs A)) :
    FnOk P w K mg base CX0 4 f fd ["programs", "number", "block", "least"] (sp_how_often A) := by
  have G_is_program : FnOk P w K mg base CX0 1 f1 fd1 ["programs", "number"] (sp_is_program A) := ok_is_program D_is_program T
  have G_is_block : FnOk P w K mg base CX0 2 f3 fd3 ["programs", "number"] (sp_is_block A) := ok_is_block D_is_block T D_is_program
  refine D.fn.ok sc_how_often (fun vs H Q E h => ?_) (fun cdv A' outer s' H vs Q E hr h => ?_)
  · obtain ⟨l, a, b, m, s, as, rfl, _⟩ := h
    rfl
  · obtain ⟨l, a, b, m, s, as, rfl, B, kk⟩ := h
    refine ⟨_, (pss_cons (ps_if (pw_or (pt_not (pt_val (pe_fn D_is_program G_is_program hr (pa_cons (pv 0) (pa_cons (pv 1) pa_nil))))) (pw_or1 (pt_not (pt_val (pe_fn D_is_block G_is_block hr (pa_cons (pv 0) (pa_cons (pv 2) pa_nil))))))).pt (pss_one (ps_ret (pe_gl T.WRONG))) pss_nil)
      (pss_one (ps_ret (pe_ix ix_list (pe_fn D_times_in_runs G_times_in_runs hr (pa_cons (pv 0) (pa_cons (pv 2) (pa_cons (pe_cmpR op_ne (pv 3) pe_int (nomark _)) pa_nil)))) (pv 1) (fun _ _ => rfl))))), ?_⟩
    have no : ¬ (a < s.pieces.length ∧ Wc.isBlock s b = true) → Q (.int (-1)) H := fun z => by
      have e : Wc.step s (.often a b m) = (s, Wc.says (-1)) := may_no (and_no z)
      have k1 := kk H (Same.refl H)
      rw [e] at k1
      exact k1
    refine ⟨_, rfl, _, rfl, l, a, s, as, rfl, B, _, rfl, ite2 (fun q => ?_) (fun q => ?_)⟩
    · exact no fun z => absurd (decide_eq_true z.1) (by simpa using q)
    · have ha : a < s.pieces.length := by simpa using q
      refine ⟨_, rfl, _, rfl, l, b, s, as, rfl, B, _, rfl, ite2 (fun q => ?_) (fun q => ?_)⟩
      · exact no fun z => absurd z.2 (by simpa using q)
      · have hb : Wc.isBlock s b = true := by simpa using q
        have e : Wc.step s (.often a b m) = (s, Wc.says ((if m = 0 then Wc.most s.pieces (Wc.isOne b) a else Wc.least s.pieces (Wc.isOne b) a : Nat) : Int)) := may_yes (by rw [there_yes ha, hb]; rfl)
        refine ⟨_, rfl, _, rfl, _, rfl, rfl, l, b, s, as, _, rfl, B, fun H1 u s1 _ t1 => ?_⟩
        obtain ⟨xs, x1, x2⟩ := tab_at (K := K) t1 ha
        refine ⟨_, rfl, u, _, _, _, rfl, rfl, x1, x2, ?_⟩
        have k1 := kk H1 s1
        rw [e] at k1
        rw [wOf_if]
        exact k1
def sp_stack_of (A : Adr) : Sp := fun vs H Q _ => ∃ (l : Addr) (a : Nat) (s : Wc.State) (as : List Addr), vs = [.ref l, .int (a : Nat)] ∧ ProgAt A H l s as ∧ Asks A H l s (.stack a) Q
theorem sc_stack_of : FnScope ["programs", "number"] ["programs", "number"] (defScope s_stack_of) := ⟨rfl, rfl, rfl, by decide +kernel, rfl, by decide +kernel, by decide +kernel⟩
theorem ok_stack_of {f f1 f2 : Addr} {fd fd1 fd2 : FuncData} (D : Def K mg "stack_of" s_stack_of ["programs", "number"] f fd) (T : Txt K mg A) (D_is_program : Def K mg "is_program" s_is_program ["programs", "number"] f1 fd1)
    (D_most_stacks : Def K mg "most_stacks" s_most_stacks ["programs"] f2 fd2) (G_most_stacks : FnOk P w K mg base CX0 2 f2 fd2 ["programs"] (sp_most_stacks A)) : FnOk P w K mg base CX0 3 f fd ["programs", "number"] (sp_stack_of A) := by
  have G_is_program : FnOk P w K mg base CX0 1 f1 fd1 ["programs", "number"] (sp_is_program A) := ok_is_program D_is_program T
  refine D.fn.ok sc_stack_of (fun vs H Q E h => ?_) (fun cdv A' outer s' H vs Q E hr h => ?_)
  · obtain ⟨l, a, s, as, rfl, _⟩ := h
    rfl
  · obtain ⟨l, a, s, as, rfl, B, kk⟩ := h
    refine ⟨_, (pss_cons (ps_if (pt_not (pt_val (pe_fn D_is_program G_is_program hr (pa_cons (pv 0) (pa_cons (pv 1) pa_nil))))) (pss_one (ps_ret (pe_gl T.WRONG))) pss_nil)
      (pss_one (ps_ret (pe_ix ix_list (pe_fn D_most_stacks G_most_stacks hr (pa_cons (pv 0) pa_nil)) (pv 1) (fun _ _ => rfl))))), ?_⟩
    refine ⟨_, rfl, _, rfl, l, a, s, as, rfl, B, _, rfl, ite2 (fun q => ?_) (fun q => ?_)⟩
    · have h : ¬ a < s.pieces.length := fun z => by simp [z] at q
      have e : Wc.step s (.stack a) = (s, Wc.says (-1)) := may_no (there_no h)
      have k1 := kk H (Same.refl H)
      rw [e] at k1
      exact k1
    · have h : a < s.pieces.length := by simpa using q
      have e : Wc.step s (.stack a) = (s, Wc.says (Wc.stack s.pieces a : Nat)) := may_yes (there_yes h)
      refine ⟨_, rfl, l, s, as, rfl, B, fun H1 u s1 t1 => ?_⟩
      obtain ⟨xs, x1, x2⟩ := tab_at (K := K) t1 h
      refine ⟨_, rfl, u, _, _, _, rfl, rfl, x1, x2, ?_⟩
      have k1 := kk H1 s1
      rw [e] at k1
      exact k1
def sp_slack_in (A : Adr) : Sp := fun vs H Q _ => ∃ (l : Addr) (a b : Nat) (s : Wc.State) (as : List Addr), vs = [.ref l, .int (a : Nat), .int (b : Nat)] ∧ ProgAt A H l s as ∧ Asks A H l s (.slack a b) Q
theorem sc_slack_in : FnScope ["programs", "number", "block"] ["programs", "number", "block"] (defScope s_slack_in) := ⟨rfl, rfl, rfl, by decide +kernel, rfl, by decide +kernel, by decide +kernel⟩
theorem ok_slack_in {f f1 f2 f3 f4 : Addr} {fd fd1 fd2 fd3 fd4 : FuncData} (D : Def K mg "slack_in" s_slack_in ["programs", "number", "block"] f fd) (T : Txt K mg A) (D_is_program : Def K mg "is_program" s_is_program ["programs", "number"] f1 fd1)
    (D_is_block : Def K mg "is_block" s_is_block ["programs", "number"] f3 fd3) (D_times_in_runs : Def K mg "times_in_runs" s_times_in_runs ["programs", "block", "least"] f2 fd2) (G_times_in_runs : FnOk P w K mg base CX0 3 f2 fd2 ["programs", "block", "least"] (sp_times_in_runs A))
    (D_slack_of : Def K mg "slack_of" s_slack_of ["programs", "number", "block"] f4 fd4) (G_slack_of : FnOk P w K mg base CX0 4 f4 fd4 ["programs", "number", "block"] (sp_slack_of A)) :
    FnOk P w K mg base CX0 5 f fd ["programs", "number", "block"] (sp_slack_in A) := by
  have G_is_program : FnOk P w K mg base CX0 1 f1 fd1 ["programs", "number"] (sp_is_program A) := ok_is_program D_is_program T
  have G_is_block : FnOk P w K mg base CX0 2 f3 fd3 ["programs", "number"] (sp_is_block A) := ok_is_block D_is_block T D_is_program
  refine D.fn.ok sc_slack_in (fun vs H Q E h => ?_) (fun cdv A' outer s' H vs Q E hr h => ?_)
  · obtain ⟨l, a, b, s, as, rfl, _⟩ := h
    rfl
  · obtain ⟨l, a, b, s, as, rfl, B, kk⟩ := h
    refine ⟨_, (pss_cons (ps_if (pw_or (pt_not (pt_val (pe_fn D_is_program G_is_program hr (pa_cons (pv 0) (pa_cons (pv 1) pa_nil))))) (pw_or1 (pt_not (pt_val (pe_fn D_is_block G_is_block hr (pa_cons (pv 0) (pa_cons (pv 2) pa_nil))))))).pt (pss_one (ps_ret (pe_gl T.WRONG))) pss_nil)
      (pss_cons (ps_if (pt_cmpR op_eq (pe_ix ix_list (pe_fn D_times_in_runs G_times_in_runs hr (pa_cons (pv 0) (pa_cons (pv 2) (pa_cons pe_bl pa_nil)))) (pv 1) (fun _ _ => rfl)) pe_int (nomark _)) (pss_one (ps_ret (pe_gl T.NOT_THERE))) pss_nil)
      (pss_one (ps_ret (pe_fn D_slack_of G_slack_of hr (pa_cons (pv 0) (pa_cons (pv 1) (pa_cons (pv 2) pa_nil)))))))), ?_⟩
    have no : ¬ (a < s.pieces.length ∧ Wc.isBlock s b = true) → Q (.int (-1)) H := fun z => by
      have e : Wc.step s (.slack a b) = (s, Wc.says (-1)) := may_no (and_no z)
      have k1 := kk H (Same.refl H)
      rw [e] at k1
      exact k1
    refine ⟨_, rfl, _, rfl, l, a, s, as, rfl, B, _, rfl, ite2 (fun q => ?_) (fun q => ?_)⟩
    · exact no fun z => absurd (decide_eq_true z.1) (by simpa using q)
    · have ha : a < s.pieces.length := by simpa using q
      refine ⟨_, rfl, _, rfl, l, b, s, as, rfl, B, _, rfl, ite2 (fun q => ?_) (fun q => ?_)⟩
      · exact no fun z => absurd z.2 (by simpa using q)
      · have hb : Wc.isBlock s b = true := by simpa using q
        have e : Wc.step s (.slack a b) = (s, if Wc.most s.pieces (Wc.isOne b) a = 0 then Wc.says (-3) else Wc.says (Wc.slack s a b : Nat)) := may_yes (by rw [there_yes ha, hb]; rfl)
        refine ⟨_, rfl, _, rfl, l, b, s, as, false, rfl, B, fun H1 u s1 _ t1 => ?_⟩
        obtain ⟨xs, x1, x2⟩ := tab_at (K := K) t1 ha
        refine ⟨_, rfl, u, _, _, _, rfl, rfl, x1, x2, rfl, _, rfl, ite2 (fun z => ?_) (fun z => ?_)⟩
        · have z1 : V.int (Wc.most s.pieces (Wc.isOne b) a : Nat) = V.int 0 := of_decide_eq_true z
          have z2 : Wc.most s.pieces (Wc.isOne b) a = 0 := by injection z1 with z1; omega
          have k1 := kk H1 s1
          rw [e, if_pos z2] at k1
          exact k1
        · have z1 : ¬ V.int (Wc.most s.pieces (Wc.isOne b) a : Nat) = V.int 0 := fun y => z (decide_eq_true y)
          have z2 : ¬ Wc.most s.pieces (Wc.isOne b) a = 0 := fun y => z1 (by rw [y]; rfl)
          refine ⟨_, rfl, _, rfl, _, rfl, l, a, b, s, as, rfl, B.same s1, ha, hb, by omega, fun H2 s2 => ?_⟩
          have k1 := kk H2 (s1.trans s2)
          rw [e, if_neg z2] at k1
          exact k1
def sp_nth_of (A : Adr) : Sp := fun vs H Q _ => ∃ (l : Addr) (a i : Nat) (s : Wc.State) (as : List Addr), vs = [.ref l, .int (a : Nat), .int (i : Nat)] ∧ ProgAt A H l s as ∧ Asks A H l s (.nth a i) Q
theorem sc_nth_of : FnScope ["programs", "number", "place", "block"] ["programs", "number", "place"] (defScope s_nth_of) := ⟨rfl, rfl, rfl, by decide +kernel, rfl, by decide +kernel, by decide +kernel⟩
theorem ok_nth_of {f f1 f2 : Addr} {fd fd1 fd2 : FuncData} (D : Def K mg "nth_of" s_nth_of ["programs", "number", "place"] f fd) (T : Txt K mg A) (D_is_program : Def K mg "is_program" s_is_program ["programs", "number"] f1 fd1)
    (D_told_block : Def K mg "told_block" s_told_block ["programs", "number", "place"] f2 fd2) (G_told_block : FnOk P w K mg base CX0 4 f2 fd2 ["programs", "number", "place"] (sp_told_block A)) :
    FnOk P w K mg base CX0 5 f fd ["programs", "number", "place"] (sp_nth_of A) := by
  have G_is_program : FnOk P w K mg base CX0 1 f1 fd1 ["programs", "number"] (sp_is_program A) := ok_is_program D_is_program T
  have sc := @sc_nth_of
  refine D.fn.ok sc (fun vs H Q E h => ?_) (fun cdv A' outer s' H vs Q E hr h => ?_)
  · obtain ⟨l, a, i, s, as, rfl, _⟩ := h
    rfl
  · obtain ⟨l, a, i, s, as, rfl, B, kk⟩ := h
    refine ⟨_, (pss_cons (ps_if (pt_not (pt_val (pe_fn D_is_program G_is_program hr (pa_cons (pv 0) (pa_cons (pv 1) pa_nil))))) (pss_one (ps_ret (pe_gl T.WRONG))) pss_nil)
      (pss_cons (ps_set (i := 3) sc.nd rfl (Or.inl rfl) (pe_fn D_told_block G_told_block hr (pa_cons (pv 0) (pa_cons (pv 1) (pa_cons (pv 2) pa_nil)))))
      (pss_one (ps_ret (pe_ifExp (pt_cmp (pc_isN (pv 3))) (pe_gl T.NOT_THERE) (pv 3)))))), ?_⟩
    refine ⟨_, rfl, _, rfl, l, a, s, as, rfl, B, _, rfl, ite2 (fun q => ?_) (fun q => ?_)⟩
    · have h : ¬ a < s.pieces.length := fun z => by simp [z] at q
      have e : Wc.step s (.nth a i) = (s, Wc.says (-1)) := may_no (there_no h)
      have k1 := kk H (Same.refl H)
      rw [e] at k1
      exact k1
    · have h : a < s.pieces.length := by simpa using q
      refine ⟨_, rfl, _, rfl, _, rfl, l, a, i, s, as, rfl, B, h, fun H1 s1 => ?_⟩
      have k1 := kk H1 s1
      have e0 : Wc.nth s a i = nthAt s a i := WcP.nth_at s a i
      cases e1 : nthAt s a i with
      | none =>
        have e : Wc.step s (.nth a i) = (s, Wc.says (-3)) := by
          refine (may_yes (there_yes h)).trans ?_
          rw [e0, e1]
        rw [e] at k1
        exact ⟨_, rfl, _, rfl, iteT k1⟩
      | some b =>
        have e : Wc.step s (.nth a i) = (s, Wc.says (b : Nat)) := by
          refine (may_yes (there_yes h)).trans ?_
          rw [e0, e1]
        rw [e] at k1
        exact ⟨_, rfl, _, rfl, iteF ⟨_, rfl, k1⟩⟩
end
end Wp

set_option maxHeartbeats 2000000
namespace Wp
open PySem PySem.Spec PyProof.Rows L2
open PySem.W (Codec)
open WcP (Good Fit Wf Thru ThruI InGr InGrI GrpAt EndsOf)
abbrev s_block_ends : Stmt := top 8
abbrev s_ends_through : Stmt := top 9
abbrev s_seq_ends : Stmt := top 10
abbrev s_alt_ends : Stmt := top 11
abbrev s_ends_by_rounds : Stmt := top 12
abbrev s_ends_in_groups : Stmt := top 13
abbrev s_loop_ends : Stmt := top 14
abbrev s_program_ends : Stmt := top 15
abbrev s_row_is_run : Stmt := top 16
/-! whole numbers and bits -/
theorem or_nat (a b : Nat) : Builtin.bitOr (a : Int) (b : Int) = ((a ||| b : Nat) : Int) := Bits.bitOr_pp (Int.natCast_nonneg _) (Int.natCast_nonneg _)
theorem xor_nat (a b : Nat) : Builtin.bitXor (a : Int) (b : Int) = ((a ^^^ b : Nat) : Int) := Bits.bitXor_pp (Int.natCast_nonneg _) (Int.natCast_nonneg _)
theorem shl_nat (a p : Nat) : (a : Int) * 2 ^ (p : Int).toNat = ((a * 2 ^ p : Nat) : Int) := by
  rw [Int.toNat_natCast, Int.natCast_mul, Int.natCast_pow]
  rfl
theorem shr_nat (a p : Nat) : (a : Int) / 2 ^ (p : Int).toNat = ((a / 2 ^ p : Nat) : Int) := by
  rw [Int.toNat_natCast, Int.natCast_ediv, Int.natCast_pow]
  rfl
theorem shl_one (p : Nat) : (1 : Int) * 2 ^ (p : Int).toNat = ((2 ^ p : Nat) : Int) := by
  rw [Int.toNat_natCast, Int.one_mul, Int.natCast_pow]
  rfl
theorem shl_two (p : Nat) : (2 : Int) * 2 ^ (p : Int).toNat = ((2 ^ (p + 1) : Nat) : Int) := by
  rw [Int.toNat_natCast, Nat.pow_succ, Nat.mul_comm, Int.natCast_mul, Int.natCast_pow]
  rfl
theorem mask_nat (a k : Nat) : Builtin.bitAnd (a : Int) (((2 ^ k : Nat) : Int) - 1) = ((a % 2 ^ k : Nat) : Int) := by
  have hp : 0 < 2 ^ k := Nat.two_pow_pos k
  have e : ((2 ^ k : Nat) : Int) - 1 = ((2 ^ k - 1 : Nat) : Int) := by
    generalize (2 : Nat) ^ k = m at hp
    omega
  rw [e, bitAnd_pp (Int.natCast_nonneg _) (Int.natCast_nonneg _), Int.toNat_natCast, Int.toNat_natCast, Nat.and_two_pow_sub_one_eq_mod]
theorem and_one (a : Nat) : Builtin.bitAnd (a : Int) 1 = ((a % 2 : Nat) : Int) := by
  rw [bitAnd_m1]
  omega
theorem bits_nat {M : Nat} (h : M ≠ 0) : ((Builtin.Int.intBits (M : Int) : Nat) : Int) - 1 = ((M.log2 : Nat) : Int) := by
  unfold Builtin.Int.intBits
  have e : ((M : Int) == 0) = false := by simpa using h
  rw [e]
  simp only [Bool.false_eq_true, if_false, Int.natAbs_natCast]
  omega
theorem not_nat (a m : Nat) : Builtin.bitAnd (a : Int) (Builtin.bitNot (m : Int)) = ((a ^^^ (a &&& m) : Nat) : Int) := by
  have e1 := Bits.nat_xor_add_and a (a &&& m)
  have e2 : a &&& (a &&& m) = a &&& m := by rw [← Nat.and_assoc, Nat.and_self]
  rw [e2] at e1
  have e3 : Builtin.bitNot (Builtin.bitNot (m : Int)) = (m : Int) := by unfold Builtin.bitNot; omega
  have h1 : decide ((0 : Int) ≤ (a : Int)) = true := decide_eq_true (Int.natCast_nonneg _)
  have h2 : decide ((0 : Int) ≤ Builtin.bitNot (m : Int)) = false := decide_eq_false (by unfold Builtin.bitNot; omega)
  unfold Builtin.bitAnd
  rw [h1, h2]
  show (a : Int) - (((a : Int).toNat &&& (Builtin.bitNot (Builtin.bitNot (m : Int))).toNat : Nat) : Int) = _
  rw [e3, Int.toNat_natCast, Int.toNat_natCast]
  omega
theorem off_bit (a p m : Nat) : (a ^^^ (a &&& 2 ^ p)).testBit m = (a.testBit m && !decide (p = m)) := by
  rw [Nat.testBit_xor, Nat.testBit_and, Nat.testBit_two_pow]
  cases a.testBit m <;> cases decide (p = m) <;> rfl
section
variable {P : Program} {w : World} {K : PySem.W.Frag} {mg : Str → Option Value} {base : Heap} {A : Adr}
/-! ends_through -/
def sp_ends_through : Sp := fun vs H Q _ => ∃ (e : Addr) (M : Nat) (E : List Nat), vs = [.int (M : Nat), .ref e] ∧ H e = some (.lst (nvs E)) ∧ E.length ≤ 1000 ∧ (∀ m, M.testBit m = true → m < E.length) ∧ ∀ R : Nat, Thru M E R → Q (.int (R : Nat)) H
theorem sc_ends_through : FnScope ["middles", "ends", "reached", "place"] ["middles", "ends"] (defScope s_ends_through) := ⟨rfl, rfl, rfl, by decide +kernel, rfl, by decide +kernel, by decide +kernel⟩
theorem ok_ends_through {f : Addr} {fd : FuncData} (D : Def K mg "ends_through" s_ends_through ["middles", "ends"] f fd) (T : Txt K mg A) : FnOk P w K mg base CX0 1 f fd ["middles", "ends"] sp_ends_through := by
  have sc := @sc_ends_through
  refine D.fn.ok sc (fun vs H Q E h => ?_) (fun cdv A' outer s' H vs Q E hr h => ?_)
  · obtain ⟨e, M, E, rfl, _⟩ := h
    rfl
  · obtain ⟨e, M, E, rfl, he, hl, hM, kk⟩ := h
    refine ⟨_, (pss_cons (ps_set (i := 2) sc.nd rfl (Or.inl rfl) pe_int)
      (pss_cons (ps_while PassesOwn.never (pt_cmpR op_gt (pv 0) pe_int (nomark _)) (pss_cons (ps_set (i := 3) sc.nd rfl (Or.inl rfl) (pe_op op_sub (pe_bm0 PySem.F.plainAttrs_int PySem.F.slot_int_bit_length PySem.F.type_int_bit_length mt_bitlen (pv 0)) pe_int))
      (pss_cons (ps_aug (i := 2) sc.nd rfl (Or.inl rfl) (pe_ix ix_list (pv 1) (pv 3) (fun _ _ => rfl)) iop_or)
      (pss_one (ps_aug (i := 0) sc.nd rfl (Or.inl rfl) (pe_op op_shl pe_int (pv 3)) iop_xor)))))
      (pss_one (ps_ret (pv 2))))), ?_⟩
    refine ⟨fun m σ H' => ∃ (M' R' : Nat) (v : Option V), σ = [some (.int (M' : Nat)), some (.ref e), some (.int (R' : Nat)), v] ∧ H' = H ∧ M' = m ∧ ThruI M E M' R', ⟨M, M, 0, none, rfl, rfl, rfl, ThruI.start hM⟩, ?_⟩
    rintro m σ H' ⟨M', R', v, rfl, rfl, rfl, I⟩
    refine ⟨_, rfl, _, _, rfl, rfl, _, rfl, ite2 (fun h => ?_) (fun h => ?_)⟩
    · have h1 : (0 : Int) < (M' : Int) := of_decide_eq_true h
      have h0 : M' ≠ 0 := by omega
      obtain ⟨g1, g2⟩ := I.step h0
      refine ⟨fun σ' H'' => ∃ (R' : Nat) (v : Option V), σ' = [some (.int ((M' ^^^ 2 ^ M'.log2 : Nat) : Nat)), some (.ref e), some (.int (R' : Nat)), v] ∧ H'' = H' ∧ ThruI M E (M' ^^^ 2 ^ M'.log2) R', fun σ' H'' ⟨R', v, z1, z2, z3⟩ => ⟨_, WcP.xor_lt h0, _, R', v, z1, z2, rfl, z3⟩, ?_⟩
      refine ⟨_, rfl, rfl, _, rfl, rfl, _, _, rfl, rfl, ?_⟩
      dsimp only
      rw [bits_nat h0]
      refine ⟨_, rfl, _, rfl, _, rfl, e, _, _, _, rfl, rfl, SqL.of he, at_i g1, _, _, rfl, rfl, ?_⟩
      dsimp only
      rw [or_nat]
      refine ⟨_, rfl, _, rfl, _, _, rfl, rfl, ⟨by omega, by omega, by decide⟩, _, _, rfl, rfl, ?_⟩
      dsimp only
      rw [shl_one, xor_nat]
      exact ⟨_, _, rfl, rfl, g2⟩
    · have h1 : ¬ (0 : Int) < (M' : Int) := fun z => h (decide_eq_true z)
      have h0 : M' = 0 := by omega
      subst h0
      exact ⟨_, rfl, kk R' I.fin⟩
/-! ends_in_groups -/
def sp_ends_in_groups : Sp := fun vs H Q _ => ∃ (G n : Nat), vs = [.int (G : Nat), .int (n : Nat)] ∧ 0 < n ∧ n ≤ 1000 ∧ ∀ R : Nat, InGr n G R → Q (.int (R : Nat)) H
theorem sc_ends_in_groups : FnScope ["groups", "width", "every", "reached"] ["groups", "width"] (defScope s_ends_in_groups) := ⟨rfl, rfl, rfl, by decide +kernel, rfl, by decide +kernel, by decide +kernel⟩
theorem ok_ends_in_groups {f : Addr} {fd : FuncData} (D : Def K mg "ends_in_groups" s_ends_in_groups ["groups", "width"] f fd) (T : Txt K mg A) : FnOk P w K mg base CX0 1 f fd ["groups", "width"] sp_ends_in_groups := by
  have sc := @sc_ends_in_groups
  refine D.fn.ok sc (fun vs H Q E h => ?_) (fun cdv A' outer s' H vs Q E hr h => ?_)
  · obtain ⟨G, n, rfl, _⟩ := h
    rfl
  · obtain ⟨G, n, rfl, hn, hl, kk⟩ := h
    refine ⟨_, (pss_cons (ps_set (i := 2) sc.nd rfl (Or.inl rfl) (pe_op op_sub (pe_op op_shl pe_int (pv 1)) pe_int))
      (pss_cons (ps_set (i := 3) sc.nd rfl (Or.inl rfl) pe_int)
      (pss_cons (ps_while PassesOwn.never (pt_cmpR op_gt (pv 0) pe_int (nomark _)) (pss_cons (ps_aug (i := 3) sc.nd rfl (Or.inl rfl) (pe_op op_and (pv 0) (pv 2)) iop_or)
      (pss_one (ps_set (i := 0) sc.nd rfl (Or.inl rfl) (pe_op op_shr (pv 0) (pv 1))))))
      (pss_one (ps_ret (pv 3)))))), ?_⟩
    refine ⟨_, rfl, _, _, rfl, rfl, ⟨by omega, by omega, by decide⟩, _, _, rfl, rfl, ?_⟩
    dsimp only
    rw [shl_one]
    refine ⟨fun m σ H' => ∃ (G' R' : Nat), σ = [some (.int (G' : Nat)), some (.int (n : Nat)), some (.int (((2 ^ n : Nat) : Int) - 1)), some (.int (R' : Nat))] ∧ H' = H ∧ G' = m ∧ InGrI n G G' R', ⟨G, G, 0, rfl, rfl, rfl, InGrI.start⟩, ?_⟩
    rintro m σ H' ⟨G', R', rfl, rfl, rfl, I⟩
    refine ⟨_, rfl, _, _, rfl, rfl, _, rfl, ite2 (fun h => ?_) (fun h => ?_)⟩
    · have h1 : (0 : Int) < (G' : Int) := of_decide_eq_true h
      have h0 : G' ≠ 0 := by omega
      refine ⟨fun σ' H'' => ∃ (R' : Nat), σ' = [some (.int ((G' / 2 ^ n : Nat) : Nat)), some (.int (n : Nat)), some (.int (((2 ^ n : Nat) : Int) - 1)), some (.int (R' : Nat))] ∧ H'' = H' ∧ InGrI n G (G' / 2 ^ n) R',
        fun σ' H'' ⟨R', z1, z2, z3⟩ => ⟨_, Nat.div_lt_self (by omega) (Nat.one_lt_two_pow (by omega)), _, R', z1, z2, rfl, z3⟩, ?_⟩
      refine ⟨_, rfl, _, rfl, _, rfl, _, _, rfl, rfl, _, _, rfl, rfl, ?_⟩
      dsimp only
      rw [mask_nat, or_nat]
      refine ⟨_, rfl, _, rfl, _, _, rfl, rfl, (by show (0 : Int) ≤ (n : Int); omega), ?_⟩
      dsimp only
      rw [shr_nat]
      exact ⟨_, rfl, rfl, I.step⟩
    · have h1 : ¬ (0 : Int) < (G' : Int) := fun z => h (decide_eq_true z)
      have h0 : G' = 0 := by omega
      subst h0
      exact ⟨_, rfl, kk R' I.fin⟩
/-! block_ends -/
def sp_block_ends : Sp := fun vs H Q _ => ∃ (rw_ : Addr) (k : Nat) (r : List Nat), vs = [.ref rw_, .int (k : Nat)] ∧ H rw_ = some (.lst (nvs r)) ∧ r.length ≤ 24 ∧
  ∀ (H' : Hp) (f : Addr) (e : List Nat), Same H H' → H' f = some (.lst (nvs e)) → e.length = r.length + 1 → (∀ i, i < r.length → e.getD i 0 = if r[i]? = some k then 2 ^ (i + 1) else 0) → e.getD r.length 0 = 0 → Q (.ref f) H'
theorem sc_block_ends : FnScope ["row", "block", "ends", "start"] ["row", "block"] (defScope s_block_ends) := ⟨rfl, rfl, rfl, by decide +kernel, rfl, by decide +kernel, by decide +kernel⟩
theorem getD_snoc_old {ts : List Nat} {n k : Nat} (h : k < ts.length) : (ts ++ [n]).getD k 0 = ts.getD k 0 := by
  rw [List.getD_eq_getElem?_getD, List.getD_eq_getElem?_getD, List.getElem?_append_left h]
theorem getD_snoc_new {ts : List Nat} {n k : Nat} (h : k = ts.length) : (ts ++ [n]).getD k 0 = n := by
  subst h
  rw [List.getD_eq_getElem?_getD, List.getElem?_append_right (Nat.le_refl _), Nat.sub_self]
  rfl
/-- a list grown by one: what holds of each place -/
theorem grow {ts : List Nat} {n i : Nat} {Pr : Nat → Nat → Prop} (hl : ts.length = i) (h : ∀ k, k < i → Pr k (ts.getD k 0)) (hn : Pr i n) : (ts ++ [n]).length = i + 1 ∧ ∀ k, k < i + 1 → Pr k ((ts ++ [n]).getD k 0) := by
  refine ⟨by rw [List.length_append, hl]; rfl, fun k hk => ?_⟩
  by_cases e : k = i
  · subst e
    rw [getD_snoc_new hl.symm]
    exact hn
  · rw [getD_snoc_old (by omega)]
    exact h k (by omega)
theorem ok_block_ends {f : Addr} {fd : FuncData} (D : Def K mg "block_ends" s_block_ends ["row", "block"] f fd) (T : Txt K mg A) : FnOk P w K mg base CX0 1 f fd ["row", "block"] sp_block_ends := by
  have sc := @sc_block_ends
  refine D.fn.ok sc (fun vs H Q E h => ?_) (fun cdv A' outer s' H vs Q E hr h => ?_)
  · obtain ⟨rw_, k, r, rfl, _⟩ := h
    rfl
  · obtain ⟨rw_, k, r, rfl, hrw, hl, kk⟩ := h
    refine ⟨_, (pss_cons (ps_setLc (i := 2) rfl sc.nd rfl rfl (sw_true rfl rfl rfl (by decide +kernel)) (pi_range1 rfl T.no_range (pa_cons (pe_callB call_len_seq (by rfl) T.no_len PySem.boot_len (pa_cons (pv 0) pa_nil)) pa_nil)) (blkOk_by (own := [("start", 3)]) (by show blkC ["row", "block", "ends", "start"] (defScope s_block_ends) _ _ = true; decide +kernel)) (fun _ _ _ _ _ => pg_name (i := 3) sc.nd rfl (Or.inl rfl)) (fun _ _ _ _ _ => pts_nil)
        (fun _ _ _ _ _ => pe_ifExp (pt_cmpR op_eq (pe_ix (ix_listK (K := K)) (pv 0) (pv 3) (fun _ _ => rfl)) (pv 1) (nomark _)) (pe_op op_shl pe_int (pv 3)) pe_int))
      (pss_cons (ps_expr (pe_bm PySem.F.plainAttrs_list PySem.F.slot_list_append PySem.F.type_list_append mt_append (pv 2) (pa_cons pe_int pa_nil)))
      (pss_one (ps_ret (pv 2))))), ?_⟩
    refine ⟨_, rfl, rw_, _, rfl, .inl (SqL.of hrw), _, rfl, by omega, by rw [ints_len]; omega, fun q hq => ?_⟩
    have hz : ((nvs r).length : Int).toNat = r.length := by rw [ints_len, Int.toNat_natCast]
    rw [hz]
    refine lc_range (lo := 0) (n := r.length) (fun i H' => Same H H' ∧ ∃ e : List Nat, H' q = some (.lst (nvs e)) ∧ e.length = i ∧ ∀ j, j < i → e.getD j 0 = if r[j]? = some k then 2 ^ (j + 1) else 0) ⟨same_new hq, [], upd_same, rfl, fun j hj => absurd hj (Nat.not_lt_zero _)⟩ ?_ ?_
    · rintro i H' hi ⟨s5, e, he, hle, hj⟩
      have fin : ∀ n : Nat, (n = if r[i]? = some k then 2 ^ (i + 1) else 0) → ∃ acc, H' q = some (.lst acc) ∧ acc.length < sizeLine ∧ (Same H (upd H' q (.lst (acc ++ [V.int (n : Nat)]))) ∧ ∃ e : List Nat, (upd H' q (.lst (acc ++ [V.int (n : Nat)]))) q = some (.lst (nvs e)) ∧ e.length = i + 1 ∧ ∀ j, j < i + 1 → e.getD j 0 = if r[j]? = some k then 2 ^ (j + 1) else 0) := fun n hn => by
        obtain ⟨g1, g2⟩ := grow (Pr := fun j z => z = if r[j]? = some k then 2 ^ (j + 1) else 0) hle hj hn
        exact ⟨_, he, small1000 (by rw [ints_len, hle]; omega), same_upd hq s5, e ++ [n], by rw [upd_same, ints_snoc], g1, g2⟩
      have e0 : (0 : Int) + (i : Int) = ((i : Nat) : Int) := Int.zero_add _
      rw [e0]
      have hri : r[i]? = some (r.getD i 0) := by rw [List.getD_eq_getElem?_getD, List.getElem?_eq_getElem hi]; rfl
      refine ⟨rfl, _, rfl, _, rfl, rw_, _, _, _, rfl, rfl, SqL.of (s5 _ _ hrw), at_i hi, _, rfl, rfl, _, rfl, ite2 (fun h => ?_) (fun h => ?_)⟩
      · have h1 : V.int (r.getD i 0 : Nat) = V.int (k : Nat) := of_decide_eq_true h
        have h2 : r.getD i 0 = k := by injection h1 with h1; omega
        refine ⟨_, rfl, _, _, rfl, rfl, ⟨by omega, by omega, by decide⟩, ?_⟩
        dsimp only
        rw [shl_two]
        exact fin _ (by rw [hri, if_pos (by rw [h2])])
      · have h1 : ¬ V.int (r.getD i 0 : Nat) = V.int (k : Nat) := fun z => h (decide_eq_true z)
        exact fin 0 (by rw [hri, if_neg (fun z => h1 (by rw [Option.some.inj z]))])
    · rintro H' ⟨s5, e, he, hle, hj⟩
      refine ⟨_, rfl, .inl ⟨rfl, _, SqL.of he⟩, q, _, _, rfl, rfl, he, small1000 (by rw [ints_len, hle]; omega), ?_⟩
      refine ⟨_, rfl, kk _ q (e ++ [0]) (same_upd hq s5) (by rw [upd_same, ints_snoc]; rfl) (by rw [List.length_append, hle]; rfl) (fun i hi => ?_) (getD_snoc_new hle.symm)⟩
      rw [getD_snoc_old (by omega)]
      exact hj i hi
/-! seq_ends, alt_ends -/
def sp_seq_ends : Sp := fun vs H Q _ => ∃ (a b : Addr) (ea eb : List Nat), vs = [.ref a, .ref b] ∧ H a = some (.lst (nvs ea)) ∧ H b = some (.lst (nvs eb)) ∧ ea.length ≤ 1000 ∧ eb.length ≤ 1000 ∧ (∀ i, i < ea.length → ∀ m, (ea.getD i 0).testBit m = true → m < eb.length) ∧
  ∀ (H' : Hp) (f : Addr) (e : List Nat), Same H H' → H' f = some (.lst (nvs e)) → e.length = ea.length → (∀ i, i < ea.length → Thru (ea.getD i 0) eb (e.getD i 0)) → Q (.ref f) H'
theorem sc_seq_ends : FnScope ["first", "second", "middles"] ["first", "second"] (defScope s_seq_ends) := ⟨rfl, rfl, rfl, by decide +kernel, rfl, by decide +kernel, by decide +kernel⟩
theorem ints_get {ts : List Nat} {i : Nat} {y : V} (h : (nvs ts)[i]? = some y) : i < ts.length ∧ y = .int (ts.getD i 0 : Nat) := by
  have hi : i < ts.length := by
    have := (List.getElem?_eq_some_iff.mp h).1
    rw [ints_len] at this
    exact this
  rw [ints_at hi] at h
  exact ⟨hi, (Option.some.inj h).symm⟩
theorem ok_seq_ends {f f1 : Addr} {fd fd1 : FuncData} (D : Def K mg "seq_ends" s_seq_ends ["first", "second"] f fd) (T : Txt K mg A) (D_ends_through : Def K mg "ends_through" s_ends_through ["middles", "ends"] f1 fd1)
    (G_ends_through : FnOk P w K mg base CX0 1 f1 fd1 ["middles", "ends"] sp_ends_through) : FnOk P w K mg base CX0 2 f fd ["first", "second"] sp_seq_ends := by
  have sc := @sc_seq_ends
  refine D.fn.ok sc (fun vs H Q E h => ?_) (fun cdv A' outer s' H vs Q E hr h => ?_)
  · obtain ⟨a, b, ea, eb, rfl, _⟩ := h
    rfl
  · obtain ⟨a, b, ea, eb, rfl, ha, hb, la, lb, hm, kk⟩ := h
    refine ⟨_, (pss_one (ps_ret (pe_lc rfl sc.nd (pi_list (pv 0)) (blkOk_by (own := [("middles", 2)]) (by show blkC ["first", "second", "middles"] (defScope s_seq_ends) _ _ = true; decide +kernel)) (fun _ _ _ _ _ => pg_name (i := 2) sc.nd rfl (Or.inl rfl)) (fun _ _ _ _ _ => pts_nil)
      (fun _ _ _ _ _ => pe_fn D_ends_through G_ends_through hr (pa_cons (pv 2) (pa_cons (pv 1) pa_nil)))))), ?_⟩
    refine ⟨_, rfl, a, rfl, ⟨_, SqL.of ha⟩, fun q hq => ?_⟩
    refine lc_list (K := K) (a := a) (xs := nvs ea) (fun i H' => Same H H' ∧ ∃ e : List Nat, H' q = some (.lst (nvs e)) ∧ e.length = i ∧ ∀ j, j < i → Thru (ea.getD j 0) eb (e.getD j 0)) ⟨same_new hq, [], upd_same, rfl, fun j hj => absurd hj (Nat.not_lt_zero _)⟩ (fun i H' _ h => SqL.of (h.1 _ _ ha)) ?_ ?_
    · rintro i y H' hi ⟨s5, e, he, hle, hj⟩
      obtain ⟨hi', rfl⟩ := ints_get hi
      refine ⟨rfl, _, rfl, _, rfl, b, _, eb, rfl, s5 _ _ hb, lb, hm i hi', fun R hR => ?_⟩
      obtain ⟨g1, g2⟩ := grow (Pr := fun j z => Thru (ea.getD j 0) eb z) hle hj hR
      exact ⟨_, he, small1000 (by rw [ints_len, hle]; omega), same_upd hq s5, e ++ [R], by rw [upd_same, ints_snoc], g1, g2⟩
    · rintro H' ⟨s5, e, he, hle, hj⟩
      rw [ints_len] at hle hj
      exact kk H' q e s5 he hle hj
def sp_alt_ends : Sp := fun vs H Q _ => ∃ (a b : Addr) (ea eb : List Nat), vs = [.ref a, .ref b] ∧ H a = some (.lst (nvs ea)) ∧ H b = some (.lst (nvs eb)) ∧ ea.length ≤ 1000 ∧ eb.length = ea.length ∧
  ∀ (H' : Hp) (f : Addr) (e : List Nat), Same H H' → H' f = some (.lst (nvs e)) → e.length = ea.length → (∀ i, i < ea.length → e.getD i 0 = ea.getD i 0 ||| eb.getD i 0) → Q (.ref f) H'
theorem sc_alt_ends : FnScope ["first", "second", "start"] ["first", "second"] (defScope s_alt_ends) := ⟨rfl, rfl, rfl, by decide +kernel, rfl, by decide +kernel, by decide +kernel⟩
theorem ok_alt_ends {f : Addr} {fd : FuncData} (D : Def K mg "alt_ends" s_alt_ends ["first", "second"] f fd) (T : Txt K mg A) : FnOk P w K mg base CX0 1 f fd ["first", "second"] sp_alt_ends := by
  have sc := @sc_alt_ends
  refine D.fn.ok sc (fun vs H Q E h => ?_) (fun cdv A' outer s' H vs Q E hr h => ?_)
  · obtain ⟨a, b, ea, eb, rfl, _⟩ := h
    rfl
  · obtain ⟨a, b, ea, eb, rfl, ha, hb, la, lb, kk⟩ := h
    refine ⟨_, (pss_one (ps_ret (pe_lc rfl sc.nd (pi_range1 rfl T.no_range (pa_cons (pe_callB call_len_seq (by rfl) T.no_len PySem.boot_len (pa_cons (pv 0) pa_nil)) pa_nil)) (blkOk_by (own := [("start", 2)]) (by show blkC ["first", "second", "start"] (defScope s_alt_ends) _ _ = true; decide +kernel)) (fun _ _ _ _ _ => pg_name (i := 2) sc.nd rfl (Or.inl rfl)) (fun _ _ _ _ _ => pts_nil)
      (fun _ _ _ _ _ => pe_op op_or (pe_ix (ix_listK (K := K)) (pv 0) (pv 2) (fun _ _ => rfl)) (pe_ix (ix_listK (K := K)) (pv 1) (pv 2) (fun _ _ => rfl)))))), ?_⟩
    refine ⟨_, rfl, a, _, rfl, .inl (SqL.of ha), _, rfl, by omega, by rw [ints_len]; omega, fun q hq => ?_⟩
    have hz : ((nvs ea).length : Int).toNat = ea.length := by rw [ints_len, Int.toNat_natCast]
    rw [hz]
    refine lc_range (lo := 0) (n := ea.length) (fun i H' => Same H H' ∧ ∃ e : List Nat, H' q = some (.lst (nvs e)) ∧ e.length = i ∧ ∀ j, j < i → e.getD j 0 = ea.getD j 0 ||| eb.getD j 0) ⟨same_new hq, [], upd_same, rfl, fun j hj => absurd hj (Nat.not_lt_zero _)⟩ ?_ ?_
    · rintro i H' hi ⟨s5, e, he, hle, hj⟩
      have e0 : (0 : Int) + (i : Int) = ((i : Nat) : Int) := Int.zero_add _
      rw [e0]
      refine ⟨rfl, _, rfl, _, rfl, a, _, _, _, rfl, rfl, SqL.of (s5 _ _ ha), at_i hi, _, rfl, _, rfl, b, _, _, _, rfl, rfl, SqL.of (s5 _ _ hb), at_i (by omega), _, _, rfl, rfl, ?_⟩
      dsimp only
      rw [or_nat]
      obtain ⟨g1, g2⟩ := grow (n := ea.getD i 0 ||| eb.getD i 0) (Pr := fun j z => z = ea.getD j 0 ||| eb.getD j 0) hle hj rfl
      exact ⟨_, he, small1000 (by rw [ints_len, hle]; omega), same_upd hq s5, e ++ [ea.getD i 0 ||| eb.getD i 0], by rw [upd_same, ints_snoc], g1, g2⟩
    · rintro H' ⟨s5, e, he, hle, hj⟩
      exact kk H' q e s5 he hle hj
end
end Wp

set_option maxHeartbeats 2000000
namespace Wp
open PySem PySem.Spec PyProof.Rows L2
open PySem.W (Codec)
open WcP (Good Fit Wf Thru ThruI InGr InGrI GrpAt EndsOf Chain)
section
variable {P : Program} {w : World} {K : PySem.W.Frag} {mg : Str → Option Value} {base : Heap} {A : Adr}
/-! ends_by_rounds -/
theorem zeros (n : Nat) : (List.replicate n [V.int 0]).flatten = nvs (List.replicate n 0) := by
  induction n with
  | zero => rfl
  | succ n ih =>
    rw [List.replicate_succ, List.flatten_cons, ih, List.replicate_succ]
    rfl
theorem zeros_at (n k : Nat) : (List.replicate n 0).getD k 0 = 0 := by
  rw [List.getD_eq_getElem?_getD, List.getElem?_replicate]
  split <;> rfl
/-- what a body's ends say of stretches that aren't empty -/
structure Steps (E : List Nat) (R : Nat → Nat → Prop) : Prop where
  few : E.length ≤ 25
  pos : 0 < E.length
  iff : ∀ i, i < E.length → ∀ j, ((E.getD i 0).testBit j = true ∧ i < j) ↔ R i j
  le : ∀ i, i < E.length → ∀ j, (E.getD i 0).testBit j = true → i ≤ j ∧ j < E.length
  lt : ∀ i j, R i j → i < j
def sp_ends_by_rounds : Sp := fun vs H Q _ => ∃ (e : Addr) (E : List Nat) (R : Nat → Nat → Prop), vs = [.ref e] ∧ H e = some (.lst (nvs E)) ∧ Steps E R ∧
  ∀ (H' : Hp) (f : Addr) (G : List Nat), Same H H' → H' f = some (.lst (nvs G)) → G.length = E.length → (∀ i, i < E.length → GrpAt R E.length (G.getD i 0) i) → Q (.ref f) H'
theorem sc_ends_by_rounds : FnScope ["body", "width", "groups", "start", "later"] ["body"] (defScope s_ends_by_rounds) := ⟨rfl, rfl, rfl, by decide +kernel, rfl, by decide +kernel, by decide +kernel⟩
theorem ok_ends_by_rounds {f f1 : Addr} {fd fd1 : FuncData} (D : Def K mg "ends_by_rounds" s_ends_by_rounds ["body"] f fd) (T : Txt K mg A) (D_ends_through : Def K mg "ends_through" s_ends_through ["middles", "ends"] f1 fd1)
    (G_ends_through : FnOk P w K mg base CX0 1 f1 fd1 ["middles", "ends"] sp_ends_through) : FnOk P w K mg base CX0 2 f fd ["body"] sp_ends_by_rounds := by
  have sc := @sc_ends_by_rounds
  refine D.fn.ok sc (fun vs H Q E h => ?_) (fun cdv A' outer s' H vs Q E hr h => ?_)
  · obtain ⟨e, E, R, rfl, _⟩ := h
    rfl
  · obtain ⟨e, E, R, rfl, he, S, kk⟩ := h
    refine ⟨_, (pss_cons (ps_set (i := 1) sc.nd rfl (Or.inl rfl) (pe_callB call_len_seq (by rfl) T.no_len PySem.boot_len (pa_cons (pv 0) pa_nil)))
      (pss_cons (ps_set (i := 2) sc.nd rfl (Or.inl rfl) (pe_op op_rep (pe_lst (pa_cons pe_int pa_nil)) (pv 1)))
      (pss_cons (ps_for PassesOwn.never rfl (pi_range3 rfl T.no_range (pa_cons (pe_op op_sub (pv 1) pe_int) (pa_cons (pe_un un_neg pe_int) (pa_cons (pe_un un_neg pe_int) pa_nil)))) (pg_name (i := 3) sc.nd rfl (Or.inl rfl)) (pss_cons (ps_set (i := 4) sc.nd rfl (Or.inl rfl) (pe_op op_and (pe_ix ix_list (pv 0) (pv 3) (fun _ _ => rfl)) (pe_un un_inv (pe_op op_shl pe_int (pv 3)))))
      (pss_one (ps_asg (pe_op op_or (pe_op op_shl pe_int (pv 3)) (pe_op op_shlB (pe_fn D_ends_through G_ends_through hr (pa_cons (pv 4) (pa_cons (pv 2) pa_nil))) (pv 1))) (pg_sub (pv 2) (pv 3) set_list)))))
      (pss_one (ps_ret (pv 2)))))), ?_⟩
    have h25 := S.few
    have h0 := S.pos
    refine ⟨_, rfl, e, _, rfl, .inl (SqL.of he), ?_⟩
    rw [ints_len]
    generalize hn : E.length = n at *
    refine ⟨(by show 1 ≤ sizeLine; decide), fun l0 hl0 => ⟨_, rfl, l0, _, _, rfl, rfl, upd_same, by omega, by omega, Nat.le_of_lt (small1000 (by show 1 * (n : Int).toNat ≤ 1000; omega)), fun g hg => ?_⟩⟩
    have s0 : Same H (upd (upd H l0 (.lst [V.int 0])) g (.lst (List.replicate (n : Int).toNat [V.int 0]).flatten)) := (same_new hl0).trans (same_new hg)
    have hgH : H g = none := (same_new hl0).free hg
    have hg0 : (upd (upd H l0 (.lst [V.int 0])) g (.lst (List.replicate (n : Int).toNat [V.int 0]).flatten)) g = some (.lst (nvs (List.replicate n 0))) := by
      rw [upd_same, zeros, Int.toNat_natCast]
    refine ⟨_, rfl, _, _, rfl, rfl, _, rfl, _, rfl, _, _, _, n, rfl, ?_, ?_⟩
    · have q := RgC.neg (i := (n : Int) - 1) (j := -1) (by omega) (by omega) (by omega) (by omega)
      have e1 : ((n : Int) - 1 - -1).toNat = n := by omega
      rw [e1] at q
      exact q
    · refine for_rangeC (lo := (n : Int) - 1) (c := -1) (n := n) (fun i σ H' => ∃ v3 v4 : Option V, σ = [some (.ref e), some (.int (n : Nat)), some (.ref g), v3, v4] ∧ Same H H' ∧ ∃ G : List Nat, H' g = some (.lst (nvs G)) ∧ G.length = n ∧ ∀ k, n ≤ k + i → k < n → GrpAt R n (G.getD k 0) k)
        ⟨none, none, rfl, s0, _, hg0, List.length_replicate .., fun k h1 h2 => by omega⟩ ?_ ?_
      · rintro i σ H' hi ⟨v3, v4, rfl, s5, G, hG, hGl, hGk⟩
        obtain ⟨s, hs⟩ : ∃ s : Nat, s + i + 1 = n := ⟨n - 1 - i, by omega⟩
        have e1 : (n : Int) - 1 + (i : Nat) * -1 = ((s : Nat) : Int) := by omega
        rw [e1]
        refine ⟨_, rfl, _, rfl, e, _, _, _, rfl, rfl, SqL.of (s5 _ _ he), at_i (by omega), _, rfl, _, _, rfl, rfl, ⟨by omega, by omega, by decide⟩, _, rfl, _, _, rfl, rfl, ?_⟩
        dsimp only
        rw [shl_one, not_nat]
        have hL : ∀ m, (E.getD s 0 ^^^ (E.getD s 0 &&& 2 ^ s)).testBit m = true ↔ R s m := fun m => by
          rw [off_bit, Bool.and_eq_true, ← S.iff s (by omega) m]
          constructor
          · rintro ⟨z1, z2⟩
            have z3 := (S.le s (by omega) m z1).1
            have z4 : ¬ s = m := by simpa using z2
            exact ⟨z1, by omega⟩
          · rintro ⟨z1, z2⟩
            exact ⟨z1, by simp; omega⟩
        generalize hLv : E.getD s 0 ^^^ (E.getD s 0 &&& 2 ^ s) = L at hL ⊢
        have hRn : ∀ m, R s m → m < n := fun m hm => by
          have z := ((S.iff s (by omega) m).mpr hm).1
          have := (S.le s (by omega) m z).2
          omega
        refine ⟨_, rfl, _, _, rfl, rfl, ⟨by omega, by omega, by decide⟩, _, rfl, _, rfl, g, L, G, rfl, hG, by omega, fun m hm => by rw [hGl]; exact hRn m ((hL m).mp hm), fun Tv hT => ?_⟩
        have hGr : ∀ m, R s m → GrpAt R n (G.getD m 0) m := fun m hm => hGk m (by have := S.lt s m hm; omega) (hRn m hm)
        have hTb : Tv < 2 ^ (n * n) := WcP.lt_of_bits fun j hj => by
          obtain ⟨m, z1, z2⟩ := (hT j).mp hj
          have z3 := (hGr m ((hL m).mp z1) j).mp z2
          have z4 := z3.lt fun a b z => S.lt a b z
          have z5 := Nat.mod_lt j h0
          have z6 := Nat.div_add_mod j n
          have z7 : n * (j / n) ≤ n * (n - 1) := Nat.mul_le_mul_left n (by omega)
          have z8 : n * (n - 1) + n = n * n := by
            have : n = (n - 1) + 1 := by omega
            conv => rhs; rw [this, Nat.mul_succ]
            rw [← this]
          omega
        have hnn : n * n ≤ 1000 := Nat.le_trans (Nat.mul_le_mul h25 h25) (by decide)
        refine ⟨_, rfl, _, _, rfl, rfl, ⟨by omega, by omega, n * n, by omega, by rw [Int.natAbs_natCast]; exact hTb⟩, _, _, rfl, rfl, ?_⟩
        dsimp only
        rw [shl_one, shl_nat, or_nat]
        refine ⟨_, rfl, _, rfl, g, _, _, s, rfl, rfl, hG, ixN_nat (by rw [ints_len]; omega), ?_⟩
        refine ⟨_, _, rfl, same_upd hgH s5, G.set s (2 ^ s ||| Tv * 2 ^ n), by rw [upd_same, ints_set], by rw [List.length_set]; exact hGl, fun k h1 h2 => ?_⟩
        by_cases hk : k = s
        · subst hk
          rw [List.getD_eq_getElem?_getD, List.getElem?_set_self (by omega), Option.getD_some]
          exact GrpAt.make h0 (by omega) hL hT hGr
        · rw [List.getD_eq_getElem?_getD, List.getElem?_set_ne (fun z => hk z.symm), ← List.getD_eq_getElem?_getD]
          exact hGk k (by omega) h2
      · rintro σ H' ⟨v3, v4, rfl, s5, G, hG, hGl, hGk⟩
        exact ⟨_, rfl, kk H' g G s5 hG hGl fun i hi => hGk i (by omega) hi⟩
/-! loop_ends -/
def sp_loop_ends : Sp := fun vs H Q _ => ∃ (e : Addr) (E r : List Nat) (a k lo hi : Nat) (s : Wc.State), vs = [.ref e, .int (lo : Nat), .int (hi : Nat)] ∧ H e = some (.lst (nvs E)) ∧ Good s ∧ r.length ≤ 24 ∧ s.pieces[k]? = some (.loop a lo hi) ∧ EndsOf s.pieces r a E ∧
  ∀ (H' : Hp) (f : Addr) (e' : List Nat), Same H H' → H' f = some (.lst (nvs e')) → EndsOf s.pieces r k e' → Q (.ref f) H'
theorem sc_loop_ends : FnScope ["body", "lo", "hi", "width", "least", "most", "wanted", "groups"] ["body", "lo", "hi"] (defScope s_loop_ends) := ⟨rfl, rfl, rfl, by decide +kernel, rfl, by decide +kernel, by decide +kernel⟩
theorem steps_of {s : Wc.State} {r E : List Nat} {a : Nat} (G : Good s) (ha : a < s.pieces.length) (hr : r.length ≤ 24) (h : EndsOf s.pieces r a E) : Steps E (fun p q => WcP.Sp s.pieces r a p q ∧ p < q) where
  few := by rw [h.1]; omega
  pos := by rw [h.1]; omega
  iff := fun i hi j => by
    rw [h.1] at hi
    rw [h.2 i (by omega) j]
  le := fun i hi j hj => by
    rw [h.1] at hi ⊢
    have := h.bound G.wf ha (by omega) hj
    omega
  lt := fun i j z => z.2
theorem min_nat (a b : Nat) : (if (b : Int) < (a : Int) then (b : Int) else (a : Int)) = ((min a b : Nat) : Int) := by
  by_cases h : (b : Int) < (a : Int)
  · rw [if_pos h]; omega
  · rw [if_neg h]; omega
theorem ok_loop_ends {f f1 f2 : Addr} {fd fd1 fd2 : FuncData} (D : Def K mg "loop_ends" s_loop_ends ["body", "lo", "hi"] f fd) (T : Txt K mg A) (D_ends_by_rounds : Def K mg "ends_by_rounds" s_ends_by_rounds ["body"] f1 fd1)
    (G_ends_by_rounds : FnOk P w K mg base CX0 2 f1 fd1 ["body"] sp_ends_by_rounds) (D_ends_in_groups : Def K mg "ends_in_groups" s_ends_in_groups ["groups", "width"] f2 fd2) (G_ends_in_groups : FnOk P w K mg base CX0 1 f2 fd2 ["groups", "width"] sp_ends_in_groups) :
    FnOk P w K mg base CX0 3 f fd ["body", "lo", "hi"] sp_loop_ends := by
  have sc := @sc_loop_ends
  refine D.fn.ok sc (fun vs H Q E h => ?_) (fun cdv A' outer s' H vs Q E hr h => ?_)
  · obtain ⟨e, E, r, a, k, lo, hi, s, rfl, _⟩ := h
    rfl
  · obtain ⟨e, E, r, a, k, lo, hi, s, rfl, he, G, hr24, hk, hE, kk⟩ := h
    refine ⟨_, (pss_cons (ps_set (i := 3) sc.nd rfl (Or.inr rfl) (pe_callB call_len_seq (by rfl) T.no_len PySem.boot_len (pa_cons (pv 0) pa_nil)))
      (pss_cons (ps_set (i := 4) sc.nd rfl (Or.inr rfl) (pe_ifJ (pt_cmpR op_eq (pe_op op_and (pe_ix ix_list (pv 0) pe_int (fun _ _ => rfl)) pe_int) pe_int (nomark _)) pe_int (pv 1)))
      (pss_cons (ps_set (i := 5) sc.nd rfl (Or.inl rfl) (pe_callB (call_min2 rfl) (by rfl) T.no_min boot_min (pa_cons (pv 2) (pa_cons (pe_op op_sub (pv 3) pe_int) pa_nil))))
      (pss_cons (ps_if (pt_cmpR op_gt (pv 4) (pv 5) (nomark _)) (pss_one (ps_ret (pe_op op_rep (pe_lst (pa_cons pe_int pa_nil)) (pv 3)))) pss_nil)
      (pss_cons (ps_set (i := 6) sc.nd rfl (Or.inr rfl) (pe_op op_sub (pe_op op_shl pe_int (pe_op op_mul (pe_op op_add (pe_op op_sub (pv 5) (pv 4)) pe_int) (pv 3))) pe_int))
      (pss_one (ps_ret (pe_lc rfl sc.nd (pi_list (pe_fn D_ends_by_rounds G_ends_by_rounds hr (pa_cons (pv 0) pa_nil))) (blkOk_by (own := [("groups", 7)]) (by show blkC ["body", "lo", "hi", "width", "least", "most", "wanted", "groups"] (defScope s_loop_ends) _ _ = true; decide +kernel)) (fun _ _ _ _ _ => pg_name (i := 7) sc.nd rfl (Or.inl rfl)) (fun _ _ _ _ _ => pts_nil)
        (fun _ _ _ _ _ => pe_fn D_ends_in_groups G_ends_in_groups hr (pa_cons (pe_op op_and (pe_op op_shr (pv 7) (pe_op op_mul (pv 4) (pv 3))) (pv 6)) (pa_cons (pv 3) pa_nil))))))))))), ?_⟩
    have ha : a < s.pieces.length := by
      have h1 := G.wf k _ hk
      have h2 := (List.getElem?_eq_some_iff.mp hk).1
      have h3 : a < k := h1
      omega
    have hle := G.hi k a lo hi hk
    have hw : E.length = r.length + 1 := hE.1
    have S := steps_of G ha hr24 hE
    refine ⟨_, rfl, e, _, rfl, .inl (SqL.of he), ?_⟩
    rw [ints_len, hw]
    generalize hn : r.length + 1 = n at *
    obtain ⟨lst, hl1, hl2, hlv⟩ : ∃ lst : Nat, (E.getD 0 0 % 2 = 1 → lst = 0) ∧ (¬ E.getD 0 0 % 2 = 1 → lst = lo) ∧ lst ≤ 65535 := by
      by_cases z : E.getD 0 0 % 2 = 1
      · exact ⟨0, fun _ => rfl, fun y => absurd z y, by omega⟩
      · exact ⟨lo, fun y => absurd y z, fun _ => rfl, by omega⟩
    have hs1 : WcP.Sp s.pieces r a 0 0 → lst = 0 := fun z => hl1 (hE.zero.mpr z)
    have hs2 : ¬ WcP.Sp s.pieces r a 0 0 → lst = lo := fun z => hl2 fun y => z (hE.zero.mp y)
    refine ⟨_, rfl, e, _, _, _, rfl, rfl, SqL.of he, at_i (n := 0) (by omega), _, _, rfl, rfl, rfl, _, rfl, .int (lst : Nat), ?_, ?_⟩
    · refine ite2 (fun z => ?_) (fun z => ?_)
      · have z1 : V.int (Builtin.bitAnd ((E.getD 0 0 : Nat) : Int) 1) = V.int 1 := of_decide_eq_true z
        rw [and_one] at z1
        have z2 : E.getD 0 0 % 2 = 1 := by injection z1 with z1; omega
        rw [hl1 z2]
        exact ⟨rfl, rfl⟩
      · have z1 : ¬ V.int (Builtin.bitAnd ((E.getD 0 0 : Nat) : Int) 1) = V.int 1 := fun y => z (decide_eq_true y)
        rw [and_one] at z1
        have z2 : ¬ E.getD 0 0 % 2 = 1 := fun y => z1 (by rw [y]; rfl)
        rw [hl2 z2]
        exact ⟨_, rfl, rfl, rfl⟩
    · refine ⟨_, rfl, _, rfl, _, _, rfl, rfl, _, _, rfl, ?_⟩
      have en : (n : Int) - 1 = ((r.length : Nat) : Int) := by omega
      dsimp only
      rw [en, min_nat]
      generalize hmo : min hi r.length = mo
      refine ⟨_, rfl, _, rfl, _, _, rfl, rfl, _, rfl, ite2 (fun z => ?_) (fun z => ?_)⟩
      · have z1 : (mo : Int) < (lst : Int) := of_decide_eq_true z
        refine ⟨(by show 1 ≤ sizeLine; decide), fun l0 hl0 => ⟨_, rfl, l0, _, _, rfl, rfl, upd_same, by omega, by omega, Nat.le_of_lt (small1000 (by show 1 * (n : Int).toNat ≤ 1000; omega)), fun g hg => ?_⟩⟩
        refine kk _ g (List.replicate n 0) ((same_new hl0).trans (same_new hg)) (by rw [upd_same, zeros, Int.toNat_natCast]) ?_
        exact EndsOf.none G.wf G.loops hk hs1 hs2 (by omega) (by rw [List.length_replicate]; omega) fun i _ => zeros_at n i
      · have z1 : ¬ (mo : Int) < (lst : Int) := fun y => z (decide_eq_true y)
        have hlm : lst ≤ mo := by omega
        have hc : (mo - lst + 1) * n ≤ 1000 := Nat.le_trans (Nat.mul_le_mul (show mo - lst + 1 ≤ 25 by omega) (show n ≤ 25 by omega)) (by decide)
        have hln : lst * n ≤ 1000 := Nat.le_trans (Nat.mul_le_mul (show lst ≤ 24 by omega) (show n ≤ 25 by omega)) (by decide)
        have ec : ((mo : Int) - (lst : Int) + 1) * (n : Int) = (((mo - lst + 1) * n : Nat) : Int) := by
          rw [Int.natCast_mul]
          congr 1
          omega
        have el : (lst : Int) * (n : Int) = ((lst * n : Nat) : Int) := (Int.natCast_mul _ _).symm
        refine ⟨_, rfl, _, rfl, _, _, rfl, rfl, _, _, rfl, rfl, _, rfl, _, _, rfl, rfl, .inl ⟨by omega, by omega⟩, _, _, rfl, rfl, ⟨by rw [ec]; omega, by rw [ec]; omega, by decide⟩, _, _, rfl, rfl, ?_⟩
        dsimp only
        rw [ec, shl_one]
        generalize hcn : (mo - lst + 1) * n = cn at hc ⊢
        refine ⟨_, rfl, e, E, _, rfl, he, S, fun H1 g Gs s1 hg hgl hgk => ?_⟩
        refine ⟨g, rfl, ⟨_, SqL.of hg⟩, fun q hq => ?_⟩
        refine lc_list (K := K) (a := g) (xs := nvs Gs) (fun i H' => Same H1 H' ∧ ∃ es : List Nat, H' q = some (.lst (nvs es)) ∧ es.length = i ∧ ∀ j, j < i → InGr n (Gs.getD j 0 / 2 ^ (lst * n) % 2 ^ cn) (es.getD j 0))
          ⟨same_new hq, [], upd_same, rfl, fun j hj => absurd hj (Nat.not_lt_zero _)⟩ (fun i H' _ h => SqL.of (h.1 _ _ hg)) ?_ ?_
        · rintro i y H' hi ⟨s5, es, hes, hle', hj⟩
          obtain ⟨hi', rfl⟩ := ints_get hi
          refine ⟨rfl, _, rfl, _, rfl, _, rfl, _, _, rfl, rfl, .inl ⟨by omega, by omega⟩, _, _, rfl, rfl, (by show (0 : Int) ≤ (lst : Int) * (n : Int); rw [el]; omega), _, rfl, _, _, rfl, rfl, _, rfl, ?_⟩
          dsimp only
          rw [el, shr_nat, mask_nat]
          refine ⟨_, n, rfl, by omega, by omega, fun R hR => ?_⟩
          obtain ⟨g1, g2⟩ := grow (Pr := fun j z => InGr n (Gs.getD j 0 / 2 ^ (lst * n) % 2 ^ cn) z) hle' hj hR
          exact ⟨_, hes, small1000 (by rw [ints_len, hle']; omega), same_upd hq s5, es ++ [R], by rw [upd_same, ints_snoc], g1, g2⟩
        · rintro H' ⟨s5, es, hes, hle', hj⟩
          rw [ints_len] at hle' hj
          have hgn : Gs.length = n := by omega
          refine kk H' q es (s1.trans s5) hes (EndsOf.loop (least := lst) (G := Gs) G.wf G.loops hk hs1 hs2 (by omega) (fun i hi => ?_) (by omega) (fun i hi => ?_))
          · have z := hgk i (by omega)
            rw [hw] at z
            rw [hn]
            exact z
          · have z := hj i (by omega)
            rw [hn, hmo, hcn]
            exact z
end
end Wp

set_option maxHeartbeats 2000000
namespace Wp
open PySem PySem.Spec PyProof.Rows L2
open PySem.W (Codec)
open WcP (Good Fit Wf Thru ThruI InGr InGrI GrpAt EndsOf Chain)
abbrev s_is_run : Stmt := top 74
section
variable {P : Program} {w : World} {K : PySem.W.Frag} {mg : Str → Option Value} {base : Heap} {A : Adr}
/-! program_ends -/
/-- the ends of the programs that were gone through -/
structure FoundAt (H : Hp) (fo : Addr) (s : Wc.State) (r : List Nat) (qs : List Addr) : Prop where
  lst : H fo = some (.lst (qs.map V.ref))
  at_ : ∀ (j : Nat) (q : Addr), qs[j]? = some q → ∃ E : List Nat, H q = some (.lst (nvs E)) ∧ EndsOf s.pieces r j E
theorem FoundAt.get {H : Hp} {fo : Addr} {s : Wc.State} {r : List Nat} {qs : List Addr} (F : FoundAt H fo s r qs) {j : Nat} (hj : j < qs.length) : ∃ q E, atI (qs.map V.ref) (j : Int) = some (.ref q) ∧ H q = some (.lst (nvs E)) ∧ EndsOf s.pieces r j E := by
  have h := List.getElem?_eq_getElem hj
  obtain ⟨E, h1, h2⟩ := F.at_ j _ h
  exact ⟨_, E, at_ref h, h1, h2⟩
def sp_program_ends (A : Adr) : Sp := fun vs H Q _ => ∃ (p ro fo : Addr) (c n k : Nat) (x : Wc.Piece) (s : Wc.State) (r : List Nat) (qs : List Addr), vs = [.ref p, .ref ro, .ref fo] ∧ PcAt A H p c n x ∧ Good s ∧ s.pieces[k]? = some x ∧ H ro = some (.lst (nvs r)) ∧ r.length ≤ 24 ∧
  FoundAt H fo s r qs ∧ qs.length = k ∧ ∀ (H' : Hp) (f : Addr) (e : List Nat), Same H H' → H' f = some (.lst (nvs e)) → EndsOf s.pieces r k e → Q (.ref f) H'
theorem sc_program_ends : FnScope ["program", "row", "found"] ["program", "row", "found"] (defScope s_program_ends) := ⟨rfl, rfl, rfl, by decide +kernel, rfl, by decide +kernel, by decide +kernel⟩
theorem ok_program_ends {f f1 f2 f3 f4 : Addr} {fd fd1 fd2 fd3 fd4 : FuncData} (D : Def K mg "program_ends" s_program_ends ["program", "row", "found"] f fd) (T : Txt K mg A)
    (D_block_ends : Def K mg "block_ends" s_block_ends ["row", "block"] f1 fd1) (G_block_ends : FnOk P w K mg base CX0 1 f1 fd1 ["row", "block"] sp_block_ends)
    (D_seq_ends : Def K mg "seq_ends" s_seq_ends ["first", "second"] f2 fd2) (G_seq_ends : FnOk P w K mg base CX0 2 f2 fd2 ["first", "second"] sp_seq_ends)
    (D_alt_ends : Def K mg "alt_ends" s_alt_ends ["first", "second"] f3 fd3) (G_alt_ends : FnOk P w K mg base CX0 1 f3 fd3 ["first", "second"] sp_alt_ends)
    (D_loop_ends : Def K mg "loop_ends" s_loop_ends ["body", "lo", "hi"] f4 fd4) (G_loop_ends : FnOk P w K mg base CX0 3 f4 fd4 ["body", "lo", "hi"] sp_loop_ends) :
    FnOk P w K mg base CX0 4 f fd ["program", "row", "found"] (sp_program_ends A) := by
  refine D.fn.ok sc_program_ends (fun vs H Q E h => ?_) (fun cdv A' outer s' H vs Q E hr h => ?_)
  · obtain ⟨p, ro, fo, c, n, k, x, s, r, qs, rfl, _⟩ := h
    rfl
  · obtain ⟨p, ro, fo, c, n, k, x, s, r, qs, rfl, hp, G, hx, hro, hr24, F, hk, kk⟩ := h
    refine ⟨_, (pss_cons (ps_if (pt_val (pe_callB call_isinst (by rfl) T.no_isinstance boot_isinstance5 (pa_cons (pv 0) (pa_cons (pe_gl T.Block) pa_nil)))) (pss_one (ps_ret (pe_fn D_block_ends G_block_ends hr (pa_cons (pv 1) (pa_cons (pe_callB call_len_seq (by rfl) T.no_len PySem.boot_len (pa_cons (pv 2) pa_nil)) pa_nil))))) pss_nil)
      (pss_cons (ps_if (pt_val (pe_callB call_isinst (by rfl) T.no_isinstance boot_isinstance5 (pa_cons (pv 0) (pa_cons (pe_gl T.Seq) pa_nil)))) (pss_one (ps_ret (pe_fn D_seq_ends G_seq_ends hr (pa_cons (pe_ix ix_list (pv 2) (pe_fld (pv 0) rfl) (fun _ _ => rfl)) (pa_cons (pe_ix ix_list (pv 2) (pe_fld (pv 0) rfl) (fun _ _ => rfl)) pa_nil))))) pss_nil)
      (pss_cons (ps_if (pt_val (pe_callB call_isinst (by rfl) T.no_isinstance boot_isinstance5 (pa_cons (pv 0) (pa_cons (pe_gl T.Alt) pa_nil)))) (pss_one (ps_ret (pe_fn D_alt_ends G_alt_ends hr (pa_cons (pe_ix ix_list (pv 2) (pe_fld (pv 0) rfl) (fun _ _ => rfl)) (pa_cons (pe_ix ix_list (pv 2) (pe_fld (pv 0) rfl) (fun _ _ => rfl)) pa_nil))))) pss_nil)
      (pss_cons (ps_if (pt_val (pe_callB call_isinst (by rfl) T.no_isinstance boot_isinstance5 (pa_cons (pv 0) (pa_cons (pe_gl T.Loop) pa_nil)))) (pss_one (ps_ret (pe_fn D_loop_ends G_loop_ends hr (pa_cons (pe_ix ix_list (pv 2) (pe_fld (pv 0) rfl) (fun _ _ => rfl)) (pa_cons (pe_fld (pv 0) rfl) (pa_cons (pe_fld (pv 0) rfl) pa_nil)))))) pss_nil)
      (pss_one (ps_ret (pe_ix ix_list (pv 2) (pe_fld (pv 0) rfl) (fun _ _ => rfl)))))))), ?_⟩
    have hw := G.wf k x hx
    have hkl := (List.getElem?_eq_some_iff.mp hx).1
    cases x with
    | block =>
      obtain ⟨dx, e⟩ := hp
      refine ⟨_, rfl, _, _, _, _, rfl, T.tyB.of T.clB e, T.kB.qB, _, rfl, iteT ?_⟩
      refine ⟨_, rfl, _, rfl, fo, _, rfl, .inl (SqL.of F.lst), ro, k, r, ?_, hro, hr24, fun H1 f e' s1 h1 h2 h3 h4 => ?_⟩
      · rw [List.length_map, hk]
        rfl
      · exact kk H1 f e' s1 h1 (EndsOf.block G.wf hx h2 h3 h4)
    | seq a b =>
      have hw' : a < k ∧ b < k := hw
      obtain ⟨dx, e⟩ := hp
      obtain ⟨qa, ea, a1, a2, a3⟩ := F.get (j := a) (by omega)
      obtain ⟨qb, eb, b1, b2, b3⟩ := F.get (j := b) (by omega)
      have la := a3.1
      have lb := b3.1
      refine ⟨_, rfl, _, _, _, _, rfl, T.tyS.of T.clS e, T.kS.qB, _, rfl, iteF ?_⟩
      refine ⟨_, rfl, _, _, _, _, rfl, T.tyS.of T.clS e, T.kS.qS, _, rfl, iteT ?_⟩
      refine ⟨_, rfl, _, rfl, p, _, dx, _, _, rfl, e, T.clS, T.nS_first, rfl, fo, _, _, _, rfl, rfl, SqL.of F.lst, a1, _, rfl, _, rfl, p, _, dx, _, _, rfl, e, T.clS, T.nS_second, rfl, fo, _, _, _, rfl, rfl, SqL.of F.lst, b1, ?_⟩
      refine ⟨qa, qb, ea, eb, rfl, a2, b2, by omega, by omega, fun i hi m hm => ?_, fun H1 f e' s1 h1 h2 h3 => ?_⟩
      · have := a3.bound G.wf (by omega) (show i ≤ r.length by omega) hm
        omega
      · exact kk H1 f e' s1 h1 (EndsOf.seq G.wf hx a3 b3 (by omega) fun i hi => h3 i (by omega))
    | alt a b =>
      have hw' : a < k ∧ b < k := hw
      obtain ⟨dx, e⟩ := hp
      obtain ⟨qa, ea, a1, a2, a3⟩ := F.get (j := a) (by omega)
      obtain ⟨qb, eb, b1, b2, b3⟩ := F.get (j := b) (by omega)
      have la := a3.1
      have lb := b3.1
      refine ⟨_, rfl, _, _, _, _, rfl, T.tyA.of T.clA e, T.kA.qB, _, rfl, iteF ?_⟩
      refine ⟨_, rfl, _, _, _, _, rfl, T.tyA.of T.clA e, T.kA.qS, _, rfl, iteF ?_⟩
      refine ⟨_, rfl, _, _, _, _, rfl, T.tyA.of T.clA e, T.kA.qA, _, rfl, iteT ?_⟩
      refine ⟨_, rfl, _, rfl, p, _, dx, _, _, rfl, e, T.clA, T.nA_first, rfl, fo, _, _, _, rfl, rfl, SqL.of F.lst, a1, _, rfl, _, rfl, p, _, dx, _, _, rfl, e, T.clA, T.nA_second, rfl, fo, _, _, _, rfl, rfl, SqL.of F.lst, b1, ?_⟩
      exact ⟨qa, qb, ea, eb, rfl, a2, b2, by omega, by omega, fun H1 f e' s1 h1 h2 h3 => kk H1 f e' s1 h1 (EndsOf.alt G.wf hx a3 b3 (by omega) fun i hi => h3 i (by omega))⟩
    | loop a lo hi =>
      have hw' : a < k := hw
      obtain ⟨dx, e⟩ := hp
      obtain ⟨qa, ea, a1, a2, a3⟩ := F.get (j := a) (by omega)
      refine ⟨_, rfl, _, _, _, _, rfl, T.tyL.of T.clL e, T.kL.qB, _, rfl, iteF ?_⟩
      refine ⟨_, rfl, _, _, _, _, rfl, T.tyL.of T.clL e, T.kL.qS, _, rfl, iteF ?_⟩
      refine ⟨_, rfl, _, _, _, _, rfl, T.tyL.of T.clL e, T.kL.qA, _, rfl, iteF ?_⟩
      refine ⟨_, rfl, _, _, _, _, rfl, T.tyL.of T.clL e, T.kL.qL, _, rfl, iteT ?_⟩
      refine ⟨_, rfl, _, rfl, p, _, dx, _, _, rfl, e, T.clL, T.nL_body, rfl, fo, _, _, _, rfl, rfl, SqL.of F.lst, a1, _, rfl, p, _, dx, _, _, rfl, e, T.clL, T.nL_lo, rfl, _, rfl, p, _, dx, _, _, rfl, e, T.clL, T.nL_hi, rfl, ?_⟩
      exact ⟨qa, ea, r, a, k, lo, hi, s, rfl, a2, G, hr24, hx, a3, kk⟩
    | call a fr =>
      have hw' : a < k := hw
      obtain ⟨dx, e⟩ := hp
      obtain ⟨qa, ea, a1, a2, a3⟩ := F.get (j := a) (by omega)
      refine ⟨_, rfl, _, _, _, _, rfl, T.tyC.of T.clC e, T.kC.qB, _, rfl, iteF ?_⟩
      refine ⟨_, rfl, _, _, _, _, rfl, T.tyC.of T.clC e, T.kC.qS, _, rfl, iteF ?_⟩
      refine ⟨_, rfl, _, _, _, _, rfl, T.tyC.of T.clC e, T.kC.qA, _, rfl, iteF ?_⟩
      refine ⟨_, rfl, _, _, _, _, rfl, T.tyC.of T.clC e, T.kC.qL, _, rfl, iteF ?_⟩
      exact ⟨_, rfl, _, rfl, p, _, dx, _, _, rfl, e, T.clC, T.nC_body, rfl, fo, _, _, _, rfl, rfl, SqL.of F.lst, a1, kk H qa ea (Same.refl H) a2 (EndsOf.call G.wf hx a3)⟩
/-! row_is_run -/
def sp_row_is_run (A : Adr) : Sp := fun vs H Q _ => ∃ (l ro : Addr) (a : Nat) (s : Wc.State) (as : List Addr) (r : List Nat), vs = [.ref l, .int (a : Nat), .ref ro] ∧ ProgAt A H l s as ∧ a < s.pieces.length ∧ H ro = some (.lst (nvs r)) ∧ r.length ≤ 24 ∧
  ∀ H' : Hp, Same H H' → Q (.bl (Wc.isRun s.pieces a r)) H'
theorem sc_row_is_run : FnScope ["programs", "number", "row", "found", "program"] ["programs", "number", "row"] (defScope s_row_is_run) := ⟨rfl, rfl, rfl, by decide +kernel, rfl, by decide +kernel, by decide +kernel⟩
theorem cut_take (xs : List V) (k : Nat) : cutV xs none (some (k : Int)) = xs.take k := by
  unfold cutV
  rw [HT.sIx_none, HT.sIx_nat, List.drop_zero, Nat.sub_zero]
  by_cases h : k ≤ xs.length
  · rw [Nat.min_eq_left h]
  · rw [Nat.min_eq_right (by omega), List.take_length, List.take_of_length_le (by omega)]
theorem cut_mid (xs : List V) (i j : Nat) (h1 : i ≤ xs.length) (h2 : j ≤ xs.length) : cutV xs (some (i : Int)) (some (j : Int)) = (xs.drop i).take (j - i) := by
  unfold cutV
  rw [HT.sIx_nat, HT.sIx_nat, Nat.min_eq_left h1, Nat.min_eq_left h2]
theorem cut_drop (xs : List V) (i : Nat) (h1 : i ≤ xs.length) : cutV xs (some (i : Int)) none = xs.drop i := by
  unfold cutV
  rw [HT.sIx_nat, HT.sIx_none, Nat.min_eq_left h1, List.take_of_length_le (by rw [List.length_drop]; exact Nat.le_refl _)]
theorem ok_row_is_run {f f1 : Addr} {fd fd1 : FuncData} (D : Def K mg "row_is_run" s_row_is_run ["programs", "number", "row"] f fd) (T : Txt K mg A)
    (D_program_ends : Def K mg "program_ends" s_program_ends ["program", "row", "found"] f1 fd1) (G_program_ends : FnOk P w K mg base CX0 4 f1 fd1 ["program", "row", "found"] (sp_program_ends A)) :
    FnOk P w K mg base CX0 5 f fd ["programs", "number", "row"] (sp_row_is_run A) := by
  have sc := @sc_row_is_run
  refine D.fn.ok sc (fun vs H Q E h => ?_) (fun cdv A' outer s' H vs Q E hr h => ?_)
  · obtain ⟨l, ro, a, s, as, r, rfl, _⟩ := h
    rfl
  · obtain ⟨l, ro, a, s, as, r, rfl, B, ha, hro, hr24, kk⟩ := h
    refine ⟨_, (pss_cons (ps_set (i := 3) sc.nd rfl (Or.inl rfl) (pe_lst pa_nil))
      (pss_cons (ps_for PassesOwn.never rfl (pi_list (pe_slice sl_list (pv 0) po_none (po_some (pe_op op_add (pv 1) pe_int)))) (pg_name (i := 4) sc.nd rfl (Or.inl rfl)) (pss_one (ps_expr (pe_bm PySem.F.plainAttrs_list PySem.F.slot_list_append PySem.F.type_list_append mt_append (pv 3) (pa_cons (pe_fn D_program_ends G_program_ends hr (pa_cons (pv 4) (pa_cons (pv 2) (pa_cons (pv 3) pa_nil)))) pa_nil)))))
      (pss_one (ps_ret (pe_cmpR op_eq (pe_op op_and (pe_op op_shr (pe_ix ix_list (pe_ix ix_list (pv 3) (pv 1) (fun _ _ => rfl)) pe_int (fun _ _ => rfl)) (pe_callB call_len_seq (by rfl) T.no_len PySem.boot_len (pa_cons (pv 2) pa_nil))) pe_int) pe_int (nomark _)))))), ?_⟩
    have h64 := B.few
    have hal := B.len
    refine ⟨Nat.zero_le _, fun fo hfo => ?_⟩
    have s0 : Same H (upd H fo (.lst [])) := same_new hfo
    refine ⟨_, rfl, _, rfl, _, _, rfl, rfl, _, rfl, l, _, rfl, SqL.of (s0 _ _ B.lst), fun g hg => ?_⟩
    have e1 : (a : Int) + 1 = ((a + 1 : Nat) : Int) := by omega
    rw [e1, cut_take, ← List.map_take]
    generalize hH1 : upd (upd H fo (.lst [])) g (.lst ((as.take (a + 1)).map V.ref)) = H1
    have hg1 : H1 g = some (.lst ((as.take (a + 1)).map V.ref)) := by rw [← hH1, upd_same]
    have s1 : Same (upd H fo (.lst [])) H1 := by rw [← hH1]; exact same_new hg
    have hf1 : H1 fo = some (.lst []) := s1 _ _ upd_same
    have hgo : H g = none := s0.free hg
    have hgf : g ≠ fo := fun z => by rw [z, upd_same] at hg; cases hg
    have hlen : (as.take (a + 1)).length = a + 1 := by rw [List.length_take]; omega
    refine ⟨g, rfl, ⟨_, SqL.of hg1⟩, for_list (K := K) (a := g) (xs := (as.take (a + 1)).map V.ref) (fun i σ H' => ∃ v : Option V, σ = [some (.ref l), some (.int (a : Nat)), some (.ref ro), some (.ref fo), v] ∧ Same H H' ∧ H' g = some (.lst ((as.take (a + 1)).map V.ref)) ∧ ∃ qs : List Addr, qs.length = i ∧ FoundAt H' fo s r qs ∧ fo ∉ qs)
      ⟨none, rfl, s0.trans s1, hg1, [], rfl, ⟨hf1, fun j q h => by simp at h⟩, by simp⟩ (fun i σ H' _ ⟨_, _, _, h, _⟩ => SqL.of h) ?_ ?_⟩
    · rintro i y σ H' hi ⟨v, rfl, s5, hg', qs, hqs, F, hnf⟩
      obtain ⟨p, hp, rfl⟩ := refs_at hi
      have hia : i < a + 1 := by
        have := (List.getElem?_eq_some_iff.mp hp).1
        omega
      have hp' : as[i]? = some p := by
        rw [List.getElem?_take, if_pos hia] at hp
        exact hp
      obtain ⟨x, hlt, hx, hpc⟩ := B.get hp'
      refine ⟨_, rfl, .inl ⟨rfl, _, SqL.of F.lst⟩, _, rfl, _, rfl, _, rfl, ?_⟩
      refine ⟨p, ro, fo, _, _, i, x, s, r, qs, rfl, hpc.keep fun o e => s5 _ _ e, B.good, hx, s5 _ _ hro, hr24, F, hqs, fun H2 q e' s6 h1 h2 => ?_⟩
      have hfo2 := s6 _ _ F.lst
      refine ⟨fo, _, _, rfl, rfl, hfo2, small1000 (by rw [List.length_map]; omega), ?_⟩
      have qne : q ≠ fo := fun z => by
        rw [z, hfo2] at h1
        injection h1 with h1
        injection h1 with h1
        have hl1 := congrArg List.length h1
        rw [List.length_map, ints_len, h2.1] at hl1
        cases qs with
        | nil => simp at hl1
        | cons q0 qr =>
          cases e' with
          | nil => simp [nvs] at h1
          | cons e0 er => simp [nvs] at h1
      refine ⟨_, rfl, same_upd hfo (s5.trans s6), ?_, qs ++ [q], by rw [List.length_append, hqs]; rfl, ⟨by rw [upd_same, List.map_append]; rfl, fun j q' hj => ?_⟩, ?_⟩
      · rw [upd_ne hgf]
        exact s6 _ _ hg'
      · rcases WcP.getElem?_snoc hj with hj | ⟨rfl, rfl⟩
        · obtain ⟨E', z1, z2⟩ := F.at_ j q' hj
          refine ⟨E', ?_, z2⟩
          rw [upd_ne (fun z => hnf (by rw [← z]; exact List.mem_of_getElem? hj))]
          exact s6 _ _ z1
        · refine ⟨e', ?_, by rw [hqs]; exact h2⟩
          rw [upd_ne qne]
          exact h1
      · intro z
        rcases List.mem_append.mp z with z | z
        · exact hnf z
        · exact qne (List.mem_singleton.mp z).symm
    · rintro σ H2 ⟨v, rfl, s5, hg', qs, hqs, F, hnf⟩
      rw [List.length_map, hlen] at hqs
      obtain ⟨q, E', z1, z2, z3⟩ := F.get (j := a) (by omega)
      have hE := z3.1
      refine ⟨_, rfl, _, rfl, fo, _, _, _, rfl, rfl, SqL.of F.lst, z1, q, _, _, _, rfl, rfl, SqL.of z2, at_i (n := 0) (by omega), _, rfl, ro, _, rfl, .inl (SqL.of (s5 _ _ hro)), _, _, rfl, rfl, (by show (0 : Int) ≤ ((nvs r).length : Int); omega), _, _, rfl, rfl, rfl, ?_⟩
      have k1 := kk H2 s5
      have e2 : decide (V.int (Builtin.bitAnd ((E'.getD 0 0 : Nat) / 2 ^ ((nvs r).length : Int).toNat) 1) = V.int 1) = Wc.isRun s.pieces a r := by
        rw [ints_len, shr_nat, and_one]
        rw [Bool.eq_iff_iff, ← z3.run, decide_eq_true_eq]
        constructor
        · intro y
          injection y with y
          omega
        · intro y
          rw [y]
          rfl
      rw [← e2] at k1
      exact k1
/-! is_run -/
def sp_is_run (A : Adr) : Sp := fun vs H Q _ => ∃ (l ro : Addr) (a : Nat) (s : Wc.State) (as : List Addr) (r : List Nat), vs = [.ref l, .int (a : Nat), .ref ro] ∧ ProgAt A H l s as ∧ H ro = some (.lst (nvs r)) ∧ Asks A H l s (.is a r) Q
theorem sc_is_run : FnScope ["programs", "number", "row"] ["programs", "number", "row"] (defScope s_is_run) := ⟨rfl, rfl, rfl, by decide +kernel, rfl, by decide +kernel, by decide +kernel⟩
theorem ok_is_run {f f1 f2 : Addr} {fd fd1 fd2 : FuncData} (D : Def K mg "is_run" s_is_run ["programs", "number", "row"] f fd) (T : Txt K mg A) (D_is_program : Def K mg "is_program" s_is_program ["programs", "number"] f1 fd1)
    (D_row_is_run : Def K mg "row_is_run" s_row_is_run ["programs", "number", "row"] f2 fd2) (G_row_is_run : FnOk P w K mg base CX0 5 f2 fd2 ["programs", "number", "row"] (sp_row_is_run A)) :
    FnOk P w K mg base CX0 6 f fd ["programs", "number", "row"] (sp_is_run A) := by
  have G_is_program : FnOk P w K mg base CX0 1 f1 fd1 ["programs", "number"] (sp_is_program A) := ok_is_program D_is_program T
  refine D.fn.ok sc_is_run (fun vs H Q E h => ?_) (fun cdv A' outer s' H vs Q E hr h => ?_)
  · obtain ⟨l, ro, a, s, as, r, rfl, _⟩ := h
    rfl
  · obtain ⟨l, ro, a, s, as, r, rfl, B, hro, kk⟩ := h
    refine ⟨_, (pss_cons (ps_if (pw_or (pt_not (pt_val (pe_fn D_is_program G_is_program hr (pa_cons (pv 0) (pa_cons (pv 1) pa_nil))))) (pw_or1 (pt_cmpR op_gt (pe_callB call_len_seq (by rfl) T.no_len PySem.boot_len (pa_cons (pv 2) pa_nil)) (pe_gl T.MOST_ROW) (nomark _)))).pt (pss_one (ps_ret (pe_gl T.WRONG))) pss_nil)
      (pss_one (ps_ret (pe_ifExp (pt_val (pe_fn D_row_is_run G_row_is_run hr (pa_cons (pv 0) (pa_cons (pv 1) (pa_cons (pv 2) pa_nil))))) pe_int pe_int)))), ?_⟩
    have no : ¬ (a < s.pieces.length ∧ r.length ≤ 24) → Q (.int (-1)) H := fun z => by
      have e : Wc.step s (.is a r) = (s, Wc.says (-1)) := may_no (by
        rw [Bool.and_eq_false_iff]
        by_cases y : a < s.pieces.length
        · exact .inr (decide_eq_false fun q => z ⟨y, q⟩)
        · exact .inl (there_no y))
      have k1 := kk H (Same.refl H)
      rw [e] at k1
      exact k1
    refine ⟨_, rfl, _, rfl, l, a, s, as, rfl, B, _, rfl, ite2 (fun q => ?_) (fun q => ?_)⟩
    · exact no fun z => absurd (decide_eq_true z.1) (by simpa using q)
    · have ha : a < s.pieces.length := by simpa using q
      refine ⟨_, rfl, ro, _, rfl, .inl (SqL.of hro), _, _, rfl, rfl, _, rfl, ite2 (fun q => ?_) (fun q => ?_)⟩
      · have q' : (24 : Int) < ((nvs r).length : Nat) := of_decide_eq_true q
        rw [ints_len] at q'
        exact no fun z => by omega
      · have q' : ¬ (24 : Int) < ((nvs r).length : Nat) := fun z => q (decide_eq_true z)
        rw [ints_len] at q'
        have hr24 : r.length ≤ 24 := by omega
        have e : Wc.step s (.is a r) = (s, Wc.says (if Wc.isRun s.pieces a r = true then 1 else 0)) := may_yes (by rw [there_yes ha, decide_eq_true (show r.length ≤ Wc.JUDGED from hr24)]; rfl)
        refine ⟨_, rfl, _, rfl, _, rfl, l, ro, a, s, as, r, rfl, B, ha, hro, hr24, fun H1 s1 => ?_⟩
        have k1 := kk H1 s1
        rw [e] at k1
        refine ⟨_, rfl, ite2 (fun z => ?_) (fun z => ?_)⟩
        · rw [if_pos z] at k1
          exact k1
        · rw [if_neg z] at k1
          exact k1
end
end Wp

set_option maxHeartbeats 2000000
namespace Wp
open PySem PySem.Spec PyProof.Rows L2
open PySem.W (Codec)
open WcP (Good Fit Wf Tok Toks outs)
abbrev s_make_or_change : Stmt := top 75
abbrev s_look_up : Stmt := top 76
abbrev s_answer_one : Stmt := top 77
abbrev s_call_end : Stmt := top 78
abbrev s_answers : Stmt := top 79
/-! a call's number, its numbers -/
def num : Wc.Call → Nat
  | .init => 0
  | .block _ => 1
  | .seq _ _ => 2
  | .alt _ _ => 3
  | .loop _ _ _ => 4
  | .call _ _ => 5
  | .cost _ _ => 6
  | .time _ _ => 7
  | .often _ _ _ => 8
  | .stack _ => 9
  | .slack _ _ => 10
  | .nth _ _ => 11
  | .is _ _ => 12
def args : Wc.Call → List Nat
  | .init => []
  | .block c => [c]
  | .seq a b => [a, b]
  | .alt a b => [a, b]
  | .loop a lo hi => [a, lo, hi]
  | .call a f => [a, f]
  | .cost b c => [b, c]
  | .time a m => [a, m]
  | .often a b m => [a, b, m]
  | .stack a => [a]
  | .slack a b => [a, b]
  | .nth a i => [a, i]
  | .is a r => a :: r.length :: r
theorem ifY {c A B : Prop} [Decidable c] (hc : c) (h : A) : if decide c = true then A else B := by
  rw [if_pos (decide_eq_true hc)]
  exact h
theorem ifN {c A B : Prop} [Decidable c] (hc : ¬ c) (h : B) : if decide c = true then A else B := by
  rw [if_neg (fun z => hc (of_decide_eq_true z))]
  exact h
theorem nv {i j : Int} (h : i ≠ j) : ¬ V.int i = V.int j := fun z => h (by injection z)
section
variable {P : Program} {w : World} {K : PySem.W.Frag} {mg : Str → Option Value} {base : Heap} {A : Adr}
/-- what a call promises: the specification's state behind it, its answer; all else stays -/
def Does (A : Adr) (H : Hp) (l : Addr) (s : Wc.State) (as : List Addr) (c : Wc.Call) (Q : VK) : Prop := ∀ (H' : Hp) (as' : List Addr), ProgAt A H' l (Wc.step s c).1 as' → Keep H H' l as → Q (.int (Wc.step s c).2.ret) H'
/-! make_or_change -/
def sp_make_or_change (A : Adr) : Sp := fun vs H Q _ => ∃ (l no : Addr) (s : Wc.State) (as : List Addr) (c : Wc.Call), vs = [.ref l, .int (num c : Nat), .ref no] ∧ ProgAt A H l s as ∧ H no = some (.lst (nvs (args c))) ∧ num c ≤ 6 ∧ Does A H l s as c Q
theorem sc_make_or_change : FnScope ["programs", "call", "numbers"] ["programs", "call", "numbers"] (defScope s_make_or_change) := ⟨rfl, rfl, rfl, by decide +kernel, rfl, by decide +kernel, by decide +kernel⟩
theorem ok_make_or_change {f f0 f1 f2 f3 f4 f5 f6 : Addr} {fd fd0 fd1 fd2 fd3 fd4 fd5 fd6 : FuncData} (D : Def K mg "make_or_change" s_make_or_change ["programs", "call", "numbers"] f fd) (T : Txt K mg A)
    (D_forget_all : Def K mg "forget_all" s_forget_all ["programs"] f0 fd0) (G_forget_all : FnOk P w K mg base CX0 1 f0 fd0 ["programs"] (sp_forget_all A))
    (D_make_block : Def K mg "make_block" s_make_block ["programs", "cost"] f1 fd1) (G_make_block : FnOk P w K mg base CX0 3 f1 fd1 ["programs", "cost"] (sp_make_block A))
    (D_make_seq : Def K mg "make_seq" s_make_seq ["programs", "first", "second"] f2 fd2) (G_make_seq : FnOk P w K mg base CX0 3 f2 fd2 ["programs", "first", "second"] (sp_make_seq A))
    (D_make_alt : Def K mg "make_alt" s_make_alt ["programs", "first", "second"] f3 fd3) (G_make_alt : FnOk P w K mg base CX0 3 f3 fd3 ["programs", "first", "second"] (sp_make_alt A))
    (D_make_loop : Def K mg "make_loop" s_make_loop ["programs", "body", "lo", "hi"] f4 fd4) (G_make_loop : FnOk P w K mg base CX0 3 f4 fd4 ["programs", "body", "lo", "hi"] (sp_make_loop A))
    (D_make_call : Def K mg "make_call" s_make_call ["programs", "body", "frame"] f5 fd5) (G_make_call : FnOk P w K mg base CX0 3 f5 fd5 ["programs", "body", "frame"] (sp_make_call A))
    (D_change_cost : Def K mg "change_cost" s_change_cost ["programs", "number", "cost"] f6 fd6) (G_change_cost : FnOk P w K mg base CX0 3 f6 fd6 ["programs", "number", "cost"] (sp_change_cost A)) :
    FnOk P w K mg base CX0 4 f fd ["programs", "call", "numbers"] (sp_make_or_change A) := by
  refine D.fn.ok sc_make_or_change (fun vs H Q E h => ?_) (fun cdv A' outer s' H vs Q E hr h => ?_)
  · obtain ⟨l, no, s, as, c, rfl, _⟩ := h
    rfl
  · obtain ⟨l, no, s, as, c, rfl, B, hn, hc, kk⟩ := h
    refine ⟨_, (pss_cons (ps_if (pt_cmpR op_eq (pv 1) (pe_gl T.INIT) (nomark _)) (pss_one (ps_ret (pe_fn D_forget_all G_forget_all hr (pa_cons (pv 0) pa_nil)))) pss_nil)
      (pss_cons (ps_if (pt_cmpR op_eq (pv 1) (pe_gl T.BLOCK) (nomark _)) (pss_one (ps_ret (pe_fn D_make_block G_make_block hr (pa_cons (pv 0) (pa_cons (pe_ix ix_list (pv 2) pe_int (fun _ _ => rfl)) pa_nil))))) pss_nil)
      (pss_cons (ps_if (pt_cmpR op_eq (pv 1) (pe_gl T.SEQ) (nomark _)) (pss_one (ps_ret (pe_fn D_make_seq G_make_seq hr (pa_cons (pv 0) (pa_cons (pe_ix ix_list (pv 2) pe_int (fun _ _ => rfl)) (pa_cons (pe_ix ix_list (pv 2) pe_int (fun _ _ => rfl)) pa_nil)))))) pss_nil)
      (pss_cons (ps_if (pt_cmpR op_eq (pv 1) (pe_gl T.ALT) (nomark _)) (pss_one (ps_ret (pe_fn D_make_alt G_make_alt hr (pa_cons (pv 0) (pa_cons (pe_ix ix_list (pv 2) pe_int (fun _ _ => rfl)) (pa_cons (pe_ix ix_list (pv 2) pe_int (fun _ _ => rfl)) pa_nil)))))) pss_nil)
      (pss_cons (ps_if (pt_cmpR op_eq (pv 1) (pe_gl T.LOOP) (nomark _)) (pss_one (ps_ret (pe_fn D_make_loop G_make_loop hr (pa_cons (pv 0) (pa_cons (pe_ix ix_list (pv 2) pe_int (fun _ _ => rfl)) (pa_cons (pe_ix ix_list (pv 2) pe_int (fun _ _ => rfl)) (pa_cons (pe_ix ix_list (pv 2) pe_int (fun _ _ => rfl)) pa_nil))))))) pss_nil)
      (pss_cons (ps_if (pt_cmpR op_eq (pv 1) (pe_gl T.CALL) (nomark _)) (pss_one (ps_ret (pe_fn D_make_call G_make_call hr (pa_cons (pv 0) (pa_cons (pe_ix ix_list (pv 2) pe_int (fun _ _ => rfl)) (pa_cons (pe_ix ix_list (pv 2) pe_int (fun _ _ => rfl)) pa_nil)))))) pss_nil)
      (pss_one (ps_ret (pe_fn D_change_cost G_change_cost hr (pa_cons (pv 0) (pa_cons (pe_ix ix_list (pv 2) pe_int (fun _ _ => rfl)) (pa_cons (pe_ix ix_list (pv 2) pe_int (fun _ _ => rfl)) pa_nil)))))))))))), ?_⟩
    cases c with
    | init =>
      refine ⟨_, rfl, rfl, _, rfl, ifY rfl ?_⟩
      exact ⟨_, rfl, l, s, as, rfl, B, fun H' as' B' kp => kk H' as' B' fun b o h hb _ => kp b o h hb⟩
    | block c =>
      refine ⟨_, rfl, rfl, _, rfl, ifN (nv (by simp only [num]; decide)) ?_⟩
      refine ⟨_, rfl, rfl, _, rfl, ifY rfl ?_⟩
      exact ⟨_, rfl, _, rfl, no, _, _, _, rfl, rfl, SqL.of hn, at_i (n := 0) (by simp [args]), l, c, s, as, rfl, B, fun H' as' B' kp => kk H' as' B' fun b o h hb _ => kp b o h hb⟩
    | seq a b =>
      refine ⟨_, rfl, rfl, _, rfl, ifN (nv (by simp only [num]; decide)) ?_⟩
      refine ⟨_, rfl, rfl, _, rfl, ifN (nv (by simp only [num]; decide)) ?_⟩
      refine ⟨_, rfl, rfl, _, rfl, ifY rfl ?_⟩
      exact ⟨_, rfl, _, rfl, no, _, _, _, rfl, rfl, SqL.of hn, at_i (n := 0) (by simp [args]), _, rfl, no, _, _, _, rfl, rfl, SqL.of hn, at_i (n := 1) (by simp [args]), l, a, b, s, as, rfl, B, fun H' as' B' kp => kk H' as' B' fun b o h hb _ => kp b o h hb⟩
    | alt a b =>
      refine ⟨_, rfl, rfl, _, rfl, ifN (nv (by simp only [num]; decide)) ?_⟩
      refine ⟨_, rfl, rfl, _, rfl, ifN (nv (by simp only [num]; decide)) ?_⟩
      refine ⟨_, rfl, rfl, _, rfl, ifN (nv (by simp only [num]; decide)) ?_⟩
      refine ⟨_, rfl, rfl, _, rfl, ifY rfl ?_⟩
      exact ⟨_, rfl, _, rfl, no, _, _, _, rfl, rfl, SqL.of hn, at_i (n := 0) (by simp [args]), _, rfl, no, _, _, _, rfl, rfl, SqL.of hn, at_i (n := 1) (by simp [args]), l, a, b, s, as, rfl, B, fun H' as' B' kp => kk H' as' B' fun b o h hb _ => kp b o h hb⟩
    | loop a lo hi =>
      refine ⟨_, rfl, rfl, _, rfl, ifN (nv (by simp only [num]; decide)) ?_⟩
      refine ⟨_, rfl, rfl, _, rfl, ifN (nv (by simp only [num]; decide)) ?_⟩
      refine ⟨_, rfl, rfl, _, rfl, ifN (nv (by simp only [num]; decide)) ?_⟩
      refine ⟨_, rfl, rfl, _, rfl, ifN (nv (by simp only [num]; decide)) ?_⟩
      refine ⟨_, rfl, rfl, _, rfl, ifY rfl ?_⟩
      exact ⟨_, rfl, _, rfl, no, _, _, _, rfl, rfl, SqL.of hn, at_i (n := 0) (by simp [args]), _, rfl, no, _, _, _, rfl, rfl, SqL.of hn, at_i (n := 1) (by simp [args]), _, rfl, no, _, _, _, rfl, rfl, SqL.of hn, at_i (n := 2) (by simp [args]), l, a, lo, hi, s, as, rfl, B, fun H' as' B' kp => kk H' as' B' fun b o h hb _ => kp b o h hb⟩
    | call a fr =>
      refine ⟨_, rfl, rfl, _, rfl, ifN (nv (by simp only [num]; decide)) ?_⟩
      refine ⟨_, rfl, rfl, _, rfl, ifN (nv (by simp only [num]; decide)) ?_⟩
      refine ⟨_, rfl, rfl, _, rfl, ifN (nv (by simp only [num]; decide)) ?_⟩
      refine ⟨_, rfl, rfl, _, rfl, ifN (nv (by simp only [num]; decide)) ?_⟩
      refine ⟨_, rfl, rfl, _, rfl, ifN (nv (by simp only [num]; decide)) ?_⟩
      refine ⟨_, rfl, rfl, _, rfl, ifY rfl ?_⟩
      exact ⟨_, rfl, _, rfl, no, _, _, _, rfl, rfl, SqL.of hn, at_i (n := 0) (by simp [args]), _, rfl, no, _, _, _, rfl, rfl, SqL.of hn, at_i (n := 1) (by simp [args]), l, a, fr, s, as, rfl, B, fun H' as' B' kp => kk H' as' B' fun b o h hb _ => kp b o h hb⟩
    | cost b c =>
      refine ⟨_, rfl, rfl, _, rfl, ifN (nv (by simp only [num]; decide)) ?_⟩
      refine ⟨_, rfl, rfl, _, rfl, ifN (nv (by simp only [num]; decide)) ?_⟩
      refine ⟨_, rfl, rfl, _, rfl, ifN (nv (by simp only [num]; decide)) ?_⟩
      refine ⟨_, rfl, rfl, _, rfl, ifN (nv (by simp only [num]; decide)) ?_⟩
      refine ⟨_, rfl, rfl, _, rfl, ifN (nv (by simp only [num]; decide)) ?_⟩
      refine ⟨_, rfl, rfl, _, rfl, ifN (nv (by simp only [num]; decide)) ?_⟩
      exact ⟨_, rfl, _, rfl, no, _, _, _, rfl, rfl, SqL.of hn, at_i (n := 0) (by simp [args]), _, rfl, no, _, _, _, rfl, rfl, SqL.of hn, at_i (n := 1) (by simp [args]), l, b, c, s, as, rfl, B, kk⟩
    | time a m =>
      exact absurd hc (by simp [num])
    | often a b m =>
      exact absurd hc (by simp [num])
    | stack a =>
      exact absurd hc (by simp [num])
    | slack a b =>
      exact absurd hc (by simp [num])
    | nth a i =>
      exact absurd hc (by simp [num])
    | is a r =>
      exact absurd hc (by simp [num])
/-! look_up -/
def sp_look_up (A : Adr) : Sp := fun vs H Q _ => ∃ (l no : Addr) (s : Wc.State) (as : List Addr) (c : Wc.Call), vs = [.ref l, .int (num c : Nat), .ref no] ∧ ProgAt A H l s as ∧ H no = some (.lst (nvs (args c))) ∧ 6 < num c ∧ Asks A H l s c Q
theorem sc_look_up : FnScope ["programs", "call", "numbers"] ["programs", "call", "numbers"] (defScope s_look_up) := ⟨rfl, rfl, rfl, by decide +kernel, rfl, by decide +kernel, by decide +kernel⟩
theorem ok_look_up {f f0 f1 f2 f3 f4 f5 : Addr} {fd fd0 fd1 fd2 fd3 fd4 fd5 : FuncData} (D : Def K mg "look_up" s_look_up ["programs", "call", "numbers"] f fd) (T : Txt K mg A)
    (D_time_of : Def K mg "time_of" s_time_of ["programs", "number", "least"] f0 fd0) (G_time_of : FnOk P w K mg base CX0 4 f0 fd0 ["programs", "number", "least"] (sp_time_of A))
    (D_how_often : Def K mg "how_often" s_how_often ["programs", "number", "block", "least"] f1 fd1) (G_how_often : FnOk P w K mg base CX0 4 f1 fd1 ["programs", "number", "block", "least"] (sp_how_often A))
    (D_stack_of : Def K mg "stack_of" s_stack_of ["programs", "number"] f2 fd2) (G_stack_of : FnOk P w K mg base CX0 3 f2 fd2 ["programs", "number"] (sp_stack_of A))
    (D_slack_in : Def K mg "slack_in" s_slack_in ["programs", "number", "block"] f3 fd3) (G_slack_in : FnOk P w K mg base CX0 5 f3 fd3 ["programs", "number", "block"] (sp_slack_in A))
    (D_nth_of : Def K mg "nth_of" s_nth_of ["programs", "number", "place"] f4 fd4) (G_nth_of : FnOk P w K mg base CX0 5 f4 fd4 ["programs", "number", "place"] (sp_nth_of A))
    (D_is_run : Def K mg "is_run" s_is_run ["programs", "number", "row"] f5 fd5) (G_is_run : FnOk P w K mg base CX0 6 f5 fd5 ["programs", "number", "row"] (sp_is_run A)) :
    FnOk P w K mg base CX0 7 f fd ["programs", "call", "numbers"] (sp_look_up A) := by
  refine D.fn.ok sc_look_up (fun vs H Q E h => ?_) (fun cdv A' outer s' H vs Q E hr h => ?_)
  · obtain ⟨l, no, s, as, c, rfl, _⟩ := h
    rfl
  · obtain ⟨l, no, s, as, c, rfl, B, hn, hc, kk⟩ := h
    refine ⟨_, (pss_cons (ps_if (pt_cmpR op_eq (pv 1) (pe_gl T.TIME) (nomark _)) (pss_one (ps_ret (pe_fn D_time_of G_time_of hr (pa_cons (pv 0) (pa_cons (pe_ix ix_list (pv 2) pe_int (fun _ _ => rfl)) (pa_cons (pe_ix ix_list (pv 2) pe_int (fun _ _ => rfl)) pa_nil)))))) pss_nil)
      (pss_cons (ps_if (pt_cmpR op_eq (pv 1) (pe_gl T.OFTEN) (nomark _)) (pss_one (ps_ret (pe_fn D_how_often G_how_often hr (pa_cons (pv 0) (pa_cons (pe_ix ix_list (pv 2) pe_int (fun _ _ => rfl)) (pa_cons (pe_ix ix_list (pv 2) pe_int (fun _ _ => rfl)) (pa_cons (pe_ix ix_list (pv 2) pe_int (fun _ _ => rfl)) pa_nil))))))) pss_nil)
      (pss_cons (ps_if (pt_cmpR op_eq (pv 1) (pe_gl T.STACK) (nomark _)) (pss_one (ps_ret (pe_fn D_stack_of G_stack_of hr (pa_cons (pv 0) (pa_cons (pe_ix ix_list (pv 2) pe_int (fun _ _ => rfl)) pa_nil))))) pss_nil)
      (pss_cons (ps_if (pt_cmpR op_eq (pv 1) (pe_gl T.SLACK) (nomark _)) (pss_one (ps_ret (pe_fn D_slack_in G_slack_in hr (pa_cons (pv 0) (pa_cons (pe_ix ix_list (pv 2) pe_int (fun _ _ => rfl)) (pa_cons (pe_ix ix_list (pv 2) pe_int (fun _ _ => rfl)) pa_nil)))))) pss_nil)
      (pss_cons (ps_if (pt_cmpR op_eq (pv 1) (pe_gl T.NTH) (nomark _)) (pss_one (ps_ret (pe_fn D_nth_of G_nth_of hr (pa_cons (pv 0) (pa_cons (pe_ix ix_list (pv 2) pe_int (fun _ _ => rfl)) (pa_cons (pe_ix ix_list (pv 2) pe_int (fun _ _ => rfl)) pa_nil)))))) pss_nil)
      (pss_one (ps_ret (pe_fn D_is_run G_is_run hr (pa_cons (pv 0) (pa_cons (pe_ix ix_list (pv 2) pe_int (fun _ _ => rfl)) (pa_cons (pe_slice sl_list (pv 2) (po_some pe_int) po_none) pa_nil))))))))))), ?_⟩
    cases c with
    | init =>
      exact absurd hc (by simp [num])
    | block c =>
      exact absurd hc (by simp [num])
    | seq a b =>
      exact absurd hc (by simp [num])
    | alt a b =>
      exact absurd hc (by simp [num])
    | loop a lo hi =>
      exact absurd hc (by simp [num])
    | call a fr =>
      exact absurd hc (by simp [num])
    | cost b c =>
      exact absurd hc (by simp [num])
    | time a m =>
      refine ⟨_, rfl, rfl, _, rfl, ifY rfl ?_⟩
      exact ⟨_, rfl, _, rfl, no, _, _, _, rfl, rfl, SqL.of hn, at_i (n := 0) (by simp [args]), _, rfl, no, _, _, _, rfl, rfl, SqL.of hn, at_i (n := 1) (by simp [args]), l, a, m, s, as, rfl, B, kk⟩
    | often a b m =>
      refine ⟨_, rfl, rfl, _, rfl, ifN (nv (by simp only [num]; decide)) ?_⟩
      refine ⟨_, rfl, rfl, _, rfl, ifY rfl ?_⟩
      exact ⟨_, rfl, _, rfl, no, _, _, _, rfl, rfl, SqL.of hn, at_i (n := 0) (by simp [args]), _, rfl, no, _, _, _, rfl, rfl, SqL.of hn, at_i (n := 1) (by simp [args]), _, rfl, no, _, _, _, rfl, rfl, SqL.of hn, at_i (n := 2) (by simp [args]), l, a, b, m, s, as, rfl, B, kk⟩
    | stack a =>
      refine ⟨_, rfl, rfl, _, rfl, ifN (nv (by simp only [num]; decide)) ?_⟩
      refine ⟨_, rfl, rfl, _, rfl, ifN (nv (by simp only [num]; decide)) ?_⟩
      refine ⟨_, rfl, rfl, _, rfl, ifY rfl ?_⟩
      exact ⟨_, rfl, _, rfl, no, _, _, _, rfl, rfl, SqL.of hn, at_i (n := 0) (by simp [args]), l, a, s, as, rfl, B, kk⟩
    | slack a b =>
      refine ⟨_, rfl, rfl, _, rfl, ifN (nv (by simp only [num]; decide)) ?_⟩
      refine ⟨_, rfl, rfl, _, rfl, ifN (nv (by simp only [num]; decide)) ?_⟩
      refine ⟨_, rfl, rfl, _, rfl, ifN (nv (by simp only [num]; decide)) ?_⟩
      refine ⟨_, rfl, rfl, _, rfl, ifY rfl ?_⟩
      exact ⟨_, rfl, _, rfl, no, _, _, _, rfl, rfl, SqL.of hn, at_i (n := 0) (by simp [args]), _, rfl, no, _, _, _, rfl, rfl, SqL.of hn, at_i (n := 1) (by simp [args]), l, a, b, s, as, rfl, B, kk⟩
    | nth a i =>
      refine ⟨_, rfl, rfl, _, rfl, ifN (nv (by simp only [num]; decide)) ?_⟩
      refine ⟨_, rfl, rfl, _, rfl, ifN (nv (by simp only [num]; decide)) ?_⟩
      refine ⟨_, rfl, rfl, _, rfl, ifN (nv (by simp only [num]; decide)) ?_⟩
      refine ⟨_, rfl, rfl, _, rfl, ifN (nv (by simp only [num]; decide)) ?_⟩
      refine ⟨_, rfl, rfl, _, rfl, ifY rfl ?_⟩
      exact ⟨_, rfl, _, rfl, no, _, _, _, rfl, rfl, SqL.of hn, at_i (n := 0) (by simp [args]), _, rfl, no, _, _, _, rfl, rfl, SqL.of hn, at_i (n := 1) (by simp [args]), l, a, i, s, as, rfl, B, kk⟩
    | is a r =>
      refine ⟨_, rfl, rfl, _, rfl, ifN (nv (by simp only [num]; decide)) ?_⟩
      refine ⟨_, rfl, rfl, _, rfl, ifN (nv (by simp only [num]; decide)) ?_⟩
      refine ⟨_, rfl, rfl, _, rfl, ifN (nv (by simp only [num]; decide)) ?_⟩
      refine ⟨_, rfl, rfl, _, rfl, ifN (nv (by simp only [num]; decide)) ?_⟩
      refine ⟨_, rfl, rfl, _, rfl, ifN (nv (by simp only [num]; decide)) ?_⟩
      refine ⟨_, rfl, _, rfl, no, _, _, _, rfl, rfl, SqL.of hn, at_i (n := 0) (by simp [args]), _, rfl, _, rfl, no, _, rfl, SqL.of hn, fun p hp => ?_⟩
      have e : cutV (nvs (args (.is a r))) (some ((2 : Nat) : Int)) none = nvs r := cut_drop _ 2 (by rw [ints_len]; simp [args])
      refine ⟨l, p, a, s, as, r, rfl, B.same (same_new hp), ?_, fun H' s1 => kk H' ((same_new hp).trans s1)⟩
      rw [upd_same, ← e]
      rfl
/-! answer_one -/
theorem may_fst {s : Wc.State} {b : Bool} {x : Wc.State × Wc.Answer} (h : x.1 = s) : (Wc.may s b x).1 = s := by
  unfold Wc.may
  split
  · exact h
  · rfl
theorem asks_stay {s : Wc.State} {c : Wc.Call} (h : 6 < num c) : (Wc.step s c).1 = s := by
  cases c with
  | time a m => exact may_fst rfl
  | often a b m => exact may_fst rfl
  | stack a => exact may_fst rfl
  | slack a b => exact may_fst rfl
  | nth a i => exact may_fst rfl
  | is a r => exact may_fst rfl
  | _ => simp [num] at h
def sp_answer_one (A : Adr) : Sp := fun vs H Q _ => ∃ (l no : Addr) (s : Wc.State) (as : List Addr) (c : Wc.Call), vs = [.ref l, .int (num c : Nat), .ref no] ∧ ProgAt A H l s as ∧ H no = some (.lst (nvs (args c))) ∧ Does A H l s as c Q
theorem sc_answer_one : FnScope ["programs", "call", "numbers"] ["programs", "call", "numbers"] (defScope s_answer_one) := ⟨rfl, rfl, rfl, by decide +kernel, rfl, by decide +kernel, by decide +kernel⟩
theorem ok_answer_one {f f1 f2 : Addr} {fd fd1 fd2 : FuncData} (D : Def K mg "answer_one" s_answer_one ["programs", "call", "numbers"] f fd) (T : Txt K mg A)
    (D_make_or_change : Def K mg "make_or_change" s_make_or_change ["programs", "call", "numbers"] f1 fd1) (G_make_or_change : FnOk P w K mg base CX0 4 f1 fd1 ["programs", "call", "numbers"] (sp_make_or_change A))
    (D_look_up : Def K mg "look_up" s_look_up ["programs", "call", "numbers"] f2 fd2) (G_look_up : FnOk P w K mg base CX0 7 f2 fd2 ["programs", "call", "numbers"] (sp_look_up A)) :
    FnOk P w K mg base CX0 8 f fd ["programs", "call", "numbers"] (sp_answer_one A) := by
  refine D.fn.ok sc_answer_one (fun vs H Q E h => ?_) (fun cdv A' outer s' H vs Q E hr h => ?_)
  · obtain ⟨l, no, s, as, c, rfl, _⟩ := h
    rfl
  · obtain ⟨l, no, s, as, c, rfl, B, hn, kk⟩ := h
    refine ⟨_, (pss_cons (ps_if (pt_cmpR op_le (pv 1) (pe_gl T.COST) (nomark _)) (pss_one (ps_ret (pe_fn D_make_or_change G_make_or_change hr (pa_cons (pv 0) (pa_cons (pv 1) (pa_cons (pv 2) pa_nil)))))) pss_nil)
      (pss_one (ps_ret (pe_fn D_look_up G_look_up hr (pa_cons (pv 0) (pa_cons (pv 1) (pa_cons (pv 2) pa_nil))))))), ?_⟩
    refine ⟨_, rfl, _, _, rfl, rfl, _, rfl, ite2 (fun z => ?_) (fun z => ?_)⟩
    · have z1 : (num c : Int) ≤ 6 := of_decide_eq_true z
      exact ⟨_, rfl, _, rfl, _, rfl, l, no, s, as, c, rfl, B, hn, by omega, kk⟩
    · have z1 : ¬ (num c : Int) ≤ 6 := fun y => z (decide_eq_true y)
      have e := asks_stay (s := s) (c := c) (by omega)
      refine ⟨_, rfl, _, rfl, _, rfl, l, no, s, as, c, rfl, B, hn, by omega, fun H' s1 => kk H' as ?_ fun b o h _ _ => s1 b o h⟩
      rw [e]
      exact B.same s1
/-! call_end -/
/-- at this place of the list the call stands, its number and its numbers -/
def CallAt (ns : List Int) (pl : Nat) (c : Wc.Call) (t : List Int) : Prop := pl ≤ ns.length ∧ ns.drop pl = (num c : Int) :: ((args c).map (fun (n : Nat) => (n : Int)) ++ t)
theorem tok_code {l t : List Int} {c : Wc.Call} (h : Tok l c t) : l = (num c : Int) :: ((args c).map (fun (n : Nat) => (n : Int)) ++ t) := by
  cases h <;> rfl
theorem CallAt.get {ns : List Int} {pl : Nat} {c : Wc.Call} {t : List Int} (h : CallAt ns pl c t) (j : Nat) : (ns.map V.int)[pl + j]? = (((num c : Int) :: ((args c).map (fun (n : Nat) => (n : Int)) ++ t))[j]?).map V.int := by
  rw [List.getElem?_map, ← List.getElem?_drop, h.2]
def counts : List Nat := [0, 1, 2, 2, 3, 2, 2, 2, 3, 1, 2, 2, 2]
def cntOf : Wc.Call → Nat
  | .is _ _ => 2
  | c => (args c).length
theorem counts_at (c : Wc.Call) : atI (nvs counts) (num c : Int) = some (.int (cntOf c : Nat)) := by
  cases c <;> rfl
theorem num_lt (c : Wc.Call) : num c < 13 := by cases c <;> simp [num]
theorem num_is {c : Wc.Call} (h : num c = 12) : ∃ a r, c = .is a r := by
  cases c <;> simp [num] at h
  exact ⟨_, _, rfl⟩
theorem num_not {c : Wc.Call} (h : ¬ num c = 12) : cntOf c = (args c).length := by
  cases c <;> first | rfl | exact absurd rfl h
def sp_call_end (K : PySem.W.Frag) : Sp := fun vs H Q _ => ∃ (a : Addr) (ns : List Int) (pl : Nat) (c : Wc.Call) (t : List Int), vs = [.ref a, .int (pl : Nat)] ∧ SqL K H a (ns.map V.int) ∧ CallAt ns pl c t ∧ Q (.int ((pl + 1 + (args c).length : Nat) : Int)) H
theorem sc_call_end : FnScope ["calls", "place", "call", "end"] ["calls", "place"] (defScope s_call_end) := ⟨rfl, rfl, rfl, by decide +kernel, rfl, by decide +kernel, by decide +kernel⟩
theorem ok_call_end {f : Addr} {fd : FuncData} (D : Def K mg "call_end" s_call_end ["calls", "place"] f fd) (T : Txt K mg A) : FnOk P w K mg base CX0 1 f fd ["calls", "place"] (sp_call_end K) := by
  have sc := @sc_call_end
  refine D.fn.ok sc (fun vs H Q E h => ?_) (fun cdv A' outer s' H vs Q E hr h => ?_)
  · obtain ⟨a, ns, pl, c, t, rfl, _⟩ := h
    rfl
  · obtain ⟨a, ns, pl, c, t, rfl, hs, hc, kk⟩ := h
    refine ⟨_, (pss_cons (ps_set (i := 2) sc.nd rfl (Or.inl rfl) (pe_ix ix_list (pv 0) (pv 1) (fun _ _ => rfl)))
      (pss_cons (ps_if (pt_cmpR op_ge (pv 2) (pe_callB call_len_seq (by rfl) T.no_len PySem.boot_len (pa_cons (pe_gl T.ARGUMENT_COUNTS) pa_nil)) (nomark _)) (pss_one ps_never) pss_nil)
      (pss_cons (ps_set (i := 3) sc.nd rfl (Or.inl rfl) (pe_op op_add (pe_op op_add (pv 1) pe_int) (pe_ix ix_tup (pe_gl T.ARGUMENT_COUNTS) (pv 2) (fun _ _ => rfl))))
      (pss_cons (ps_if (pt_cmpR op_eq (pv 2) (pe_gl T.IS_RUN) (nomark _)) (pss_one (ps_aug (i := 3) sc.nd rfl (Or.inl rfl) (pe_ix ix_list (pv 0) (pe_op op_sub (pv 3) pe_int) (fun _ _ => rfl)) ip_add)) pss_nil)
      (pss_one (ps_ret (pv 3))))))), ?_⟩
    have g0 : atI (ns.map V.int) (pl : Int) = some (.int (num c : Nat)) := atI_nat (hc.get 0)
    have hn := num_lt c
    refine ⟨_, rfl, _, rfl, a, _, _, _, rfl, rfl, hs, g0, ?_⟩
    refine ⟨_, rfl, A.cN, _, rfl, .inr (T.cnt H), _, _, rfl, rfl, _, rfl, ifN (fun z => ?_) ?_⟩
    · have z1 : (((counts.map fun n => V.int (n : Nat)).length : Nat) : Int) ≤ (num c : Int) := z
      have z2 : (counts.map fun n => V.int (n : Nat)).length = 13 := rfl
      omega
    · refine ⟨_, rfl, _, _, rfl, rfl, _, rfl, A.cN, _, _, _, rfl, rfl, T.cnt H, counts_at c, _, _, rfl, rfl, ?_⟩
      have e1 : (pl : Int) + 1 + (cntOf c : Int) = ((pl + 1 + cntOf c : Nat) : Int) := by omega
      dsimp only
      rw [e1]
      refine ⟨_, rfl, rfl, _, rfl, ite2 (fun z => ?_) (fun z => ?_)⟩
      · have z1 : V.int (num c : Nat) = V.int 12 := of_decide_eq_true z
        have z2 : num c = 12 := by injection z1 with z1; omega
        obtain ⟨x, r, rfl⟩ := num_is z2
        have g2 : atI (ns.map V.int) ((pl + 2 : Nat) : Int) = some (.int (r.length : Nat)) := atI_nat (hc.get 2)
        have e2 : ((pl + 1 + cntOf (.is x r) : Nat) : Int) - 1 = ((pl + 2 : Nat) : Int) := by
          show ((pl + 1 + 2 : Nat) : Int) - 1 = _
          omega
        rw [← e2] at g2
        refine ⟨_, rfl, _, rfl, _, rfl, _, _, rfl, rfl, a, _, _, _, rfl, rfl, hs, g2, _, _, rfl, rfl, ?_⟩
        have e3 : ((pl + 1 + cntOf (.is x r) : Nat) : Int) + (r.length : Int) = ((pl + 1 + (args (.is x r)).length : Nat) : Int) := by
          show ((pl + 1 + 2 : Nat) : Int) + (r.length : Int) = ((pl + 1 + (r.length + 1 + 1) : Nat) : Int)
          omega
        dsimp only
        rw [e3]
        exact ⟨_, rfl, kk⟩
      · have z1 : ¬ V.int (num c : Nat) = V.int 12 := fun y => z (decide_eq_true y)
        have z2 : ¬ num c = 12 := fun y => z1 (by rw [y]; rfl)
        rw [num_not z2]
        exact ⟨_, rfl, kk⟩
end
end Wp

set_option maxHeartbeats 2000000
namespace Wp
open PySem PySem.Spec PyProof.Rows L2
open PySem.W (Codec)
open WcP (Good Fit Wf Tok Toks outs)
section
variable {P : Program} {w : World} {K : PySem.W.Frag} {mg : Str → Option Value} {base : Heap} {A : Adr}
/-! what is handed in stays where it lies -/
/-- the list at a, and that it is none of ours -/
def ArgAt (K : PySem.W.Frag) (H : Hp) (a l t : Addr) (xs : List V) : Prop := (∀ H' : Hp, SqL K H' a xs) ∨ (Rd H a (.lst xs) ∧ a ≠ l ∧ a ≠ t)
theorem ArgAt.sq {H : Hp} {a l t : Addr} {xs : List V} (h : ArgAt K H a l t xs) : SqL K H a xs := by
  rcases h with h | h
  · exact h H
  · exact .inl h.1
theorem PcAt.rd {H : Hp} {p a : Addr} {c n : Nat} {x : Wc.Piece} {xs : List V} (h : PcAt A H p c n x) (r : Rd H a (.lst xs)) : p ≠ a := by
  rcases r with r | ⟨o, r⟩
  · exact h.nolist r
  · cases x <;> obtain ⟨dx, e⟩ := h <;> exact ne_of e r (by intro q; cases q)
theorem ProgAt.rd {H : Hp} {l a : Addr} {s : Wc.State} {as : List Addr} {xs : List V} (B : ProgAt A H l s as) (r : Rd H a (.lst xs)) : a ∉ as := fun hx => by
  obtain ⟨k, hk⟩ := List.getElem?_of_mem hx
  obtain ⟨x, _, _, h⟩ := B.get hk
  exact h.rd r rfl
theorem ArgAt.keep {H H' : Hp} {a l t : Addr} {s : Wc.State} {as : List Addr} {xs : List V} (h : ArgAt K H a l t xs) (B : ProgAt A H l s as) (k : Keep H H' l as) : ArgAt K H' a l t xs := by
  rcases h with h | ⟨h1, h2, h3⟩
  · exact .inl h
  · have hn := B.rd h1
    refine .inr ⟨?_, h2, h3⟩
    rcases h1 with h1 | ⟨o, h1⟩
    · exact .inl (k a _ h1 h2 hn)
    · exact .inr ⟨o, k a _ h1 h2 hn⟩
theorem Rd.same {H H' : Hp} {a : Addr} {xs : List V} (h : Rd H a (.lst xs)) (e : Same H H') : Rd H' a (.lst xs) := by
  rcases h with h | ⟨o, h⟩
  · exact .inl (e _ _ h)
  · exact .inr ⟨o, e _ _ h⟩
theorem ArgAt.same {H H' : Hp} {a l t : Addr} {xs : List V} (h : ArgAt K H a l t xs) (e : Same H H') : ArgAt K H' a l t xs := by
  rcases h with h | ⟨h1, h2, h3⟩
  · exact .inl h
  · exact .inr ⟨Rd.same h1 e, h2, h3⟩
theorem ArgAt.write {H : Hp} {a l t : Addr} {xs : List V} {o : HO} (h : ArgAt K H a l t xs) : ArgAt K (upd H t o) a l t xs := by
  rcases h with h | ⟨h1, h2, h3⟩
  · exact .inl h
  · refine .inr ⟨?_, h2, h3⟩
    rcases h1 with h1 | ⟨o', h1⟩
    · exact .inl (by rw [upd_ne h3]; exact h1)
    · exact .inr ⟨o', by rw [upd_ne h3]; exact h1⟩
theorem Rd.ne_none {H : Hp} {a l : Addr} {xs : List V} (h : Rd H a (.lst xs)) (hl : H l = none) : a ≠ l := by
  rcases h with h | ⟨o, h⟩ <;> exact ne_of_none h hl
theorem ProgAt.upd_list {H : Hp} {l t : Addr} {s : Wc.State} {as : List Addr} {xs ys : List V} (B : ProgAt A H l s as) (ht : H t = some (.lst xs)) (hlt : t ≠ l) : ProgAt A (upd H t (.lst ys)) l s as where
  lst := by rw [upd_ne (fun z => hlt z.symm)]; exact B.lst
  len := B.len
  nd := B.nd
  good := B.good
  at_ := fun k p x h1 h2 => (B.at_ k p x h1 h2).keep fun o e => by
    rw [upd_ne ((B.at_ k p x h1 h2).nolist ht)]
    exact e
/-! answers -/
def sp_answers (K : PySem.W.Frag) : Sp := fun vs H Q _ => ∃ (a : Addr) (ns : List Int) (cs : List Wc.Call), vs = [.ref a] ∧ SqL K H a (ns.map V.int) ∧ Toks ns cs ∧ cs.length ≤ 400 ∧ ∀ (H' : Hp) (p : Addr), H' p = some (.lst ((outs Wc.start cs).map V.int)) → Q (.ref p) H'
theorem sc_answers : FnScope ["calls", "programs", "told", "place", "end", "number"] ["calls"] (defScope s_answers) := ⟨rfl, rfl, rfl, by decide +kernel, rfl, by decide +kernel, by decide +kernel⟩
theorem toks_at {ns : List Int} {pl : Nat} {cs : List Wc.Call} (h : Toks (ns.drop pl) cs) (hp : pl < ns.length) : ∃ c t cr, cs = c :: cr ∧ CallAt ns pl c t ∧ Toks t cr ∧ pl + 1 + (args c).length ≤ ns.length ∧ ns.drop (pl + 1 + (args c).length) = t := by
  generalize hd : ns.drop pl = l at h
  cases h with
  | nil =>
    have := List.drop_eq_nil_iff.mp hd
    omega
  | @cons l t c cr ht hr =>
    have e := tok_code ht
    rw [e] at hd
    refine ⟨c, t, cr, rfl, ⟨by omega, hd⟩, hr, ?_, ?_⟩
    · have e2 := congrArg List.length hd
      rw [List.length_drop, List.length_cons, List.length_append, List.length_map] at e2
      omega
    · have e2 : ns.drop (pl + 1 + (args c).length) = (ns.drop pl).drop (1 + (args c).length) := by
        rw [List.drop_drop]
        congr 1
        omega
      rw [e2, hd, Nat.add_comm 1, List.drop_succ_cons, ← List.length_map (f := fun (n : Nat) => (n : Int)), List.drop_left]
theorem slice_args {ns : List Int} {pl : Nat} {c : Wc.Call} {t : List Int} (h : CallAt ns pl c t) (hl : pl + 1 + (args c).length ≤ ns.length) : cutV (ns.map V.int) (some ((pl + 1 : Nat) : Int)) (some ((pl + 1 + (args c).length : Nat) : Int)) = nvs (args c) := by
  rw [cut_mid _ _ _ (by rw [List.length_map]; omega) (by rw [List.length_map]; omega)]
  have e1 : pl + 1 + (args c).length - (pl + 1) = (args c).length := by omega
  rw [e1, ← List.map_drop, ← List.map_take]
  have e2 : ns.drop (pl + 1) = (args c).map (fun (n : Nat) => (n : Int)) ++ t := by
    have e3 : ns.drop (pl + 1) = (ns.drop pl).drop 1 := by rw [List.drop_drop]
    rw [e3, h.2]
    rfl
  rw [e2, ← List.length_map (f := fun (n : Nat) => (n : Int)), List.take_left, List.map_map]
  rfl
theorem ok_answers {f f1 f2 : Addr} {fd fd1 fd2 : FuncData} (D : Def K mg "answers" s_answers ["calls"] f fd) (T : Txt K mg A)
    (D_call_end : Def K mg "call_end" s_call_end ["calls", "place"] f1 fd1) (G_call_end : FnOk P w K mg base CX0 1 f1 fd1 ["calls", "place"] (sp_call_end K))
    (D_answer_one : Def K mg "answer_one" s_answer_one ["programs", "call", "numbers"] f2 fd2) (G_answer_one : FnOk P w K mg base CX0 8 f2 fd2 ["programs", "call", "numbers"] (sp_answer_one A)) :
    FnOk P w K mg base CX0 9 f fd ["calls"] (sp_answers K) := by
  have sc := @sc_answers
  refine D.fn.ok sc (fun vs H Q E h => ?_) (fun cdv A' outer s' H vs Q E hr h => ?_)
  · obtain ⟨a, ns, cs, rfl, _⟩ := h
    rfl
  · obtain ⟨a, ns, cs, rfl, hs, htk, h400, kk⟩ := h
    refine ⟨_, (pss_cons (ps_set (i := 1) sc.nd rfl (Or.inl rfl) (pe_lst pa_nil))
      (pss_cons (ps_set (i := 2) sc.nd rfl (Or.inl rfl) (pe_lst pa_nil))
      (pss_cons (ps_set (i := 3) sc.nd rfl (Or.inl rfl) pe_int)
      (pss_cons (ps_while PassesOwn.never (pt_cmpR op_lt (pv 3) (pe_callB call_len_seq (by rfl) T.no_len PySem.boot_len (pa_cons (pv 0) pa_nil)) (nomark _)) (pss_cons (ps_set (i := 4) sc.nd rfl (Or.inl rfl) (pe_fn D_call_end G_call_end hr (pa_cons (pv 0) (pa_cons (pv 3) pa_nil))))
      (pss_cons (ps_set (i := 5) sc.nd rfl (Or.inl rfl) (pe_fn D_answer_one G_answer_one hr (pa_cons (pv 1) (pa_cons (pe_ix ix_list (pv 0) (pv 3) (fun _ _ => rfl)) (pa_cons (pe_slice sl_list (pv 0) (po_some (pe_op op_add (pv 3) pe_int)) (po_some (pv 4))) pa_nil)))))
      (pss_cons (ps_expr (pe_bm PySem.F.plainAttrs_list PySem.F.slot_list_extend PySem.F.type_list_extend mt_extend (pv 2) (pa_cons (pe_lst (pa_cons pe_int (pa_cons (pv 5) (pa_cons pe_int (pa_cons pe_int pa_nil))))) pa_nil)))
      (pss_one (ps_set (i := 3) sc.nd rfl (Or.inl rfl) (pv 4)))))))
      (pss_one (ps_ret (pv 2))))))), ?_⟩
    refine ⟨Nat.zero_le _, fun l hl => ⟨Nat.zero_le _, fun t ht => ?_⟩⟩
    have s1 : Same H (upd H l (.lst [])) := same_new hl
    have s2 : Same (upd H l (.lst [])) (upd (upd H l (.lst [])) t (.lst [])) := same_new ht
    have htl : t ≠ l := fun z => by rw [z, upd_same] at ht; cases ht
    have hA : ArgAt K (upd (upd H l (.lst [])) t (.lst [])) a l t (ns.map V.int) := by
      rcases hs with hs | hs
      · exact .inr ⟨Rd.same hs (s1.trans s2), Rd.ne_none hs hl, Rd.ne_none hs (s1.free ht)⟩
      · exact .inl fun _ => .inr hs
    refine ⟨fun m σ H' => ∃ (pl : Nat) (cr : List Wc.Call) (s : Wc.State) (as : List Addr) (out : List Int) (v4 v5 : Option V), σ = [some (.ref a), some (.ref l), some (.ref t), some (.int (pl : Nat)), v4, v5] ∧ m = cr.length ∧ pl ≤ ns.length ∧ Toks (ns.drop pl) cr ∧ ProgAt A H' l s as ∧
      H' t = some (.lst (out.map V.int)) ∧ out ++ outs s cr = outs Wc.start cs ∧ ArgAt K H' a l t (ns.map V.int) ∧ out.length + 4 * cr.length ≤ 1600,
      ⟨cs.length, 0, cs, Wc.start, [], [], none, none, rfl, rfl, Nat.zero_le _, htk, ProgAt.start (s2 _ _ upd_same), upd_same, rfl, hA, by simp; omega⟩, ?_⟩
    rintro m σ H1 ⟨pl, cr, s, as, out, v4, v5, rfl, rfl, hpl, htk', B, hto, hout, hArg, hlen⟩
    refine ⟨_, rfl, _, rfl, a, _, rfl, .inl hArg.sq, _, _, rfl, rfl, _, rfl, ite2 (fun z => ?_) (fun z => ?_)⟩
    · have z1 : (pl : Int) < ((ns.map V.int).length : Nat) := of_decide_eq_true z
      rw [List.length_map] at z1
      obtain ⟨c, tl, cr', rfl, hc, htl', hle, hdr⟩ := toks_at htk' (by omega)
      refine ⟨fun σ' H' => ∃ m', m' < (c :: cr').length ∧ ∃ (pl : Nat) (cr : List Wc.Call) (s : Wc.State) (as : List Addr) (out : List Int) (v4 v5 : Option V), σ' = [some (.ref a), some (.ref l), some (.ref t), some (.int (pl : Nat)), v4, v5] ∧ m' = cr.length ∧ pl ≤ ns.length ∧ Toks (ns.drop pl) cr ∧ ProgAt A H' l s as ∧
        H' t = some (.lst (out.map V.int)) ∧ out ++ outs s cr = outs Wc.start cs ∧ ArgAt K H' a l t (ns.map V.int) ∧ out.length + 4 * cr.length ≤ 1600, fun σ' H' z => z, ?_⟩
      refine ⟨_, rfl, _, rfl, a, ns, pl, c, tl, rfl, hArg.sq, hc, ?_⟩
      have g0 : atI (ns.map V.int) (pl : Int) = some (.int (num c : Nat)) := atI_nat (hc.get 0)
      refine ⟨_, rfl, _, rfl, _, rfl, a, _, _, _, rfl, rfl, hArg.sq, g0, _, rfl, _, rfl, _, _, rfl, rfl, _, rfl, _, rfl, _, rfl, a, _, rfl, hArg.sq, fun no hno => ?_⟩
      have e1 : (pl : Int) + 1 = ((pl + 1 : Nat) : Int) := by omega
      dsimp only
      rw [e1, slice_args hc hle]
      have sn : Same H1 (upd H1 no (.lst (nvs (args c)))) := same_new hno
      refine ⟨l, no, s, as, c, rfl, B.same sn, upd_same, fun H2 as2 B2 kp => ?_⟩
      have hArg2 := (hArg.same sn).keep (B.same sn) kp
      have hto1 := sn _ _ hto
      have hto2 : H2 t = some (.lst (out.map V.int)) := kp t _ hto1 htl ((B.same sn).rd (.inl hto1))
      refine ⟨_, rfl, .inl ⟨rfl, _, SqL.of hto2⟩, _, rfl, (by show 4 ≤ sizeLine; decide), fun b hb => ?_⟩
      have sb : Same H2 (upd H2 b (.lst [V.int 3, V.int (Wc.step s c).2.ret, V.int 0, V.int 0])) := same_new hb
      have hlen' : out.length + 4 * (cr'.length + 1) ≤ 1600 := hlen
      refine ⟨t, b, _, _, rfl, rfl, sb _ _ hto2, upd_same, Nat.le_trans (show (out.map V.int).length + 4 ≤ 2000 by rw [List.length_map]; omega) (by rw [PySem.sizeLine_eq]; decide), ?_⟩
      refine ⟨_, rfl, cr'.length, Nat.lt_succ_self _, pl + 1 + (args c).length, cr', (Wc.step s c).1, as2, out ++ [3, (Wc.step s c).2.ret, 0, 0], _, _, rfl, rfl, hle, by rw [hdr]; exact htl', (B2.same sb).upd_list (sb _ _ hto2) htl, ?_, ?_, (hArg2.same sb).write, by rw [List.length_append]; show out.length + 4 + 4 * cr'.length ≤ 1600; omega⟩
      · rw [upd_same, List.map_append]
        rfl
      · rw [List.append_assoc]
        exact hout
    · have z1 : ¬ (pl : Int) < ((ns.map V.int).length : Nat) := fun y => z (decide_eq_true y)
      rw [List.length_map] at z1
      have e1 : ns.drop pl = [] := List.drop_eq_nil_iff.mpr (by omega)
      rw [e1] at htk'
      cases htk' with
      | nil =>
        refine ⟨_, rfl, kk H1 t ?_⟩
        have e2 : out = outs Wc.start cs := by
          rw [← hout]
          exact (List.append_nil _).symm
        rw [← e2]
        exact hto
      | cons h _ => cases h
end
end Wp

set_option maxHeartbeats 2000000
namespace L2
open PySem PySem.Spec PyProof.Rows
theorem def_mk {K : PySem.W.Frag} {mg : Str → Option Value} {h : Heap} {x : Str} {st : Stmt} {ps : List Str} {f : Addr} {oc : Value} {od an : Option Addr} {osl : Array (Option Value)} {kV doc pm cdv ct : Value} (X : K.In h) (G : h.Ns mainGlobals mg)
    (a : PySem.W.nsIn K mainGlobals x = some (some (.ref f))) (l : K.lookup f = some ⟨oc, od, .func (PySem.W.fnOf x x (defArgs st) (defBody st) (defScope st) .none kV doc pm an cdv ct), osl⟩) (c : PySem.W.codeIn K cdv x = true) (k : PySem.W.keepIn K (.ref f) = true)
    (hb : ∀ (kV doc pm : Value) (an : Option Addr) (cdv ct : Value) (us : List Value), us.length = ps.length → bindArgs (PySem.W.fnOf x x (defArgs st) (defBody st) (defScope st) .none kV doc pm an cdv ct) ⟨us, []⟩ = pure (ps.zip us)) :
    ∃ f fd, Def K mg x st ps f fd := by
  have F := fun_mk (st := st) l c k
  exact ⟨f, _, F, F.binds hb, PySem.W.mg_of X G a⟩
/-- a class with its __init__ -/
structure ClF (K : PySem.W.Frag) (x qual : Str) (st : Stmt) (C f : Addr) (oc : Value) (od an : Option Addr) (osl : Array (Option Value)) (kV doc pm cdv ct : Value) : Prop where
  aC : PySem.W.nsIn K mainGlobals x = some (some (.ref C))
  a1 : PySem.W.findIn K (.ref C) "__init__" = some (some (.ref f))
  i1 : PySem.W.isFn K (.ref f) = true
  l : K.lookup f = some ⟨oc, od, .func (PySem.W.fnOf "__init__" qual (defArgs st) (defBody st) (defScope st) .none kV doc pm an cdv ct), osl⟩
  c : PySem.W.codeIn K cdv qual = true
  k : PySem.W.keepIn K (.ref f) = true
  pg : PySem.W.plainGet K C Str.empty = true
  hd : PySem.W.hasDictIn K C = true
  po : PySem.W.plainOver K C = true
  sa : PySem.W.findIn K (.ref C) "__setattr__" = some (some (.builtin "object.__setattr__"))
  mks : PySem.W.makesIn K C = true
  kc : PySem.W.keepIn K (.ref C) = true
  ha : PySem.W.findIn K (.ref C) "__class__" = some (some (.builtin "object.__class__"))
  hn : PySem.W.specialIn K (.builtin "object.__class__") "__get__" = some (some (.builtin "getset_descriptor.__get__"))
  htk : PySem.W.takesIn K (.builtin "object.__class__") = some true
  hm : PySem.W.mroIn K C (.type "object") = some true
theorem ClF.cld {K : PySem.W.Frag} {mg : Str → Option Value} {h : Heap} {x qual : Str} {st : Stmt} {ps : List Str} {C f : Addr} {oc : Value} {od an : Option Addr} {osl : Array (Option Value)} {kV doc pm cdv ct : Value} (F : ClF K x qual st C f oc od an osl kV doc pm cdv ct) (X : K.In h) (G : h.Ns mainGlobals mg)
    (hb : ∀ (kV doc pm : Value) (an : Option Addr) (cdv ct : Value) (us : List Value), us.length = ps.length → bindArgs (PySem.W.fnOf "__init__" qual (defArgs st) (defBody st) (defScope st) .none kV doc pm an cdv ct) ⟨us, []⟩ = pure (ps.zip us)) :
    ∃ f fd, Cld K mg x qual st ps C f fd := by
  have Fn := fun_mk (st := st) F.l F.c F.k
  exact ⟨f, _, Fn, Fn.binds hb, ⟨F.mks, F.a1, F.i1, F.kc⟩, PySem.W.mg_of X G F.aC, ⟨F.pg, F.hd, F.po, F.sa⟩, ⟨F.ha, F.hn, F.htk, F.hm⟩⟩
theorem ClF.cls {K : PySem.W.Frag} {x qual : Str} {st : Stmt} {C f : Addr} {oc : Value} {od an : Option Addr} {osl : Array (Option Value)} {kV doc pm cdv ct : Value} (F : ClF K x qual st C f oc od an osl kV doc pm cdv ct) : Cls K C := ⟨F.pg, F.hd, F.po, F.sa⟩
theorem ClF.tyc {K : PySem.W.Frag} {x qual : Str} {st : Stmt} {C f : Addr} {oc : Value} {od an : Option Addr} {osl : Array (Option Value)} {kV doc pm cdv ct : Value} (F : ClF K x qual st C f oc od an osl kV doc pm cdv ct) : TyC K C := ⟨F.ha, F.hn, F.htk, F.hm⟩
theorem gc_int {K : PySem.W.Frag} {mg : Str → Option Value} {h : Heap} {x : Str} {i : Int} {t : Tok} (X : K.In h) (G : h.Ns mainGlobals mg) (a : PySem.W.nsIn K mainGlobals x = some (some (.int i t))) : GC mg x (.int i) := ⟨_, PySem.W.mg_of X G a, t, rfl⟩
theorem gc_ref {K : PySem.W.Frag} {mg : Str → Option Value} {h : Heap} {x : Str} {C : Addr} (X : K.In h) (G : h.Ns mainGlobals mg) (a : PySem.W.nsIn K mainGlobals x = some (some (.ref C))) : GC mg x (.ref C) := ⟨_, PySem.W.mg_of X G a, rfl⟩
end L2
namespace Wp
open PySem PySem.Spec PyProof.Rows L2
section
variable {P : Program} {w : World} {K : PySem.W.Frag} {mg : Str → Option Value} {base : Heap} {A : Adr}
theorem all_ok (T : Txt K mg A)
    (DBlock : ∃ f fd, Cld K mg "Block" "Block.__init__" sBlockInit ["self", "cost"] A.cB f fd)
    (DSeq : ∃ f fd, Cld K mg "Seq" "Pair.__init__" sPairInit ["self", "first", "second", "longest"] A.cS f fd)
    (DAlt : ∃ f fd, Cld K mg "Alt" "Pair.__init__" sPairInit ["self", "first", "second", "longest"] A.cA f fd)
    (DLoop : ∃ f fd, Cld K mg "Loop" "Loop.__init__" sLoopInit ["self", "body", "lo", "hi", "longest"] A.cL f fd)
    (DCall : ∃ f fd, Cld K mg "Call" "Call.__init__" sCallInit ["self", "body", "frame", "longest"] A.cC f fd)
    (D_block_ends : ∃ f fd, Def K mg "block_ends" s_block_ends ["row", "block"] f fd)
    (D_ends_through : ∃ f fd, Def K mg "ends_through" s_ends_through ["middles", "ends"] f fd)
    (D_seq_ends : ∃ f fd, Def K mg "seq_ends" s_seq_ends ["first", "second"] f fd)
    (D_alt_ends : ∃ f fd, Def K mg "alt_ends" s_alt_ends ["first", "second"] f fd)
    (D_ends_by_rounds : ∃ f fd, Def K mg "ends_by_rounds" s_ends_by_rounds ["body"] f fd)
    (D_ends_in_groups : ∃ f fd, Def K mg "ends_in_groups" s_ends_in_groups ["groups", "width"] f fd)
    (D_loop_ends : ∃ f fd, Def K mg "loop_ends" s_loop_ends ["body", "lo", "hi"] f fd)
    (D_program_ends : ∃ f fd, Def K mg "program_ends" s_program_ends ["program", "row", "found"] f fd)
    (D_row_is_run : ∃ f fd, Def K mg "row_is_run" s_row_is_run ["programs", "number", "row"] f fd)
    (D_run_weight : ∃ f fd, Def K mg "run_weight" s_run_weight ["program", "weight", "found", "least"] f fd)
    (D_run_weights : ∃ f fd, Def K mg "run_weights" s_run_weights ["programs", "weights", "least"] f fd)
    (D_block_costs : ∃ f fd, Def K mg "block_costs" s_block_costs ["programs"] f fd)
    (D_block_counts : ∃ f fd, Def K mg "block_counts" s_block_counts ["programs", "block"] f fd)
    (D_run_costs : ∃ f fd, Def K mg "run_costs" s_run_costs ["programs", "least"] f fd)
    (D_times_in_runs : ∃ f fd, Def K mg "times_in_runs" s_times_in_runs ["programs", "block", "least"] f fd)
    (D_stack_of_one : ∃ f fd, Def K mg "stack_of_one" s_stack_of_one ["program", "found"] f fd)
    (D_most_stacks : ∃ f fd, Def K mg "most_stacks" s_most_stacks ["programs"] f fd)
    (D_dearest_with : ∃ f fd, Def K mg "dearest_with" s_dearest_with ["programs", "number", "block", "more"] f fd)
    (D_slack_of : ∃ f fd, Def K mg "slack_of" s_slack_of ["programs", "number", "block"] f fd)
    (D_told_choice : ∃ f fd, Def K mg "told_choice" s_told_choice ["program", "dearest"] f fd)
    (D_told_length : ∃ f fd, Def K mg "told_length" s_told_length ["program", "dearest", "found"] f fd)
    (D_told_lengths : ∃ f fd, Def K mg "told_lengths" s_told_lengths ["programs", "dearest"] f fd)
    (D_told_block : ∃ f fd, Def K mg "told_block" s_told_block ["programs", "number", "place"] f fd)
    (D_is_program : ∃ f fd, Def K mg "is_program" s_is_program ["programs", "number"] f fd)
    (D_is_block : ∃ f fd, Def K mg "is_block" s_is_block ["programs", "number"] f fd)
    (D_add_program : ∃ f fd, Def K mg "add_program" s_add_program ["programs", "program"] f fd)
    (D_forget_all : ∃ f fd, Def K mg "forget_all" s_forget_all ["programs"] f fd)
    (D_make_block : ∃ f fd, Def K mg "make_block" s_make_block ["programs", "cost"] f fd)
    (D_make_seq : ∃ f fd, Def K mg "make_seq" s_make_seq ["programs", "first", "second"] f fd)
    (D_make_alt : ∃ f fd, Def K mg "make_alt" s_make_alt ["programs", "first", "second"] f fd)
    (D_make_loop : ∃ f fd, Def K mg "make_loop" s_make_loop ["programs", "body", "lo", "hi"] f fd)
    (D_make_call : ∃ f fd, Def K mg "make_call" s_make_call ["programs", "body", "frame"] f fd)
    (D_change_cost : ∃ f fd, Def K mg "change_cost" s_change_cost ["programs", "number", "cost"] f fd)
    (D_time_of : ∃ f fd, Def K mg "time_of" s_time_of ["programs", "number", "least"] f fd)
    (D_how_often : ∃ f fd, Def K mg "how_often" s_how_often ["programs", "number", "block", "least"] f fd)
    (D_stack_of : ∃ f fd, Def K mg "stack_of" s_stack_of ["programs", "number"] f fd)
    (D_slack_in : ∃ f fd, Def K mg "slack_in" s_slack_in ["programs", "number", "block"] f fd)
    (D_nth_of : ∃ f fd, Def K mg "nth_of" s_nth_of ["programs", "number", "place"] f fd)
    (D_is_run : ∃ f fd, Def K mg "is_run" s_is_run ["programs", "number", "row"] f fd)
    (D_make_or_change : ∃ f fd, Def K mg "make_or_change" s_make_or_change ["programs", "call", "numbers"] f fd)
    (D_look_up : ∃ f fd, Def K mg "look_up" s_look_up ["programs", "call", "numbers"] f fd)
    (D_answer_one : ∃ f fd, Def K mg "answer_one" s_answer_one ["programs", "call", "numbers"] f fd)
    (D_call_end : ∃ f fd, Def K mg "call_end" s_call_end ["calls", "place"] f fd)
    (D_answers : ∃ f fd, Def K mg "answers" s_answers ["calls"] f fd) :
    ∃ f fd, Def K mg "answers" s_answers ["calls"] f fd ∧ ∀ base : Heap, FnOk P w K mg base CX0 9 f fd ["calls"] (sp_answers K) := by
  obtain ⟨_, _, DBlock⟩ := DBlock
  obtain ⟨_, _, DSeq⟩ := DSeq
  obtain ⟨_, _, DAlt⟩ := DAlt
  obtain ⟨_, _, DLoop⟩ := DLoop
  obtain ⟨_, _, DCall⟩ := DCall
  obtain ⟨_, _, D_block_ends⟩ := D_block_ends
  obtain ⟨_, _, D_ends_through⟩ := D_ends_through
  obtain ⟨_, _, D_seq_ends⟩ := D_seq_ends
  obtain ⟨_, _, D_alt_ends⟩ := D_alt_ends
  obtain ⟨_, _, D_ends_by_rounds⟩ := D_ends_by_rounds
  obtain ⟨_, _, D_ends_in_groups⟩ := D_ends_in_groups
  obtain ⟨_, _, D_loop_ends⟩ := D_loop_ends
  obtain ⟨_, _, D_program_ends⟩ := D_program_ends
  obtain ⟨_, _, D_row_is_run⟩ := D_row_is_run
  obtain ⟨_, _, D_run_weight⟩ := D_run_weight
  obtain ⟨_, _, D_run_weights⟩ := D_run_weights
  obtain ⟨_, _, D_block_costs⟩ := D_block_costs
  obtain ⟨_, _, D_block_counts⟩ := D_block_counts
  obtain ⟨_, _, D_run_costs⟩ := D_run_costs
  obtain ⟨_, _, D_times_in_runs⟩ := D_times_in_runs
  obtain ⟨_, _, D_stack_of_one⟩ := D_stack_of_one
  obtain ⟨_, _, D_most_stacks⟩ := D_most_stacks
  obtain ⟨_, _, D_dearest_with⟩ := D_dearest_with
  obtain ⟨_, _, D_slack_of⟩ := D_slack_of
  obtain ⟨_, _, D_told_choice⟩ := D_told_choice
  obtain ⟨_, _, D_told_length⟩ := D_told_length
  obtain ⟨_, _, D_told_lengths⟩ := D_told_lengths
  obtain ⟨_, _, D_told_block⟩ := D_told_block
  obtain ⟨_, _, D_is_program⟩ := D_is_program
  obtain ⟨_, _, D_is_block⟩ := D_is_block
  obtain ⟨_, _, D_add_program⟩ := D_add_program
  obtain ⟨_, _, D_forget_all⟩ := D_forget_all
  obtain ⟨_, _, D_make_block⟩ := D_make_block
  obtain ⟨_, _, D_make_seq⟩ := D_make_seq
  obtain ⟨_, _, D_make_alt⟩ := D_make_alt
  obtain ⟨_, _, D_make_loop⟩ := D_make_loop
  obtain ⟨_, _, D_make_call⟩ := D_make_call
  obtain ⟨_, _, D_change_cost⟩ := D_change_cost
  obtain ⟨_, _, D_time_of⟩ := D_time_of
  obtain ⟨_, _, D_how_often⟩ := D_how_often
  obtain ⟨_, _, D_stack_of⟩ := D_stack_of
  obtain ⟨_, _, D_slack_in⟩ := D_slack_in
  obtain ⟨_, _, D_nth_of⟩ := D_nth_of
  obtain ⟨_, _, D_is_run⟩ := D_is_run
  obtain ⟨_, _, D_make_or_change⟩ := D_make_or_change
  obtain ⟨_, _, D_look_up⟩ := D_look_up
  obtain ⟨_, _, D_answer_one⟩ := D_answer_one
  obtain ⟨_, _, D_call_end⟩ := D_call_end
  obtain ⟨_, _, D_answers⟩ := D_answers
  refine ⟨_, _, D_answers, fun base => ?_⟩
  have G_ends_through := ok_ends_through (P := P) (w := w) (base := base) D_ends_through T 
  have G_ends_in_groups := ok_ends_in_groups (P := P) (w := w) (base := base) D_ends_in_groups T 
  have G_block_ends := ok_block_ends (P := P) (w := w) (base := base) D_block_ends T 
  have G_seq_ends := ok_seq_ends (P := P) (w := w) (base := base) D_seq_ends T D_ends_through G_ends_through
  have G_alt_ends := ok_alt_ends (P := P) (w := w) (base := base) D_alt_ends T 
  have G_ends_by_rounds := ok_ends_by_rounds (P := P) (w := w) (base := base) D_ends_by_rounds T D_ends_through G_ends_through
  have G_loop_ends := ok_loop_ends (P := P) (w := w) (base := base) D_loop_ends T D_ends_by_rounds G_ends_by_rounds D_ends_in_groups G_ends_in_groups
  have G_program_ends := ok_program_ends (P := P) (w := w) (base := base) D_program_ends T D_block_ends G_block_ends D_seq_ends G_seq_ends D_alt_ends G_alt_ends D_loop_ends G_loop_ends
  have G_row_is_run := ok_row_is_run (P := P) (w := w) (base := base) D_row_is_run T D_program_ends G_program_ends
  have G_run_costs := ok_run_costs (P := P) (w := w) (base := base) D_run_costs T D_run_weights D_run_weight D_block_costs
  have G_times_in_runs := ok_times_in_runs (P := P) (w := w) (base := base) D_times_in_runs T D_run_weights D_run_weight D_block_counts
  have G_most_stacks := ok_most_stacks (P := P) (w := w) (base := base) D_most_stacks T D_stack_of_one
  have G_slack_of := ok_slack_of (P := P) (w := w) (base := base) D_slack_of T D_dearest_with D_run_weights D_run_weight D_block_costs
  have G_told_choice := ok_told_choice (P := P) (w := w) (base := base) D_told_choice T 
  have G_told_lengths := ok_told_lengths (P := P) (w := w) (base := base) D_told_lengths T D_told_length D_told_choice
  have G_told_block := ok_told_block (P := P) (w := w) (base := base) D_told_block T D_run_costs G_run_costs D_told_lengths G_told_lengths D_told_choice G_told_choice
  have G_forget_all := ok_forget_all (P := P) (w := w) (base := base) D_forget_all T 
  have G_make_block := ok_make_block (P := P) (w := w) (base := base) D_make_block T D_add_program DBlock
  have G_make_seq := ok_make_seq (P := P) (w := w) (base := base) D_make_seq T D_add_program D_is_program DSeq T.nS_first T.nS_second
  have G_make_alt := ok_make_alt (P := P) (w := w) (base := base) D_make_alt T D_add_program D_is_program DAlt T.nA_first T.nA_second
  have G_make_loop := ok_make_loop (P := P) (w := w) (base := base) D_make_loop T D_add_program D_is_program DLoop T.nL_body T.nL_lo T.nL_hi
  have G_make_call := ok_make_call (P := P) (w := w) (base := base) D_make_call T D_add_program D_is_program DCall T.nC_body T.nC_frame
  have G_change_cost := ok_change_cost (P := P) (w := w) (base := base) D_change_cost T D_is_block D_is_program
  have G_time_of := ok_time_of (P := P) (w := w) (base := base) D_time_of T D_is_program D_run_costs G_run_costs
  have G_how_often := ok_how_often (P := P) (w := w) (base := base) D_how_often T D_is_program D_is_block D_times_in_runs G_times_in_runs
  have G_stack_of := ok_stack_of (P := P) (w := w) (base := base) D_stack_of T D_is_program D_most_stacks G_most_stacks
  have G_slack_in := ok_slack_in (P := P) (w := w) (base := base) D_slack_in T D_is_program D_is_block D_times_in_runs G_times_in_runs D_slack_of G_slack_of
  have G_nth_of := ok_nth_of (P := P) (w := w) (base := base) D_nth_of T D_is_program D_told_block G_told_block
  have G_is_run := ok_is_run (P := P) (w := w) (base := base) D_is_run T D_is_program D_row_is_run G_row_is_run
  have G_make_or_change := ok_make_or_change (P := P) (w := w) (base := base) D_make_or_change T D_forget_all G_forget_all D_make_block G_make_block D_make_seq G_make_seq D_make_alt G_make_alt D_make_loop G_make_loop D_make_call G_make_call D_change_cost G_change_cost
  have G_look_up := ok_look_up (P := P) (w := w) (base := base) D_look_up T D_time_of G_time_of D_how_often G_how_often D_stack_of G_stack_of D_slack_in G_slack_in D_nth_of G_nth_of D_is_run G_is_run
  have G_answer_one := ok_answer_one (P := P) (w := w) (base := base) D_answer_one T D_make_or_change G_make_or_change D_look_up G_look_up
  have G_call_end := ok_call_end (P := P) (w := w) (base := base) D_call_end T 
  exact ok_answers D_answers T D_call_end G_call_end D_answer_one G_answer_one
theorem txt_mk {h : Heap} {cB cS cA cL cC cP cN : Addr}
    {t_MOST_PROGRAMS t_MOST_COST t_MOST_FRAME t_MOST_TIMES t_MOST_BLOCKS t_MOST_ROW t_NO_ROOM t_WRONG t_DONE t_NOT_THERE t_INIT t_BLOCK t_SEQ t_ALT t_LOOP t_CALL t_COST t_TIME t_OFTEN t_STACK t_SLACK t_NTH t_IS_RUN : Tok}
    {u0 u1 u2 u3 u4 u5 u6 u7 u8 u9 u10 u11 u12 : Tok} {odN : Option Addr} {nN : Nat} {slN : Array (Option Value)}
    {fBlock : Addr} {ocBlock kVBlock dcBlock pmBlock cdBlock ctBlock : Value} {odBlock anBlock : Option Addr} {slBlock : Array (Option Value)}
    {fSeq : Addr} {ocSeq kVSeq dcSeq pmSeq cdSeq ctSeq : Value} {odSeq anSeq : Option Addr} {slSeq : Array (Option Value)}
    {fAlt : Addr} {ocAlt kVAlt dcAlt pmAlt cdAlt ctAlt : Value} {odAlt anAlt : Option Addr} {slAlt : Array (Option Value)}
    {fLoop : Addr} {ocLoop kVLoop dcLoop pmLoop cdLoop ctLoop : Value} {odLoop anLoop : Option Addr} {slLoop : Array (Option Value)}
    {fCall : Addr} {ocCall kVCall dcCall pmCall cdCall ctCall : Value} {odCall anCall : Option Addr} {slCall : Array (Option Value)}
    (X : K.In h) (G : h.Ns mainGlobals mg)
    (FBlock : ClF K "Block" "Block.__init__" sBlockInit cB fBlock ocBlock odBlock anBlock slBlock kVBlock dcBlock pmBlock cdBlock ctBlock)
    (FSeq : ClF K "Seq" "Pair.__init__" sPairInit cS fSeq ocSeq odSeq anSeq slSeq kVSeq dcSeq pmSeq cdSeq ctSeq)
    (FAlt : ClF K "Alt" "Pair.__init__" sPairInit cA fAlt ocAlt odAlt anAlt slAlt kVAlt dcAlt pmAlt cdAlt ctAlt)
    (FLoop : ClF K "Loop" "Loop.__init__" sLoopInit cL fLoop ocLoop odLoop anLoop slLoop kVLoop dcLoop pmLoop cdLoop ctLoop)
    (FCall : ClF K "Call" "Call.__init__" sCallInit cC fCall ocCall odCall anCall slCall kVCall dcCall pmCall cdCall ctCall)
    (aP : PySem.W.nsIn K mainGlobals "Pair" = some (some (.ref cP)))
    (aN : PySem.W.nsIn K mainGlobals "ARGUMENT_COUNTS" = some (some (.ref cN)))
    (lN : K.lookup cN = some ⟨.type "tuple", odN, .seq #[.int 0 u0, .int 1 u1, .int 2 u2, .int 2 u3, .int 3 u4, .int 2 u5, .int 2 u6, .int 2 u7, .int 3 u8, .int 1 u9, .int 2 u10, .int 2 u11, .int 2 u12] nN, slN⟩)
    (no_len : PySem.W.nsIn K mainGlobals "len" = some none)
    (no_isinstance : PySem.W.nsIn K mainGlobals "isinstance" = some none)
    (no_max : PySem.W.nsIn K mainGlobals "max" = some none)
    (no_min : PySem.W.nsIn K mainGlobals "min" = some none)
    (no_range : PySem.W.nsIn K mainGlobals "range" = some none)
    (c_MOST_PROGRAMS : PySem.W.nsIn K mainGlobals "MOST_PROGRAMS" = some (some (.int 64 t_MOST_PROGRAMS)))
    (c_MOST_COST : PySem.W.nsIn K mainGlobals "MOST_COST" = some (some (.int 65535 t_MOST_COST)))
    (c_MOST_FRAME : PySem.W.nsIn K mainGlobals "MOST_FRAME" = some (some (.int 65535 t_MOST_FRAME)))
    (c_MOST_TIMES : PySem.W.nsIn K mainGlobals "MOST_TIMES" = some (some (.int 65535 t_MOST_TIMES)))
    (c_MOST_BLOCKS : PySem.W.nsIn K mainGlobals "MOST_BLOCKS" = some (some (.int 1099511627776 t_MOST_BLOCKS)))
    (c_MOST_ROW : PySem.W.nsIn K mainGlobals "MOST_ROW" = some (some (.int 24 t_MOST_ROW)))
    (c_NO_ROOM : PySem.W.nsIn K mainGlobals "NO_ROOM" = some (some (.int (-2) t_NO_ROOM)))
    (c_WRONG : PySem.W.nsIn K mainGlobals "WRONG" = some (some (.int (-1) t_WRONG)))
    (c_DONE : PySem.W.nsIn K mainGlobals "DONE" = some (some (.int 0 t_DONE)))
    (c_NOT_THERE : PySem.W.nsIn K mainGlobals "NOT_THERE" = some (some (.int (-3) t_NOT_THERE)))
    (c_INIT : PySem.W.nsIn K mainGlobals "INIT" = some (some (.int 0 t_INIT)))
    (c_BLOCK : PySem.W.nsIn K mainGlobals "BLOCK" = some (some (.int 1 t_BLOCK)))
    (c_SEQ : PySem.W.nsIn K mainGlobals "SEQ" = some (some (.int 2 t_SEQ)))
    (c_ALT : PySem.W.nsIn K mainGlobals "ALT" = some (some (.int 3 t_ALT)))
    (c_LOOP : PySem.W.nsIn K mainGlobals "LOOP" = some (some (.int 4 t_LOOP)))
    (c_CALL : PySem.W.nsIn K mainGlobals "CALL" = some (some (.int 5 t_CALL)))
    (c_COST : PySem.W.nsIn K mainGlobals "COST" = some (some (.int 6 t_COST)))
    (c_TIME : PySem.W.nsIn K mainGlobals "TIME" = some (some (.int 7 t_TIME)))
    (c_OFTEN : PySem.W.nsIn K mainGlobals "OFTEN" = some (some (.int 8 t_OFTEN)))
    (c_STACK : PySem.W.nsIn K mainGlobals "STACK" = some (some (.int 9 t_STACK)))
    (c_SLACK : PySem.W.nsIn K mainGlobals "SLACK" = some (some (.int 10 t_SLACK)))
    (c_NTH : PySem.W.nsIn K mainGlobals "NTH" = some (some (.int 11 t_NTH)))
    (c_IS_RUN : PySem.W.nsIn K mainGlobals "IS_RUN" = some (some (.int 12 t_IS_RUN)))
    (nB_cost : PySem.W.findIn K (.ref cB) "cost" = some none)
    (nB_longest : PySem.W.findIn K (.ref cB) "longest" = some none)
    (nS_longest : PySem.W.findIn K (.ref cS) "longest" = some none)
    (nA_longest : PySem.W.findIn K (.ref cA) "longest" = some none)
    (nL_longest : PySem.W.findIn K (.ref cL) "longest" = some none)
    (nC_longest : PySem.W.findIn K (.ref cC) "longest" = some none)
    (nS_first : PySem.W.findIn K (.ref cS) "first" = some none)
    (nS_second : PySem.W.findIn K (.ref cS) "second" = some none)
    (nA_first : PySem.W.findIn K (.ref cA) "first" = some none)
    (nA_second : PySem.W.findIn K (.ref cA) "second" = some none)
    (nL_body : PySem.W.findIn K (.ref cL) "body" = some none)
    (nL_lo : PySem.W.findIn K (.ref cL) "lo" = some none)
    (nL_hi : PySem.W.findIn K (.ref cL) "hi" = some none)
    (nC_body : PySem.W.findIn K (.ref cC) "body" = some none)
    (nC_frame : PySem.W.findIn K (.ref cC) "frame" = some none)
    (kB : Kit K ⟨cB, cS, cA, cL, cC, cP, cN⟩ cB true false false false false false)
    (kS : Kit K ⟨cB, cS, cA, cL, cC, cP, cN⟩ cS false true false false false true)
    (kA : Kit K ⟨cB, cS, cA, cL, cC, cP, cN⟩ cA false false true false false true)
    (kL : Kit K ⟨cB, cS, cA, cL, cC, cP, cN⟩ cL false false false true false false)
    (kC : Kit K ⟨cB, cS, cA, cL, cC, cP, cN⟩ cC false false false false true false) :
    ∃ A : Adr, Txt K mg A ∧ (∃ f fd, Cld K mg "Block" "Block.__init__" sBlockInit ["self", "cost"] A.cB f fd) ∧ (∃ f fd, Cld K mg "Seq" "Pair.__init__" sPairInit ["self", "first", "second", "longest"] A.cS f fd) ∧ (∃ f fd, Cld K mg "Alt" "Pair.__init__" sPairInit ["self", "first", "second", "longest"] A.cA f fd) ∧ (∃ f fd, Cld K mg "Loop" "Loop.__init__" sLoopInit ["self", "body", "lo", "hi", "longest"] A.cL f fd) ∧ (∃ f fd, Cld K mg "Call" "Call.__init__" sCallInit ["self", "body", "frame", "longest"] A.cC f fd) := by
  refine ⟨⟨cB, cS, cA, cL, cC, cP, cN⟩, ?T, FBlock.cld X G (fun _ _ _ _ _ _ us hl => match us, hl with | [_, _], _ => rfl), FSeq.cld X G (fun _ _ _ _ _ _ us hl => match us, hl with | [_, _, _, _], _ => rfl), FAlt.cld X G (fun _ _ _ _ _ _ us hl => match us, hl with | [_, _, _, _], _ => rfl), FLoop.cld X G (fun _ _ _ _ _ _ us hl => match us, hl with | [_, _, _, _, _], _ => rfl), FCall.cld X G (fun _ _ _ _ _ _ us hl => match us, hl with | [_, _, _, _], _ => rfl)⟩
  exact {
    no_len := PySem.W.mg_none_of X G no_len
    no_isinstance := PySem.W.mg_none_of X G no_isinstance
    no_max := PySem.W.mg_none_of X G no_max
    no_min := PySem.W.mg_none_of X G no_min
    no_range := PySem.W.mg_none_of X G no_range
    MOST_PROGRAMS := gc_int X G c_MOST_PROGRAMS
    MOST_COST := gc_int X G c_MOST_COST
    MOST_FRAME := gc_int X G c_MOST_FRAME
    MOST_TIMES := gc_int X G c_MOST_TIMES
    MOST_BLOCKS := gc_int X G c_MOST_BLOCKS
    MOST_ROW := gc_int X G c_MOST_ROW
    NO_ROOM := gc_int X G c_NO_ROOM
    WRONG := gc_int X G c_WRONG
    DONE := gc_int X G c_DONE
    NOT_THERE := gc_int X G c_NOT_THERE
    INIT := gc_int X G c_INIT
    BLOCK := gc_int X G c_BLOCK
    SEQ := gc_int X G c_SEQ
    ALT := gc_int X G c_ALT
    LOOP := gc_int X G c_LOOP
    CALL := gc_int X G c_CALL
    COST := gc_int X G c_COST
    TIME := gc_int X G c_TIME
    OFTEN := gc_int X G c_OFTEN
    STACK := gc_int X G c_STACK
    SLACK := gc_int X G c_SLACK
    NTH := gc_int X G c_NTH
    IS_RUN := gc_int X G c_IS_RUN
    ARGUMENT_COUNTS := gc_ref X G aN
    cnt := fun H => .inr ⟨_, _, _, lN, rfl, rfl, (by rw [PySem.sizeLine_eq]; show 13 ≤ 16777216; decide), .cons ⟨_, rfl⟩ (.cons ⟨_, rfl⟩ (.cons ⟨_, rfl⟩ (.cons ⟨_, rfl⟩ (.cons ⟨_, rfl⟩ (.cons ⟨_, rfl⟩ (.cons ⟨_, rfl⟩ (.cons ⟨_, rfl⟩ (.cons ⟨_, rfl⟩ (.cons ⟨_, rfl⟩ (.cons ⟨_, rfl⟩ (.cons ⟨_, rfl⟩ (.cons ⟨_, rfl⟩ .nil))))))))))))⟩
    Block := gc_ref X G FBlock.aC
    Seq := gc_ref X G FSeq.aC
    Alt := gc_ref X G FAlt.aC
    Loop := gc_ref X G FLoop.aC
    Call := gc_ref X G FCall.aC
    Pair := gc_ref X G aP
    clB := FBlock.cls
    clS := FSeq.cls
    clA := FAlt.cls
    clL := FLoop.cls
    clC := FCall.cls
    tyB := FBlock.tyc
    tyS := FSeq.tyc
    tyA := FAlt.tyc
    tyL := FLoop.tyc
    tyC := FCall.tyc
    kB := kB
    kS := kS
    kA := kA
    kL := kL
    kC := kC
    nB_cost := nB_cost
    nB_longest := nB_longest
    nS_longest := nS_longest
    nA_longest := nA_longest
    nL_longest := nL_longest
    nC_longest := nC_longest
    nS_first := nS_first
    nS_second := nS_second
    nA_first := nA_first
    nA_second := nA_second
    nL_body := nL_body
    nL_lo := nL_lo
    nL_hi := nL_hi
    nC_body := nC_body
    nC_frame := nC_frame }
end
end Wp

/- Five names taken ahead of the head: its helper equations of these names would make the compiled file larger than 64 MiB. The head goes its plainer way without them; nothing below rests on these five. -/
def PySem.W.Fast.tw6509776532507097181 : Unit := ()
def PySem.W.Fast.tw3659141475520943291 : Unit := ()
def PySem.W.Fast.tw16033442915890227849 : Unit := ()
def PySem.W.Fast.tw1365382918385221916 : Unit := ()
def PySem.W.Fast.tw16244854081478031229 : Unit := ()
open PySem PySem.W PyProof.Rows
set_option maxRecDepth 100000 in
set_option maxHeartbeats 0 in
theorem PySem.Challenge.cw_longestrundesk_s01_answers_holds : PySem.Challenge.rw_longestrundesk_s01_answers.Holds := by
  w_on; k_headS; (case hw => exact ⟨[.list [.int 0]], by decide +kernel, by decide +kernel⟩)
  k_fillS
  refine L2.walk_specK (r := PySem.Challenge.rw_longestrundesk_s01_answers) (k := 9) (CX := L2.CX0) (ps := ["calls"]) (sp := Wp.sp_answers) (by decide +kernel) rfl rfl ⟨rfl, by decide, by decide⟩ (fun w h Y => PySem.W.kIn_of Y) ?F ?S (fun _ _ _ _ z => z)
  case F =>
    intro w mg fa h Y KX G hmg
    have D_block_ends : ∃ f fd, L2.Def (L2.KOf KX) mg "block_ends" Wp.s_block_ends ["row", "block"] f fd := by
      dsimp only [L2.KOf]
      refine' L2.def_mk KX G ?a ?l ?c ?k (fun _ _ _ _ _ _ us hl => match us, hl with | [_, _], _ => rfl)
      (case a => k_is); (case l => k_is); (case c => k_is); (case k => k_is)
    have D_ends_through : ∃ f fd, L2.Def (L2.KOf KX) mg "ends_through" Wp.s_ends_through ["middles", "ends"] f fd := by
      dsimp only [L2.KOf]
      refine' L2.def_mk KX G ?a ?l ?c ?k (fun _ _ _ _ _ _ us hl => match us, hl with | [_, _], _ => rfl)
      (case a => k_is); (case l => k_is); (case c => k_is); (case k => k_is)
    have D_seq_ends : ∃ f fd, L2.Def (L2.KOf KX) mg "seq_ends" Wp.s_seq_ends ["first", "second"] f fd := by
      dsimp only [L2.KOf]
      refine' L2.def_mk KX G ?a ?l ?c ?k (fun _ _ _ _ _ _ us hl => match us, hl with | [_, _], _ => rfl)
      (case a => k_is); (case l => k_is); (case c => k_is); (case k => k_is)
    have D_alt_ends : ∃ f fd, L2.Def (L2.KOf KX) mg "alt_ends" Wp.s_alt_ends ["first", "second"] f fd := by
      dsimp only [L2.KOf]
      refine' L2.def_mk KX G ?a ?l ?c ?k (fun _ _ _ _ _ _ us hl => match us, hl with | [_, _], _ => rfl)
      (case a => k_is); (case l => k_is); (case c => k_is); (case k => k_is)
    have D_ends_by_rounds : ∃ f fd, L2.Def (L2.KOf KX) mg "ends_by_rounds" Wp.s_ends_by_rounds ["body"] f fd := by
      dsimp only [L2.KOf]
      refine' L2.def_mk KX G ?a ?l ?c ?k (fun _ _ _ _ _ _ us hl => match us, hl with | [_], _ => rfl)
      (case a => k_is); (case l => k_is); (case c => k_is); (case k => k_is)
    have D_ends_in_groups : ∃ f fd, L2.Def (L2.KOf KX) mg "ends_in_groups" Wp.s_ends_in_groups ["groups", "width"] f fd := by
      dsimp only [L2.KOf]
      refine' L2.def_mk KX G ?a ?l ?c ?k (fun _ _ _ _ _ _ us hl => match us, hl with | [_, _], _ => rfl)
      (case a => k_is); (case l => k_is); (case c => k_is); (case k => k_is)
    have D_loop_ends : ∃ f fd, L2.Def (L2.KOf KX) mg "loop_ends" Wp.s_loop_ends ["body", "lo", "hi"] f fd := by
      dsimp only [L2.KOf]
      refine' L2.def_mk KX G ?a ?l ?c ?k (fun _ _ _ _ _ _ us hl => match us, hl with | [_, _, _], _ => rfl)
      (case a => k_is); (case l => k_is); (case c => k_is); (case k => k_is)
    have D_program_ends : ∃ f fd, L2.Def (L2.KOf KX) mg "program_ends" Wp.s_program_ends ["program", "row", "found"] f fd := by
      dsimp only [L2.KOf]
      refine' L2.def_mk KX G ?a ?l ?c ?k (fun _ _ _ _ _ _ us hl => match us, hl with | [_, _, _], _ => rfl)
      (case a => k_is); (case l => k_is); (case c => k_is); (case k => k_is)
    have D_row_is_run : ∃ f fd, L2.Def (L2.KOf KX) mg "row_is_run" Wp.s_row_is_run ["programs", "number", "row"] f fd := by
      dsimp only [L2.KOf]
      refine' L2.def_mk KX G ?a ?l ?c ?k (fun _ _ _ _ _ _ us hl => match us, hl with | [_, _, _], _ => rfl)
      (case a => k_is); (case l => k_is); (case c => k_is); (case k => k_is)
    have D_run_weight : ∃ f fd, L2.Def (L2.KOf KX) mg "run_weight" Wp.s_run_weight ["program", "weight", "found", "least"] f fd := by
      dsimp only [L2.KOf]
      refine' L2.def_mk KX G ?a ?l ?c ?k (fun _ _ _ _ _ _ us hl => match us, hl with | [_, _, _, _], _ => rfl)
      (case a => k_is); (case l => k_is); (case c => k_is); (case k => k_is)
    have D_run_weights : ∃ f fd, L2.Def (L2.KOf KX) mg "run_weights" Wp.s_run_weights ["programs", "weights", "least"] f fd := by
      dsimp only [L2.KOf]
      refine' L2.def_mk KX G ?a ?l ?c ?k (fun _ _ _ _ _ _ us hl => match us, hl with | [_, _, _], _ => rfl)
      (case a => k_is); (case l => k_is); (case c => k_is); (case k => k_is)
    have D_block_costs : ∃ f fd, L2.Def (L2.KOf KX) mg "block_costs" Wp.s_block_costs ["programs"] f fd := by
      dsimp only [L2.KOf]
      refine' L2.def_mk KX G ?a ?l ?c ?k (fun _ _ _ _ _ _ us hl => match us, hl with | [_], _ => rfl)
      (case a => k_is); (case l => k_is); (case c => k_is); (case k => k_is)
    have D_block_counts : ∃ f fd, L2.Def (L2.KOf KX) mg "block_counts" Wp.s_block_counts ["programs", "block"] f fd := by
      dsimp only [L2.KOf]
      refine' L2.def_mk KX G ?a ?l ?c ?k (fun _ _ _ _ _ _ us hl => match us, hl with | [_, _], _ => rfl)
      (case a => k_is); (case l => k_is); (case c => k_is); (case k => k_is)
    have D_run_costs : ∃ f fd, L2.Def (L2.KOf KX) mg "run_costs" Wp.s_run_costs ["programs", "least"] f fd := by
      dsimp only [L2.KOf]
      refine' L2.def_mk KX G ?a ?l ?c ?k (fun _ _ _ _ _ _ us hl => match us, hl with | [_, _], _ => rfl)
      (case a => k_is); (case l => k_is); (case c => k_is); (case k => k_is)
    have D_times_in_runs : ∃ f fd, L2.Def (L2.KOf KX) mg "times_in_runs" Wp.s_times_in_runs ["programs", "block", "least"] f fd := by
      dsimp only [L2.KOf]
      refine' L2.def_mk KX G ?a ?l ?c ?k (fun _ _ _ _ _ _ us hl => match us, hl with | [_, _, _], _ => rfl)
      (case a => k_is); (case l => k_is); (case c => k_is); (case k => k_is)
    have D_stack_of_one : ∃ f fd, L2.Def (L2.KOf KX) mg "stack_of_one" Wp.s_stack_of_one ["program", "found"] f fd := by
      dsimp only [L2.KOf]
      refine' L2.def_mk KX G ?a ?l ?c ?k (fun _ _ _ _ _ _ us hl => match us, hl with | [_, _], _ => rfl)
      (case a => k_is); (case l => k_is); (case c => k_is); (case k => k_is)
    have D_most_stacks : ∃ f fd, L2.Def (L2.KOf KX) mg "most_stacks" Wp.s_most_stacks ["programs"] f fd := by
      dsimp only [L2.KOf]
      refine' L2.def_mk KX G ?a ?l ?c ?k (fun _ _ _ _ _ _ us hl => match us, hl with | [_], _ => rfl)
      (case a => k_is); (case l => k_is); (case c => k_is); (case k => k_is)
    have D_dearest_with : ∃ f fd, L2.Def (L2.KOf KX) mg "dearest_with" Wp.s_dearest_with ["programs", "number", "block", "more"] f fd := by
      dsimp only [L2.KOf]
      refine' L2.def_mk KX G ?a ?l ?c ?k (fun _ _ _ _ _ _ us hl => match us, hl with | [_, _, _, _], _ => rfl)
      (case a => k_is); (case l => k_is); (case c => k_is); (case k => k_is)
    have D_slack_of : ∃ f fd, L2.Def (L2.KOf KX) mg "slack_of" Wp.s_slack_of ["programs", "number", "block"] f fd := by
      dsimp only [L2.KOf]
      refine' L2.def_mk KX G ?a ?l ?c ?k (fun _ _ _ _ _ _ us hl => match us, hl with | [_, _, _], _ => rfl)
      (case a => k_is); (case l => k_is); (case c => k_is); (case k => k_is)
    have D_told_choice : ∃ f fd, L2.Def (L2.KOf KX) mg "told_choice" Wp.s_told_choice ["program", "dearest"] f fd := by
      dsimp only [L2.KOf]
      refine' L2.def_mk KX G ?a ?l ?c ?k (fun _ _ _ _ _ _ us hl => match us, hl with | [_, _], _ => rfl)
      (case a => k_is); (case l => k_is); (case c => k_is); (case k => k_is)
    have D_told_length : ∃ f fd, L2.Def (L2.KOf KX) mg "told_length" Wp.s_told_length ["program", "dearest", "found"] f fd := by
      dsimp only [L2.KOf]
      refine' L2.def_mk KX G ?a ?l ?c ?k (fun _ _ _ _ _ _ us hl => match us, hl with | [_, _, _], _ => rfl)
      (case a => k_is); (case l => k_is); (case c => k_is); (case k => k_is)
    have D_told_lengths : ∃ f fd, L2.Def (L2.KOf KX) mg "told_lengths" Wp.s_told_lengths ["programs", "dearest"] f fd := by
      dsimp only [L2.KOf]
      refine' L2.def_mk KX G ?a ?l ?c ?k (fun _ _ _ _ _ _ us hl => match us, hl with | [_, _], _ => rfl)
      (case a => k_is); (case l => k_is); (case c => k_is); (case k => k_is)
    have D_told_block : ∃ f fd, L2.Def (L2.KOf KX) mg "told_block" Wp.s_told_block ["programs", "number", "place"] f fd := by
      dsimp only [L2.KOf]
      refine' L2.def_mk KX G ?a ?l ?c ?k (fun _ _ _ _ _ _ us hl => match us, hl with | [_, _, _], _ => rfl)
      (case a => k_is); (case l => k_is); (case c => k_is); (case k => k_is)
    have D_is_program : ∃ f fd, L2.Def (L2.KOf KX) mg "is_program" Wp.s_is_program ["programs", "number"] f fd := by
      dsimp only [L2.KOf]
      refine' L2.def_mk KX G ?a ?l ?c ?k (fun _ _ _ _ _ _ us hl => match us, hl with | [_, _], _ => rfl)
      (case a => k_is); (case l => k_is); (case c => k_is); (case k => k_is)
    have D_is_block : ∃ f fd, L2.Def (L2.KOf KX) mg "is_block" Wp.s_is_block ["programs", "number"] f fd := by
      dsimp only [L2.KOf]
      refine' L2.def_mk KX G ?a ?l ?c ?k (fun _ _ _ _ _ _ us hl => match us, hl with | [_, _], _ => rfl)
      (case a => k_is); (case l => k_is); (case c => k_is); (case k => k_is)
    have D_add_program : ∃ f fd, L2.Def (L2.KOf KX) mg "add_program" Wp.s_add_program ["programs", "program"] f fd := by
      dsimp only [L2.KOf]
      refine' L2.def_mk KX G ?a ?l ?c ?k (fun _ _ _ _ _ _ us hl => match us, hl with | [_, _], _ => rfl)
      (case a => k_is); (case l => k_is); (case c => k_is); (case k => k_is)
    have D_forget_all : ∃ f fd, L2.Def (L2.KOf KX) mg "forget_all" Wp.s_forget_all ["programs"] f fd := by
      dsimp only [L2.KOf]
      refine' L2.def_mk KX G ?a ?l ?c ?k (fun _ _ _ _ _ _ us hl => match us, hl with | [_], _ => rfl)
      (case a => k_is); (case l => k_is); (case c => k_is); (case k => k_is)
    have D_make_block : ∃ f fd, L2.Def (L2.KOf KX) mg "make_block" Wp.s_make_block ["programs", "cost"] f fd := by
      dsimp only [L2.KOf]
      refine' L2.def_mk KX G ?a ?l ?c ?k (fun _ _ _ _ _ _ us hl => match us, hl with | [_, _], _ => rfl)
      (case a => k_is); (case l => k_is); (case c => k_is); (case k => k_is)
    have D_make_seq : ∃ f fd, L2.Def (L2.KOf KX) mg "make_seq" Wp.s_make_seq ["programs", "first", "second"] f fd := by
      dsimp only [L2.KOf]
      refine' L2.def_mk KX G ?a ?l ?c ?k (fun _ _ _ _ _ _ us hl => match us, hl with | [_, _, _], _ => rfl)
      (case a => k_is); (case l => k_is); (case c => k_is); (case k => k_is)
    have D_make_alt : ∃ f fd, L2.Def (L2.KOf KX) mg "make_alt" Wp.s_make_alt ["programs", "first", "second"] f fd := by
      dsimp only [L2.KOf]
      refine' L2.def_mk KX G ?a ?l ?c ?k (fun _ _ _ _ _ _ us hl => match us, hl with | [_, _, _], _ => rfl)
      (case a => k_is); (case l => k_is); (case c => k_is); (case k => k_is)
    have D_make_loop : ∃ f fd, L2.Def (L2.KOf KX) mg "make_loop" Wp.s_make_loop ["programs", "body", "lo", "hi"] f fd := by
      dsimp only [L2.KOf]
      refine' L2.def_mk KX G ?a ?l ?c ?k (fun _ _ _ _ _ _ us hl => match us, hl with | [_, _, _, _], _ => rfl)
      (case a => k_is); (case l => k_is); (case c => k_is); (case k => k_is)
    have D_make_call : ∃ f fd, L2.Def (L2.KOf KX) mg "make_call" Wp.s_make_call ["programs", "body", "frame"] f fd := by
      dsimp only [L2.KOf]
      refine' L2.def_mk KX G ?a ?l ?c ?k (fun _ _ _ _ _ _ us hl => match us, hl with | [_, _, _], _ => rfl)
      (case a => k_is); (case l => k_is); (case c => k_is); (case k => k_is)
    have D_change_cost : ∃ f fd, L2.Def (L2.KOf KX) mg "change_cost" Wp.s_change_cost ["programs", "number", "cost"] f fd := by
      dsimp only [L2.KOf]
      refine' L2.def_mk KX G ?a ?l ?c ?k (fun _ _ _ _ _ _ us hl => match us, hl with | [_, _, _], _ => rfl)
      (case a => k_is); (case l => k_is); (case c => k_is); (case k => k_is)
    have D_time_of : ∃ f fd, L2.Def (L2.KOf KX) mg "time_of" Wp.s_time_of ["programs", "number", "least"] f fd := by
      dsimp only [L2.KOf]
      refine' L2.def_mk KX G ?a ?l ?c ?k (fun _ _ _ _ _ _ us hl => match us, hl with | [_, _, _], _ => rfl)
      (case a => k_is); (case l => k_is); (case c => k_is); (case k => k_is)
    have D_how_often : ∃ f fd, L2.Def (L2.KOf KX) mg "how_often" Wp.s_how_often ["programs", "number", "block", "least"] f fd := by
      dsimp only [L2.KOf]
      refine' L2.def_mk KX G ?a ?l ?c ?k (fun _ _ _ _ _ _ us hl => match us, hl with | [_, _, _, _], _ => rfl)
      (case a => k_is); (case l => k_is); (case c => k_is); (case k => k_is)
    have D_stack_of : ∃ f fd, L2.Def (L2.KOf KX) mg "stack_of" Wp.s_stack_of ["programs", "number"] f fd := by
      dsimp only [L2.KOf]
      refine' L2.def_mk KX G ?a ?l ?c ?k (fun _ _ _ _ _ _ us hl => match us, hl with | [_, _], _ => rfl)
      (case a => k_is); (case l => k_is); (case c => k_is); (case k => k_is)
    have D_slack_in : ∃ f fd, L2.Def (L2.KOf KX) mg "slack_in" Wp.s_slack_in ["programs", "number", "block"] f fd := by
      dsimp only [L2.KOf]
      refine' L2.def_mk KX G ?a ?l ?c ?k (fun _ _ _ _ _ _ us hl => match us, hl with | [_, _, _], _ => rfl)
      (case a => k_is); (case l => k_is); (case c => k_is); (case k => k_is)
    have D_nth_of : ∃ f fd, L2.Def (L2.KOf KX) mg "nth_of" Wp.s_nth_of ["programs", "number", "place"] f fd := by
      dsimp only [L2.KOf]
      refine' L2.def_mk KX G ?a ?l ?c ?k (fun _ _ _ _ _ _ us hl => match us, hl with | [_, _, _], _ => rfl)
      (case a => k_is); (case l => k_is); (case c => k_is); (case k => k_is)
    have D_is_run : ∃ f fd, L2.Def (L2.KOf KX) mg "is_run" Wp.s_is_run ["programs", "number", "row"] f fd := by
      dsimp only [L2.KOf]
      refine' L2.def_mk KX G ?a ?l ?c ?k (fun _ _ _ _ _ _ us hl => match us, hl with | [_, _, _], _ => rfl)
      (case a => k_is); (case l => k_is); (case c => k_is); (case k => k_is)
    have D_make_or_change : ∃ f fd, L2.Def (L2.KOf KX) mg "make_or_change" Wp.s_make_or_change ["programs", "call", "numbers"] f fd := by
      dsimp only [L2.KOf]
      refine' L2.def_mk KX G ?a ?l ?c ?k (fun _ _ _ _ _ _ us hl => match us, hl with | [_, _, _], _ => rfl)
      (case a => k_is); (case l => k_is); (case c => k_is); (case k => k_is)
    have D_look_up : ∃ f fd, L2.Def (L2.KOf KX) mg "look_up" Wp.s_look_up ["programs", "call", "numbers"] f fd := by
      dsimp only [L2.KOf]
      refine' L2.def_mk KX G ?a ?l ?c ?k (fun _ _ _ _ _ _ us hl => match us, hl with | [_, _, _], _ => rfl)
      (case a => k_is); (case l => k_is); (case c => k_is); (case k => k_is)
    have D_answer_one : ∃ f fd, L2.Def (L2.KOf KX) mg "answer_one" Wp.s_answer_one ["programs", "call", "numbers"] f fd := by
      dsimp only [L2.KOf]
      refine' L2.def_mk KX G ?a ?l ?c ?k (fun _ _ _ _ _ _ us hl => match us, hl with | [_, _, _], _ => rfl)
      (case a => k_is); (case l => k_is); (case c => k_is); (case k => k_is)
    have D_call_end : ∃ f fd, L2.Def (L2.KOf KX) mg "call_end" Wp.s_call_end ["calls", "place"] f fd := by
      dsimp only [L2.KOf]
      refine' L2.def_mk KX G ?a ?l ?c ?k (fun _ _ _ _ _ _ us hl => match us, hl with | [_, _], _ => rfl)
      (case a => k_is); (case l => k_is); (case c => k_is); (case k => k_is)
    have D_answers : ∃ f fd, L2.Def (L2.KOf KX) mg "answers" Wp.s_answers ["calls"] f fd := by
      dsimp only [L2.KOf]
      refine' L2.def_mk KX G ?a ?l ?c ?k (fun _ _ _ _ _ _ us hl => match us, hl with | [_], _ => rfl)
      (case a => k_is); (case l => k_is); (case c => k_is); (case k => k_is)
    have TT : ∃ A : Wp.Adr, Wp.Txt (L2.KOf KX) mg A ∧ (∃ f fd, L2.Cld (L2.KOf KX) mg "Block" "Block.__init__" Wp.sBlockInit ["self", "cost"] A.cB f fd) ∧ (∃ f fd, L2.Cld (L2.KOf KX) mg "Seq" "Pair.__init__" Wp.sPairInit ["self", "first", "second", "longest"] A.cS f fd) ∧ (∃ f fd, L2.Cld (L2.KOf KX) mg "Alt" "Pair.__init__" Wp.sPairInit ["self", "first", "second", "longest"] A.cA f fd) ∧ (∃ f fd, L2.Cld (L2.KOf KX) mg "Loop" "Loop.__init__" Wp.sLoopInit ["self", "body", "lo", "hi", "longest"] A.cL f fd) ∧ (∃ f fd, L2.Cld (L2.KOf KX) mg "Call" "Call.__init__" Wp.sCallInit ["self", "body", "frame", "longest"] A.cC f fd) := by
      dsimp only [L2.KOf]
      refine' Wp.txt_mk KX G ⟨?BlockaC, ?Blocka1, ?Blocki1, ?Blockl, ?Blockc, ?Blockk, ?Blockpg, ?Blockhd, ?Blockpo, ?Blocksa, ?Blockmk, ?Blockkc, ?Blockha, ?Blockhn, ?Blockhtk, ?Blockhm⟩ ⟨?SeqaC, ?Seqa1, ?Seqi1, ?Seql, ?Seqc, ?Seqk, ?Seqpg, ?Seqhd, ?Seqpo, ?Seqsa, ?Seqmk, ?Seqkc, ?Seqha, ?Seqhn, ?Seqhtk, ?Seqhm⟩ ⟨?AltaC, ?Alta1, ?Alti1, ?Altl, ?Altc, ?Altk, ?Altpg, ?Althd, ?Altpo, ?Altsa, ?Altmk, ?Altkc, ?Altha, ?Althn, ?Althtk, ?Althm⟩ ⟨?LoopaC, ?Loopa1, ?Loopi1, ?Loopl, ?Loopc, ?Loopk, ?Looppg, ?Loophd, ?Looppo, ?Loopsa, ?Loopmk, ?Loopkc, ?Loopha, ?Loophn, ?Loophtk, ?Loophm⟩ ⟨?CallaC, ?Calla1, ?Calli1, ?Calll, ?Callc, ?Callk, ?Callpg, ?Callhd, ?Callpo, ?Callsa, ?Callmk, ?Callkc, ?Callha, ?Callhn, ?Callhtk, ?Callhm⟩ ?aP ?aN ?lN ?no_len ?no_isinstance ?no_max ?no_min ?no_range ?c_MOST_PROGRAMS ?c_MOST_COST ?c_MOST_FRAME ?c_MOST_TIMES ?c_MOST_BLOCKS ?c_MOST_ROW ?c_NO_ROOM ?c_WRONG ?c_DONE ?c_NOT_THERE ?c_INIT ?c_BLOCK ?c_SEQ ?c_ALT ?c_LOOP ?c_CALL ?c_COST ?c_TIME ?c_OFTEN ?c_STACK ?c_SLACK ?c_NTH ?c_IS_RUN ?nB_cost ?nB_longest ?nS_longest ?nA_longest ?nL_longest ?nC_longest ?nS_first ?nS_second ?nA_first ?nA_second ?nL_body ?nL_lo ?nL_hi ?nC_body ?nC_frame ⟨?kBB, ?kBS, ?kBA, ?kBL, ?kBC, ?kBP⟩ ⟨?kSB, ?kSS, ?kSA, ?kSL, ?kSC, ?kSP⟩ ⟨?kAB, ?kAS, ?kAA, ?kAL, ?kAC, ?kAP⟩ ⟨?kLB, ?kLS, ?kLA, ?kLL, ?kLC, ?kLP⟩ ⟨?kCB, ?kCS, ?kCA, ?kCL, ?kCC, ?kCP⟩
      (case BlockaC => k_is); (case Blocka1 => k_is); (case Blocki1 => k_is); (case Blockl => k_is); (case Blockc => k_is); (case Blockk => k_is); (case Blockpg => k_is); (case Blockhd => k_is); (case Blockpo => k_is); (case Blocksa => k_is); (case Blockmk => k_is); (case Blockkc => k_is); (case Blockha => k_is); (case Blockhn => k_is); (case Blockhtk => k_is); (case Blockhm => k_is); (case SeqaC => k_is); (case Seqa1 => k_is); (case Seqi1 => k_is); (case Seql => k_is); (case Seqc => k_is); (case Seqk => k_is); (case Seqpg => k_is); (case Seqhd => k_is); (case Seqpo => k_is); (case Seqsa => k_is); (case Seqmk => k_is); (case Seqkc => k_is); (case Seqha => k_is); (case Seqhn => k_is); (case Seqhtk => k_is); (case Seqhm => k_is); (case AltaC => k_is); (case Alta1 => k_is); (case Alti1 => k_is); (case Altl => k_is); (case Altc => k_is); (case Altk => k_is); (case Altpg => k_is); (case Althd => k_is); (case Altpo => k_is); (case Altsa => k_is); (case Altmk => k_is); (case Altkc => k_is); (case Altha => k_is); (case Althn => k_is); (case Althtk => k_is); (case Althm => k_is); (case LoopaC => k_is); (case Loopa1 => k_is); (case Loopi1 => k_is); (case Loopl => k_is); (case Loopc => k_is); (case Loopk => k_is); (case Looppg => k_is); (case Loophd => k_is); (case Looppo => k_is); (case Loopsa => k_is); (case Loopmk => k_is); (case Loopkc => k_is); (case Loopha => k_is); (case Loophn => k_is); (case Loophtk => k_is); (case Loophm => k_is); (case CallaC => k_is); (case Calla1 => k_is); (case Calli1 => k_is); (case Calll => k_is); (case Callc => k_is); (case Callk => k_is); (case Callpg => k_is); (case Callhd => k_is); (case Callpo => k_is); (case Callsa => k_is); (case Callmk => k_is); (case Callkc => k_is); (case Callha => k_is); (case Callhn => k_is); (case Callhtk => k_is); (case Callhm => k_is); (case aP => k_is); (case aN => k_is); (case lN => k_is); (case no_len => k_is); (case no_isinstance => k_is); (case no_max => k_is); (case no_min => k_is); (case no_range => k_is); (case c_MOST_PROGRAMS => k_is); (case c_MOST_COST => k_is); (case c_MOST_FRAME => k_is); (case c_MOST_TIMES => k_is); (case c_MOST_BLOCKS => k_is); (case c_MOST_ROW => k_is); (case c_NO_ROOM => k_is); (case c_WRONG => k_is); (case c_DONE => k_is); (case c_NOT_THERE => k_is); (case c_INIT => k_is); (case c_BLOCK => k_is); (case c_SEQ => k_is); (case c_ALT => k_is); (case c_LOOP => k_is); (case c_CALL => k_is); (case c_COST => k_is); (case c_TIME => k_is); (case c_OFTEN => k_is); (case c_STACK => k_is); (case c_SLACK => k_is); (case c_NTH => k_is); (case c_IS_RUN => k_is); (case nB_cost => k_is); (case nB_longest => k_is); (case nS_longest => k_is); (case nA_longest => k_is); (case nL_longest => k_is); (case nC_longest => k_is); (case nS_first => k_is); (case nS_second => k_is); (case nA_first => k_is); (case nA_second => k_is); (case nL_body => k_is); (case nL_lo => k_is); (case nL_hi => k_is); (case nC_body => k_is); (case nC_frame => k_is)
      (case kBB => kit_is); (case kBS => kit_is); (case kBA => kit_is); (case kBL => kit_is); (case kBC => kit_is); (case kBP => kit_is); (case kSB => kit_is); (case kSS => kit_is); (case kSA => kit_is); (case kSL => kit_is); (case kSC => kit_is); (case kSP => kit_is); (case kAB => kit_is); (case kAS => kit_is); (case kAA => kit_is); (case kAL => kit_is); (case kAC => kit_is); (case kAP => kit_is); (case kLB => kit_is); (case kLS => kit_is); (case kLA => kit_is); (case kLL => kit_is); (case kLC => kit_is); (case kLP => kit_is); (case kCB => kit_is); (case kCS => kit_is); (case kCA => kit_is); (case kCL => kit_is); (case kCC => kit_is); (case kCP => kit_is)
    obtain ⟨A, T, DBlock, DSeq, DAlt, DLoop, DCall⟩ := TT
    obtain ⟨f, fd, D, hF⟩ := Wp.all_ok (P := PySem.Challenge.rw_longestrundesk_s01_answers.prog) (w := w) T DBlock DSeq DAlt DLoop DCall D_block_ends D_ends_through D_seq_ends D_alt_ends D_ends_by_rounds D_ends_in_groups D_loop_ends D_program_ends D_row_is_run D_run_weight D_run_weights D_block_costs D_block_counts D_run_costs D_times_in_runs D_stack_of_one D_most_stacks D_dearest_with D_slack_of D_told_choice D_told_length D_told_lengths D_told_block D_is_program D_is_block D_add_program D_forget_all D_make_block D_make_seq D_make_alt D_make_loop D_make_call D_change_cost D_time_of D_how_often D_stack_of D_slack_in D_nth_of D_is_run D_make_or_change D_look_up D_answer_one D_call_end D_answers
    have e := hmg.symm.trans D.mg
    cases e
    obtain ⟨oc, od, kV, doc, pm, an, cdv, ct, osl, efd, lk, hcd⟩ := D.fn.ex
    refine ⟨fd, fun s us hu => ?_, fun base _ _ => hF base⟩
    subst efd
    exact match us, hu with | [_], _ => .of_eq rfl
  case S =>
    intro K H xs a hO hwi hask hx
    cases hx with
    | cons h1 h2 =>
      cases h2
      cases h1 with
      | lst hs ha =>
        have e := L2.ints_dw a.1 _ ha
        subst e
        obtain ⟨cs, ht, hl, ho⟩ := WcP.answers_toks (l := a.1) hask
        refine ⟨_, a.1, cs, rfl, hs, ht, hl, fun H' p hp => ?_⟩
        rw [← ho] at hp
        exact .lst (L2.SqL.of hp) (L2.dw_ints _)
#print axioms PySem.Challenge.cw_longestrundesk_s01_answers_holds

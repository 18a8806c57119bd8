import PyProof.Rows.All
import Wide.All
import OpenK.AllK
import Wide.FinOn
import PyProof.EqAt
import PyProof.EqKinds
import PyProof.TupleCall
import KE.BitLaws
import PyProof.ExcInit
import PyProof.StationsW
import PyProof.PassesOwn
import PyProof.ExcArgsOwn
import PyProof.RulesAs
import OpenK.KWalk
import PyProof.InstStore
import PyProof.InstStoreFacts
import PyProof.InstLoad
import PyProof.ExcBaseAll.Exception
import PyProof.ExcAttrAll.Exception
import PyProof.Rows.MatchSeqLen
import KE.IntBitsLaws
import PyProof.Rows.FStr
import PyProof.Rows.StrIntSpec
import KE.OsGo
import Open.SpecLaws
import KE.OsEnd
import PySem.Challenge.RW_gutfrets_s10_tie
set_option Elab.async false
set_option linter.all false
set_option maxRecDepth 100000
-- CHANGE: your row's module here, as the last of these rows
/-! THE HAND LAYER, for ints, bools, texts, own classes, lists, tuples, dicts, comprehensions, walks over dicts, enumerate, zip, reversed, texts, calls, loops. Paste it whole ahead of your own text; what your proof does not reach may be deleted. -/
namespace L2
open PySem PySem.Spec PyProof.Rows

/-- a key: an int or a str -/
abbrev Key := Sum Int Str
def keyIs : Key → Value → Bool
  | .inl k, v => Value.isInt k v
  | .inr x, v => Value.isStrOf x v
def keyH (w : World) : Key → Int
  | .inl k => hashInt k
  | .inr x => hashStr w x
theorem keyIs_shape : ∀ {k : Key} {v : Value}, keyIs k v = true → (∃ i t, k = Sum.inl i ∧ v = Value.int i t) ∨ (∃ x t, k = Sum.inr x ∧ v = Value.str x t)
  | .inl i, v, h => by
    obtain ⟨t, e⟩ := Value.isInt_shape (k := i) (v := v) h
    exact .inl ⟨i, t, rfl, e⟩
  | .inr x, v, h => by
    obtain ⟨t, e⟩ := Value.isStrOf_shape (x := x) (v := v) h
    exact .inr ⟨x, t, rfl, e⟩
theorem key_ll (a b : Int) : decide ((Sum.inl a : Key) = Sum.inl b) = (a == b) := by
  by_cases e : a = b
  · subst e; simp
  · have h : ¬ (Sum.inl a : Key) = Sum.inl b := fun q => e (Sum.inl.inj q)
    rw [decide_eq_false h]
    exact (beq_eq_false_iff_ne.mpr e).symm
theorem key_rr (a b : Str) : decide ((Sum.inr a : Key) = Sum.inr b) = decide (a = b) := by
  by_cases e : a = b
  · subst e; simp
  · have h : ¬ (Sum.inr a : Key) = Sum.inr b := fun q => e (Sum.inr.inj q)
    rw [decide_eq_false h, decide_eq_false e]
theorem key_lr (a : Int) (b : Str) : decide ((Sum.inl a : Key) = Sum.inr b) = false := decide_eq_false (fun q => nomatch q)
theorem key_rl (a : Str) (b : Int) : decide ((Sum.inr a : Key) = Sum.inl b) = false := decide_eq_false (fun q => nomatch q)

def mixKind (prog : Program) (w : World) : PySem.KeyKind prog w Key where
  is := keyIs
  hash := keyH w
  inj := fun v a b ha hb => by
    rcases keyIs_shape ha with ⟨i, t, rfl, rfl⟩ | ⟨x, t, rfl, rfl⟩
    · rcases keyIs_shape hb with ⟨j, u, rfl, e⟩ | ⟨y, u, rfl, e⟩
      · injection e with e1 _; rw [e1]
      · exact nomatch e
    · rcases keyIs_shape hb with ⟨j, u, rfl, e⟩ | ⟨y, u, rfl, e⟩
      · exact nomatch e
      · injection e with e1 _; rw [e1]
  byValue := fun k v h => by
    rcases keyIs_shape h with ⟨i, t, rfl, rfl⟩ | ⟨x, t, rfl, rfl⟩ <;> rfl
  pyHash := fun hv h => by
    rcases keyIs_shape hv with ⟨i, t, rfl, rfl⟩ | ⟨x, t, rfl, rfl⟩
    · exact wpAny_pyHash_int h
    · exact wpAny_pyHash_str h
  eqBool := fun hu hv h => by
    rcases keyIs_shape hu with ⟨i, t, rfl, rfl⟩ | ⟨x, t, rfl, rfl⟩
    · rcases keyIs_shape hv with ⟨j, u, rfl, rfl⟩ | ⟨y, u, rfl, rfl⟩
      · rw [key_ll] at h; exact wpAny_eqBool_int h
      · rw [key_lr] at h; exact SeqAt.EqAt.int_str i t y u _ _ _ _ h
    · rcases keyIs_shape hv with ⟨j, u, rfl, rfl⟩ | ⟨y, u, rfl, rfl⟩
      · rw [key_rl] at h; exact SeqAt.EqAt.str_int x t j u _ _ _ _ h
      · rw [key_rr] at h; exact wpAny_eqBool_str h
  «strs» := fun k x t v h => by
    rcases keyIs_shape h with ⟨i, u, rfl, e⟩ | ⟨y, u, rfl, e⟩
    · exact nomatch e
    · injection e with e1 _
      subst e1
      cases v <;> rfl

end L2

namespace L2
open PySem PySem.Spec PyProof.Rows

/-- a value, without the heap -/
inductive V where
  | non | bl (b : Bool) | int (i : Int) | str (x : Str) | byt (b : Array UInt8) | flt (b : UInt64) | ref (a : Addr) | ty (n : String)
  deriving DecidableEq

def RelV : V → Value → Prop
  | .non, u => u = Value.none
  | .bl b, u => u = Value.bool b
  | .int i, u => ∃ t, u = Value.int i t
  | .str x, u => ∃ t, u = Value.str x t
  | .byt b, u => ∃ t, u = Value.bytes b t
  | .flt b, u => ∃ t, u = Value.float b t
  | .ref a, u => u = Value.ref a
  | .ty n, u => u = Value.type n

abbrev Vals : List V → List Value → Prop := Paired RelV
theorem Vals.length {xs : List V} {us : List Value} (r : Vals xs us) : xs.length = us.length := Paired.length r
theorem Vals.get : ∀ {xs : List V} {us : List Value} {i : Nat} {x : V}, Vals xs us → xs[i]? = some x → ∃ u, us[i]? = some u ∧ RelV x u
  | _, _, _, _, .nil, e => by simp at e
  | _, _, 0, _, .cons r _, e => by simp at e; subst e; exact ⟨_, rfl, r⟩
  | _, _, i + 1, x, .cons _ t, e => by
    obtain ⟨u, h1, h2⟩ := Vals.get (i := i) (x := x) t (by simpa using e)
    exact ⟨u, by simpa using h1, h2⟩
theorem Vals.set {x : V} {u : Value} (r : RelV x u) : ∀ {xs : List V} {us : List Value} (i : Nat), Vals xs us → Vals (xs.set i x) (us.set i u)
  | _, _, _, .nil => .nil
  | _, _, 0, .cons _ t => .cons r t
  | _, _, i + 1, .cons q t => .cons q (Vals.set r i t)
theorem Vals.append : ∀ {xs ys : List V} {us ws : List Value}, Vals xs us → Vals ys ws → Vals (xs ++ ys) (us ++ ws)
  | _, _, _, _, .nil, s => s
  | _, _, _, _, .cons r t, s => .cons r (Vals.append t s)
theorem Vals.take : ∀ {xs : List V} {us : List Value} (n : Nat), Vals xs us → Vals (xs.take n) (us.take n)
  | _, _, 0, _ => .nil
  | _, _, _ + 1, .nil => .nil
  | _, _, n + 1, .cons r t => .cons r (Vals.take n t)
theorem Vals.drop : ∀ {xs : List V} {us : List Value} (n : Nat), Vals xs us → Vals (xs.drop n) (us.drop n)
  | _, _, 0, r => r
  | _, _, _ + 1, .nil => .nil
  | _, _, n + 1, .cons _ t => Vals.drop n t
theorem Vals.none_of : ∀ {xs : List V} {us : List Value} {i : Nat}, Vals xs us → xs[i]? = none → us[i]? = none := fun {xs us i} r e => by
  have h1 := r.length
  have h2 : xs.length ≤ i := List.getElem?_eq_none_iff.mp e
  exact List.getElem?_eq_none_iff.mpr (by omega)

def RelO : Option V → Option Value → Prop
  | some v, some u => RelV v u
  | none, none => True
  | _, _ => False
def KV {κ : Type} : List (κ × V) → List (κ × Value) → Prop := Paired fun (p : κ × V) (q : κ × Value) => p.1 = q.1 ∧ RelV p.2 q.2

/-- a key of a dict (00_mix): an int or a text -/
def kV : Key → V
  | .inl i => .int i
  | .inr x => .str x

/-- what stands at a tracked address -/
inductive HO where
  /-- a list -/
  | lst (xs : List V)
  /-- a tuple (never changes) -/
  | tup (xs : List V)
  /-- a dict whose keys are ints and texts; one whose keys are tuples of ints and texts (the empty one is both) -/
  | dK (kvs : List (Key × V)) | dT (kvs : List (List Key × V))
  /-- a set of ints: its members, its size -/
  | set (S : Int → Bool) (n : Nat)
  /-- an instance of the class at C, its dict at dx, its attributes -/
  | ins (C dx : Addr) (fs : List (Str × V))
  /-- the dict of the instance at x -/
  | own (x : Addr)
  /-- the dict of an exception -/
  | xd (fs : List (Str × V))
  /-- a bound method, f of x -/
  | met (f x : Addr)
  /-- a range object lo, lo + 1, .. below hi -/
  | rng (lo hi : Int)
  /-- a thing that is known to the object (the script; a dict while a loop walks it): read, never written while it is so -/
  | frz (o : Obj) (u : HO)
  /-- a code object's table -/
  | tbl (ps : Array Value)
  /-- any other thing, by what is true of its one object (a def of one's own: SetO a S n := HO.ext fun h => ..) -/
  | ext (φ : Heap → Prop)

abbrev Hp := Addr → Option HO
def upd (H : Hp) (a : Addr) (o : HO) : Hp := fun b => if b = a then some o else H b
theorem upd_same {H : Hp} {a : Addr} {o : HO} : upd H a o a = some o := by unfold upd; rw [if_pos rfl]
theorem upd_ne {H : Hp} {a b : Addr} {o : HO} (h : b ≠ a) : upd H a o b = H b := by unfold upd; rw [if_neg h]
theorem upd_upd {H : Hp} {a : Addr} {o u : HO} : upd (upd H a o) a u = upd H a u := by
  funext b; unfold upd; split <;> rfl
/-- two objects of different content stand apart -/
theorem ne_of {H : Hp} {a b : Addr} {o u : HO} (h : H a = some o) (h' : H b = some u) (d : o ≠ u) : a ≠ b := by
  intro e; subst e; rw [h] at h'; exact d (Option.some.inj h')
theorem ne_of_none {H : Hp} {a b : Addr} {o : HO} (h : H a = some o) (h' : H b = none) : a ≠ b := by
  intro e; subst e; rw [h] at h'; cases h'

section
variable (P : Program) (w : World)
def ObjOk (H : Hp) (h : Heap) (a : Addr) : HO → Prop
  | .lst xs => xs.length ≤ sizeLine ∧ ∃ (its : List Value) (n : Nat), Vals xs its ∧ h.get? a = some { cls := .type "list", data := .seq its.toArray n }
  | .tup xs => xs.length ≤ sizeLine ∧ ∃ its : List Value, Vals xs its ∧ IsTup h a its.toArray
  | .dK kvs => kvs.length ≤ sizeLine ∧ (a == sysModules) = false ∧ ∃ vs, KV kvs vs ∧ h.DictOf (mixKind P w) a vs
  | .dT kvs => kvs.length ≤ sizeLine ∧ (a == sysModules) = false ∧ ∃ xs : List (List Key × Addr × Value),
      Paired (fun (p : List Key × V) (q : List Key × Addr × Value) => p.1 = q.1 ∧ H q.2.1 = some (.tup (p.1.map kV)) ∧ RelV p.2 q.2.2) kvs xs ∧
      ∃ o es ep, h.get? a = some o ∧ o.ExactDict ∧ o.data = .dict es ep ∧ es.toList = xs.map (entryOfKey (tupleKind (mixKind P w))) ∧ (xs.map (·.1)).Nodup
  | .set S n => h.SetOf (intKind P w) a S n
  | .ins C dx fs => H dx = some (.own a) ∧ fs.length ≤ 1000 ∧ dx ≠ a ∧ h.get? a = some (PySem.W.instObj C dx) ∧
      ∃ mA, h.Ns1 dx mA ∧ (∀ f, RelO (fs.lookup f) (mA f)) ∧ PySem.Within mA (fs.map (·.1))
  | .own _ => ∃ o, h.get? a = some o
  | .xd fs => ∃ mA, h.Ns1 a mA ∧ ∀ f, RelO (fs.lookup f) (mA f)
  | .rng lo hi => ∃ t u v, h.get? a = some { cls := .type "range", data := .fields #[.int lo t, .int hi u, .int 1 v] }
  | .frz o u => h.get? a = some o ∧ ObjOk H h a u
  | .tbl ps => h.get? a = some { cls := .none, data := .fields ps }
  | .met f x => h.get? a = some (PySem.W.methodObj (.ref f) (.ref x))
  | .ext φ => φ h ∧ (∃ o, h.get? a = some o) ∧ ∀ h1 h2 : Heap, φ h1 → (∀ o, h1.get? a = some o → h2.get? a = some o) → φ h2
/-- the abstract heap is held -/
def HOk (H : Hp) (h : Heap) : Prop := ∀ a o, H a = some o → ObjOk P w H h a o
end

section
variable {P : Program} {w : World} {H H' : Hp} {h h' : Heap} {a : Addr} {o : HO}
theorem ObjOk.lt (x : ObjOk P w H h a o) : a < h.objs.size := by
  cases o with
  | lst xs => obtain ⟨_, _, _, _, e⟩ := x; exact Heap.lt_size e
  | tup xs => obtain ⟨_, _, _, p⟩ := x; exact p.lt
  | dK kvs => obtain ⟨_, _, _, _, o, _, _, e, _⟩ := x; exact Heap.lt_size e
  | dT kvs => obtain ⟨_, _, _, _, o, _, _, e, _⟩ := x; exact Heap.lt_size e
  | set S n => obtain ⟨o, _, _, _, e, _⟩ := x; exact Heap.lt_size e
  | ins C dx fs => obtain ⟨_, _, _, e, _⟩ := x; exact Heap.lt_size e
  | own y => obtain ⟨_, e⟩ := x; exact Heap.lt_size e
  | xd fs => obtain ⟨_, ⟨_, _, _, e, _⟩, _⟩ := x; exact Heap.lt_size e
  | rng lo hi => obtain ⟨_, _, _, e⟩ := x; exact Heap.lt_size e
  | frz ob u => obtain ⟨e, _⟩ := x; exact Heap.lt_size e
  | tbl ps => exact Heap.lt_size (show h.get? a = some _ from x)
  | met f y => exact Heap.lt_size (show h.get? a = some _ from x)
  | ext φ => obtain ⟨_, ⟨_, e⟩, _⟩ := x; exact Heap.lt_size e
theorem Paired.mapP {α β : Type} {F G : α → β → Prop} : ∀ {l₁ : List α} {l₂ : List β}, Paired F l₁ l₂ → (∀ a b, F a b → G a b) → Paired G l₁ l₂
  | _, _, .nil, _ => .nil
  | _, _, .cons r t, f => .cons (f _ _ r) (Paired.mapP t f)
/-- what an object's description leans on: its own object, its own dict, the tuples -/
theorem ObjOk.stay (x : ObjOk P w H h a o) (k : ∀ b u, (b = a ∨ H b = some (.own a)) → h.get? b = some u → h'.get? b = some u)
    (ho : ∀ b, H b = some (.own a) → H' b = some (.own a)) (ht : ∀ b xs, H b = some (.tup xs) → H' b = some (.tup xs)) : ObjOk P w H' h' a o := by
  induction o with
  | lst xs => obtain ⟨z, its, n, r, e⟩ := x; exact ⟨z, its, n, r, k _ _ (.inl rfl) e⟩
  | tup xs => obtain ⟨z, its, r, ob, e, c⟩ := x; exact ⟨z, its, r, ob, k _ _ (.inl rfl) e, c⟩
  | dK kvs => obtain ⟨z, y, vs, r, ob, es, ep, e, c⟩ := x; exact ⟨z, y, vs, r, ob, es, ep, k _ _ (.inl rfl) e, c⟩
  | dT kvs =>
    obtain ⟨z, y, xs, r, ob, es, ep, e, c⟩ := x
    exact ⟨z, y, xs, Paired.mapP r fun p q z => ⟨z.1, ht _ _ z.2.1, z.2.2⟩, ob, es, ep, k _ _ (.inl rfl) e, c⟩
  | set S n => obtain ⟨ob, es, ep, t, e, c⟩ := x; exact ⟨ob, es, ep, t, k _ _ (.inl rfl) e, c⟩
  | ins C dx fs =>
    obtain ⟨d, z, ne, e, mA, ⟨od, es, ep, e2, c⟩, r⟩ := x
    exact ⟨ho _ d, z, ne, k _ _ (.inl rfl) e, mA, ⟨od, es, ep, k _ _ (.inr d) e2, c⟩, r⟩
  | own y => obtain ⟨ob, e⟩ := x; exact ⟨ob, k _ _ (.inl rfl) e⟩
  | xd fs => obtain ⟨mA, ⟨od, es, ep, e, c⟩, r⟩ := x; exact ⟨mA, ⟨od, es, ep, k _ _ (.inl rfl) e, c⟩, r⟩
  | rng lo hi => obtain ⟨t, u, v, e⟩ := x; exact ⟨t, u, v, k _ _ (.inl rfl) e⟩
  | frz ob u ih => obtain ⟨e, q⟩ := x; exact ⟨k _ _ (.inl rfl) e, ih q⟩
  | tbl ps =>
    have e : h.get? a = some { cls := .none, data := .fields ps } := x
    show h'.get? a = some { cls := .none, data := .fields ps }
    exact k a _ (.inl rfl) e
  | met f y =>
    have e : h.get? a = some (PySem.W.methodObj (.ref f) (.ref y)) := x
    show h'.get? a = some (PySem.W.methodObj (.ref f) (.ref y))
    exact k a _ (.inl rfl) e
  | ext φ => obtain ⟨p, ⟨o, e⟩, st⟩ := x; exact ⟨st _ _ p fun o q => k _ _ (.inl rfl) q, ⟨o, k _ _ (.inl rfl) e⟩, st⟩
theorem HOk.lt (x : HOk P w H h) (e : H a = some o) : a < h.objs.size := (x a o e).lt
theorem HOk.fresh (x : HOk P w H h) (e : h.objs.size ≤ a) : H a = none := by
  cases q : H a with
  | none => rfl
  | some u => exact absurd (Nat.lt_of_lt_of_le (x.lt q) e) (Nat.lt_irrefl _)
/-- every object of the heap is kept -/
theorem HOk.kept (x : HOk P w H h) (k : ∀ b u, h.get? b = some u → h'.get? b = some u) : HOk P w H h' := fun a o e =>
  (x a o e).stay (fun b u _ q => k b u q) (fun _ q => q) fun _ _ q => q
/-- a new object is laid and tracked -/
theorem HOk.laid (x : HOk P w H h) (k : ∀ b u, h.get? b = some u → h'.get? b = some u) (hp : h.objs.size ≤ a) (new : ObjOk P w (upd H a o) h' a o) : HOk P w (upd H a o) h' := fun b u e => by
  have hn := x.fresh hp
  by_cases hb : b = a
  · subst hb; rw [upd_same] at e; cases e; exact new
  · rw [upd_ne hb] at e
    exact (x b u e).stay (fun c v _ q => k c v q) (fun c q => by rw [upd_ne (ne_of_none q hn)]; exact q) fun c xs q => by rw [upd_ne (ne_of_none q hn)]; exact q
end

/-- what may be read as u: it is u, or a known u -/
def Rd (H : Hp) (a : Addr) (u : HO) : Prop := H a = some u ∨ ∃ o, H a = some (.frz o u)
theorem Rd.of {H : Hp} {a : Addr} {u : HO} (h : H a = some u) : Rd H a u := .inl h
theorem Rd.ok {P : Program} {w : World} {H : Hp} {h : Heap} {a : Addr} {u : HO} (r : Rd H a u) (x : HOk P w H h) : ObjOk P w H h a u := by
  rcases r with r | ⟨o, r⟩
  · exact x a u r
  · obtain ⟨_, q⟩ := x a _ r
    exact q
/-- what may be written -/
def Mut : Option HO → Prop
  | some (.lst _) => True
  | some (.dK _) => True
  | some (.dT _) => True
  | some (.set _ _) => True
  | some (.ins _ _ _) => True
  | some (.ext _) => True
  | _ => False
section
variable {P : Program} {w : World} {H : Hp} {h h' : Heap} {x e : Addr} {o' : HO}
/-- the object at e is changed: x itself, or the dict of the instance x -/
theorem HOk.write (ok : HOk P w H h) (mu : Mut (H x)) (he : e = x ∨ H e = some (.own x)) (k : ∀ b u, b ≠ e → h.get? b = some u → h'.get? b = some u) (heo : ∃ u, h'.get? e = some u)
    (new : ObjOk P w (upd H x o') h' x o') : HOk P w (upd H x o') h' := fun b u q => by
  have nown : ∀ c y, H c = some (.own y) → c ≠ x := fun c y r z => by subst z; rw [r] at mu; exact mu
  have ntup : ∀ c xs, H c = some (.tup xs) → c ≠ x := fun c xs r z => by subst z; rw [r] at mu; exact mu
  by_cases hb : b = x
  · subst hb; rw [upd_same] at q; cases q; exact new
  · rw [upd_ne hb] at q
    by_cases hbe : b = e
    · have q' : H b = some (.own x) := by
        rcases he with z | z
        · exact absurd (hbe.trans z) hb
        · rw [hbe]; exact z
      rw [q] at q'; cases q'
      obtain ⟨v, hv⟩ := heo
      exact ⟨v, by rw [hbe]; exact hv⟩
    · refine (ok b u q).stay (fun c v hc r => k c v ?_ r) (fun c r => by rw [upd_ne (nown c b r)]; exact r) fun c xs r => by rw [upd_ne (ntup c xs r)]; exact r
      rcases hc with rfl | hc
      · exact hbe
      · rintro rfl
        rcases he with z | z
        · exact nown c b hc z
        · rw [hc] at z; cases z; exact hb rfl
end

/-! ### kept unless tracked; of the frames at fs (the callers') the slots may change (an exception that passes writes there); of the records at ex (iterators) nothing is said -/
structure Un (fs ex : List Addr) (H H' : Hp) (h h' : Heap) : Prop where
  keep : ∀ b o, h.get? b = some o → H b = none → b ∉ fs → b ∉ ex → h'.get? b = some o
  slot : ∀ b o, h.get? b = some o → H b = none → b ∈ fs → b ∉ ex → ∃ sl, h'.get? b = some { o with slots := sl }
  free : ∀ b o, h.get? b = some o → H b = none → b ∉ ex → H' b = none
  there : ∀ b o, h.get? b = some o → b ∉ ex → ∃ o', h'.get? b = some o'
  tups : ∀ b xs, H b = some (.tup xs) → H' b = some (.tup xs)
  frzs : ∀ b o u, H b = some (.frz o u) → H' b = some (.frz o u)
  tbls : ∀ b ps, H b = some (.tbl ps) → ∃ more, H' b = some (.tbl (ps ++ more))
section
variable {fs fs' ex ex' : List Addr} {H H1 H2 : Hp} {h h1 h2 h' : Heap} {a x e : Addr} {o : HO}
theorem Un.any (u : Un fs ex H H1 h h1) {b : Addr} {ob : Obj} (q : h.get? b = some ob) (n : H b = none) (hx : b ∉ ex) : ∃ sl, h1.get? b = some { ob with slots := sl } := by
  by_cases hb : b ∈ fs
  · exact u.slot b ob q n hb hx
  · exact ⟨ob.slots, u.keep b ob q n hb hx⟩
theorem Un.trans (a : Un fs ex H H1 h h1) (b : Un fs ex H1 H2 h1 h2) : Un fs ex H H2 h h2 where
  keep := fun c ob q n hc hx => b.keep c ob (a.keep c ob q n hc hx) (a.free c ob q n hx) hc hx
  slot := fun c ob q n hc hx => by
    obtain ⟨sl, e1⟩ := a.slot c ob q n hc hx
    obtain ⟨sl', e2⟩ := b.slot c _ e1 (a.free c ob q n hx) hc hx
    exact ⟨sl', e2⟩
  free := fun c ob q n hx => by
    obtain ⟨o', e1⟩ := a.there c ob q hx
    exact b.free c o' e1 (a.free c ob q n hx) hx
  there := fun c ob q hx => by
    obtain ⟨o', e1⟩ := a.there c ob q hx
    exact b.there c o' e1 hx
  tups := fun c xs q => b.tups c xs (a.tups c xs q)
  frzs := fun c ob xs q => b.frzs c ob xs (a.frzs c ob xs q)
  tbls := fun c ps q => by
    obtain ⟨m1, e1⟩ := a.tbls c ps q
    obtain ⟨m2, e2⟩ := b.tbls c _ e1
    exact ⟨m1 ++ m2, by rw [e2, Array.append_assoc]⟩
theorem Un.kept (k : ∀ b u, h.get? b = some u → h'.get? b = some u) : Un fs ex H H h h' :=
  ⟨fun b ob q _ _ _ => k b ob q, fun b ob q _ _ _ => ⟨ob.slots, k b ob q⟩, fun _ _ _ n _ => n, fun b ob q _ => ⟨ob, k b ob q⟩, fun _ _ q => q, fun _ _ _ q => q, fun _ ps q => ⟨#[], by rw [q]; simp⟩⟩
theorem Un.refl : Un fs ex H H h h := Un.kept fun _ _ q => q
theorem Un.laid (k : ∀ b u, h.get? b = some u → h'.get? b = some u) (hp : h.objs.size ≤ a) (hn : H a = none) : Un fs ex H (upd H a o) h h' where
  keep := fun b u q _ _ _ => k b u q
  slot := fun b u q _ _ _ => ⟨u.slots, k b u q⟩
  free := fun b u q n _ => by rw [upd_ne (Nat.ne_of_lt (Nat.lt_of_lt_of_le (Heap.lt_size q) hp))]; exact n
  there := fun b u q _ => ⟨u, k b u q⟩
  tups := fun b xs q => by rw [upd_ne (ne_of_none q hn)]; exact q
  frzs := fun b u xs q => by rw [upd_ne (ne_of_none q hn)]; exact q
  tbls := fun b ps q => ⟨#[], by rw [upd_ne (ne_of_none q hn), q]; simp⟩
theorem Un.write (mu : Mut (H x)) (he : e = x ∨ H e = some (.own x)) (k : ∀ b u, b ≠ e → h.get? b = some u → h'.get? b = some u) (heo : ∃ u, h'.get? e = some u) : Un fs ex H (upd H x o) h h' := by
  have hx : ∀ b, H b = none → b ≠ x := fun b n z => by subst z; rw [n] at mu; exact mu
  have hb : ∀ b, H b = none → b ≠ e := fun b n z => by
    subst z
    rcases he with r | r
    · exact hx b n r
    · rw [n] at r; cases r
  have hm : ∀ b u, H b = some u → ¬ Mut (some u) → b ≠ x := fun b u q nm z => by subst z; rw [q] at mu; exact nm mu
  refine ⟨fun b u q n _ _ => k b u (hb b n) q, fun b u q n _ _ => ⟨u.slots, k b u (hb b n) q⟩, fun b u q n _ => by rw [upd_ne (hx b n)]; exact n, fun b u q _ => ?_,
    fun b xs q => by rw [upd_ne (hm b _ q fun z => z)]; exact q, fun b u xs q => by rw [upd_ne (hm b _ q fun z => z)]; exact q, fun b ps q => ⟨#[], by rw [upd_ne (hm b _ q fun z => z), q]; simp⟩⟩
  by_cases hbe : b = e
  · subst hbe; exact heo
  · exact ⟨u, k b u hbe q⟩
theorem Un.mono (u : Un fs ex H H1 h h1) (hs : ∀ b ∈ fs, b ∈ fs') (hx : ∀ b ∈ ex, b ∈ ex') : Un fs' ex' H H1 h h1 :=
  ⟨fun b ob q n hb he => u.keep b ob q n (fun z => hb (hs b z)) fun z => he (hx b z), fun _ _ q n _ he => u.any q n fun z => he (hx _ z), fun b ob q n he => u.free b ob q n fun z => he (hx b z), fun b ob q he => u.there b ob q fun z => he (hx b z), u.tups, u.frzs, u.tbls⟩
end

/-! ### the heap without what is tracked -/
def trk (h : Heap) (H : Hp) : List Addr := (List.range h.objs.size).filter fun a => (H a).isSome
def hidT (h : Heap) (H : Hp) : Heap := PySem.W.hideAll h (trk h H)
theorem hidT_size (h : Heap) (H : Hp) : (hidT h H).objs.size = h.objs.size := PySem.W.hideAll_size _ _
theorem hidT_get {h : Heap} {H : Hp} {b : Addr} {o : Obj} (e : h.get? b = some o) (n : H b = none) : (hidT h H).get? b = some o :=
  PySem.W.hideAll_get _ e fun hm => by
    have q : (H b).isSome = true := (List.mem_filter.mp hm).2
    rw [n] at q; simp at q
theorem of_hidT {h : Heap} {H : Hp} {b : Addr} {o : Obj} (e : (hidT h H).get? b = some o) : h.get? b = some o ∧ H b = none := by
  have e' : h.get? b = some o := PySem.W.of_hideAll (trk h H) e
  refine ⟨e', ?_⟩
  cases q : H b with
  | none => rfl
  | some x =>
    have hm : b ∈ trk h H := List.mem_filter.mpr ⟨List.mem_range.mpr (Heap.lt_size e'), by simp [q]⟩
    have z : (hidT h H).get? b = none := PySem.W.hideAll_none (trk h H) hm
    rw [z] at e; cases e

/-! ### OpenK's ledger, filled with every new object but one -/
def allNews (g h : Heap) (L : Addr) : List (Addr × Obj) := (List.range h.objs.size).filterMap fun a => if a = L ∨ (g.get? a).isSome = true then none else (h.get? a).map fun o => (a, o)
def rest (g h : Heap) (L d : Addr) : List (Addr × Obj) := (allNews g h L).filter fun p => decide (p.1 ≠ d)
end L2

namespace L2
open PySem PySem.Spec PyProof.Rows

/-- the module's facts, over the base: the heap at the law's entry without what is tracked there -/
structure Mod (K : PySem.W.Frag) (mg : Str → Option Value) (base : Heap) : Prop where
  kin : K.In base
  glob : base.Ns mainGlobals mg
  blt : ∃ mb, base.Ns builtinsNs mb ∧ ∀ x : Str, x ≠ "__name__" → mb x = bootBuiltins x
  nolimit : base.NoLimit

/-- the context: a def's body (or a comprehension's block) running. base: fixed through the whole law; s₀, H₀: the entry; outer: the frames whose slots others may change (a def's callers); stack: all frames that run;
   ex: iterators that were made ahead of the entry and are walked here (a comprehension's); fn: the names whose cells were made at the entry (a def: all; a comprehension's block: its own); calm: not within an except suite; pn: pins that every state bears; xe: what is wanted of an exception that leaves the code -/
structure Cx where
  prog : Program
  w : World
  K : PySem.W.Frag
  mg : Str → Option Value
  base : Heap
  A : Around
  N : List Str
  s_0 : Shared
  H_0 : Hp
  env : Env
  outer : List Env
  stack : List Env
  ex : List Addr
  fn : Str → Bool
  calm : Bool
  pn : List (Addr × Obj)
  xe : Value → Shared → Prop
/-- the callers' frames -/
def frs (l : List Env) : List Addr := l.filterMap (·.frame)
abbrev Cx.fs (X : Cx) : List Addr := frs X.outer

def Vis (sc : Scope) (x : Str) : Prop := sc.names.lookup x = some .local ∨ sc.names.lookup x = some .cell ∨ sc.names.lookup x = some .free
def Loc (sc : Scope) (x : Str) : Prop := sc.names.lookup x = some .local ∨ sc.names.lookup x = some .cell
def Look (env : Env) (h : Heap) (m : Str → Option Value) (x : Str) (u : Value) : Prop :=
  (env.kindOf x = some .local ∧ m x = some u) ∨ ((env.kindOf x = some .cell ∨ env.kindOf x = some .free) ∧ ∃ c, env.cells.lookup x = some c ∧ h.IsCell c (some u))

structure Cx.Ok (X : Cx) : Prop where
  mod : Mod X.K X.mg X.base
  kind : X.env.scope.kind = .function
  glob : X.env.globals = mainGlobals
  blt : X.env.builtins = builtinsNs
  above : X.s_0.heap.objs.size ≤ X.env.locals
  inj : ∀ x y c, X.env.cells.lookup x = some c → X.env.cells.lookup y = some c → x = y
  has : ∀ x, (X.env.kindOf x = some .cell ∨ X.env.kindOf x = some .free) → ∃ c, X.env.cells.lookup x = some c
  cab : ∀ x c, X.fn x = true → X.env.cells.lookup x = some c → X.s_0.heap.objs.size ≤ c
  hd : X.calm = true → X.A.handled = none
  frames : X.A.frames = some X.stack
  stk : X.stack = X.outer ∨ (X.stack = X.env :: X.outer ∧ X.env.frame = some X.env.locals)
  exf : ∀ b ∈ X.ex, b ≠ X.env.locals ∧ ∀ x c, X.env.cells.lookup x = some c → c ≠ b
  bs : ∀ b o, X.base.get? b = some o → X.s_0.heap.get? b = some o ∧ X.H_0 b = none
  bsz : X.base.objs.size ≤ X.s_0.heap.objs.size
  noex : ∀ b o, X.base.get? b = some o → b ∉ X.ex
  exfs : ∀ b ∈ X.ex, b ∉ X.fs
  funs : X.s_0.heap.FunFrames X.base X.outer
  frf : ∀ b ∈ X.fs, X.H_0 b = none

structure Inv (X : Cx) (pins : List (Addr × Obj)) (σ : List (Option V)) (H : Hp) (s : Shared) : Prop where
  ok : X.Ok
  os : s.os = X.s_0.os
  bare : AllBare s.gens
  base : Un X.fs X.ex X.H_0 H X.s_0.heap s.heap
  loc : ∃ m, s.heap.Ns X.env.locals m ∧ ∀ (i : Nat) (x : Str) (v : V), X.N[i]? = some x → σ[i]? = some (some v) → Vis X.env.scope x → ∃ u, RelV v u ∧ Look X.env s.heap m x u
  cell : ∀ x c, X.env.cells.lookup x = some c → ∃ v, s.heap.IsCell c v
  free : H X.env.locals = none
  freeC : ∀ x c, X.env.cells.lookup x = some c → H c = none
  pin : ∀ p ∈ X.pn ++ pins, s.heap.get? p.1 = some p.2 ∧ H p.1 = none ∧ p.1 ≠ X.env.locals ∧ p.1 ∉ X.fs ∧ ∀ v, p.2.data ≠ .cell v
  hok : HOk X.prog X.w H s.heap
  len : σ.length = X.N.length

section
variable {X : Cx} {pins : List (Addr × Obj)} {σ : List (Option V)} {H H' : Hp} {s : Shared} {h' : Heap}

theorem Cx.Ok.nofr (ok : X.Ok) {b : Addr} {o : Obj} (e : X.base.get? b = some o) : b ∉ X.fs := fun hb => by
  have := (ok.funs.mem hb).1
  rw [e] at this; cases this
theorem Inv.bs (I : Inv X pins σ H s) : ∀ b o, X.base.get? b = some o → s.heap.get? b = some o ∧ H b = none := fun b o e =>
  ⟨I.base.keep b o (I.ok.bs b o e).1 (I.ok.bs b o e).2 (I.ok.nofr e) (I.ok.noex b o e), I.base.free b o (I.ok.bs b o e).1 (I.ok.bs b o e).2 (I.ok.noex b o e)⟩
theorem Inv.bk (I : Inv X pins σ H s) : ∀ b o, X.base.get? b = some o → s.heap.get? b = some o := fun b o e => (I.bs b o e).1
theorem Inv.mod (I : Inv X pins σ H s) : Mod X.K X.mg X.base := I.ok.mod
theorem Inv.kIn (I : Inv X pins σ H s) : X.K.In s.heap := I.ok.mod.kin.keeps I.bk
theorem Inv.nolimit (I : Inv X pins σ H s) : s.heap.NoLimit := I.ok.mod.nolimit.keeps I.bk
/-- the frame over the base: for OpenK's rules (K.In X.base is I.mod.kin) -/
theorem Inv.fr (I : Inv X pins σ H s) : ∃ m, Fr X.base X.env.locals s.heap m :=
  let ⟨m, hn, _⟩ := I.loc
  ⟨m, hn, I.bk, Nat.le_trans I.ok.bsz I.ok.above⟩
theorem Inv.lt (I : Inv X pins σ H s) : X.env.locals < s.heap.objs.size := let ⟨_, hn, _⟩ := I.loc; hn.lt
theorem Inv.sz (I : Inv X pins σ H s) : X.s_0.heap.objs.size ≤ s.heap.objs.size := Nat.le_trans I.ok.above (Nat.le_of_lt I.lt)
theorem Inv.nofs (I : Inv X pins σ H s) {a : Addr} (h : s.heap.objs.size ≤ a) : a ∉ X.fs := fun hb => by
  obtain ⟨_, o, ho, _⟩ := I.ok.funs.mem hb
  exact absurd (Nat.lt_of_lt_of_le (Heap.lt_size ho) (Nat.le_trans I.sz h)) (Nat.lt_irrefl _)
theorem Inv.cne (I : Inv X pins σ H s) : ∀ x c, X.env.cells.lookup x = some c → c ≠ X.env.locals := fun x c e z => by
  obtain ⟨v, o, ho, hd⟩ := I.cell x c e
  obtain ⟨m, ⟨o', es, ep, ho', hd', _⟩, _⟩ := I.loc
  rw [z, ho'] at ho; cases ho; rw [hd'] at hd; cases hd
theorem Inv.funs (I : Inv X pins σ H s) : s.heap.FunFrames X.base X.outer := by
  have all : ∀ (l : List Env), (∀ b ∈ frs l, b ∈ X.fs) → X.s_0.heap.FunFrames X.base l → s.heap.FunFrames X.base l := by
    intro l
    induction l with
    | nil => intro _ _; trivial
    | cons env r ih =>
      intro hs hl
      obtain ⟨hk, ⟨L, o, hf, hn, ho, hd⟩, hr⟩ := hl
      have hL : L ∈ X.fs := hs L (by unfold frs; rw [List.filterMap_cons, hf]; exact List.mem_cons_self)
      obtain ⟨sl, e⟩ := I.base.slot L o ho (I.ok.frf L hL) hL fun z => I.ok.exfs L z hL
      exact ⟨hk, ⟨L, _, hf, hn, e, hd⟩, ih (fun b hb => hs b (by unfold frs; rw [List.filterMap_cons, hf]; exact List.mem_cons_of_mem _ hb)) hr⟩
  exact all X.outer (fun _ hb => hb) I.ok.funs

/-- the frames that run, for a call -/
theorem Inv.stack (I : Inv X pins σ H s) : s.heap.FunFrames X.base X.stack := by
  rcases I.ok.stk with e | ⟨e, hf⟩
  · rw [e]; exact I.funs
  · rw [e]
    obtain ⟨m, hn, _⟩ := I.loc
    refine .cons (by rw [I.ok.kind]; decide) hf hn ?_ I.funs
    exact Heap.get?_none_of_le (Nat.le_trans I.ok.bsz I.ok.above)
theorem Inv.stkSub (I : Inv X pins σ H s) : ∀ b ∈ frs X.stack, b ∈ X.env.locals :: X.fs := fun b hb => by
  rcases I.ok.stk with e | ⟨e, hf⟩
  · rw [e] at hb; exact List.mem_cons_of_mem _ hb
  · rw [e] at hb
    unfold frs at hb
    rw [List.filterMap_cons, hf] at hb
    exact hb
theorem Inv.stkFree (I : Inv X pins σ H s) : ∀ b ∈ frs X.stack, H b = none := fun b hb => by
  rcases List.mem_cons.mp (I.stkSub b hb) with e | hb
  · rw [e]; exact I.free
  · obtain ⟨_, o, ho, _⟩ := I.ok.funs.mem hb
    exact I.base.free b o ho (I.ok.frf b hb) fun z => I.ok.exfs b z hb

/-- THE STEP: the untracked objects but the frame and the records at ch are kept (the callers' frames up to slots), the frame's map is kept, the new abstract heap is held -/
theorem Inv.step {g' : Array GenState} {t' : Nat} {d' : Drawn} {ch : List Addr} (I : Inv X pins σ H s)
    (hch : ∀ b ∈ ch, (b ∈ X.ex ∨ X.s_0.heap.objs.size ≤ b) ∧ b ≠ X.env.locals ∧ (∀ x c, X.env.cells.lookup x = some c → c ≠ b) ∧ ∀ p ∈ X.pn ++ pins, p.1 ≠ b)
    (keep : ∀ b o, b ≠ X.env.locals → b ∉ X.fs → b ∉ ch → s.heap.get? b = some o → H b = none → h'.get? b = some o)
    (slot : ∀ b o, b ≠ X.env.locals → b ∈ X.fs → b ∉ ch → s.heap.get? b = some o → H b = none → ∃ sl, h'.get? b = some { o with slots := sl }) (free : ∀ b o, b ∉ ch → s.heap.get? b = some o → H b = none → H' b = none)
    (there : ∀ b o, b ∉ ch → s.heap.get? b = some o → ∃ o', h'.get? b = some o')
    (tups : ∀ b xs, H b = some (.tup xs) → H' b = some (.tup xs)) (frzs : ∀ b o u, H b = some (.frz o u) → H' b = some (.frz o u)) (tbls : ∀ b ps, H b = some (.tbl ps) → ∃ more, H' b = some (.tbl (ps ++ more)))
    (ns : ∀ m, s.heap.Ns X.env.locals m → h'.Ns X.env.locals m) (hok : HOk X.prog X.w H' h') (hg : AllBare g') :
    Inv X pins σ H' { s with heap := h', gens := g', drawn := d', toks := t' } := by
  have neL : ∀ b o, X.s_0.heap.get? b = some o → b ≠ X.env.locals := fun b o e => Nat.ne_of_lt (Nat.lt_of_lt_of_le (Heap.lt_size e) I.ok.above)
  have neC : ∀ b o, X.s_0.heap.get? b = some o → b ∉ X.ex → b ∉ ch := fun b o e hx hb => by
    rcases (hch b hb).1 with z | z
    · exact hx z
    · exact absurd (Nat.lt_of_lt_of_le (Heap.lt_size e) z) (Nat.lt_irrefl _)
  have cellK : ∀ x c, X.env.cells.lookup x = some c → ∀ v, s.heap.IsCell c v → h'.IsCell c v := fun x c e v ⟨o, ho, hd⟩ => by
    have nch : c ∉ ch := fun z => (hch c z).2.2.1 x c e rfl
    by_cases hc : c ∈ X.fs
    · obtain ⟨sl, q⟩ := slot c o (I.cne x c e) hc nch ho (I.freeC x c e)
      exact ⟨_, q, hd⟩
    · exact ⟨o, keep c o (I.cne x c e) hc nch ho (I.freeC x c e), hd⟩
  refine ⟨I.ok, I.os, hg, ⟨fun b o e n hb hx => ?_, fun b o e n hb hx => ?_, fun b o e n hx => ?_, fun b o e hx => ?_, fun b xs e => tups b xs (I.base.tups b xs e), fun b o xs e => frzs b o xs (I.base.frzs b o xs e), fun b ps e => ?_⟩, ?_, fun x c e => ?_, ?_, fun x c e => ?_, fun p hp => ?_, hok, I.len⟩
  · exact keep b o (neL b o e) hb (neC b o e hx) (I.base.keep b o e n hb hx) (I.base.free b o e n hx)
  · obtain ⟨sl, e1⟩ := I.base.slot b o e n hb hx
    obtain ⟨sl', e2⟩ := slot b _ (neL b o e) hb (neC b o e hx) e1 (I.base.free b o e n hx)
    exact ⟨sl', e2⟩
  · obtain ⟨o', e1⟩ := I.base.there b o e hx
    exact free b o' (neC b o e hx) e1 (I.base.free b o e n hx)
  · obtain ⟨o', e1⟩ := I.base.there b o e hx
    exact there b o' (neC b o e hx) e1
  · obtain ⟨m1, e1⟩ := I.base.tbls b ps e
    obtain ⟨m2, e2⟩ := tbls b _ e1
    exact ⟨m1 ++ m2, by rw [e2, Array.append_assoc]⟩
  · obtain ⟨m, hn, hl⟩ := I.loc
    refine ⟨m, ns m hn, fun i x v e1 e2 e3 => ?_⟩
    obtain ⟨u, r, l⟩ := hl i x v e1 e2 e3
    refine ⟨u, r, ?_⟩
    rcases l with l | ⟨k, c, e, z⟩
    · exact .inl l
    · exact .inr ⟨k, c, e, cellK x c e _ z⟩
  · obtain ⟨v, z⟩ := I.cell x c e
    exact ⟨v, cellK x c e v z⟩
  · obtain ⟨m, ⟨o, _, _, ho, _⟩, _⟩ := I.loc
    exact free _ o (fun z => (hch _ z).2.1 rfl) ho I.free
  · obtain ⟨v, o, ho, hd⟩ := I.cell x c e
    exact free c o (fun z => (hch c z).2.2.1 x c e rfl) ho (I.freeC x c e)
  · obtain ⟨e, n, ne, nf, d⟩ := I.pin p hp
    have nch : p.1 ∉ ch := fun z => (hch p.1 z).2.2.2 p hp rfl
    exact ⟨keep p.1 p.2 ne nf nch e n, free p.1 p.2 nch e n, ne, nf, d⟩
/-- .. where the frame's own object is kept too -/
theorem Inv.un {t' : Nat} (I : Inv X pins σ H s) (u : Un X.fs [] H H' s.heap h') (hok : HOk X.prog X.w H' h') : Inv X pins σ H' { s with heap := h', toks := t' } := by
  obtain ⟨m, ⟨o, es, ep, ho, r⟩, _⟩ := id I.loc
  obtain ⟨sl, hL⟩ := u.any ho I.free (by simp)
  exact I.step (g' := s.gens) (d' := s.drawn) (ch := []) (fun _ z => nomatch z) (fun b o _ hb _ e n => u.keep b o e n hb (by simp)) (fun b o _ hb _ e n => u.slot b o e n hb (by simp)) (fun b o _ e n => u.free b o e n (by simp)) (fun b o _ e => u.there b o e (by simp)) u.tups u.frzs u.tbls (fun m' hm => by
    obtain ⟨o', es', ep', ho', r'⟩ := hm
    rw [ho] at ho'; cases ho'
    exact ⟨_, es', ep', hL, r'⟩) hok I.bare
/-- behind a call (or a comprehension's block): the slots of this frame may have changed too, the records at ch may have turned -/
theorem Inv.call {g' : Array GenState} {t' : Nat} {d' : Drawn} {ch : List Addr} (I : Inv X pins σ H s) (u : Un (frs X.stack) ch H H' s.heap h') (hok : HOk X.prog X.w H' h') (hg : AllBare g')
    (hch : ∀ b ∈ ch, (b ∈ X.ex ∨ X.s_0.heap.objs.size ≤ b) ∧ b ≠ X.env.locals ∧ (∀ x c, X.env.cells.lookup x = some c → c ≠ b) ∧ ∀ p ∈ X.pn ++ pins, p.1 ≠ b) :
    Inv X pins σ H' { s with heap := h', gens := g', drawn := d', toks := t' } := by
  obtain ⟨m, ⟨o, es, ep, ho, r⟩, _⟩ := id I.loc
  obtain ⟨sl, hL⟩ := u.any ho I.free fun z => (hch _ z).2.1 rfl
  exact I.step (ch := ch) hch (fun b o hL hb hc e n => u.keep b o e n (fun z => (List.mem_cons.mp (I.stkSub b z)).elim hL hb) hc) (fun b o _ _ hc e n => u.any e n hc) (fun b o hc e n => u.free b o e n hc) (fun b o hc e => u.there b o e hc) u.tups u.frzs u.tbls (fun m' hm => by
    obtain ⟨o', es', ep', ho', r'⟩ := hm
    rw [ho] at ho'; cases ho'
    exact ⟨_, es', ep', hL, r'⟩) hok hg
/-- an untracked record of ours (an iterator) has turned -/
theorem Inv.turned {t' : Nat} {it : Addr} (I : Inv X pins σ H s) (k : ∀ b o, b ≠ it → s.heap.get? b = some o → h'.get? b = some o) (hn : H it = none) (hL : it ≠ X.env.locals)
    (h1 : it ∈ X.ex ∨ X.s_0.heap.objs.size ≤ it) (h2 : ∀ x c, X.env.cells.lookup x = some c → c ≠ it) (h3 : ∀ p ∈ X.pn ++ pins, p.1 ≠ it) : Inv X pins σ H { s with heap := h', toks := t' } := by
  have nit : ∀ b u, H b = some u → b ≠ it := fun b u e z => by rw [z, hn] at e; cases e
  refine I.step (g' := s.gens) (d' := s.drawn) (ch := [it]) (fun b hb => ?_) (fun b o _ _ hc e _ => k b o (fun z => hc (by simp [z])) e) (fun b o _ _ hc e _ => ⟨o.slots, k b o (fun z => hc (by simp [z])) e⟩) (fun _ _ _ _ n => n)
    (fun b o hc e => ⟨o, k b o (fun z => hc (by simp [z])) e⟩) (fun _ _ e => e) (fun _ _ _ e => e) (fun b ps e => ⟨#[], by rw [e]; simp⟩) (fun m hm => ?_) (fun b u e => ?_) I.bare
  · have e : b = it := by simpa using hb
    subst e
    exact ⟨h1, hL, h2, h3⟩
  · obtain ⟨o, es, ep, ho, r⟩ := hm
    exact ⟨o, es, ep, k _ o (Ne.symm hL) ho, r⟩
  · refine (I.hok b u e).stay (fun c v hc q => k c v ?_ q) (fun _ q => q) fun _ _ q => q
    rcases hc with z | z
    · rw [z]; exact nit b u e
    · exact nit c _ z
theorem Inv.tok (I : Inv X pins σ H s) (t : Nat) : Inv X pins σ H { s with toks := t } := I.un (h' := s.heap) (t' := t) Un.refl I.hok
/-- all objects kept -/
theorem Inv.kept {t' : Nat} (I : Inv X pins σ H s) (k : ∀ b u, s.heap.get? b = some u → h'.get? b = some u) : Inv X pins σ H { s with heap := h', toks := t' } := I.un (Un.kept k) (I.hok.kept k)
/-- a new object laid and tracked -/
theorem Inv.laid {a : Addr} {o : HO} {t' : Nat} (I : Inv X pins σ H s) (k : ∀ b u, s.heap.get? b = some u → h'.get? b = some u) (hp : s.heap.objs.size ≤ a) (new : ObjOk X.prog X.w (upd H a o) h' a o) :
    Inv X pins σ (upd H a o) { s with heap := h', toks := t' } := I.un (Un.laid k hp (I.hok.fresh hp)) (I.hok.laid k hp new)
/-- an object written -/
theorem Inv.write {x e : Addr} {o : HO} {t' : Nat} (I : Inv X pins σ H s) (mu : Mut (H x)) (he : e = x ∨ H e = some (.own x)) (k : ∀ b u, b ≠ e → s.heap.get? b = some u → h'.get? b = some u) (heo : ∃ u, h'.get? e = some u)
    (new : ObjOk X.prog X.w (upd H x o) h' x o) : Inv X pins σ (upd H x o) { s with heap := h', toks := t' } := I.un (Un.write mu he k heo) (I.hok.write mu he k heo new)
/-- forgetting slots, pins -/
theorem Inv.weak {σ' : List (Option V)} (I : Inv X pins σ H s) (hl : σ'.length = σ.length) (w : ∀ (i : Nat) v, σ'[i]? = some (some v) → σ[i]? = some (some v)) : Inv X pins σ' H s :=
  ⟨I.ok, I.os, I.bare, I.base, let ⟨m, hn, hl'⟩ := I.loc; ⟨m, hn, fun i x v e1 e2 e3 => hl' i x v e1 (w i v e2) e3⟩, I.cell, I.free, I.freeC, I.pin, I.hok, hl.trans I.len⟩
theorem Inv.pins_of {pins' : List (Addr × Obj)} (I : Inv X pins σ H s) (h : ∀ p ∈ pins', s.heap.get? p.1 = some p.2 ∧ H p.1 = none ∧ p.1 ≠ X.env.locals ∧ p.1 ∉ X.fs ∧ ∀ v, p.2.data ≠ .cell v) : Inv X pins' σ H s :=
  ⟨I.ok, I.os, I.bare, I.base, I.loc, I.cell, I.free, I.freeC, fun p hp => (List.mem_append.mp hp).elim (fun z => I.pin p (List.mem_append_left _ z)) (h p), I.hok, I.len⟩

theorem nodup_ix {N : List Str} (hN : N.Nodup) {i j : Nat} {x : Str} (a : N[i]? = some x) (b : N[j]? = some x) : i = j := by
  obtain ⟨h1, e1⟩ := List.getElem?_eq_some_iff.mp a
  obtain ⟨h2, e2⟩ := List.getElem?_eq_some_iff.mp b
  exact (List.getElem_inj hN).mp (e1.trans e2.symm)

/-- a name is stored; what changed -/
theorem store_ok2 {M : Model} {A : Around} {E : Value → Shared → Prop} {i : Nat} {x : Str} {v : V} {u : Value} {Q : Unit → Shared → Prop} (I : Inv X pins σ H s) (hN : X.N.Nodup) (hi : X.N[i]? = some x) (hx : Loc X.env.scope x) (r : RelV v u)
    (h : ∀ s', Inv X pins (σ.set i (some v)) H s' → (∃ a, Heap.SameBut a s.heap s'.heap ∧ (a = X.env.locals ∨ X.env.cells.lookup x = some a)) → Q () s') (hf : X.fn x = true ∨ X.env.scope.names.lookup x = some .local := by first | exact .inl rfl | exact .inr rfl | assumption) : wpAny M A (storeName X.env x u) Q E s := by
  obtain ⟨m, hn, hl⟩ := id I.loc
  have hcls : (X.env.scope.kind == .class || (X.env.scope.kind == .module && X.env.locals != X.env.globals)) = false := by rw [I.ok.kind]; rfl
  have hiσ : i < σ.length := by rw [I.len]; exact (List.getElem?_eq_some_iff.mp hi).1
  have cne := I.cne
  have tracked : ∀ {a : Addr} {h' : Heap}, (∃ o, s.heap.get? a = some o ∧ H a = none) → Heap.SameBut a s.heap h' → HOk X.prog X.w H h' := fun {a h'} ha hs b ob e => by
    obtain ⟨_, _, hfree⟩ := ha
    refine (I.hok b ob e).stay (fun c w' hc q => (hs.2 c ?_).trans q) (fun _ q => q) fun _ _ q => q
    rintro rfl
    rcases hc with rfl | hc
    · rw [hfree] at e; cases e
    · rw [hfree] at hc; cases hc
  rcases hx with hk | hk
  · refine wpAny_storeName_local hk hn (fun h' hn' hs => ?_) hcls
    obtain ⟨oL, _, _, hoL, _⟩ := id hn
    refine h _ ⟨I.ok, I.os, I.bare, ⟨fun b o e n hb hx => ?_, fun b o e n hb hx => ?_, I.base.free, fun b o e hx => ?_, I.base.tups, I.base.frzs, I.base.tbls⟩, ⟨_, hn', fun j y v' e1 e2 e3 => ?_⟩, fun y c e => ?_, I.free, I.freeC, fun p hp => ?_, tracked ⟨oL, hoL, I.free⟩ hs, by simpa using I.len⟩ ⟨_, hs, .inl rfl⟩
    · exact (hs.2 b (Nat.ne_of_lt (Nat.lt_of_lt_of_le (Heap.lt_size e) I.ok.above))).trans (I.base.keep b o e n hb hx)
    · obtain ⟨sl, e1⟩ := I.base.slot b o e n hb hx
      exact ⟨sl, (hs.2 b (Nat.ne_of_lt (Nat.lt_of_lt_of_le (Heap.lt_size e) I.ok.above))).trans e1⟩
    · obtain ⟨o', e1⟩ := I.base.there b o e hx
      exact ⟨o', (hs.2 b (Nat.ne_of_lt (Nat.lt_of_lt_of_le (Heap.lt_size e) I.ok.above))).trans e1⟩
    · by_cases hj : j = i
      · subst hj
        rw [hi] at e1; cases e1
        rw [List.getElem?_set_self hiσ] at e2
        cases e2
        exact ⟨u, r, .inl ⟨hk, by simp⟩⟩
      · rw [List.getElem?_set_ne (Ne.symm hj)] at e2
        obtain ⟨u', r', q⟩ := hl j y v' e1 e2 e3
        refine ⟨u', r', ?_⟩
        rcases q with ⟨k, e⟩ | ⟨k, c, e, z⟩
        · refine .inl ⟨k, ?_⟩
          have : y ≠ x := fun e => hj (nodup_ix hN e1 (e ▸ hi))
          simp [this, e]
        · exact .inr ⟨k, c, e, z.sameBut hs (cne y c e)⟩
    · obtain ⟨w', z⟩ := I.cell y c e
      exact ⟨w', z.sameBut hs (cne y c e)⟩
    · obtain ⟨e, n, ne, nf, d⟩ := I.pin p hp
      exact ⟨(hs.2 p.1 ne).trans e, n, ne, nf, d⟩
  · have hfn : X.fn x = true := by
      rcases hf with z | z
      · exact z
      · rw [z] at hk; cases hk
    obtain ⟨c, hc⟩ := I.ok.has x (.inl hk)
    obtain ⟨w', z⟩ := I.cell x c hc
    refine wpAny_storeName_cell I.ok.kind hk hc z (fun h' hc' hs => ?_)
    obtain ⟨oc, hoc, hocd⟩ := id z
    refine h { s with heap := h' } ⟨I.ok, I.os, I.bare, ⟨fun b o e n hb hx => ?_, fun b o e n hb hx => ?_, I.base.free, fun b o e hx => ?_, I.base.tups, I.base.frzs, I.base.tbls⟩, ⟨m, hn.sameBut hs (Ne.symm (cne x c hc)), fun j y v' e1 e2 e3 => ?_⟩, fun y c' e => ?_, I.free, I.freeC, fun p hp => ?_, tracked ⟨oc, hoc, I.freeC x c hc⟩ hs, by simpa using I.len⟩ ⟨c, hs, .inr hc⟩
    · exact (hs.2 b (Nat.ne_of_lt (Nat.lt_of_lt_of_le (Heap.lt_size e) (I.ok.cab x c hfn hc)))).trans (I.base.keep b o e n hb hx)
    · obtain ⟨sl, e1⟩ := I.base.slot b o e n hb hx
      exact ⟨sl, (hs.2 b (Nat.ne_of_lt (Nat.lt_of_lt_of_le (Heap.lt_size e) (I.ok.cab x c hfn hc)))).trans e1⟩
    · obtain ⟨o', e1⟩ := I.base.there b o e hx
      exact ⟨o', (hs.2 b (Nat.ne_of_lt (Nat.lt_of_lt_of_le (Heap.lt_size e) (I.ok.cab x c hfn hc)))).trans e1⟩
    · by_cases hj : j = i
      · subst hj
        rw [hi] at e1; cases e1
        rw [List.getElem?_set_self hiσ] at e2
        cases e2
        exact ⟨u, r, .inr ⟨.inl hk, c, hc, hc'⟩⟩
      · rw [List.getElem?_set_ne (Ne.symm hj)] at e2
        obtain ⟨u', r', q⟩ := hl j y v' e1 e2 e3
        refine ⟨u', r', ?_⟩
        rcases q with q | ⟨k, c', e, z'⟩
        · exact .inl q
        · refine .inr ⟨k, c', e, z'.sameBut hs ?_⟩
          rintro rfl
          exact hj (nodup_ix hN e1 (I.ok.inj _ _ _ e hc ▸ hi))
    · by_cases hcc : c' = c
      · subst hcc; exact ⟨_, hc'⟩
      · obtain ⟨w2, z2⟩ := I.cell y c' e
        exact ⟨w2, z2.sameBut hs hcc⟩
    · obtain ⟨e, n, ne, nf, d⟩ := I.pin p hp
      refine ⟨(hs.2 p.1 ?_).trans e, n, ne, nf, d⟩
      intro q
      rw [q, hoc] at e
      have q' : oc = p.2 := Option.some.inj e
      exact d w' (by rw [← q']; exact hocd)
theorem store_ok {M : Model} {A : Around} {E : Value → Shared → Prop} {i : Nat} {x : Str} {v : V} {u : Value} {Q : Unit → Shared → Prop} (I : Inv X pins σ H s) (hN : X.N.Nodup) (hi : X.N[i]? = some x) (hx : Loc X.env.scope x) (r : RelV v u)
    (h : ∀ s', Inv X pins (σ.set i (some v)) H s' → Q () s') (hf : X.fn x = true ∨ X.env.scope.names.lookup x = some .local := by first | exact .inl rfl | exact .inr rfl | assumption) : wpAny M A (storeName X.env x u) Q E s :=
  store_ok2 I hN hi hx r (fun s' I' _ => h s' I') hf
/-- behind a call or a block, the state as it is -/
theorem Inv.call' {s' : Shared} {ch : List Addr} (I : Inv X pins σ H s) (ho : s'.os = s.os) (u : Un (frs X.stack) ch H H' s.heap s'.heap) (hok : HOk X.prog X.w H' s'.heap) (hg : AllBare s'.gens)
    (hch : ∀ b ∈ ch, (b ∈ X.ex ∨ X.s_0.heap.objs.size ≤ b) ∧ b ≠ X.env.locals ∧ (∀ x c, X.env.cells.lookup x = some c → c ≠ b) ∧ ∀ p ∈ X.pn ++ pins, p.1 ≠ b) : Inv X pins σ H' s' := by
  obtain ⟨h', g', d', t', o'⟩ := s'
  have e : o' = s.os := ho
  subst e
  exact I.call (g' := g') (t' := t') (d' := d') u hok hg hch
end

/-! ### the judgements -/
/-- an exception: its class, its own dict's address (where it has one), the abstract heap behind it -/
abbrev XK := Value → Option Addr → Hp → Prop
abbrev St := List (Option V)
abbrev VK := V → Hp → Prop
/-- an expression's reading; a test's; an argument list's -/
abbrev TE := St → Hp → VK → Prop
abbrev TT := St → Hp → (Bool → Hp → Prop) → Prop
abbrev TA := St → Hp → (List V → Hp → Prop) → Prop
/-- what is wanted behind a statement -/
structure Ends where
  nx : St → Hp → Prop
  rt : VK
  bk : St → Hp → Prop := fun _ _ => False
  ct : St → Hp → Prop := fun _ _ => False
abbrev TS := Ends → St → Hp → Prop

def EP (X : Cx) (pins : List (Addr × Obj)) (σ : St) (Q : VK) (u : Value) (s' : Shared) : Prop := ∃ v H', Inv X pins σ H' s' ∧ RelV v u ∧ Q v H'
def TP (X : Cx) (pins : List (Addr × Obj)) (σ : St) (Q : Bool → Hp → Prop) (b : Bool) (s' : Shared) : Prop := ∃ H', Inv X pins σ H' s' ∧ Q b H'
def AP (X : Cx) (pins : List (Addr × Obj)) (σ : St) (Q : List V → Hp → Prop) (us : List Value) (s' : Shared) : Prop := ∃ vs H', Inv X pins σ H' s' ∧ Vals vs us ∧ Q vs H'
def SP (X : Cx) (pins : List (Addr × Obj)) (D : Ends) (f : Flow) (s' : Shared) : Prop :=
  match f with
  | .next => ∃ σ' H', Inv X pins σ' H' s' ∧ D.nx σ' H'
  | .brk => ∃ σ' H', Inv X pins σ' H' s' ∧ D.bk σ' H'
  | .cont => ∃ σ' H', Inv X pins σ' H' s' ∧ D.ct σ' H'
  | .ret u => ∃ v σ' H', Inv X pins σ' H' s' ∧ RelV v u ∧ D.rt v H'

def PE (X : Cx) (e : Expr) (t : TE) : Prop :=
  ∀ (pins : List (Addr × Obj)) (s : Shared) (σ : St) (H : Hp) (Q : VK), Inv X pins σ H s → t σ H Q → wpAny (model X.prog X.w) X.A (eval e X.env) (EP X pins σ Q) X.xe s
def PT (X : Cx) (e : Expr) (t : TT) : Prop :=
  ∀ (pins : List (Addr × Obj)) (s : Shared) (σ : St) (H : Hp) (Q : Bool → Hp → Prop), Inv X pins σ H s → t σ H Q → wpAny (model X.prog X.w) X.A (isTrue e X.env (eval e X.env)) (TP X pins σ Q) X.xe s
/-- a test whatever its 'whole' is (and, or) -/
def PW (X : Cx) (e : Expr) (t : TT) : Prop :=
  ∀ (whole : Sem Value) (pins : List (Addr × Obj)) (s : Shared) (σ : St) (H : Hp) (Q : Bool → Hp → Prop), Inv X pins σ H s → t σ H Q → wpAny (model X.prog X.w) X.A (isTrue e X.env whole) (TP X pins σ Q) X.xe s
theorem PW.pt {X : Cx} {e : Expr} {t : TT} (h : PW X e t) : PT X e t := h _
/-- an argument list (no star), from the left -/
def PA (X : Cx) (es : List Expr) (t : TA) : Prop :=
  ∀ (pos : Pos) (pins : List (Addr × Obj)) (s : Shared) (σ : St) (H : Hp) (Q : List V → Hp → Prop), Inv X pins σ H s → t σ H Q → wpAny (model X.prog X.w) X.A (spliced (backTo pos (starEach es X.env))) (AP X pins σ Q) X.xe s
def PS (X : Cx) (st : Stmt) (t : TS) : Prop :=
  ∀ (pins : List (Addr × Obj)) (s : Shared) (σ : St) (H : Hp) (D : Ends), Inv X pins σ H s → t D σ H → wpAny (model X.prog X.w) X.A (exec st X.env) (SP X pins D) X.xe s
def PSs (X : Cx) (st : List Stmt) (t : TS) : Prop :=
  ∀ (pins : List (Addr × Obj)) (s : Shared) (σ : St) (H : Hp) (D : Ends), Inv X pins σ H s → t D σ H → wpAny (model X.prog X.w) X.A (execs st X.env) (SP X pins D) X.xe s
/-- weaken the end -/
theorem thn {α : Type} {t : Sem α} {Q Q' : α → Shared → Prop} {M : Model} {A : Around} {E : Value → Shared → Prop} {s : Shared} (h : wpAny M A t Q E s) (hQ : ∀ a s, Q a s → Q' a s) : wpAny M A t Q' E s := wpAny_mono h hQ fun _ _ x => x
end L2

namespace L2
open PySem PySem.Spec PyProof.Rows
section
variable {X : Cx}

/-- two expressions in a row -/
theorem bin {a b : Expr} {ta tb : TE} (ha : PE X a ta) (hb : PE X b tb) {pins : List (Addr × Obj)} {s : Shared} {σ : St} {H : Hp} {R : V → V → Hp → Prop} (I : Inv X pins σ H s) (h : ta σ H fun x H1 => tb σ H1 fun y H2 => R x y H2)
    {α : Type} {Q : α → Shared → Prop} {f : Value → Value → Sem α}
    (hf : ∀ v u s2 x y H2, Inv X pins σ H2 s2 → RelV x v → RelV y u → R x y H2 → wpAny (model X.prog X.w) X.A (f v u) Q X.xe s2) :
    wpAny (model X.prog X.w) X.A (eval a X.env) (fun v s₁ => wpAny (model X.prog X.w) X.A (eval b X.env) (fun u s₂ => wpAny (model X.prog X.w) X.A (f v u) Q X.xe s₂) X.xe s₁) X.xe s := by
  refine thn (ha pins s σ H _ I h) fun v s1 ⟨x, H1, I1, r1, q1⟩ => ?_
  refine thn (hb pins s1 σ H1 _ I1 q1) fun u s2 ⟨y, H2, I2, r2, q2⟩ => ?_
  exact hf v u s2 x y H2 I2 r1 r2 q2

/-! ### names and constants -/
def tVar (i : Nat) : TE := fun σ H Q => ∃ v, σ[i]? = some (some v) ∧ Q v H
def tC (v : V) : TE := fun _ H Q => Q v H
theorem pe_var {i : Nat} {x : Str} {pos : Pos} (hN : X.N[i]? = some x) (hv : Vis X.env.scope x) (hd : (x == ("__debug__" : Str)) = false := by decide) (hcd : (x == ("__classdict__" : Str)) = false := by decide) : PE X (.Name x pos) (tVar i) := by
  intro pins s σ H Q I h
  obtain ⟨v, e, h⟩ := h
  obtain ⟨m, hn, hl⟩ := I.loc
  obtain ⟨u, r, l⟩ := hl i x v hN e hv
  have fin : EP X pins σ Q u s := ⟨v, H, I, r, h⟩
  rcases l with ⟨hk, hm⟩ | ⟨hk, c, hc, hcell⟩
  · exact wpAny_Name (wpAny_loadName_local I.ok.kind hk hn hm fin) hd
  · rcases hk with hk | hk
    · exact wpAny_Name (wpAny_loadName_cell I.ok.kind hk hc hcell fin) hd
    · exact wpAny_Name (wpAny_loadName_free I.ok.kind hk hc hcell fin hcd) hd
theorem pe_int {i j pos} : PE X (.Constant (.int i) j pos) (tC (.int i)) := fun _ _ _ H _ I h => wpAny_Constant_int ⟨.int i, H, I.tok _, ⟨_, rfl⟩, h⟩
theorem pe_bl {b j pos} : PE X (.Constant (.bool b) j pos) (tC (.bl b)) := fun _ _ _ H _ I h => Constant_bool ⟨.bl b, H, I, rfl, h⟩
theorem pe_str {x j pos} : PE X (.Constant (.str x) j pos) (tC (.str x)) := fun _ _ _ H _ I h => Calls.Constant_str ⟨.str x, H, I.tok _, ⟨_, rfl⟩, h⟩

/-- a global name of the def -/
def Gl (X : Cx) (x : Str) : Prop := X.env.kindOf x = some .globalImplicit
theorem ld_glob {E : Value → Shared → Prop} {pins : List (Addr × Obj)} {s : Shared} {σ : St} {H : Hp} {x : Str} {u : Value} {pos : Pos} {Q : Value → Shared → Prop} (I : Inv X pins σ H s) (hg : Gl X x) (hm : X.mg x = some u) (h : Q u s)
    (hd : (x == ("__debug__" : Str)) = false := by decide) : wpAny (model X.prog X.w) X.A (eval (.Name x pos) X.env) Q E s :=
  Calls.Name_function_global I.ok.kind hg (Calls.loadGlobal_global (by rw [I.ok.glob]; exact I.mod.glob.keeps I.bk) hm h) hd
theorem ld_blt {E : Value → Shared → Prop} {pins : List (Addr × Obj)} {s : Shared} {σ : St} {H : Hp} {x : Str} {u : Value} {pos : Pos} {Q : Value → Shared → Prop} (I : Inv X pins σ H s) (hg : Gl X x) (hm : X.mg x = none) (hv : bootBuiltins x = some u) (h : Q u s)
    (hn : x ≠ "__name__" := by decide) (hd : (x == ("__debug__" : Str)) = false := by decide) : wpAny (model X.prog X.w) X.A (eval (.Name x pos) X.env) Q E s := by
  obtain ⟨mb, h1, h2⟩ := I.mod.blt
  exact Calls.Name_function_global I.ok.kind hg (Calls.loadGlobal_builtin (by rw [I.ok.glob]; exact I.mod.glob.keeps I.bk) hm (by rw [I.ok.blt]; exact h1.keeps I.bk) ((h2 x hn).trans hv) h) hd
/-- a module's constant, a class, a function, as a value -/
theorem pe_glob {x : Str} {v : V} {u : Value} {pos : Pos} (hg : Gl X x) (hm : X.mg x = some u) (r : RelV v u) (hd : (x == ("__debug__" : Str)) = false := by decide) : PE X (.Name x pos) (tC v) :=
  fun _ _ _ H _ I h => ld_glob I hg hm ⟨v, H, I, r, h⟩ hd
/-! ### arithmetic -/
variable {a b : Expr} {ta tb : TE} {pos : Pos}
/-! ### comparisons -/
def PC (X : Cx) (op : CmpOp) (a b : Expr) (t : TE) : Prop :=
  ∀ (pins : List (Addr × Obj)) (s : Shared) (σ : St) (H : Hp) (Q : VK), Inv X pins σ H s → t σ H Q →
    wpAny (model X.prog X.w) X.A (eval a X.env) (fun v s₁ => wpAny (model X.prog X.w) X.A (eval b X.env) (fun u s₂ => wpAny (model X.prog X.w) X.A (compareOp op v u) (EP X pins σ Q) X.xe s₂) X.xe s₁) X.xe s
theorem nobehind (b : Expr) {op : CmpOp} (h : op ≠ .In) (h2 : op ≠ .NotIn) : behindInMarks op b = false := by
  have e1 : (op == CmpOp.In) = false := by cases op <;> first | rfl | exact absurd rfl h
  have e2 : (op == CmpOp.NotIn) = false := by cases op <;> first | rfl | exact absurd rfl h2
  cases b <;> simp [behindInMarks, e1, e2]
/-- a comparison as a value, as a test -/
def tB (t : TE) : TT := fun σ H Q => t σ H fun x H1 => ∃ c, x = .bl c ∧ Q c H1
theorem pt_cmp {op : CmpOp} {t : TE} (h : PC X op a b t) (h1 : behindInMarks op b = false := by first | exact nobehind _ (by decide) (by decide) | rfl) : PT X (.Compare a [op] [b] pos) (tB t) := by
  intro pins s σ H Q I hw
  refine wpAny_isTrue_Compare1 (thn (h pins s σ H _ I hw) fun v s1 h1 => thn h1 fun u s2 h2 => thn h2 fun c s3 ⟨x, H1, I1, r1, q1⟩ => ?_) h1
  obtain ⟨d, rfl, q⟩ := q1
  cases r1
  exact wpAny_truthy_bool ⟨H1, I1, q⟩
/-- an expression whose value is a bool, as a test -/
theorem pt_val {e : Expr} {t : TE} (h : PE X e t) (he : ∀ whole, isTrue e X.env whole = (do let v ← whole; standAt e.pos; holding [v] (truthy v)) := by intro _; rfl) : PT X e (tB t) := by
  intro pins s σ H Q I hw
  refine isTrue_plain (thn (h pins s σ H _ I hw) fun v s1 ⟨x, H1, I1, r1, q1⟩ => ?_) (he _)
  obtain ⟨d, rfl, q⟩ := q1
  cases r1
  exact wpAny_truthy_bool ⟨H1, I1, q⟩

/-! ### and, or, not -/
variable {tA tB' : TT} {rest : List Expr}
def tAnd (t u : TT) : TT := fun σ H Q => t σ H fun c H1 => if c = true then u σ H1 Q else Q false H1
def tOr (t u : TT) : TT := fun σ H Q => t σ H fun c H1 => if c = true then Q true H1 else u σ H1 Q
def tNot (t : TT) : TT := fun σ H Q => t σ H fun c H1 => Q (!c) H1
theorem pw_and1 (ha : PT X a tA) : PW X (.BoolOp .And [a] pos) tA := by
  intro wh pins s σ H Q I h
  refine isTrue_and (thn (ha pins s σ H Q I h) fun c s1 e => ?_)
  cases c with
  | true => exact isTrue_and_nil e
  | false => exact e
theorem pw_or1 (ha : PT X a tA) : PW X (.BoolOp .Or [a] pos) tA := by
  intro wh pins s σ H Q I h
  refine isTrue_or (thn (ha pins s σ H Q I h) fun c s1 e => ?_)
  cases c with
  | false => exact isTrue_or_nil e
  | true => exact e
theorem pw_and (ha : PT X a tA) (hb : PW X (.BoolOp .And (b :: rest) pos) tB') : PW X (.BoolOp .And (a :: b :: rest) pos) (tAnd tA tB') := by
  intro wh pins s σ H Q I h
  refine isTrue_and (thn (ha pins s σ H _ I h) fun c s1 ⟨H1, I1, q1⟩ => ?_)
  cases c with
  | true => exact hb wh pins s1 σ H1 Q I1 q1
  | false => exact ⟨H1, I1, q1⟩
theorem pw_or (ha : PT X a tA) (hb : PW X (.BoolOp .Or (b :: rest) pos) tB') : PW X (.BoolOp .Or (a :: b :: rest) pos) (tOr tA tB') := by
  intro wh pins s σ H Q I h
  refine isTrue_or (thn (ha pins s σ H _ I h) fun c s1 ⟨H1, I1, q1⟩ => ?_)
  cases c with
  | true => exact ⟨H1, I1, q1⟩
  | false => exact hb wh pins s1 σ H1 Q I1 q1
theorem pt_not (ha : PT X a tA) : PT X (.UnaryOp .Not a pos) (tNot tA) := by
  intro pins s σ H Q I h
  exact isTrue_not (ha pins s σ H (fun c H1 => Q (!c) H1) I h)
/-- .. as values (bools) -/
def tAndV (ta tb : TE) : TE := fun σ H Q => ta σ H fun x H1 => ∃ c, x = .bl c ∧ if c = true then tb σ H1 Q else Q (.bl false) H1
def tOrV (ta tb : TE) : TE := fun σ H Q => ta σ H fun x H1 => ∃ c, x = .bl c ∧ if c = true then Q (.bl true) H1 else tb σ H1 Q
theorem pe_one {op} {t : TE} (h : PE X a t) : PE X (.BoolOp op [a] pos) t := fun pins s σ H Q I hw => BoolOp_one (h pins s σ H Q I hw)
theorem pe_and (ha : PE X a ta) (hb : PE X (.BoolOp .And (b :: rest) pos) tb) : PE X (.BoolOp .And (a :: b :: rest) pos) (tAndV ta tb) := by
  intro pins s σ H Q I h
  refine BoolOp_and (thn (ha pins s σ H _ I h) fun v s1 ⟨x, H1, I1, r1, q1⟩ => ?_)
  obtain ⟨c, rfl, q1⟩ := q1
  cases r1
  refine wpAny_truthy_bool ?_
  cases c with
  | true => exact hb pins s1 σ H1 Q I1 q1
  | false => exact ⟨.bl false, H1, I1, rfl, q1⟩
theorem pe_or (ha : PE X a ta) (hb : PE X (.BoolOp .Or (b :: rest) pos) tb) : PE X (.BoolOp .Or (a :: b :: rest) pos) (tOrV ta tb) := by
  intro pins s σ H Q I h
  refine BoolOp_or (thn (ha pins s σ H _ I h) fun v s1 ⟨x, H1, I1, r1, q1⟩ => ?_)
  obtain ⟨c, rfl, q1⟩ := q1
  cases r1
  refine wpAny_truthy_bool ?_
  cases c with
  | false => exact hb pins s1 σ H1 Q I1 q1
  | true => exact ⟨.bl true, H1, I1, rfl, q1⟩
/-- a if t else b -/
def tIf (t : TT) (ta tb : TE) : TE := fun σ H Q => t σ H fun c H1 => if c = true then ta σ H1 Q else tb σ H1 Q
theorem pe_ifExp {c : Expr} (hc : PT X c tA) (ha : PE X a ta) (hb : PE X b tb) : PE X (.IfExp c a b pos) (tIf tA ta tb) := by
  intro pins s σ H Q I h
  refine wpAny_IfExp (thn (hc pins s σ H _ I h) fun d s1 ⟨H1, I1, q1⟩ => ?_)
  cases d with
  | true => exact ha pins s1 σ H1 Q I1 q1
  | false => exact hb pins s1 σ H1 Q I1 q1
end
end L2

namespace L2
open PySem PySem.Spec PyProof.Rows

/-! ### a list, a tuple that is read: tracked, frozen, or an object of the module -/
def SqL (K : PySem.W.Frag) (H : Hp) (a : Addr) (xs : List V) : Prop :=
  Rd H a (.lst xs) ∨
    ∃ (o : Obj) (its : Array Value) (n : Nat), K.lookup a = some o ∧ o.cls = .type "list" ∧ o.dict = none ∧ o.data = .seq its n ∧ its.size ≤ sizeLine ∧ Vals xs its.toList
def SqT (K : PySem.W.Frag) (H : Hp) (a : Addr) (xs : List V) : Prop :=
  Rd H a (.tup xs) ∨
    ∃ (o : Obj) (its : Array Value) (n : Nat), K.lookup a = some o ∧ o.cls = .type "tuple" ∧ o.data = .seq its n ∧ its.size ≤ sizeLine ∧ Vals xs its.toList
def absV : Value → Option V
  | .none => some .non
  | .bool b => some (.bl b)
  | .int i _ => some (.int i)
  | .str x _ => some (.str x)
  | .bytes b _ => some (.byt b)
  | .float b _ => some (.flt b)
  | .ref a => some (.ref a)
  | .type n => some (.ty n)
  | _ => none
theorem RelV.abs {x : V} {u : Value} (r : RelV x u) : absV u = some x := by
  cases x with
  | non => cases r; rfl
  | bl _ => cases r; rfl
  | int _ => obtain ⟨t, rfl⟩ := r; rfl
  | str _ => obtain ⟨t, rfl⟩ := r; rfl
  | byt _ => obtain ⟨t, rfl⟩ := r; rfl
  | flt _ => obtain ⟨t, rfl⟩ := r; rfl
  | ref _ => cases r; rfl
  | ty _ => cases r; rfl
theorem RelV.inj {x y : V} {u : Value} (r : RelV x u) (q : RelV y u) : x = y := Option.some.inj (r.abs.symm.trans q.abs)
theorem Vals.inj : ∀ {xs ys : List V} {us : List Value}, Vals xs us → Vals ys us → xs = ys
  | _, _, _, .nil, .nil => rfl
  | _, _, _, .cons r t, .cons r' t' => by rw [r.inj r', Vals.inj t t']
section
variable {X : Cx} {pins : List (Addr × Obj)} {σ : St} {H : Hp} {s : Shared} {a : Addr} {xs ys : List V}
theorem SqL.of {K : PySem.W.Frag} (h : H a = some (.lst xs)) : SqL K H a xs := .inl (.inl h)
theorem SqT.of {K : PySem.W.Frag} (h : H a = some (.tup xs)) : SqT K H a xs := .inl (.inl h)
theorem Inv.list (I : Inv X pins σ H s) (h : SqL X.K H a xs) : ∃ its : List Value, Vals xs its ∧ PlainL s.heap a its.toArray ∧ xs.length ≤ sizeLine := by
  rcases h with h | ⟨o, its, n, hk, hc, hd, hs, hz, r⟩
  · obtain ⟨z, its, n, r, e⟩ := h.ok I.hok
    exact ⟨its, r, ⟨_, n, e, rfl, rfl, rfl⟩, z⟩
  · refine ⟨its.toList, r, ⟨o, n, I.kIn a o hk, hc, hd, by simpa using hs⟩, ?_⟩
    have e := r.length
    simp only [Array.length_toList] at e
    omega
theorem Inv.tuple (I : Inv X pins σ H s) (h : SqT X.K H a xs) : ∃ its : List Value, Vals xs its ∧ IsTup s.heap a its.toArray ∧ xs.length ≤ sizeLine := by
  rcases h with h | ⟨o, its, n, hk, hc, hs, hz, r⟩
  · obtain ⟨z, its, r, p⟩ := h.ok I.hok
    exact ⟨its, r, p, z⟩
  · refine ⟨its.toList, r, ⟨o, I.kIn a o hk, hc, n, by simpa using hs⟩, ?_⟩
    have e := r.length
    simp only [Array.length_toList] at e
    omega
theorem Inv.list_inj (I : Inv X pins σ H s) (h : SqL X.K H a xs) (h' : SqL X.K H a ys) : xs = ys := by
  obtain ⟨its, r, ⟨o, n, e, _, _, d⟩, _⟩ := I.list h
  obtain ⟨its', r', ⟨o', n', e', _, _, d'⟩, _⟩ := I.list h'
  rw [e] at e'; cases e'
  rw [d] at d'
  injection d' with d1 _
  have : its = its' := by simpa using congrArg Array.toList d1
  subst this
  exact r.inj r'
end

/-! ### another wish about exceptions -/
abbrev Cx.wish (X : Cx) (E : Value → Shared → Prop) : Cx := { X with xe := E }
/-- no exception leaves -/
abbrev Cx.nox (X : Cx) : Cx := X.wish fun _ _ => False
theorem Cx.Ok.wish {X : Cx} (ok : X.Ok) (E : Value → Shared → Prop) : (X.wish E).Ok :=
  ⟨ok.mod, ok.kind, ok.glob, ok.blt, ok.above, ok.inj, ok.has, ok.cab, ok.hd, ok.frames, ok.stk, ok.exf, ok.bs, ok.bsz, ok.noex, ok.exfs, ok.funs, ok.frf⟩
theorem Cx.Ok.unwish {X : Cx} {E : Value → Shared → Prop} (ok : (X.wish E).Ok) : X.Ok :=
  ⟨ok.mod, ok.kind, ok.glob, ok.blt, ok.above, ok.inj, ok.has, ok.cab, ok.hd, ok.frames, ok.stk, ok.exf, ok.bs, ok.bsz, ok.noex, ok.exfs, ok.funs, ok.frf⟩
section
variable {X : Cx} {pins : List (Addr × Obj)} {σ : St} {H : Hp} {s : Shared} {E : Value → Shared → Prop}
theorem Inv.wish (I : Inv X pins σ H s) (E : Value → Shared → Prop) : Inv (X.wish E) pins σ H s := ⟨I.ok.wish E, I.os, I.bare, I.base, I.loc, I.cell, I.free, I.freeC, I.pin, I.hok, I.len⟩
theorem Inv.unwish (I : Inv (X.wish E) pins σ H s) : Inv X pins σ H s := ⟨I.ok.unwish, I.os, I.bare, I.base, I.loc, I.cell, I.free, I.freeC, I.pin, I.hok, I.len⟩
theorem SP.unwish {D : Ends} {f : Flow} {s' : Shared} (h : SP (X.wish E) pins D f s') : SP X pins D f s' := by
  cases f with
  | next => obtain ⟨σ', H', I, q⟩ := h; exact ⟨σ', H', I.unwish, q⟩
  | brk => obtain ⟨σ', H', I, q⟩ := h; exact ⟨σ', H', I.unwish, q⟩
  | cont => obtain ⟨σ', H', I, q⟩ := h; exact ⟨σ', H', I.unwish, q⟩
  | ret u => obtain ⟨v, σ', H', I, r, q⟩ := h; exact ⟨v, σ', H', I.unwish, r, q⟩
theorem PE.nox {e : Expr} {t : TE} (h : PE X.nox e t) : PE X e t := fun pins s σ H Q I hw =>
  wpAny_mono (h pins s σ H Q (I.wish _) hw) (fun _ _ ⟨v, H', I', r, q⟩ => ⟨v, H', I'.unwish, r, q⟩) fun _ _ z => False.elim z
theorem PT.nox {e : Expr} {t : TT} (h : PT X.nox e t) : PT X e t := fun pins s σ H Q I hw =>
  wpAny_mono (h pins s σ H Q (I.wish _) hw) (fun _ _ ⟨H', I', q⟩ => ⟨H', I'.unwish, q⟩) fun _ _ z => False.elim z
theorem PSs.nox {st : List Stmt} {t : TS} (h : PSs X.nox st t) : PSs X st t := fun pins s σ H D I hw =>
  wpAny_mono (h pins s σ H D (I.wish _) hw) (fun _ _ q => q.unwish) fun _ _ z => False.elim z
end

/-! ### blocks and small statements -/
section
variable {X : Cx} {st : Stmt} {rest : List Stmt} {t u : TS} {e : Expr} {te : TE} {pos : Pos}
def tNext : TS := fun D σ H => D.nx σ H
def tSeq (t u : TS) : TS := fun D σ H => t { D with nx := u D } σ H
theorem pss_nil : PSs X [] tNext := fun _ _ σ H _ I h => wpAny_execs_nil ⟨σ, H, I, h⟩
theorem pss_cons (h1 : PS X st t) (h2 : PSs X rest u) : PSs X (st :: rest) (tSeq t u) := by
  intro pins s σ H D I h
  refine wpAny_execs_cons (thn (h1 pins s σ H { D with nx := u D } I h) fun f s1 q => ?_)
  cases f with
  | next =>
    obtain ⟨σ', H', I', q⟩ := q
    exact h2 pins s1 σ' H' D I' q
  | ret v => exact q
  | brk => exact q
  | cont => exact q
theorem pss_one (h1 : PS X st t) : PSs X [st] t := by
  intro pins s σ H D I h
  refine wpAny_execs_cons (thn (h1 pins s σ H D I h) fun f s1 q => ?_)
  cases f with
  | next => exact wpAny_execs_nil q
  | ret v => exact q
  | brk => exact q
  | cont => exact q
/-- in a def's body nothing is shown -/
theorem Inv.quiet {pins : List (Addr × Obj)} {σ : St} {H : Hp} {s : Shared} (I : Inv X pins σ H s) : interactive X.env = false := by simp [interactive, I.ok.kind]
/-- an expression whose value is dropped -/
def tDrop (te : TE) : TS := fun D σ H => te σ H fun _ H1 => D.nx σ H1
theorem ps_expr (he : PE X e te) (hs : swapsWith e none pos.line X.env = pure false := by rfl) : PS X (.Expr e pos) (tDrop te) := by
  intro pins s σ H D I h
  exact wpAny_Expr_any (thn (he pins s σ H _ I h) fun v s1 ⟨x, H1, I1, r1, q1⟩ => ⟨σ, H1, I1, q1⟩) I.quiet hs
def tRet (te : TE) : TS := fun D σ H => te σ H D.rt
theorem ps_ret (he : PE X e te) : PS X (.Return (some e) pos) (tRet te) := by
  intro pins s σ H D I h
  exact wpAny_Return_some (thn (he pins s σ H _ I h) fun v s1 ⟨x, H1, I1, r1, q1⟩ => ⟨x, σ, H1, I1, r1, q1⟩)
def tIfS (c : TT) (t u : TS) : TS := fun D σ H => c σ H fun b H1 => if b = true then t D σ H1 else u D σ H1
theorem ps_if {c : Expr} {a b : List Stmt} {tc : TT} (hc : PT X c tc) (ha : PSs X a t) (hb : PSs X b u) : PS X (.If c a b pos) (tIfS tc t u) := by
  intro pins s σ H D I h
  refine wpAny_If (thn (hc pins s σ H _ I h) fun d s1 ⟨H1, I1, q1⟩ => ?_)
  cases d with
  | true => exact ha pins s1 σ H1 D I1 q1
  | false => exact hb pins s1 σ H1 D I1 q1
end

/-! ### targets -/
abbrev TG := V → St → Hp → (St → Hp → Prop) → Prop
def PG (X : Cx) (target : Expr) (t : TG) : Prop :=
  ∀ (pins : List (Addr × Obj)) (s : Shared) (σ : St) (H : Hp) (v : V) (u : Value) (Q : St → Hp → Prop), Inv X pins σ H s → RelV v u → t v σ H Q →
    wpAny (model X.prog X.w) X.A (assign target X.env u) (fun _ s' => ∃ σ' H', Inv X pins σ' H' s' ∧ Q σ' H') X.xe s
/-- o[i] = v, by values -/
abbrev TSet := V → V → V → Hp → (Hp → Prop) → Prop
def PSet (X : Cx) (t : TSet) : Prop :=
  ∀ (pins : List (Addr × Obj)) (s : Shared) (σ : St) (H : Hp) (o i v : V) (ov iv u : Value) (Q : Hp → Prop), Inv X pins σ H s → RelV o ov → RelV i iv → RelV v u → t o i v H Q →
    wpAny (model X.prog X.w) X.A (setItem ov iv u) (fun _ s' => ∃ H', Inv X pins σ H' s' ∧ Q H') X.xe s
section
variable {X : Cx} {pos : Pos}
def gName (i : Nat) : TG := fun v σ H Q => Q (σ.set i (some v)) H
theorem pg_name {i : Nat} {x : Str} (hN : X.N.Nodup) (hi : X.N[i]? = some x) (hx : Loc X.env.scope x) (hf : X.fn x = true ∨ X.env.scope.names.lookup x = some .local := by first | exact .inl rfl | exact .inr rfl | assumption) : PG X (.Name x pos) (gName i) := by
  intro pins s σ H v u Q I r h
  exact wpAny_assign_Name (store_ok I hN hi hx r (fun s' I' => ⟨_, H, I', h⟩) hf)
/-- o[i] = .. -/
def gSub (to ti : TE) (t : TSet) : TG := fun v σ H Q => to σ H fun o H1 => ti σ H1 fun i H2 => t o i v H2 fun H3 => Q σ H3
theorem pg_sub {o i : Expr} {to ti : TE} {t : TSet} (ho : PE X o to) (hi : PE X i ti) (hs : PSet X t)
    (ha : ∀ v, assign (.Subscript o i pos) X.env v = (do
      let ov ← holding [v] (eval o X.env)
      let iv ← holding [v, ov] (eval i X.env)
      standAt pos
      holding [v, ov, iv] (setItem ov iv v)
      release [v, ov, iv] []) := by intro _; rfl) : PG X (.Subscript o i pos) (gSub to ti t) := by
  intro pins s σ H v u Q I r h
  rw [ha]
  refine wpAny_bind (wpAny_holding (thn (ho pins s σ H _ I h) fun ov s1 ⟨x, H1, I1, r1, q1⟩ => ?_))
  refine wpAny_bind (wpAny_holding (thn (hi pins s1 σ H1 _ I1 q1) fun iv s2 ⟨y, H2, I2, r2, q2⟩ => ?_))
  refine wpAny_bind (wpAny_standAt (wpAny_bind (wpAny_holding (thn (hs pins s2 σ H2 x y v ov iv u _ I2 r1 r2 r q2) fun _ s3 ⟨H3, I3, q3⟩ => ?_))))
  exact wpAny_release ⟨σ, H3, I3, q3⟩
/-- target = value -/
def tAsg (te : TE) (g : TG) : TS := fun D σ H => te σ H fun x H1 => g x σ H1 D.nx
theorem ps_asg {tg e : Expr} {te : TE} {g : TG} (he : PE X e te) (hg : PG X tg g) (hs : swapsWithSole [tg] e pos.line X.env = pure false := by rfl) (hw : swappedStores [tg] e X.env = pure none := by rfl)
    (h1 : (assignEach [tg] X.env).map (·.2) = [assign tg X.env] := by rfl) : PS X (.Assign [tg] e pos) (tAsg te g) := by
  intro pins s σ H D I h
  refine wpAny_Assign_stores (thn (he pins s σ H _ I h) fun v s1 ⟨x, H1, I1, r1, q1⟩ => ?_) hs hw
  rw [h1]
  exact thn (hg pins s1 σ H1 x v _ I1 r1 q1) fun _ s2 q => q
/-- name = value -/
theorem ps_set {i : Nat} {x : Str} {e : Expr} {te : TE} {pos' : Pos} (hN : X.N.Nodup) (hi : X.N[i]? = some x) (hx : Loc X.env.scope x) (he : PE X e te) (hs : swapsWith e (some (.Name x pos')) pos.line X.env = pure false := by rfl) (hf : X.fn x = true ∨ X.env.scope.names.lookup x = some .local := by first | exact .inl rfl | exact .inr rfl | assumption) :
    PS X (.Assign [.Name x pos'] e pos) (tAsg te (gName i)) := by
  intro pins s σ H D I h
  refine wpAny_Assign_Name (thn (he pins s σ H _ I h) fun v s1 ⟨y, H1, I1, r1, q1⟩ => ?_) hs
  exact store_ok I1 hN hi hx r1 (fun s2 I2 => ⟨_, H1, I2, q1⟩) hf
end

/-! ### while -/
section
variable {X : Cx} {pos : Pos}
/-- the invariant W with its measure -/
def tWhile (c : TT) (tb : TS) : TS := fun D σ H => ∃ W : Nat → St → Hp → Prop, (∃ m, W m σ H) ∧ ∀ m σ H, W m σ H →
  c σ H fun b H1 => if b = true then ∃ N : St → Hp → Prop, (∀ σ' H', N σ' H' → ∃ m', m' < m ∧ W m' σ' H') ∧ tb { D with nx := N, ct := N, bk := D.nx } σ H1 else D.nx σ H1
theorem ps_while {c : Expr} {body : List Stmt} {tc : TT} {tb : TS} (hp : PassesOwn (model X.prog X.w) X.A X.env X.xe) (hc : PT X c tc) (hb : PSs X body tb) : PS X (.While c body [] pos) (tWhile tc tb) := by
  intro pins s σ H D I h
  obtain ⟨W, ⟨m0, w0⟩, turn⟩ := h
  refine wpAny_While (codeAny_whileLoop (fun n s' => ∃ σ' H', Inv X pins σ' H' s' ∧ W n σ' H') ?_ m0 ⟨σ, H, I, w0⟩)
  rintro n s1 ⟨σ1, H1, I1, w1⟩
  refine wpAny_passesOwn hp (thn (hc pins s1 σ1 H1 _ I1 (turn n σ1 H1 w1)) fun b s2 ⟨H2, I2, q2⟩ => ?_)
  cases b with
  | true =>
    obtain ⟨N, hN, q2⟩ := q2
    rw [if_pos rfl]
    refine wpAny_passesOwn hp (thn (hb pins s2 σ1 H2 _ I2 q2) fun f s3 q3 => ?_)
    cases f with
    | next =>
      obtain ⟨σ3, H3, I3, n3⟩ := q3
      obtain ⟨m', hm, w3⟩ := hN σ3 H3 n3
      exact ⟨m', hm, σ3, H3, I3, w3⟩
    | cont =>
      obtain ⟨σ3, H3, I3, n3⟩ := q3
      obtain ⟨m', hm, w3⟩ := hN σ3 H3 n3
      exact ⟨m', hm, σ3, H3, I3, w3⟩
    | brk => exact q3
    | ret v => exact q3
  | false =>
    rw [if_neg Bool.false_ne_true]
    exact wpAny_execs_nil ⟨σ1, H2, I2, q2⟩
end

/-! ### what a loop or a comprehension walks -/
/-- at turn i: it yields x (the heap may grow), or it stops -/
structure It where
  go : Nat → Hp → Prop
  yld : Nat → Hp → V → Hp → Prop
  stop : Nat → Hp → Prop
/-- the iterator's own objects may turn: they are not the frame's, not pinned, younger than the entry (or a comprehension's own) -/
def FpOk (X : Cx) (pins : List (Addr × Obj)) (H : Hp) (b : Addr) : Prop :=
  H b = none ∧ b ≠ X.env.locals ∧ b ∉ X.fs ∧ (b ∈ X.ex ∨ X.s_0.heap.objs.size ≤ b) ∧ (∀ x c, X.env.cells.lookup x = some c → c ≠ b) ∧ ∀ p ∈ X.pn ++ pins, p.1 ≠ b
theorem Inv.fpOk {X : Cx} {pins : List (Addr × Obj)} {σ : St} {H H' : Hp} {s : Shared} {b : Addr} (I : Inv X pins σ H s) (hb : s.heap.objs.size ≤ b) (hn : H' b = none) : FpOk X pins H' b := by
  refine ⟨hn, Nat.ne_of_gt (Nat.lt_of_lt_of_le I.lt hb), I.nofs hb, .inr (Nat.le_trans I.sz hb), fun x c e z => ?_, fun p hp z => ?_⟩
  · obtain ⟨v, q⟩ := I.cell x c e
    exact absurd (Nat.lt_of_lt_of_le q.lt (by rw [z]; exact hb)) (Nat.lt_irrefl _)
  · exact absurd (Nat.lt_of_lt_of_le (Heap.lt_size (I.pin p hp).1) (by rw [z]; exact hb)) (Nat.lt_irrefl _)
structure Turn (P : Program) (w : World) (K : PySem.W.Frag) (tg : Expr) (J : It) (fp : List Addr) (it : Addr) (tn : Nat → Heap → Prop) : Prop where
  mem : it ∈ fp
  obj : ∀ i h, tn i h → ∀ b ∈ fp, ∃ o, h.get? b = some o ∧ ∀ v, o.data ≠ .cell v
  keep : ∀ i h h', tn i h → (∀ b ∈ fp, ∀ o, h.get? b = some o → h'.get? b = some o) → tn i h'
  item : ∀ (X : Cx), X.prog = P → X.w = w → X.K = K → X.calm = true → ∀ (i : Nat) (pins : List (Addr × Obj)) (s : Shared) (σ : St) (H : Hp) (E : Value → Shared → Prop), Inv X pins σ H s → (∀ b ∈ fp, FpOk X pins H b) → tn i s.heap → J.go i H →
    wpAny (model P w) X.A (pyNext (.ref it)) (fun r s1 => ∃ u, r = some u ∧
      wpAny (model P w) X.A (letOwnedTupleGo tg (.ref it) u) (fun _ s2 => ∃ x H', Inv X pins σ H' s2 ∧ RelV x u ∧ J.yld i H x H' ∧ tn (i + 1) s2.heap ∧ ∀ b ∈ fp, H' b = none) E s1) E s
  done : ∀ (X : Cx), X.prog = P → X.w = w → X.K = K → X.calm = true → ∀ (i : Nat) (pins : List (Addr × Obj)) (s : Shared) (σ : St) (H : Hp) (E : Value → Shared → Prop), Inv X pins σ H s → (∀ b ∈ fp, FpOk X pins H b) → tn i s.heap → J.stop i H →
    wpAny (model P w) X.A (pyNext (.ref it)) (fun r s1 => r = none ∧ Inv X pins σ H s1) E s
  self : ∀ (A : Around) (i : Nat) (s : Shared) (Q : Value → Shared → Prop) (E : Value → Shared → Prop), tn i s.heap → Q (.ref it) s → wpAny (model P w) A (pyIter (.ref it)) Q E s
abbrev TI := St → Hp → (It → Hp → Prop) → Prop
/-- an iterator has come -/
def PIE (X : Cx) (pins : List (Addr × Obj)) (σ : St) (tg : Expr) (R : It → Hp → Prop) (itv : Value) (s2 : Shared) : Prop :=
  ∃ (it : Addr) (fp : List Addr) (tn : Nat → Heap → Prop) (J : It) (H' : Hp), itv = .ref it ∧ Inv X pins σ H' s2 ∧ Turn X.prog X.w X.K tg J fp it tn ∧ tn 0 s2.heap ∧ (∀ b ∈ fp, FpOk X pins H' b) ∧ R J H'
def PI (X : Cx) (tg iter : Expr) (wi : TI) : Prop :=
  ∀ (pins : List (Addr × Obj)) (s : Shared) (σ : St) (H : Hp) (R : It → Hp → Prop), Inv X pins σ H s → wi σ H R →
    wpAny (model X.prog X.w) X.A (eval iter X.env) (fun v s1 => wpAny (model X.prog X.w) X.A (pyIter v) (PIE X pins σ tg R) X.xe s1) X.xe s

/-- the step ahead of the store is nothing for an iterator that keeps no tuple -/
theorem go_of {M : Model} {A : Around} {E : Value → Shared → Prop} {s : Shared} {tg : Expr} {it : Addr} {u : Value} {o : Obj} {n : String} {vs : Array Value} {Q : Unit → Shared → Prop} (ho : s.heap.get? it = some o) (hc : o.cls = .type n) (hd : o.data = .fields vs)
    (hn : ["enumerate", "zip", "dict_itemiterator", "dict_reverseitemiterator", "odict_iterator", "itertools.zip_longest", "itertools.pairwise"].contains n = false) (hQ : Q () s) : wpAny M A (letOwnedTupleGo tg (.ref it) u) Q E s := by
  unfold letOwnedTupleGo
  cases tg <;> first
    | exact wpAny_pure hQ
    | (cases u <;> first
        | exact wpAny_pure hQ
        | (refine wpAny_bind (wpAny_load ho ?_)
           rw [hc, hd]
           show wpAny M A (if (["enumerate", "zip", "dict_itemiterator", "dict_reverseitemiterator", "odict_iterator", "itertools.zip_longest", "itertools.pairwise"].contains n && vs[0]? == some (rawInt _)) = true then _ else _) Q E s
           rw [if_neg (by intro h; rw [hn, Bool.false_and] at h; cases h)]
           exact wpAny_pure hQ))

/-- the list at a, as it stands at each turn (a loop may append to it) -/
def Itl (K : PySem.W.Frag) (a : Addr) : It :=
  ⟨fun i H => ∃ xs x, SqL K H a xs ∧ xs[i]? = some x, fun i H x H' => H' = H ∧ ∀ xs, SqL K H a xs → xs[i]? = some x, fun i H => ∃ xs, SqL K H a xs ∧ xs.length ≤ i⟩
/-- lo, lo + 1, .. (n of them) -/
def Itr (lo : Int) (n : Nat) : It := ⟨fun i _ => i < n, fun i H x H' => H' = H ∧ x = .int (lo + i), fun i _ => n ≤ i⟩
theorem turn_list {P : Program} {w : World} {K : PySem.W.Frag} {tg : Expr} (a it : Addr) : Turn P w K tg (Itl K a) [it] it (fun i h => h.IsListIter it a i) where
  mem := by simp
  obj := fun i h st b hb => by
    have e : b = it := by simpa using hb
    subst e
    obtain ⟨o, e, c, d⟩ := st
    exact ⟨o, e, fun v z => by rw [d] at z; cases z⟩
  keep := fun i h h' st k => st.at fun o e => k it (by simp) o e
  item := by
    intro X hP hw hK hc i pins s σ H E I hf st hg
    subst hP hw hK
    obtain ⟨xs, x, hq, hx⟩ := hg
    obtain ⟨its, rv, p, hz⟩ := I.list hq
    obtain ⟨u, hu, ru⟩ := rv.get hx
    obtain ⟨f0, f1, f2, f3, f4, f5⟩ := hf it (by simp)
    refine wpAny_pyNext_list_item st p.isList (x := u) (by simpa using hu) fun h' st' sb => ?_
    have I1 : Inv X pins σ H { s with heap := h' } := I.turned (t' := s.toks) (fun b o hb e => (sb.2 b hb).trans e) f0 f1 f3 f4 f5
    obtain ⟨o, e, c, d⟩ := id st'
    exact ⟨u, rfl, go_of (s := { s with heap := h' }) e c d (by decide) ⟨x, H, I1, ru, ⟨rfl, fun ys hy => by rw [I.list_inj hy hq]; exact hx⟩, st', fun b hb => (hf b hb).1⟩⟩
  done := by
    intro X hP hw hK hc i pins s σ H E I hf st hg
    subst hP hw hK
    obtain ⟨xs, hq, hx⟩ := hg
    obtain ⟨its, rv, p, hz⟩ := I.list hq
    obtain ⟨f0, f1, f2, f3, f4, f5⟩ := hf it (by simp)
    have hl := rv.length
    exact wpAny_pyNext_list_end (I.ok.hd hc) st p.isList (by simp; omega) fun h' eb => ⟨rfl, I.turned (t' := s.toks) (fun b o hb e => eb b o hb e) f0 f1 f3 f4 f5⟩
  self := fun _ _ _ _ _ st h => wpAny_pyIter_listiter st h
theorem turn_range {P : Program} {w : World} {K : PySem.W.Frag} {tg : Expr} (it : Addr) (lo : Int) (n : Nat) : Turn P w K tg (Itr lo n) [it] it (fun i h => IsRangeIter h it (lo + (i : Nat) * 1) ((n : Int) - (i : Nat)) 1) where
  mem := by simp
  obj := fun i h st b hb => by
    have e : b = it := by simpa using hb
    subst e
    exact ⟨_, st, fun v z => by
      have z' : Data.fields _ = Data.cell v := z
      cases z'⟩
  keep := fun i h h' st k => k it (by simp) _ st
  item := by
    intro X hP hw hK hc i pins s σ H E I hf st hg
    subst hP hw hK
    obtain ⟨f0, f1, f2, f3, f4, f5⟩ := hf it (by simp)
    have W := Walks.range (prog := X.prog) (w := X.w) (I.ok.hd hc) it lo 1 n
    refine W.item i s _ _ hg st fun v h' tk hv st' kk => ?_
    obtain ⟨t, rfl⟩ := hv
    have I1 : Inv X pins σ H { s with heap := h', toks := tk } := I.turned (fun b o hb e => kk b o (by simpa using hb) e) f0 f1 f3 f4 f5
    refine ⟨_, rfl, go_of (s := { s with heap := h', toks := tk }) (n := "range_iterator") st' rfl rfl (by decide) ⟨.int (lo + i), H, I1, ⟨t, ?_⟩, ⟨rfl, rfl⟩, st', fun b hb => (hf b hb).1⟩⟩
    rw [Int.mul_one]
  done := by
    intro X hP hw hK hc i pins s σ H E I hf st hg
    subst hP hw hK
    obtain ⟨f0, f1, f2, f3, f4, f5⟩ := hf it (by simp)
    exact wpAny_pyNext_range_end (I.ok.hd hc) st (by have : n ≤ i := hg; omega) fun h' eb => ⟨rfl, I.turned (t' := s.toks) (fun b o hb e => eb b o hb e) f0 f1 f3 f4 f5⟩
  self := fun _ _ _ _ _ st h => wpAny_pyIter_rangeiter st h
end L2

namespace L2
open PySem PySem.Spec PyProof.Rows
section
variable {X : Cx} {tg : Expr}
def iList (K : PySem.W.Frag) (tl : TE) : TI := fun σ H R => tl σ H fun x H1 => ∃ a, x = .ref a ∧ (∃ xs, SqL K H1 a xs) ∧ R (Itl K a) H1
theorem pi_list {l : Expr} {tl : TE} (hl : PE X l tl) : PI X tg l (iList X.K tl) := by
  intro pins s σ H R I h
  refine thn (hl pins s σ H _ I h) fun v s1 ⟨x, H1, I1, r1, q1⟩ => ?_
  obtain ⟨a, e, ⟨xs, hq⟩, q⟩ := q1
  subst e
  cases r1
  obtain ⟨its, rv, p, hz⟩ := I1.list hq
  refine wpAny_pyIter_list p.isList ?_
  refine ⟨s1.heap.objs.size, [s1.heap.objs.size], _, _, H1, rfl, I1.kept (t' := s1.toks) fun b o e => Heap.get?_push_of_some _ e, turn_list a _, ⟨_, Heap.get?_push_size _ rfl, rfl, rfl⟩, fun b hb => ?_, q⟩
  have e : b = s1.heap.objs.size := by simpa using hb
  subst e
  exact I1.fpOk (Nat.le_refl _) (I1.hok.fresh (Nat.le_refl _))
/-- a range object just made, walked -/
theorem range_it {pins : List (Addr × Obj)} {σ : St} {H : Hp} {s : Shared} {R : It → Hp → Prop} {E : Value → Shared → Prop} {lo hi : Int} {t u v : Tok} {tk : Nat} (I : Inv X pins σ H s) (h1 : -(2 ^ 62) ≤ lo) (h2 : lo < 2 ^ 62) (h3 : -(2 ^ 62) ≤ hi) (h4 : hi < 2 ^ 62)
    (q : R (Itr lo (hi - lo).toNat) H) : wpAny (model X.prog X.w) X.A (pyIter (.ref s.heap.objs.size)) (PIE X pins σ tg R) E { s with heap := s.heap.push { cls := .type "range", data := .fields #[.int lo t, .int hi u, .int 1 v] }, toks := tk } := by
  refine wpAny_pyIter_range (IsRange.new ..) (small_one h1 h2 h3 h4) ?_
  have I1 : Inv X pins σ H { s with heap := s.heap.push { cls := .type "range", data := .fields #[.int lo t, .int hi u, .int 1 v] }, toks := tk } := I.kept fun b o e => Heap.get?_push_of_some _ e
  refine ⟨(s.heap.push { cls := .type "range", data := .fields #[.int lo t, .int hi u, .int 1 v] }).objs.size, [(s.heap.push { cls := .type "range", data := .fields #[.int lo t, .int hi u, .int 1 v] }).objs.size], _, _, H, rfl,
    I1.kept (t' := tk) fun b o e => Heap.get?_push_of_some _ e, turn_range _ lo (hi - lo).toNat, ?_, fun b hb => ?_, q⟩
  · have e1 : lo + ((0 : Nat) : Int) * 1 = lo := by simp
    have e2 : (((hi - lo).toNat : Nat) : Int) - ((0 : Nat) : Int) = Builtin.Range.rangeSize lo hi 1 := by rw [rangeSize_one]; split <;> omega
    show IsRangeIter _ _ (lo + ((0 : Nat) : Int) * 1) ((((hi - lo).toNat : Nat) : Int) - ((0 : Nat) : Int)) 1
    rw [e1, e2]
    exact Heap.get?_push_size _ rfl
  · have e : b = (s.heap.push { cls := .type "range", data := .fields #[.int lo t, .int hi u, .int 1 v] }).objs.size := by simpa using hb
    subst e
    exact I1.fpOk (Nat.le_refl _) (I1.hok.fresh (Nat.le_refl _))
def iRng1 (ta : TA) : TI := fun σ H R => ta σ H fun vs H1 => ∃ j : Int, vs = [.int j] ∧ -(2 ^ 62) ≤ j ∧ j < 2 ^ 62 ∧ R (Itr 0 j.toNat) H1
theorem pi_range1 {a : Expr} {ta : TA} {p pos : Pos} (hg : Gl X "range") (hm : X.mg "range" = none) (ha : PA X [a] ta) (hs : starEach [a] X.env = [(false, eval a X.env)] := by rfl) : PI X tg (.Call (.Name "range" p) [a] [] pos) (iRng1 ta) := by
  intro pins s σ H R I h
  refine Call_ (ld_blt I hg hm boot_range (PyProof.Rows.callWith_type1 (thn (ha pos pins s σ H _ I h) fun us s1 ⟨vs, H1, I1, r1, q1⟩ => ?_) hs rfl))
  obtain ⟨j, e, q1, q2, q⟩ := q1
  subst e
  cases r1 with
  | cons r rr =>
    cases rr
    obtain ⟨t, rfl⟩ := r
    exact call_range_1 (range_it I1 (by omega) (by omega) q1 q2 (by simpa using q))
/-! ### for -/
/-- W: the invariant by the turn and a measure; N: what the body is to reach -/
def tFor (wi : TI) (g : TG) (tb : TS) : TS := fun D σ H => wi σ H fun J H1 => ∃ W : Nat → Nat → St → Hp → Prop, (∃ m, W 0 m σ H1) ∧ ∀ i m σ H, W i m σ H →
  (J.stop i H ∧ D.nx σ H) ∨ (J.go i H ∧ ∃ N : St → Hp → Prop, (∀ σ' H', N σ' H' → ∃ m', m' < m ∧ W (i + 1) m' σ' H') ∧ ∀ x H', J.yld i H x H' → g x σ H' fun σ2 H2 => tb { D with nx := N, ct := N, bk := D.nx } σ2 H2)
/-- the records at fp as they stand -/
def pinsAt (fp : List Addr) (h : Heap) : List (Addr × Obj) := fp.filterMap fun b => (h.get? b).map fun o => (b, o)
theorem mem_pinsAt {fp : List Addr} {h : Heap} {b : Addr} {o : Obj} (hb : b ∈ fp) (e : h.get? b = some o) : (b, o) ∈ pinsAt fp h := List.mem_filterMap.mpr ⟨b, hb, by rw [e]; rfl⟩
theorem of_pinsAt {fp : List Addr} {h : Heap} {p : Addr × Obj} (hp : p ∈ pinsAt fp h) : p.1 ∈ fp ∧ h.get? p.1 = some p.2 := by
  obtain ⟨b, hb, e⟩ := List.mem_filterMap.mp hp
  cases q : h.get? b with
  | none => rw [q] at e; cases e
  | some o =>
    rw [q] at e
    have e' : (b, o) = p := Option.some.inj e
    subst e'
    exact ⟨hb, q⟩
theorem Inv.pinned {pins : List (Addr × Obj)} {σ : St} {H : Hp} {s : Shared} {fp : List Addr} (I : Inv X pins σ H s) (hf : ∀ b ∈ fp, FpOk X pins H b) (ho : ∀ b ∈ fp, ∃ o, s.heap.get? b = some o ∧ ∀ v, o.data ≠ .cell v) : Inv X (pins ++ pinsAt fp s.heap) σ H s :=
  I.pins_of fun p hp => (List.mem_append.mp hp).elim (fun z => I.pin p (List.mem_append_right _ z)) fun z => by
    obtain ⟨hb, e⟩ := of_pinsAt z
    obtain ⟨f0, f1, f2, _⟩ := hf p.1 hb
    obtain ⟨o, e', d⟩ := ho p.1 hb
    rw [e] at e'; cases e'
    exact ⟨e, f0, f1, f2, d⟩
theorem Inv.unpinned {pins pl : List (Addr × Obj)} {σ : St} {H : Hp} {s : Shared} (I : Inv X (pins ++ pl) σ H s) : Inv X pins σ H s := I.pins_of fun p hp => I.pin p (List.mem_append_right _ (List.mem_append_left _ hp))
theorem ps_for {iter : Expr} {body : List Stmt} {wi : TI} {g : TG} {tb : TS} {pos : Pos} (hp : PassesOwn (model X.prog X.w) X.A X.env X.xe) (hc : X.calm = true) (hi : PI X tg iter wi) (hg : PG X tg g) (hb : PSs X body tb)
    (hs : ∀ x, foldedSetIterable iter X.env x = pure x := by intro _; rfl) : PS X (.For tg iter body [] pos) (tFor wi g tb) := by
  intro pins s σ H D I h
  refine wpAny_For (thn (hi pins s σ H _ I h) fun v s1 h1 => thn h1 fun itv s2 h2 => ?_) hs
  obtain ⟨it, fp, tn, J, H2, e, I2, T, st2, f2, W, ⟨m0, w0⟩, turn⟩ := h2
  subst e
  -- what stays true of the iterator's objects through the loop
  have stat : ∀ {H' : Hp}, (∀ b ∈ fp, H' b = none) → ∀ b ∈ fp, FpOk X pins H' b := fun hn b hb => ⟨hn b hb, (f2 b hb).2⟩
  refine codeAny_forLoop_any (fun n s' => ∃ i σ' H', Inv X pins σ' H' s' ∧ tn i s'.heap ∧ (∀ b ∈ fp, H' b = none) ∧ W i n σ' H') ?_ m0 ⟨0, σ, H2, I2, st2, fun b hb => (f2 b hb).1, w0⟩
  rintro n s3 ⟨i, σ3, H3, I3, st3, fr3, w3⟩
  rcases turn i n σ3 H3 w3 with ⟨stop, qn⟩ | ⟨go, N, hN, step⟩
  · refine wpAny_passesOwn hp (thn (T.done X rfl rfl rfl hc i pins s3 σ3 H3 X.xe I3 (stat fr3) st3 stop) fun r s4 ⟨hr, I4⟩ => ?_)
    subst hr
    exact wpAny_execs_nil ⟨σ3, H3, I4, qn⟩
  · refine wpAny_passesOwn hp (thn (T.item X rfl rfl rfl hc i pins s3 σ3 H3 X.xe I3 (stat fr3) st3 go) fun r s4 ⟨u, hr, h4⟩ => ?_)
    subst hr
    refine wpAny_passesOwn hp (thn h4 fun _ s5 ⟨x, H5, I5, r5, y5, st5, fr5⟩ => ?_)
    have I5' := I5.pinned (stat fr5) (T.obj _ _ st5)
    refine wpAny_passesOwn hp (thn (hg _ s5 σ3 H5 x u _ I5' r5 (step x H5 y5)) fun _ s6 ⟨σ6, H6, I6, q6⟩ => ?_)
    refine wpAny_passesOwn hp (thn (hb _ s6 σ6 H6 _ I6 q6) fun f s7 q7 => ?_)
    have again : ∀ {σ7 : St} {H7 : Hp}, Inv X (pins ++ pinsAt fp s5.heap) σ7 H7 s7 → N σ7 H7 → ∃ m, m < n ∧ ∃ i σ' H', Inv X pins σ' H' s7 ∧ tn i s7.heap ∧ (∀ b ∈ fp, H' b = none) ∧ W i m σ' H' := fun {σ7 H7} I7 n7 => by
      obtain ⟨m', hm, w7⟩ := hN σ7 H7 n7
      refine ⟨m', hm, i + 1, σ7, H7, I7.unpinned, T.keep _ _ _ st5 fun b hb o e => (I7.pin (b, o) (List.mem_append_right _ (List.mem_append_right _ (mem_pinsAt hb e)))).1, fun b hb => ?_, w7⟩
      obtain ⟨o, e, d⟩ := T.obj _ _ st5 b hb
      exact (I7.pin (b, o) (List.mem_append_right _ (List.mem_append_right _ (mem_pinsAt hb e)))).2.1
    cases f with
    | next => obtain ⟨σ7, H7, I7, n7⟩ := q7; exact again I7 n7
    | cont => obtain ⟨σ7, H7, I7, n7⟩ := q7; exact again I7 n7
    | brk => obtain ⟨σ7, H7, I7, q7⟩ := q7; exact ⟨σ7, H7, I7.unpinned, q7⟩
    | ret v => obtain ⟨x7, σ7, H7, I7, r7, q7⟩ := q7; exact ⟨x7, σ7, H7, I7.unpinned, r7, q7⟩
end

/-! ### the forms one uses -/
/-- over a list that the body leaves as it is -/
theorem for_list {K : PySem.W.Frag} {a : Addr} {xs : List V} {g : TG} {tb : TS} {D : Ends} {σ : St} {H : Hp} (Pv : Nat → St → Hp → Prop) (h0 : Pv 0 σ H) (hl : ∀ i σ H, i ≤ xs.length → Pv i σ H → SqL K H a xs)
    (hs : ∀ i x σ H, xs[i]? = some x → Pv i σ H → g x σ H fun σ2 H2 => tb { D with nx := Pv (i + 1), ct := Pv (i + 1), bk := D.nx } σ2 H2) (hd : ∀ σ H, Pv xs.length σ H → D.nx σ H) :
    ∃ W : Nat → Nat → St → Hp → Prop, (∃ m, W 0 m σ H) ∧ ∀ i m σ H, W i m σ H →
      ((Itl K a).stop i H ∧ D.nx σ H) ∨ ((Itl K a).go i H ∧ ∃ N : St → Hp → Prop, (∀ σ' H', N σ' H' → ∃ m', m' < m ∧ W (i + 1) m' σ' H') ∧ ∀ x H', (Itl K a).yld i H x H' → g x σ H' fun σ2 H2 => tb { D with nx := N, ct := N, bk := D.nx } σ2 H2) := by
  refine ⟨fun i m σ H => m = xs.length - i ∧ i ≤ xs.length ∧ Pv i σ H, ⟨xs.length, by simp, Nat.zero_le _, h0⟩, ?_⟩
  rintro i m σ H ⟨rfl, hi, p⟩
  have q := hl i σ H hi p
  by_cases hlt : i < xs.length
  · refine .inr ⟨⟨xs, xs[i], q, by simp [hlt]⟩, Pv (i + 1), fun σ' H' p' => ⟨xs.length - (i + 1), by omega, rfl, hlt, p'⟩, fun x H' y => ?_⟩
    obtain ⟨e, y⟩ := y
    subst e
    exact hs i x σ _ (y xs q) p
  · have e : i = xs.length := by omega
    subst e
    exact .inl ⟨⟨xs, q, Nat.le_refl _⟩, hd σ H p⟩
theorem for_range {lo : Int} {n : Nat} {g : TG} {tb : TS} {D : Ends} {σ : St} {H : Hp} (Pv : Nat → St → Hp → Prop) (h0 : Pv 0 σ H)
    (hs : ∀ i σ H, i < n → Pv i σ H → g (.int (lo + i)) σ H fun σ2 H2 => tb { D with nx := Pv (i + 1), ct := Pv (i + 1), bk := D.nx } σ2 H2) (hd : ∀ σ H, Pv n σ H → D.nx σ H) :
    ∃ W : Nat → Nat → St → Hp → Prop, (∃ m, W 0 m σ H) ∧ ∀ i m σ H, W i m σ H →
      ((Itr lo n).stop i H ∧ D.nx σ H) ∨ ((Itr lo n).go i H ∧ ∃ N : St → Hp → Prop, (∀ σ' H', N σ' H' → ∃ m', m' < m ∧ W (i + 1) m' σ' H') ∧ ∀ x H', (Itr lo n).yld i H x H' → g x σ H' fun σ2 H2 => tb { D with nx := N, ct := N, bk := D.nx } σ2 H2) := by
  refine ⟨fun i m σ H => m = n - i ∧ i ≤ n ∧ Pv i σ H, ⟨n, by simp, Nat.zero_le _, h0⟩, ?_⟩
  rintro i m σ H ⟨rfl, hi, p⟩
  by_cases hlt : i < n
  · refine .inr ⟨hlt, Pv (i + 1), fun σ' H' p' => ⟨n - (i + 1), by omega, rfl, hlt, p'⟩, fun x H' y => ?_⟩
    obtain ⟨e, y⟩ := y
    subst e y
    exact hs i σ _ hlt p
  · have e : i = n := by omega
    subst e
    exact .inl ⟨Nat.le_refl _, hd σ H p⟩
end L2

namespace L2
open PySem PySem.Spec PyProof.Rows

abbrev R2 := V → V → Hp → VK → Prop
/-- a two-place operation on values: f is binaryOp op, inplaceOp op or compareOp op -/
def OpR (X : Cx) (f : Value → Value → Sem Value) (r : R2) : Prop :=
  ∀ (pins : List (Addr × Obj)) (s : Shared) (σ : St) (H : Hp) (x y : V) (v u : Value) (Q : VK), Inv X pins σ H s → RelV x v → RelV y u → r x y H Q →
    wpAny (model X.prog X.w) X.A (f v u) (EP X pins σ Q) X.xe s
/-- a one-place operation -/
def UnR (X : Cx) (f : Value → Sem Value) (r : V → Hp → VK → Prop) : Prop :=
  ∀ (pins : List (Addr × Obj)) (s : Shared) (σ : St) (H : Hp) (x : V) (v : Value) (Q : VK), Inv X pins σ H s → RelV x v → r x H Q →
    wpAny (model X.prog X.w) X.A (f v) (EP X pins σ Q) X.xe s
/-- a call of a value that is known (a builtin, a type) with values -/
def CallR (X : Cx) (f : Value) (r : List V → Hp → VK → Prop) : Prop :=
  ∀ (pins : List (Addr × Obj)) (s : Shared) (σ : St) (H : Hp) (xs : List V) (us : List Value) (Q : VK), Inv X pins σ H s → Vals xs us → r xs H Q →
    wpAny (model X.prog X.w) X.A (call f us) (EP X pins σ Q) X.xe s
def tOp (r : R2) (ta tb : TE) : TE := fun σ H Q => ta σ H fun x H1 => tb σ H1 fun y H2 => r x y H2 Q
def tUn (r : V → Hp → VK → Prop) (ta : TE) : TE := fun σ H Q => ta σ H fun x H1 => r x H1 Q
/-- ints in, under C, and a value out -/
def rI (C : Int → Int → Prop) (g : Int → Int → V) : R2 := fun x y H Q => ∃ i j, x = .int i ∧ y = .int j ∧ C i j ∧ Q (g i j) H
def rI0 (g : Int → Int → V) : R2 := fun x y H Q => ∃ i j, x = .int i ∧ y = .int j ∧ Q (g i j) H
def rU (g : Int → V) : V → Hp → VK → Prop := fun x H Q => ∃ i, x = .int i ∧ Q (g i) H

section
variable {X : Cx} {a b c : Expr} {ta tb tc : TE} {pos : Pos}

theorem binT (ha : PE X a ta) (hb : PE X b tb) {pins : List (Addr × Obj)} {s : Shared} {σ : St} {H : Hp} {R : V → V → Hp → Prop} (I : Inv X pins σ H s)
    (h : ta σ H fun x H1 => tb σ H1 fun y H2 => R x y H2) {Q : Value → Shared → Prop} {f : Value → Value → Sem Value}
    (hf : ∀ v u s2 x y H2, Inv X pins σ H2 s2 → RelV x v → RelV y u → R x y H2 → wpAny (model X.prog X.w) X.A (f v u) Q X.xe s2) :
    wpAny (model X.prog X.w) X.A (eval a X.env) (fun v s₁ => wpAny (model X.prog X.w) X.A (eval b X.env) (fun u s₂ => wpAny (model X.prog X.w) X.A (f v u) Q X.xe s₂) X.xe s₁) X.xe s := by
  refine thn (ha pins s σ H _ I h) fun v s1 ⟨x, H1, I1, r1, q1⟩ => ?_
  refine thn (hb pins s1 σ H1 _ I1 q1) fun u s2 ⟨y, H2, I2, r2, q2⟩ => ?_
  exact hf v u s2 x y H2 I2 r1 r2 q2

theorem pe_op {op : Operator} {r : R2} (ho : OpR X (binaryOp op) r) (ha : PE X a ta) (hb : PE X b tb) : PE X (.BinOp a op b pos) (tOp r ta tb) := by
  intro pins s σ H Q I h
  exact wpAny_BinOp (binT ha hb I h fun v u s2 x y H2 I2 rx ry q => ho pins s2 σ H2 x y v u Q I2 rx ry q)
theorem pe_un {op : UnaryOp} {r : V → Hp → VK → Prop} (ho : UnR X (unaryOp op) r) (ha : PE X a ta) : PE X (.UnaryOp op a pos) (tUn r ta) := by
  intro pins s σ H Q I h
  exact UnaryOp_ (thn (ha pins s σ H _ I h) fun v s1 ⟨x, H1, I1, r1, q1⟩ => ho pins s1 σ H1 x v Q I1 r1 q1)
/-! ### ints -/
theorem opI {f : Value → Value → Sem Value} {C : Int → Int → Prop} {g : Int → Int → Int}
    (rule : ∀ (i j : Int) (t u : Tok) (s : Shared) (Q : Value → Shared → Prop) (E : Value → Shared → Prop), C i j → Q (.int (g i j) s.toks) { s with toks := s.toks + 1 } → wpAny (model X.prog X.w) X.A (f (.int i t) (.int j u)) Q E s) :
    OpR X f (rI C fun i j => .int (g i j)) := by
  intro pins s σ H x y v u Q I rx ry h
  obtain ⟨i, j, rfl, rfl, hc, q⟩ := h
  obtain ⟨t, rfl⟩ := rx
  obtain ⟨t', rfl⟩ := ry
  exact rule i j t t' s _ _ hc ⟨.int (g i j), H, I.tok _, ⟨_, rfl⟩, q⟩
theorem opI0 {f : Value → Value → Sem Value} {g : Int → Int → Int}
    (rule : ∀ (i j : Int) (t u : Tok) (s : Shared) (Q : Value → Shared → Prop) (E : Value → Shared → Prop), Q (.int (g i j) s.toks) { s with toks := s.toks + 1 } → wpAny (model X.prog X.w) X.A (f (.int i t) (.int j u)) Q E s) :
    OpR X f (rI0 fun i j => .int (g i j)) := by
  intro pins s σ H x y v u Q I rx ry h
  obtain ⟨i, j, rfl, rfl, q⟩ := h
  obtain ⟨t, rfl⟩ := rx
  obtain ⟨t', rfl⟩ := ry
  exact rule i j t t' s _ _ ⟨.int (g i j), H, I.tok _, ⟨_, rfl⟩, q⟩
theorem opB0 {f : Value → Value → Sem Value} {g : Int → Int → Bool}
    (rule : ∀ (i j : Int) (t u : Tok) (s : Shared) (Q : Value → Shared → Prop) (E : Value → Shared → Prop), Q (.bool (g i j)) s → wpAny (model X.prog X.w) X.A (f (.int i t) (.int j u)) Q E s) :
    OpR X f (rI0 fun i j => .bl (g i j)) := by
  intro pins s σ H x y v u Q I rx ry h
  obtain ⟨i, j, rfl, rfl, q⟩ := h
  obtain ⟨t, rfl⟩ := rx
  obtain ⟨t', rfl⟩ := ry
  exact rule i j t t' s _ _ ⟨.bl (g i j), H, I, rfl, q⟩

def CDiv (i j : Int) : Prop := 0 < j ∧ j < 1073741824
def CMul (i j : Int) : Prop := (-(2 ^ 64) < i ∧ i < 2 ^ 64) ∨ (-(2 ^ 64) < j ∧ j < 2 ^ 64)
theorem CMul.ok {i j : Int} (h : CMul i j) : IntMulOk i j := by
  rcases h with ⟨h1, h2⟩ | ⟨h1, h2⟩
  · exact .of_left (intBits_le_64 h1 h2)
  · exact .of_right (intBits_le_64 h1 h2)
theorem op_add : OpR X (binaryOp .Add) (rI0 fun i j => .int (i + j)) := opI0 fun _ _ _ _ _ _ _ q => add_int q
theorem op_sub : OpR X (binaryOp .Sub) (rI0 fun i j => .int (i - j)) := opI0 fun _ _ _ _ _ _ _ q => sub_int q
theorem op_mul : OpR X (binaryOp .Mult) (rI CMul fun i j => .int (i * j)) := opI fun _ _ _ _ _ _ _ hc q => mul_int q hc.ok
/-- // by a positive divisor -/
theorem op_fdiv : OpR X (binaryOp .FloorDiv) (rI CDiv fun i j => .int (i / j)) := opI fun i j _ _ _ _ _ hc q => by
  have h1 : (0 : Int) < j := hc.1
  have h2 : j < 1073741824 := hc.2
  exact floordiv_int (by omega) (by rw [Int.fdiv_eq_ediv_of_nonneg i (by omega)]; exact q) (.inl (PyProof.noPylong_small (by omega)))
/-- % by a positive divisor of any size -/
theorem op_mod : OpR X (binaryOp .Mod) (rI (fun _ j => 0 < j) fun i j => .int (i % j)) := opI fun i j _ _ _ _ _ hc q => by
  have h1 : (0 : Int) < j := hc
  exact mod_int' (by omega) (by rw [Int.fmod_eq_emod_of_nonneg i (by omega)]; exact q)
theorem unI {f : Value → Sem Value} {g : Int → Int}
    (rule : ∀ (i : Int) (t : Tok) (s : Shared) (Q : Value → Shared → Prop) (E : Value → Shared → Prop), Q (.int (g i) s.toks) { s with toks := s.toks + 1 } → wpAny (model X.prog X.w) X.A (f (.int i t)) Q E s) :
    UnR X f (rU fun i => .int (g i)) := by
  intro pins s σ H x v Q I rx h
  obtain ⟨i, rfl, q⟩ := h
  obtain ⟨t, rfl⟩ := rx
  exact rule i t s _ _ ⟨.int (g i), H, I.tok _, ⟨_, rfl⟩, q⟩
theorem un_neg : UnR X (unaryOp .USub) (rU fun i => .int (-i)) := unI fun _ _ _ _ _ q => neg_int q
/-! ### bools among ints: n += (a < b) -/
end

/-! ### comparisons -/
/-- the scalars that == tells apart as data does -/
def scal : V → V → Bool
  | .non, .non => true | .non, .int _ => true | .int _, .non => true | .non, .bl _ => true | .bl _, .non => true | .non, .str _ => true | .str _, .non => true
  | .int _, .int _ => true | .bl _, .bl _ => true | .str _, .str _ => true | .byt _, .byt _ => true
  | .int _, .str _ => true | .str _, .int _ => true | .bl _, .str _ => true | .str _, .bl _ => true
  | _, _ => false
def rEq : R2 := fun x y H Q => scal x y = true ∧ Q (.bl (decide (x = y))) H
def rNe : R2 := fun x y H Q => scal x y = true ∧ Q (.bl (!decide (x = y))) H

theorem dec_int {i j : Int} : decide (V.int i = V.int j) = (i == j) := by
  rw [Bool.eq_iff_iff]
  simp
theorem dec_bl {i j : Bool} : decide (V.bl i = V.bl j) = (i == j) := by
  rw [Bool.eq_iff_iff]
  simp
theorem dec_str {i j : Str} : decide (V.str i = V.str j) = (i == j) := by
  rw [Bool.eq_iff_iff]
  simp
theorem dec_byt {i j : Array UInt8} : decide (V.byt i = V.byt j) = (i.toList == j.toList) := by
  rw [Bool.eq_iff_iff]
  cases i
  cases j
  simp

section
variable {X : Cx} {a b c : Expr} {ta tb tc : TE} {pos : Pos}
theorem fin_bl {pins : List (Addr × Obj)} {σ : St} {H : Hp} {s : Shared} {Q : VK} {k k' : Bool} (I : Inv X pins σ H s) (q : Q (.bl k) H) (e : k = k') : EP X pins σ Q (.bool k') s := by
  subst e
  exact ⟨.bl k, H, I, rfl, q⟩
theorem op_eq : OpR X (compareOp .Eq) rEq := by
  intro pins s σ H x y v u Q I rx ry h
  obtain ⟨hs, q⟩ := h
  cases x with
  | non =>
    cases rx
    cases y with
    | non => cases ry; exact PySem.EqNone.eq_none_none (fin_bl I q (by simp))
    | bl j => cases ry; exact PySem.EqNone.eq_none_bool (fin_bl I q (by simp))
    | int j => obtain ⟨t', rfl⟩ := ry; exact PySem.EqNone.eq_none_int (fin_bl I q (by simp))
    | str j => obtain ⟨t', rfl⟩ := ry; exact PySem.EqNone.eq_none_str (fin_bl I q (by simp))
    | _ => exact absurd (show false = true from hs) Bool.false_ne_true
  | bl i =>
    cases rx
    cases y with
    | non => cases ry; exact PySem.EqNone.eq_bool_none (fin_bl I q (by simp))
    | bl j => cases ry; exact eq_bool (fin_bl I q dec_bl)
    | str j => obtain ⟨t', rfl⟩ := ry; exact PySem.EqMixed.eq_bool_str (fin_bl I q (by simp))
    | _ => exact absurd (show false = true from hs) Bool.false_ne_true
  | int i =>
    obtain ⟨t, rfl⟩ := rx
    cases y with
    | non => cases ry; exact PySem.EqNone.eq_int_none (fin_bl I q (by simp))
    | int j => obtain ⟨t', rfl⟩ := ry; exact eq_int (fin_bl I q dec_int)
    | str j => obtain ⟨t', rfl⟩ := ry; exact PySem.EqMixed.eq_int_str (fin_bl I q (by simp))
    | _ => exact absurd (show false = true from hs) Bool.false_ne_true
  | str i =>
    obtain ⟨t, rfl⟩ := rx
    cases y with
    | non => cases ry; exact PySem.EqNone.eq_str_none (fin_bl I q (by simp))
    | bl j => cases ry; exact PySem.EqMixed.eq_str_bool (fin_bl I q (by simp))
    | int j => obtain ⟨t', rfl⟩ := ry; exact PySem.EqMixed.eq_str_int (fin_bl I q (by simp))
    | str j => obtain ⟨t', rfl⟩ := ry; exact eq_str (fin_bl I q dec_str)
    | _ => exact absurd (show false = true from hs) Bool.false_ne_true
  | byt i =>
    obtain ⟨t, rfl⟩ := rx
    cases y with
    | byt j => obtain ⟨t', rfl⟩ := ry; exact PySem.W.eq_bytes (fin_bl I q dec_byt)
    | _ => exact absurd (show false = true from hs) Bool.false_ne_true
  | _ => cases y <;> exact absurd (show false = true from hs) Bool.false_ne_true
theorem op_ne : OpR X (compareOp .NotEq) rNe := by
  intro pins s σ H x y v u Q I rx ry h
  obtain ⟨hs, q⟩ := h
  cases x with
  | non =>
    cases rx
    cases y with
    | non => cases ry; exact PySem.EqNone.ne_none_none (fin_bl I q (by simp))
    | bl j => cases ry; exact PySem.EqNone.ne_none_bool (fin_bl I q (by simp))
    | int j => obtain ⟨t', rfl⟩ := ry; exact PySem.EqNone.ne_none_int (fin_bl I q (by simp))
    | str j => obtain ⟨t', rfl⟩ := ry; exact PySem.EqNone.ne_none_str (fin_bl I q (by simp))
    | _ => exact absurd (show false = true from hs) Bool.false_ne_true
  | bl i =>
    cases rx
    cases y with
    | non => cases ry; exact PySem.EqNone.ne_bool_none (fin_bl I q (by simp))
    | bl j => cases ry; exact ne_bool (fin_bl I q (congrArg not dec_bl))
    | str j => obtain ⟨t', rfl⟩ := ry; exact PySem.EqMixed.ne_bool_str (fin_bl I q (by simp))
    | _ => exact absurd (show false = true from hs) Bool.false_ne_true
  | int i =>
    obtain ⟨t, rfl⟩ := rx
    cases y with
    | non => cases ry; exact PySem.EqNone.ne_int_none (fin_bl I q (by simp))
    | int j => obtain ⟨t', rfl⟩ := ry; exact ne_int (fin_bl I q (congrArg not dec_int))
    | str j => obtain ⟨t', rfl⟩ := ry; exact PySem.EqMixed.ne_int_str (fin_bl I q (by simp))
    | _ => exact absurd (show false = true from hs) Bool.false_ne_true
  | str i =>
    obtain ⟨t, rfl⟩ := rx
    cases y with
    | non => cases ry; exact PySem.EqNone.ne_str_none (fin_bl I q (by simp))
    | bl j => cases ry; exact PySem.EqMixed.ne_str_bool (fin_bl I q (by simp))
    | int j => obtain ⟨t', rfl⟩ := ry; exact PySem.EqMixed.ne_str_int (fin_bl I q (by simp))
    | str j => obtain ⟨t', rfl⟩ := ry; exact ne_str (fin_bl I q (congrArg not dec_str))
    | _ => exact absurd (show false = true from hs) Bool.false_ne_true
  | byt i =>
    obtain ⟨t, rfl⟩ := rx
    cases y with
    | byt j => obtain ⟨t', rfl⟩ := ry; exact PySem.W.ne_bytes (fin_bl I q (congrArg not dec_byt))
    | _ => exact absurd (show false = true from hs) Bool.false_ne_true
  | _ => cases y <;> exact absurd (show false = true from hs) Bool.false_ne_true

theorem op_lt : OpR X (compareOp .Lt) (rI0 fun i j => .bl (decide (i < j))) := opB0 fun _ _ _ _ _ _ _ q => lt_int q
theorem op_le : OpR X (compareOp .LtE) (rI0 fun i j => .bl (decide (i ≤ j))) := opB0 fun _ _ _ _ _ _ _ q => le_int q
theorem op_gt : OpR X (compareOp .Gt) (rI0 fun i j => .bl (decide (j < i))) := opB0 fun _ _ _ _ _ _ _ q => gt_int q
/-- two rules for one operation: by cases -/
theorem OpR.or {f : Value → Value → Sem Value} {r r' : R2} (h : OpR X f r) (h' : OpR X f r') : OpR X f (fun x y H Q => r x y H Q ∨ r' x y H Q) := by
  intro pins s σ H x y v u Q I rx ry q
  rcases q with q | q
  · exact h pins s σ H x y v u Q I rx ry q
  · exact h' pins s σ H x y v u Q I rx ry q

theorem nomark (b : Expr) {op : CmpOp} (h : op ≠ .In := by decide) (h2 : op ≠ .NotIn := by decide) : behindInMarks op b = false := by
  have e1 : (op == CmpOp.In) = false := by cases op <;> first | rfl | exact absurd rfl h
  have e2 : (op == CmpOp.NotIn) = false := by cases op <;> first | rfl | exact absurd rfl h2
  cases b <;> simp [behindInMarks, e1, e2]
/-- a comparison as a value; hm: nomark b, or (for in, not in) by with_unfolding_all rfl -/
theorem pe_cmpR {op : CmpOp} {r : R2} (ho : OpR X (compareOp op) r) (ha : PE X a ta) (hb : PE X b tb) (hm : behindInMarks op b = false) : PE X (.Compare a [op] [b] pos) (tOp r ta tb) := by
  intro pins s σ H Q I h
  exact wpAny_Compare1 (binT ha hb I h fun v u s2 x y H2 I2 rx ry q => ho pins s2 σ H2 x y v u Q I2 rx ry q) hm
/-- a reading of a value as a test -/
def tTest (t : TE) : TT := fun σ H Q => t σ H fun x H' => ∃ k, x = .bl k ∧ Q k H'
theorem pt_cmpR {op : CmpOp} {r : R2} (ho : OpR X (compareOp op) r) (ha : PE X a ta) (hb : PE X b tb) (hm : behindInMarks op b = false) : PT X (.Compare a [op] [b] pos) (tTest (tOp r ta tb)) := by
  intro pins s σ H Q I h
  refine wpAny_isTrue_Compare1 (thn (ha pins s σ H _ I h) fun v s1 ⟨x, H1, I1, r1, q1⟩ => thn (hb pins s1 σ H1 _ I1 q1) fun u s2 ⟨y, H2, I2, r2, q2⟩ =>
    thn (ho pins s2 σ H2 x y v u _ I2 r1 r2 q2) fun c s3 ⟨z, H3, I3, r3, k, e, q3⟩ => ?_) hm
  subst e
  cases r3
  exact wpAny_truthy_bool ⟨H3, I3, q3⟩
/-! ### truth -/
theorem line63 : (sizeLine : Nat) < 2 ^ 63 := by rw [sizeLine_eq]; decide
/-! ### strs and bytes -/
theorem op_add_str : OpR X (binaryOp .Add) (fun x y H Q => ∃ i j, x = .str i ∧ y = .str j ∧ i.length + j.length ≤ sizeLine ∧ Q (.str (i ++ j)) H) := by
  intro pins s σ H x y v u Q I rx ry h
  obtain ⟨i, j, rfl, rfl, hz, q⟩ := h
  obtain ⟨t, rfl⟩ := rx
  obtain ⟨t', rfl⟩ := ry
  exact add_str (fun t' tk => ⟨.str (i ++ j), H, I.tok _, ⟨_, rfl⟩, q⟩) hz
/-! ### scalar builtins, by CallR -/
theorem vals1 {x : V} {us : List Value} (r : Vals [x] us) : ∃ u, us = [u] ∧ RelV x u := by
  cases r with
  | cons r1 r2 => cases r2; exact ⟨_, rfl, r1⟩
theorem call_abs : CallR X (.builtin "abs") (fun xs H Q => ∃ i, xs = [.int i] ∧ Q (.int (if i < 0 then -i else i)) H) := by
  intro pins s σ H xs us Q I r h
  obtain ⟨i, rfl, q⟩ := h
  obtain ⟨u, rfl, t, rfl⟩ := vals1 r
  exact call_abs_int fun u tk => ⟨.int (if i < 0 then -i else i), H, I.tok _, ⟨_, rfl⟩, q⟩
theorem call_ord : CallR X (.builtin "ord") (fun xs H Q => ∃ x, xs = [.str x] ∧ x.length = 1 ∧ Q (.int (x.cps.getD 0 0 : Nat)) H) := by
  intro pins s σ H xs us Q I r h
  obtain ⟨x, rfl, hz, q⟩ := h
  obtain ⟨u, rfl, t, rfl⟩ := vals1 r
  exact ord_of_one hz ⟨.int _, H, I.tok _, ⟨_, rfl⟩, q⟩
end
end L2

namespace L2
open PySem PySem.Spec PyProof.Rows

/-! ### an instance, its attributes a map -/
structure ObjM (h : Heap) (x dx C : Addr) (mA : Str → Option Value) : Prop where
  obj : h.get? x = some (PySem.W.instObj C dx)
  ns : h.Ns1 dx mA
  ne : dx ≠ x

theorem lookIn_ns {h : Heap} {dx : Addr} {mA : Str → Option Value} (n : h.Ns1 dx mA) : ∃ od, h.get? dx = some od ∧ ∀ name, PySem.W.lookIn name od = some (mA name) := by
  obtain ⟨o, es, ep, ho, hd, hk, _, hm⟩ := n
  refine ⟨o, ho, fun name => ?_⟩
  have e := hm name
  unfold nsFind findBy at e
  rw [← Array.find?_toList] at e
  unfold PySem.W.lookIn
  rw [hd]
  dsimp only
  split
  · rename_i y q
    rw [q] at e
    exact congrArg some e
  · rename_i q
    rw [q] at e
    have a : es.toList.any (·.refKey) = false := by
      rw [List.any_eq_false]
      intro y hy
      obtain ⟨z, t, hkey⟩ := hk y (Array.mem_toList_iff.mp hy)
      simp [DictEntry.refKey, hkey]
    have a' : ¬ es.toList.any (·.refKey) = true := by rw [a]; exact Bool.false_ne_true
    rw [if_neg a']
    exact congrArg some e

theorem ObjM.look {h : Heap} {x dx C : Addr} {mA : Str → Option Value} (I : ObjM h x dx C mA) : ∃ od, PySem.W.InstAt h x (PySem.W.instObj C dx) C (some od) ∧ ∀ name, PySem.W.lookIn name od = some (mA name) :=
  let ⟨od, ho, hl⟩ := lookIn_ns I.ns
  ⟨od, ⟨I.obj, rfl, rfl, ho⟩, hl⟩

section
variable {prog : Program} {w : World} {A : Around} {E : Value → Shared → Prop} {s : Shared} {K : PySem.W.Frag} {x dx C f : Addr} {mA : Str → Option Value} {name : Str} {v : Value}

theorem get_map {expr : Bool} {Q : Value → Shared → Prop} (X : K.In s.heap) (I : ObjM s.heap x dx C mA) (hg : PySem.W.plainGet K C name = true) (hh : PySem.W.hasDictIn K C = true)
    (ha : PySem.W.findIn K (.ref C) name = some none) (hv : mA name = some v) (hv' : PySem.W.handedIn v = true) (h : Q v { s with toks := s.toks + 1 }) :
    wpAny (model prog w) A (getAttr (.ref x) name expr) Q E s := by
  obtain ⟨od, J, hl⟩ := I.look
  exact PySem.W.get_value X J (PySem.W.plainGet_of hg).1 (PySem.W.findObj_own hh ha rfl (by rw [hl, hv])) hv' h

theorem get_meth {pl : Sem Bool} {Q : Value × List Value → Shared → Prop} (X : K.In s.heap) (I : ObjM s.heap x dx C mA) (hg : PySem.W.plainGet K C name = true)
    (hf : PySem.W.findIn K (.ref C) name = some (some (.ref f))) (ht : PySem.W.isFn K (.ref f) = true) (hv : mA name = none) (h : Q (.ref f, [.ref x]) s) :
    wpAny (model prog w) A (getMethod (.ref x) name pl) Q E s := by
  obtain ⟨od, J, hl⟩ := I.look
  exact PySem.W.method_fn X J (PySem.W.plainGet_of hg).1 (PySem.W.plainGet_of hg).2 hf (beq_iff_eq.mp ht) (by show (PySem.W.lookIn name od).map (·.isSome) = some false; rw [hl, hv]; rfl) h

theorem set_map {ns : List Str} {Q : Unit → Shared → Prop} (X : K.In s.heap) (I : ObjM s.heap x dx C mA)
    (hs : PySem.W.findIn K (.ref C) "__setattr__" = some (some (.builtin "object.__setattr__"))) (hp : PySem.W.plainOver K C = true) (ht : PySem.W.takerIn K C name = some none) (hh : PySem.W.hasDictIn K C = true)
    (hw : PySem.Within mA ns) (hsz : ns.length ≤ sizeLine)
    (h : ∀ h', ObjM h' x dx C (fun y => if y = name then some v else mA y) → Heap.SameBut dx s.heap h' → Q () { s with heap := h', toks := s.toks + 2 }) :
    wpAny (model prog w) A (setAttr (.ref x) name v) Q E s := by
  obtain ⟨od, J, hl⟩ := I.look
  refine PySem.W.set_plain X J hs (PySem.W.osa_open (s := { s with toks := s.toks + 1 }) (r := none) X J hp ht fun b => ?_)
  obtain ⟨cd, hc, hd'⟩ := PySem.W.any_some hh
  have hx : s.heap.get? x = some ⟨.ref C, some dx, .plain, #[]⟩ := I.obj
  refine wpAny_bind (wpAny_pure (wpAny_bind (wpAny_bind (wpAny_loadPart hx (wpAny_bind (PySem.W.Looks.here (s := { s with toks := s.toks + 1 }) (PySem.W.looks_clsIn X hc) ?_))))))
  rw [hd']
  refine wpAny_pure (a := some dx) (wpAny_bind (wpAny_pure (wpAny_bind ?_)))
  refine wpAny_nsSet1 (s := { s with toks := s.toks + 1 }) I.ns fun h' hn2 hs2 => ?_
  obtain ⟨oD, esD, epD, hoD, hdD, hcD⟩ := hn2.count (PySem.Within.cons name v hw)
  refine wpAny_bind (wpAny_lookBehind hoD (by rw [hdD]; exact pastItsLine_dict (Nat.le_trans hcD (by rw [List.length_cons]; omega))) ?_)
  exact wpAny_pure (h _ ⟨(hs2.2 _ (Ne.symm I.ne)).trans I.obj, hn2, I.ne⟩ hs2)

/-- C(..): the dict at the heap's end, the instance behind it; then its __init__ -/
theorem make_map {R : Result → Shared → Prop} {vs : List Value} {kw : List (Str × Value)} (X : K.In s.heap) (hm : PySem.W.makesIn K C = true)
    (hi : PySem.W.findIn K (.ref C) "__init__" = some (some (.ref f))) (hf : PySem.W.typeIn K (.ref f) = some (.type "function"))
    (h : codeAny (model prog w) (A.under (.builtin "type.__call__" ⟨.ref C :: vs, kw⟩)) (.call (.ref f) ⟨.ref (s.heap.objs.size + 1) :: vs, kw⟩) (PySem.W.InitBack (s.heap.objs.size + 1) R)
      { s with heap := (s.heap.push PySem.W.emptyDict).push (PySem.W.instObj C s.heap.objs.size) }) :
    codeAny (model prog w) A (.call (.ref C) ⟨vs, kw⟩) R s := by
  obtain ⟨hh, g, d, t, os⟩ := s
  exact PySem.W.make_core (PySem.W.makes_of X hm) (PySem.W.looks_findIn X hi) (fun self => PySem.W.bind_fn X self hf) (.inl rfl) h
end

/-! ### the attributes as a list of pairs -/
def putF (f : Str) (v : V) : List (Str × V) → List (Str × V)
  | [] => [(f, v)]
  | (g, x) :: r => if g = f then (g, v) :: r else (g, x) :: putF f v r
theorem lookup_putF (f g : Str) (v : V) : ∀ fs : List (Str × V), (putF f v fs).lookup g = if g = f then some v else fs.lookup g
  | [] => by
    show List.lookup g [(f, v)] = _
    by_cases h : g = f
    · have hb : (g == f) = true := beq_iff_eq.mpr h
      simp only [List.lookup, hb, if_pos h]
    · have hb : (g == f) = false := beq_eq_false_iff_ne.mpr h
      simp only [List.lookup, hb, if_neg h]
  | (k, x) :: r => by
    have ih := lookup_putF f g v r
    rw [show putF f v ((k, x) :: r) = (if k = f then (k, v) :: r else (k, x) :: putF f v r) from rfl]
    by_cases hk : k = f
    · rw [if_pos hk]
      by_cases h : g = k
      · have hb : (g == k) = true := beq_iff_eq.mpr h
        simp only [List.lookup, hb, if_pos (h.trans hk)]
      · have hb : (g == k) = false := beq_eq_false_iff_ne.mpr h
        simp only [List.lookup, hb, if_neg (fun e : g = f => h (e.trans hk.symm))]
    · rw [if_neg hk]
      by_cases h : g = k
      · have hb : (g == k) = true := beq_iff_eq.mpr h
        simp only [List.lookup, hb, if_neg (fun e : g = f => hk (h.symm.trans e))]
      · have hb : (g == k) = false := beq_eq_false_iff_ne.mpr h
        simp only [List.lookup, hb]
        exact ih
theorem keys_putF (f : Str) (v : V) : ∀ fs : List (Str × V), f ∈ (putF f v fs).map (·.1) ∧ ∀ g, g ∈ fs.map (·.1) → g ∈ (putF f v fs).map (·.1)
  | [] => ⟨by simp [putF], fun g h => by simp at h⟩
  | (k, x) :: r => by
    obtain ⟨i1, i2⟩ := keys_putF f v r
    rw [show putF f v ((k, x) :: r) = (if k = f then (k, v) :: r else (k, x) :: putF f v r) from rfl]
    by_cases hk : k = f
    · rw [if_pos hk]
      subst hk
      exact ⟨by simp, fun g h => by simpa using h⟩
    · rw [if_neg hk]
      refine ⟨?_, fun g h => ?_⟩
      · rw [List.map_cons]
        exact List.mem_cons_of_mem _ i1
      · rw [List.map_cons] at h ⊢
        rcases List.mem_cons.mp h with e | e
        · exact List.mem_cons.mpr (.inl e)
        · exact List.mem_cons_of_mem _ (i2 g e)
theorem length_putF (f : Str) (v : V) : ∀ fs : List (Str × V), (putF f v fs).length ≤ fs.length + 1
  | [] => by simp [putF]
  | (k, x) :: r => by
    have ih := length_putF f v r
    rw [show putF f v ((k, x) :: r) = (if k = f then (k, v) :: r else (k, x) :: putF f v r) from rfl]
    by_cases hk : k = f
    · rw [if_pos hk, List.length_cons, List.length_cons]; omega
    · rw [if_neg hk, List.length_cons, List.length_cons]; omega

theorem RelO.some_of {v : V} {o : Option Value} (r : RelO (some v) o) : ∃ u, o = some u ∧ RelV v u := by
  cases o with
  | none => exact (show False from r).elim
  | some u => exact ⟨u, rfl, r⟩
theorem RelO.none_of {o : Option Value} (r : RelO none o) : o = none := by
  cases o with
  | none => rfl
  | some u => exact (show False from r).elim
theorem handed_of {v : V} {u : Value} (r : RelV v u) : PySem.W.handedIn u = true := by
  cases v with
  | non => cases (show u = Value.none from r); rfl
  | bl b => cases (show u = Value.bool b from r); rfl
  | int i => obtain ⟨t, e⟩ := (show ∃ t, u = Value.int i t from r); cases e; rfl
  | str x => obtain ⟨t, e⟩ := (show ∃ t, u = Value.str x t from r); cases e; rfl
  | byt b => obtain ⟨t, e⟩ := (show ∃ t, u = Value.bytes b t from r); cases e; rfl
  | flt b => obtain ⟨t, e⟩ := (show ∃ t, u = Value.float b t from r); cases e; rfl
  | ref a => cases (show u = Value.ref a from r); rfl
  | ty n => cases (show u = Value.type n from r); rfl

section
variable {P : Program} {w : World} {H H' : Hp} {h h' : Heap} {a C dx : Addr} {fs fs' : List (Str × V)}
theorem ins_get (hok : HOk P w H h) (e : H a = some (.ins C dx fs)) : ∃ mA, ObjM h a dx C mA ∧ (∀ f, RelO (fs.lookup f) (mA f)) ∧ PySem.Within mA (fs.map (·.1)) ∧ fs.length ≤ 1000 ∧ H dx = some (.own a) := by
  obtain ⟨d, z, ne, ob, mA, n, r, q⟩ := (show ObjOk P w H h a (.ins C dx fs) from hok a _ e)
  exact ⟨mA, ⟨ob, n, ne⟩, r, q, z, d⟩
end

/-! ### what of the text a class must have -/
structure Cls (K : PySem.W.Frag) (C : Addr) : Prop where
  pg : PySem.W.plainGet K C Str.empty = true
  hd : PySem.W.hasDictIn K C = true
  po : PySem.W.plainOver K C = true
  sa : PySem.W.findIn K (.ref C) "__setattr__" = some (some (.builtin "object.__setattr__"))
theorem Cls.get {K : PySem.W.Frag} {C : Addr} (c : Cls K C) (f : Str) : PySem.W.plainGet K C f = true := c.pg
/-- no class of it has the name -/
def NoAttr (K : PySem.W.Frag) (C : Addr) (f : Str) : Prop := PySem.W.findIn K (.ref C) f = some none
theorem NoAttr.taker {K : PySem.W.Frag} {C : Addr} {f : Str} (n : NoAttr K C f) : PySem.W.takerIn K C f = some none := by
  unfold PySem.W.takerIn
  rw [show PySem.W.findIn K (.ref C) f = some none from n]
  rfl
/-- a method: a plain def of the class or of one above it -/
structure Meth (K : PySem.W.Frag) (C : Addr) (m : Str) (f : Addr) : Prop where
  at_ : PySem.W.findIn K (.ref C) m = some (some (.ref f))
  fn : PySem.W.isFn K (.ref f) = true
  kp : PySem.W.keepIn K (.ref f) = true

section
variable {X : Cx} {pins : List (Addr × Obj)} {σ : St} {H : Hp} {s : Shared} {a C dx : Addr} {fs : List (Str × V)} {f : Str} {v : V} {A : Around} {E : Value → Shared → Prop}

theorem getattr_ok {b : Bool} {Q : Value → Shared → Prop} (I : Inv X pins σ H s) (e : H a = some (.ins C dx fs)) (c : Cls X.K C) (n : NoAttr X.K C f) (l : fs.lookup f = some v)
    (h : ∀ u s', Inv X pins σ H s' → RelV v u → Q u s') : wpAny (model X.prog X.w) A (getAttr (.ref a) f b) Q E s := by
  obtain ⟨mA, O, r, _, _, _⟩ := ins_get I.hok e
  obtain ⟨u, hu, ru⟩ := RelO.some_of (v := v) (o := mA f) (by rw [← l]; exact r f)
  exact get_map I.kIn O (c.get f) c.hd n hu (handed_of ru) (h u _ (I.tok _) ru)

theorem getmeth_ok {m : Str} {g : Addr} {pl : Sem Bool} {Q : Value × List Value → Shared → Prop} (I : Inv X pins σ H s) (e : H a = some (.ins C dx fs)) (c : Cls X.K C) (k : Meth X.K C m g) (l : fs.lookup m = none)
    (h : Q (.ref g, [.ref a]) s) : wpAny (model X.prog X.w) A (getMethod (.ref a) m pl) Q E s := by
  obtain ⟨mA, O, r, _, _, _⟩ := ins_get I.hok e
  have hn : mA m = none := RelO.none_of (by rw [← l]; exact r m)
  exact get_meth I.kIn O (c.get m) k.at_ k.fn hn h

theorem setattr_ok {y : V} {u : Value} {Q : Unit → Shared → Prop} (I : Inv X pins σ H s) (e : H a = some (.ins C dx fs)) (c : Cls X.K C) (n : NoAttr X.K C f) (hl : fs.length < 1000) (ry : RelV y u)
    (h : ∀ s', Inv X pins σ (upd H a (.ins C dx (putF f y fs))) s' → Q () s') : wpAny (model X.prog X.w) A (setAttr (.ref a) f u) Q E s := by
  obtain ⟨mA, O, r, wi, _, ho⟩ := ins_get I.hok e
  have hz : (fs.map (·.1)).length ≤ sizeLine := by rw [List.length_map, sizeLine_eq]; omega
  refine set_map I.kIn O c.sa c.po n.taker c.hd wi hz fun h' O' sb => h _ ?_
  have hd : ∃ o, h'.get? dx = some o := let ⟨o, _, _, e', _⟩ := O'.ns; ⟨o, e'⟩
  refine I.write (x := a) (e := dx) (by rw [e]; exact True.intro) (.inr ho) (fun b q hb z => (sb.2 b hb).trans z) hd ?_
  refine ⟨by rw [upd_ne O.ne]; exact ho, ?_, O.ne, O'.obj, _, O'.ns, fun g => ?_, fun g hg => ?_⟩
  · have := length_putF f y fs; omega
  · show RelO ((putF f y fs).lookup g) (if g = f then some u else mA g)
    rw [lookup_putF]
    by_cases q : g = f
    · rw [if_pos q, if_pos q]; exact ry
    · rw [if_neg q, if_neg q]; exact r g
  · by_cases q : g = f
    · rw [q]; exact (keys_putF f y fs).1
    · refine (keys_putF f y fs).2 g (wi g fun z => hg ?_)
      show (if g = f then some u else mA g) = none
      rw [if_neg q]; exact z

/-- a new instance, tracked, without attributes -/
theorem Inv.made (I : Inv X pins σ H s) : Inv X pins σ (upd (upd H s.heap.objs.size (.own (s.heap.objs.size + 1))) (s.heap.objs.size + 1) (.ins C s.heap.objs.size []))
    { s with heap := (s.heap.push PySem.W.emptyDict).push (PySem.W.instObj C s.heap.objs.size) } := by
  have e1 : (s.heap.push PySem.W.emptyDict).get? s.heap.objs.size = some PySem.W.emptyDict := Heap.get?_push_size s.heap rfl
  have e2 : ((s.heap.push PySem.W.emptyDict).push (PySem.W.instObj C s.heap.objs.size)).get? (s.heap.objs.size + 1) = some (PySem.W.instObj C s.heap.objs.size) := by
    have := Heap.get?_push_size (s.heap.push PySem.W.emptyDict) (o := PySem.W.instObj C s.heap.objs.size) rfl
    rwa [Heap.size_push] at this
  have e3 : (s.heap.push PySem.W.emptyDict).Ns s.heap.objs.size (fun _ => none) := ⟨PySem.W.emptyDict, #[], _, e1, rfl, (fun e he => absurd he (by simp)), fun _ => rfl⟩
  have I1 := I.laid (a := s.heap.objs.size) (o := .own (s.heap.objs.size + 1)) (h' := s.heap.push PySem.W.emptyDict) (t' := s.toks) (fun b u q => Heap.get?_push_of_some _ q) (Nat.le_refl _) ⟨_, e1⟩
  refine I1.laid (a := s.heap.objs.size + 1) (o := .ins C s.heap.objs.size []) (t' := s.toks) (fun b u q => Heap.get?_push_of_some _ q) (Nat.le_of_eq (Heap.size_push _ _)) ?_
  have ne : s.heap.objs.size ≠ s.heap.objs.size + 1 := Nat.ne_of_lt (Nat.lt_succ_self _)
  refine ⟨by rw [upd_ne ne, upd_same], Nat.zero_le _, ne, e2, fun _ => none, (Heap.Ns1.of_empty e3).at fun o q => Heap.get?_push_of_some _ q, fun _ => True.intro, fun y hy => absurd rfl hy⟩

/-- e.f where nothing but the object is asked: through attributeBase (super) and the last hold -/
theorem attr_of {prog : Program} {w : World} {env : Env} {e : Expr} {f : Str} {pos : Pos} {s : Shared} {Q : Value → Shared → Prop} (hb : attributeBase e f env (eval e env) = eval e env)
    (h : wpAny (model prog w) A (eval e env) (fun o s₁ => wpAny (model prog w) A (getAttr o f true) Q E s₁) E s) : wpAny (model prog w) A (eval (.Attribute e f pos) env) Q E s :=
  Attribute_any_ h (by rw [arm_eval_Attribute, hb])
end

/-! ### readings and rules -/
/-- e.f, an attribute of the instance -/
def tFld (K : PySem.W.Frag) (ta : TE) (f : Str) : TE := fun σ H Q => ta σ H fun x H1 => ∃ a C dx fs v, x = .ref a ∧ H1 a = some (.ins C dx fs) ∧ Cls K C ∧ NoAttr K C f ∧ fs.lookup f = some v ∧ Q v H1
/-- e.f = value -/
def sFld (K : PySem.W.Frag) (ta tv : TE) (f : Str) : TS := fun D σ H => tv σ H fun y H1 => ta σ H1 fun x H2 => ∃ a C dx fs, x = .ref a ∧ H2 a = some (.ins C dx fs) ∧ Cls K C ∧ NoAttr K C f ∧ fs.length < 1000 ∧
  D.nx σ (upd H2 a (.ins C dx (putF f y fs)))
section
variable {X : Cx} {o e value : Expr} {f : Str} {pos pos' tpos : Pos} {ta tv : TE}
theorem pe_fld (he : PE X e ta) (hb : attributeBase e f X.env (eval e X.env) = eval e X.env) : PE X (.Attribute e f pos) (tFld X.K ta f) := by
  intro pins s σ H Q I h
  refine attr_of hb (thn (he pins s σ H _ I h) fun u s1 ⟨x, H1, I1, rx, a, C, dx, fs, v, ex, ea, c, n, l, q⟩ => ?_)
  subst ex
  obtain rfl : u = Value.ref a := rx
  exact getattr_ok I1 ea c n l fun u' s2 I2 ru => ⟨v, H1, I2, ru, q⟩
theorem ps_fld (ha : PE X o ta) (hv : PE X value tv) (hs : swapsWith value (some (.Attribute o f pos')) pos.line X.env = pure false) : PS X (.Assign [.Attribute o f pos'] value pos) (sFld X.K ta tv f) := by
  intro pins s σ H D I h
  refine plainObj_wpAny_Assign_Attribute (thn (hv pins s σ H _ I h) fun u s1 ⟨y, H1, I1, ry, q⟩ => thn (ha pins s1 σ H1 _ I1 q) fun ov s2 ⟨x, H2, I2, rx, a, C, dx, fs, ex, ea, c, n, l, q2⟩ => ?_) hs
  subst ex
  obtain rfl : ov = Value.ref a := rx
  exact setattr_ok I2 ea c n l ry fun s3 I3 => ⟨σ, _, I3, q2⟩
/-- what is between an instance and its method: the tree of a method call -/
theorem methcall_of {pl : Sem Bool} {m : Str} {apos : Pos} {args : List Expr} {pins : List (Addr × Obj)} {s : Shared} {σ : St} {H : Hp} {Q : Value → Shared → Prop} {te : TE} (he : PE X e te) (I : Inv X pins σ H s)
    (h : te σ H fun x H1 => ∃ a C dx fs g, x = .ref a ∧ H1 a = some (.ins C dx fs) ∧ Cls X.K C ∧ Meth X.K C m g ∧ fs.lookup m = none ∧
      ∀ s1, Inv X pins σ H1 s1 → wpAny (model X.prog X.w) X.A (callWith pos (.ref g) [.ref a] (backTo pos (starEach args X.env)) (backToKw pos (keywordEach [] X.env))) Q X.xe s1)
    (ht : eval (.Call (.Attribute e m apos) args [] pos) X.env = (do
      let ov ← eval e X.env
      standAt apos.atName
      let (f, first) ← holding [ov] (getMethod ov m pl)
      callWith pos f first (backTo pos (starEach args X.env)) (backToKw pos (keywordEach [] X.env)))) :
    wpAny (model X.prog X.w) X.A (eval (.Call (.Attribute e m apos) args [] pos) X.env) Q X.xe s := by
  refine PySem.W.methodCall_KW (pl := pl) (thn (he pins s σ H _ I h) fun u s1 ⟨x, H1, I1, rx, a, C, dx, fs, g, ex, ea, c, k, l, q⟩ => ?_) ht
  subst ex
  obtain rfl : u = Value.ref a := rx
  exact getmeth_ok I1 ea c k l (q s1 I1)
end

/-! ### isinstance -/
section
variable {X : Cx} {pins : List (Addr × Obj)} {σ : St} {H : Hp} {s : Shared} {A : Around} {E : Value → Shared → Prop} {Q : Value → Shared → Prop} {c : Value} {b : Bool}
end
end L2

namespace L2
open PySem PySem.Spec PyProof.Rows

/-! ### room -/
structure Room (k : Nat) (A : Around) : Prop where
  hd : A.handled = none
  dp : A.depth + 3 * k + 5 < recursionLimit
  un : A.units + 16 * k + 200 < cLine
theorem Room.mono {j k : Nat} {A : Around} (r : Room k A) (h : j ≤ k) : Room j A := ⟨r.hd, by have := r.dp; omega, by have := r.un; omega⟩
theorem Room.deeper {k : Nat} {A : Around} (r : Room (k + 1) A) (env : Env) : Room k (A.deeper env) :=
  ⟨r.hd, by have := r.dp; show A.depth + 1 + 3 * k + 5 < _; omega, by have := r.un; show A.units + 3 + 16 * k + 200 < _; omega⟩
theorem make_depth {A : Around} {C : Addr} {us : List Value} {kw : List (Str × Value)} : (A.under (.builtin "type.__call__" ⟨.ref C :: us, kw⟩)).depth = A.depth + 1 := by
  first | rfl | simp [Around.under, Code.weight, Code.isCreation, Code.isGuard, Code.isCaller, Code.frames, Code.isFrame, guardIds]
theorem make_units {A : Around} {C : Addr} {us : List Value} {kw : List (Str × Value)} : (A.under (.builtin "type.__call__" ⟨.ref C :: us, kw⟩)).units = A.units + 1 := by
  first | rfl | simp [Around.under, Code.cUnits, Code.frames, Code.isFrame]
theorem Room.make {k : Nat} {A : Around} (r : Room (k + 1) A) (C : Addr) (us : List Value) (kw : List (Str × Value)) : Room k (A.under (.builtin "type.__call__" ⟨.ref C :: us, kw⟩)) :=
  ⟨r.hd, by have := r.dp; rw [make_depth]; omega, by have := r.un; rw [make_units]; omega⟩
theorem Room.depth {k : Nat} {A : Around} (r : Room k A) : A.depth < recursionLimit := by have := r.dp; omega
theorem Room.units {k : Nat} {A : Around} (r : Room k A) : A.units + 64 < cLine := by have := r.un; omega
/-! ### argument lists and displays -/
def tNil : TA := fun _ H Q => Q [] H
def tCons (ta : TE) (tr : TA) : TA := fun σ H Q => ta σ H fun x H1 => tr σ H1 fun xs H2 => Q (x :: xs) H2
section
variable {X : Cx} {e : Expr} {es : List Expr} {te : TE} {t : TA} {pos : Pos}
theorem pa_nil : PA X [] tNil := fun _ _ _ _ H Q I h => Calls.spliced_nil ⟨[], H, I, .nil, h⟩
theorem pa_cons (ha : PE X e te) (hr : PA X es t) (hs : starEach (e :: es) X.env = (false, eval e X.env) :: starEach es X.env := by rfl) : PA X (e :: es) (tCons te t) := by
  intro pos pins s σ H Q I h
  rw [hs]
  show wpAny _ _ (spliced ((false, eval e X.env) :: backTo pos (starEach es X.env))) _ _ s
  refine Calls.spliced_cons (thn (ha pins s σ H _ I h) fun u s1 ⟨x, H1, I1, r1, q1⟩ => ?_)
  exact thn (hr pos pins s1 σ H1 _ I1 q1) fun us s2 ⟨xs, H2, I2, r2, q2⟩ => ⟨x :: xs, H2, I2, .cons r1 r2, q2⟩

/-- a tuple, a list of written items -/
def tTup (t : TA) : TE := fun σ H Q => t σ H fun xs H1 => xs.length ≤ sizeLine ∧ ∀ p, H1 p = none → Q (.ref p) (upd H1 p (.tup xs))
def tLst (t : TA) : TE := fun σ H Q => t σ H fun xs H1 => xs.length ≤ sizeLine ∧ ∀ p, H1 p = none → Q (.ref p) (upd H1 p (.lst xs))
theorem pe_tup {x1} (h : PA X es t) : PE X (.Tuple es x1 pos) (tTup t) := by
  intro pins s σ H Q I hq
  refine wpAny_Tuple_spliced (thn (h pos pins s σ H _ I hq) fun us s1 ⟨xs, H1, I1, r, z, q⟩ => ⟨by rw [← r.length]; exact z, ?_⟩)
  have hf : H1 s1.heap.objs.size = none := I1.hok.fresh (Nat.le_refl _)
  refine ⟨.ref s1.heap.objs.size, upd H1 s1.heap.objs.size (.tup xs), I1.laid (t' := s1.toks) (fun b u e => Heap.get?_push_of_some _ e) (Nat.le_refl _) ?_, rfl, q _ hf⟩
  exact ⟨z, us, r, ⟨_, Heap.get?_push_size _ rfl, rfl, _, rfl⟩⟩
theorem pe_lst (h : PA X es t) : PE X (.List es pos) (tLst t) := by
  intro pins s σ H Q I hq
  refine wpAny_List_spliced (thn (h pos pins s σ H _ I hq) fun us s1 ⟨xs, H1, I1, r, z, q⟩ => ⟨by rw [← r.length]; exact z, ?_⟩)
  have hf : H1 s1.heap.objs.size = none := I1.hok.fresh (Nat.le_refl _)
  refine ⟨.ref s1.heap.objs.size, upd H1 s1.heap.objs.size (.lst xs), I1.laid (t' := s1.toks) (fun b u e => Heap.get?_push_of_some _ e) (Nat.le_refl _) ?_, rfl, q _ hf⟩
  exact ⟨z, us, 0, r, Heap.get?_push_size _ rfl⟩
end

/-! ### what a def promises -/
/-- a def's promise: the bound arguments in the parameters' order, the heap, the wanted end, the wanted exception -/
abbrev Sp := List V → Hp → VK → XK → Prop
/-- how an exception lies behind a call (file 08 gives it): the callers' frames, abstract heap and state ahead of the call, the wish, the exception, the state -/
abbrev CXT := List Env → Hp → Shared → XK → Value → Shared → Prop

/-- the state at a call -/
structure Env0 (P : Program) (w : World) (K : PySem.W.Frag) (mg : Str → Option Value) (base : Heap) (A : Around) (outer : List Env) (s : Shared) (H : Hp) : Prop where
  frames : A.frames = some outer
  mod : Mod K mg base
  bs : ∀ b o, base.get? b = some o → s.heap.get? b = some o ∧ H b = none
  bsz : base.objs.size ≤ s.heap.objs.size
  funs : s.heap.FunFrames base outer
  frf : ∀ b ∈ frs outer, H b = none
  hok : HOk P w H s.heap
  bare : AllBare s.gens
/-- a call's end -/
def CE (outer : List Env) (P : Program) (w : World) (H : Hp) (s : Shared) (Q : VK) (u : Value) (s' : Shared) : Prop :=
  ∃ v H', s'.os = s.os ∧ AllBare s'.gens ∧ Un (frs outer) [] H H' s.heap s'.heap ∧ HOk P w H' s'.heap ∧ RelV v u ∧ Q v H'
def CR (CX : CXT) (outer : List Env) (P : Program) (w : World) (H : Hp) (s : Shared) (Q : VK) (E : XK) (r : Result) (s' : Shared) : Prop :=
  match r with
  | .ok (.ret u) => CE outer P w H s Q u s'
  | .ok _ => False
  | .error e => CX outer H s E e s'
structure FnOk (P : Program) (w : World) (K : PySem.W.Frag) (mg : Str → Option Value) (base : Heap) (CX : CXT) (k : Nat) (f : Addr) (fd : FuncData) (ps : List Str) (sp : Sp) : Prop where
  len : ∀ vs H Q E, sp vs H Q E → vs.length = ps.length
  run : ∀ (A : Around) (outer : List Env) (s : Shared) (H : Hp) (args : Args) (us : List Value) (vs : List V) (Q : VK) (E : XK), Room k A → Env0 P w K mg base A outer s H → BindsTo s fd args (ps.zip us) → Vals vs us → sp vs H Q E →
    codeAny (model P w) A (.call (.ref f) args) (CR CX outer P w H s Q E) s
theorem FnOk.mono {P : Program} {w : World} {K : PySem.W.Frag} {mg : Str → Option Value} {base : Heap} {CX : CXT} {j k : Nat} {f : Addr} {fd : FuncData} {ps : List Str} {sp : Sp} (F : FnOk P w K mg base CX j f fd ps sp) (h : j ≤ k) :
    FnOk P w K mg base CX k f fd ps sp := ⟨F.len, fun A outer s H args us vs Q E hr => F.run A outer s H args us vs Q E (hr.mono h)⟩
theorem Env0.make {P : Program} {w : World} {K : PySem.W.Frag} {mg : Str → Option Value} {base : Heap} {A : Around} {outer : List Env} {s : Shared} {H : Hp} (e : Env0 P w K mg base A outer s H) (C : Addr) (us : List Value) (kw : List (Str × Value)) :
    Env0 P w K mg base (A.under (.builtin "type.__call__" ⟨.ref C :: us, kw⟩)) outer s H := ⟨by first | exact e.frames | (simpa [Around.under, Code.envs, Code.isFrame, pushEnvs] using e.frames), e.mod, e.bs, e.bsz, e.funs, e.frf, e.hok, e.bare⟩
section
variable {X : Cx} {pins : List (Addr × Obj)} {σ : St} {H : Hp} {s s' : Shared}
/-- from a body: what a callee wants -/
theorem Inv.env0 (I : Inv X pins σ H s) : Env0 X.prog X.w X.K X.mg X.base X.A X.stack s H :=
  ⟨I.ok.frames, I.ok.mod, I.bs, Nat.le_trans I.ok.bsz I.sz, I.stack, I.stkFree, I.hok, I.bare⟩
/-- behind a call -/
theorem Inv.after {Q : VK} {u : Value} (I : Inv X pins σ H s) (h : CE X.stack X.prog X.w H s Q u s') : EP X pins σ Q u s' := by
  obtain ⟨v, H', os, bare, un, hok, r, q⟩ := h
  obtain ⟨hh, g, d, t, os'⟩ := s'
  obtain rfl : os' = s.os := os
  exact ⟨v, H', I.call (h' := hh) (g' := g) (d' := d) (t' := t) (ch := []) un hok bare (fun b z => absurd z (by simp)), r, q⟩
end

/-! ### calls -/
/-- f(..): the written arguments, then the defaults dvs; E: what is wanted of an exception -/
def tCall (sp : Sp) (dvs : List V) (E : XK) (t : TA) : TE := fun σ H Q => t σ H fun vs H1 => sp (vs ++ dvs) H1 Q E
/-- o.m(..) of an instance of the class at C -/
def tMeth (C : Addr) (m : Str) (sp : Sp) (dvs : List V) (E : XK) (ta : TE) (t : TA) : TE := fun σ H Q => ta σ H fun x H1 => ∃ a dx fs, x = .ref a ∧ H1 a = some (.ins C dx fs) ∧ fs.lookup m = none ∧
  t σ H1 fun vs H2 => sp (x :: (vs ++ dvs)) H2 Q E
/-- C(..): a new instance and its dict, then __init__ -/
def tMake (C : Addr) (sp : Sp) (dvs : List V) (E : XK) (t : TA) : TE := fun σ H Q => t σ H fun vs H1 => ∀ x dx, H1 x = none → H1 dx = none → dx ≠ x →
  sp (.ref x :: (vs ++ dvs)) (upd (upd H1 dx (.own x)) x (.ins C dx [])) (fun v H2 => v = .non ∧ Q (.ref x) H2) E

/-- how the parameters are bound: us the positional arguments, kw the keywords' values by name, ds the defaults that fill up -/
def Binds (K : PySem.W.Frag) (fd : FuncData) (ps : List Str) (ds : List Value) : Prop :=
  ∀ (s : Shared) (us : List Value), K.In s.heap → (us ++ ds).length = ps.length → BindsTo s fd ⟨us, []⟩ (ps.zip (us ++ ds))
/-- every parameter is given -/
theorem Binds.all {K : PySem.W.Frag} {fd : FuncData} {ps : List Str} (h : ∀ us : List Value, us.length = ps.length → bindArgs fd ⟨us, []⟩ = pure (ps.zip us)) : Binds K fd ps [] := fun s us _ hl => by
  rw [List.append_nil] at hl ⊢
  exact .of_eq (h us hl)

/-- an exception of a callee reaches what this body wants of exceptions -/
def Passes (CX : CXT) (X : Cx) (E : XK) : Prop := ∀ (pins : List (Addr × Obj)) (σ : St) (H : Hp) (s : Shared) (e : Value) (s' : Shared), Inv X pins σ H s → CX X.stack H s E e s' → X.xe e s'

section
variable {X : Cx} {CX : CXT} {k : Nat} {f C : Addr} {fd : FuncData} {ps : List Str} {sp : Sp} {dvs : List V} {ds : List Value} {E : XK} {x m : Str} {p pos apos : Pos} {e o : Expr} {es : List Expr} {ta : TE} {t : TA}

/-- the callee runs -/
theorem run_fn {pins : List (Addr × Obj)} {σ : St} {H : Hp} {s : Shared} {Q : VK} {us : List Value} {vs : List V} (F : FnOk X.prog X.w X.K X.mg X.base CX k f fd ps sp) (hr : Room k X.A) (hb : Binds X.K fd ps ds) (hd : Vals dvs ds) (hx : Passes CX X E)
    (I : Inv X pins σ H s) (r : Vals vs us) (h : sp (vs ++ dvs) H Q E) : wpAny (model X.prog X.w) X.A (call (.ref f) us) (EP X pins σ Q) X.xe s := by
  have r2 : Vals (vs ++ dvs) (us ++ ds) := r.append hd
  have hl : (us ++ ds).length = ps.length := by rw [← r2.length]; exact F.len _ _ _ _ h
  refine wpAny_call (codeAny_mono (F.run X.A X.stack s H ⟨us, []⟩ (us ++ ds) (vs ++ dvs) Q E hr I.env0 (hb s us I.kIn hl) r2 h) fun r s' hq => ?_)
  cases r with
  | error e => exact hx pins σ H s e s' I hq
  | ok fl =>
    cases fl with
    | ret u => exact I.after hq
    | next => exact False.elim hq
    | brk => exact False.elim hq
    | cont => exact False.elim hq

theorem pe_call (F : FnOk X.prog X.w X.K X.mg X.base CX k f fd ps sp) (hr : Room k X.A) (hg : Gl X x) (hm : X.mg x = some (.ref f)) (hk : PySem.W.keepIn X.K (.ref f) = true) (hb : Binds X.K fd ps ds) (hd : Vals dvs ds) (hx : Passes CX X E)
    (ha : PA X (e :: es) t) (hdb : (x == ("__debug__" : Str)) = false := by decide) (he : starEach (e :: es) X.env = (false, eval e X.env) :: starEach es X.env := by rfl) (hpl : (backTo pos (starEach es X.env)).any (·.1) = false := by rfl) :
    PE X (.Call (.Name x p) (e :: es) [] pos) (tCall sp dvs E t) := by
  intro pins s σ H Q I h
  refine wpAny_Call_Name_kw (ld_glob I hg hm ?_ hdb)
  refine PySem.W.callWith_K (h₀ := X.base) I.ok.mod.kin hk (thn (ha pos pins s σ H _ I h) fun us s1 ⟨vs, H1, I1, r, q⟩ => ⟨I1.kIn, ?_⟩) he hpl
  exact run_fn F hr hb hd hx I1 r q
theorem pe_call0 (F : FnOk X.prog X.w X.K X.mg X.base CX k f fd ps sp) (hr : Room k X.A) (hg : Gl X x) (hm : X.mg x = some (.ref f)) (hk : PySem.W.keepIn X.K (.ref f) = true) (hb : Binds X.K fd ps ds) (hd : Vals dvs ds) (hx : Passes CX X E)
    (hdb : (x == ("__debug__" : Str)) = false := by decide) : PE X (.Call (.Name x p) [] [] pos) (tCall sp dvs E tNil) := by
  intro pins s σ H Q I h
  refine wpAny_Call_Name_kw (ld_glob I hg hm ?_ hdb)
  exact PySem.W.callWith_K0 I.kIn hk (run_fn (us := []) F hr hb hd hx I .nil h)

/-- o.m() -/
theorem pe_meth0 {pl : Sem Bool} (he : PE X o ta) (c : Cls X.K C) (hm : Meth X.K C m f) (F : FnOk X.prog X.w X.K X.mg X.base CX k f fd ps sp) (hr : Room k X.A) (hb : Binds X.K fd ps ds) (hd : Vals dvs ds) (hx : Passes CX X E)
    (ht : eval (.Call (.Attribute o m apos) [] [] pos) X.env = (do
      let ov ← eval o X.env
      standAt apos.atName
      let (f, first) ← holding [ov] (getMethod ov m pl)
      callWith pos f first (backTo pos (starEach [] X.env)) (backToKw pos (keywordEach [] X.env))) := by rfl) :
    PE X (.Call (.Attribute o m apos) [] [] pos) (tMeth C m sp dvs E ta tNil) := by
  intro pins s σ H Q I h
  refine PySem.W.methodCall_KW (pl := pl) (thn (he pins s σ H _ I h) fun u s1 ⟨x, H1, I1, rx, a, dx, fs, ex, ea, l, q⟩ => ?_) ht
  subst ex
  obtain rfl : u = Value.ref a := rx
  refine getmeth_ok I1 ea c hm l ?_
  exact PySem.W.callWith_K0 (first := [.ref a]) I1.kIn hm.kp (run_fn (us := [.ref a]) (vs := [.ref a]) F hr hb hd hx I1 (.cons rfl .nil) q)

/-- what a class must have to be made -/
structure Mk (K : PySem.W.Frag) (C f : Addr) : Prop where
  makes : PySem.W.makesIn K C = true
  init : PySem.W.findIn K (.ref C) "__init__" = some (some (.ref f))
  fn : PySem.W.isFn K (.ref f) = true
  kp : PySem.W.keepIn K (.ref C) = true

theorem run_make {pins : List (Addr × Obj)} {σ : St} {H : Hp} {s : Shared} {Q : VK} {us : List Value} {vs : List V} (M : Mk X.K C f) (F : FnOk X.prog X.w X.K X.mg X.base CX k f fd ps sp) (hr : Room (k + 1) X.A) (hb : Binds X.K fd ps ds) (hd : Vals dvs ds)
    (hx : Passes CX X E) (I : Inv X pins σ H s) (r : Vals vs us)
    (h : ∀ x dx, H x = none → H dx = none → dx ≠ x → sp (.ref x :: (vs ++ dvs)) (upd (upd H dx (.own x)) x (.ins C dx [])) (fun v H2 => v = .non ∧ Q (.ref x) H2) E) :
    wpAny (model X.prog X.w) X.A (call (.ref C) us) (EP X pins σ Q) X.xe s := by
  have hq := h (s.heap.objs.size + 1) s.heap.objs.size (I.hok.fresh (Nat.le_succ _)) (I.hok.fresh (Nat.le_refl _)) (Nat.ne_of_lt (Nat.lt_succ_self _))
  have I2 := Inv.made (C := C) I
  have r2 : Vals (V.ref (s.heap.objs.size + 1) :: (vs ++ dvs)) (Value.ref (s.heap.objs.size + 1) :: (us ++ ds)) := .cons rfl (r.append hd)
  have hl : (Value.ref (s.heap.objs.size + 1) :: us ++ ds).length = ps.length := by
    have e := r2.length
    rw [F.len _ _ _ _ hq] at e
    exact e.symm
  refine wpAny_call (make_map (f := f) I.kIn M.makes M.init (beq_iff_eq.mp M.fn) (codeAny_mono (F.run _ X.stack _ _ ⟨Value.ref (s.heap.objs.size + 1) :: us, []⟩ (Value.ref (s.heap.objs.size + 1) :: (us ++ ds)) _ _ E (hr.make C us [])
    (I2.env0.make C us []) (hb _ (Value.ref (s.heap.objs.size + 1) :: us) I2.kIn hl) r2 hq) fun r s' hq' => ?_))
  cases r with
  | error e => exact hx pins σ _ _ e s' I2 hq'
  | ok fl =>
    cases fl with
    | ret u =>
      obtain ⟨v, H', I3, rv, ev, q3⟩ := I2.after hq'
      subst ev
      exact ⟨rv, ⟨V.ref (s.heap.objs.size + 1), H', I3, rfl, q3⟩⟩
    | next => exact False.elim hq'
    | brk => exact False.elim hq'
    | cont => exact False.elim hq'
theorem pe_make (M : Mk X.K C f) (F : FnOk X.prog X.w X.K X.mg X.base CX k f fd ps sp) (hr : Room (k + 1) X.A) (hg : Gl X x) (hm : X.mg x = some (.ref C)) (hb : Binds X.K fd ps ds) (hd : Vals dvs ds) (hx : Passes CX X E)
    (ha : PA X (e :: es) t) (hdb : (x == ("__debug__" : Str)) = false := by decide) (he : starEach (e :: es) X.env = (false, eval e X.env) :: starEach es X.env := by rfl) (hpl : (backTo pos (starEach es X.env)).any (·.1) = false := by rfl) :
    PE X (.Call (.Name x p) (e :: es) [] pos) (tMake C sp dvs E t) := by
  intro pins s σ H Q I h
  refine wpAny_Call_Name_kw (ld_glob I hg hm ?_ hdb)
  refine PySem.W.callWith_K (h₀ := X.base) I.ok.mod.kin M.kp (thn (ha pos pins s σ H _ I h) fun us s1 ⟨vs, H1, I1, r, q⟩ => ⟨I1.kIn, ?_⟩) he hpl
  exact run_make M F hr hb hd hx I1 r q
end

/-! ### keywords -/
/-- the values of the keywords, from the left -/
def PK (X : Cx) (kws : List Keyword) (t : TA) : Prop :=
  ∀ (pos : Pos) (pins : List (Addr × Obj)) (s : Shared) (σ : St) (H : Hp) (Q : List V → Hp → Prop), Inv X pins σ H s → t σ H Q → wpAny (model X.prog X.w) X.A (evalAll ((backToKw pos (keywordEach kws X.env)).map (·.2))) (AP X pins σ Q) X.xe s
section
variable {X : Cx} {CX : CXT} {k : Nat} {f C : Addr} {fd : FuncData} {ps ks : List Str} {sp : Sp} {E : XK} {x m : Str} {p pos apos kpos : Pos} {e o : Expr} {es : List Expr} {kws : List Keyword} {te ta : TE} {t tk : TA} {nm : Option Str}
theorem pk_cons (ha : PE X e te) (hr : PK X kws t) : PK X (⟨nm, e, kpos⟩ :: kws) (tCons te t) := by
  intro pos pins s σ H Q I h
  show wpAny _ _ (evalAll ((do let v ← eval e X.env; standAt pos; pure v) :: (backToKw pos (keywordEach kws X.env)).map (·.2))) _ _ s
  refine wpAny_evalAll_cons (wpAny_bind (thn (ha pins s σ H _ I h) fun u s1 ⟨x, H1, I1, r1, q1⟩ => wpAny_bind (wpAny_standAt (wpAny_pure ?_))))
  exact thn (hr pos pins s1 σ H1 _ I1 q1) fun us s2 ⟨xs, H2, I2, r2, q2⟩ => ⟨x :: xs, H2, I2, .cons r1 r2, q2⟩

variable {g : List Value → List Value → List Value} {gV : List V → List V → List V}
end

/-! ### a def's body keeps its promise -/
/-- names: the parameters first -/
structure FnScope (N P : List Str) (sc : Scope) : Prop where
  kind : sc.kind = .function
  co : sc.isCoroutine = false
  gen : sc.isGenerator = false
  nd : N.Nodup
  pre : N.take P.length = P
  par : ∀ x ∈ P, sc.names.lookup x = some .local ∨ sc.names.lookup x = some .cell
  nofree : ∀ y ∈ sc.names, y.2 ≠ .free

theorem bindL_out {kindOf : Str → Option NameKind} {x : Str} : ∀ {binds : List (Str × Value)} {m : Str → Option Value}, (∀ v, (x, v) ∉ binds) → bindL kindOf binds m x = m x
  | [], _, _ => rfl
  | (n, v) :: r, m, h => by
    unfold bindL
    rw [bindL_out fun w hw => h w (List.mem_cons_of_mem _ hw)]
    split
    · have : x ≠ n := by rintro rfl; exact h v List.mem_cons_self
      simp [this]
    · rfl
theorem bindC_out {kindOf : Str → Option NameKind} {x : Str} : ∀ {binds : List (Str × Value)} {m : Str → Option Value}, (∀ v, (x, v) ∉ binds) → bindC kindOf binds m x = m x
  | [], _, _ => rfl
  | (n, v) :: r, m, h => by
    unfold bindC
    rw [bindC_out fun w hw => h w (List.mem_cons_of_mem _ hw)]
    split
    · rfl
    · have : x ≠ n := by rintro rfl; exact h v List.mem_cons_self
      simp [this]
theorem bindL_get {kindOf : Str → Option NameKind} {x : Str} {v : Value} : ∀ {P : List Str} {vs : List Value} {i : Nat} {m : Str → Option Value}, P.Nodup → P[i]? = some x → vs[i]? = some v → kindOf x = some .local →
    bindL kindOf (P.zip vs) m x = some v
  | [], _, _, _, _, h, _, _ => by simp at h
  | _ :: _, [], _, _, _, _, h, _ => by simp at h
  | p :: P, w :: vs, 0, m, nd, h1, h2, hk => by
    simp at h1 h2; subst h1; subst h2
    show bindL kindOf ((p, w) :: P.zip vs) m p = _
    unfold bindL
    rw [bindL_out fun v hv => (List.nodup_cons.mp nd).1 (List.of_mem_zip hv).1, if_pos hk]
    simp
  | p :: P, w :: vs, i + 1, m, nd, h1, h2, hk => by
    show bindL kindOf ((p, w) :: P.zip vs) m x = _
    unfold bindL
    exact bindL_get (i := i) (List.nodup_cons.mp nd).2 (by simpa using h1) (by simpa using h2) hk
theorem bindC_get {kindOf : Str → Option NameKind} {x : Str} {v : Value} : ∀ {P : List Str} {vs : List Value} {i : Nat} {m : Str → Option Value}, P.Nodup → P[i]? = some x → vs[i]? = some v → kindOf x ≠ some .local →
    bindC kindOf (P.zip vs) m x = some v
  | [], _, _, _, _, h, _, _ => by simp at h
  | _ :: _, [], _, _, _, _, h, _ => by simp at h
  | p :: P, w :: vs, 0, m, nd, h1, h2, hk => by
    simp at h1 h2; subst h1; subst h2
    show bindC kindOf ((p, w) :: P.zip vs) m p = _
    unfold bindC
    rw [bindC_out fun v hv => (List.nodup_cons.mp nd).1 (List.of_mem_zip hv).1, if_neg hk]
    simp
  | p :: P, w :: vs, i + 1, m, nd, h1, h2, hk => by
    show bindC kindOf ((p, w) :: P.zip vs) m x = _
    unfold bindC
    exact bindC_get (i := i) (List.nodup_cons.mp nd).2 (by simpa using h1) (by simpa using h2) hk

/-- the names' values at the entry -/
def start (N : List Str) (vs : List V) : St := vs.map some ++ List.replicate (N.length - vs.length) none

/-- the context of a def's body, at its entry; an exception leaves the frame, then lies as CX says -/
def cxOf (CX : CXT) (P : Program) (w : World) (K : PySem.W.Frag) (mg : Str → Option Value) (base : Heap) (N : List Str) (qual : Str) (scope : Scope) (f : Addr) (cd : Value) (A : Around) (outer : List Env) (s : Shared) (H : Hp) (E : XK) : Cx where
  prog := P
  w := w
  K := K
  mg := mg
  base := base
  A := A.deeper (envOfC qual scope s.heap.objs.size f cd)
  N := N
  s_0 := s
  H_0 := H
  env := envOfC qual scope s.heap.objs.size f cd
  outer := outer
  stack := envOfC qual scope s.heap.objs.size f cd :: outer
  ex := []
  calm := true
  fn := fun _ => true
  pn := []
  xe := fun e s' => wpAny (model P w) (A.deeper (envOfC qual scope s.heap.objs.size f cd)) (leaving (envOfC qual scope s.heap.objs.size f cd) e) (fun _ s'' => CX outer H s E e s'') (fun e' s'' => CX outer H s E e' s'') s'

theorem cell_has {sc : Scope} {n : Nat} {x : Str} (h : sc.names.lookup x = some .cell) : ∃ c, (cellsFrom n sc.names []).lookup x = some c := by
  have q := PySem.W.cellsFrom_some sc.names n [] (.inl h)
  exact Option.isSome_iff_exists.mp q

theorem inv_start {CX : CXT} {P : Program} {w : World} {K : PySem.W.Frag} {mg : Str → Option Value} {base : Heap} {N ps : List Str} {qual : Str} {scope : Scope} {f : Addr} {cd : Value} {A : Around} {outer : List Env} {s s1 : Shared} {H : Hp} {E : XK} {us : List Value} {vs : List V}
    (S : FnScope N ps scope) (hd : A.handled = none) (e0 : Env0 P w K mg base A outer s H) (hl : vs.length = ps.length) (r : Vals vs us)
    (x : InCallC s s.heap.objs.size (bindL (envOfC qual scope s.heap.objs.size f cd).kindOf (ps.zip us) fun _ => none) (cellsFrom (s.heap.objs.size + 1) scope.names []) (bindC (envOfC qual scope s.heap.objs.size f cd).kindOf (ps.zip us) fun _ => none) s1) :
    Inv (cxOf CX P w K mg base N qual scope f cd A outer s H E) [] (start N vs) H s1 := by
  have hpl : ps.length ≤ N.length := by have := congrArg List.length S.pre; rw [List.length_take] at this; omega
  obtain ⟨h1, tk, rfl, hk⟩ := x.done
  have noA : ∀ b : Addr, b ∉ (cxOf CX P w K mg base N qual scope f cd A outer s H E).ex := fun b z => absurd (show b ∈ ([] : List Addr) from z) (by simp)
  refine ⟨⟨e0.mod, S.kind, rfl, rfl, Nat.le_refl _, fun y z c h1 h2 => ?_, fun y hy => ?_, fun y c _ h => ?_, fun _ => hd, Around.frames_deeper e0.frames, .inr ⟨rfl, rfl⟩, fun b z => absurd z (noA b), e0.bs, e0.bsz, fun b _ _ => noA b, fun b z => absurd z (noA b), e0.funs, e0.frf⟩,
    rfl, e0.bare, Un.kept hk, ⟨_, x.toInCall.ns, fun i y v h1 h2 h3 => ?_⟩, fun y c h => ⟨_, x.cell y c h⟩, e0.hok.fresh (Nat.le_refl _), fun y c h => ?_, fun p hp => absurd (show p ∈ ([] : List (Addr × Obj)) from hp) (by simp), e0.hok.kept hk, ?_⟩
  · exact name_of_addr x.apart (PySem.mem_of_lookup h1) (PySem.mem_of_lookup h2)
  · have hy : scope.names.lookup y = some .cell ∨ scope.names.lookup y = some .free := hy
    rcases hy with hy | hy
    · exact cell_has hy
    · exact absurd rfl (S.nofree _ (PySem.mem_of_lookup hy))
  · exact Nat.le_of_lt (x.above y c (PySem.mem_of_lookup h))
  · have hi : i < vs.length := by
      unfold start at h2
      by_cases hi : i < vs.length
      · exact hi
      · rw [List.getElem?_append_right (by simpa using hi)] at h2
        rw [List.getElem?_replicate] at h2
        split at h2 <;> cases h2
    have ha : vs[i]? = some v := by
      unfold start at h2
      rw [List.getElem?_append_left (by simpa using hi), List.getElem?_map] at h2
      cases e : vs[i]? with
      | none => rw [e] at h2; cases h2
      | some a => rw [e] at h2; cases h2; rfl
    obtain ⟨u, hu, rv⟩ := r.get ha
    have hp : ps[i]? = some y := by
      rw [← S.pre, List.getElem?_take_of_lt (by omega)]; exact h1
    have ndP : ps.Nodup := by rw [← S.pre]; exact S.nd.sublist (List.take_sublist _ _)
    refine ⟨u, rv, ?_⟩
    rcases S.par y (List.mem_of_getElem? hp) with k | k
    · exact .inl ⟨k, bindL_get ndP hp hu k⟩
    · obtain ⟨c, e⟩ := cell_has (n := s.heap.objs.size + 1) k
      refine .inr ⟨.inl k, c, e, ?_⟩
      have q := x.cell y c e
      rw [bindC_get ndP hp hu (by show scope.names.lookup y ≠ _; rw [k]; decide)] at q
      exact q
  · exact e0.hok.fresh (Nat.le_of_lt (x.above y c (PySem.mem_of_lookup h)))
  · unfold start
    show _ = N.length
    rw [List.length_append, List.length_map, List.length_replicate]
    omega

/-- THE RULE: a def (or a method) of the text, by its body. The body's reading t is chosen for each entry; it is run at the parameters' values -/
theorem fn_of {CX : CXT} {P : Program} {w : World} {K : PySem.W.Frag} {mg : Str → Option Value} {base : Heap} {k : Nat} {f : Addr} {name qual : Str} {params : Arguments} {body : List Stmt} {scope : Scope} {dV kV doc pm cdv ct oc : Value} {an od : Option Addr}
    {osl : Array (Option Value)} {N ps : List Str} {sp : Sp} (lk : K.lookup f = some ⟨oc, od, .func (PySem.W.fnOf name qual params body scope dV kV doc pm an cdv ct), osl⟩) (hcd : PySem.W.codeIn K cdv qual = true) (S : FnScope N ps scope)
    (len : ∀ vs H Q E, sp vs H Q E → vs.length = ps.length)
    (hbody : ∀ (A : Around) (outer : List Env) (s : Shared) (H : Hp) (vs : List V) (Q : VK) (E : XK), Room k (A.deeper (envOfC qual scope s.heap.objs.size f cdv)) → sp vs H Q E →
      ∃ t, PSs (cxOf CX P w K mg base N qual scope f cdv A outer s H E) body t ∧ t { nx := fun _ H' => Q .non H', rt := Q } (start N vs) H) :
    FnOk P w K mg base CX (k + 1) f (PySem.W.fnOf name qual params body scope dV kV doc pm an cdv ct) ps sp := by
  refine ⟨len, fun A outer s H args us vs Q E hr e0 hb r hsp => ?_⟩
  have hl := len _ _ _ _ hsp
  have KX : K.In s.heap := e0.mod.kin.keeps fun b o e => (e0.bs b o e).1
  have lim : s.heap.NoLimit := e0.mod.nolimit.keeps fun b o e => (e0.bs b o e).1
  have hkind : ∀ y ∈ ps.zip us, scope.names.lookup y.1 = some .local ∨ (scope.names.lookup y.1 = some .cell ∧ ((cellsFrom (s.heap.objs.size + 1) scope.names []).lookup y.1).isSome = true) := fun ⟨n, v⟩ hy => by
    rcases S.par n (List.of_mem_zip hy).1 with q | q
    · exact .inl q
    · exact .inr ⟨q, PySem.W.cellsFrom_some _ _ _ (.inl q)⟩
  refine codeAny_call_function hr.depth (KX _ _ lk) rfl S.co S.gen rfl (PySem.W.codeRec_of KX hcd) (hb _ _ _ _ ?_)
  refine wpAny_newFunctionEnv_cells S.kind hkind fun env he s1 x => ?_
  subst he
  refine ⟨lim.keeps x.toInCall.keep, codeAny_func ?_⟩
  obtain ⟨t, ht, hq⟩ := hbody A outer s H vs Q E (hr.deeper _) hsp
  have I : Inv (cxOf CX P w K mg base N qual scope f cdv A outer s H E) [] (start N vs) H s1 := inv_start S hr.hd e0 hl r x
  refine wpAny_mono (ht [] s1 (start N vs) H _ I hq) (fun fl s' hs => ?_) fun e s' hs => hs
  have fin : ∀ {σ' : St} {H' : Hp} {v : V} {u : Value}, Inv (cxOf CX P w K mg base N qual scope f cdv A outer s H E) [] σ' H' s' → RelV v u → Q v H' → CE outer P w H s Q u s' :=
    fun {σ' H' v u} J rv q => ⟨v, H', J.os, J.bare, J.base, J.hok, rv, q⟩
  cases fl with
  | ret u =>
    obtain ⟨v, σ', H', J, rv, q⟩ := hs
    exact fin J rv q
  | next =>
    obtain ⟨σ', H', J, q⟩ := hs
    exact fin (v := V.non) (u := Value.none) J rfl q
  | brk =>
    obtain ⟨_, _, _, q⟩ := hs
    exact False.elim q
  | cont =>
    obtain ⟨_, _, _, q⟩ := hs
    exact False.elim q
end L2

namespace L2
open PySem PySem.Spec PyProof.Rows
section
variable {X : Cx} {x : Str} {p pos : Pos} {e : Expr} {es : List Expr} {t : TA} {id T : String} {r : List V → Hp → VK → Prop}

def tCB (r : List V → Hp → VK → Prop) (t : TA) : TE := fun σ H Q => t σ H fun vs H1 => r vs H1 Q
/-- f(e, ..), f a built-in function -/
theorem pe_callB (hc : CallR X (.builtin id) r) (hg : Gl X x) (hm : X.mg x = none) (hv : bootBuiltins x = some (.builtin id)) (ha : PA X (e :: es) t) (hn : x ≠ "__name__" := by decide) (hdb : (x == ("__debug__" : Str)) = false := by decide)
    (he : starEach (e :: es) X.env = (false, eval e X.env) :: starEach es X.env := by rfl) (hpl : (backTo pos (starEach es X.env)).any (·.1) = false := by rfl) : PE X (.Call (.Name x p) (e :: es) [] pos) (tCB r t) := by
  intro pins s σ H Q I h
  refine wpAny_Call_Name_kw (ld_blt I hg hm hv ?_ hn hdb)
  exact PyProof.Rows.callWith_builtin1 (thn (ha pos pins s σ H _ I h) fun us s1 ⟨vs, H1, I1, r1, q1⟩ => hc pins s1 σ H1 vs us Q I1 r1 q1) he hpl
end
end L2

namespace HT
open PySem PyProof.Rows

section
open PySem.SeqAt
open PySem.AutoSeq1 (wpAny_loadPart')
open PySem.MeetsSeq PySem.MeetsSeq2 PySem.MeetsSeq3

end

section
variable {prog : Program} {w : World} {A : Around} {E : Value → Shared → Prop} {s : Shared}

/-! ### t[a:b], not the whole -/
/-- a slice's bound as a place among n (d where it is left out) -/
def sIx (n d : Nat) : Option Int → Nat
  | none => d
  | some v => if v < 0 then (v + (n : Int)).toNat else min v.toNat n
end
end HT

namespace L2
open PySem PySem.Spec PyProof.Rows

/-! ### the parts of a slice -/
abbrev TO := St → Hp → (Option Int → Hp → Prop) → Prop
/-- a slice's part (left out, or an int) -/
def PO (X : Cx) (e : Option Expr) (t : TO) : Prop :=
  ∀ (pins : List (Addr × Obj)) (s : Shared) (σ : St) (H : Hp) (Q : Option Int → Hp → Prop), Inv X pins σ H s → t σ H Q →
    wpAny (model X.prog X.w) X.A (evalPart e X.env) (fun u s' => ∃ o H', Inv X pins σ H' s' ∧ IsPart u o ∧ Q o H') X.xe s
def tNoPart : TO := fun _ H Q => Q none H
def tPart (t : TE) : TO := fun σ H Q => t σ H fun x H1 => ∃ i, x = .int i ∧ Q (some i) H1

section
variable {X : Cx} {e : Expr} {te : TE} {lo hi : Option Expr} {tl th : TO} {pos p2 : Pos}

theorem po_none : PO X none tNoPart := by
  intro pins s σ H Q I h
  rw [evalPart_none]
  exact wpAny_pure ⟨none, H, I, .none, h⟩
theorem po_some (h : PE X e te) : PO X (some e) (tPart te) := by
  intro pins s σ H Q I hw
  rw [evalPart_some]
  refine thn (h pins s σ H _ I hw) fun u s1 ⟨x, H1, I1, r1, q1⟩ => ?_
  obtain ⟨i, rfl, q⟩ := q1
  obtain ⟨t, rfl⟩ := r1
  exact ⟨some i, H1, I1, .int i t, q⟩

/-- what a slice of a value is, by values: the slice object stands at sl -/
def SlR (X : Cx) (r : V → Option Int → Option Int → Hp → VK → Prop) : Prop :=
  ∀ (pins : List (Addr × Obj)) (s : Shared) (σ : St) (H : Hp) (x : V) (v vl vu : Value) (lo hi : Option Int) (sl : Addr) (Q : VK), Inv X pins σ H s → RelV x v → s.heap.IsSliceOf sl vl vu .none → IsPart vl lo → IsPart vu hi → r x lo hi H Q →
    ∃ T id, typeLookup (.type T) "__getitem__" = pure (some (.builtin id)) ∧ s.TypeIs v T ∧ wpAny (model X.prog X.w) X.A (getItem v (.ref sl)) (EP X pins σ Q) X.xe s
theorem SlR.or {r r' : V → Option Int → Option Int → Hp → VK → Prop} (h : SlR X r) (h' : SlR X r') : SlR X (fun x lo hi H Q => r x lo hi H Q ∨ r' x lo hi H Q) := by
  intro pins s σ H x v vl vu lo hi sl Q I rx hs pl pu q
  rcases q with q | q
  · exact h pins s σ H x v vl vu lo hi sl Q I rx hs pl pu q
  · exact h' pins s σ H x v vl vu lo hi sl Q I rx hs pl pu q
def tSl (r : V → Option Int → Option Int → Hp → VK → Prop) (te : TE) (tl th : TO) : TE := fun σ H Q => te σ H fun x H1 => tl σ H1 fun l H2 => th σ H2 fun u H3 => r x l u H3 Q
/-- a[lo:hi], any a -/
theorem pe_slice {r : V → Option Int → Option Int → Hp → VK → Prop} (hr : SlR X r) (he : PE X e te) (hl : PO X lo tl) (hu : PO X hi th) : PE X (.Subscript e (.Slice lo hi none p2) pos) (tSl r te tl th) := by
  intro pins s σ H Q I h
  refine Subscript_ (thn (he pins s σ H _ I h) fun v s1 ⟨x, H1, I1, r1, q1⟩ => ?_)
  refine wpAny_Slice (thn (hl pins s1 σ H1 _ I1 q1) fun vl s2 ⟨l, H2, I2, pl, q2⟩ => thn (hu pins s2 σ H2 _ I2 q2) fun vu s3 ⟨u, H3, I3, pu, q3⟩ => ?_)
  rw [evalPart_none]
  refine wpAny_pure ?_
  have I4 : Inv X pins σ H3 { s3 with heap := s3.heap.push { cls := .type "slice", data := .fields #[vl, vu, .none] } } := I3.kept (t' := s3.toks) fun b ob q => Heap.get?_push_of_some _ q
  obtain ⟨T, id, hT, ht, hg⟩ := hr pins { s3 with heap := s3.heap.push { cls := .type "slice", data := .fields #[vl, vu, .none] } } σ H3 x v vl vu l u s3.heap.objs.size Q I4 r1 (Heap.IsSliceOf.new ..) pl pu q3
  show wpAny (model X.prog X.w) X.A (subscriptTail e (.Slice lo hi none p2) v (.ref s3.heap.objs.size)) (EP X pins σ Q) X.xe { s3 with heap := s3.heap.push { cls := .type "slice", data := .fields #[vl, vu, .none] } }
  exact tail_any (ops := [.ref s3.heap.objs.size, v]) ht hT hg (by with_unfolding_all rfl)

/-- the items of xs[lo:hi] -/
def cutV (xs : List V) (lo hi : Option Int) : List V := (xs.drop (HT.sIx xs.length 0 lo)).take (HT.sIx xs.length xs.length hi - HT.sIx xs.length 0 lo)
theorem cutV_length (xs : List V) (lo hi : Option Int) : (cutV xs lo hi).length ≤ xs.length := by
  unfold cutV
  rw [List.length_take, List.length_drop]
  omega
/-! ### t < u, t + u -/
end
end L2

namespace L2
open PySem PySem.Spec PyProof.Rows

/-! ### places -/
/-- the place that an index of any sign means -/
def ixN (n : Nat) (i : Int) : Option Nat := if 0 ≤ i then (if i < n then some i.toNat else none) else if -(n : Int) ≤ i then some (i + n).toNat else none
def atI {α : Type} (xs : List α) (i : Int) : Option α := (ixN xs.length i).bind fun j => xs[j]?
theorem ixN_seq {n : Nat} {i : Int} {j : Nat} (h : ixN n i = some j) : seqIndex? i n = some j ∧ j < n ∧ -(n : Int) ≤ i ∧ i < n := by
  unfold ixN at h
  by_cases h0 : 0 ≤ i
  · rw [if_pos h0] at h
    by_cases h1 : i < n
    · rw [if_pos h1] at h
      have e : i.toNat = j := Option.some.inj h
      exact ⟨by rw [seqIndex_of h0 h1, e], by omega, by omega, h1⟩
    · rw [if_neg h1] at h; cases h
  · rw [if_neg h0] at h
    by_cases h1 : -(n : Int) ≤ i
    · rw [if_pos h1] at h
      have e : (i + n).toNat = j := Option.some.inj h
      exact ⟨by rw [seqIndex_neg (by omega) h1, e], by omega, h1, by omega⟩
    · rw [if_neg h1] at h; cases h
theorem atI_get {α : Type} {xs : List α} {i : Int} {v : α} (h : atI xs i = some v) : ∃ j, seqIndex? i xs.length = some j ∧ xs[j]? = some v ∧ j < xs.length ∧ -(xs.length : Int) ≤ i ∧ i < xs.length := by
  unfold atI at h
  cases e : ixN xs.length i with
  | none => rw [e] at h; cases h
  | some j =>
    rw [e] at h
    obtain ⟨h1, h2, h3, h4⟩ := ixN_seq e
    exact ⟨j, h1, h, h2, h3, h4⟩
theorem atI_nat {α : Type} {xs : List α} {j : Nat} {v : α} (h : xs[j]? = some v) : atI xs (j : Int) = some v := by
  have hj : j < xs.length := (List.getElem?_eq_some_iff.mp h).1
  have e : ixN xs.length (j : Int) = some j := by
    unfold ixN
    rw [if_pos (by omega), if_pos (by omega)]; simp
  unfold atI; rw [e]; exact h
/-! ### what may be subscripted -/
/-- what stands as an index of a plain subscript -/
def PlainIx (b : Expr) : Prop := ∀ o i, subscripted b false o i = operate [o, i] (getItem o i)
/-- a subscript by values -/
def IxR (X : Cx) (r : R2) : Prop :=
  ∀ (value slice : Expr) (pins : List (Addr × Obj)) (s : Shared) (σ : St) (H : Hp) (x y : V) (v u : Value) (Q : VK), Inv X pins σ H s → RelV x v → RelV y u → r x y H Q →
    subscripted slice false v u = operate [v, u] (getItem v u) → wpAny (model X.prog X.w) X.A (subscriptTail value slice v u) (EP X pins σ Q) X.xe s
/-- a call of a builtin's method by values: the receiver, the arguments -/
def MtR (X : Cx) (id : String) (r : V → List V → Hp → VK → Prop) : Prop :=
  ∀ (pins : List (Addr × Obj)) (s : Shared) (σ : St) (H : Hp) (x : V) (xs : List V) (v : Value) (us : List Value) (Q : VK), Inv X pins σ H s → RelV x v → Vals xs us → r x xs H Q →
    wpAny (model X.prog X.w) X.A (call (.builtin id) (v :: us)) (EP X pins σ Q) X.xe s
section
variable {X : Cx} {a b : Expr} {ta tb : TE} {pos : Pos}
theorem IxR.or {r r' : R2} (h : IxR X r) (h' : IxR X r') : IxR X (fun x y H Q => r x y H Q ∨ r' x y H Q) := by
  intro value slice pins s σ H x y v u Q I rx ry q hs
  rcases q with q | q
  · exact h value slice pins s σ H x y v u Q I rx ry q hs
  · exact h' value slice pins s σ H x y v u Q I rx ry q hs
theorem MtR.or {id : String} {r r' : V → List V → Hp → VK → Prop} (h : MtR X id r) (h' : MtR X id r') : MtR X id (fun x xs H Q => r x xs H Q ∨ r' x xs H Q) := by
  intro pins s σ H x xs v us Q I rx rs q
  rcases q with q | q
  · exact h pins s σ H x xs v us Q I rx rs q
  · exact h' pins s σ H x xs v us Q I rx rs q
/-- a[b] -/
theorem pe_ix {r : R2} (hr : IxR X r) (ha : PE X a ta) (hb : PE X b tb) (hs : PlainIx b) : PE X (.Subscript a b pos) (tOp r ta tb) := by
  intro pins s σ H Q I h
  exact Subscript_ (binT ha hb I h fun v u s2 x y H2 I2 rx ry q => hr a b pins s2 σ H2 x y v u Q I2 rx ry q (hs _ _))

def rIxL (K : PySem.W.Frag) : R2 := fun x y H Q => ∃ p xs i v, x = .ref p ∧ y = .int i ∧ SqL K H p xs ∧ atI xs i = some v ∧ Q v H
def rIxT (K : PySem.W.Frag) : R2 := fun x y H Q => ∃ p xs i v, x = .ref p ∧ y = .int i ∧ SqT K H p xs ∧ atI xs i = some v ∧ Q v H
theorem ix_list : IxR X (rIxL X.K) := by
  intro value slice pins s σ H x y v u Q I rx ry h hs
  obtain ⟨p, xs, i, z, rfl, rfl, hq, he, q⟩ := h
  cases rx
  obtain ⟨t, rfl⟩ := ry
  obtain ⟨its, r, pl, hz⟩ := I.list hq
  obtain ⟨j, h1, h2, h3, h4, h5⟩ := atI_get he
  obtain ⟨w, ew, rw'⟩ := r.get h2
  have hl := r.length
  have hn := line63
  have fin : EP X pins σ Q w s := ⟨z, H, I, rw', q⟩
  by_cases h0 : 0 ≤ i
  · have hj : i.toNat = j := by
      rw [seqIndex_of h0 h5] at h1
      exact Option.some.inj h1
    exact item_listR pl.isList h0 (by omega) (by rw [hj]; simpa using ew) fin hs
  · have hj : (i + (its.toArray.size : Int)).toNat = j := by
      rw [seqIndex_neg (by omega) h4] at h1
      rw [List.size_toArray, ← hl]
      exact Option.some.inj h1
    exact subscriptTail_builtinR (x := w) pl.isList.typeIs slot_list_getitem.lookup
      (wpAny_getItem_list_neg (Q := fun r s' => r = w ∧ EP X pins σ Q r s') pl.isList (by omega) (by rw [List.size_toArray] <;> omega) (by omega) (by rw [hj]; simpa using ew) ⟨rfl, fin⟩) hs
theorem ix_tup : IxR X (rIxT X.K) := by
  intro value slice pins s σ H x y v u Q I rx ry h hs
  obtain ⟨p, xs, i, z, rfl, rfl, hq, he, q⟩ := h
  cases rx
  obtain ⟨t, rfl⟩ := ry
  obtain ⟨its, r, pl, hz⟩ := I.tuple hq
  obtain ⟨j, h1, h2, h3, h4, h5⟩ := atI_get he
  obtain ⟨w, ew, rw'⟩ := r.get h2
  have hl := r.length
  have hn := line63
  have fin : EP X pins σ Q w s := ⟨z, H, I, rw', q⟩
  exact subscriptTail_builtinR (x := w) pl.typeIs slot_tuple_getitem.lookup
    (getItem_tuple (j := j) (Q := fun r s' => r = w ∧ EP X pins σ Q r s') pl (by omega) (by omega) (by rw [List.size_toArray, ← hl]; exact h1) (by simpa using ew) ⟨rfl, fin⟩) hs
/-! ### xs[i] = v, any sign -/
/-- the list's object behind a store -/
theorem mapSeq_set (its : List Value) (n j : Nat) (u : Value) : Obj.mapSeq (·.setIfInBounds j u) { cls := .type "list", data := .seq its.toArray n } = { cls := .type "list", data := .seq (its.set j u).toArray n } := by
  simp [Obj.mapSeq]
theorem Inv.lst {pins : List (Addr × Obj)} {σ : St} {H : Hp} {s : Shared} {p : Addr} {xs : List V} (I : Inv X pins σ H s) (h : H p = some (.lst xs)) :
    ∃ (its : List Value) (n : Nat), Vals xs its ∧ s.heap.get? p = some { cls := .type "list", data := .seq its.toArray n } ∧ xs.length ≤ sizeLine := by
  obtain ⟨z, its, n, r, e⟩ := I.hok p _ h
  exact ⟨its, n, r, e, z⟩
/-- the list at p is written by an update of its object -/
theorem Inv.lstUpd {pins : List (Addr × Obj)} {σ : St} {H : Hp} {s : Shared} {p : Addr} {xs ys : List V} {its its' : List Value} {n n' : Nat} {f : Obj → Obj} (I : Inv X pins σ H s) (h : H p = some (.lst xs))
    (ho : s.heap.get? p = some { cls := .type "list", data := .seq its.toArray n }) (hf : f { cls := .type "list", data := .seq its.toArray n } = { cls := .type "list", data := .seq its'.toArray n' }) (r : Vals ys its') (hz : ys.length ≤ sizeLine) (t : Nat) :
    Inv X pins σ (upd H p (.lst ys)) { s with heap := s.heap.update p f, toks := t } := by
  have e : (s.heap.update p f).get? p = some { cls := .type "list", data := .seq its'.toArray n' } := by
    rw [Heap.get?_update_self f ho (by rw [hf] <;> rfl), hf]
  refine I.write (x := p) (e := p) (by rw [h]; trivial) (.inl rfl) (fun b u hb q => (Heap.get?_update_other _ _ (Ne.symm hb)).trans q) ⟨_, e⟩ ?_
  exact ⟨hz, its', n', r, e⟩
def rSetL : V → V → V → Hp → (Hp → Prop) → Prop := fun o i v H Q => ∃ p xs k j, o = .ref p ∧ i = .int k ∧ H p = some (.lst xs) ∧ ixN xs.length k = some j ∧ Q (upd H p (.lst (xs.set j v)))
theorem set_list : PSet X rSetL := by
  intro pins s σ H o i v ov iv u Q I ro ri rv h
  obtain ⟨p, xs, k, j, rfl, rfl, hp, hj, q⟩ := h
  cases ro
  obtain ⟨t, rfl⟩ := ri
  obtain ⟨its, n, r, ho, hz⟩ := I.lst hp
  obtain ⟨h1, h2, h3, h4⟩ := ixN_seq hj
  have hl := r.length
  have hn := line63
  have I' : Inv X pins σ (upd H p (.lst (xs.set j v))) { s with heap := s.heap.update p (Obj.mapSeq (·.setIfInBounds j u)) } :=
    I.lstUpd hp ho (mapSeq_set its n j u) (r.set rv j) (by rw [List.length_set]; exact hz) s.toks
  by_cases h0 : 0 ≤ k
  · have hk : k.toNat = j := by
      rw [seqIndex_of h0 h4] at h1
      exact Option.some.inj h1
    exact PySem.W.ki_setAt ho h0 (by omega) (by rw [List.size_toArray, ← hl]; exact h4) (by rw [hk]; exact ⟨_, I', q⟩)
  · have hk : (k + (its.toArray.size : Int)).toNat = j := by
      rw [seqIndex_neg (by omega) h3] at h1
      rw [List.size_toArray, ← hl]
      exact Option.some.inj h1
    exact PySem.W.ki_setBack ho (by omega) (by rw [List.size_toArray, ← hl]; exact h3) (by omega) (by rw [hk]; exact ⟨_, I', q⟩)

/-! ### slices -/
theorem slice_bounds (lo hi : Option Int) (n : Nat) : (sliceBounds lo hi none n).1 = ((HT.sIx n 0 lo : Nat) : Int) ∧ (sliceBounds lo hi none n).2.1 = ((HT.sIx n n hi : Nat) : Int) ∧ (sliceBounds lo hi none n).2.2 = 1 := by
  refine ⟨?_, ?_, rfl⟩
  · cases lo with
    | none => simp [sliceBounds, HT.sIx]
    | some i =>
      simp only [sliceBounds, HT.sIx, Option.getD_none, show (1 : Int) > 0 by decide, if_true]
      by_cases h : i < 0
      · simp only [h, if_true] <;> omega
      · simp only [h, if_false] <;> omega
  · cases hi with
    | none => simp [sliceBounds, HT.sIx]
    | some i =>
      simp only [sliceBounds, HT.sIx, Option.getD_none, show (1 : Int) > 0 by decide, if_true]
      by_cases h : i < 0
      · simp only [h, if_true] <;> omega
      · simp only [h, if_false] <;> omega
theorem slicePick_cut (its : List Value) (lo hi : Option Int) : slicePick its.toArray lo hi none = ((its.drop (HT.sIx its.length 0 lo)).take (HT.sIx its.length its.length hi - HT.sIx its.length 0 lo)).toArray := by
  obtain ⟨h1, h2, h3⟩ := slice_bounds lo hi its.toArray.size
  unfold slicePick
  rw [h1, h2, h3]
  simp only [sliceRange_one, pick_run, List.size_toArray] <;> rfl
/-- xs[lo:hi] of a list: a new list -/
def rSlL (K : PySem.W.Frag) : V → Option Int → Option Int → Hp → VK → Prop := fun x lo hi H Q => ∃ a xs, x = .ref a ∧ SqL K H a xs ∧ ∀ p, H p = none → Q (.ref p) (upd H p (.lst (cutV xs lo hi)))
theorem sl_list : SlR X (rSlL X.K) := by
  intro pins s σ H x v vl vu lo hi sl Q I rx hs pl pu h
  obtain ⟨a, xs, rfl, hx, q⟩ := h
  cases rx
  obtain ⟨its, r, ht, hz⟩ := I.list hx
  have hlen := r.length
  refine ⟨"list", _, slot_list_getitem.lookup, ht.isList.typeIs, ?_⟩
  refine wpAny_getItem_list_slice ht.isList hs pl pu .none (by simp) ?_ (by rw [List.size_toArray] <;> omega)
  rw [slicePick_cut, ← hlen]
  refine ⟨.ref s.heap.objs.size, _, I.laid (t' := s.toks) (o := .lst (cutV xs lo hi)) (fun b ob q => Heap.get?_push_of_some _ q) (Nat.le_refl _) ?_, rfl, q _ (I.hok.fresh (Nat.le_refl _))⟩
  exact ⟨Nat.le_trans (cutV_length xs lo hi) hz, _, 0, (r.drop (HT.sIx xs.length 0 lo)).take (HT.sIx xs.length xs.length hi - HT.sIx xs.length 0 lo), Heap.get?_push_size _ rfl⟩

/-! ### in, not in: flat items -/
def flatV : V → Bool
  | .non => true
  | .bl _ => true
  | .int _ => true
  | .str _ => true
  | _ => false
/-- == of flat values -/
def eqV : V → V → Bool
  | .non, .non => true
  | .bl a, .bl b => a == b
  | .bl a, .int b => (if a then 1 else 0) == b
  | .int a, .bl b => a == (if b then 1 else 0)
  | .int a, .int b => a == b
  | .str a, .str b => a == b
  | _, _ => false
theorem eqAt_V {A : Around} {s : Shared} {y x : V} {u v : Value} (ry : RelV y u) (rx : RelV x v) (fy : flatV y = true) (fx : flatV x = true) : SeqAt.EqAt A s u v (eqV y x) := by
  cases y with
  | non =>
    cases ry
    cases x with
    | non => cases rx; exact SeqAt.EqAt.same _
    | bl b => cases rx; exact SeqAt.EqAt.none_bool b
    | int b => obtain ⟨t, rfl⟩ := rx; exact SeqAt.EqAt.none_int b t
    | str b => obtain ⟨t, rfl⟩ := rx; exact SeqAt.EqAt.none_str b t
    | _ => exact absurd (show false = true from fx) Bool.false_ne_true
  | bl a =>
    cases ry
    cases x with
    | non => cases rx; exact SeqAt.EqAt.bool_none a
    | bl b => cases rx; exact SeqAt.EqAt.bool_bool a b
    | int b => obtain ⟨t, rfl⟩ := rx; exact SeqAt.EqAt.bool_int a b t
    | str b => obtain ⟨t, rfl⟩ := rx; exact SeqAt.EqAt.bool_str a b t
    | _ => exact absurd (show false = true from fx) Bool.false_ne_true
  | int a =>
    obtain ⟨t', rfl⟩ := ry
    cases x with
    | non => cases rx; exact SeqAt.EqAt.int_none a t'
    | bl b => cases rx; exact SeqAt.EqAt.int_bool a t' b
    | int b => obtain ⟨t, rfl⟩ := rx; exact SeqAt.EqAt.int_int a t' b t
    | str b => obtain ⟨t, rfl⟩ := rx; exact SeqAt.EqAt.int_str a t' b t
    | _ => exact absurd (show false = true from fx) Bool.false_ne_true
  | str a =>
    obtain ⟨t', rfl⟩ := ry
    cases x with
    | non => cases rx; exact SeqAt.EqAt.str_none a t'
    | bl b => cases rx; exact SeqAt.EqAt.str_bool a t' b
    | int b => obtain ⟨t, rfl⟩ := rx; exact SeqAt.EqAt.str_int a t' b t
    | str b => obtain ⟨t, rfl⟩ := rx; exact SeqAt.EqAt.str_str a t' b t
    | _ => exact absurd (show false = true from fx) Bool.false_ne_true
  | _ => exact absurd (show false = true from fy) Bool.false_ne_true
/-- the items' answers, read off the values (a value's own answer does not lean on its token) -/
def eqU (x : V) (u : Value) : Bool := match u with
  | .none => eqV .non x
  | .bool b => eqV (.bl b) x
  | .int i _ => eqV (.int i) x
  | .str z _ => eqV (.str z) x
  | _ => false
theorem eqU_of {x y : V} {u : Value} (r : RelV y u) (f : flatV y = true) : eqU x u = eqV y x := by
  cases y with
  | non => cases r; rfl
  | bl b => cases r; rfl
  | int i => obtain ⟨t, rfl⟩ := r; rfl
  | str z => obtain ⟨t, rfl⟩ := r; rfl
  | _ => exact absurd (show false = true from f) Bool.false_ne_true
theorem any_eqU {x : V} : ∀ {xs : List V} {us : List Value}, Vals xs us → xs.all flatV = true → us.any (eqU x) = xs.any fun y => eqV y x
  | _, _, .nil, _ => rfl
  | y :: xs, u :: us, .cons r t, f => by
    rw [List.all_cons, Bool.and_eq_true] at f
    rw [List.any_cons, List.any_cons, eqU_of r f.1, any_eqU t f.2]
theorem mem_eqAt {A : Around} {s : Shared} {x : V} {v : Value} (rx : RelV x v) (fx : flatV x = true) : ∀ {xs : List V} {us : List Value}, Vals xs us → xs.all flatV = true → ∀ u ∈ us, SeqAt.EqAt A s u v (eqU x u)
  | _, _, .nil, _ => fun u hu => by cases hu
  | y :: xs, u :: us, .cons r t, f => fun u' hu => by
    rw [List.all_cons, Bool.and_eq_true] at f
    rcases List.mem_cons.mp hu with rfl | hu
    · rw [eqU_of r f.1]; exact eqAt_V r rx f.1 fx
    · exact mem_eqAt rx fx t f.2 u' hu
def inV (x : V) (xs : List V) : Bool := xs.any fun y => eqV y x
/-- x in a list or tuple of flat items -/
def rIn (K : PySem.W.Frag) (neg : Bool) : R2 := fun x y H Q => ∃ p xs, y = .ref p ∧ (SqL K H p xs ∨ SqT K H p xs) ∧ flatV x = true ∧ xs.all flatV = true ∧ Q (.bl (if neg then !inV x xs else inV x xs)) H
theorem op_notIn_seq : OpR X (compareOp .NotIn) (rIn X.K true) := by
  intro pins s σ H x y v u Q I rx ry h
  obtain ⟨p, xs, rfl, hq, fx, fs, q⟩ := h
  cases ry
  rcases hq with hq | hq
  · obtain ⟨its, r, pl, hz⟩ := I.list hq
    refine SeqAt.notIn_listAt (eqU x) pl.isList (fun w hw => mem_eqAt rx fx r fs w (by simpa using hw)) ⟨.bl _, H, I, rfl, ?_⟩
    rw [show its.toArray.any (eqU x) = its.any (eqU x) by simp, any_eqU r fs]
    exact q
  · obtain ⟨its, r, pl, hz⟩ := I.tuple hq
    refine SeqAt.notIn_tupleAt (eqU x) pl (fun w hw => mem_eqAt rx fx r fs w (by simpa using hw)) ⟨.bl _, H, I, rfl, ?_⟩
    rw [show its.toArray.any (eqU x) = its.any (eqU x) by simp, any_eqU r fs]
    exact q
/-! ### len, list(x), tuple(x) of any list or tuple that is read -/
theorem call_len_seq : CallR X (.builtin "len") (fun xs H Q => ∃ p ys, xs = [.ref p] ∧ (SqL X.K H p ys ∨ SqT X.K H p ys) ∧ Q (.int ys.length) H) := by
  intro pins s σ H xs us Q I r h
  obtain ⟨p, ys, rfl, hq, q⟩ := h
  obtain ⟨u, rfl, rx⟩ := vals1 r
  cases rx
  have hn := line63
  rcases hq with hq | hq
  · obtain ⟨its, r', pl, hz⟩ := I.list hq
    have hlen := r'.length
    exact Calls.call_len_list pl.isList (by simp only [List.size_toArray] <;> omega) ⟨.int ys.length, H, I.tok _, ⟨s.toks + 1, by rw [List.size_toArray, hlen]⟩, q⟩
  · obtain ⟨its, r', pl, hz⟩ := I.tuple hq
    have hlen := r'.length
    exact len_tuple pl (by simp only [List.size_toArray] <;> omega) ⟨.int ys.length, H, I.tok _, ⟨s.toks + 1, by rw [List.size_toArray, hlen]⟩, q⟩
theorem CallR.or {f : Value} {r r' : List V → Hp → VK → Prop} (h : CallR X f r) (h' : CallR X f r') : CallR X f (fun xs H Q => r xs H Q ∨ r' xs H Q) := by
  intro pins s σ H xs us Q I rs q
  rcases q with q | q
  · exact h pins s σ H xs us Q I rs q
  · exact h' pins s σ H xs us Q I rs q
/-! ### the call of a builtin's method: o.m(..) -/
/-- the value is of that builtin type -/
def tyV (K : PySem.W.Frag) (T : String) (x : V) (H : Hp) : Prop := match x with
  | .str _ => T = "str"
  | .int _ => T = "int"
  | .ref p => (T = "list" ∧ ∃ xs, SqL K H p xs) ∨ (T = "tuple" ∧ ∃ o, K.lookup p = some o ∧ o.cls = .type "tuple" ∧ o.dict = none) ∨
      (T = "dict" ∧ ((∃ kvs, H p = some (.dK kvs)) ∨ ∃ kvs, H p = some (.dT kvs))) ∨ (T = "set" ∧ ∃ S n, H p = some (.set S n))
  | _ => False
theorem tyV_is {pins : List (Addr × Obj)} {σ : St} {H : Hp} {s : Shared} {T : String} {x : V} {v : Value} (I : Inv X pins σ H s) (r : RelV x v) (ty : tyV X.K T x H) :
    s.TypeIs v T ∧ ∀ a, v = .ref a → ∃ ob, s.heap.get? a = some ob ∧ ob.dict = none := by
  cases x with
  | str z =>
    obtain ⟨t, rfl⟩ := r
    cases (show T = "str" from ty)
    exact ⟨typeIs_str s z t, fun _ e => nomatch e⟩
  | int i =>
    obtain ⟨t, rfl⟩ := r
    cases (show T = "int" from ty)
    exact ⟨typeIs_int s i t, fun _ e => nomatch e⟩
  | ref p =>
    cases r
    rcases ty with ⟨rfl, xs, hq⟩ | ⟨rfl, o, hk, hc, hd⟩ | ⟨rfl, hk⟩ | ⟨rfl, S, n, hk⟩
    · obtain ⟨its, _, pl, _⟩ := I.list hq
      refine ⟨pl.isList.typeIs, fun a e => ?_⟩
      cases e
      obtain ⟨o, n, e, c, hd, _⟩ := pl
      exact ⟨o, e, hd⟩
    · refine ⟨⟨o, I.kIn p o hk, hc⟩, fun a e => ?_⟩
      cases e
      exact ⟨o, I.kIn _ o hk, hd⟩
    · have z : ∃ o, s.heap.get? p = some o ∧ o.ExactDict := by
        rcases hk with ⟨kvs, hk⟩ | ⟨kvs, hk⟩
        · obtain ⟨_, _, _, _, o, _, _, e, ex, _⟩ := I.hok p _ hk
          exact ⟨o, e, ex⟩
        · obtain ⟨_, _, _, _, o, _, _, e, ex, _⟩ := I.hok p _ hk
          exact ⟨o, e, ex⟩
      obtain ⟨o, e, ex⟩ := z
      refine ⟨⟨o, e, ex.1⟩, fun a e2 => ?_⟩
      cases e2
      exact ⟨o, e, ex.2.1⟩
    · obtain ⟨o, _, _, _, e, ex, _⟩ := I.hok p _ hk
      refine ⟨⟨o, e, ex.1⟩, fun a e2 => ?_⟩
      cases e2
      exact ⟨o, e, ex.2.1⟩
  | _ => exact False.elim ty
def tBM (K : PySem.W.Frag) (T : String) (r : V → List V → Hp → VK → Prop) (to : TE) (t : TA) : TE := fun σ H Q => to σ H fun x H1 => tyV K T x H1 ∧ t σ H1 fun xs H2 => r x xs H2 Q
variable {o e : Expr} {es : List Expr} {to : TE} {t : TA} {name : Str} {apos cpos : Pos} {T id : String} {r : V → List V → Hp → VK → Prop}
theorem pe_bm (pa : PlainAttrs T) (slot : Slot T name id) (hty : typeOf (.builtin id) = pure (.type "method_descriptor")) (hm : MtR X id r) (ho : PE X o to) (ha : PA X (e :: es) t)
    (hbase : attributeBase o name X.env (eval o X.env) = eval o X.env := by rfl)
    (hfew : ((backTo cpos (starEach (e :: es) X.env)).all (fun x => !x.1) && (backToKw cpos (keywordEach [] X.env)).all (fun x => x.1.isSome)
      && decide ((e :: es).length + ([] : List Keyword).length + (if ([] : List Keyword).isEmpty then 0 else 1) < 30)) = true := by rfl)
    (hline : (apos.endLine == cpos.line) = true := by rfl) (hs : starEach (e :: es) X.env = (false, eval e X.env) :: starEach es X.env := by rfl) (hplain : (backTo cpos (starEach es X.env)).any (·.1) = false := by rfl) :
    PE X (.Call (.Attribute o name apos) (e :: es) [] cpos) (tBM X.K T r to t) := by
  intro pins s σ H Q I h
  refine wpAny_Call_method_late hbase hfew hline rfl (thn (ho pins s σ H _ I h) fun v s1 ⟨x, H1, I1, r1, ty, q1⟩ => ?_)
  obtain ⟨h1, h2⟩ := tyV_is I1 r1 ty
  refine ⟨T, id, pa, slot, hty, h1, h2, ?_⟩
  have hA := ha cpos pins s1 σ H1 _ I1 q1
  rw [hs] at hA ⊢
  refine Calls.callWith_builtin (by show (false || (backTo cpos (starEach es X.env)).any (·.1)) = false; rw [hplain] <;> rfl) (Calls.evalArgs_plain ?_)
  exact thn hA fun us s2 ⟨vs, H2, I2, r2, q2⟩ => hm pins s2 σ H2 x vs v us Q I2 r1 r2 q2
/- xs.append(e), list.index on a module's tuple .. are MtR facts of 06m -/
end
end L2

namespace L2
open PySem PySem.Spec PyProof.Rows

def MtM (X : Cx) (id : String) (r : V → List V → Hp → VK → Prop) : Prop :=
  ∀ (pins : List (Addr × Obj)) (s : Shared) (σ : St) (H : Hp) (x : V) (xs : List V) (v : Value) (us : List Value) (Q : VK), Inv X pins σ H s → RelV x v → Vals xs us → r x xs H Q →
    wpAny (model X.prog X.w) X.A (call (.builtin id) (v :: us)) (EP X pins σ Q) X.xe s

/-! ### lists of values -/
theorem Vals.one : ∀ {x : V} {us : List Value}, Vals [x] us → ∃ u, us = [u] ∧ RelV x u
  | _, _, .cons r .nil => ⟨_, rfl, r⟩
theorem Vals.two : ∀ {x y : V} {us : List Value}, Vals [x, y] us → ∃ u v, us = [u, v] ∧ RelV x u ∧ RelV y v
  | _, _, _, .cons r (.cons q .nil) => ⟨_, _, rfl, r, q⟩
theorem Vals.zero : ∀ {us : List Value}, Vals [] us → us = []
  | _, .nil => rfl
section
variable {X : Cx} {pins : List (Addr × Obj)} {σ : St} {H : Hp} {s : Shared} {l b : Addr} {xs ys zs : List V}

/-! ### the two steps: a tracked list is rewritten, a new list is laid -/
theorem Inv.lset {its its' : List Value} {n : Nat} {f : Array Value → Array Value} {t' : Nat} (I : Inv X pins σ H s) (hH : H l = some (.lst xs))
    (e : s.heap.get? l = some { cls := .type "list", data := .seq its.toArray n }) (hf : f its.toArray = its'.toArray) (hv : Vals ys its') (hz : ys.length ≤ sizeLine) :
    Inv X pins σ (upd H l (.lst ys)) { s with heap := s.heap.update l (Obj.mapSeq f), toks := t' } := by
  have q := PySem.IsL.update e f
  rw [hf] at q
  refine I.write (x := l) (e := l) (by rw [hH]; exact trivial) (.inl rfl) (fun b' u hb hu => (Heap.get?_update_other s.heap (Obj.mapSeq f) (Ne.symm hb)).trans hu) ⟨_, q⟩ ?_
  exact ⟨hz, its', _, hv, q⟩
theorem Inv.lnew {its : List Value} {t' : Nat} (I : Inv X pins σ H s) (hv : Vals ys its) (hz : ys.length ≤ sizeLine) :
    Inv X pins σ (upd H s.heap.objs.size (.lst ys)) { s with heap := s.heap.push { cls := .type "list", data := .seq its.toArray }, toks := t' } :=
  I.laid (fun _ _ q => Heap.get?_push_of_some _ q) (Nat.le_refl _) ⟨hz, its, 0, hv, Heap.get?_push_size _ rfl⟩
theorem Inv.fresh (I : Inv X pins σ H s) : H s.heap.objs.size = none := I.hok.fresh (Nat.le_refl _)
theorem Inv.lstM (I : Inv X pins σ H s) (hH : H l = some (.lst xs)) : xs.length ≤ sizeLine ∧ ∃ (its : List Value) (n : Nat), Vals xs its ∧ xs.length = its.length ∧ s.heap.get? l = some { cls := .type "list", data := .seq its.toArray n } := by
  obtain ⟨z, its, n, r, e⟩ := I.hok l _ hH
  exact ⟨z, its, n, r, r.length, e⟩

theorem notLongL {n : Nat} (h : n ≤ sizeLine) : Builtin.List.listTooLong n = false := by
  unfold Builtin.List.listTooLong
  exact decide_eq_false (by omega)
end

section
variable {X : Cx}

/-! ### methods -/
def rAppend : V → List V → Hp → VK → Prop := fun x vs H Q => ∃ l xs y, x = .ref l ∧ vs = [y] ∧ H l = some (.lst xs) ∧ xs.length < sizeLine ∧ Q .non (upd H l (.lst (xs ++ [y])))
theorem mt_append : MtM X "list.append" rAppend := by
  intro pins s σ H x vs v us Q I rx rv h
  obtain ⟨l, xs, y, rfl, rfl, hH, hz, q⟩ := h
  cases rx
  obtain ⟨u, rfl, ru⟩ := rv.one
  obtain ⟨z, its, n, r, hl, e⟩ := I.lstM hH
  refine call_meets F.slot_list_append ⟨_, e, rfl⟩ F.entry_list_append (F.args_list_append_2 _ _) (PySem.list_append l its.toArray n u (by rw [List.size_toArray]; omega)) ⟨e, ?_⟩
  refine ⟨.non, _, I.lset (its' := its ++ [u]) hH e (by simp) (r.append (.cons ru .nil)) ?_, rfl, q⟩
  rw [List.length_append, List.length_singleton]
  omega

def rExtend : V → List V → Hp → VK → Prop := fun x vs H Q => ∃ l b xs zs, x = .ref l ∧ vs = [.ref b] ∧ H l = some (.lst xs) ∧ H b = some (.lst zs) ∧ xs.length + zs.length ≤ sizeLine ∧ Q .non (upd H l (.lst (xs ++ zs)))
theorem mt_extend : MtM X "list.extend" rExtend := by
  intro pins s σ H x vs v us Q I rx rv h
  obtain ⟨l, b, xs, zs, rfl, rfl, hH, hB, hz, q⟩ := h
  cases rx
  obtain ⟨u, rfl, ru⟩ := rv.one
  cases ru
  obtain ⟨z, its, n, r, hl, e⟩ := I.lstM hH
  obtain ⟨z2, its2, n2, r2, hl2, e2⟩ := I.lstM hB
  have hsz : its.toArray.size + its2.toArray.size ≤ sizeLine := by rw [List.size_toArray, List.size_toArray]; omega
  have hlong : ¬ (!its.toArray.isEmpty && Builtin.List.listTooLong (its.toArray.size + its2.toArray.size)) = true := by
    rw [notLongL hsz, Bool.and_false]
    exact Bool.false_ne_true
  refine call_meets F.slot_list_extend ⟨_, e, rfl⟩ F.entry_list_extend (F.args_list_extend_2 _ _)
    (AutoSeq1.list_extend_list_list_0 l its.toArray n b its2.toArray n2 hlong (by rw [List.size_toArray]; omega) (by omega)) ⟨e, e2, ?_⟩
  refine ⟨.non, _, I.lset (its' := its ++ its2) hH e (by simp) (r.append r2) ?_, rfl, q⟩
  rw [List.length_append]
  omega

/-! ### list + list, list += list, list * int -/
def rCat : R2 := fun x y H Q => ∃ l b xs zs, x = .ref l ∧ y = .ref b ∧ H l = some (.lst xs) ∧ H b = some (.lst zs) ∧ xs.length + zs.length ≤ sizeLine ∧ ∀ p, H p = none → Q (.ref p) (upd H p (.lst (xs ++ zs)))
theorem op_cat : OpR X (binaryOp .Add) rCat := by
  intro pins s σ H x y v u Q I rx ry h
  obtain ⟨l, b, xs, zs, rfl, rfl, hH, hB, hz, q⟩ := h
  cases rx
  cases ry
  obtain ⟨z, its, n, r, hl, e⟩ := I.lstM hH
  obtain ⟨z2, its2, n2, r2, hl2, e2⟩ := I.lstM hB
  refine PySem.P.add_list e e2 ?_ (by rw [List.size_toArray, List.size_toArray]; omega)
  have ea : its.toArray ++ its2.toArray = (its ++ its2).toArray := by simp
  rw [ea]
  exact ⟨.ref _, _, I.lnew (t' := s.toks) (r.append r2) (by rw [List.length_append]; omega), rfl, q _ I.fresh⟩
/-! ### del xs[i] -/
end

/-! ### xs[a:b] = ys -/
section
variable {prog : Program} {w : World} {A : Around} {E : Value → Shared → Prop} {s : Shared}
end

section
variable {X : Cx}
end
end L2

namespace L2
open PySem PySem.Spec PyProof.Rows

theorem Vals.ints : ∀ {ns : List Int} {us : List Value}, Vals (ns.map V.int) us → IntsAre us ns
  | [], us, h => by
    rw [List.map_nil] at h
    cases h
    exact IntsAre.nil
  | n :: ns, us, h => by
    rw [List.map_cons] at h
    cases h with
    | cons r t =>
      obtain ⟨k, rfl⟩ := r
      exact IntsAre.cons n k (Vals.ints t)
theorem vals_of_ints : ∀ {us : List Value} {ns : List Int}, IntsAre us ns → Vals (ns.map V.int) us
  | _, _, .nil => by rw [List.map_nil]; exact Paired.nil
  | _, _, .cons n t h => by rw [List.map_cons]; exact Paired.cons (show RelV (V.int n) (Value.int n t) from ⟨t, rfl⟩) (vals_of_ints h)
theorem Vals.strs : ∀ {xs : List Str} {us : List Value}, Vals (xs.map V.str) us → StrsAre us xs
  | [], us, h => by
    rw [List.map_nil] at h
    cases h
    exact StrsAre.nil
  | x :: xs, us, h => by
    rw [List.map_cons] at h
    cases h with
    | cons r t =>
      obtain ⟨k, rfl⟩ := r
      exact StrsAre.cons x k (Vals.strs t)
/-! ### the library's walks over a list of ints, kept objects alone -/
section
variable {prog : Program} {w : World} {A : Around} {E : Value → Shared → Prop} {s : Shared} {l : Addr} {its : List Value} {ns : List Int} {Q : Value → Shared → Prop}
end

/-! ### the calls, by values (CallR of 03t; MtR of 06l) -/
section
variable {X : Cx}
/-! sorted, sort (fewer than 64 items: the library's own bound) -/
end

/-! ### list.index, flat items -/
section
variable {X : Cx}
end

/-! ### type(x) of an own instance; is, is not of a module's class -/
section
variable {X : Cx}
end

/-! ### any(xs), all(xs) of a list of bools -/
section
variable {X : Cx}
end

/-! ### == and != of data at any depth: none, bools, ints, texts, lists, tuples -/
mutual
inductive Dp (K : PySem.W.Frag) (H : Hp) : V → PyData → Prop
  | non : Dp K H .non .none
  | bl (b : Bool) : Dp K H (.bl b) (.bool b)
  | int (i : Int) : Dp K H (.int i) (.int i)
  | str (x : Str) : Dp K H (.str x) (.str x)
  | lst {a : Addr} {xs : List V} {ds : List PyData} : SqL K H a xs → DpAll K H xs ds → Dp K H (.ref a) (.list ds)
  | tup {a : Addr} {xs : List V} {ds : List PyData} : SqT K H a xs → DpAll K H xs ds → Dp K H (.ref a) (.tuple ds)
inductive DpAll (K : PySem.W.Frag) (H : Hp) : List V → List PyData → Prop
  | nil : DpAll K H [] []
  | cons {v : V} {vs : List V} {d : PyData} {ds : List PyData} : Dp K H v d → DpAll K H vs ds → DpAll K H (v :: vs) (d :: ds)
end
section
variable {X : Cx} {pins : List (Addr × Obj)} {σ : St} {H : Hp} {s : Shared}
mutual
theorem Dp.reads (I : Inv X pins σ H s) : ∀ (d : PyData) (v : V) (u : Value), Dp X.K H v d → RelV v u → ∃ as, Reads s.heap u d as
  | .none, _, _, h, r => by
    cases h
    cases r
    exact ⟨_, Reads.none⟩
  | .bool b, _, _, h, r => by
    cases h
    cases r
    exact ⟨_, Reads.bool b⟩
  | .int i, _, _, h, r => by
    cases h
    obtain ⟨t, rfl⟩ := r
    exact ⟨_, Reads.int i t⟩
  | .str x, _, _, h, r => by
    cases h
    obtain ⟨t, rfl⟩ := r
    exact ⟨_, Reads.str x t⟩
  | .list ds, _, _, h, r => by
    cases h with
    | lst hs ha =>
      cases r
      obtain ⟨its, rv, ⟨o, n, ho, hc, _, hd⟩, _⟩ := I.list hs
      obtain ⟨as, hr⟩ := Dp.readsAll I ds _ its ha rv
      exact ⟨_, Reads.list ho hc hd hr⟩
  | .tuple ds, _, _, h, r => by
    cases h with
    | tup hs ha =>
      cases r
      obtain ⟨its, rv, ⟨o, ho, hc, n, hd⟩, _⟩ := I.tuple hs
      obtain ⟨as, hr⟩ := Dp.readsAll I ds _ its ha rv
      exact ⟨_, Reads.tuple ho hc hd hr⟩
  | .dict _, _, _, h, _ => by cases h
theorem Dp.readsAll (I : Inv X pins σ H s) : ∀ (ds : List PyData) (vs : List V) (us : List Value), DpAll X.K H vs ds → Vals vs us → ∃ as, ReadsAll s.heap us ds as
  | [], _, _, h, r => by
    cases h
    cases r
    exact ⟨_, ReadsAll.nil⟩
  | d :: ds, _, _, h, r => by
    cases h with
    | cons h1 h2 =>
      cases r with
      | cons r1 r2 =>
        obtain ⟨as, q1⟩ := Dp.reads I d _ _ h1 r1
        obtain ⟨bs, q2⟩ := Dp.readsAll I ds _ _ h2 r2
        exact ⟨_, ReadsAll.cons q1 q2⟩
end
end
section
variable {X : Cx}
end
end L2

namespace L2
open PySem PySem.Spec PyProof.Rows
abbrev CellAt (h : Heap) (c : Addr) (v : Option Value) : Prop := h.IsCell c v
def relS (scope sc : Scope) : Scope :=
  { scope with names := scope.names.map fun (n, k) => if (k == .free && sc.kind == .function && sc.names.lookup n == some .cell) then (n, .cell) else (n, k) }

def cloFrom (cells : List (Str × Addr)) : List (Str × NameKind) → List (Str × Addr) → List (Str × Addr)
  | [], acc => acc
  | (n, k) :: r, acc => if k == .free then cloFrom cells r ((n, (cells.lookup n).getD 0) :: acc) else cloFrom cells r acc

theorem closure_loop (env : Env) (f : Str × NameKind → List (Str × Addr) → Sem (ForInStep (List (Str × Addr))))
    (hf : ∀ n k c, f (n, k) c = if k == .free then (do let a ← cellOf env n; pure (.yield ((n, a) :: c))) else pure (.yield c)) :
    ∀ (names : List (Str × NameKind)) (acc : List (Str × Addr)), (∀ y ∈ names, y.2 = .free → ∃ c, env.cells.lookup y.1 = some c) → forIn names acc f = pure (cloFrom env.cells names acc)
  | [], acc, _ => by rw [List.forIn_nil]; rfl
  | (n, k) :: r, acc, h => by
    rw [List.forIn_cons, hf]
    have ih := fun acc => closure_loop env f hf r acc fun y hy => h y (List.mem_cons_of_mem _ hy)
    unfold cloFrom
    by_cases hk : (k == NameKind.free) = true
    · rw [if_pos hk, if_pos hk]
      obtain ⟨c, hc⟩ := h (n, k) List.mem_cons_self (by simpa using hk)
      have e : cellOf env n = pure c := by unfold cellOf; rw [hc]
      rw [e]
      have e2 : (env.cells.lookup n).getD 0 = c := by rw [hc]; rfl
      rw [e2]
      exact ih _
    · rw [if_neg hk, if_neg hk]
      exact ih _
theorem closure_ok {scope : Scope} {env : Env} (h : ∀ y ∈ scope.names, y.2 = .free → ∃ c, env.cells.lookup y.1 = some c) : closureFor scope env = pure (cloFrom env.cells scope.names []) := by
  simp only [closureFor]
  rw [closure_loop env _ (fun n k c => rfl) scope.names [] h]
  rfl

theorem mem_lookup {α : Type} : ∀ {l : List (Str × α)} {n : Str} {c : α}, (n, c) ∈ l → ∃ c', l.lookup n = some c'
  | (k, v) :: r, n, c, h => by
    rw [List.lookup_cons]
    cases hb : n == k with
    | true => exact ⟨_, rfl⟩
    | false =>
      rcases List.mem_cons.mp h with e | h
      · cases e; simp at hb
      · exact mem_lookup h

theorem cloFrom_mem {cells : List (Str × Addr)} : ∀ {names : List (Str × NameKind)} {acc : List (Str × Addr)} {n : Str} {c : Addr}, (n, c) ∈ cloFrom cells names acc → (n, c) ∈ acc ∨ ((n, .free) ∈ names ∧ c = (cells.lookup n).getD 0)
  | [], _, _, _, h => .inl h
  | (m, k) :: r, acc, n, c, h => by
    unfold cloFrom at h
    split at h
    · rename_i hk
      have hk : k = .free := by simpa using hk
      rcases cloFrom_mem h with h | ⟨h1, h2⟩
      · rcases List.mem_cons.mp h with e | h
        · cases e; exact .inr ⟨hk ▸ List.mem_cons_self, rfl⟩
        · exact .inl h
      · exact .inr ⟨List.mem_cons_of_mem _ h1, h2⟩
    · rcases cloFrom_mem h with h | ⟨h1, h2⟩
      · exact .inl h
      · exact .inr ⟨List.mem_cons_of_mem _ h1, h2⟩
theorem cloFrom_acc {cells : List (Str × Addr)} : ∀ {names : List (Str × NameKind)} {acc : List (Str × Addr)} {p : Str × Addr}, p ∈ acc → p ∈ cloFrom cells names acc
  | [], _, _, h => h
  | (m, k) :: r, acc, p, h => by
    unfold cloFrom
    split
    · exact cloFrom_acc (List.mem_cons_of_mem _ h)
    · exact cloFrom_acc h
theorem cloFrom_has {cells : List (Str × Addr)} : ∀ {names : List (Str × NameKind)} {acc : List (Str × Addr)} {n : Str}, (n, .free) ∈ names → (n, (cells.lookup n).getD 0) ∈ cloFrom cells names acc
  | (m, k) :: r, acc, n, h => by
    unfold cloFrom
    rcases List.mem_cons.mp h with e | h
    · cases e
      exact cloFrom_acc List.mem_cons_self
    · split
      · exact cloFrom_has h
      · exact cloFrom_has h

theorem cells_mem : ∀ {names : List (Str × NameKind)} {h : Heap} {acc : List (Str × Addr)} {x : Str} {c : Addr}, (x, c) ∈ cellsFrom h.objs.size names acc →
    (x, c) ∈ acc ∨ ((x, .cell) ∈ names ∧ h.objs.size ≤ c ∧ CellAt (pushCells h names) c none)
  | [], _, _, _, _, h => .inl h
  | (n, k) :: r, h, acc, x, c, hm => by
    unfold cellsFrom at hm
    unfold pushCells
    split at hm
    · rename_i hk
      rw [if_pos hk]
      have hk : k = .cell := by simpa using hk
      rw [← Heap.size_push h { cls := .type "cell", data := .cell none }] at hm
      rcases cells_mem hm with hm | ⟨h1, h2, h3⟩
      · rcases List.mem_cons.mp hm with e | hm
        · cases e
          exact .inr ⟨hk ▸ List.mem_cons_self, Nat.le_refl _, _, pushCells_keeps r _ _ _ (Heap.get?_push_size _ rfl), rfl⟩
        · exact .inl hm
      · rw [Heap.size_push] at h2
        exact .inr ⟨List.mem_cons_of_mem _ h1, Nat.le_of_succ_le h2, h3⟩
    · rename_i hk
      rw [if_neg hk]
      rcases cells_mem hm with hm | ⟨h1, h2, h3⟩
      · exact .inl hm
      · exact .inr ⟨List.mem_cons_of_mem _ h1, h2, h3⟩
theorem cells_acc : ∀ {names : List (Str × NameKind)} {n : Nat} {acc : List (Str × Addr)} {p : Str × Addr}, p ∈ acc → p ∈ cellsFrom n names acc
  | [], _, _, _, h => h
  | (m, k) :: r, n, acc, p, h => by
    unfold cellsFrom
    split
    · exact cells_acc (List.mem_cons_of_mem _ h)
    · exact cells_acc h
theorem cells_has : ∀ {names : List (Str × NameKind)} {n : Nat} {acc : List (Str × Addr)} {x : Str}, (x, .cell) ∈ names → ∃ c, (x, c) ∈ cellsFrom n names acc
  | (m, k) :: r, n, acc, x, h => by
    unfold cellsFrom
    rcases List.mem_cons.mp h with e | h
    · cases e
      exact ⟨n, cells_acc List.mem_cons_self⟩
    · split
      · exact cells_has h
      · exact cells_has h
theorem cells_inj : ∀ {names : List (Str × NameKind)} {h : Heap} {acc : List (Str × Addr)} {x y : Str} {c : Addr}, (∀ p ∈ acc, p.2 < h.objs.size) → (∀ x y c, (x, c) ∈ acc → (y, c) ∈ acc → x = y) →
    (x, c) ∈ cellsFrom h.objs.size names acc → (y, c) ∈ cellsFrom h.objs.size names acc → x = y
  | [], _, _, _, _, _, _, hi, h1, h2 => hi _ _ _ h1 h2
  | (n, k) :: r, h, acc, x, y, c, hl, hi, h1, h2 => by
    unfold cellsFrom at h1 h2
    split at h1
    · rename_i hk
      rw [if_pos hk] at h2
      rw [← Heap.size_push h { cls := .type "cell", data := .cell none }] at h1 h2
      refine cells_inj (h := h.push _) (fun p hp => ?_) (fun x y c a b => ?_) h1 h2
      · rw [Heap.size_push]
        rcases List.mem_cons.mp hp with rfl | hp
        · exact Nat.lt_succ_self _
        · exact Nat.lt_succ_of_lt (hl p hp)
      · rcases List.mem_cons.mp a with e | a <;> rcases List.mem_cons.mp b with e' | b
        · cases e; cases e'; rfl
        · cases e; exact absurd (hl _ b) (Nat.lt_irrefl _)
        · cases e'; exact absurd (hl _ a) (Nat.lt_irrefl _)
        · exact hi _ _ _ a b
    · rename_i hk
      rw [if_neg hk] at h2
      exact cells_inj hl hi h1 h2

theorem newEnv_comp {M : Model} {A : Around} {E : Value → Shared → Prop} {s : Shared} {scope : Scope} {globals : Addr} {closure : List (Str × Addr)} {qual : Str} {func : Option Addr} {code : Value} {around : Env} {builtins : Addr} {Q : Env → Shared → Prop}
    (h : Q (newEnv scope s.heap.objs.size globals (cellsFrom (s.heap.objs.size + 1) scope.names closure) qual func code (some around) builtins)
      { s with heap := pushCells (s.heap.push { cls := .type "dict", data := .dict #[] }) scope.names }) :
    wpAny M A (newFunctionEnv scope globals closure [] qual func code (some around) builtins) Q E s := by
  simp only [newFunctionEnv, Option.isSome_some, if_true]
  refine wpAny_bind (wpAny_alloc ?_)
  refine wpAny_bind (wpAny_layCells _ (fun n k c => rfl) scope.names closure _ _ ?_)
  rw [show ({ s with heap := s.heap.push { cls := .type "dict", data := .dict #[] } } : Shared).heap.objs.size = s.heap.objs.size + 1 from Heap.size_push ..]
  rw [List.forIn_nil]
  exact wpAny_bind (wpAny_pure (wpAny_pure h))

/-- every name of the written scope, in the scope that runs -/
theorem lookup_relS {sc : Scope} : ∀ {names : List (Str × NameKind)} {x : Str} {k : NameKind},
    (names.map fun (n, k) => if (k == NameKind.free && sc.kind == .function && sc.names.lookup n == some .cell) then (n, NameKind.cell) else (n, k)).lookup x = some k →
    ∃ k', names.lookup x = some k' ∧ (k = k' ∨ (k' = .free ∧ k = .cell))
  | [], _, _, h => by simp at h
  | (n, k₀) :: r, x, k, h => by
    have ih := @lookup_relS sc r x k
    have h' : List.lookup x ((if (k₀ == NameKind.free && sc.kind == .function && sc.names.lookup n == some .cell) = true then (n, NameKind.cell) else (n, k₀)) :: (r.map _)) = some k := h
    cases hx : x == n with
    | true =>
      simp only [List.lookup_cons, hx]
      by_cases hc : (k₀ == NameKind.free && sc.kind == .function && sc.names.lookup n == some .cell) = true
      · rw [if_pos hc] at h'
        simp only [List.lookup_cons, hx] at h'
        cases h'
        simp only [Bool.and_eq_true, beq_iff_eq] at hc
        exact ⟨k₀, rfl, .inr ⟨hc.1.1, rfl⟩⟩
      · rw [if_neg hc] at h'
        simp only [List.lookup_cons, hx] at h'
        cases h'
        exact ⟨_, rfl, .inl rfl⟩
    | false =>
      simp only [List.lookup_cons, hx]
      by_cases hc : (k₀ == NameKind.free && sc.kind == .function && sc.names.lookup n == some .cell) = true
      · rw [if_pos hc] at h'
        simp only [List.lookup_cons, hx] at h'
        exact ih h'
      · rw [if_neg hc] at h'
        simp only [List.lookup_cons, hx] at h'
        exact ih h'
/-- the names of a comprehension's block: its own (with their places in N), or captured -/
structure BlkOk (N : List Str) (sc scope : Scope) (own : List (Str × Nat)) : Prop where
  kind : scope.kind = .function
  uniq : ∀ y ∈ scope.names, scope.names.lookup y.1 = some y.2
  ix : ∀ p ∈ own, N[p.2]? = some p.1
  free : ∀ y ∈ scope.names, y.2 = .free → sc.names.lookup y.1 = some .cell ∨ sc.names.lookup y.1 = some .free
  own : ∀ y ∈ scope.names, y.2 = .local ∨ y.2 = .cell → y.1 ∈ own.map (·.1) ∨ y.1 ∉ N
/-- the slots of the block's own names forgotten -/
def wipe (σ : St) : List Nat → St
  | [] => σ
  | v :: vs => (wipe σ vs).set v none
theorem wipe_length (σ : St) : ∀ vs : List Nat, (wipe σ vs).length = σ.length
  | [] => rfl
  | v :: vs => by unfold wipe; rw [List.length_set, wipe_length σ vs]
theorem wipe_some {σ : St} {i : Nat} {x : V} : ∀ {vs : List Nat}, (wipe σ vs)[i]? = some (some x) → σ[i]? = some (some x) ∧ i ∉ vs
  | [], h => ⟨h, by simp⟩
  | v :: vs, h => by
    unfold wipe at h
    by_cases hi : v = i
    · subst hi
      by_cases hv : v < (wipe σ vs).length
      · rw [List.getElem?_set_self hv] at h; cases h
      · rw [List.getElem?_eq_none (by simpa using hv)] at h; cases h
    · rw [List.getElem?_set_ne hi] at h
      obtain ⟨h1, h2⟩ := wipe_some h
      exact ⟨h1, by simp only [List.mem_cons, not_or]; exact ⟨fun e => hi e.symm, h2⟩⟩

/-- the context of a block that starts at s, its iterator's objects at fp -/
abbrev Cx.blk (X : Cx) (s : Shared) (H : Hp) (scope : Scope) (cenv : Env) (fp : List Addr) : Cx := { X with s_0 := s, H_0 := H, env := cenv, outer := X.stack, ex := fp, fn := fun x => scope.names.lookup x == some .cell, pn := [], xe := fun _ _ => False }
section
variable {X : Cx} {pins : List (Addr × Obj)} {σ : St} {H : Hp} {s : Shared}
theorem block_start {scope : Scope} {own : List (Str × Nat)} {fp : List Addr} (I : Inv X pins σ H s) (ok : BlkOk X.N X.env.scope scope own) (hN : X.N.Nodup) (hfp : ∀ b ∈ fp, FpOk X pins H b ∧ b < s.heap.objs.size) :
    Inv (X.blk s H scope (compEnvC scope (cellsFrom (s.heap.objs.size + 1) scope.names (cloFrom X.env.cells scope.names [])) s.heap.objs.size X.env) fp) [] (wipe σ (own.map (·.2))) H { s with heap := pushCells (s.heap.push { cls := .type "dict", data := .dict #[] }) scope.names } := by
  have hfree : ∀ y ∈ scope.names, y.2 = .free → ∃ c, X.env.cells.lookup y.1 = some c := fun y hy e => by
    rcases ok.free y hy e with k | k
    · exact I.ok.has _ (.inl k)
    · exact I.ok.has _ (.inr k)
  generalize hcenv : compEnvC scope (cellsFrom (s.heap.objs.size + 1) scope.names (cloFrom X.env.cells scope.names [])) s.heap.objs.size X.env = cenv
  have kp : ∀ b o, s.heap.get? b = some o → (pushCells (s.heap.push { cls := .type "dict", data := .dict #[] }) scope.names).get? b = some o := fun b o e => pushCells_keeps _ _ _ _ (Heap.get?_push_of_some _ e)
  have hL : cenv.locals = s.heap.objs.size := by rw [← hcenv]; rfl
  have hcl : cenv.cells = cellsFrom (s.heap.objs.size + 1) scope.names (cloFrom X.env.cells scope.names []) := by rw [← hcenv]; rfl
  have hsc : cenv.scope = relS scope X.env.scope := by rw [← hcenv]; rfl
  rw [← Heap.size_push s.heap { cls := .type "dict", data := .dict #[] }] at hcl
  have cm : ∀ {y c}, (y, c) ∈ cloFrom X.env.cells scope.names [] → X.env.cells.lookup y = some c ∧ c < s.heap.objs.size := fun {y c} hm => by
    rcases cloFrom_mem hm with hm | ⟨h1, rfl⟩
    · cases hm
    · obtain ⟨c, hc⟩ := hfree _ h1 rfl
      rw [hc]
      obtain ⟨w, z⟩ := I.cell _ _ hc
      exact ⟨rfl, z.lt⟩
  have mem : ∀ {y c}, cenv.cells.lookup y = some c → (X.env.cells.lookup y = some c ∧ c < s.heap.objs.size) ∨ (s.heap.objs.size + 1 ≤ c ∧ CellAt (pushCells (s.heap.push { cls := .type "dict", data := .dict #[] }) scope.names) c none) := fun {y c} e => by
    rw [hcl] at e
    rcases cells_mem (PySem.mem_of_lookup e) with hm | ⟨_, h2, h3⟩
    · exact .inl (cm hm)
    · rw [Heap.size_push] at h2; exact .inr ⟨h2, h3⟩
  have look : ∀ {y}, scope.names.lookup y = some .free → ∃ c, cenv.cells.lookup y = some c ∧ X.env.cells.lookup y = some c := fun {y} hl => by
    have hy : (y, NameKind.free) ∈ scope.names := PySem.mem_of_lookup hl
    obtain ⟨c', e'⟩ := mem_lookup (cells_acc (names := scope.names) (n := (s.heap.push { cls := .type "dict", data := .dict #[] }).objs.size) (cloFrom_has (cells := X.env.cells) (acc := []) hy))
    rw [← hcl] at e'
    refine ⟨c', e', ?_⟩
    rw [hcl] at e'
    rcases cells_mem (PySem.mem_of_lookup e') with hm | ⟨h1, _, _⟩
    · exact (cm hm).1
    · have := ok.uniq _ h1
      rw [hl] at this; cases this
  have okB : (X.blk s H scope cenv fp).Ok := by
    refine ⟨I.ok.mod, by show cenv.scope.kind = _; rw [hsc]; exact ok.kind, by show cenv.globals = _; rw [← hcenv]; exact I.ok.glob, by show cenv.builtins = _; rw [← hcenv]; exact I.ok.blt, by show s.heap.objs.size ≤ cenv.locals; rw [hL]; exact Nat.le_refl _,
      fun y z c e1 e2 => ?_, fun y hy => ?_, fun y c z e => ?_, I.ok.hd, I.ok.frames, .inl rfl, fun b hb => ⟨?_, fun y c e z => ?_⟩, I.bs, Nat.le_trans I.ok.bsz I.sz, fun b o e hb => ?_, fun b hb z => ?_, I.stack, I.stkFree⟩
    · have e1 : cenv.cells.lookup y = some c := e1
      have e2 : cenv.cells.lookup z = some c := e2
      rw [hcl] at e1 e2
      refine cells_inj (fun p hp => ?_) (fun y z c a b => I.ok.inj y z c (cm a).1 (cm b).1) (PySem.mem_of_lookup e1) (PySem.mem_of_lookup e2)
      rw [Heap.size_push]
      exact Nat.lt_succ_of_lt (cm (y := p.1) (c := p.2) hp).2
    · show ∃ c, cenv.cells.lookup y = some c
      have key : ∀ k, cenv.kindOf y = some k → (k = .cell ∨ k = .free) → ∃ c, cenv.cells.lookup y = some c := fun k hk hk' => by
        unfold Env.kindOf at hk
        rw [hsc] at hk
        obtain ⟨k', e, r⟩ := lookup_relS hk
        have : k' = .cell ∨ k' = .free := by
          rcases r with rfl | ⟨rfl, _⟩
          · exact hk'
          · exact .inr rfl
        rcases this with rfl | rfl
        · obtain ⟨c, hm⟩ := cells_has (n := (s.heap.push { cls := .type "dict", data := .dict #[] }).objs.size) (acc := cloFrom X.env.cells scope.names []) (PySem.mem_of_lookup e)
          obtain ⟨c', e'⟩ := mem_lookup hm
          exact ⟨c', by rw [hcl]; exact e'⟩
        · obtain ⟨c, h1, _⟩ := look e
          exact ⟨c, h1⟩
      rcases hy with hy | hy
      · exact key _ hy (.inl rfl)
      · exact key _ hy (.inr rfl)
    · have z : (scope.names.lookup y == some NameKind.cell) = true := z
      have z : scope.names.lookup y = some .cell := by simpa using z
      have e : cenv.cells.lookup y = some c := e
      rw [hcl] at e
      rcases cells_mem (PySem.mem_of_lookup e) with hm | ⟨_, h2, _⟩
      · rcases cloFrom_mem hm with hm | ⟨h1, _⟩
        · cases hm
        · have q := ok.uniq _ h1
          rw [z] at q; cases q
      · rw [Heap.size_push] at h2
        exact Nat.le_of_succ_le h2
    · show b ≠ cenv.locals
      rw [hL]; exact Nat.ne_of_lt (hfp b hb).2
    · have e : cenv.cells.lookup y = some c := e
      rcases mem e with ⟨h1, _⟩ | ⟨h1, _⟩
      · exact (hfp b hb).1.2.2.2.2.1 y c h1 z
      · have h2 : s.heap.objs.size + 1 ≤ b := by rw [← z]; exact h1
        exact absurd (Nat.lt_of_lt_of_le (hfp b hb).2 (Nat.le_of_succ_le h2)) (Nat.lt_irrefl _)
    · rcases (hfp b hb).1.2.2.2.1 with z | z
      · exact I.ok.noex b o e z
      · exact absurd (Nat.lt_of_lt_of_le (Heap.lt_size e) (Nat.le_trans I.ok.bsz z)) (Nat.lt_irrefl _)
    · rcases List.mem_cons.mp (I.stkSub b z) with z | z
      · exact (hfp b hb).1.2.1 z
      · exact (hfp b hb).1.2.2.1 z
  refine ⟨okB, rfl, I.bare, Un.kept kp, ⟨fun _ => none, ?_, fun i y av e1 e2 e3 => ?_⟩, fun y c e => ?_, ?_, fun y c e => ?_, fun p hp => ?_, I.hok.kept kp, by rw [wipe_length]; exact I.len⟩
  · show Heap.Ns _ cenv.locals _
    rw [hL]
    exact Heap.Ns.keeps (Heap.Ns.new ..) fun b o e => pushCells_keeps _ _ _ _ e
  · obtain ⟨e2, hne⟩ := wipe_some e2
    have hfr : scope.names.lookup y = some .free ∧ (cenv.kindOf y = some .cell ∨ cenv.kindOf y = some .free) := by
      have key : ∀ k, cenv.scope.names.lookup y = some k → k = .local ∨ k = .cell ∨ k = .free → scope.names.lookup y = some .free ∧ (cenv.kindOf y = some .cell ∨ cenv.kindOf y = some .free) := fun k hk hk' => by
        have hk0 := hk
        rw [hsc] at hk
        obtain ⟨k', e, r⟩ := lookup_relS hk
        have no : ¬ (k' = .local ∨ k' = .cell) := fun hh => by
          rcases ok.own _ (PySem.mem_of_lookup e) hh with e' | e'
          · obtain ⟨p, hp, hpy⟩ := List.mem_map.mp e'
            have e3 := ok.ix p hp
            have : p.1 = y := hpy
            rw [this] at e3
            exact hne (List.mem_map.mpr ⟨p, hp, nodup_ix hN e3 e1⟩)
          · exact e' (List.mem_of_getElem? e1)
        rcases r with rfl | ⟨rfl, rfl⟩
        · rcases hk' with rfl | rfl | rfl
          · exact absurd (.inl rfl) no
          · exact absurd (.inr rfl) no
          · exact ⟨e, .inr hk0⟩
        · exact ⟨e, .inl hk0⟩
      have e3 : Vis cenv.scope y := e3
      rcases e3 with e3 | e3 | e3
      · exact key _ e3 (.inl rfl)
      · exact key _ e3 (.inr (.inl rfl))
      · exact key _ e3 (.inr (.inr rfl))
    obtain ⟨m, hn, hl⟩ := I.loc
    have hvis : Vis X.env.scope y := (ok.free _ (PySem.mem_of_lookup hfr.1) rfl).elim (fun k => .inr (.inl k)) (fun k => .inr (.inr k))
    obtain ⟨w, r, q⟩ := hl i y av e1 e2 hvis
    refine ⟨w, r, .inr ⟨hfr.2, ?_⟩⟩
    obtain ⟨c, h1, h2⟩ := look hfr.1
    rcases q with ⟨k, _⟩ | ⟨_, c', e', z⟩
    · have k : X.env.scope.names.lookup y = some .local := k
      rcases ok.free _ (PySem.mem_of_lookup hfr.1) rfl with k' | k' <;> rw [show X.env.scope.names.lookup y = _ from k'] at k <;> cases k
    · rw [h2] at e'; cases e'
      exact ⟨c, h1, z.keeps kp⟩
  · have e : cenv.cells.lookup y = some c := e
    rcases mem e with ⟨h1, _⟩ | ⟨_, z⟩
    · obtain ⟨w, z⟩ := I.cell y c h1
      exact ⟨w, z.keeps kp⟩
    · exact ⟨_, z⟩
  · show H cenv.locals = none
    rw [hL]; exact I.hok.fresh (Nat.le_refl _)
  · have e : cenv.cells.lookup y = some c := e
    rcases mem e with ⟨h1, _⟩ | ⟨h1, _⟩
    · exact I.freeC y c h1
    · exact I.hok.fresh (Nat.le_of_succ_le h1)
  · exact absurd (show p ∈ ([] : List (Addr × Obj)) ++ [] from hp) (by simp)

/-- an item appended to a tracked list -/
theorem app_ok {E : Value → Shared → Prop} {D : Addr} {xs : List V} {y : V} {v : Value} {Q : Value → Shared → Prop} (I : Inv X pins σ H s) (hD : H D = some (.lst xs)) (hz : xs.length < sizeLine) (r : RelV y v)
    (h : ∀ s', Inv X pins σ (upd H D (.lst (xs ++ [y]))) s' → Q .none s') : wpAny (model X.prog X.w) X.A (call (.builtin "list.append") [.ref D, v]) Q E s := by
  obtain ⟨hz', its, n, ri, e⟩ := I.hok D _ hD
  have hl := ri.length
  refine append_at (hsz := by rw [List.size_toArray]; omega) e fun h' sb ho' => ?_
  refine h { s with heap := h' } (I.write (t' := s.toks) (by rw [hD]; trivial) (.inl rfl) (fun b u hb q => (sb.2 b hb).trans q) ⟨_, ho'⟩ ⟨by rw [List.length_append]; exact hz, its ++ [v], n + 1, ri.append (.cons r .nil), ?_⟩)
  rw [ho']
  simp

/-- a clause's tests -/
def PTs (X : Cx) (ifs : List Expr) (t : TT) : Prop :=
  ∀ (pins : List (Addr × Obj)) (s : Shared) (σ : St) (H : Hp) (Q : Bool → Hp → Prop), Inv X pins σ H s → t σ H Q →
    wpAny (model X.prog X.w) X.A (forIn ifs true fun c r => if r = true then do let ok ← isTrue c X.env (eval c X.env); pure (ForInStep.yield ok) else pure (ForInStep.yield r)) (TP X pins σ Q) X.xe s
def tYes : TT := fun _ H Q => Q true H
theorem pts_nil : PTs X [] tYes := fun _ _ _ H _ I h => wpAny_tests_nil ⟨H, I, h⟩
theorem pts_one {c : Expr} {t : TT} (h : PT X c t) : PTs X [c] t := fun pins s σ H Q I hw => wpAny_tests_one (h pins s σ H Q I hw)
end

theorem thnF {α : Type} {t : Sem α} {Q Q' : α → Shared → Prop} {M : Model} {A : Around} {E : Value → Shared → Prop} {s : Shared} (h : wpAny M A t Q (fun _ _ => False) s) (hQ : ∀ a s, Q a s → Q' a s) : wpAny M A t Q' E s := wpAny_mono h hQ fun _ _ z => False.elim z

/-- the loop of a list comprehension's block, the target of any form (codeAny_compLoop_tests asks a target that no tuple goes to; statement and proof follow it, PyProof/CompMap.lean:41-61, with the step letOwnedTupleGo kept) -/
theorem compLoop_any {prog : Program} {w : World} {A : Around} {R : Result → Shared → Prop} {s : Shared} {elt target iter : Expr} {ifs : List Expr} {scope : Scope} {pos : Pos} {it acc : Value} {env : Env} (I : Nat → Shared → Prop)
    (turn : ∀ n s, I n s → wpAny (model prog w) A (pyNext it) (fun r s₁ => match r with
      | none => R (.ok .next) s₁
      | some v => wpAny (model prog w) A (letOwnedTupleGo target it v) (fun _ s₁' => wpAny (model prog w) A (assign target env v) (fun _ s₂ =>
          wpAny (model prog w) A (forIn ifs true fun c r => if r = true then do let ok ← isTrue c env (eval c env); pure (ForInStep.yield ok) else pure (ForInStep.yield r)) (fun ok s₃ =>
            if ok = true then wpAny (model prog w) A (eval elt env) (fun x s₄ =>
              wpAny (model prog w) A (call (.builtin "list.append") [acc, x]) (fun _ s₅ => ∃ m, m < n ∧ I m s₅) (notedBy (model prog w) A env fun e s' => R (.error e) s') s₄) (notedBy (model prog w) A env fun e s' => R (.error e) s') s₃
            else ∃ m, m < n ∧ I m s₃) (notedBy (model prog w) A env fun e s' => R (.error e) s') s₂) (notedBy (model prog w) A env fun e s' => R (.error e) s') s₁') (notedBy (model prog w) A env fun e s' => R (.error e) s') s₁) (notedBy (model prog w) A env fun e s' => R (.error e) s') s)
    (n : Nat) (h : I n s) :
    codeAny (model prog w) A (.compLoop (.ListComp elt [⟨target, iter, ifs, 0⟩] scope pos) 0 it acc env) R s := by
  refine codeAny_loop rfl I (fun n s hI => ?_) n h
  show wpAny _ A ((compTurn (.ListComp elt [⟨target, iter, ifs, 0⟩] scope pos) 0 it acc env).onRaise (fun x => do noteFrame x env; theTreesLotGoes x)) _ _ s
  refine wpAny_noted ?_
  rw [compTurn_list]
  refine wpAny_bind (wpAny_standAt (wpAny_bind (wpAny_mono (turn n s hI) (fun r s₁ h₁ => ?_) fun _ _ h' => h')))
  cases r with
  | none => exact wpAny_pure h₁
  | some v =>
    refine wpAny_bind (wpAny_mono h₁ (fun _ s₁' h₁' => ?_) fun _ _ h' => h')
    refine wpAny_bind (wpAny_mono h₁' (fun _ s₂ h₂ => wpAny_bind (wpAny_mono h₂ (fun ok s₃ h₃ => ?_) fun _ _ h' => h')) fun _ _ h' => h')
    cases ok with
    | false => exact wpAny_pure ⟨rfl, h₃⟩
    | true =>
      exact wpAny_bind (wpAny_bind (wpAny_mono h₃ (fun x s₄ h₄ => wpAny_bind (wpAny_mono h₄ (fun _ s₅ h₅ => wpAny_pure (wpAny_pure ⟨rfl, h₅⟩)) fun _ _ h' => h')) fun _ _ h' => h'))

section
variable {X : Cx}
/-- [elt for target in iter if ..]: D the new list; W by the turn and a measure, Nx what a turn is to reach -/
def tLc (wi : TI) (g : TG) (tt : TT) (te : TE) (vs : List Nat) : TE := fun σ H Q => wi σ H fun J H1 => ∀ D, H1 D = none → ∃ W : Nat → Nat → Hp → Prop, (∃ m, W 0 m (upd H1 D (.lst []))) ∧ ∀ i m H, W i m H →
  (J.stop i H ∧ Q (.ref D) H) ∨ (J.go i H ∧ ∃ Nx : Hp → Prop, (∀ H', Nx H' → ∃ m', m' < m ∧ W (i + 1) m' H') ∧ ∀ x H', J.yld i H x H' → g x (wipe σ vs) H' fun σ2 H2 => wipe σ2 vs = wipe σ vs ∧ tt σ2 H2 fun b H3 =>
    if b = true then te σ2 H3 fun y H4 => ∃ acc, H4 D = some (.lst acc) ∧ acc.length < sizeLine ∧ Nx (upd H4 D (.lst (acc ++ [y]))) else Nx H3)
theorem lc_core {pins : List (Addr × Obj)} {s : Shared} {σ : St} {H : Hp} {Q : VK} {elt tg iter : Expr} {ifs : List Expr} {scope : Scope} {own : List (Str × Nat)} {pos pos' : Pos} {wi : TI} {g : TG} {tt : TT} {te : TE} {use : Option (Value → Sem Unit)} {Qf : Value → Shared → Prop}
    (hc : X.calm = true) (hN : X.N.Nodup) (I : Inv X pins σ H s) (hi : PI X tg iter wi) (ok : BlkOk X.N X.env.scope scope own)
    (hg : ∀ (s : Shared) (H : Hp) (C : Addr) (cl : List (Str × Addr)) (fp : List Addr), PG (X.blk s H scope (compEnvC scope cl C X.env) fp) tg g) (ht : ∀ (s : Shared) (H : Hp) (C : Addr) (cl : List (Str × Addr)) (fp : List Addr), PTs (X.blk s H scope (compEnvC scope cl C X.env) fp) ifs tt)
    (he : ∀ (s : Shared) (H : Hp) (C : Addr) (cl : List (Str × Addr)) (fp : List Addr), PE (X.blk s H scope (compEnvC scope cl C X.env) fp) elt te) (hs : ∀ x, foldedSetIterable iter X.env x = pure x)
    (h : tLc wi g tt te (own.map (·.2)) σ H Q)
    (hRR : ∀ D C s' m H', Inv X pins σ H' s' → Q (.ref D) H' → s'.heap.Ns C m → FpOk X pins H' C → compPost (model X.prog X.w) X.A X.xe use Qf (.ref D) C (.ok .next) s') :
    wpAny (model X.prog X.w) X.A (comprehension (.ListComp elt [⟨tg, iter, ifs, 0⟩] scope pos) scope X.env pos' (newList []) false (eval iter X.env) use) Qf X.xe s := by
  have hfree : ∀ y ∈ scope.names, y.2 = .free → ∃ c, X.env.cells.lookup y.1 = some c := fun y hy e => by
    rcases ok.free y hy e with k | k
    · exact I.ok.has _ (.inl k)
    · exact I.ok.has _ (.inr k)
  refine wpAny_comprehension_free (use := use) rfl hs (closure_ok hfree) ok.kind (fun y hy e => by rw [ok.uniq y hy, e])
    (thn (hi pins s σ H _ I h) fun xv s1 hx => thn hx fun itv s2 h2 => ?_)
  obtain ⟨it, fp, tn, J, H2, e, I2, T, st2, f2, q⟩ := h2
  subst e
  refine wpAny_newObj_type (newEnv_comp ?_) (by show 0 ≤ sizeLine; decide)
  generalize hD : s2.heap.objs.size = D
  have hDn : H2 D = none := I2.hok.fresh (Nat.le_of_eq hD)
  obtain ⟨W, ⟨m0, w0⟩, turn⟩ := q D hDn
  -- the new list
  generalize hs3 : ({ s2 with heap := s2.heap.push { cls := .type "list", data := .seq ([] : List Value).toArray } } : Shared) = s3
  have I3 : Inv X pins σ (upd H2 D (.lst [])) s3 := by
    rw [← hs3]
    refine I2.laid (t' := s2.toks) (fun b o e => Heap.get?_push_of_some _ e) (Nat.le_of_eq hD) ⟨Nat.zero_le _, [], 0, .nil, ?_⟩
    rw [← hD]
    exact Heap.get?_push_size _ rfl
  have h3 : s3.heap = s2.heap.push { cls := .type "list", data := .seq ([] : List Value).toArray } := by rw [← hs3]
  have sz : ∀ b ∈ fp, b < s2.heap.objs.size := fun b hb => by
    obtain ⟨o, e, _⟩ := T.obj _ _ st2 b hb
    exact Heap.lt_size e
  have f3 : ∀ b ∈ fp, FpOk X pins (upd H2 D (.lst [])) b ∧ b < s3.heap.objs.size := fun b hb => by
    have hlt := sz b hb
    refine ⟨⟨?_, (f2 b hb).2⟩, by rw [h3, Heap.size_push]; exact Nat.lt_succ_of_lt hlt⟩
    rw [upd_ne (by rw [← hD]; exact Nat.ne_of_lt hlt)]
    exact (f2 b hb).1
  have st3 : tn 0 s3.heap := T.keep _ _ _ st2 fun b _ o e => by rw [h3]; exact Heap.get?_push_of_some _ e
  have I4 := block_start I3 ok hN f3
  have pg := hg s3 (upd H2 D (.lst [])) s3.heap.objs.size (cellsFrom (s3.heap.objs.size + 1) scope.names (cloFrom X.env.cells scope.names [])) fp
  have pt := ht s3 (upd H2 D (.lst [])) s3.heap.objs.size (cellsFrom (s3.heap.objs.size + 1) scope.names (cloFrom X.env.cells scope.names [])) fp
  have pe := he s3 (upd H2 D (.lst [])) s3.heap.objs.size (cellsFrom (s3.heap.objs.size + 1) scope.names (cloFrom X.env.cells scope.names [])) fp
  show codeAny _ _ (.compStart (.ListComp elt [⟨tg, iter, ifs, 0⟩] scope pos) 0 (.ref it) (.ref D) (compEnvC scope (cellsFrom (s3.heap.objs.size + 1) scope.names (cloFrom X.env.cells scope.names [])) s3.heap.objs.size X.env)) (compPost (model X.prog X.w) X.A X.xe use Qf (.ref D) s3.heap.objs.size) { s3 with heap := pushCells (s3.heap.push { cls := .type "dict", data := .dict #[] }) scope.names }
  have nfp : ∀ b ∈ fp, (upd H2 D (.lst [])) b = none := fun b hb => (f3 b hb).1.1
  generalize hce : compEnvC scope (cellsFrom (s3.heap.objs.size + 1) scope.names (cloFrom X.env.cells scope.names [])) s3.heap.objs.size X.env = ce at I4 pg pt pe ⊢
  have cL : ce.locals = s3.heap.objs.size := by subst hce; rfl
  generalize hH3 : upd H2 D (.lst []) = H3 at I3 I4 pg pt pe w0 nfp f3
  generalize hs4 : ({ s3 with heap := pushCells (s3.heap.push { cls := .type "dict", data := .dict #[] }) scope.names } : Shared) = s4 at I4 ⊢
  have st4 : tn 0 s4.heap := T.keep _ _ _ st3 fun b _ o e => by rw [← hs4]; exact pushCells_keeps _ _ _ _ (Heap.get?_push_of_some _ e)
  have stat : ∀ {σ' : St} {H' : Hp} {s' : Shared}, Inv (X.blk s3 H3 scope ce fp) [] σ' H' s' → (∀ b ∈ fp, H' b = none) → ∀ b ∈ fp, FpOk (X.blk s3 H3 scope ce fp) [] H' b := fun {σ' H' s'} I' hn b hb =>
    ⟨hn b hb, (I'.ok.exf b hb).1, I'.ok.exfs b hb, .inl hb, fun x c e => (I'.ok.exf b hb).2 x c e, fun p hp => absurd (show p ∈ ([] : List (Addr × Obj)) ++ [] from hp) (by simp)⟩
  have loop : codeAny (model X.prog X.w) X.A (.compLoop (.ListComp elt [⟨tg, iter, ifs, 0⟩] scope pos) 0 (.ref it) (.ref D) ce) (compPost (model X.prog X.w) X.A X.xe use Qf (.ref D) s3.heap.objs.size) s4 := by
    refine compLoop_any (fun n s' => ∃ i H', Inv (X.blk s3 H3 scope ce fp) [] (wipe σ (own.map (·.2))) H' s' ∧ tn i s'.heap ∧ (∀ b ∈ fp, H' b = none) ∧ W i n H') ?_ m0 ⟨0, H3, I4, st4, nfp, w0⟩
    rintro n s5 ⟨i, H5, I5, st5, n5, w5⟩
    rcases turn i n H5 w5 with ⟨stop, qq⟩ | ⟨go, Nx, hNx, step⟩
    · have td := T.done (X.blk s3 H3 scope ce fp) rfl rfl rfl hc i [] s5 _ H5 (fun _ _ => False) I5 (stat I5 n5) st5 stop
      refine thnF td fun r s6 ⟨hr, I6⟩ => ?_
      subst hr
      -- back in the def's context
      have I7 : Inv X pins σ H5 s6 := I3.call' (ch := fp) I6.os I6.base I6.hok I6.bare fun b hb => ⟨(f3 b hb).1.2.2.2.1, (f3 b hb).1.2.1, (f3 b hb).1.2.2.2.2.1, (f3 b hb).1.2.2.2.2.2⟩
      have nC : H5 s3.heap.objs.size = none := by
        have z : H5 ce.locals = none := I6.free
        rw [cL] at z
        exact z
      obtain ⟨m, hn, _⟩ := I6.loc
      have hn : s6.heap.Ns ce.locals m := hn
      rw [cL] at hn
      exact hRR D s3.heap.objs.size s6 m H5 I7 qq hn (I3.fpOk (Nat.le_refl _) nC)
    · have ti := T.item (X.blk s3 H3 scope ce fp) rfl rfl rfl hc i [] s5 _ H5 (fun _ _ => False) I5 (stat I5 n5) st5 go
      refine thnF ti fun r s6 ⟨u, hr, h6⟩ => ?_
      subst hr
      refine thnF h6 fun _ s7 ⟨x, H7, I7, r7, y7, st7, n7⟩ => ?_
      have I7' := I7.pinned (stat I7 n7) (T.obj _ _ st7)
      refine thnF (pg _ s7 _ H7 x u _ I7' r7 (step x H7 y7)) fun _ s8 ⟨σ8, H8, I8, hw8, q8⟩ => ?_
      refine thnF (pt _ s8 σ8 H8 _ I8 q8) fun b s9 ⟨H9, I9, q9⟩ => ?_
      -- the turn's end
      have fin : ∀ {s' : Shared} {H' : Hp}, Inv (X.blk s3 H3 scope ce fp) ([] ++ pinsAt fp s7.heap) σ8 H' s' → Nx H' → ∃ m, m < n ∧ ∃ i H', Inv (X.blk s3 H3 scope ce fp) [] (wipe σ (own.map (·.2))) H' s' ∧ tn i s'.heap ∧ (∀ b ∈ fp, H' b = none) ∧ W i m H' := fun {s' H'} I' nx => by
        obtain ⟨m', hm, w'⟩ := hNx H' nx
        have pin' : ∀ b ∈ fp, ∀ o, s7.heap.get? b = some o → s'.heap.get? b = some o ∧ H' b = none := fun b hb o e =>
          let z := I'.pin (b, o) (List.mem_append_right _ (List.mem_append_right _ (mem_pinsAt hb e)))
          ⟨z.1, z.2.1⟩
        have hl : (wipe σ (own.map (·.2))).length = σ8.length := by rw [← hw8, wipe_length]
        refine ⟨m', hm, i + 1, H', (I'.unpinned (pins := [])).weak hl (fun j v e => ?_), T.keep _ _ _ st7 fun b hb o e => (pin' b hb o e).1, fun b hb => ?_, w'⟩
        · rw [← hw8] at e
          exact (wipe_some e).1
        · obtain ⟨o, e, _⟩ := T.obj _ _ st7 b hb
          exact (pin' b hb o e).2
      cases b with
      | false =>
        simp only [Bool.false_eq_true, if_false] at q9 ⊢
        exact fin I9 q9
      | true =>
        simp only [if_true] at q9 ⊢
        refine thnF (pe _ s9 σ8 H9 _ I9 q9) fun z s10 ⟨yv, H10, I10, r10, acc, hD10, hz10, nx⟩ => ?_
        exact app_ok (X := X.blk s3 H3 scope ce fp) I10 hD10 hz10 r10 fun s11 I11 => fin I11 nx
  exact codeAny_compStart_list loop (T.self X.A 0 _ _ _ st4 loop)
/-- as a value -/
theorem pe_lc {elt tg iter : Expr} {ifs : List Expr} {scope : Scope} {own : List (Str × Nat)} {pos : Pos} {wi : TI} {g : TG} {tt : TT} {te : TE} (hc : X.calm = true) (hN : X.N.Nodup) (hi : PI X tg iter wi) (ok : BlkOk X.N X.env.scope scope own)
    (hg : ∀ (s : Shared) (H : Hp) (C : Addr) (cl : List (Str × Addr)) (fp : List Addr), PG (X.blk s H scope (compEnvC scope cl C X.env) fp) tg g) (ht : ∀ (s : Shared) (H : Hp) (C : Addr) (cl : List (Str × Addr)) (fp : List Addr), PTs (X.blk s H scope (compEnvC scope cl C X.env) fp) ifs tt)
    (he : ∀ (s : Shared) (H : Hp) (C : Addr) (cl : List (Str × Addr)) (fp : List Addr), PE (X.blk s H scope (compEnvC scope cl C X.env) fp) elt te) (hs : ∀ x, foldedSetIterable iter X.env x = pure x := by intro _; rfl) :
    PE X (.ListComp elt [⟨tg, iter, ifs, 0⟩] scope pos) (tLc wi g tt te (own.map (·.2))) := by
  intro pins s σ H Q I h
  rw [eval_ListComp]
  refine lc_core hc hN I hi ok hg ht he hs h fun D C s' m H' I' q hn f => ⟨m, hn, fun h'' sb => ?_⟩
  obtain ⟨f0, f1, f2, f3, f4, f5⟩ := f
  exact ⟨.ref D, H', I'.turned (t' := s'.toks) (fun b o hb e => (sb.2 b hb).trans e) f0 f1 f3 f4 f5, rfl, q⟩
/-- name = [..] on one line, the name a local -/
theorem ps_setLc {i : Nat} {y : Str} {py : Pos} {elt tg iter : Expr} {ifs : List Expr} {scope : Scope} {own : List (Str × Nat)} {pos spos : Pos} {wi : TI} {g : TG} {tt : TT} {te : TE} (hc : X.calm = true) (hN : X.N.Nodup) (hy : X.N[i]? = some y) (hyl : X.env.scope.names.lookup y = some .local)
    (hsw : swapsWith (.ListComp elt [⟨tg, iter, ifs, 0⟩] scope pos) (some (.Name y py)) spos.line X.env = pure true) (hi : PI X tg iter wi) (ok : BlkOk X.N X.env.scope scope own)
    (hg : ∀ (s : Shared) (H : Hp) (C : Addr) (cl : List (Str × Addr)) (fp : List Addr), PG (X.blk s H scope (compEnvC scope cl C X.env) fp) tg g) (ht : ∀ (s : Shared) (H : Hp) (C : Addr) (cl : List (Str × Addr)) (fp : List Addr), PTs (X.blk s H scope (compEnvC scope cl C X.env) fp) ifs tt)
    (he : ∀ (s : Shared) (H : Hp) (C : Addr) (cl : List (Str × Addr)) (fp : List Addr), PE (X.blk s H scope (compEnvC scope cl C X.env) fp) elt te) (hs : ∀ x, foldedSetIterable iter X.env x = pure x := by intro _; rfl) :
    PS X (.Assign [.Name y py] (.ListComp elt [⟨tg, iter, ifs, 0⟩] scope pos) spos) (tAsg (tLc wi g tt te (own.map (·.2))) (gName i)) := by
  intro pins s σ H D I h
  rw [exec_Assign_Name_used _ _ _ _ hsw]
  refine wpAny_bind (wpAny_standAt (wpAny_bind ?_))
  show wpAny _ X.A (do let _ ← comprehension (.ListComp elt [⟨tg, iter, ifs, 0⟩] scope pos) scope X.env (firstIterPos [⟨tg, iter, ifs, 0⟩] pos) (newList []) false (eval iter X.env) (some (assign (.Name y py) X.env))) _ _ s
  have h : tLc wi g tt te (own.map (·.2)) σ H (fun x H1 => gName i x σ H1 D.nx) := h
  refine wpAny_bind (thn (lc_core (Qf := fun _ s' => SP X pins D .next s') hc hN I hi ok hg ht he hs h fun L C s' m H' I' q hn f => ?_) fun _ s' hq => wpAny_pure (wpAny_pure hq))
  show wpAny _ _ (assign (.Name y py) X.env (.ref L)) _ _ _
  refine wpAny_assign_Name (store_ok2 (v := V.ref L) I' hN hy (.inl hyl) rfl (fun s2 I2 ⟨a, sb, ha⟩ => ?_) (.inr hyl))
  obtain ⟨f0, f1, f2, f3, f4, f5⟩ := f
  have haC : C ≠ a := by
    rcases ha with z | z
    · rw [z]; exact f1
    · exact fun e => f4 y a z e.symm
  refine ⟨m, hn.sameBut sb haC, fun h3 sb3 => ?_⟩
  exact ⟨_, H', I2.turned (t' := s2.toks) (fun b o hb e => (sb3.2 b hb).trans e) f0 f1 f3 f4 f5, q⟩
end

/-! ### the forms one uses -/
/-- over a range: Pv by the turn and the heap (the new list at D within) -/
theorem lc_range {lo : Int} {n : Nat} {g : TG} {tt : TT} {te : TE} {vs : List Nat} {σ : St} {H1 : Hp} {D : Addr} {Qd : Hp → Prop} (Pv : Nat → Hp → Prop) (h0 : Pv 0 (upd H1 D (.lst [])))
    (hs : ∀ i H, i < n → Pv i H → g (.int (lo + i)) (wipe σ vs) H fun σ2 H2 => wipe σ2 vs = wipe σ vs ∧ tt σ2 H2 fun b H3 =>
      if b = true then te σ2 H3 fun y H4 => ∃ acc, H4 D = some (.lst acc) ∧ acc.length < sizeLine ∧ Pv (i + 1) (upd H4 D (.lst (acc ++ [y]))) else Pv (i + 1) H3) (hd : ∀ H, Pv n H → Qd H) :
    ∃ W : Nat → Nat → Hp → Prop, (∃ m, W 0 m (upd H1 D (.lst []))) ∧ ∀ i m H, W i m H →
      ((Itr lo n).stop i H ∧ Qd H) ∨ ((Itr lo n).go i H ∧ ∃ Nx : Hp → Prop, (∀ H', Nx H' → ∃ m', m' < m ∧ W (i + 1) m' H') ∧ ∀ x H', (Itr lo n).yld i H x H' → g x (wipe σ vs) H' fun σ2 H2 => wipe σ2 vs = wipe σ vs ∧ tt σ2 H2 fun b H3 =>
        if b = true then te σ2 H3 fun y H4 => ∃ acc, H4 D = some (.lst acc) ∧ acc.length < sizeLine ∧ Nx (upd H4 D (.lst (acc ++ [y]))) else Nx H3) := by
  refine ⟨fun i m H => m = n - i ∧ i ≤ n ∧ Pv i H, ⟨n, by simp, Nat.zero_le _, h0⟩, ?_⟩
  rintro i m H ⟨rfl, hi, p⟩
  by_cases hlt : i < n
  · refine .inr ⟨hlt, Pv (i + 1), fun H' p' => ⟨n - (i + 1), by omega, rfl, hlt, p'⟩, fun x H' y => ?_⟩
    obtain ⟨e, y⟩ := y
    subst e y
    exact hs i _ hlt p
  · have e : i = n := by omega
    subst e
    exact .inl ⟨Nat.le_refl _, hd H p⟩
/-- over a list that the block leaves as it is -/
theorem lc_list {K : PySem.W.Frag} {a : Addr} {xs : List V} {g : TG} {tt : TT} {te : TE} {vs : List Nat} {σ : St} {H1 : Hp} {D : Addr} {Qd : Hp → Prop} (Pv : Nat → Hp → Prop) (h0 : Pv 0 (upd H1 D (.lst []))) (hl : ∀ i H, i ≤ xs.length → Pv i H → SqL K H a xs)
    (hs : ∀ i x H, xs[i]? = some x → Pv i H → g x (wipe σ vs) H fun σ2 H2 => wipe σ2 vs = wipe σ vs ∧ tt σ2 H2 fun b H3 =>
      if b = true then te σ2 H3 fun y H4 => ∃ acc, H4 D = some (.lst acc) ∧ acc.length < sizeLine ∧ Pv (i + 1) (upd H4 D (.lst (acc ++ [y]))) else Pv (i + 1) H3) (hd : ∀ H, Pv xs.length H → Qd H) :
    ∃ W : Nat → Nat → Hp → Prop, (∃ m, W 0 m (upd H1 D (.lst []))) ∧ ∀ i m H, W i m H →
      ((Itl K a).stop i H ∧ Qd H) ∨ ((Itl K a).go i H ∧ ∃ Nx : Hp → Prop, (∀ H', Nx H' → ∃ m', m' < m ∧ W (i + 1) m' H') ∧ ∀ x H', (Itl K a).yld i H x H' → g x (wipe σ vs) H' fun σ2 H2 => wipe σ2 vs = wipe σ vs ∧ tt σ2 H2 fun b H3 =>
        if b = true then te σ2 H3 fun y H4 => ∃ acc, H4 D = some (.lst acc) ∧ acc.length < sizeLine ∧ Nx (upd H4 D (.lst (acc ++ [y]))) else Nx H3) := by
  refine ⟨fun i m H => m = xs.length - i ∧ i ≤ xs.length ∧ Pv i H, ⟨xs.length, by simp, Nat.zero_le _, h0⟩, ?_⟩
  rintro i m H ⟨rfl, hi, p⟩
  have q := hl i H hi p
  by_cases hlt : i < xs.length
  · refine .inr ⟨⟨xs, xs[i], q, by simp [hlt]⟩, Pv (i + 1), fun H' p' => ⟨xs.length - (i + 1), by omega, rfl, hlt, p'⟩, fun x H' y => ?_⟩
    obtain ⟨e, y⟩ := y
    subst e
    exact hs i x _ (y xs q) p
  · have e : i = xs.length := by omega
    subst e
    exact .inl ⟨⟨xs, q, Nat.le_refl _⟩, hd H p⟩
def blkC (N : List Str) (sc scope : Scope) (own : List (Str × Nat)) : Bool :=
  (match scope.kind with | .function => true | _ => false) && (scope.names.all fun y => decide (scope.names.lookup y.1 = some y.2)) && (own.all fun p => decide (N[p.2]? = some p.1)) &&
    (scope.names.all fun y => match y.2 with
      | .free => (match sc.names.lookup y.1 with | some .cell => true | some .free => true | _ => false)
      | .local => decide (y.1 ∈ own.map (·.1)) || decide (y.1 ∉ N)
      | .cell => decide (y.1 ∈ own.map (·.1)) || decide (y.1 ∉ N)
      | _ => true)
theorem blkOk_by {N : List Str} {sc scope : Scope} {own : List (Str × Nat)} (h : blkC N sc scope own = true) : BlkOk N sc scope own := by
  unfold blkC at h
  simp only [Bool.and_eq_true, List.all_eq_true, decide_eq_true_eq] at h
  obtain ⟨⟨⟨h1, h2⟩, h3⟩, h4⟩ := h
  refine ⟨?_, h2, h3, fun y hy e => ?_, fun y hy e => ?_⟩
  · split at h1
    · assumption
    · cases h1
  · have q := h4 y hy
    simp only [e] at q
    split at q <;> first | exact .inl (by assumption) | exact .inr (by assumption) | cases q
  · have q := h4 y hy
    rcases e with e | e <;> (simp only [e, Bool.or_eq_true, decide_eq_true_eq] at q; exact q)
end L2

namespace L2
open PySem PySem.Spec PyProof.Rows

section
variable {prog : Program} {w : World} {A : Around} {R : Result → Shared → Prop} {s : Shared} {elt t0 i0 t1 i1 : Expr} {ifs0 ifs1 : List Expr} {scope : Scope} {pos : Pos} {it acc : Value} {env : Env}
end

section
variable {X : Cx}
end
end L2

namespace L2
open PySem PySem.Spec PyProof.Rows

/-! ### lists of pairs as tables -/
section
variable {κ : Type} [DecidableEq κ]
def valV (kvs : List (κ × V)) (k : κ) : Option V := (kvs.find? fun kv => decide (kv.1 = k)).map (·.2)
/-- in its place, or at the end -/
def putK (kvs : List (κ × V)) (k : κ) (v : V) : List (κ × V) :=
  if (kvs.any fun kv => decide (kv.1 = k)) = true then kvs.map (fun kv => if kv.1 = k then (kv.1, v) else kv) else kvs ++ [(k, v)]
def dropK (kvs : List (κ × V)) (k : κ) : List (κ × V) := kvs.filter fun kv => decide (kv.1 ≠ k)

theorem valV_pos {p : κ × V} {r : List (κ × V)} {k : κ} (e : p.1 = k) : valV (p :: r) k = some p.2 := by simp [valV, List.find?_cons, e]
theorem valV_neg {p : κ × V} {r : List (κ × V)} {k : κ} (e : ¬ p.1 = k) : valV (p :: r) k = valV r k := by simp [valV, List.find?_cons, e]
theorem valV_any (k : κ) : ∀ kvs : List (κ × V), (kvs.any fun kv => decide (kv.1 = k)) = (valV kvs k).isSome
  | [] => rfl
  | p :: r => by
    rw [List.any_cons]
    by_cases e : p.1 = k
    · simp only [valV_pos e, decide_eq_true e, Bool.true_or, Option.isSome_some]
    · rw [valV_neg e, decide_eq_false e, Bool.false_or]; exact valV_any k r
theorem RelO.isSome_eq {o : Option V} {u : Option Value} (r : RelO o u) : o.isSome = u.isSome := by
  cases o with
  | none => cases u with
    | none => rfl
    | some _ => exact (show False from r).elim
  | some _ => cases u with
    | none => exact (show False from r).elim
    | some _ => rfl
theorem RelO.getD {o : Option V} {u : Option Value} {d : V} {d' : Value} (r : RelO o u) (rd : RelV d d') : RelV (o.getD d) (u.getD d') := by
  cases o with
  | none => cases u with
    | none => exact rd
    | some _ => exact (show False from r).elim
  | some _ => cases u with
    | none => exact (show False from r).elim
    | some _ => exact r

/-- raw tables of the same keys -/
theorem KV.val {kvs : List (κ × V)} {vs : List (κ × Value)} (r : KV kvs vs) (k : κ) : RelO (valV kvs k) (valueAt vs k) := by
  unfold KV at r
  induction r with
  | nil => exact True.intro
  | @cons p q ps qs h t ih =>
    obtain ⟨h1, h2⟩ := h
    by_cases e : p.1 = k
    · have e' : q.1 = k := h1.symm.trans e
      have b : valueAt (q :: qs) k = some q.2 := by simp [valueAt, List.find?_cons, e']
      rw [valV_pos e, b]; exact h2
    · have e' : ¬ q.1 = k := fun z => e (h1.trans z)
      have b : valueAt (q :: qs) k = valueAt qs k := by simp [valueAt, List.find?_cons, e']
      rw [valV_neg e, b]; exact ih
theorem KV.any {kvs : List (κ × V)} {vs : List (κ × Value)} (r : KV kvs vs) (k : κ) : (kvs.any fun kv => decide (kv.1 = k)) = vs.any fun kv => decide (kv.1 = k) := by
  unfold KV at r
  induction r with
  | nil => rfl
  | cons h t ih => rw [List.any_cons, List.any_cons, ih, h.1]
theorem KV.repl {kvs : List (κ × V)} {vs : List (κ × Value)} (r : KV kvs vs) (k : κ) {y : V} {u : Value} (ry : RelV y u) :
    KV (kvs.map fun kv => if kv.1 = k then (kv.1, y) else kv) (vs.map fun kv => if kv.1 = k then (kv.1, u) else kv) := by
  unfold KV at r ⊢
  induction r with
  | nil => exact .nil
  | @cons p q ps qs h t ih =>
    rw [List.map_cons, List.map_cons]
    refine .cons ?_ ih
    obtain ⟨h1, h2⟩ := h
    by_cases e : p.1 = k
    · rw [if_pos e, if_pos (h1.symm.trans e)]; exact ⟨h1, ry⟩
    · rw [if_neg e, if_neg (fun z => e (h1.trans z))]; exact ⟨h1, h2⟩
theorem KV.put {kvs : List (κ × V)} {vs : List (κ × Value)} (r : KV kvs vs) (k : κ) {y : V} {u : Value} (ry : RelV y u) : KV (putK kvs k y) (stored vs k u) := by
  unfold putK stored
  rw [r.any k]
  by_cases e : (vs.any fun kv => decide (kv.1 = k)) = true
  · rw [if_pos e, if_pos e]; exact r.repl k ry
  · rw [if_neg e, if_neg e]; exact Paired.snoc r ⟨rfl, ry⟩
theorem KV.drop {kvs : List (κ × V)} {vs : List (κ × Value)} (r : KV kvs vs) (k : κ) : KV (dropK kvs k) (without vs k) := by
  unfold KV at r ⊢
  unfold dropK without
  induction r with
  | nil => exact .nil
  | @cons p q ps qs h t ih =>
    obtain ⟨h1, h2⟩ := h
    rw [List.filter_cons, List.filter_cons]
    by_cases e : p.1 = k
    · have a : ¬ decide (p.1 ≠ k) = true := by simp [e]
      have b : ¬ decide (q.1 ≠ k) = true := by simp [h1.symm.trans e]
      rw [if_neg a, if_neg b]; exact ih
    · have e' : ¬ q.1 = k := fun z => e (h1.trans z)
      have a : decide (p.1 ≠ k) = true := by simp [e]
      have b : decide (q.1 ≠ k) = true := by simp [e']
      rw [if_pos a, if_pos b]; exact .cons ⟨h1, h2⟩ ih
theorem KV.keys {kvs : List (κ × V)} {vs : List (κ × Value)} (r : KV kvs vs) : kvs.map (·.1) = vs.map (·.1) := by
  unfold KV at r
  induction r with
  | nil => rfl
  | cons h t ih => rw [List.map_cons, List.map_cons, ih, h.1]
theorem KV.length {kvs : List (κ × V)} {vs : List (κ × Value)} (r : KV kvs vs) : kvs.length = vs.length := Paired.length r
end


/-! ### a tracked dict, its keys ints and texts or tuples of these -/
/-- raw entries of a dict with tuple keys -/
abbrev KT (H : Hp) : List (List Key × V) → List (List Key × Addr × Value) → Prop := Paired fun p q => p.1 = q.1 ∧ H q.2.1 = some (.tup (p.1.map kV)) ∧ RelV p.2 q.2.2
theorem KT.val {H : Hp} {kvs : List (List Key × V)} {xs : List (List Key × Addr × Value)} (r : KT H kvs xs) (k : List Key) : RelO (valV kvs k) ((atKey xs k).map (·.2)) := by
  induction r with
  | nil => exact True.intro
  | @cons p q ps qs h t ih =>
    obtain ⟨h1, _, h2⟩ := h
    by_cases e : p.1 = k
    · have e' : q.1 = k := h1.symm.trans e
      have b : atKey (q :: qs) k = some q.2 := by simp [atKey, List.find?_cons, e']
      rw [valV_pos e, b]; exact h2
    · have e' : ¬ q.1 = k := fun z => e (h1.trans z)
      have b : atKey (q :: qs) k = atKey qs k := by simp [atKey, List.find?_cons, e']
      rw [valV_neg e, b]; exact ih
theorem KT.repl {H : Hp} {kvs : List (List Key × V)} {xs : List (List Key × Addr × Value)} (r : KT H kvs xs) (k : List Key) {y : V} {u : Value} (ry : RelV y u) :
    KT H (kvs.map fun kv => if kv.1 = k then (kv.1, y) else kv) (xs.map (putAt k u)) := by
  induction r with
  | nil => exact .nil
  | @cons p q ps qs h t ih =>
    rw [List.map_cons, List.map_cons]
    refine .cons ?_ ih
    obtain ⟨h1, h2, h3⟩ := h
    unfold putAt
    by_cases e : p.1 = k
    · rw [if_pos e, if_pos (h1.symm.trans e)]; exact ⟨h1, h2, ry⟩
    · rw [if_neg e, if_neg (fun z => e (h1.trans z))]; exact ⟨h1, h2, h3⟩
theorem KT.put {H : Hp} {kvs : List (List Key × V)} {xs : List (List Key × Addr × Value)} (r : KT H kvs xs) (k : List Key) {b : Addr} {y : V} {u : Value} (hb : H b = some (.tup (k.map kV))) (ry : RelV y u) :
    KT H (putK kvs k y) (storedH xs k b u) := by
  have e : (kvs.any fun kv => decide (kv.1 = k)) = (atKey xs k).isSome := by
    rw [valV_any, (r.val k).isSome_eq, Option.isSome_map]
  unfold putK storedH
  rw [e]
  by_cases q : (atKey xs k).isSome = true
  · rw [if_pos q, if_pos q]; exact r.repl k ry
  · rw [if_neg q, if_neg q]; exact Paired.snoc r ⟨rfl, hb, ry⟩
theorem KT.keeps {H H' : Hp} {kvs : List (List Key × V)} {xs : List (List Key × Addr × Value)} (r : KT H kvs xs) (ht : ∀ b ys, H b = some (.tup ys) → H' b = some (.tup ys)) : KT H' kvs xs :=
  Paired.mapP r fun _ _ z => ⟨z.1, ht _ _ z.2.1, z.2.2⟩

section
variable {P : Program} {w : World} {H : Hp} {h : Heap} {a : Addr}
end

/-- what the dict at a holds at the key y -/
def DGet (H : Hp) (a : Addr) (y : V) (r : Option V) : Prop :=
  (∃ kvs k, Rd H a (.dK kvs) ∧ y = kV k ∧ r = valV kvs k) ∨ ∃ kvs k b, Rd H a (.dT kvs) ∧ y = .ref b ∧ H b = some (.tup (k.map kV)) ∧ r = valV kvs k
/-- the heap behind a[y] = v -/
def DPut (H : Hp) (a : Addr) (y v : V) (H' : Hp) : Prop :=
  (∃ kvs k, H a = some (.dK kvs) ∧ y = kV k ∧ kvs.length < sizeLine ∧ H' = upd H a (.dK (putK kvs k v))) ∨
  ∃ kvs k b, H a = some (.dT kvs) ∧ y = .ref b ∧ H b = some (.tup (k.map kV)) ∧ kvs.length < sizeLine ∧ H' = upd H a (.dT (putK kvs k v))
theorem DGet.k {H : Hp} {a : Addr} {kvs : List (Key × V)} {k : Key} (e : H a = some (.dK kvs)) : DGet H a (kV k) (valV kvs k) := .inl ⟨kvs, k, .inl e, rfl, rfl⟩
theorem DGet.t {H : Hp} {a b : Addr} {kvs : List (List Key × V)} {k : List Key} (e : H a = some (.dT kvs)) (eb : H b = some (.tup (k.map kV))) : DGet H a (.ref b) (valV kvs k) := .inr ⟨kvs, k, b, .inl e, rfl, eb, rfl⟩
theorem DPut.k {H : Hp} {a : Addr} {kvs : List (Key × V)} {k : Key} {v : V} (e : H a = some (.dK kvs)) (hl : kvs.length < sizeLine) : DPut H a (kV k) v (upd H a (.dK (putK kvs k v))) := .inl ⟨kvs, k, e, rfl, hl, rfl⟩
theorem DPut.t {H : Hp} {a b : Addr} {kvs : List (List Key × V)} {k : List Key} {v : V} (e : H a = some (.dT kvs)) (eb : H b = some (.tup (k.map kV))) (hl : kvs.length < sizeLine) :
    DPut H a (.ref b) v (upd H a (.dT (putK kvs k v))) := .inr ⟨kvs, k, b, e, rfl, eb, hl, rfl⟩


section
variable {X : Cx} {pins : List (Addr × Obj)} {σ : St} {H : Hp} {s : Shared} {a : Addr} {y v : V} {u r : Value} {o : Option V} {A : Around} {E : Value → Shared → Prop}

end

section
variable {X : Cx} {pins : List (Addr × Obj)} {σ : St} {H : Hp} {s : Shared} {a : Addr} {kvs : List (Key × V)} {k : Key} {u : Value} {A : Around} {E : Value → Shared → Prop}
end


/-! ### readings and rules -/
section
variable {X : Cx} {o i e value : Expr} {pos pos' tpos : Pos} {td ty tv : TE}
end


/-! ### displays -/
section
variable {X : Cx} {pos : Pos}
end

/-! ### methods -/
/-- a method call o.m(e) of a built-in, with one argument: what must be seen of the text -/
structure M1 (X : Cx) (o : Expr) (m : Str) (apos : Pos) (e : Expr) (cpos : Pos) : Prop where
  base : attributeBase o m X.env (eval o X.env) = eval o X.env
  few : ((backTo cpos (starEach [e] X.env)).all (fun x => !x.1) && (backToKw cpos (keywordEach [] X.env)).all (fun x => x.1.isSome)
    && decide (([e] : List Expr).length + ([] : List Keyword).length + (if ([] : List Keyword).isEmpty then 0 else 1) < 30)) = true
  line : (apos.endLine == cpos.line) = true
  trees : backTo cpos (starEach [e] X.env) = [(false, eval e X.env)]
structure M2 (X : Cx) (o : Expr) (m : Str) (apos : Pos) (e f : Expr) (cpos : Pos) : Prop where
  base : attributeBase o m X.env (eval o X.env) = eval o X.env
  few : ((backTo cpos (starEach [e, f] X.env)).all (fun x => !x.1) && (backToKw cpos (keywordEach [] X.env)).all (fun x => x.1.isSome)
    && decide (([e, f] : List Expr).length + ([] : List Keyword).length + (if ([] : List Keyword).isEmpty then 0 else 1) < 30)) = true
  line : (apos.endLine == cpos.line) = true
  trees : backTo cpos (starEach [e, f] X.env) = [(false, eval e X.env), (false, eval f X.env)]

section
variable {X : Cx} {pins : List (Addr × Obj)} {σ : St} {H : Hp} {s : Shared} {a : Addr} {y d : V} {u r : Value} {o : Option V} {A : Around} {E : Value → Shared → Prop}
end

section
variable {X : Cx} {o e f : Expr} {apos cpos : Pos} {td ty tx : TE}
end

/-! ### dict(d): a copy -/
section
variable {X : Cx} {pins : List (Addr × Obj)} {σ : St} {H : Hp} {s : Shared} {a : Addr} {kvs : List (Key × V)} {A : Around} {E : Value → Shared → Prop}
end


section
variable {X : Cx} {pins : List (Addr × Obj)} {σ : St} {H : Hp} {s : Shared} {a : Addr} {y : V} {u : Value} {A : Around} {E : Value → Shared → Prop}
end
end L2

namespace L2
open PySem PySem.Spec PyProof.Rows

section
variable {prog : Program} {w : World} {A : Around} {E : Value → Shared → Prop}
end

section
variable {X : Cx}
end
end L2

namespace L2
open PySem PySem.Spec PyProof.Rows

section
variable {X : Cx} {pins : List (Addr × Obj)} {σ : St} {H : Hp} {s : Shared} {h' : Heap}
/-! ### locking a thing while a statement runs -/
end
section
variable {X : Cx}
/-! ### one iterator just laid -/
theorem pi_one {tg : Expr} {pins : List (Addr × Obj)} {σ : St} {H : Hp} {s : Shared} {R : It → Hp → Prop} {J : It} {tn : Nat → Heap → Prop} {tk : Nat} (I : Inv X pins σ H s) (o : Obj)
    (T : Turn X.prog X.w X.K tg J [s.heap.objs.size] s.heap.objs.size tn) (st : tn 0 (s.heap.push o)) (q : R J H) : PIE X pins σ tg R (.ref s.heap.objs.size) { s with heap := s.heap.push o, toks := tk } := by
  refine ⟨s.heap.objs.size, [s.heap.objs.size], tn, J, H, rfl, I.kept fun b ob e => Heap.get?_push_of_some _ e, T, st, fun b hb => ?_, q⟩
  have e : b = s.heap.objs.size := by simpa using hb
  subst e
  exact I.fpOk (Nat.le_refl _) (I.hok.fresh (Nat.le_refl _))
end

/-! ### range with a step -/
/-- range(i, j, c): small bounds, n items -/
def RgC (i j c : Int) (n : Nat) : Prop := c ≠ 0 ∧ c.natAbs < 1073741824 ∧ Builtin.Range.small i j c = true ∧ Builtin.Range.rangeSize i j c = n
theorem RgC.neg {i j : Int} (ha : -(2 ^ 62) ≤ i) (ha' : i < 2 ^ 62) (hb : -(2 ^ 62) ≤ j) (hb' : j < 2 ^ 62) : RgC i j (-1) (i - j).toNat :=
  ⟨by decide, by decide, PySem.W.small_down ha ha' hb hb', PySem.W.rangeSize_downNat i j⟩
section
variable {X : Cx} {tg : Expr}
end
/-! ### reversed(list) -/
section
variable {X : Cx} {tg : Expr}
end

/-! ### a str -/
def Its (x : Str) : It := ⟨fun i _ => i < x.cps.size, fun i H v H' => H' = H ∧ ∃ c, x.cps[i]? = some c ∧ v = .str ⟨#[c]⟩, fun i _ => x.cps.size ≤ i⟩
theorem turn_str {P : Program} {w : World} {K : PySem.W.Frag} {tg : Expr} (it : Addr) (x : Str) (t : Tok) (ty : String) (hty : ty = "str_ascii_iterator" ∨ ty = "str_iterator") :
    Turn P w K tg (Its x) [it] it (fun i h => h.IsStrIter it ty x t i) where
  mem := by simp
  obj := fun i h st b hb => by
    have e : b = it := by simpa using hb
    subst e
    obtain ⟨o, e, c, d⟩ := st
    exact ⟨o, e, fun v z => by rw [d] at z; cases z⟩
  keep := fun i h h' st k => let ⟨o, ho, r⟩ := st; ⟨o, k it (by simp) o ho, r⟩
  item := by
    intro X hP hw hK hc i pins s σ H E I hf st hg
    subst hP hw hK
    obtain ⟨f0, f1, f2, f3, f4, f5⟩ := hf it (by simp)
    have W : Walks X.prog X.w X.A it [it] [it] x.cps.size (SignAt x) (fun i h => h.IsStrIter it ty x t i) := by
      rcases hty with e | e
      · rw [e]; exact Walks.strAscii (I.ok.hd hc) it x t
      · rw [e]; exact Walks.strWide (I.ok.hd hc) it x t
    have hno : ["enumerate", "zip", "dict_itemiterator", "dict_reverseitemiterator", "odict_iterator", "itertools.zip_longest", "itertools.pairwise"].contains ty = false := by
      rcases hty with e | e
      · rw [e]; decide
      · rw [e]; decide
    refine W.item i s _ _ hg st fun v h' tk hv st' kk => ?_
    obtain ⟨c, u, hcx, rfl⟩ := hv
    have I1 : Inv X pins σ H { s with heap := h', toks := tk } := I.turned (fun b o hb e => kk b o (by simpa using hb) e) f0 f1 f3 f4 f5
    obtain ⟨oi, e, cc, dd⟩ := id st'
    exact ⟨_, rfl, go_of (s := { s with heap := h', toks := tk }) e cc dd hno ⟨.str ⟨#[c]⟩, H, I1, ⟨u, rfl⟩, ⟨rfl, c, hcx, rfl⟩, st', fun b hb => (hf b hb).1⟩⟩
  done := by
    intro X hP hw hK hc i pins s σ H E I hf st hg
    subst hP hw hK
    obtain ⟨f0, f1, f2, f3, f4, f5⟩ := hf it (by simp)
    have hx : x.cps[i]? = none := Array.getElem?_eq_none hg
    rcases hty with e | e
    · rw [e] at st
      exact wpAny_pyNext_ascii_end (I.ok.hd hc) st hx fun h' eb => ⟨rfl, I.turned (t' := s.toks) (fun b o hb e => eb b o hb e) f0 f1 f3 f4 f5⟩
    · rw [e] at st
      exact wpAny_pyNext_wide_end (I.ok.hd hc) st hx fun h' eb => ⟨rfl, I.turned (t' := s.toks) (fun b o hb e => eb b o hb e) f0 f1 f3 f4 f5⟩
  self := fun A i s Q E st h => by
    rcases hty with e | e
    · rw [e] at st; exact wpAny_pyIter_striter_ascii st h
    · rw [e] at st; exact wpAny_pyIter_striter_wide st h
def iStr (te : TE) : TI := fun σ H R => te σ H fun v H1 => ∃ x, v = .str x ∧ R (Its x) H1
theorem pi_str {X : Cx} {tg e : Expr} {te : TE} (he : PE X e te) : PI X tg e (iStr te) := by
  intro pins s σ H R I h
  refine thn (he pins s σ H _ I h) fun v s1 ⟨y, H1, I1, r1, x, ex, q⟩ => ?_
  subst ex
  obtain ⟨t, rfl⟩ := r1
  cases ha : x.cps.all (· < 128)
  · exact wpAny_pyIter_wide ha (pi_one (tk := s1.toks) I1 _ (turn_str _ x t "str_iterator" (.inr rfl)) ⟨_, Heap.get?_push_size _ rfl, rfl, rfl⟩ q)
  · exact wpAny_pyIter_ascii ha (pi_one (tk := s1.toks) I1 _ (turn_str _ x t "str_ascii_iterator" (.inl rfl)) ⟨_, Heap.get?_push_size _ rfl, rfl, rfl⟩ q)

/-! ### a dict's keys: any dict's entries -/
section
variable {prog : Program} {w : World} {A : Around} {E : Value → Shared → Prop} {s : Shared}
end

/-! ### a locked dict -/
section
variable {X : Cx} {pins : List (Addr × Obj)} {σ : St} {H : Hp} {s : Shared} {d : Addr} {o : Obj}
end

section
variable {P : Program} {w : World} {K : PySem.W.Frag} {tg : Expr} {d : Addr} {o : Obj} {es : Array DictEntry} {ep : Nat}
end

/-! ### for k in d, d.keys(), d.values(), d.items() -/
section
variable {X : Cx} {tg e : Expr} {td : TE} {apos cpos : Pos}
end

/-! ### enumerate(list) -/
/-! ### zip(list, list) -/
end L2

section 
namespace Bits
open PySem PyProof.Rows

end Bits
end 

section 
namespace TL
open PySem PySem.Builtin PySem.Builtin.Str PySem.StrLaws

abbrev tl (x : Str) : List Nat := x.cps.toList
/-! ### the list functions -/
/-- S stands at the head of l -/
def pre (S l : List Nat) : Bool := l.take S.length == S
/-- l cut at each S from the left; k signs are still to be passed over -/
def spl (S : List Nat) : Nat → List Nat → List Nat → List (List Nat)
  | _, acc, [] => [acc]
  | 0, acc, c :: r => if pre S (c :: r) = true then acc :: spl S (S.length - 1) [] r else spl S 0 (acc ++ [c]) r
  | k + 1, acc, _ :: r => spl S k acc r
/-- what stands before the first S, and behind it -/
def par (S : List Nat) : List Nat → List Nat → Option (List Nat × List Nat)
  | _, [] => none
  | acc, c :: r => if pre S (c :: r) = true then some (acc, (c :: r).drop S.length) else par S (acc ++ [c]) r

/-! ### the model's split and partition are these -/
/-! ### computing spl and par -/
theorem join_eq (y : Str) (parts : List Str) : Txt.join y parts = Str.join y parts := glued_eq_join y parts
/-! ### digits -/
/-! ### words: x.split() -/
end TL
end 

namespace L2
open PySem PySem.Spec PyProof.Rows

theorem strs_of_vals : ∀ {ys : List Str} {us : List Value}, Vals (ys.map V.str) us → StrsAre us ys
  | [], _, .nil => .nil
  | y :: ys, _, .cons r t => by
    obtain ⟨k, rfl⟩ := r
    exact .cons y k (strs_of_vals t)

section
variable {X : Cx} {pins : List (Addr × Obj)} {σ : St} {H : Hp} {s : Shared} {Q : VK}
end

section
variable {X : Cx}

/-- sep.join(a list | a tuple of texts) -/
theorem mt_join : MtR X "str.join" (fun x xs H Q => ∃ a p, ∃ ys : List Str, x = .str a ∧ xs = [.ref p] ∧ (SqL X.K H p (ys.map V.str) ∨ SqT X.K H p (ys.map V.str)) ∧
    (ys.map (·.length)).sum + ys.length * a.length ≤ 16777216 ∧ Q (.str (Txt.join a ys)) H) := by
  intro pins s σ H x xs v us Q I rx rs h
  obtain ⟨a, p, ys, rfl, rfl, hp, hz, h⟩ := h
  obtain ⟨t, rfl⟩ := rx
  cases rs with
  | cons r1 rs =>
    cases rs
    cases r1
    rcases hp with hp | hp
    · obtain ⟨its, r, ⟨o, n, ho, hc, _, hd⟩, _⟩ := I.list hp
      exact PyProof.Rows.join_list (items := its.toArray) ⟨o, ho, hc, n, hd⟩ (by rw [List.toList_toArray]; exact strs_of_vals r) hz fun t' k => ⟨.str _, H, I.tok k, ⟨t', rfl⟩, h⟩
    · obtain ⟨its, r, ht, _⟩ := I.tuple hp
      exact PyProof.Rows.join_tuple (items := its.toArray) ht (by rw [List.toList_toArray]; exact strs_of_vals r) hz fun t' k => ⟨.str _, H, I.tok k, ⟨t', rfl⟩, h⟩

/-! ### of a text alone -/
/-! ### of a text and a text -/
end

section
variable {X : Cx} {o e : Expr} {to te : TE}
def tM1 (r : V → List V → Hp → VK → Prop) (to te : TE) : TE := fun σ H Q => to σ H fun x H1 => (∃ a, x = .str a) ∧ te σ H1 fun y H2 => r x [y] H2 Q
theorem pe_m1 {id : String} {name : Str} {apos pos : Pos} {r : V → List V → Hp → VK → Prop} (slot : Slot "str" name id) (ty : typeOf (.builtin id) = pure (.type "method_descriptor")) (rule : MtR X id r) (ho : PE X o to) (he : PE X e te)
    (hs : starEach [e] X.env = [(false, eval e X.env)] := by rfl) (hbase : attributeBase o name X.env (eval o X.env) = eval o X.env := by rfl) (hline : (apos.endLine == pos.line) = true := by rfl) :
    PE X (.Call (.Attribute o name apos) [e] [] pos) (tM1 r to te) := by
  intro pins s σ H Q I h
  refine PySem.Call_method1 hbase hs hline (thn (ho pins s σ H _ I h) fun v s1 ⟨x, H1, I1, r1, q1⟩ => ?_)
  obtain ⟨⟨a, rfl⟩, q1⟩ := q1
  obtain ⟨t, rfl⟩ := _root_.id r1
  refine ⟨"str", _, F.plainAttrs_str, slot, ty, typeIs_str _ _ _, (fun _ e => nomatch e), Calls.callWith_builtin rfl (Calls.evalArgs_plain (Calls.spliced_cons ?_))⟩
  exact thn (he pins s1 σ H1 _ I1 q1) fun u s2 ⟨y, H2, I2, r2, q2⟩ => Calls.spliced_nil (rule pins s2 σ H2 _ [y] _ [u] Q I2 r1 (.cons r2 .nil) q2)

theorem pe_join {apos pos : Pos} (ho : PE X o to) (he : PE X e te) (hs : starEach [e] X.env = [(false, eval e X.env)] := by rfl) (hbase : attributeBase o "join" X.env (eval o X.env) = eval o X.env := by rfl) (hline : (apos.endLine == pos.line) = true := by rfl) :
    PE X (.Call (.Attribute o "join" apos) [e] [] pos) (tM1 (fun x xs H Q => ∃ a p, ∃ ys : List Str, x = .str a ∧ xs = [.ref p] ∧ (SqL X.K H p (ys.map V.str) ∨ SqT X.K H p (ys.map V.str)) ∧
      (ys.map (·.length)).sum + ys.length * a.length ≤ 16777216 ∧ Q (.str (Txt.join a ys)) H) to te) :=
  pe_m1 F.slot_str_join F.type_str_join mt_join ho he hs hbase hline
end
end L2

namespace L2
open PySem PySem.Spec PyProof.Rows

section
variable {X : Cx}
end

/-! ### slices of a text -/
theorem IsPart.raw {v : Value} {o : Option Int} (p : IsPart v o) : ∃ l : Option (Int × Tok), v = partValue l ∧ l.map (·.1) = o := by
  cases p with
  | none => exact ⟨none, rfl, rfl⟩
  | int i t => exact ⟨some (i, t), rfl, rfl⟩

end L2

namespace Att
open PySem PySem.W PySem.Calls PyProof.Rows

/-! ### the script -/
theorem ints_of_wellAll {P : Params} {h : Heap} : ∀ (ns : List Int) (vs : List Value), WellAll P h vs (ns.map WData.int) → IntsAre vs ns := by
  intro ns
  induction ns with
  | nil =>
    intro vs w
    rw [List.map_nil] at w
    cases w
    exact .nil
  | cons n ns ih =>
    intro vs w
    rw [List.map_cons] at w
    cases w with
    | cons a b =>
      cases a
      exact .cons _ _ (ih _ b)

/-! ### the attachment: holds_open's last premise (the goal 'hc' behind k_head) from a wpAny of the law's body -/
/-! ### rules over ANY heap (no ledger) from facts about the written part K: the library's own take a ledger (News) for what they write -/
section
variable {prog : Program} {w : World} {A : Around} {E : Value → Shared → Prop} {s : Shared} {K : Frag}

/-! the whole heap as the ledger: makes every rule that writes through a ledger a rule over any heap -/
def ledger (h : Heap) (L d : Addr) : List (Addr × Obj) := (List.range h.objs.size).filterMap fun a => if a = L ∨ a = d then none else (h.get? a).map fun o => (a, o)
end
end Att

namespace L2
open PySem PySem.Spec PyProof.Rows

theorem vals_ints : ∀ {vs : List Value} {ns : List Int}, IntsAre vs ns → Vals (ns.map V.int) vs
  | _, _, .nil => .nil
  | _, _, .cons n t h => .cons ⟨t, rfl⟩ (vals_ints h)

/-- nothing is tracked but the script, known to the object (or it is an object of the module) -/
def Only (H : Hp) : Prop := ∀ b, H b = none ∨ ∃ o xs, H b = some (.frz o (.lst xs))

end L2

namespace L2
open PySem PySem.Spec PyProof.Rows

end L2

/-! SHORT WORDS over the layer: a def of the text, its body, what a loop and a test want. -/
namespace L2
open PySem PySem.Spec PyProof.Rows

/-! ### the text by places -/
/-- the j-th statement of a class's body -/
def inClass (s : Stmt) (j : Nat) : Stmt := match s with
  | .ClassDef _ _ _ body _ _ _ _ _ _ _ => body.getD j (.Pass ⟨0, 0, 0, 0⟩)
  | _ => .Pass ⟨0, 0, 0, 0⟩
def defArgs (s : Stmt) : Arguments := match s with
  | .FunctionDef _ a _ _ _ _ _ _ _ _ => a
  | _ => { posonlyargs := [], args := [], vararg := none, kwonlyargs := [], kw_defaults := [], kwarg := none, defaults := [] }
def defBody (s : Stmt) : List Stmt := match s with
  | .FunctionDef _ _ b _ _ _ _ _ _ _ => b
  | _ => []
def defScope (s : Stmt) : Scope := match s with
  | .FunctionDef _ _ _ _ _ _ sc _ _ _ => sc
  | _ => { kind := .function, names := [], isGenerator := false, isCoroutine := false }

/-! ### no exception leaves a def -/
abbrev CX0 : CXT := fun _ _ _ _ _ _ => False
abbrev E0 : XK := fun _ _ _ => False
theorem pass0 {X : Cx} : Passes CX0 X E0 := fun _ _ _ _ _ _ _ h => h.elim

/-! ### a def (or method) of the text as it stands behind the top -/
structure Fun (K : PySem.W.Frag) (x qual : Str) (st : Stmt) (f : Addr) (fd : FuncData) : Prop where
  ex : ∃ (oc : Value) (od : Option Addr) (kV doc pm : Value) (an : Option Addr) (cdv ct : Value) (osl : Array (Option Value)),
    fd = PySem.W.fnOf x qual (defArgs st) (defBody st) (defScope st) .none kV doc pm an cdv ct ∧ K.lookup f = some ⟨oc, od, .func fd, osl⟩ ∧ PySem.W.codeIn K cdv qual = true
  kp : PySem.W.keepIn K (.ref f) = true
section
variable {P : Program} {w : World} {K : PySem.W.Frag} {mg : Str → Option Value} {base : Heap}
/-- THE RULE for a def: its body as a term of rules, and the reading of that term -/
theorem Fun.ok {x qual : Str} {st : Stmt} {f : Addr} {fd : FuncData} {N ps : List Str} {k : Nat} {sp : Sp} (F : Fun K x qual st f fd) (S : FnScope N ps (defScope st)) (len : ∀ vs H Q E, sp vs H Q E → vs.length = ps.length)
    (hbody : ∀ (cdv : Value) (A : Around) (outer : List Env) (s : Shared) (H : Hp) (vs : List V) (Q : VK) (E : XK), Room k (A.deeper (envOfC qual (defScope st) s.heap.objs.size f cdv)) → sp vs H Q E →
      ∃ t, PSs (cxOf CX0 P w K mg base N qual (defScope st) f cdv A outer s H E).nox (defBody st) t ∧ t { nx := fun _ H' => Q .non H', rt := Q } (start N vs) H) : FnOk P w K mg base CX0 (k + 1) f fd ps sp := by
  obtain ⟨oc, od, kV, doc, pm, an, cdv, ct, osl, rfl, lk, hcd⟩ := F.ex
  refine fn_of lk hcd S len fun A outer s H vs Q E hr hsp => ?_
  obtain ⟨t, h, q⟩ := hbody cdv A outer s H vs Q E hr hsp
  exact ⟨t, h.nox, q⟩
/-- how its arguments bind (no defaults): h is «fun _ _ _ _ _ _ us hl => match us, hl with | [_, _], _ => rfl», one _ a parameter -/
theorem Fun.binds {x qual : Str} {st : Stmt} {f : Addr} {fd : FuncData} {ps : List Str} (F : Fun K x qual st f fd)
    (h : ∀ (kV doc pm : Value) (an : Option Addr) (cdv ct : Value) (us : List Value), us.length = ps.length → bindArgs (PySem.W.fnOf x qual (defArgs st) (defBody st) (defScope st) .none kV doc pm an cdv ct) ⟨us, []⟩ = pure (ps.zip us)) : Binds K fd ps [] := by
  obtain ⟨oc, od, kV, doc, pm, an, cdv, ct, osl, rfl, lk, hcd⟩ := F.ex
  exact .all (h kV doc pm an cdv ct)
theorem fun_mk {x qual : Str} {st : Stmt} {f : Addr} {oc : Value} {od an : Option Addr} {osl : Array (Option Value)} {kV doc pm cdv ct : Value} (l : K.lookup f = some ⟨oc, od, .func (PySem.W.fnOf x qual (defArgs st) (defBody st) (defScope st) .none kV doc pm an cdv ct), osl⟩)
    (c : PySem.W.codeIn K cdv qual = true) (k : PySem.W.keepIn K (.ref f) = true) : Fun K x qual st f (PySem.W.fnOf x qual (defArgs st) (defBody st) (defScope st) .none kV doc pm an cdv ct) := ⟨⟨oc, od, kV, doc, pm, an, cdv, ct, osl, rfl, l, c⟩, k⟩
end
/-! ### expressions in short: the name that stands in the i-th slot -/
section
variable {X : Cx}
theorem pv (i : Nat) {x : Str} {pos : Pos} (hN : X.N[i]? = some x := by rfl) (hv : Vis X.env.scope x := by first | exact Or.inl rfl | exact Or.inr (Or.inl rfl) | exact Or.inr (Or.inr rfl)) (hd : (x == ("__debug__" : Str)) = false := by decide)
    (hcd : (x == ("__classdict__" : Str)) = false := by decide) : PE X (.Name x pos) (tVar i) := pe_var hN hv hd hcd
end

/-! ### tests -/
theorem iteF {A B : Prop} (h : B) : if false = true then A else B := by
  rw [if_neg Bool.false_ne_true]
  exact h
theorem iteT {A B : Prop} (h : A) : if true = true then A else B := by
  rw [if_pos rfl]
  exact h
/-! ### heaps -/
/-- all that was tracked is as it was -/
def Same (H H' : Hp) : Prop := ∀ b o, H b = some o → H' b = some o
theorem Same.refl (H : Hp) : Same H H := fun _ _ h => h
theorem Same.trans {H H1 H2 : Hp} (a : Same H H1) (b : Same H1 H2) : Same H H2 := fun c o h => b c o (a c o h)
theorem Same.free {H H' : Hp} (e : Same H H') {l : Addr} (h : H' l = Option.none) : H l = Option.none := by
  cases q : H l with
  | none => rfl
  | some o =>
    rw [e l o q] at h
    cases h
theorem Same.seq {K : PySem.W.Frag} {H H' : Hp} {a : Addr} {xs : List V} (e : Same H H') (h : SqL K H a xs) : SqL K H' a xs := by
  rcases h with (h | ⟨o, h⟩) | h
  · exact .inl (.inl (e _ _ h))
  · exact .inl (.inr ⟨o, e _ _ h⟩)
  · exact .inr h

/-! ### a dict's pairs: keys that differ -/
section
variable {κ : Type} [DecidableEq κ]
end
/-! ### lists -/
theorem at_of {xs : List V} {z : Int} {j : Nat} {v : V} (e : z = (j : Int)) (h : xs[j]? = some v) : atI xs z = some v := by
  rw [e]
  exact atI_nat h
/-- a new instance and its __init__ leave all that was tracked as it was -/
theorem Same.made {H H1 : Hp} {x dx C : Addr} (nx : H x = Option.none) (nd : H dx = Option.none) (k : ∀ b o, (upd (upd H dx (.own x)) x (.ins C dx [])) b = some o → b ≠ x → H1 b = some o) : Same H H1 := fun b o e =>
  k b o (by rw [upd_ne (ne_of_none e nx), upd_ne (ne_of_none e nd)]; exact e) (ne_of_none e nx)
end L2
namespace L3
open PySem
/-- an exception at e of the class at C, its attributes in the dict at dx; tb: the newest entry of its traceback and where it flies -/
def ExAt (C : Addr) (Z : Prop) (h : Heap) (e dx : Addr) (tb : Option (Addr × Value)) : Prop :=
  ∃ od vs sl, h.get? e = some ⟨.ref C, some dx, .fields vs, sl⟩ ∧ (od = some dx ∧ (Z → vs[2]? = some .none)) ∧ 1 < vs.size ∧ match tb with
    | none => vs[1]? = some .none
    | some (T, fl) => vs[1]? = some (.ref T) ∧ T ≠ e ∧ ∃ oT ts, h.get? T = some oT ∧ oT.data = .fields ts ∧ ts[3]? = some fl
/-- all is kept but e, its newest entry, and the slots of the frames -/
structure Chg (fs : List Addr) (e : Addr) (T : Option Addr) (h h' : Heap) : Prop where
  keep : ∀ b o, h.get? b = some o → b ∉ fs → b ≠ e → T ≠ some b → h'.get? b = some o
  slot : ∀ b o, h.get? b = some o → b ∈ fs → b ≠ e → T ≠ some b → ∃ sl, h'.get? b = some { o with slots := sl }
  there : ∀ b o, h.get? b = some o → ∃ o', h'.get? b = some o'
  size : h.objs.size ≤ h'.objs.size
theorem ExAt.not_frame {C : Addr} {Z : Prop} {h base : Heap} {e dx : Addr} {tb : Option (Addr × Value)} {l : List Env} (x : ExAt C Z h e dx tb) (hl : h.FunFrames base l) :
    e ∉ l.filterMap (·.frame) ∧ ∀ T fl, tb = some (T, fl) → T ∉ l.filterMap (·.frame) := by
  obtain ⟨od, vs, sl, he, -, -, ht⟩ := x
  refine ⟨fun m => ?_, fun T fl q m => ?_⟩
  · obtain ⟨_, o, ho, hn⟩ := hl.mem m
    rw [he] at ho; cases ho
    exact hn vs rfl
  · subst q
    obtain ⟨-, -, oT, ts, hT, hd, -⟩ := ht
    obtain ⟨_, o, ho, hn⟩ := hl.mem m
    rw [hT] at ho; cases ho
    exact hn ts hd
section
variable {M : Model} {A : Around} {E : Value → Shared → Prop} {s : Shared}
theorem enter_new {base : Heap} {env : Env} {outer : List Env} {C L e dx : Addr} {Z : Prop} {tb : Option (Addr × Value)} {head : Value} {hadNext : Bool} {Q : Unit → Shared → Prop}
    (hfr : A.frames = some (env :: outer)) (hl : s.heap.FunFrames base (env :: outer)) (hf : env.frame = some L) (hx : ExAt C Z s.heap e dx tb)
    (h : ∀ h' T, Chg ((env :: outer).filterMap (·.frame)) e none s.heap h' → ExAt C Z h' e dx (some (T, rawInt L)) → s.heap.get? T = none → s.heap.objs.size ≤ T → Q () { s with heap := h' }) :
    wpAny M A (do
      let a ← frameOf env
      let pl ← entryPlaceOf L hadNext
      let b ← EntryCells.newEntry head a .none (rawInt L) .none pl
      setField (.ref e) 1 b) Q E s := by
  obtain ⟨nfe, -⟩ := hx.not_frame hl
  obtain ⟨od, vs, sl, he, ⟨-, hz2⟩, hsz, -⟩ := hx
  refine wpAny_bind (wpAny_frameOf_fun hfr hl hf fun h1 hs1 => ?_)
  refine wpAny_bind (wpAny_entryPlaceOf fun pl hpl => ?_)
  unfold EntryCells.newEntry newFields
  refine wpAny_bind (wpAny_newObj_type ?_ (hpl.sizeOk5 _ _ _ _ _))
  have he1 : h1.get? e = some ⟨.ref C, some dx, .fields vs, sl⟩ := (hs1.2.1 e nfe).trans he
  let oN : Obj := { cls := .type "traceback", dict := none, data := .fields ([head, .ref L, .none, rawInt L, .none] ++ (if pl.isEmpty then List.replicate 6 Value.none else pl)).toArray }
  have he2 : (h1.push oN).get? e = some ⟨.ref C, some dx, .fields vs, sl⟩ := Heap.get?_push_of_some oN he1
  have hTe : h1.objs.size ≠ e := Nat.ne_of_gt (Heap.lt_size he1)
  refine wpAny_setField he2 rfl hsz ?_
  have hd3 := Obj.data_mapFields (o := ⟨.ref C, some dx, .fields vs, sl⟩) rfl (·.setIfInBounds 1 (Value.ref h1.objs.size))
  have he3 := Heap.get?_update_self (Obj.mapFields (·.setIfInBounds 1 (Value.ref h1.objs.size))) he2 (Obj.isFreed_of_fields hd3)
  have hT3 : ((h1.push oN).update e (Obj.mapFields (·.setIfInBounds 1 (Value.ref h1.objs.size)))).get? h1.objs.size = some oN :=
    (Heap.get?_update_other _ _ (Ne.symm hTe)).trans (Heap.get?_push_size h1 rfl)
  have kp : ∀ b o, b ≠ e → h1.get? b = some o → ((h1.push oN).update e (Obj.mapFields (·.setIfInBounds 1 (Value.ref h1.objs.size)))).get? b = some o := fun b o hb q => by
    rw [Heap.get?_update_other _ _ (Ne.symm hb)]
    exact Heap.get?_push_of_some _ q
  have fresh : s.heap.get? h1.objs.size = none := Heap.get?_none_of_le (by rw [hs1.1]; exact Nat.le_refl _)
  refine h _ h1.objs.size ⟨fun b o q nb ne _ => ?_, fun b o q mb ne _ => ?_, fun b o q => ?_, ?_⟩ ?_ fresh (by rw [hs1.1]; exact Nat.le_refl _)
  · exact kp b o ne ((hs1.2.1 b nb).trans q)
  · obtain ⟨sl', q'⟩ := hs1.2.2 b o q
    exact ⟨sl', kp b _ ne q'⟩
  · by_cases hb : b = e
    · subst hb
      exact ⟨_, he3⟩
    · obtain ⟨sl', q'⟩ := hs1.2.2 b o q
      exact ⟨_, kp b _ hb q'⟩
  · rw [Heap.size_after_update, Heap.size_push, hs1.1]
    exact Nat.le_succ _
  · refine ⟨some dx, vs.setIfInBounds 1 (Value.ref h1.objs.size), sl, ?_, ⟨rfl, fun z => by rw [Array.getElem?_setIfInBounds_ne (by decide)]; exact hz2 z⟩, by simpa using hsz, by simp [hsz], hTe, oN, _, hT3, rfl, ?_⟩
    · exact he3
    · first
        | (simp; done)
        | (rcases hpl with rfl | ⟨_, _, _, _, _, _, _, rfl⟩ <;> simp)
theorem note_ex {base : Heap} {env : Env} {outer : List Env} {C L e dx : Addr} {Z : Prop} {tb : Option (Addr × Value)} {Q : Unit → Shared → Prop}
    (hfr : A.frames = some (env :: outer)) (hl : s.heap.FunFrames base (env :: outer)) (hf : env.frame = some L) (hx : ExAt C Z s.heap e dx tb) (hfl : ∀ T fl, tb = some (T, fl) → fl = .none)
    (h : ∀ h' T, Chg ((env :: outer).filterMap (·.frame)) e (tb.map (·.1)) s.heap h' → ExAt C Z h' e dx (some (T, rawInt L)) → s.heap.objs.size ≤ T → Q () { s with heap := h' }) :
    wpAny M A (noteFrame (.ref e) env) Q E s := by
  unfold noteFrame
  simp only [hf]
  cases tb with
  | none =>
    obtain ⟨od, vs, sl, he, e1, hsz, h1⟩ := id hx
    refine wpAny_bind (wpAny_field he rfl h1 ?_)
    rw [if_neg (by decide)]
    exact enter_new hfr hl hf hx fun h' T c x _ hz => h h' T c x hz
  | some y =>
    obtain ⟨T, fl⟩ := y
    obtain rfl : fl = .none := hfl T fl rfl
    obtain ⟨-, nfT⟩ := hx.not_frame hl
    have nfT := nfT T _ rfl
    obtain ⟨od, vs, sl, he, e1, hsz, h1, hTe, oT, ts, hT, hdT, h3⟩ := hx
    refine wpAny_bind (wpAny_field he rfl h1 ?_)
    rw [if_pos (show (Value.ref T != Value.none) = true from by simp)]
    refine wpAny_bind (wpAny_field hT hdT h3 ?_)
    rw [if_neg (show ¬ ((Value.none == rawInt L) = true) from by simp [rawInt])]
    refine wpAny_bind (wpAny_setField hT hdT (Array.getElem?_eq_some_iff.mp h3).1 ?_)
    have oth : ∀ b, b ≠ T → (s.heap.update T (Obj.mapFields (·.setIfInBounds 3 Value.none))).get? b = s.heap.get? b := fun b hb => Heap.get?_update_other _ _ (Ne.symm hb)
    have hT2 := Heap.get?_update_self (Obj.mapFields (·.setIfInBounds 3 Value.none)) hT (Obj.isFreed_of_fields (Obj.data_mapFields hdT _))
    have sz := Heap.size_after_update s.heap T (Obj.mapFields (·.setIfInBounds 3 Value.none))
    have hl2 : (s.heap.update T (Obj.mapFields (·.setIfInBounds 3 Value.none))).FunFrames base (env :: outer) := hl.of_keeps fun b o q hn => by
      refine ⟨o, (oth b ?_).trans q, rfl⟩
      rintro rfl
      rw [hT] at q; cases q
      exact hn ts hdT
    refine enter_new (s := { s with heap := s.heap.update T (Obj.mapFields (·.setIfInBounds 3 Value.none)) }) (tb := some (T, .none)) hfr hl2 hf
      ⟨od, vs, sl, (oth e (Ne.symm hTe)).trans he, e1, hsz, h1, hTe, _, _, hT2, Obj.data_mapFields hdT _, by simp [(Array.getElem?_eq_some_iff.mp h3).1]⟩ fun h' T' c x _ hz => ?_
    refine h h' T' ⟨fun b o q nb ne nT => ?_, fun b o q mb ne nT => ?_, fun b o q => ?_, ?_⟩ x ?_
    · exact c.keep b o ((oth b fun z => nT (by rw [z]; rfl)).trans q) nb ne (by simp)
    · exact c.slot b o ((oth b fun z => nT (by rw [z]; rfl)).trans q) mb ne (by simp)
    · by_cases hb : b = T
      · subst hb
        exact c.there b _ hT2
      · exact c.there b o ((oth b hb).trans q)
    · exact Nat.le_trans (Nat.le_of_eq sz.symm) c.size
    · exact Nat.le_trans (Nat.le_of_eq sz.symm) hz
theorem flight_ex {C e dx T : Addr} {Z : Prop} {fl : Value} {fs : List Addr} {fr : Option Addr} {Q : Unit → Shared → Prop} (hx : ExAt C Z s.heap e dx (some (T, fl)))
    (h : ∀ h', Chg fs e (some T) s.heap h' → ExAt C Z h' e dx (some (T, fr.elim .none fun f => rawInt f)) → Q () { s with heap := h' }) : wpAny M A (setFlight (.ref e) fr) Q E s := by
  obtain ⟨od, vs, sl, he, e1, hsz, h1, hTe, oT, ts, hT, hdT, h3⟩ := hx
  unfold setFlight
  refine wpAny_bind (wpAny_field he rfl h1 ?_)
  rw [if_pos (show (Value.ref T != Value.none) = true from by simp)]
  generalize (fr.elim Value.none fun f => rawInt f) = nw at h ⊢
  have oth : ∀ b, b ≠ T → (s.heap.update T (Obj.mapFields (·.setIfInBounds 3 nw))).get? b = s.heap.get? b := fun b hb => Heap.get?_update_other _ _ (Ne.symm hb)
  have hT2 := Heap.get?_update_self (Obj.mapFields (·.setIfInBounds 3 nw)) hT (Obj.isFreed_of_fields (Obj.data_mapFields hdT _))
  refine wpAny_setField hT hdT (Array.getElem?_eq_some_iff.mp h3).1 (h _ ⟨fun b o q _ _ nT => ?_, fun b o q _ _ nT => ?_, fun b o q => ?_, ?_⟩ ?_)
  · exact (oth b fun z => nT (by rw [z])).trans q
  · exact ⟨o.slots, (oth b fun z => nT (by rw [z])).trans q⟩
  · by_cases hb : b = T
    · subst hb
      exact ⟨_, hT2⟩
    · exact ⟨o, (oth b hb).trans q⟩
  · exact Nat.le_of_eq (Heap.size_after_update _ _ _).symm
  · exact ⟨od, vs, sl, (oth e (Ne.symm hTe)).trans he, e1, hsz, h1, hTe, _, _, hT2, Obj.data_mapFields hdT _, by simp [(Array.getElem?_eq_some_iff.mp h3).1]⟩
/-- the frame's own entry stands already -/
theorem note_own {env : Env} {C L e dx T : Addr} {Z : Prop} {Q : Unit → Shared → Prop} (hf : env.frame = some L) (hx : ExAt C Z s.heap e dx (some (T, rawInt L))) (h : Q () s) : wpAny M A (noteFrame (.ref e) env) Q E s := by
  obtain ⟨od, vs, sl, he, e1, hsz, h1, hTe, oT, ts, hT, hdT, h3⟩ := hx
  unfold noteFrame
  simp only [hf]
  refine wpAny_bind (wpAny_field he rfl h1 ?_)
  rw [if_pos (show (Value.ref T != Value.none) = true from by simp)]
  refine wpAny_bind (wpAny_field hT hdT h3 ?_)
  rw [if_pos (show (rawInt L == rawInt L) = true from by simp)]
  exact wpAny_pure h
end
end L3
namespace L3
open PySem
abbrev bmE : List Value := [.type "Exception", .type "BaseException", .type "object"]
abbrev bmX (ms : List Addr) : List Value := ms.map Value.ref ++ bmE
theorem bmX_type (C : Addr) (X : String) : ∀ ms : List Addr, (Value.ref C :: bmX ms).contains (.type X) = bmE.contains (.type X) := by
  have go : ∀ ms : List Addr, (bmX ms).contains (.type X) = bmE.contains (.type X) := by
    intro ms
    induction ms with
    | nil => rfl
    | cons m r ih =>
      show (Value.ref m :: bmX r).contains (.type X) = _
      rw [List.contains_cons, ih]
      rfl
  intro ms
  rw [List.contains_cons, go]
  rfl
theorem bmX_ref (C D : Addr) : ∀ ms : List Addr, (Value.ref C :: bmX ms).contains (.ref D) = decide (D ∈ C :: ms) := by
  have go : ∀ ms : List Addr, (bmX ms).contains (Value.ref D) = decide (D ∈ ms) := by
    intro ms
    induction ms with
    | nil => rfl
    | cons m r ih =>
      show (Value.ref m :: bmX r).contains (.ref D) = _
      rw [List.contains_cons, ih]
      by_cases q : D = m
      · subst q
        simp
      · have q1 : (Value.ref D == Value.ref m) = false := by simp [q]
        rw [q1]
        simp [q]
  intro ms
  rw [List.contains_cons, go]
  by_cases q : D = C
  · subst q
    simp
  · have q1 : (Value.ref D == Value.ref C) = false := by simp [q]
    rw [q1]
    simp [q]
theorem refuse_bmX (self : Value) : ∀ ms : List Addr, refuseLoop self "__setattr__" (bmX ms) = pure () := by
  intro ms
  induction ms with
  | nil => exact F.store_Exception.passes self
  | cons m r ih =>
    show refuseLoop self "__setattr__" (Value.ref m :: bmX r) = _
    rw [refuseLoop_ref, ih]

/-- a class of exceptions of the text; ms: the classes of its own above it, fI: its __init__ -/
structure XC (K : PySem.W.Frag) (C : Addr) (ms : List Addr) (fI : Addr) : Prop where
  obj : ∃ (nm q : Str) (N : Addr) (bs : List Value) (sn : List Str) (sub : List Value) (ab : Bool) (col : Option Bool) (dd : Option Addr) (k0 k1 k2 k3 k5 : Option Value),
    K.lookup C = some (excClassObj nm q C N bs (bmX ms) true sn sub ab col dd k0 k1 k2 k3 k5 "Exception.__new__")
  ini : PySem.W.findIn K (.ref C) "__init__" = some (some (.ref fI))
  ga : PySem.W.findIn K (.ref C) "__getattribute__" = some (some (.builtin "BaseException.__getattribute__"))
  gh : PySem.W.findIn K (.ref C) "__getattr__" = some none
  sa : PySem.W.findIn K (.ref C) "__setattr__" = some (some (.builtin "object.__setattr__"))
  fn : PySem.W.isFn K (.ref fI) = true
  kp : PySem.W.keepIn K (.ref C) = true
abbrev NoA (K : PySem.W.Frag) (C : Addr) (f : Str) : Prop := PySem.W.findIn K (.ref C) f = some none
section
variable {M : Model} {A : Around} {E : Value → Shared → Prop} {env : Env} {K : PySem.W.Frag} {C fI : Addr} {ms : List Addr}
theorem raise_made {s : Shared} {x : Sem Value} {Q : Flow → Shared → Prop} (xc : XC K C ms fI) (hh : A.handled = none)
    (h : wpAny M A x (fun v s1 => ∃ e dx vs sl, v = .ref e ∧ K.In s1.heap ∧
      s1.heap.get? e = some ⟨.ref C, some dx, .fields vs, sl⟩ ∧ vs[1]? = some .none ∧ E (.ref e) s1) E s) : wpAny M A (raiseStmt env (some x) none) Q E s := by
  obtain ⟨nm, q, N, bs, sn, sub, ab, col, dd, k0, k1, k2, k3, k5, lC⟩ := xc.obj
  have hcB := bmX_type C "BaseException" ms
  have hcE : bmE.contains (.type "BaseException") = true := F.excBase_Exception.hasBase
  unfold raiseStmt
  refine wpAny_bind (wpAny_mono h (fun v s1 h1 => ?_) fun _ _ x => x)
  obtain ⟨e, dx, vs, sl, rfl, kin, he, hv, hE⟩ := h1
  have hC := kin _ _ lC
  obtain ⟨hp, g, d, tk, os⟩ := s1
  repeat (first | with_reducible refine wpAny_loadPart_at he ?_ | with_reducible refine wpAny_loadPart_at hC ?_ | with_reducible refine wpAny_field he rfl hv ?_ | (with_reducible refine wpAny_isSubtype_exc hC ?_; rw [hcB, hcE]) | wp_step)
  exact wpAny_raiseNew_none hh hE
/-- the class of a handler is asked -/
theorem matches_x {h : Heap} {g : Array GenState} {d : Drawn} {t : Nat} {os : OsState} {D fD e : Addr} {mD : List Addr} {oe : Obj} {Q : Bool → Shared → Prop} (kin : K.In h) (xc : XC K C ms fI) (xd : XC K D mD fD)
    (he : h.get? e = some oe) (hcls : oe.cls = .ref C) (hq : Q (decide (D ∈ C :: ms)) ⟨h, g, d, t, os⟩) : wpAny M A (excMatches (.ref e) (.ref D)) Q E ⟨h, g, d, t, os⟩ := by
  obtain ⟨nm, q, N, bs, sn, sub, ab, col, dd, k0, k1, k2, k3, k5, lC⟩ := xc.obj
  obtain ⟨nm', q', N', bs', sn', sub', ab', col', dd', k0', k1', k2', k3', k5', lD⟩ := xd.obj
  have hC := kin _ _ lC
  have hD := kin _ _ lD
  have hcB := bmX_type D "BaseException" mD
  have hcE : bmE.contains (.type "BaseException") = true := F.excBase_Exception.hasBase
  have hcC := bmX_ref C D ms
  have f := tc_notTuple
  unfold excMatches
  repeat (first | (with_reducible refine wpAny_loadPart_at he ?_; rw [hcls]) | with_reducible refine wpAny_loadPart_at hD ?_ | with_reducible refine wpAny_loadPart_at hC ?_ | (with_reducible refine wpAny_isSubtype_exc hD ?_; rw [hcB, hcE]) | (with_reducible refine wpAny_isSubtype_exc hC ?_; rw [hcC]) | wp_step)
  cases hb : decide (D ∈ C :: ms) <;> (rw [hb] at hq; wp_walk; exact hq)
end
section
variable {prog : Program} {w : World} {A : Around} {E : Value → Shared → Prop} {env : Env} {K : PySem.W.Frag} {C fI : Addr} {ms : List Addr}
theorem entry_unchain : entryFor table "proto.unchain" = some Builtin.«proto.unchain» := entryFor_of_tree (by kernel_rfl)
/-- a new exception while another one is handled, that has no context -/
theorem raiseNew_in {α : Type} {s : Shared} {e h0 : Addr} {o0 oe : Obj} {v0 ve : Array Value} {Q : α → Shared → Prop} (hh : A.handled = some (.ref h0)) (hne : h0 ≠ e) (g0 : s.heap.get? h0 = some o0) (d0 : o0.data = .fields v0) (c0 : v0[2]? = some .none)
    (ge : s.heap.get? e = some oe) (de : oe.data = .fields ve) (sz : 2 < ve.size)
    (h : E (.ref e) { s with heap := s.heap.update e (Obj.mapFields (·.setIfInBounds 2 (.ref h0))) }) : wpAny (model prog w) A (raiseNew (.ref e) : Sem α) Q E s := by
  unfold raiseNew
  refine wpAny_bind (wpAny_handled ?_)
  rw [hh]
  dsimp only
  rw [if_pos (show (Value.ref h0 != Value.ref e) = true from by simp [hne])]
  refine wpAny_bind (wpAny_holding (PyProof.Rows.runValue_entry entry_unchain ?_))
  · unfold Builtin.«proto.unchain»
    dsimp only
    refine wpAny_bind (wpAny_field g0 d0 c0 ?_)
    rw [if_pos (by decide)]
    refine wpAny_bind (wpAny_pure (wpAny_pure ⟨.none, rfl, ?_⟩))
    unfold updateField
    refine wpAny_bind (wpAny_bind (wpAny_load ge ?_))
    rw [de]
    dsimp only
    rw [if_pos sz]
    exact wpAny_update' ge (wpAny_throw h)
end
end L3
namespace L3
open PySem
open PySem.Builtin PySem.Builtin.ObjectAttr
abbrev tupO (rest : List Value) : Obj := { cls := .type "tuple", data := .seq rest.toArray }
/-- an exception as it is made, its dict at od -/
abbrev excD (C t0 : Addr) (od : Option Addr) : Obj := ⟨.ref C, od, .fields #[.ref t0, .none, .none, .none, .bool false, .none], #[]⟩
/-- the heap behind the making: the arguments' tuple, the exception behind it -/
abbrev madeX (h : Heap) (C : Addr) (rest : List Value) : Heap := (h.push (tupO rest)).push (excD C h.objs.size none)
section
variable {prog : Program} {w : World} {A : Around} {E : Value → Shared → Prop} {h : Heap} {g : Array GenState} {d : Drawn} {t : Nat} {os : OsState} {env : Env}
variable {K : PySem.W.Frag} {C fI : Addr} {ms : List Addr}
/-! ### raise X(..) from None, within a handler -/
theorem raise_from {s : Shared} {x c : Sem Value} {h0 : Addr} {Q : Flow → Shared → Prop} (xc : XC K C ms fI) (hh : A.handled = some (.ref h0)) (hc : ∀ (Q' : Value → Shared → Prop) (s' : Shared), Q' .none s' → wpAny (model prog w) A c Q' E s')
    (hx : wpAny (model prog w) A x (fun v s1 => ∃ e dx t0 o0 v0, v = .ref e ∧ K.In s1.heap ∧ s1.heap.get? e = some (excD C t0 (some dx)) ∧ h0 ≠ e ∧ s1.heap.get? h0 = some o0 ∧ o0.data = .fields v0 ∧ v0[2]? = some .none ∧
      ∀ h' : Heap, (∀ b, b ≠ e → h'.get? b = s1.heap.get? b) → h'.objs.size = s1.heap.objs.size → h'.get? e = some ⟨.ref C, some dx, .fields #[.ref t0, .none, .ref h0, .none, .bool true, .none], #[]⟩ → E (.ref e) { s1 with heap := h' }) E s) :
    wpAny (model prog w) A (raiseStmt env (some x) (some c)) Q E s := by
  obtain ⟨nm, q, N, bs, sn, sub, ab, col, dd, k0, k1, k2, k3, k5, lC⟩ := xc.obj
  have hcB := bmX_type C "BaseException" ms
  have hcE : bmE.contains (.type "BaseException") = true := F.excBase_Exception.hasBase
  unfold raiseStmt
  refine wpAny_bind (wpAny_mono hx (fun v s1 h1 => ?_) fun _ _ z => z)
  obtain ⟨e, dx, t0, o0, v0, rfl, kin, he, hne, g0, d0, c0, hE⟩ := h1
  have hC := kin _ _ lC
  refine wpAny_bind (wpAny_holding (hc _ _ (wpAny_bind (wpAny_pure ?_))))
  obtain ⟨hp, g, d, tk, os⟩ := s1
  dsimp only
  have hv : (#[Value.ref t0, Value.none, Value.none, Value.none, Value.bool false, Value.none] : Array Value)[1]? = some Value.none := rfl
  have neC : C ≠ e := fun z => by rw [z, he] at hC; cases hC
  have hE3 := Heap.get?_update_self (Obj.mapFields (·.setIfInBounds 3 Value.none)) he (Obj.isFreed_of_fields (Obj.data_mapFields (o := excD C t0 (some dx)) rfl _))
  have ot3 : ∀ b, b ≠ e → (hp.update e (Obj.mapFields (·.setIfInBounds 3 Value.none))).get? b = hp.get? b := fun b hb => Heap.get?_update_other _ _ (Ne.symm hb)
  generalize e3 : hp.update e (Obj.mapFields (·.setIfInBounds 3 Value.none)) = hp3 at hE3 ot3
  have hE3 : hp3.get? e = some (excD C t0 (some dx)) := hE3
  have hE4 := Heap.get?_update_self (Obj.mapFields (·.setIfInBounds 4 (Value.bool true))) hE3 (Obj.isFreed_of_fields (Obj.data_mapFields (o := excD C t0 (some dx)) rfl _))
  have ot4 : ∀ b, b ≠ e → (hp3.update e (Obj.mapFields (·.setIfInBounds 4 (Value.bool true)))).get? b = hp3.get? b := fun b hb => Heap.get?_update_other _ _ (Ne.symm hb)
  generalize e4 : hp3.update e (Obj.mapFields (·.setIfInBounds 4 (Value.bool true))) = hp4 at hE4 ot4
  have hE4 : hp4.get? e = some ⟨.ref C, some dx, .fields #[.ref t0, .none, .none, .none, .bool true, .none], #[]⟩ := hE4
  have hC4 : hp4.get? C = some (excClassObj nm q C N bs (bmX ms) true sn sub ab col dd k0 k1 k2 k3 k5 "Exception.__new__") := ((ot4 _ neC).trans (ot3 _ neC)).trans hC
  have hv4 : (#[Value.ref t0, Value.none, Value.none, Value.none, Value.bool true, Value.none] : Array Value)[1]? = some Value.none := rfl
  have z4 : hp4.objs.size = hp.objs.size := by rw [← e4, Heap.size_after_update, ← e3, Heap.size_after_update]
  dsimp only at he hC kin g0 hE
  refine wpAny_bind ?_
  unfold excFromValue isExcClass isType isInstance
  repeat (first | with_reducible refine wpAny_loadPart_at he ?_ | (with_reducible refine wpAny_isSubtype_exc hC ?_; rw [hcB, hcE]) | with_reducible refine wpAny_loadPart_at hC ?_ | wp_step)
  rw [e3, e4]
  have g4 : hp4.get? h0 = some o0 := ((ot4 _ hne).trans (ot3 _ hne)).trans g0
  refine raiseNew_in hh hne g4 d0 c0 hE4 rfl (by show 2 < 6; decide) (hE _ (fun b hb => ?_) ?_ ?_)
  · exact (Heap.get?_update_other _ _ (Ne.symm hb)).trans ((ot4 b hb).trans (ot3 b hb))
  · exact (Heap.size_after_update _ _ _).trans z4
  · exact Heap.get?_update_self (Obj.mapFields (·.setIfInBounds 2 (.ref h0))) hE4 (Obj.isFreed_of_fields (Obj.data_mapFields (o := ⟨.ref C, some dx, .fields #[.ref t0, .none, .none, .none, .bool true, .none], #[]⟩) rfl _))
end
end L3
namespace L3
open PySem
open PySem.Builtin PySem.Builtin.ObjectAttr
section
variable {prog : Program} {w : World} {A : Around} {E : Value → Shared → Prop} {h : Heap} {g : Array GenState} {d : Drawn} {t : Nat} {os : OsState} {a dx : Addr} {vs : Array Value} {sl : Array (Option Value)}
variable {K : PySem.W.Frag} {C fI : Addr} {ms : List Addr} {mA : Str → Option Value} {name : Str} {v : Value}
/-! ### an attribute is loaded -/
theorem check_ga {nameV : Value} {Q : Unit → Shared → Prop} (kin : K.In h) (xc : XC K C ms fI)
    (hx : h.get? a = some ⟨.ref C, some dx, .fields vs, sl⟩) (hq : Q () ⟨h, g, d, t, os⟩) : wpAny (model prog w) A (checkBuiltinCall "BaseException.__getattribute__" ⟨[.ref a, nameV], []⟩) Q E ⟨h, g, d, t, os⟩ := by
  obtain ⟨nm, q, N, bs, sn, sub, ab, col, dd, k0, k1, k2, k3, k5, lC⟩ := xc.obj
  have hC := kin _ _ lC
  have hk : builtinKind "BaseException.__getattribute__" = some .slot := by decide +kernel
  have hs : splitId "BaseException.__getattribute__" = some ("BaseException", "__getattribute__") := by decide +kernel
  have hcB := bmX_type C "BaseException" ms
  have hcE : bmE.contains (.type "BaseException") = true := F.excBase_Exception.hasBase
  have ha := F.args_bexc_ga (.ref a) nameV
  simp only [checkBuiltinCall, hk, hs]
  refine wpAny_bind ?_
  unfold isInstance
  repeat (first | with_reducible refine wpAny_loadPart_at hx ?_ | (with_reducible refine wpAny_isSubtype_exc hC ?_; rw [hcB, hcE]) | wp_step)
  exact hq
/-- object's own body, out of the dict -/
theorem xload_entry {tk : Tok} {Q : Fin → Shared → Prop} (kin : K.In h) (xc : XC K C ms fI) (hna : NoA K C name)
    (hx : h.get? a = some ⟨.ref C, some dx, .fields vs, sl⟩) (hns : h.Ns1 dx mA) (hv : mA name = some v) (hq : Q (.done (.ret v)) ⟨h, g, d, t, os⟩) :
    wpAny (model prog w) A (Builtin.«object.__getattribute__» ⟨[.ref a, .str name tk], []⟩) Q E ⟨h, g, d, t, os⟩ := by
  obtain ⟨nm, q, N, bs, sn, sub, ab, col, dd, k0, k1, k2, k3, k5, lC⟩ := xc.obj
  have hC := kin _ _ lC
  have lk := PySem.W.looks_findIn (M := model prog w) kin hna
  unfold Builtin.«object.__getattribute__»
  repeat (first | with_reducible refine wpAny_loadPart_at hx ?_ | with_reducible refine lk.at ?_ | with_reducible refine wpAny_loadPart_at hC ?_ | (with_reducible refine wpAny_nsGet hns.ns ?_; rw [hv]) | wp_step)
  exact hq
theorem xload_by {tk : Tok} {fill expr : Bool} {Q : Value → Shared → Prop} (kin : K.In h) (xc : XC K C ms fI) (hna : NoA K C name)
    (hx : h.get? a = some ⟨.ref C, some dx, .fields vs, sl⟩) (hns : h.Ns1 dx mA) (hv : mA name = some v) (hh : handedOut v = pure v) (hq : Q v ⟨h, g, d, t, os⟩) :
    wpAny (model prog w) A (getAttrBy (.ref a) (.str name tk) fill expr) Q E ⟨h, g, d, t, os⟩ := by
  have f3 := F.attrBase_Exception.ga.bind (.ref a)
  have lga := PySem.W.looks_findIn (M := model prog w) kin xc.ga
  have lgh := PySem.W.looks_findIn (M := model prog w) kin xc.gh
  have hx0 : (expr && onTheHeap (Value.builtin "BaseException.__getattribute__")) = false := by cases expr <;> rfl
  have hx2 : (Value.builtin "BaseException.__getattribute__" == Value.builtin "object.__getattribute__") = false := by decide +kernel
  have hx1 : (onTheHeap (Value.ref C) && Value.builtin "BaseException.__getattribute__" == Value.builtin "object.__getattribute__") = false := by rw [hx2]; rfl
  repeat (any_goals (first | assumption | with_reducible refine wpAny_loadPart_at hx ?_ | with_reducible refine lga.at ?_ | with_reducible refine lgh.at ?_ | wp_step))
  refine codeAny_call_builtin F.attrBase_Exception.ga.plain F.entry_bexc_ga (check_ga kin xc hx (xload_entry kin xc hna hx hns hv ?_))
  show wpAny _ _ (handedOut v) _ _ _
  rw [hh]
  exact wpAny_pure hq
theorem xload {expr : Bool} {Q : Value → Shared → Prop} (kin : K.In h) (xc : XC K C ms fI) (hna : NoA K C name)
    (hx : h.get? a = some ⟨.ref C, some dx, .fields vs, sl⟩) (hns : h.Ns1 dx mA) (hv : mA name = some v) (hh : handedOut v = pure v) (hq : Q v ⟨h, g, d, t + 1, os⟩) :
    wpAny (model prog w) A (getAttr (.ref a) name expr) Q E ⟨h, g, d, t, os⟩ := by
  unfold getAttr
  exact wpAny_bind (wpAny_mkText (xload_by kin xc hna hx hns hv hh hq))
end
section
variable {prog : Program} {w : World} {A : Around} {E : Value → Shared → Prop} {h : Heap} {g : Array GenState} {d : Drawn} {t : Nat} {os : OsState}
variable {K : PySem.W.Frag} {C fI : Addr} {ms : List Addr} {rest : List Value}
/-! ### X(..) -/
theorem xnew_check {Q : Unit → Shared → Prop} (kin : K.In h) (xc : XC K C ms fI) (hq : Q () ⟨h, g, d, t, os⟩) : wpAny (model prog w) A (checkBuiltinCall "Exception.__new__" ⟨.ref C :: rest, []⟩) Q E ⟨h, g, d, t, os⟩ := by
  obtain ⟨nm, q, N, bs, sn, sub, ab, col, dd, k0, k1, k2, k3, k5, lC⟩ := xc.obj
  have hC := kin _ _ lC
  have F := F.excBase_Exception
  have hcX := bmX_type C "Exception" ms
  have hcE : bmE.contains (.type "Exception") = true := F.hasB
  have hst := F.noStar
  simp only [checkBuiltinCall, F.newKind, F.newSplit, F.newRow]
  repeat (first | refine wpAny_staticBase_exc hC ?_ | refine wpAny_madeBy_exc hC ?_ | refine wpAny_loadPart_at hC ?_ | (refine wpAny_isSubtype_exc hC ?_; rw [hcX, hcE]) | simp only [bne_self_eq_false, if_false, Bool.false_eq_true] | wp_step)
  exact hq
theorem xnew_code {R : Result → Shared → Prop} (kin : K.In h) (xc : XC K C ms fI) (hrest : rest.length ≤ sizeLine) (hq : R (.ok (.ret (.ref (h.objs.size + 1)))) ⟨madeX h C rest, g, d, t, os⟩) :
    codeAny (model prog w) A (.builtin "Exception.__new__" ⟨.ref C :: rest, []⟩) R ⟨h, g, d, t, os⟩ := by
  obtain ⟨nm, q, N, bs, sn, sub, ab, col, dd, k0, k1, k2, k3, k5, lC⟩ := xc.obj
  have hC := kin _ _ lC
  have F := F.excBase_Exception
  have hends := F.ends
  have c1 := bmX_type C "Exception" ms
  have d1 : bmE.contains (.type "Exception") = true := F.hasB
  have c2 := bmX_type C "AttributeError" ms
  have d2 : bmE.contains (.type "AttributeError") = false := F.noAttr
  have c3 := bmX_type C "NameError" ms
  have d3 : bmE.contains (.type "NameError") = false := F.noName
  refine codeAny_builtinAt F.entry ?_
  unfold Builtin.«BaseException.__new__»
  refine wpAt_bind ?_
  show wpAt _ _ _ (stack >>= _) _ _ _
  refine wpAt_bind (wpAt_stack fun p below => wpAt_of_wpAny ?_)
  wp_walk
  refine wpAt_of_wpAny ?_
  rw [F.owner]
  repeat (first | (with_reducible refine wpAny_isSubtype_exc hC ?_; first | rw [c1, d1] | rw [c2, d2] | rw [c3, d3]) | with_reducible refine wpAny_madeHere_exc F.canon hC ?_ | with_reducible refine wpAny_loadPart_at hC ?_ | wp_step)
  show R _ _
  rw [Heap.size_push]
  exact hq
theorem xmake_tc {Q : Fin → Shared → Prop} (kin : K.In h) (xc : XC K C ms fI) (hrest : rest.length ≤ sizeLine)
    (hq : wpAny (model prog w) A (call (.ref fI) (.ref (h.objs.size + 1) :: rest)) (fun r s' => r = .none ∧ Q (.done (.ret (.ref (h.objs.size + 1)))) s') E ⟨madeX h C rest, g, d, t, os⟩) :
    wpAny (model prog w) A (Builtin.«type.__call__» ⟨.ref C :: rest, []⟩) Q E ⟨h, g, d, t, os⟩ := by
  obtain ⟨nm, q, N, bs, sn, sub, ab, col, dd, k0, k1, k2, k3, k5, lC⟩ := xc.obj
  have hC := kin _ _ lC
  have FB := F.excBase_Exception
  have up : ∀ {b : Addr} {o : Obj}, h.get? b = some o → (madeX h C rest).get? b = some o := fun e => Heap.get?_push_of_some _ (Heap.get?_push_of_some _ e)
  have kin' : K.In (madeX h C rest) := fun b o e => up (kin b o e)
  have hE : (madeX h C rest).get? (h.objs.size + 1) = some (excD C h.objs.size none) := by
    have z := Heap.get?_push_size (h.push (tupO rest)) (o := excD C h.objs.size none) rfl
    rw [Heap.size_push] at z
    exact z
  have hcC := bmX_ref C C ms
  have hcT : decide (C ∈ C :: ms) = true := by simp
  have lk := PySem.W.looks_findIn (M := model prog w) kin' xc.ini
  have ty := PySem.W.looks_typeIn (M := model prog w) kin' (beq_iff_eq.mp xc.fn)
  repeat (first | with_reducible refine wpAny_loadPart_at hC ?_ | with_reducible refine wpAny_madeBy_exc hC ?_ | wp_step)
  refine codeAny_call_builtin_code (Code.quiet_builtin _ FB.quiet) (xnew_check kin xc ?_)
  refine xnew_code kin xc hrest ?_
  show wpAny _ _ _ _ _ _
  unfold isInstance
  repeat (first | with_reducible refine wpAny_loadPart_at hE ?_ | (with_reducible refine wpAny_isSubtype_exc (up hC) ?_; rw [hcC, hcT]) | wp_step)
  show wpAny _ _ (typeLookup (.ref C) _) _ _ _
  refine lk.at ?_
  refine wpAny_holding (wpAny_bind ?_)
  unfold bindSpecial
  refine wpAny_bind (ty.at ?_)
  rw [if_pos (by decide)]
  refine wpAny_pure (wpAny_bind (wpAny_mono hq (fun r s' hr => ?_) fun _ _ x => x))
  obtain ⟨rfl, hQ⟩ := hr
  wp_walk
  exact hQ
theorem xmake_call {Q : Value → Shared → Prop} (kin : K.In h) (xc : XC K C ms fI) (hrest : rest.length ≤ sizeLine)
    (hq : wpAny (model prog w) (A.under (.builtin "type.__call__" ⟨.ref C :: rest, []⟩)) (call (.ref fI) (.ref (h.objs.size + 1) :: rest)) (fun r s' => r = .none ∧ Q (.ref (h.objs.size + 1)) s') E ⟨madeX h C rest, g, d, t, os⟩) :
    wpAny (model prog w) A (call (.ref C) rest) Q E ⟨h, g, d, t, os⟩ := by
  obtain ⟨nm, q, N, bs, sn, sub, ab, col, dd, k0, k1, k2, k3, k5, lC⟩ := xc.obj
  have hC := kin _ _ lC
  have f1 := tc_lookup
  have f2 := tc_bind (.ref C)
  have hT : (⟨h, g, d, t, os⟩ : Shared).TypeIs (.ref C) "type" := ⟨_, hC, rfl⟩
  refine wpAny_call (codeAny_of_tree ?_)
  show wpAny _ _ (callAny (.ref C) _) _ _ _
  repeat (any_goals (first | assumption | with_reducible refine wpAny_loadPart_at hC ?_ | wp_step))
  refine ⟨rfl, ?_⟩
  exact codeAny_call_builtin_at (Code.quiet_builtin _ (by decide +kernel)) entry_typeCall (wpAny_check_type_call_sub hC (xmake_tc kin xc hrest hq))
end
end L3
namespace L3
open PySem
open PySem.Builtin PySem.Builtin.ObjectAttr
section
variable {prog : Program} {w : World} {A : Around} {E : Value → Shared → Prop} {h : Heap} {g : Array GenState} {d : Drawn} {t : Nat} {os : OsState} {x : Addr} {vs : Array Value} {sl : Array (Option Value)}
variable {K : PySem.W.Frag} {C fI : Addr} {ms : List Addr} {mA : Str → Option Value} {name : Str} {v : Value} {od : Option Addr}
/-- an attribute is stored: the first one (a new dict), or another one -/
def Stored (h h' : Heap) (C x : Addr) (vs : Array Value) (sl : Array (Option Value)) (od : Option Addr) (mA : Str → Option Value) (name : Str) (v : Value) : Prop :=
  ∃ dx, od.getD h.objs.size = dx ∧ h'.get? x = some ⟨.ref C, some dx, .fields vs, sl⟩ ∧ h'.Ns1 dx (fun y => if y = name then some v else mA y) ∧ ∀ b o, b ≠ x → b ≠ dx → h.get? b = some o → h'.get? b = some o
/-- the dict as it is ahead -/
def DictAt (h : Heap) (x : Addr) (od : Option Addr) (mA : Str → Option Value) (ns : List Str) : Prop := match od with
  | none => ∀ n, mA n = none
  | some dx => dx ≠ x ∧ h.Ns1 dx mA ∧ Within mA ns ∧ ns.length < 1000
theorem check_sa {nameV : Value} {Q : Unit → Shared → Prop} (kin : K.In h) (xc : XC K C ms fI)
    (hx : h.get? x = some ⟨.ref C, od, .fields vs, sl⟩) (hq : Q () ⟨h, g, d, t, os⟩) : wpAny (model prog w) A (checkBuiltinCall "object.__setattr__" ⟨[.ref x, nameV, v], []⟩) Q E ⟨h, g, d, t, os⟩ := by
  obtain ⟨nm, q, N, bs, sn, sub, ab, col, dd, k0, k1, k2, k3, k5, lC⟩ := xc.obj
  have hC := kin _ _ lC
  have SF := F.store_Exception
  have hcB := bmX_type C "object" ms
  have hcE : bmE.contains (.type "object") = true := SF.hasOwner
  have ha := SF.args (.ref x) nameV v
  simp only [checkBuiltinCall, SF.kind, SF.split]
  refine wpAny_bind ?_
  unfold isInstance
  repeat (first | with_reducible refine wpAny_loadPart_at hx ?_ | (with_reducible refine wpAny_isSubtype_exc hC ?_; rw [hcB, hcE]) | wp_step)
  exact hq
theorem xstore_entry {tk : Tok} {ns : List Str} {Q : PySem.Fin → Shared → Prop} (kin : K.In h) (xc : XC K C ms fI) (hna : NoA K C name)
    (hx : h.get? x = some ⟨.ref C, od, .fields vs, sl⟩) (hD : DictAt h x od mA ns)
    (hq : ∀ h' tk', Stored h h' C x vs sl od mA name v → Q (.done (.ret .none)) ⟨h', g, d, tk', os⟩) :
    wpAny (model prog w) A (Builtin.«object.__setattr__» ⟨[.ref x, .str name tk, v], []⟩) Q E ⟨h, g, d, t, os⟩ := by
  obtain ⟨nm, q, N, bs, sn, sub, ab, col, dd, k0, k1, k2, k3, k5, lC⟩ := xc.obj
  have hC := kin _ _ lC
  have ps := refuse_bmX (.ref x) ms
  have lk := PySem.W.looks_findIn (M := model prog w) kin hna
  unfold Builtin.«object.__setattr__»
  repeat (first | rw [refuse_eq] | (rw [refuseLoop_ref, ps]) | with_reducible refine wpAny_loadPart_at hx ?_ | with_reducible refine wpAny_mroOf_exc hC ?_ | with_reducible refine lk.at ?_ | wp_step)
  rcases od with _ | dx
  · have hxs : x ≠ h.objs.size := Nat.ne_of_lt (Heap.lt_size hx)
    let oD : Obj := { cls := .type "dict", data := .dict #[] }
    have hx1 : (h.push oD).get? x = some ⟨.ref C, none, .fields vs, sl⟩ := Heap.get?_push_of_some oD hx
    dsimp only
    rw [if_neg (by simp [typeHasDict])]
    refine wpAny_bind (wpAny_alloc' ?_)
    refine wpAny_bind (wpAny_update' hx1 ?_)
    refine wpAny_pure ?_
    have gd : ((h.push oD).update x fun o => { cls := o.cls, dict := some h.objs.size, data := o.data, slots := o.slots }).get? h.objs.size = some oD :=
      (Heap.get?_update_ne _ _ _ _ hxs.symm).trans (Heap.get?_push_at rfl rfl)
    have nd : ((h.push oD).update x fun o => { cls := o.cls, dict := some h.objs.size, data := o.data, slots := o.slots }).Ns h.objs.size (fun _ => none) := ⟨oD, #[], _, gd, rfl, fun e he => absurd he (by simp), fun _ => rfl⟩
    show wpAny _ _ (storeInDict h.objs.size (.str name tk) name v) _ _ _
    unfold storeInDict newKeyGuard
    refine wpAny_bind (wpAny_pure (wpAny_bind (wpAny_nsSet1 (Heap.Ns1.of_empty nd) fun h' hn' hs => ?_)))
    obtain ⟨o2, es2, ep2, ho2, hd2, hc2⟩ := hn'.count (Within.cons name v Within.nil)
    refine wpAny_bind (wpAny_lookBehind ho2 (by rw [hd2]; exact pastItsLine_dict (Nat.le_trans hc2 (by rw [List.length_cons, List.length_nil, sizeLine_eq]; omega))) ?_)
    wp_walk
    have em : (fun y => if y = name then some v else mA y) = (fun y => if y = name then some v else none) := by
      funext y
      rw [hD y]
    refine hq h' _ ⟨h.objs.size, rfl, ?_, by rw [em]; exact hn', fun b ob hbx hbd hb => ?_⟩
    · exact (hs.2 x hxs).trans (Heap.get?_update_self _ hx1 rfl)
    · exact (hs.2 b hbd).trans ((Heap.get?_update_ne _ _ _ _ hbx).trans (Heap.get?_push_of_some _ hb))
  · obtain ⟨hne, hns, hw, hsz⟩ := hD
    refine wpAny_pure ?_
    show wpAny _ _ (storeInDict dx (.str name tk) name v) _ _ _
    unfold storeInDict newKeyGuard
    refine wpAny_bind (wpAny_pure (wpAny_bind (wpAny_nsSet1 hns fun h' hn' hs => ?_)))
    obtain ⟨o2, es2, ep2, ho2, hd2, hc2⟩ := hn'.count (Within.cons name v hw)
    refine wpAny_bind (wpAny_lookBehind ho2 (by rw [hd2]; exact pastItsLine_dict (Nat.le_trans hc2 (by rw [List.length_cons, sizeLine_eq]; omega))) ?_)
    wp_walk
    exact hq h' _ ⟨dx, rfl, (hs.2 x hne.symm).trans hx, hn', fun b ob _ hbd hb => (hs.2 b hbd).trans hb⟩
theorem xstore {ns : List Str} {Q : Unit → Shared → Prop} (kin : K.In h) (xc : XC K C ms fI) (hna : NoA K C name)
    (hx : h.get? x = some ⟨.ref C, od, .fields vs, sl⟩) (hD : DictAt h x od mA ns)
    (hq : ∀ h' tk', Stored h h' C x vs sl od mA name v → Q () ⟨h', g, d, tk', os⟩) :
    wpAny (model prog w) A (setAttr (.ref x) name v) Q E ⟨h, g, d, t, os⟩ := by
  have SF := F.store_Exception
  have f3 := SF.slot.bind (.ref x)
  have lk := PySem.W.looks_findIn (M := model prog w) kin xc.sa
  unfold setAttr callSpecial? specialOf
  repeat (any_goals (first | assumption | with_reducible refine wpAny_loadPart_at hx ?_ | with_reducible refine lk.at ?_ | wp_step))
  refine codeAny_call_builtin SF.slot.plain SF.entry (check_sa kin xc hx (xstore_entry kin xc hna hx hD fun h' tk' S => ?_))
  repeat (any_goals (first | assumption | wp_step))
  exact hq _ _ S
end
end L3
namespace L2
open PySem PySem.Spec PyProof.Rows L3

/-! ### what is new, what may turn -/
def Rec (X : Cx) (pins : List (Addr × Obj)) (b : Addr) : Prop := (b ∈ X.ex ∨ X.s_0.heap.objs.size ≤ b) ∧ b ≠ X.env.locals ∧ (∀ x c, X.env.cells.lookup x = some c → c ≠ b) ∧ ∀ p ∈ X.pn ++ pins, p.1 ≠ b
section
variable {X : Cx} {pins : List (Addr × Obj)} {σ : St} {H H' : Hp} {s : Shared}
theorem Rec.new (I : Inv X pins σ H s) {b : Addr} (h : s.heap.objs.size ≤ b) : Rec X pins b := by
  have lt : ∀ {c : Addr} {o : Obj}, s.heap.get? c = some o → c ≠ b := fun e z => by
    subst z
    exact absurd (Nat.lt_of_lt_of_le (Heap.lt_size e) h) (Nat.lt_irrefl _)
  refine ⟨.inr (Nat.le_trans I.sz h), fun z => ?_, fun x c e => ?_, fun p hp => lt (I.pin p hp).1⟩
  · subst z
    exact absurd (Nat.lt_of_lt_of_le I.lt h) (Nat.lt_irrefl _)
  · obtain ⟨v, o, ho, _⟩ := I.cell x c e
    exact lt ho
/-- the exception and its newest entry turned, the frames' slots too -/
theorem chg_inv {h' : Heap} {e : Addr} {T : Option Addr} (I : Inv X pins σ H s) (c : Chg (frs X.stack) e T s.heap h') (re : Rec X pins e) (rT : ∀ a, T = some a → Rec X pins a ∧ H a = none) (ne : H e = none) :
    Inv X pins σ H { s with heap := h' } := by
  have nch : ∀ b u, H b = some u → b ≠ e ∧ T ≠ some b := fun b u q => ⟨(fun z => by rw [z, ne] at q; cases q), (fun z => by rw [(rT b z).2] at q; cases q)⟩
  have mem : ∀ b, b ∈ e :: T.toList → Rec X pins b := fun b hb => by
    rcases List.mem_cons.mp hb with rfl | hb
    · exact re
    · exact (rT b (by simpa using hb)).1
  have out : ∀ b, b ∉ e :: T.toList → b ≠ e ∧ T ≠ some b := fun b hb => ⟨fun z => hb (by simp [z]), fun z => hb (by simp [z])⟩
  refine I.call (t' := s.toks) (d' := s.drawn) (g' := s.gens) (ch := e :: T.toList) ⟨fun b o q n hf hx => ?_, fun b o q n hf hx => ?_, fun _ _ _ n _ => n, fun b o q _ => c.there b o q, fun _ _ q => q, fun _ _ _ q => q, fun b ps q => ⟨#[], by rw [q]; simp⟩⟩ (fun b u q => ?_) I.bare fun b hb => mem b hb
  · exact c.keep b o q hf (out b hx).1 (out b hx).2
  · exact c.slot b o q hf (out b hx).1 (out b hx).2
  · refine (I.hok b u q).stay (fun d v hd z => ?_) (fun _ z => z) fun _ _ z => z
    have hd' : ∃ u', H d = some u' := by
      rcases hd with rfl | hd
      · exact ⟨_, q⟩
      · exact ⟨_, hd⟩
    obtain ⟨u', hu⟩ := hd'
    exact c.keep d v z (fun m => by rw [I.stkFree d m] at hu; cases hu) (nch d u' hu).1 (nch d u' hu).2
theorem note_inv {M : Model} {E : Value → Shared → Prop} {C e dx : Addr} {Z : Prop} {tb : Option (Addr × Value)} {Q : Unit → Shared → Prop} (I : Inv X pins σ H s) (hs : X.stack = X.env :: X.outer) (hf : X.env.frame = some X.env.locals)
    (hx : ExAt C Z s.heap e dx tb) (hfl : ∀ T fl, tb = some (T, fl) → fl = .none ∨ fl = rawInt X.env.locals) (re : Rec X pins e) (rT : ∀ a, tb.map (·.1) = some a → Rec X pins a ∧ H a = none) (ne : H e = none)
    (k : ∀ h' T, Inv X pins σ H { s with heap := h' } → ExAt C Z h' e dx (some (T, rawInt X.env.locals)) → Rec X pins T → H T = none → Q () { s with heap := h' }) : wpAny M X.A (noteFrame (.ref e) X.env) Q E s := by
  have plain : (∀ T fl, tb = some (T, fl) → fl = .none) → wpAny M X.A (noteFrame (.ref e) X.env) Q E s := fun hfl' => by
    refine note_ex (outer := X.outer) (base := X.base) (by rw [← hs]; exact I.ok.frames) (by rw [← hs]; exact I.stack) hf hx hfl' fun h' T c x hz => ?_
    have c' : Chg (frs X.stack) e (tb.map (·.1)) s.heap h' := by rw [hs]; exact c
    exact k h' T (chg_inv I c' re rT ne) x (Rec.new I hz) (I.hok.fresh hz)
  cases tb with
  | none => exact plain fun _ _ z => by cases z
  | some y =>
    obtain ⟨T, fl⟩ := y
    rcases hfl T fl rfl with rfl | rfl
    · exact plain fun _ _ z => by cases z; rfl
    · exact note_own hf hx (k s.heap T I hx (rT T rfl).1 (rT T rfl).2)
theorem flight_inv {M : Model} {A : Around} {E : Value → Shared → Prop} {C e dx T : Addr} {Z : Prop} {fl : Value} {Q : Unit → Shared → Prop} (I : Inv X pins σ H s)
    (hx : ExAt C Z s.heap e dx (some (T, fl))) {fr : Option Addr} (re : Rec X pins e) (rT : Rec X pins T) (nT : H T = none) (ne : H e = none)
    (k : ∀ h', Inv X pins σ H { s with heap := h' } → ExAt C Z h' e dx (some (T, fr.elim .none fun f => rawInt f)) → Q () { s with heap := h' }) : wpAny M A (setFlight (.ref e) fr) Q E s :=
  flight_ex (fs := frs X.stack) hx fun h' c x => k h' (chg_inv I c re (fun a q => by cases q; exact ⟨rT, nT⟩) ne) x
end

/-! ### how an exception lies behind a call -/
def CXr (P : Program) (w : World) (Z : Addr → Prop) : CXT := fun outer H s E e s' => ∃ C ea dx T H', e = .ref ea ∧ s'.os = s.os ∧ AllBare s'.gens ∧ Un (frs outer) [] H H' s.heap s'.heap ∧ HOk P w H' s'.heap ∧
  ExAt C (Z C) s'.heap ea dx (some (T, .none)) ∧ s.heap.objs.size ≤ ea ∧ s.heap.objs.size ≤ T ∧ H' ea = none ∧ H' T = none ∧ E (.ref C) (some dx) H'
/-- what a body wants of exceptions is given by E -/
def Wish (X : Cx) (Z : Addr → Prop) (E : XK) : Prop := ∀ (C : Addr) (pins : List (Addr × Obj)) (σ : St) (H : Hp) (s : Shared) (e dx : Addr) (tb : Option (Addr × Value)), Inv X pins σ H s → ExAt C (Z C) s.heap e dx tb → (∀ T fl, tb = some (T, fl) → fl = .none ∨ fl = rawInt X.env.locals) →
  Rec X pins e → (∀ a, tb.map (·.1) = some a → Rec X pins a ∧ H a = none) → H e = none → E (.ref C) (some dx) H → X.xe (.ref e) s
theorem Wish.passes {X : Cx} {Z : Addr → Prop} {E : XK} (w : Wish X Z E) : Passes (CXr X.prog X.w Z) X E := by
  rintro pins σ H s e s' I ⟨C, ea, dx, T, H', rfl, ho, hg, un, hok, hx, n1, n2, f1, f2, hE⟩
  have I' : Inv X pins σ H' s' := I.call' (ch := []) ho un hok hg fun b hb => absurd hb (by simp)
  exact w C pins σ H' s' ea dx (some (T, .none)) I' hx (fun _ _ q => by cases q; exact .inl rfl) (Rec.new I n1) (fun a q => by cases q; exact ⟨Rec.new I n2, f2⟩) f1 hE
theorem wish_def {P : Program} {w : World} {K : PySem.W.Frag} {mg : Str → Option Value} {base : Heap} {N : List Str} {qual : Str} {scope : Scope} {f : Addr} {Z : Addr → Prop} {cd : Value} {A : Around} {outer : List Env} {s : Shared} {H : Hp} {E : XK} :
    Wish (cxOf (CXr P w Z) P w K mg base N qual scope f cd A outer s H E) Z E := by
  intro C pins σ H1 s1 e dx tb I hx hfl re rT ne hE
  show wpAny _ _ (leaving _ _) _ _ s1
  unfold leaving
  refine wpAny_bind (note_inv I rfl rfl hx hfl re rT ne fun h' T I' x' rT' nT' => ?_)
  refine flight_inv I' x' re rT' nT' ne fun h'' I'' x'' => ?_
  refine ⟨C, e, dx, T, H1, rfl, I''.os, I''.bare, I''.base, I''.hok, x'', ?_, ?_, ne, nT', hE⟩
  · rcases re.1 with z | z
    · exact absurd (show e ∈ ([] : List Addr) from z) (by simp)
    · exact z
  · rcases rT'.1 with z | z
    · exact absurd (show T ∈ ([] : List Addr) from z) (by simp)
    · exact z
theorem own_def {P : Program} {w : World} {K : PySem.W.Frag} {mg : Str → Option Value} {base : Heap} {N : List Str} {qual : Str} {scope : Scope} {f : Addr} {Z : Addr → Prop} {cd : Value} {A : Around} {outer : List Env} {s : Shared} {H : Hp} {E : XK} :
    PassesOwn (model P w) (cxOf (CXr P w Z) P w K mg base N qual scope f cd A outer s H E).A (cxOf (CXr P w Z) P w K mg base N qual scope f cd A outer s H E).env (cxOf (CXr P w Z) P w K mg base N qual scope f cd A outer s H E).xe :=
  PassesOwn.leaving (Q₁ := fun e s'' => CXr P w Z outer H s E e s'')
end L2
namespace L2
open PySem PySem.Spec PyProof.Rows L3

/-- an exception that is known to the object -/
def XO (C e t0 : Addr) (od : Option Addr) : HO := .ext fun h => h.get? e = some (excD C t0 od)
/-- an exception that was caught -/
def XL (C : Addr) (Z : Prop) (e dx : Addr) : HO := .ext fun h => ∃ vs sl, h.get? e = some ⟨.ref C, some dx, .fields vs, sl⟩ ∧ (Z → vs[2]? = some .none)
/-- an exception's dict -/
def XD (dx : Addr) (fs : List (Str × V)) : HO := .ext fun h => ∃ mA, h.Ns1 dx mA ∧ ∀ f, RelO (fs.lookup f) (mA f)
section
variable {P : Program} {w : World} {H : Hp} {h : Heap} {C e t0 dx : Addr} {od : Option Addr} {Z : Prop} {fs : List (Str × V)}
theorem xo_ok (g : h.get? e = some (excD C t0 od)) : ObjOk P w H h e (XO C e t0 od) := ⟨g, ⟨_, g⟩, fun _ _ a b => b _ a⟩
theorem xo_get (hok : HOk P w H h) (q : H e = some (XO C e t0 od)) : h.get? e = some (excD C t0 od) := (hok e _ q).1
theorem xl_ok {vs : Array Value} {sl : Array (Option Value)} (g : h.get? e = some ⟨.ref C, some dx, .fields vs, sl⟩) (z : Z → vs[2]? = some .none) : ObjOk P w H h e (XL C Z e dx) :=
  ⟨⟨vs, sl, g, z⟩, ⟨_, g⟩, fun _ _ ⟨vs, sl, a, z⟩ b => ⟨vs, sl, b _ a, z⟩⟩
theorem xl_get (hok : HOk P w H h) (q : H e = some (XL C Z e dx)) : ∃ vs sl, h.get? e = some ⟨.ref C, some dx, .fields vs, sl⟩ ∧ (Z → vs[2]? = some .none) := (hok e _ q).1
theorem xd_ok {mA : Str → Option Value} (n : h.Ns1 dx mA) (r : ∀ f, RelO (fs.lookup f) (mA f)) : ObjOk P w H h dx (XD dx fs) :=
  ⟨⟨mA, n, r⟩, (let ⟨o, _, _, g, _⟩ := n; ⟨o, g⟩), fun _ _ ⟨mA, n, r⟩ b => ⟨mA, n.at b, r⟩⟩
theorem xd_get (hok : HOk P w H h) (q : H dx = some (XD dx fs)) : ∃ mA, h.Ns1 dx mA ∧ ∀ f, RelO (fs.lookup f) (mA f) := (hok dx _ q).1
end
/-- no longer tracked -/
def era (H : Hp) (e : Addr) : Hp := fun b => if b = e then none else H b
theorem era_same {H : Hp} {e : Addr} : era H e e = none := if_pos rfl
theorem era_ne {H : Hp} {e b : Addr} (h : b ≠ e) : era H e b = H b := if_neg h
section
variable {X : Cx} {pins : List (Addr × Obj)} {σ : St} {H : Hp} {s : Shared} {C fI e t0 dx : Addr}
theorem inv_era {φ : Heap → Prop} (I : Inv X pins σ H s) (q : H e = some (.ext φ)) : Inv X pins σ (era H e) s := by
  have n1 : ∀ b xs, H b = some (.tup xs) → b ≠ e := fun b xs z y => by subst y; rw [q] at z; cases z
  have n2 : ∀ b y, H b = some (.own y) → b ≠ e := fun b xs z y => by subst y; rw [q] at z; cases z
  have n3 : ∀ b o u, H b = some (.frz o u) → b ≠ e := fun b o u z y => by subst y; rw [q] at z; cases z
  have n4 : ∀ b ps, H b = some (.tbl ps) → b ≠ e := fun b o z y => by subst y; rw [q] at z; cases z
  have fr : ∀ b, H b = none → era H e b = none := fun b z => by
    by_cases y : b = e
    · rw [y, era_same]
    · rw [era_ne y]; exact z
  refine I.un (t' := s.toks) (h' := s.heap) ⟨fun _ _ z _ _ _ => z, fun b o z _ _ _ => ⟨o.slots, z⟩, fun b _ _ z _ => fr b z, fun _ o z _ => ⟨o, z⟩, fun b xs z => by rw [era_ne (n1 b xs z)]; exact z, fun b o u z => by rw [era_ne (n3 b o u z)]; exact z,
    fun b ps z => ⟨#[], by rw [era_ne (n4 b ps z), z]; simp⟩⟩ fun b u z => ?_
  have hb : b ≠ e := fun y => by rw [y, era_same] at z; cases z
  rw [era_ne hb] at z
  exact (I.hok b u z).stay (fun _ _ _ y => y) (fun c y => by rw [era_ne (n2 c b y)]; exact y) fun c xs y => by rw [era_ne (n1 c xs y)]; exact y
end

/-! ### o.f = v, o an exception in its __init__ -/
/-- how the dict stands ahead, what comes -/
def XPut (H : Hp) (C e t0 : Addr) (od : Option Addr) (f : Str) (y : V) (k : Hp → Prop) : Prop := match od with
  | none => ∀ dx, H dx = none → dx ≠ e → k (upd (upd H dx (XD dx [(f, y)])) e (XO C e t0 (some dx)))
  | some dx => ∃ fs : List (Str × V), H dx = some (XD dx fs) ∧ dx ≠ e ∧ fs.length < 1000 ∧ k (upd (upd H dx (XD dx ((f, y) :: fs))) e (XO C e t0 (some dx)))
def sXFld (K : PySem.W.Frag) (f : Str) (ta tv : TE) : TS := fun D σ H => tv σ H fun y H1 => ta σ H1 fun x H2 => ∃ C ms fI e t0 od, x = .ref e ∧ XC K C ms fI ∧ NoA K C f ∧ H2 e = some (XO C e t0 od) ∧ XPut H2 C e t0 od f y (D.nx σ)
section
variable {X : Cx} {o value : Expr} {ta tv : TE} {pos pos' : Pos} {f : Str}
theorem lookup_mem {fs : List (Str × V)} {n : Str} {v : V} (h : fs.lookup n = some v) : n ∈ fs.map (·.1) := by
  induction fs with
  | nil => cases h
  | cons p r ih =>
    obtain ⟨k, u⟩ := p
    rw [List.lookup_cons] at h
    split at h
    · rename_i q
      have q : n = k := by simpa using q
      subst q
      simp
    · simp only [List.map_cons, List.mem_cons]
      exact .inr (ih h)
theorem ps_xfld (ha : PE X o ta) (hv : PE X value tv) (hs : swapsWith value (some (.Attribute o f pos')) pos.line X.env = pure false) : PS X (.Assign [.Attribute o f pos'] value pos) (sXFld X.K f ta tv) := by
  intro pins s σ H D I h
  refine plainObj_wpAny_Assign_Attribute (thn (hv pins s σ H _ I h) fun u s1 ⟨y, H1, I1, ry, q⟩ => thn (ha pins s1 σ H1 _ I1 q) fun ov s2 ⟨x, H2, I2, rx, C, ms, fI, e, t0, od, ex, xc, na, ea, q2⟩ => ?_) hs
  subst ex
  obtain rfl : ov = Value.ref e := rx
  have hx := xo_get I2.hok ea
  obtain ⟨hh, g, d, t, os⟩ := s2
  -- one end for both
  have fin : ∀ (dx : Addr) (fs : List (Str × V)) (mA : Str → Option Value) (ns : List Str), DictAt hh e od mA ns → od.getD hh.objs.size = dx → dx ≠ e → (∀ g, RelO (fs.lookup g) (mA g)) →
      (H2 dx = none ∧ hh.objs.size ≤ dx ∨ ∃ φ, H2 dx = some (.ext φ)) → D.nx σ (upd (upd H2 dx (XD dx ((f, y) :: fs))) e (XO C e t0 (some dx))) →
      wpAny (model X.prog X.w) X.A (setAttr (.ref e) f u) (fun _ s' => SP X pins D .next s') X.xe ⟨hh, g, d, t, os⟩ := by
    intro dx fs mA ns hD hdx ned rel st k
    refine xstore (mA := mA) I2.kIn xc na hx hD fun h' tk' S => ?_
    obtain ⟨dx', e1, S1, S2, S3⟩ := S
    obtain rfl : dx' = dx := e1.symm.trans hdx
    have nh : ∀ b ob, hh.get? b = some ob → H2 b = none → b ≠ dx' := fun b ob z n y => by
      subst y
      rcases st with ⟨_, sz⟩ | ⟨φ, sz⟩
      · exact absurd (Nat.lt_of_lt_of_le (Heap.lt_size z) sz) (Nat.lt_irrefl _)
      · rw [sz] at n; cases n
    have nk : ∀ b u, H2 b = some u → (∀ φ, u ≠ .ext φ) → b ≠ dx' := fun b u z n y => by
      subst y
      rcases st with ⟨q, _⟩ | ⟨φ, q⟩
      · rw [q] at z; cases z
      · rw [q] at z; cases z; exact n φ rfl
    have ne : ∀ b u, H2 b = some u → (∀ φ, u ≠ .ext φ) → b ≠ e := fun b u z n y => by
      subst y
      rw [ea] at z; cases z; exact n _ rfl
    have n0 : ∀ b, H2 b = none → b ≠ e := fun b z y => by subst y; rw [ea] at z; cases z
    refine ⟨σ, _, ?_, k⟩
    refine I2.un (t' := tk') ⟨fun b ob z n _ _ => S3 b ob (n0 b n) (nh b ob z n) z, fun b ob z n _ _ => ⟨ob.slots, S3 b ob (n0 b n) (nh b ob z n) z⟩, fun b ob z n _ => ?_, fun b ob z _ => ?_, fun b xs z => ?_, fun b ob u z => ?_, fun b ps z => ⟨#[], ?_⟩⟩ fun b u z => ?_
    · rw [upd_ne (n0 b n), upd_ne (nh b ob z n)]; exact n
    · by_cases y : b = e
      · subst y; exact ⟨_, S1⟩
      · by_cases y2 : b = dx'
        · subst y2
          obtain ⟨o', _, _, g', _⟩ := S2
          exact ⟨o', g'⟩
        · exact ⟨ob, S3 b ob y y2 z⟩
    · rw [upd_ne (ne b _ z (fun _ w => by cases w)), upd_ne (nk b _ z (fun _ w => by cases w))]; exact z
    · rw [upd_ne (ne b _ z (fun _ w => by cases w)), upd_ne (nk b _ z (fun _ w => by cases w))]; exact z
    · rw [upd_ne (ne b _ z (fun _ w => by cases w)), upd_ne (nk b _ z (fun _ w => by cases w)), z]; simp
    · by_cases y : b = e
      · subst y
        rw [upd_same] at z
        cases z
        exact xo_ok S1
      · rw [upd_ne y] at z
        by_cases y2 : b = dx'
        · subst y2
          rw [upd_same] at z
          cases z
          refine xd_ok S2 fun g => ?_
          by_cases q : g = f
          · subst q
            simp only [List.lookup, beq_self_eq_true, if_true]
            exact ry
          · have q' : (g == f) = false := by simpa using q
            simp only [List.lookup, q', if_neg q]
            exact rel g
        · rw [upd_ne y2] at z
          refine (I2.hok b u z).stay (fun c v hc y3 => S3 c v ?_ ?_ y3) (fun c y3 => ?_) fun c xs y3 => ?_
          · rcases hc with rfl | hc
            · exact y
            · exact ne c _ hc (fun _ w => by cases w)
          · rcases hc with rfl | hc
            · exact y2
            · exact nk c _ hc (fun _ w => by cases w)
          · rw [upd_ne (ne c _ y3 (fun _ w => by cases w)), upd_ne (nk c _ y3 (fun _ w => by cases w))]; exact y3
          · rw [upd_ne (ne c _ y3 (fun _ w => by cases w)), upd_ne (nk c _ y3 (fun _ w => by cases w))]; exact y3
  cases od with
  | none =>
    have fd : H2 hh.objs.size = none := I2.hok.fresh (Nat.le_refl _)
    have ned : hh.objs.size ≠ e := fun z => by rw [z, ea] at fd; cases fd
    exact fin hh.objs.size [] (fun _ => none) [] (fun _ => rfl) rfl ned (fun _ => True.intro) (.inl ⟨fd, Nat.le_refl _⟩) (q2 _ fd ned)
  | some dx =>
    obtain ⟨fs, hd, ned, hl, k⟩ := q2
    obtain ⟨mA, n1, rel⟩ := xd_get I2.hok hd
    refine fin dx fs mA (fs.map (·.1)) ⟨ned, n1, fun z hz => ?_, by rw [List.length_map]; exact hl⟩ rfl ned rel (.inr ⟨_, hd⟩) k
    have r := rel z
    cases q : fs.lookup z with
    | none =>
      rw [q] at r
      exact absurd (RelO.none_of r) hz
    | some v => exact lookup_mem q
end
end L2
namespace L2
open PySem PySem.Spec PyProof.Rows L3

/-! ### a def whose exceptions lie as CX says -/
section
variable {P : Program} {w : World} {K : PySem.W.Frag} {mg : Str → Option Value} {base : Heap}
theorem okx {CX : CXT} {x qual : Str} {st : Stmt} {f : Addr} {fd : FuncData} {N ps : List Str} {k : Nat} {sp : Sp} (F : Fun K x qual st f fd) (S : FnScope N ps (defScope st)) (len : ∀ vs H Q E, sp vs H Q E → vs.length = ps.length)
    (hbody : ∀ (cdv : Value) (A : Around) (outer : List Env) (s : Shared) (H : Hp) (vs : List V) (Q : VK) (E : XK), Room k (A.deeper (envOfC qual (defScope st) s.heap.objs.size f cdv)) → sp vs H Q E →
      ∃ t, PSs (cxOf CX P w K mg base N qual (defScope st) f cdv A outer s H E) (defBody st) t ∧ t { nx := fun _ H' => Q .non H', rt := Q } (start N vs) H) : FnOk P w K mg base CX (k + 1) f fd ps sp := by
  obtain ⟨oc, od, kV, doc, pm, an, cdv, ct, osl, rfl, lk, hcd⟩ := F.ex
  exact fn_of lk hcd S len fun A outer s H vs Q E hr hsp => hbody cdv A outer s H vs Q E hr hsp
end

/-! ### defs that run while an exception is handled, too -/
structure RoomH (k : Nat) (A : Around) : Prop where
  dp : A.depth + 3 * k + 5 < recursionLimit
  un : A.units + 16 * k + 200 < cLine
theorem Room.h {k : Nat} {A : Around} (r : Room k A) : RoomH k A := ⟨r.dp, r.un⟩
theorem RoomH.mono {j k : Nat} {A : Around} (r : RoomH k A) (h : j ≤ k) : RoomH j A := ⟨by have := r.dp; omega, by have := r.un; omega⟩
theorem RoomH.deeper {k : Nat} {A : Around} (r : RoomH (k + 1) A) (env : Env) : RoomH k (A.deeper env) :=
  ⟨by have := r.dp; show A.depth + 1 + 3 * k + 5 < _; omega, by have := r.un; show A.units + 3 + 16 * k + 200 < _; omega⟩
theorem RoomH.make {k : Nat} {A : Around} (r : RoomH (k + 1) A) (C : Addr) (us : List Value) (kw : List (Str × Value)) : RoomH k (A.under (.builtin "type.__call__" ⟨.ref C :: us, kw⟩)) :=
  ⟨by have := r.dp; rw [make_depth]; omega, by have := r.un; rw [make_units]; omega⟩
theorem RoomH.depth {k : Nat} {A : Around} (r : RoomH k A) : A.depth < recursionLimit := by have := r.dp; omega
structure FnH (P : Program) (w : World) (K : PySem.W.Frag) (mg : Str → Option Value) (base : Heap) (k : Nat) (f : Addr) (fd : FuncData) (ps : List Str) (sp : Sp) : Prop where
  len : ∀ vs H Q E, sp vs H Q E → vs.length = ps.length
  run : ∀ (A : Around) (outer : List Env) (s : Shared) (H : Hp) (args : Args) (us : List Value) (vs : List V) (Q : VK) (E : XK), RoomH k A → Env0 P w K mg base A outer s H → BindsTo s fd args (ps.zip us) → Vals vs us → sp vs H Q E →
    codeAny (model P w) A (.call (.ref f) args) (CR CX0 outer P w H s Q E) s
theorem FnH.ok {P : Program} {w : World} {K : PySem.W.Frag} {mg : Str → Option Value} {base : Heap} {k : Nat} {f : Addr} {fd : FuncData} {ps : List Str} {sp : Sp} (G : FnH P w K mg base k f fd ps sp) : FnOk P w K mg base CX0 k f fd ps sp :=
  ⟨G.len, fun A outer s H args us vs Q E hr e0 hb r h => G.run A outer s H args us vs Q E hr.h e0 hb r h⟩
/-- the body's context, whether an exception is handled or not -/
abbrev cxH (P : Program) (w : World) (K : PySem.W.Frag) (mg : Str → Option Value) (base : Heap) (N : List Str) (qual : Str) (scope : Scope) (f : Addr) (cd : Value) (A : Around) (outer : List Env) (s : Shared) (H : Hp) : Cx :=
  { cxOf CX0 P w K mg base N qual scope f cd A outer s H E0 with calm := false, xe := fun _ _ => False }
section
variable {P : Program} {w : World} {K : PySem.W.Frag} {mg : Str → Option Value} {base : Heap}
theorem okH {x qual : Str} {st : Stmt} {f : Addr} {fd : FuncData} {N ps : List Str} {k : Nat} {sp : Sp} (F : Fun K x qual st f fd) (S : FnScope N ps (defScope st)) (len : ∀ vs H Q E, sp vs H Q E → vs.length = ps.length)
    (hbody : ∀ (cdv : Value) (A : Around) (outer : List Env) (s : Shared) (H : Hp) (vs : List V) (Q : VK) (E : XK), RoomH k (A.deeper (envOfC qual (defScope st) s.heap.objs.size f cdv)) → sp vs H Q E →
      ∃ t, PSs (cxH P w K mg base N qual (defScope st) f cdv A outer s H) (defBody st) t ∧ t { nx := fun _ H' => Q .non H', rt := Q } (start N vs) H) : FnH P w K mg base (k + 1) f fd ps sp := by
  obtain ⟨oc, od, kV, doc, pm, an, cdv, ct, osl, rfl, lk, hcd⟩ := F.ex
  refine ⟨len, fun A outer s H args us vs Q E hr e0 hb r hsp => ?_⟩
  have hl := len _ _ _ _ hsp
  have KX : K.In s.heap := e0.mod.kin.keeps fun b o e => (e0.bs b o e).1
  have lim : s.heap.NoLimit := e0.mod.nolimit.keeps fun b o e => (e0.bs b o e).1
  have hkind : ∀ y ∈ ps.zip us, (defScope st).names.lookup y.1 = some .local ∨ ((defScope st).names.lookup y.1 = some .cell ∧ ((cellsFrom (s.heap.objs.size + 1) (defScope st).names []).lookup y.1).isSome = true) := fun ⟨n, v⟩ hy => by
    rcases S.par n (List.of_mem_zip hy).1 with q | q
    · exact .inl q
    · exact .inr ⟨q, PySem.W.cellsFrom_some _ _ _ (.inl q)⟩
  refine codeAny_call_function hr.depth (KX _ _ lk) rfl S.co S.gen rfl (PySem.W.codeRec_of KX hcd) (hb _ _ _ _ ?_)
  refine wpAny_newFunctionEnv_cells S.kind hkind fun env he s1 x => ?_
  subst he
  refine ⟨lim.keeps x.toInCall.keep, codeAny_func ?_⟩
  obtain ⟨t, ht, hq⟩ := hbody cdv A outer s H vs Q E (hr.deeper _) hsp
  have I : Inv (cxH P w K mg base N qual (defScope st) f cdv A outer s H) [] (start N vs) H s1 := by
    have J : Inv (cxOf CX0 P w K mg base N qual (defScope st) f cdv { A with handled := none } outer s H E0) [] (start N vs) H s1 := inv_start S rfl ⟨e0.frames, e0.mod, e0.bs, e0.bsz, e0.funs, e0.frf, e0.hok, e0.bare⟩ hl r x
    exact ⟨⟨J.ok.mod, J.ok.kind, J.ok.glob, J.ok.blt, J.ok.above, J.ok.inj, J.ok.has, J.ok.cab, fun z => absurd (show false = true from z) (by decide), Around.frames_deeper e0.frames, J.ok.stk, J.ok.exf, J.ok.bs, J.ok.bsz, J.ok.noex, J.ok.exfs, J.ok.funs, J.ok.frf⟩,
      J.os, J.bare, J.base, J.loc, J.cell, J.free, J.freeC, J.pin, J.hok, J.len⟩
  refine wpAny_mono (ht [] s1 (start N vs) H _ I hq) (fun fl s' hs => ?_) fun e s' hs => hs.elim
  have fin : ∀ {σ' : St} {H' : Hp} {v : V} {u : Value}, Inv (cxH P w K mg base N qual (defScope st) f cdv A outer s H) [] σ' H' s' → RelV v u → Q v H' → CE outer P w H s Q u s' :=
    fun {σ' H' v u} J rv q => ⟨v, H', J.os, J.bare, J.base, J.hok, rv, q⟩
  cases fl with
  | ret u =>
    obtain ⟨v, σ', H', J, rv, q⟩ := hs
    exact fin J rv q
  | next =>
    obtain ⟨σ', H', J, q⟩ := hs
    exact fin (v := V.non) (u := Value.none) J rfl q
  | brk =>
    obtain ⟨_, _, _, q⟩ := hs
    exact False.elim q
  | cont =>
    obtain ⟨_, _, _, q⟩ := hs
    exact False.elim q
end

/-! ### R.m(e, ..): a function of a class, called by the class's name -/
def tCm (sp : Sp) (t : TA) : TE := fun σ H Q => t σ H fun vs H1 => sp vs H1 Q E0
/-- what is asked of the class -/
structure CM (K : PySem.W.Frag) (R : Addr) (m : Str) (f : Addr) : Prop where
  sp : PySem.W.specialIn K (.ref R) "__getattribute__" = some (some (.builtin "type.__getattribute__"))
  rd : PySem.W.readsIn K R (.type "type") = true
  fd : PySem.W.findCls K (.ref R) (.type "type") m = some (.val (.ref f))
  kp : PySem.W.keepIn K (.ref f) = true
section
variable {X : Cx} {k : Nat} {f R : Addr} {fd : FuncData} {ps : List Str} {sp : Sp} {x m : Str} {p pos apos : Pos} {e : Expr} {es : List Expr} {t : TA}
theorem run_fnH {pins : List (Addr × Obj)} {σ : St} {H : Hp} {s : Shared} {Q : VK} {us : List Value} {vs : List V} (F : FnH X.prog X.w X.K X.mg X.base k f fd ps sp) (hr : RoomH k X.A) (hb : Binds X.K fd ps [])
    (I : Inv X pins σ H s) (r : Vals vs us) (h : sp vs H Q E0) : wpAny (model X.prog X.w) X.A (call (.ref f) us) (EP X pins σ Q) X.xe s := by
  have hl : (us ++ []).length = ps.length := by rw [List.append_nil, ← r.length]; exact F.len _ _ _ _ h
  have hb' := hb s us I.kIn hl
  rw [List.append_nil] at hb'
  refine wpAny_call (codeAny_mono (F.run X.A X.stack s H ⟨us, []⟩ us vs Q E0 hr I.env0 hb' r h) fun r s' hq => ?_)
  cases r with
  | error e => exact False.elim hq
  | ok fl =>
    cases fl with
    | ret u => exact I.after hq
    | next => exact False.elim hq
    | brk => exact False.elim hq
    | cont => exact False.elim hq
theorem pe_cm {pl : Sem Bool} (c : CM X.K R m f) (F : FnH X.prog X.w X.K X.mg X.base k f fd ps sp) (hr : RoomH k X.A) (hb : Binds X.K fd ps []) (hg : Gl X x) (hm : X.mg x = some (.ref R)) (ha : PA X (e :: es) t)
    (hst : starEach (e :: es) X.env = (false, eval e X.env) :: starEach es X.env := by rfl) (hpl : (backTo pos (starEach es X.env)).any (·.1) = false := by rfl) (hdb : (x == ("__debug__" : Str)) = false := by decide)
    (ht : eval (.Call (.Attribute (.Name x p) m apos) (e :: es) [] pos) X.env = (do
      let ov ← eval (.Name x p) X.env
      standAt apos.atName
      let (f, first) ← holding [ov] (getMethod ov m pl)
      callWith pos f first (backTo pos (starEach (e :: es) X.env)) (backToKw pos (keywordEach [] X.env))) := by rfl) :
    PE X (.Call (.Attribute (.Name x p) m apos) (e :: es) [] pos) (tCm sp t) := by
  intro pins s σ H Q I h
  refine PySem.W.methodCall_KW (pl := pl) (ld_glob I hg hm ?_ hdb) ht
  refine PySem.W.method_cls I.kIn c.sp (PySem.W.cls_value I.kIn c.rd c.fd rfl ?_)
  have I1 := I.tok (s.toks + 1)
  refine PySem.W.callWith_K (first := []) (h₀ := X.base) I.ok.mod.kin c.kp (thn (ha pos pins _ σ H _ I1 h) fun us s1 ⟨vs, H1, I2, r, q⟩ => ⟨I2.kIn, ?_⟩) hst hpl
  exact run_fnH F hr hb I2 r q
end

/-! ### e.f, e an exception that was caught -/
def tXld (K : PySem.W.Frag) (f : Str) (ta : TE) : TE := fun σ H Q => ta σ H fun x H1 => ∃ C Z e dx fs v ms fI, x = .ref e ∧ H1 e = some (XL C Z e dx) ∧ H1 dx = some (XD dx fs) ∧ XC K C ms fI ∧ NoA K C f ∧ fs.lookup f = some v ∧ Q v H1
section
variable {X : Cx} {o : Expr} {f : Str} {pos : Pos} {ta : TE}
theorem pe_xld (he : PE X o ta) (hb : attributeBase o f X.env (eval o X.env) = eval o X.env) : PE X (.Attribute o f pos) (tXld X.K f ta) := by
  intro pins s σ H Q I h
  refine attr_of hb (thn (he pins s σ H _ I h) fun u s1 ⟨x, H1, I1, rx, C, Z, e, dx, fs, v, ms, fI, ex, ea, ed, xc, na, l, q⟩ => ?_)
  subst ex
  obtain rfl : u = Value.ref e := rx
  obtain ⟨vs, sl, g1, _⟩ := xl_get I1.hok ea
  obtain ⟨mA, n1, rel⟩ := xd_get I1.hok ed
  have r := rel f
  rw [l] at r
  obtain ⟨u', hu, ru⟩ := RelO.some_of r
  obtain ⟨hh, g, d, t, os⟩ := s1
  exact xload I1.kIn xc na g1 n1 hu (PySem.W.handedOut_of (handed_of ru)) ⟨v, H1, I1.tok _, ru, q⟩
end
end L2
namespace L2
open PySem PySem.Spec PyProof.Rows L3

section
variable {X : Cx} {C fI : Addr} {ms : List Addr} {fd : FuncData} {k : Nat} {ps : List Str} {sp : Sp}
/-- the new exception, its __init__ run -/
theorem make_x {pins : List (Addr × Obj)} {σ : St} {H : Hp} {s : Shared} {us : List Value} {vs : List V} {R : Addr → Addr → Addr → Hp → Prop} (xc : XC X.K C ms fI) (G : FnH X.prog X.w X.K X.mg X.base k fI fd ps sp) (hr : RoomH (k + 1) X.A) (hb : Binds X.K fd ps [])
    (I : Inv X pins σ H s) (r : Vals vs us) (hsz : us.length ≤ sizeLine)
    (h : ∀ e t0, H e = none → sp (.ref e :: vs) (upd H e (XO C e t0 none)) (fun v H' => v = .non ∧ ∃ dx, H' e = some (XO C e t0 (some dx)) ∧ R e dx t0 H') E0) :
    wpAny (model X.prog X.w) X.A (call (.ref C) us) (fun v s' => ∃ e t0 dx H', v = .ref e ∧ Inv X pins σ H' s' ∧ Rec X pins e ∧ H' e = some (XO C e t0 (some dx)) ∧ R e dx t0 H') X.xe s := by
  have hz : s.heap.objs.size ≤ s.heap.objs.size + 1 := Nat.le_succ _
  have fe : H (s.heap.objs.size + 1) = none := I.hok.fresh hz
  have I2 : Inv X pins σ (upd H (s.heap.objs.size + 1) (XO C (s.heap.objs.size + 1) s.heap.objs.size none)) { s with heap := madeX s.heap C us } := by
    have J := I.kept (t' := s.toks) (h' := s.heap.push (tupO us)) fun b o z => Heap.get?_push_of_some _ z
    refine J.laid (t' := s.toks) (h' := madeX s.heap C us) (fun b o z => Heap.get?_push_of_some _ z) (Nat.le_of_eq (Heap.size_push _ _)) (xo_ok ?_)
    have z := Heap.get?_push_size (s.heap.push (tupO us)) (o := excD C s.heap.objs.size none) rfl
    rw [Heap.size_push] at z
    exact z
  have rec1 : Rec X pins (s.heap.objs.size + 1) := Rec.new I hz
  have r2 : Vals (V.ref (s.heap.objs.size + 1) :: vs) (Value.ref (s.heap.objs.size + 1) :: us) := .cons rfl r
  have hq := h (s.heap.objs.size + 1) s.heap.objs.size fe
  have hl : (Value.ref (s.heap.objs.size + 1) :: us).length = ps.length := by rw [← r2.length]; exact G.len _ _ _ _ hq
  have kin := I.kIn
  obtain ⟨hh1, g, d, t, os⟩ := s
  refine xmake_call kin xc hsz ?_
  have hb' := hb ⟨madeX hh1 C us, g, d, t, os⟩ (Value.ref (hh1.objs.size + 1) :: us) I2.kIn (by rw [List.append_nil]; exact hl)
  rw [List.append_nil] at hb'
  refine wpAny_call (codeAny_mono (G.run _ X.stack _ _ ⟨Value.ref (hh1.objs.size + 1) :: us, []⟩ (Value.ref (hh1.objs.size + 1) :: us) _ _ _ (hr.make C us [])
    (I2.env0.make C us []) hb' r2 hq) fun res s' hq' => ?_)
  cases res with
  | error e => exact False.elim hq'
  | ok fl =>
    cases fl with
    | ret u' =>
      obtain ⟨v', H', I3, rv, ev, dx, eH, q⟩ := I2.after hq'
      subst ev
      exact ⟨rv, _, _, dx, H', rfl, I3, rec1, eH, q⟩
    | next => exact False.elim hq'
    | brk => exact False.elim hq'
    | cont => exact False.elim hq'
end

/-! ### raise C(e, ..) -/
def tRaiseX (C : Addr) (sp : Sp) (t : TA) (E : XK) : TS := fun _ σ H => t σ H fun vs H1 => vs.length ≤ sizeLine ∧ ∀ e t0, H1 e = none →
  sp (.ref e :: vs) (upd H1 e (XO C e t0 none)) (fun v H' => v = .non ∧ ∃ dx, H' e = some (XO C e t0 (some dx)) ∧ E (.ref C) (some dx) (era H' e)) E0
/-- within a handler's suite, from None; eh: what is handled -/
def tRaiseF (C : Addr) (sp : Sp) (t : TA) (eh : Addr) (E : XK) : TS := fun _ σ H => t σ H fun vs H1 => vs.length ≤ sizeLine ∧ ∀ e t0, H1 e = none →
  sp (.ref e :: vs) (upd H1 e (XO C e t0 none)) (fun v H' => v = .non ∧ ∃ dx, H' e = some (XO C e t0 (some dx)) ∧ (∃ (Ch : Addr) (Zh : Prop) (dh : Addr), H' eh = some (XL Ch Zh eh dh) ∧ Zh) ∧ eh ≠ e ∧ E (.ref C) (some dx) (era H' e)) E0
section
variable {X : Cx} {C fI : Addr} {ms : List Addr} {fd : FuncData} {k : Nat} {ps : List Str} {sp : Sp} {E : XK} {Z : Addr → Prop} {x : Str} {e1 : Expr} {es : List Expr} {t : TA} {p cpos pos : Pos}
/-- behind the making -/
theorem raise_end {pins : List (Addr × Obj)} {σ : St} {H' : Hp} {s' : Shared} {e t0 dx : Addr} (wi : Wish X Z E) (I : Inv X pins σ H' s') (re : Rec X pins e) (ha : H' e = some (XO C e t0 (some dx))) (hE : E (.ref C) (some dx) (era H' e)) : X.xe (.ref e) s' := by
  have gE := xo_get I.hok ha
  have I4 := inv_era I ha
  exact wi C pins σ _ s' e dx none I4 ⟨some dx, _, _, gE, ⟨rfl, fun _ => rfl⟩, (by show 1 < 6; decide), rfl⟩ (fun _ _ z => by cases z) re (fun _ z => by cases z) era_same hE
theorem ps_raiseX (xc : XC X.K C ms fI) (G : FnH X.prog X.w X.K X.mg X.base k fI fd ps sp) (hr : RoomH (k + 1) X.A) (hg : Gl X x) (hm : X.mg x = some (.ref C)) (hb : Binds X.K fd ps [])
    (wi : Wish X Z E) (hh : X.calm = true) (ha : PA X (e1 :: es) t) (hdb : (x == ("__debug__" : Str)) = false := by decide)
    (he : starEach (e1 :: es) X.env = (false, eval e1 X.env) :: starEach es X.env := by rfl) (hpl : (backTo cpos (starEach es X.env)).any (·.1) = false := by rfl) :
    PS X (.Raise (some (.Call (.Name x p) (e1 :: es) [] cpos)) none pos) (tRaiseX C sp t E) := by
  intro pins s σ H D I h
  rw [arm_exec_Raise]
  show wpAny _ _ (do standAt pos; raiseStmt X.env (some (do let v ← eval (.Call (.Name x p) (e1 :: es) [] cpos) X.env; standAt pos; pure v)) none) _ _ s
  refine wpAny_bind (wpAny_standAt (raise_made xc (I.ok.hd hh) (wpAny_bind ?_)))
  refine wpAny_Call_Name_kw (ld_glob I hg hm ?_ hdb)
  refine PySem.W.callWith_K (h₀ := X.base) I.ok.mod.kin xc.kp (thn (ha cpos pins s σ H _ I h) fun us s1 ⟨vs, H1, I1, r, hz, q1⟩ => ⟨I1.kIn, ?_⟩) he hpl
  refine thn (make_x xc G hr hb I1 r (by have e9 := r.length; show us.length ≤ _; omega) q1) fun v s' hv => ?_
  obtain ⟨e, t0, dx, H', rfl, I3, re, ea, hE⟩ := hv
  refine wpAny_bind (wpAny_standAt (wpAny_pure ?_))
  exact ⟨e, dx, _, _, rfl, I3.kIn, xo_get I3.hok ea, rfl, raise_end wi I3 re ea hE⟩
theorem ps_raiseX0 (xc : XC X.K C ms fI) (G : FnH X.prog X.w X.K X.mg X.base k fI fd ps sp) (hr : RoomH (k + 1) X.A) (hg : Gl X x) (hm : X.mg x = some (.ref C)) (hb : Binds X.K fd ps [])
    (wi : Wish X Z E) (hh : X.calm = true) (hdb : (x == ("__debug__" : Str)) = false := by decide) :
    PS X (.Raise (some (.Call (.Name x p) [] [] cpos)) none pos) (tRaiseX C sp tNil E) := by
  intro pins s σ H D I h
  rw [arm_exec_Raise]
  show wpAny _ _ (do standAt pos; raiseStmt X.env (some (do let v ← eval (.Call (.Name x p) [] [] cpos) X.env; standAt pos; pure v)) none) _ _ s
  refine wpAny_bind (wpAny_standAt (raise_made xc (I.ok.hd hh) (wpAny_bind ?_)))
  refine wpAny_Call_Name_kw (ld_glob I hg hm ?_ hdb)
  obtain ⟨hz, q1⟩ := h
  refine PySem.W.callWith_K0 I.kIn xc.kp ?_
  refine thn (make_x (vs := []) (us := []) xc G hr hb I .nil hz q1) fun v s' hv => ?_
  obtain ⟨e, t0, dx, H', rfl, I3, re, ea, hE⟩ := hv
  refine wpAny_bind (wpAny_standAt (wpAny_pure ?_))
  exact ⟨e, dx, _, _, rfl, I3.kIn, xo_get I3.hok ea, rfl, raise_end wi I3 re ea hE⟩
theorem ps_raiseF {eh : Addr} {npos : Pos} {j : Nat} (xc : XC X.K C ms fI) (G : FnH X.prog X.w X.K X.mg X.base k fI fd ps sp) (hr : RoomH (k + 1) X.A) (hg : Gl X x) (hm : X.mg x = some (.ref C)) (hb : Binds X.K fd ps [])
    (wi : Wish X Z E) (hnz : ¬ Z C) (hh : X.A.handled = some (.ref eh)) (ha : PA X (e1 :: es) t) (hdb : (x == ("__debug__" : Str)) = false := by decide)
    (he : starEach (e1 :: es) X.env = (false, eval e1 X.env) :: starEach es X.env := by rfl) (hpl : (backTo cpos (starEach es X.env)).any (·.1) = false := by rfl) :
    PS X (.Raise (some (.Call (.Name x p) (e1 :: es) [] cpos)) (some (.Constant .none j npos)) pos) (tRaiseF C sp t eh E) := by
  intro pins s σ H D I h
  rw [arm_exec_Raise]
  show wpAny _ _ (do standAt pos; raiseStmt X.env (some (do let v ← eval (.Call (.Name x p) (e1 :: es) [] cpos) X.env; standAt pos; pure v)) (some (do let v ← eval (.Constant .none j npos) X.env; standAt pos; pure v))) _ _ s
  refine wpAny_bind (wpAny_standAt (raise_from xc hh (fun Q' s' q => wpAny_bind (Constant_none (wpAny_bind (wpAny_standAt (wpAny_pure q))))) (wpAny_bind ?_)))
  refine wpAny_Call_Name_kw (ld_glob I hg hm ?_ hdb)
  refine PySem.W.callWith_K (h₀ := X.base) I.ok.mod.kin xc.kp (thn (ha cpos pins s σ H _ I h) fun us s1 ⟨vs, H1, I1, r, hz, q1⟩ => ⟨I1.kIn, ?_⟩) he hpl
  refine thn (make_x xc G hr hb I1 r (by have e9 := r.length; show us.length ≤ _; omega) q1) fun v s' hv => ?_
  obtain ⟨e, t0, dx, H', rfl, I3, re, ea, ⟨Ch, Zh, dh, eh1, zh⟩, nhe, hE⟩ := hv
  refine wpAny_bind (wpAny_standAt (wpAny_pure ?_))
  obtain ⟨v0, sl0, g0, c0⟩ := xl_get I3.hok eh1
  have gE := xo_get I3.hok ea
  refine ⟨e, dx, t0, _, v0, rfl, I3.kIn, gE, nhe, g0, rfl, c0 zh, fun h' k1 sz gx => ?_⟩
  have I4 := inv_era I3 ea
  have I5 : Inv X pins σ (era H' e) { s' with heap := h' } := by
    refine chg_inv (T := none) I4 ⟨fun b o q nb ne nT => (k1 b ne).trans q, fun b o q nb ne nT => ⟨o.slots, (k1 b ne).trans q⟩, fun b o q => ?_, Nat.le_of_eq sz.symm⟩ re (fun _ z => by cases z) era_same
    by_cases y : b = e
    · subst y; exact ⟨_, gx⟩
    · exact ⟨o, (k1 b y).trans q⟩
  exact wi C pins σ _ _ e dx none I5 ⟨some dx, _, _, gx, ⟨rfl, fun z => absurd z hnz⟩, (by show 1 < 6; decide), rfl⟩ (fun _ _ z => by cases z) re (fun _ z => by cases z) era_same hE
end
end L2
namespace L2
open PySem PySem.Spec PyProof.Rows L3

/-- what is wanted of an exception that leaves a handler's suite -/
abbrev hxe (X : Cx) (e : Addr) (n : Str) (hpos : Pos) : Value → Shared → Prop := fun x s₃ =>
  wpAny (model X.prog X.w) (X.A.mark (some (.ref e))) (noteFrame x X.env) (fun _ s₃' =>
    wpAny (model X.prog X.w) (X.A.mark (some (.ref e))) (do bindName X.env n .none; unbindBehindTheSuite X.env n hpos)
      (fun _ s₄ => wpAny (model X.prog X.w) (X.A.mark (some (.ref e))) (PySem.passOn "try.except-as" x X.env : Sem Flow) (fun _ _ => False) (notedBy (model X.prog X.w) (X.A.mark (some (.ref e))) X.env (cameBackBy (model X.prog X.w) X.A X.env X.xe)) s₄)
      (fun y s₄ => wpAny (model X.prog X.w) (X.A.mark (some (.ref e))) (setFlight x none) (fun _ s₅ => (notedBy (model X.prog X.w) (X.A.mark (some (.ref e))) X.env (cameBackBy (model X.prog X.w) X.A X.env X.xe)) y s₅) (notedBy (model X.prog X.w) (X.A.mark (some (.ref e))) X.env (cameBackBy (model X.prog X.w) X.A X.env X.xe)) s₄) s₃')
    (notedBy (model X.prog X.w) (X.A.mark (some (.ref e))) X.env (cameBackBy (model X.prog X.w) X.A X.env X.xe)) s₃
/-- within the suite of a handler -/
abbrev inH (X : Cx) (e : Addr) (n : Str) (hpos : Pos) : Cx := { X with A := X.A.mark (some (.ref e)), calm := false, xe := hxe X e n hpos }
/-- a body whose exceptions are wanted otherwise, under pins -/
abbrev inT (X : Cx) (pn : List (Addr × Obj)) (E' : Value → Shared → Prop) : Cx := { X with pn := pn, xe := E' }
def blank (X : Cx) : St := List.replicate X.N.length none
section
variable {X : Cx} {pins pn' : List (Addr × Obj)} {σ : St} {H : Hp} {s : Shared} {e : Addr} {E' : Value → Shared → Prop} {n : Str} {hpos : Pos}
theorem inv_inH (I : Inv X pins σ H s) : Inv (inH X e n hpos) pins σ H s :=
  ⟨⟨I.ok.mod, I.ok.kind, I.ok.glob, I.ok.blt, I.ok.above, I.ok.inj, I.ok.has, I.ok.cab, fun z => absurd (show false = true from z) (by decide), I.ok.frames, I.ok.stk, I.ok.exf, I.ok.bs, I.ok.bsz, I.ok.noex, I.ok.exfs, I.ok.funs, I.ok.frf⟩,
    I.os, I.bare, I.base, I.loc, I.cell, I.free, I.freeC, I.pin, I.hok, I.len⟩
theorem inv_outH (ok : X.Ok) (I : Inv (inH X e n hpos) pins σ H s) : Inv X pins σ H s := ⟨ok, I.os, I.bare, I.base, I.loc, I.cell, I.free, I.freeC, I.pin, I.hok, I.len⟩
theorem inv_inT (I : Inv X pins σ H s) : Inv (inT X (X.pn ++ pins) E') [] σ H s :=
  ⟨⟨I.ok.mod, I.ok.kind, I.ok.glob, I.ok.blt, I.ok.above, I.ok.inj, I.ok.has, I.ok.cab, I.ok.hd, I.ok.frames, I.ok.stk, I.ok.exf, I.ok.bs, I.ok.bsz, I.ok.noex, I.ok.exfs, I.ok.funs, I.ok.frf⟩,
    I.os, I.bare, I.base, I.loc, I.cell, I.free, I.freeC, fun p hp => I.pin p (by simpa using hp), I.hok, I.len⟩
theorem inv_outT (ok : X.Ok) (I : Inv (inT X (X.pn ++ pins) E') pn' σ H s) : Inv X pins σ H s :=
  ⟨ok, I.os, I.bare, I.base, I.loc, I.cell, I.free, I.freeC, fun p hp => I.pin p (List.mem_append_left _ hp), I.hok, I.len⟩
theorem rec_outT {b : Addr} (r : Rec (inT X (X.pn ++ pins) E') pn' b) : Rec X pins b := ⟨r.1, r.2.1, r.2.2.1, fun p hp => r.2.2.2 p (List.mem_append_left _ hp)⟩
theorem inv_blank (I : Inv X pins σ H s) : Inv X pins (blank X) H s := by
  refine I.weak (by unfold blank; rw [List.length_replicate, I.len]) fun i v z => ?_
  unfold blank at z
  rw [List.getElem?_replicate] at z
  split at z <;> cases z
/-- the frame's map is another: nothing is known of the names -/
theorem inv_forget {h' : Heap} {t' : Nat} {m' : Str → Option Value} (I : Inv X pins σ H s) (hn : h'.Ns X.env.locals m') (sb : Heap.SameBut X.env.locals s.heap h') : Inv X pins (blank X) H { s with heap := h', toks := t' } := by
  have neL : ∀ b o, X.s_0.heap.get? b = some o → b ≠ X.env.locals := fun b o e => Nat.ne_of_lt (Nat.lt_of_lt_of_le (Heap.lt_size e) I.ok.above)
  have k : ∀ b, b ≠ X.env.locals → h'.get? b = s.heap.get? b := fun b hb => sb.2 b hb
  have neH : ∀ b u, H b = some u → b ≠ X.env.locals := fun b u z y => by rw [y, I.free] at z; cases z
  refine ⟨I.ok, I.os, I.bare, ⟨fun b o z n hf hx => ?_, fun b o z n hf hx => ?_, I.base.free, fun b o z hx => ?_, I.base.tups, I.base.frzs, I.base.tbls⟩, ⟨m', hn, fun i x v _ z _ => ?_⟩, fun x c z => ?_, I.free, I.freeC, fun p hp => ?_, fun b u z => ?_, by unfold blank; rw [List.length_replicate]⟩
  · exact (k b (neL b o z)).trans (I.base.keep b o z n hf hx)
  · obtain ⟨sl, q⟩ := I.base.slot b o z n hf hx
    exact ⟨sl, (k b (neL b o z)).trans q⟩
  · obtain ⟨o', q⟩ := I.base.there b o z hx
    exact ⟨o', (k b (neL b o z)).trans q⟩
  · unfold blank at z
    rw [List.getElem?_replicate] at z
    split at z <;> cases z
  · obtain ⟨v, o, ho, hd⟩ := I.cell x c z
    exact ⟨v, o, (k c (I.cne x c z)).trans ho, hd⟩
  · obtain ⟨a1, a2, a3, a4⟩ := I.pin p hp
    exact ⟨(k p.1 a3).trans a1, a2, a3, a4⟩
  · refine (I.hok b u z).stay (fun c v hc q => ?_) (fun _ q => q) fun _ _ q => q
    have hcne : c ≠ X.env.locals := by
      rcases hc with rfl | hc
      · exact neH c u z
      · exact neH c _ hc
    exact (k c hcne).trans q
/-- an untracked record of ours is tracked -/
theorem inv_track {C dx : Addr} {Z : Prop} {vs : Array Value} {sl : Array (Option Value)} (I : Inv X pins σ H s) (r : Rec X pins e) (ne : H e = none) (g : s.heap.get? e = some ⟨.ref C, some dx, .fields vs, sl⟩) (z : Z → vs[2]? = some .none) : Inv X pins σ (upd H e (XL C Z e dx)) s := by
  have n0 : ∀ b u, H b = some u → b ≠ e := fun b u z y => by subst y; rw [ne] at z; cases z
  refine I.call (t' := s.toks) (d' := s.drawn) (g' := s.gens) (h' := s.heap) (ch := [e]) ⟨fun _ _ z _ _ _ => z, fun b o z _ _ _ => ⟨o.slots, z⟩, fun b o z n hx => ?_, fun b o z _ => ⟨o, z⟩, fun b xs z => ?_, fun b o u z => ?_, fun b ps z => ⟨#[], ?_⟩⟩ (fun b u z => ?_) I.bare fun b hb => ?_
  · rw [upd_ne (fun y => hx (by simp [y]))]; exact n
  · rw [upd_ne (n0 b _ z)]; exact z
  · rw [upd_ne (n0 b _ z)]; exact z
  · rw [upd_ne (n0 b _ z), z]; simp
  · by_cases y : b = e
    · subst y
      rw [upd_same] at z
      cases z
      exact xl_ok g (by assumption)
    · rw [upd_ne y] at z
      exact (I.hok b u z).stay (fun _ _ _ q => q) (fun c q => by rw [upd_ne (n0 c _ q)]; exact q) fun c xs q => by rw [upd_ne (n0 c _ q)]; exact q
  · have y : b = e := by simpa using hb
    subst y
    exact r
end
/-- an exception under a change elsewhere -/
theorem exat_same {C e dx L T : Addr} {Z : Prop} {fl : Value} {h h' : Heap} (x : ExAt C Z h e dx (some (T, fl))) (sb : Heap.SameBut L h h') (ne : e ≠ L) (nT : T ≠ L) : ExAt C Z h' e dx (some (T, fl)) := by
  obtain ⟨od, vs, sl, he, e1, hsz, h1, hTe, oT, ts, hT, hdT, h3⟩ := x
  exact ⟨od, vs, sl, (sb.2 e ne).trans he, e1, hsz, h1, hTe, oT, ts, (sb.2 T nT).trans hT, hdT, h3⟩
theorem wish_inH {X : Cx} {Z : Addr → Prop} {E : XK} {eh : Addr} {n : Str} {hpos : Pos} (wi : Wish X Z E) (ok : X.Ok) (hst : X.stack = X.env :: X.outer) (hf : X.env.frame = some X.env.locals) (hl : X.env.scope.names.lookup n = some .local) : Wish (inH X eh n hpos) Z E := by
  intro C pins σ H s e dx tb I hx hfl re rT ne hE
  have onE : ∀ {s' : Shared} {T : Addr} {fl : Value} {Q : Unit → Shared → Prop} {A : Around} {F : Value → Shared → Prop}, ExAt C (Z C) s'.heap e dx (some (T, fl)) → wpAny (model X.prog X.w) A (setFlight (.ref e) X.env.frame) Q F s' →
      wpAny (model X.prog X.w) A (do
        if (← field (.ref e) 1) == .none then unsupported "frame.own-activation:exception-without-traceback"
        setFlight (.ref e) X.env.frame) Q F s' := fun {s' T fl Q A F} x h => by
    obtain ⟨od, vs, sl, he, e1, hsz, h1, _⟩ := x
    refine wpAny_bind (wpAny_field he rfl h1 ?_)
    rw [if_neg (show ¬ ((Value.ref T == Value.none) = true) from by simp)]
    exact h
  show hxe X eh n hpos (.ref e) s
  refine note_inv (X := inH X eh n hpos) I hst hf hx hfl re rT ne fun h1 T I1 x1 rT1 nT1 => ?_
  have J1 : Inv X pins σ H _ := inv_outH ok I1
  obtain ⟨m, hm, _⟩ := id J1.loc
  refine wpAny_nameGoes hl hm (by rw [J1.ok.kind]; rfl) fun h2 m2 hn2 sb2 => ?_
  have I2 := inv_inH (e := eh) (n := n) (hpos := hpos) (inv_forget (t' := s.toks + 1) J1 hn2 sb2)
  have x2 := exat_same x1 sb2 re.2.1 rT1.2.1
  show wpAny _ _ (PySem.passOn "try.except-as" (.ref e) X.env) _ _ _
  unfold PySem.passOn
  obtain ⟨od, vs, sl, he, e1, hsz, h1, _⟩ := id x2
  refine wpAny_bind (wpAny_field he rfl h1 ?_)
  rw [if_neg (show ¬ ((Value.ref T == Value.none) = true) from by simp)]
  refine wpAny_bind (flight_inv (fr := X.env.frame) I2 x2 re rT1 nT1 ne fun h3 I3 x3 => wpAny_throw ?_)
  rw [hf] at x3
  refine note_inv (X := inH X eh n hpos) I3 hst hf x3 (fun _ _ z => by cases z; exact .inr rfl) re (fun a z => by cases z; exact ⟨rT1, nT1⟩) ne fun h4 T4 I4 x4 rT4 nT4 => ?_
  show wpAny _ _ _ _ _ _
  refine onE x4 (flight_inv (fr := X.env.frame) I4 x4 re rT4 nT4 ne fun h5 I5 x5 => ?_)
  rw [hf] at x5
  exact wi C pins _ H _ e dx _ (inv_outH ok I5) x5 (fun _ _ z => by cases z; exact .inr rfl) re (fun a z => by cases z; exact ⟨rT4, nT4⟩) ne hE
end L2
namespace L2
open PySem PySem.Spec PyProof.Rows L3

/-- what is wanted behind a statement whose handler has run: the names are forgotten -/
def behind (X : Cx) (D : Ends) : Ends := ⟨fun _ H => D.nx (blank X) H, D.rt, fun _ H => D.bk (blank X) H, fun _ H => D.ct (blank X) H⟩
/-- handlers: what an exception must bring -/
def PH (X : Cx) (Z : Addr → Prop) (hs : List ExceptHandler) (th : Ends → XK) : Prop := ∀ (C : Addr) (pins : List (Addr × Obj)) (σ : St) (H : Hp) (s : Shared) (e dx T : Addr) (D : Ends), Inv X pins σ H s → ExAt C (Z C) s.heap e dx (some (T, .none)) →
  Rec X pins e → Rec X pins T → H T = none → H e = none → th D (.ref C) (some dx) H → wpAny (model X.prog X.w) X.A (handleBy (.ref e) X.env hs) (SP X pins D) X.xe s
/-- one handler: class Dc, its name in slot i, its suite's reading -/
def hCons (X : Cx) (Z : Addr → Prop) (Dc : Addr) (i : Nat) (ts : Addr → TS) (th : Ends → XK) : Ends → XK := fun D cv odx H => ∃ C ms fI dx, cv = .ref C ∧ odx = some dx ∧ XC X.K C ms fI ∧
  if decide (Dc ∈ C :: ms) = true then ∀ e, H e = none → ts e (behind X D) ((blank X).set i (some (.ref e))) (upd H e (XL C (Z C) e dx)) else th D cv odx H
def hNil : Ends → XK := fun _ _ _ _ => False
section
variable {X : Cx} {Z : Addr → Prop} {Dc fI : Addr} {mD : List Addr} {x n : Str} {i : Nat} {suite : List Stmt} {b0 : Stmt} {np hpos pos : Pos} {rest : List ExceptHandler} {th : Ends → XK} {ts : Addr → TS}
theorem ph_nil : PH X Z [] hNil := fun _ _ _ _ _ _ _ _ _ _ _ _ _ _ _ h => h.elim
theorem ph_cons (xd : XC X.K Dc mD fI) (hst : X.stack = X.env :: X.outer) (hf : X.env.frame = some X.env.locals) (hg : Gl X x) (hm : X.mg x = some (.ref Dc)) (hN : X.N.Nodup) (hi : X.N[i]? = some n) (hl : X.env.scope.names.lookup n = some .local)
    (hs : ∀ e, X.Ok → PSs (inH X e n hpos) (b0 :: suite) (ts e)) (hr : PH X Z rest th) (hdb : (x == ("__debug__" : Str)) = false := by decide) :
    PH X Z (.ExceptHandler (some (.Name x np)) (some n) (b0 :: suite) hpos :: rest) (hCons X Z Dc i ts th) := by
  intro C pins σ H s e dx T D I hx re rT nT ne hE
  obtain ⟨C', ms, fC, dx', ec, ed, xc, hE⟩ := hE
  cases ec
  cases ed
  refine wpAny_handleBy_cons (codeAny_handlers_test ?_) (by intro z; cases z)
  refine ld_glob (X := inH X e n hpos) (inv_inH I) hg hm ?_ hdb
  obtain ⟨od3, vs3, sl3, g3, _⟩ := id hx
  obtain ⟨hh, g, d, t, os⟩ := s
  refine matches_x I.kIn xc xd g3 rfl ?_
  by_cases q : Dc ∈ C :: ms
  · rw [decide_eq_true q] at hE ⊢
    rw [if_pos rfl] at hE
    refine codeAny_handlers_suite_as ?_
    refine flight_inv (fr := none) I hx re rT nT ne fun h4 I4 x4 => ?_
    obtain ⟨od4, vs4, sl4, g4, ⟨-, z4⟩, sz4, t4⟩ := id x4
    have I5 := inv_blank (inv_track (C := C) (Z := Z C) (dx := dx) I4 re ne g4 z4)
    refine store_ok (v := .ref e) I5 hN hi (Or.inl hl) rfl (fun s5 I6 => ?_) (.inr hl)
    refine wpAny_mono (hs e I.ok pins s5 _ _ (behind X D) (inv_inH I6) (hE e ne)) (fun f s6 q6 => ?_) fun _ _ z => z
    have goes : ∀ {σ6 : St} {H6 : Hp}, Inv (inH X e n hpos) pins σ6 H6 s6 → (∀ s7, Inv X pins (blank X) H6 s7 → SP X pins D f s7) →
        wpAny (model X.prog X.w) X.A (do bindName X.env n .none; unbindBehindTheSuite X.env n hpos) (fun _ s7 => SP X pins D f s7) X.xe s6 := fun {σ6 H6} J k => by
      have J : Inv X pins σ6 H6 s6 := inv_outH I.ok J
      obtain ⟨m, hm6, _⟩ := id J.loc
      refine wpAny_nameGoes hl hm6 (by rw [J.ok.kind]; rfl) fun h7 m7 hn7 sb7 => k _ (inv_forget J hn7 sb7)
    cases f with
    | next =>
      obtain ⟨σ6, H6, I7, q7⟩ := q6
      exact goes I7 fun s7 J => ⟨_, H6, J, q7⟩
    | brk =>
      obtain ⟨σ6, H6, I7, q7⟩ := q6
      exact goes I7 fun s7 J => ⟨_, H6, J, q7⟩
    | cont =>
      obtain ⟨σ6, H6, I7, q7⟩ := q6
      exact goes I7 fun s7 J => ⟨_, H6, J, q7⟩
    | ret u =>
      obtain ⟨v, σ6, H6, I7, rv, q7⟩ := q6
      exact goes I7 fun s7 J => ⟨v, _, H6, J, rv, q7⟩
  · rw [decide_eq_false q] at hE ⊢
    rw [if_neg (by decide)] at hE
    exact hr C pins σ H _ e dx T D I hx re rT nT ne hE
end

/-! ### try .. except .. -/
def tTry (th : Ends → XK) (tb : XK → TS) : TS := fun D σ H => tb (th D) D σ H
section
variable {X : Cx} {Z : Addr → Prop} {body : List Stmt} {h0 : ExceptHandler} {hs : List ExceptHandler} {pos : Pos} {tb : XK → TS} {th : Ends → XK}
theorem ps_try (hst : X.stack = X.env :: X.outer) (hf : X.env.frame = some X.env.locals)
    (hb : ∀ (pn : List (Addr × Obj)) (E' : Value → Shared → Prop) (Ec : XK), Wish (inT X pn E') Z Ec → PSs (inT X pn E') body (tb Ec)) (hh : PH X Z (h0 :: hs) th) :
    PS X (.Try body (h0 :: hs) [] [] pos) (tTry th tb) := by
  intro pins s σ H D I h
  refine wpAny_Try_except ?_
  refine wpAny_mono (hb (X.pn ++ pins) (fun e s₁ => wpAny (model X.prog X.w) X.A (noteFrame e X.env) (fun _ s₂ => wpAny (model X.prog X.w) X.A (setFlight e none)
    (fun _ s₃ => wpAny (model X.prog X.w) X.A (handleBy e X.env (h0 :: hs)) (SP X pins D) X.xe s₃) X.xe s₂) X.xe s₁) (th D) ?_ [] s σ H D (inv_inT I) h) (fun f s1 q1 => ?_) fun _ _ z => z
  · intro C pins' σ' H' s1 e dx tb I1 hx hfl re rT ne hE
    have I1 : Inv X pins σ' H' s1 := inv_outT I.ok I1
    have re : Rec X pins e := rec_outT re
    refine note_inv I1 hst hf hx hfl re (fun a z => ⟨rec_outT (rT a z).1, (rT a z).2⟩) ne fun h2 T I2 x2 rT2 nT2 => ?_
    refine flight_inv (fr := none) I2 x2 re rT2 nT2 ne fun h3 I3 x3 => ?_
    exact hh C pins σ' H' _ e dx T D I3 x3 re rT2 nT2 ne hE
  · cases f with
    | next =>
      obtain ⟨σ1, H1, I1, q1⟩ := q1
      exact wpAny_execs_nil ⟨σ1, H1, inv_outT I.ok I1, q1⟩
    | brk =>
      obtain ⟨σ1, H1, I1, q1⟩ := q1
      exact ⟨σ1, H1, inv_outT I.ok I1, q1⟩
    | cont =>
      obtain ⟨σ1, H1, I1, q1⟩ := q1
      exact ⟨σ1, H1, inv_outT I.ok I1, q1⟩
    | ret u =>
      obtain ⟨v, σ1, H1, I1, rv, q1⟩ := q1
      exact ⟨v, σ1, H1, inv_outT I.ok I1, rv, q1⟩
end
end L2
namespace GF
open Lute

/-! ### numbers -/
def more : Nat → Nat → Nat → Bytes → Rd Nat
  | _, n, p, [] => .ok (n, p, [])
  | f, n, p, c :: r => match digit c with
    | none => .ok (n, p, c :: r)
    | some x => if n = 0 ∨ f = 0 then .error p else more (f - 1) (10 * n + x) (p + 1) r
def rdNum (lo mx p : Nat) : Bytes → Rd Nat
  | [] => .error p
  | c :: r => match digit c with
    | none => .error p
    | some x => if 48 + x < lo then .error p else more (mx - 1) x (p + 1) r

theorem more_pos : ∀ (l : Bytes) (f n p : Nat), 0 < n → more f n p l = moreDigits f n p l
  | [], f, n, p, _ => by unfold more moreDigits; rfl
  | c :: r, f, n, p, h => by
    unfold more moreDigits
    cases e : digit c with
    | none => rfl
    | some x =>
      cases f with
      | zero => simp
      | succ f =>
        have h' : ¬ (n = 0 ∨ f + 1 = 0) := by omega
        simp only [h', if_false, Nat.add_sub_cancel]
        exact more_pos r f (10 * n + x) (p + 1) (by omega)
theorem more_zero (l : Bytes) (f p : Nat) : more f 0 p l = match l with
    | x :: _ => if (digit x).isSome = true then .error p else .ok (0, p, l)
    | [] => .ok (0, p, l) := by
  cases l with
  | nil => rfl
  | cons c r =>
    unfold more
    cases e : digit c with
    | none => simp [e]
    | some x => simp [e]
theorem number_eq (p : Nat) (l : Bytes) : rdNum 48 4 p l = number p l := by
  cases l with
  | nil => rfl
  | cons c r =>
    dsimp only [rdNum, number]
    cases e : digit c with
    | none => rfl
    | some x =>
      have h : ¬ (48 + x < 48) := by omega
      simp only [h, if_false]
      cases x with
      | zero =>
        rw [more_zero]
        cases r <;> rfl
      | succ x => exact more_pos r 3 (x + 1) (p + 1) (by omega)
theorem long_eq (p : Nat) (l : Bytes) : rdNum 49 7 p l = longNumber p l := by
  cases l with
  | nil => rfl
  | cons c r =>
    dsimp only [rdNum, longNumber]
    cases e : digit c with
    | none => rfl
    | some x =>
      cases x with
      | zero => simp
      | succ x =>
        have h : ¬ (48 + (x + 1) < 49) := by omega
        simp only [h, if_false]
        exact more_pos r 6 (x + 1) (p + 1) (by omega)
theorem neg_eq (p : Nat) (l : Bytes) : rdNum 49 4 p l = (match l with
      | 48 :: _ => .error p
      | _ => number p l) := by
  cases l with
  | nil => rfl
  | cons c r =>
    by_cases hc : c = 48
    · subst hc
      rfl
    · split
      · rename_i h
        injection h with h1 _
        exact absurd h1 hc
      dsimp only [rdNum, number]
      cases e : digit c with
      | none => rfl
      | some x =>
        cases x with
        | zero =>
          exfalso
          unfold digit at e
          split at e
          · rename_i h
            have e := Option.some.inj e
            apply hc
            have h1 : (48 : UInt8).toNat ≤ c.toNat := UInt8.le_iff_toNat_le.mp h.1
            have h2 : c.toNat = 48 := by
              have : (48 : UInt8).toNat = 48 := rfl
              omega
            exact UInt8.toNat_inj.mp h2
          · cases e
        | succ x =>
          have h : ¬ (48 + (x + 1) < 49) := by omega
          simp only [h, if_false]
          exact more_pos r 3 (x + 1) (p + 1) (by omega)

theorem digit_some {c : UInt8} {x : Nat} (h : digit c = some x) : c.toNat = 48 + x ∧ x ≤ 9 := by
  unfold digit at h
  split at h
  · rename_i q
    have h := Option.some.inj h
    have h1 : (48 : UInt8).toNat ≤ c.toNat := UInt8.le_iff_toNat_le.mp q.1
    have h2 : c.toNat ≤ (57 : UInt8).toNat := UInt8.le_iff_toNat_le.mp q.2
    have e1 : (48 : UInt8).toNat = 48 := rfl
    have e2 : (57 : UInt8).toNat = 57 := rfl
    omega
  · cases h
theorem digit_none {c : UInt8} (h : digit c = none) : c.toNat < 48 ∨ 57 < c.toNat := by
  unfold digit at h
  split at h
  · cases h
  · rename_i q
    have e1 : (48 : UInt8).toNat = 48 := rfl
    have e2 : (57 : UInt8).toNat = 57 := rfl
    by_cases h1 : c.toNat < 48
    · exact .inl h1
    · by_cases h2 : 57 < c.toNat
      · exact .inr h2
      · exact absurd ⟨UInt8.le_iff_toNat_le.mpr (by omega), UInt8.le_iff_toNat_le.mpr (by omega)⟩ q
/-- what a reading took: k bytes -/
def Took {α : Type} (p : Nat) (l : Bytes) (r : Rd α) : Prop := ∀ a q u, r = .ok (a, q, u) → ∃ k, k ≤ l.length ∧ q = p + k ∧ u = l.drop k
theorem more_took : ∀ (l : Bytes) (f n p : Nat), Took p l (more f n p l)
  | [], f, n, p => fun a q u h => by
    unfold more at h
    injection h with h
    injection h with h1 h2
    injection h2 with h2 h3
    exact ⟨0, Nat.le_refl _, h2.symm, h3.symm⟩
  | c :: r, f, n, p => fun a q u h => by
    unfold more at h
    cases e : digit c with
    | none =>
      rw [e] at h
      injection h with h
      injection h with h1 h2
      injection h2 with h2 h3
      exact ⟨0, Nat.zero_le _, h2.symm, h3.symm⟩
    | some x =>
      rw [e] at h
      dsimp only at h
      split at h
      · cases h
      · obtain ⟨k, h0, h1, h2⟩ := more_took r (f - 1) (10 * n + x) (p + 1) a q u h
        exact ⟨k + 1, by simp; omega, by omega, by rw [h2]; rfl⟩
theorem rdNum_took (lo mx p : Nat) (l : Bytes) : ∀ a q u, rdNum lo mx p l = .ok (a, q, u) → ∃ k, 1 ≤ k ∧ k ≤ l.length ∧ q = p + k ∧ u = l.drop k := by
  intro a q u h
  cases l with
  | nil => cases h
  | cons c r =>
    dsimp only [rdNum] at h
    cases e : digit c with
    | none => rw [e] at h; cases h
    | some x =>
      rw [e] at h
      dsimp only at h
      split at h
      · cases h
      · obtain ⟨k, h0, h1, h2⟩ := more_took r (mx - 1) x (p + 1) a q u h
        exact ⟨k + 1, by omega, by simp; omega, by omega, by rw [h2]; rfl⟩
theorem more_lt : ∀ (l : Bytes) (f n p a q : Nat) (u : Bytes) (B : Nat), n < 10 ^ B → more f n p l = .ok (a, q, u) → a < 10 ^ (B + f)
  | [], f, n, p, a, q, u, B, hB, h => by
    unfold more at h
    injection h with h
    injection h with h1 h2
    subst h1
    exact Nat.lt_of_lt_of_le hB (Nat.pow_le_pow_right (by decide) (Nat.le_add_right _ _))
  | c :: r, f, n, p, a, q, u, B, hB, h => by
    unfold more at h
    cases e : digit c with
    | none =>
      rw [e] at h
      injection h with h
      injection h with h1 h2
      subst h1
      exact Nat.lt_of_lt_of_le hB (Nat.pow_le_pow_right (by decide) (Nat.le_add_right _ _))
    | some x =>
      rw [e] at h
      dsimp only at h
      split at h
      · cases h
      · rename_i hn
        have hx := (digit_some e).2
        have e2 : 10 ^ (B + 1) = 10 * 10 ^ B := by rw [Nat.pow_succ, Nat.mul_comm]
        have := more_lt r (f - 1) (10 * n + x) (p + 1) a q u (B + 1) (by omega) h
        have e3 : B + 1 + (f - 1) = B + f := by omega
        rw [e3] at this
        exact this
theorem rdNum_lt {lo mx p a q : Nat} {l u : Bytes} (hm : 1 ≤ mx) (h : rdNum lo mx p l = .ok (a, q, u)) : a < 10 ^ mx ∧ (lo = 49 → 1 ≤ a) := by
  cases l with
  | nil => cases h
  | cons c r =>
    dsimp only [rdNum] at h
    cases e : digit c with
    | none => rw [e] at h; cases h
    | some x =>
      rw [e] at h
      dsimp only at h
      have hx := (digit_some e).2
      split at h
      · cases h
      · rename_i hlo
        have h1 := more_lt r (mx - 1) x (p + 1) a q u 1 (by omega) h
        have e3 : 1 + (mx - 1) = mx := by omega
        rw [e3] at h1
        refine ⟨h1, fun hl => ?_⟩
        have hx1 : 0 < x := by omega
        clear h1 e
        have ge : ∀ (l : Bytes) (f n p a q : Nat) (u : Bytes), 0 < n → more f n p l = .ok (a, q, u) → n ≤ a := by
          intro l
          induction l with
          | nil =>
            intro f n p a q u hn h
            unfold more at h
            injection h with h
            injection h with h1 h2
            omega
          | cons c r ih =>
            intro f n p a q u hn h
            unfold more at h
            cases e : digit c with
            | none =>
              rw [e] at h
              injection h with h
              injection h with h1 h2
              omega
            | some x =>
              rw [e] at h
              dsimp only at h
              split at h
              · cases h
              · have := ih (f - 1) (10 * n + x) (p + 1) a q u (by omega) h
                omega
        have := ge r (mx - 1) x (p + 1) a q u hx1 h
        omega
end GF
namespace GF
open Lute

/-! ### the power behind a factor's digit, the factor -/
def powAt (p : Nat) (l : Bytes) : Rd (Option (Int × Nat)) := match l with
  | 94 :: u => (match signed (p + 1) u with
    | .error e => .error e
    | .ok (n, q, v) => match v with
      | 47 :: w => (match number (q + 1) w with
        | .error e => .error e
        | .ok (d, z, t) => .ok (if 2 ≤ d ∧ Nat.gcd n.natAbs d = 1 then some (n, d) else none, z, t))
      | _ => .ok (if n = 0 ∨ n = 1 then none else some (n, 1), q, v))
  | _ => .ok (some (1, 1), p, l)
def primeAt (c : UInt8) : Option Nat := [(50 : UInt8), 51, 53, 55].idxOf? c
theorem factorAt_eq (p : Nat) (c : UInt8) (r : Bytes) : factorAt p (c :: r) = match primeAt c with
    | none => .error p
    | some k => match powAt (p + 1) r with
      | .error e => .error e
      | .ok (w, q, u) => .ok ((k, w), q, u) := by
  unfold factorAt primeAt
  dsimp only
  cases e : [(50 : UInt8), 51, 53, 55].idxOf? c with
  | none => rfl
  | some k =>
    dsimp only
    by_cases hr : ∃ u, r = 94 :: u
    · obtain ⟨u, rfl⟩ := hr
      show (match signed (p + 1 + 1) u with
        | .error e => .error e
        | .ok (n, q, v) => match v with
          | 47 :: w => (match number (q + 1) w with
            | .error e => .error e
            | .ok (d, z, t) => .ok ((k, if 2 ≤ d ∧ Nat.gcd n.natAbs d = 1 then some (n, d) else none), z, t))
          | _ => .ok ((k, if n = 0 ∨ n = 1 then none else some (n, 1)), q, v) : Rd (Nat × Option (Int × Nat))) = match (match signed (p + 1 + 1) u with
        | .error e => .error e
        | .ok (n, q, v) => match v with
          | 47 :: w => (match number (q + 1) w with
            | .error e => .error e
            | .ok (d, z, t) => .ok (if 2 ≤ d ∧ Nat.gcd n.natAbs d = 1 then some (n, d) else none, z, t))
          | _ => .ok (if n = 0 ∨ n = 1 then none else some (n, 1), q, v) : Rd (Option (Int × Nat))) with
        | .error e => .error e
        | .ok (w, q, u) => .ok ((k, w), q, u)
      cases signed (p + 1 + 1) u with
      | error e => rfl
      | ok y =>
        obtain ⟨n, q, v⟩ := y
        by_cases hv : ∃ w, v = 47 :: w
        · obtain ⟨w, rfl⟩ := hv
          show (match number (q + 1) w with
            | .error e => .error e
            | .ok (d, z, t) => .ok ((k, if 2 ≤ d ∧ Nat.gcd n.natAbs d = 1 then some (n, d) else none), z, t) : Rd (Nat × Option (Int × Nat))) = match (match number (q + 1) w with
            | .error e => .error e
            | .ok (d, z, t) => .ok (if 2 ≤ d ∧ Nat.gcd n.natAbs d = 1 then some (n, d) else none, z, t) : Rd (Option (Int × Nat))) with
            | .error e => .error e
            | .ok (w, q, u) => .ok ((k, w), q, u)
          cases number (q + 1) w with
          | error e => rfl
          | ok y =>
            obtain ⟨d, z, t⟩ := y
            rfl
        · dsimp only
          split
          · rename_i w
            exact absurd ⟨w, rfl⟩ hv
          · rfl
    · match r, hr with
      | [], _ => rfl
      | c :: w, hr =>
        have hc : c ≠ 94 := fun h => hr ⟨w, by rw [h]⟩
        have e1 : powAt (p + 1) (c :: w) = .ok (some (1, 1), p + 1, c :: w) := by
          unfold powAt
          split
          · rename_i h
            injection h with h _
            exact absurd h hc
          · rfl
        rw [e1]
        dsimp only
        split
        · rename_i h
          injection h with h _
          exact absurd h hc
        · rfl

/-! ### what ends an interval's text: nothing, or a line's end -/
def Tail (t : Bytes) : Prop := t = [] ∨ ∃ r, t = 10 :: r
def lift {α : Type} (q : Nat) (t : Bytes) : Rd α → Rd α
  | .error e => .error (q + e)
  | .ok (a, p, u) => .ok (a, q + p, u ++ t)
theorem more_tail {t : Bytes} (ht : Tail t) (q : Nat) : ∀ (b : Bytes) (f n p : Nat), moreDigits f n (q + p) (b ++ t) = lift q t (moreDigits f n p b)
  | [], f, n, p => by
    rcases ht with rfl | ⟨r, rfl⟩
    · cases f <;> rfl
    · cases f <;> rfl
  | c :: r, f, n, p => by
    show moreDigits f n (q + p) (c :: (r ++ t)) = lift q t (moreDigits f n p (c :: r))
    unfold moreDigits
    cases e : digit c with
    | none => rfl
    | some x =>
      cases f with
      | zero => rfl
      | succ f => exact more_tail ht q r f (10 * n + x) (p + 1)
theorem number_tail {t : Bytes} (ht : Tail t) (q p : Nat) (b : Bytes) : number (q + p) (b ++ t) = lift q t (number p b) := by
  cases b with
  | nil =>
    rcases ht with rfl | ⟨r, rfl⟩ <;> rfl
  | cons c r =>
    show number (q + p) (c :: (r ++ t)) = lift q t (number p (c :: r))
    dsimp only [number]
    cases e : digit c with
    | none => rfl
    | some x =>
      cases x with
      | zero =>
        cases r with
        | nil => rcases ht with rfl | ⟨r, rfl⟩ <;> rfl
        | cons d r =>
          dsimp only [List.cons_append]
          by_cases h : (digit d).isSome = true
          · rw [if_pos h, if_pos h]; rfl
          · rw [if_neg h, if_neg h]; rfl
      | succ x => exact more_tail ht q r 3 (x + 1) (p + 1)
theorem signed_tail {t : Bytes} (ht : Tail t) (q p : Nat) (b : Bytes) : signed (q + p) (b ++ t) = lift q t (signed p b) := by
  cases b with
  | nil =>
    rcases ht with rfl | ⟨r, rfl⟩ <;> rfl
  | cons c r =>
    show signed (q + p) (c :: (r ++ t)) = lift q t (signed p (c :: r))
    unfold signed
    by_cases hc : c = 45
    · dsimp only
      rw [if_pos hc, if_pos hc]
      cases r with
      | nil =>
        rcases ht with rfl | ⟨r, rfl⟩ <;> rfl
      | cons d r =>
        by_cases hd : d = 48
        · subst hd; rfl
        · have h1 : ∀ (x : Bytes), ∀ z : Nat, (match d :: x with
              | 48 :: _ => (Except.error z : Rd Int)
              | _ => match number z (d :: x) with
                | .error e => .error e
                | .ok (n, q, u) => .ok (-((n : Nat) : Int), q, u)) = match number z (d :: x) with
                | .error e => .error e
                | .ok (n, q, u) => .ok (-((n : Nat) : Int), q, u) := fun x z => by
            split
            · rename_i h
              injection h with h _
              exact absurd h hd
            · rfl
          have e1 := h1 (r ++ t) (q + p + 1)
          have e2 := h1 r (p + 1)
          have e3 := number_tail ht q (p + 1) (d :: r)
          refine Eq.trans e1 (Eq.trans ?_ (congrArg (lift q t) e2).symm)
          have e4 : number (q + p + 1) (d :: (r ++ t)) = lift q t (number (p + 1) (d :: r)) := e3
          rw [e4]
          cases number (p + 1) (d :: r) with
          | error e => rfl
          | ok y => obtain ⟨n, z, u⟩ := y; rfl
    · dsimp only
      rw [if_neg hc, if_neg hc]
      have e4 : number (q + p) (c :: (r ++ t)) = lift q t (number p (c :: r)) := number_tail ht q p (c :: r)
      rw [e4]
      cases number p (c :: r) with
      | error e => rfl
      | ok y => obtain ⟨n, z, u⟩ := y; rfl
theorem pow_tail {t : Bytes} (ht : Tail t) (q p : Nat) (b : Bytes) : powAt (q + p) (b ++ t) = lift q t (powAt p b) := by
  by_cases hb : ∃ u, b = 94 :: u
  · obtain ⟨u, rfl⟩ := hb
    show (match signed (q + p + 1) (u ++ t) with
      | .error e => .error e
      | .ok (n, q, v) => match v with
        | 47 :: w => (match number (q + 1) w with
          | .error e => .error e
          | .ok (d, z, t) => .ok (if 2 ≤ d ∧ Nat.gcd n.natAbs d = 1 then some (n, d) else none, z, t))
        | _ => .ok (if n = 0 ∨ n = 1 then none else some (n, 1), q, v)) = lift q t (match signed (p + 1) u with
      | .error e => .error e
      | .ok (n, q, v) => match v with
        | 47 :: w => (match number (q + 1) w with
          | .error e => .error e
          | .ok (d, z, t) => .ok (if 2 ≤ d ∧ Nat.gcd n.natAbs d = 1 then some (n, d) else none, z, t))
        | _ => .ok (if n = 0 ∨ n = 1 then none else some (n, 1), q, v))
    have e1 : signed (q + p + 1) (u ++ t) = lift q t (signed (p + 1) u) := signed_tail ht q (p + 1) u
    rw [e1]
    cases signed (p + 1) u with
    | error e => rfl
    | ok y =>
      obtain ⟨n, z, v⟩ := y
      by_cases hv : ∃ w, v = 47 :: w
      · obtain ⟨w, rfl⟩ := hv
        have e2 : number (q + z + 1) (w ++ t) = lift q t (number (z + 1) w) := number_tail ht q (z + 1) w
        show (match number (q + z + 1) (w ++ t) with
          | .error e => .error e
          | .ok (d, z, t) => .ok (if 2 ≤ d ∧ Nat.gcd n.natAbs d = 1 then some (n, d) else none, z, t)) = lift q t (match number (z + 1) w with
          | .error e => .error e
          | .ok (d, z, t) => .ok (if 2 ≤ d ∧ Nat.gcd n.natAbs d = 1 then some (n, d) else none, z, t))
        rw [e2]
        cases number (z + 1) w with
        | error e => rfl
        | ok y => obtain ⟨d, z2, t2⟩ := y; rfl
      · have nv : ∀ (x : Bytes) (z : Nat), (∀ w, x ≠ 47 :: w) → (match x with
            | 47 :: w => (match number (z + 1) w with
              | .error e => .error e
              | .ok (d, z, t) => .ok (if 2 ≤ d ∧ Nat.gcd n.natAbs d = 1 then some (n, d) else none, z, t))
            | _ => .ok (if n = 0 ∨ n = 1 then none else some (n, 1), z, x) : Rd (Option (Int × Nat))) = .ok (if n = 0 ∨ n = 1 then none else some (n, 1), z, x) := fun x z h => by
          split
          · rename_i w
            exact absurd rfl (h w)
          · rfl
        have a1 : ∀ w, v ≠ 47 :: w := fun w e => hv ⟨w, e⟩
        have a2 : ∀ w, v ++ t ≠ 47 :: w := fun w e => by
          cases v with
          | nil =>
            rcases ht with rfl | ⟨r, rfl⟩
            · cases e
            · injection e with e _; exact absurd e (by decide)
          | cons c v =>
            injection e with e _
            exact hv ⟨v, by rw [e]⟩
        exact Eq.trans (nv (v ++ t) (q + z) a2) (congrArg (lift q t) (nv v z a1)).symm
  · have nb : ∀ (x : Bytes) (z : Nat), (∀ w, x ≠ 94 :: w) → powAt z x = .ok (some (1, 1), z, x) := fun x z h => by
      unfold powAt
      split
      · rename_i w
        exact absurd rfl (h w)
      · rfl
    have a1 : ∀ w, b ≠ 94 :: w := fun w e => hb ⟨w, e⟩
    have a2 : ∀ w, b ++ t ≠ 94 :: w := fun w e => by
      cases b with
      | nil =>
        rcases ht with rfl | ⟨r, rfl⟩
        · cases e
        · injection e with e _; exact absurd e (by decide)
      | cons c b =>
        injection e with e _
        exact hb ⟨b, by rw [e]⟩
    rw [nb _ _ a2, nb _ _ a1]; rfl
theorem factor_tail {t : Bytes} (ht : Tail t) (q p : Nat) (b : Bytes) : factorAt (q + p) (b ++ t) = lift q t (factorAt p b) := by
  cases b with
  | nil =>
    rcases ht with rfl | ⟨r, rfl⟩ <;> rfl
  | cons c r =>
    show factorAt (q + p) (c :: (r ++ t)) = _
    rw [factorAt_eq, factorAt_eq]
    cases primeAt c with
    | none => rfl
    | some k =>
      dsimp only
      have e : powAt (q + p + 1) (r ++ t) = lift q t (powAt (p + 1) r) := pow_tail ht q (p + 1) r
      rw [e]
      cases powAt (p + 1) r with
      | error e => rfl
      | ok y => obtain ⟨w, z, u⟩ := y; rfl
end GF
namespace GF
open Lute

/-- with a sign: what Python reads -/
def wholeAt (p : Nat) (l : Bytes) : Rd Int := match l with
  | [] => .error p
  | c :: r => if c = 45 then (match rdNum 49 4 (p + 1) r with
      | .error e => .error e
      | .ok (n, q, u) => .ok (-((n : Nat) : Int), q, u))
    else match rdNum 48 4 p (c :: r) with
      | .error e => .error e
      | .ok (n, q, u) => .ok (((n : Nat) : Int), q, u)
theorem signed_eq (p : Nat) (l : Bytes) : signed p l = wholeAt p l := by
  cases l with
  | nil => rfl
  | cons c r =>
    unfold signed wholeAt
    dsimp only
    by_cases hc : c = 45
    · rw [if_pos hc, if_pos hc]
      by_cases h : ∃ x, r = 48 :: x
      · obtain ⟨x, rfl⟩ := h
        rfl
      · have e1 : rdNum 49 4 (p + 1) r = number (p + 1) r := by
          rw [neg_eq]
          split
          · rename_i x
            exact absurd ⟨x, rfl⟩ h
          · rfl
        rw [e1]
        split
        · rename_i x
          exact absurd ⟨x, rfl⟩ h
        · cases number (p + 1) r with
          | error e => rfl
          | ok y => rfl
    · rw [if_neg hc, if_neg hc, number_eq]
      cases number p (c :: r) with
      | error e => rfl
      | ok y => rfl
theorem whole_took (p : Nat) (l : Bytes) : ∀ a q u, wholeAt p l = .ok (a, q, u) → ∃ k, 1 ≤ k ∧ k ≤ l.length ∧ q = p + k ∧ u = l.drop k := by
  intro a q u h
  cases l with
  | nil => cases h
  | cons c r =>
    dsimp only [wholeAt] at h
    split at h
    · cases e : rdNum 49 4 (p + 1) r with
      | error e2 => rw [e] at h; cases h
      | ok y =>
        obtain ⟨n, q', u'⟩ := y
        rw [e] at h
        injection h with h
        injection h with h1 h2
        injection h2 with h2 h3
        subst h2 h3
        obtain ⟨k, k1, k2, k3, k4⟩ := rdNum_took 49 4 (p + 1) r _ _ _ e
        exact ⟨k + 1, by omega, by simp; omega, by omega, by rw [k4]; rfl⟩
    · cases e : rdNum 48 4 p (c :: r) with
      | error e2 => rw [e] at h; cases h
      | ok y =>
        obtain ⟨n, q', u'⟩ := y
        rw [e] at h
        injection h with h
        injection h with h1 h2
        injection h2 with h2 h3
        subst h2 h3
        exact rdNum_took 48 4 p (c :: r) _ _ _ e
theorem whole_lt {p q : Nat} {l u : Bytes} {n : Int} (h : wholeAt p l = .ok (n, q, u)) : n.natAbs < 10000 := by
  cases l with
  | nil => cases h
  | cons c r =>
    dsimp only [wholeAt] at h
    split at h
    · cases e : rdNum 49 4 (p + 1) r with
      | error e2 => rw [e] at h; cases h
      | ok y =>
        obtain ⟨m, q', u'⟩ := y
        rw [e] at h
        injection h with h
        injection h with h1 h2
        have := (rdNum_lt (by decide) e).1
        omega
    · cases e : rdNum 48 4 p (c :: r) with
      | error e2 => rw [e] at h; cases h
      | ok y =>
        obtain ⟨m, q', u'⟩ := y
        rw [e] at h
        injection h with h
        injection h with h1 h2
        have := (rdNum_lt (by decide) e).1
        omega
/-- the same power as Python reads it -/
theorem powAt_caret (p : Nat) (u : Bytes) : powAt p (94 :: u) = match wholeAt (p + 1) u with
    | .error e => .error e
    | .ok (n, q, v) => match v with
      | 47 :: w => (match rdNum 48 4 (q + 1) w with
        | .error e => .error e
        | .ok (d, z, t) => .ok (if 2 ≤ d ∧ Nat.gcd n.natAbs d = 1 then some (n, d) else none, z, t))
      | _ => .ok (if n = 0 ∨ n = 1 then none else some (n, 1), q, v) := by
  simp only [number_eq, ← signed_eq]
  rfl
theorem powAt_none {p : Nat} {l : Bytes} (h : ∀ u, l ≠ 94 :: u) : powAt p l = .ok (some (1, 1), p, l) := by
  unfold powAt
  split
  · rename_i u
    exact absurd rfl (h u)
  · rfl
theorem pow_took (p : Nat) (l : Bytes) : ∀ a q u, powAt p l = .ok (a, q, u) → ∃ k, k ≤ l.length ∧ q = p + k ∧ u = l.drop k := by
  intro a q u h
  by_cases hl : ∃ r, l = 94 :: r
  · obtain ⟨r, rfl⟩ := hl
    rw [powAt_caret] at h
    cases e : wholeAt (p + 1) r with
    | error e2 => rw [e] at h; cases h
    | ok y =>
      obtain ⟨n, q', v⟩ := y
      rw [e] at h
      obtain ⟨k, k1, k2, k3, k4⟩ := whole_took _ _ _ _ _ e
      dsimp only at h
      split at h
      · rename_i w
        cases e3 : rdNum 48 4 (q' + 1) w with
        | error e2 => rw [e3] at h; cases h
        | ok y =>
          obtain ⟨d, z, t⟩ := y
          rw [e3] at h
          injection h with h
          injection h with h1 h2
          injection h2 with h2 h3
          subst h2 h3
          obtain ⟨j, j1, j2, j3, j4⟩ := rdNum_took _ _ _ _ _ _ _ e3
          have hw : w = r.drop (k + 1) := by
            have : (47 :: w).drop 1 = (r.drop k).drop 1 := congrArg (List.drop 1) k4
            rw [List.drop_drop] at this
            simpa using this
          have hl : w.length = r.length - (k + 1) := by rw [hw, List.length_drop]
          have hk : 1 ≤ r.length - k := by
            have : (47 :: w).length = (r.drop k).length := congrArg List.length k4
            rw [List.length_drop] at this
            simp at this
            omega
          refine ⟨k + 1 + j + 1, by simp; omega, by omega, ?_⟩
          rw [j4, hw, List.drop_drop]
          rfl
      · injection h with h
        injection h with h1 h2
        injection h2 with h2 h3
        subst h2 h3
        exact ⟨k + 1, by simp; omega, by omega, by rw [k4]; rfl⟩
  · rw [powAt_none fun u e => hl ⟨u, e⟩] at h
    injection h with h
    injection h with h1 h2
    injection h2 with h2 h3
    exact ⟨0, Nat.zero_le _, h2.symm, h3.symm⟩
theorem factor_took (p : Nat) (l : Bytes) : ∀ a q u, factorAt p l = .ok (a, q, u) → ∃ k, 1 ≤ k ∧ k ≤ l.length ∧ q = p + k ∧ u = l.drop k := by
  intro a q u h
  cases l with
  | nil => cases h
  | cons c r =>
    rw [factorAt_eq] at h
    cases e : primeAt c with
    | none => rw [e] at h; cases h
    | some k =>
      rw [e] at h
      dsimp only at h
      cases e2 : powAt (p + 1) r with
      | error e3 => rw [e2] at h; cases h
      | ok y =>
        obtain ⟨w, q', u'⟩ := y
        rw [e2] at h
        injection h with h
        injection h with h1 h2
        injection h2 with h2 h3
        subst h2 h3
        obtain ⟨j, j2, j3, j4⟩ := pow_took _ _ _ _ _ e2
        exact ⟨j + 1, by omega, by simp; omega, by omega, by rw [j4]; rfl⟩

/-! ### factors, as Python goes: to a line's end or the text's -/
def pyFactors : Nat → Nat → Iv → Nat → Bytes → Except Nat (Iv × Nat × Bytes)
  | 0, _, _, p, _ => .error p
  | f + 1, least, x, p, l => match factorAt p l with
    | .error e => .error e
    | .ok ((k, w), q, u) => if k < least then .error p else match w with
      | none => .error p
      | some (n, d) => match u with
        | [] => .ok (x.plus (powerOf k n d), q, [])
        | c :: v => if c = 10 then .ok (x.plus (powerOf k n d), q, c :: v) else if c = 32 then pyFactors f (k + 1) (x.plus (powerOf k n d)) (q + 1) v else .error q
theorem pyFactors_fuel : ∀ (f g least : Nat) (x : Iv) (p : Nat) (l : Bytes), l.length < f → l.length < g → pyFactors f least x p l = pyFactors g least x p l
  | 0, _, _, _, _, _, h, _ => absurd h (Nat.not_lt_zero _)
  | _ + 1, 0, _, _, _, _, _, h => absurd h (Nat.not_lt_zero _)
  | f + 1, g + 1, least, x, p, l, hf, hg => by
    unfold pyFactors
    cases e : factorAt p l with
    | error e2 => rfl
    | ok y =>
      obtain ⟨⟨k, w⟩, q, u⟩ := y
      obtain ⟨j, j1, j2, j3, j4⟩ := factor_took _ _ _ _ _ e
      dsimp only
      cases w with
      | none => rfl
      | some nd =>
        obtain ⟨n, d⟩ := nd
        cases u with
        | nil => rfl
        | cons c v =>
          dsimp only
          have hlen : (c :: v).length = l.length - j := by rw [j4, List.length_drop]
          simp at hlen
          rw [pyFactors_fuel f g (k + 1) _ (q + 1) v (by omega) (by omega)]
def NoEnd (b : Bytes) : Prop := ∀ c ∈ b, c ≠ 10
theorem NoEnd.drop {b : Bytes} (h : NoEnd b) (k : Nat) : NoEnd (b.drop k) := fun c hc => h c (List.mem_of_mem_drop hc)
theorem factors_tail {t : Bytes} (ht : Tail t) (q : Nat) : ∀ (f least : Nat) (x : Iv) (p : Nat) (b : Bytes), NoEnd b → pyFactors f least x (q + p) (b ++ t) = match pyFactors f least x p b with
    | .error e => .error (q + e)
    | .ok (y, z, u) => .ok (y, q + z, u ++ t)
  | 0, _, _, _, _, _ => rfl
  | f + 1, least, x, p, b, hb => by
    unfold pyFactors
    rw [factor_tail ht]
    cases e : factorAt p b with
    | error e2 => rfl
    | ok y =>
      obtain ⟨⟨k, w⟩, z, u⟩ := y
      obtain ⟨j, j1, j2, j3, j4⟩ := factor_took _ _ _ _ _ e
      have hu : NoEnd u := by rw [j4]; exact hb.drop j
      dsimp only [lift]
      by_cases hk : k < least
      · rw [if_pos hk, if_pos hk]
      · rw [if_neg hk, if_neg hk]
        cases w with
        | none => rfl
        | some nd =>
          obtain ⟨n, d⟩ := nd
          cases u with
          | nil =>
            rcases ht with rfl | ⟨r, rfl⟩
            · rfl
            · rfl
          | cons c v =>
            have hc : c ≠ 10 := hu c (List.mem_cons_self)
            dsimp only [List.cons_append]
            rw [if_neg hc, if_neg hc]
            by_cases h32 : c = 32
            · rw [if_pos h32, if_pos h32]
              exact factors_tail ht q f (k + 1) _ (z + 1) v fun d hd => hu d (List.mem_cons_of_mem _ hd)
            · rw [if_neg h32, if_neg h32]
theorem factors_spec : ∀ (f least : Nat) (x : Iv) (p : Nat) (b : Bytes), NoEnd b → factorsAt f least x p b = match pyFactors f least x p b with
    | .error e => .error e
    | .ok (y, z, _) => if y.ok = true then .ok y else .error z
  | 0, _, _, _, _, _ => rfl
  | f + 1, least, x, p, b, hb => by
    unfold pyFactors factorsAt
    cases e : factorAt p b with
    | error e2 => rfl
    | ok y =>
      obtain ⟨⟨k, w⟩, z, u⟩ := y
      obtain ⟨j, j1, j2, j3, j4⟩ := factor_took _ _ _ _ _ e
      have hu : NoEnd u := by rw [j4]; exact hb.drop j
      dsimp only
      by_cases hk : k < least
      · rw [if_pos hk, if_pos hk]
      · rw [if_neg hk, if_neg hk]
        cases w with
        | none => rfl
        | some nd =>
          obtain ⟨n, d⟩ := nd
          cases u with
          | nil => rfl
          | cons c v =>
            have hc : c ≠ 10 := hu c (List.mem_cons_self)
            dsimp only
            rw [if_neg hc]
            by_cases h32 : c = 32
            · rw [if_pos h32, if_pos h32]
              exact factors_spec f (k + 1) _ (z + 1) v fun d hd => hu d (List.mem_cons_of_mem _ hd)
            · rw [if_neg h32, if_neg h32]
theorem factors_end : ∀ (f least : Nat) (x : Iv) (p : Nat) (b : Bytes), NoEnd b → ∀ y z u, pyFactors f least x p b = .ok (y, z, u) → u = [] ∧ z = p + b.length
  | 0, _, _, _, _, _ => fun y z u h => by cases h
  | f + 1, least, x, p, b, hb => fun y z u h => by
    unfold pyFactors at h
    cases e : factorAt p b with
    | error e2 => rw [e] at h; cases h
    | ok y2 =>
      obtain ⟨⟨k, w⟩, q, v⟩ := y2
      obtain ⟨j, j1, j2, j3, j4⟩ := factor_took _ _ _ _ _ e
      have hu : NoEnd v := by rw [j4]; exact hb.drop j
      rw [e] at h
      dsimp only at h
      by_cases hk : k < least
      · rw [if_pos hk] at h; cases h
      · rw [if_neg hk] at h
        cases w with
        | none => cases h
        | some nd =>
          obtain ⟨n, d⟩ := nd
          have hlen : v.length = b.length - j := by rw [j4, List.length_drop]
          cases v with
          | nil =>
            dsimp only at h
            injection h with h
            injection h with h1 h2
            injection h2 with h2 h3
            simp at hlen
            exact ⟨h3.symm, by omega⟩
          | cons c r =>
            have hc : c ≠ 10 := hu c (List.mem_cons_self)
            dsimp only at h
            rw [if_neg hc] at h
            by_cases h32 : c = 32
            · rw [if_pos h32] at h
              obtain ⟨a1, a2⟩ := factors_end f (k + 1) _ (q + 1) r (fun d hd => hu d (List.mem_cons_of_mem _ hd)) _ _ _ h
              simp at hlen
              exact ⟨a1, by omega⟩
            · rw [if_neg h32] at h; cases h

/-- an interval, as Python reads it at q: u is what's left there -/
def ended (u : Bytes) : Bool := match u with
  | [] => true
  | c :: _ => c == 10
def readPy (q : Nat) (u : Bytes) : Except Nat (Iv × Nat × Bytes) := match u with
  | 49 :: r => if ended r = true then .ok (unison, q + 1, r) else .error (q + 1)
  | _ => match pyFactors (u.length + 1) 0 unison q u with
    | .error e => .error e
    | .ok (y, z, v) => if y.ok = true then .ok (y, z, v) else .error z
def lineOfBytes (u : Bytes) : Bytes := u.takeWhile fun (c : UInt8) => c != 10
theorem cut (u : Bytes) : u = lineOfBytes u ++ u.drop (lineOfBytes u).length ∧ Tail (u.drop (lineOfBytes u).length) ∧ NoEnd (lineOfBytes u) := by
  unfold lineOfBytes
  induction u with
  | nil => exact ⟨rfl, .inl rfl, fun c hc => by cases hc⟩
  | cons c r ih =>
    by_cases hc : c = 10
    · subst hc
      exact ⟨rfl, .inr ⟨r, rfl⟩, fun c hc => by cases hc⟩
    · have e : (c :: r).takeWhile (fun (c : UInt8) => c != 10) = c :: r.takeWhile fun (c : UInt8) => c != 10 := by
        rw [List.takeWhile_cons, if_pos (by simpa using hc)]
      rw [e]
      obtain ⟨h1, h2, h3⟩ := ih
      refine ⟨congrArg (c :: ·) h1, h2, fun d hd => ?_⟩
      rcases List.mem_cons.mp hd with rfl | hd
      · exact hc
      · exact h3 d hd
theorem readPy_eq (q : Nat) (u : Bytes) : readPy q u = match read (lineOfBytes u) with
    | .error e => .error (q + e)
    | .ok x => .ok (x, q + (lineOfBytes u).length, u.drop (lineOfBytes u).length) := by
  obtain ⟨h1, h2, h3⟩ := cut u
  generalize lineOfBytes u = b at h1 h2 h3
  generalize ht : u.drop b.length = t at h1 h2
  subst h1
  clear ht
  by_cases h49 : ∃ r, b = 49 :: r
  · obtain ⟨r, rfl⟩ := h49
    show (if ended (r ++ t) = true then .ok (unison, q + 1, r ++ t) else .error (q + 1) : Except Nat (Iv × Nat × Bytes)) = match (if r.isEmpty = true then .ok unison else .error 1 : Except Nat Iv) with
      | .error e => .error (q + e)
      | .ok x => .ok (x, q + (49 :: r).length, t)
    cases r with
    | nil =>
      have : ended t = true := by
        rcases h2 with rfl | ⟨r, rfl⟩ <;> rfl
      show (if ended t = true then _ else _) = _
      rw [if_pos this]
      rfl
    | cons c r =>
      have hc : c ≠ 10 := h3 c (by simp)
      have : ¬ ended (c :: r ++ t) = true := by
        show ¬ (c == 10) = true
        simpa using hc
      rw [if_neg this]
      rfl
  · have n1 : ∀ (x : Bytes) (q : Nat), (∀ r, x ≠ 49 :: r) → readPy q x = match pyFactors (x.length + 1) 0 unison q x with
        | .error e => .error e
        | .ok (y, z, v) => if y.ok = true then .ok (y, z, v) else .error z := fun x q h => by
      unfold readPy
      split
      · rename_i r
        exact absurd rfl (h r)
      · rfl
    have n2 : read b = factorsAt (b.length + 1) 0 unison 0 b := by
      unfold Lute.read
      split
      · rename_i r
        exact absurd ⟨r, rfl⟩ h49
      · rfl
    have a2 : ∀ r, b ++ t ≠ 49 :: r := fun w e => by
      cases b with
      | nil =>
        rcases h2 with rfl | ⟨r, rfl⟩
        · cases e
        · injection e with e _; exact absurd e (by decide)
      | cons c b =>
        injection e with e _
        exact h49 ⟨b, by rw [e]⟩
    rw [n1 _ _ a2, n2, factors_spec _ _ _ _ _ h3]
    have e1 := factors_tail h2 q ((b ++ t).length + 1) 0 unison 0 b h3
    have e1 : pyFactors ((b ++ t).length + 1) 0 unison q (b ++ t) = _ := e1
    rw [e1, pyFactors_fuel ((b ++ t).length + 1) (b.length + 1) 0 unison 0 b (by rw [List.length_append]; omega) (by omega)]
    cases e : pyFactors (b.length + 1) 0 unison 0 b with
    | error e2 => rfl
    | ok y =>
      obtain ⟨y, z, u⟩ := y
      obtain ⟨k1, k2⟩ := factors_end _ _ _ _ _ h3 _ _ _ e
      subst k1
      dsimp only
      have k3 : z = b.length := by omega
      subst k3
      by_cases hy : y.ok = true
      · rw [if_pos hy, if_pos hy]
        rfl
      · rw [if_neg hy, if_neg hy]
end GF
namespace GF
open Lute

theorem want_took : ∀ (ws : Bytes) (p : Nat) (l : Bytes) (a : Unit) (q : Nat) (u : Bytes), want ws p l = .ok (a, q, u) → ws.length ≤ l.length ∧ q = p + ws.length ∧ u = l.drop ws.length
  | [], p, l, a, q, u, h => by
    injection h with h
    injection h with h1 h2
    injection h2 with h2 h3
    exact ⟨Nat.zero_le _, h2.symm, h3.symm⟩
  | x :: r, p, [], a, q, u, h => by cases h
  | x :: r, p, c :: t, a, q, u, h => by
    unfold want at h
    split at h
    · obtain ⟨h1, h2, h3⟩ := want_took r (p + 1) t a q u h
      exact ⟨by simp; exact h1, by simp; omega, by rw [h3]; rfl⟩
    · cases h
theorem readPy_took (p : Nat) (l : Bytes) : ∀ a q u, readPy p l = .ok (a, q, u) → ∃ k, k ≤ l.length ∧ q = p + k ∧ u = l.drop k := by
  intro a q u h
  rw [readPy_eq] at h
  have hl : (lineOfBytes l).length ≤ l.length := by
    have := congrArg List.length (cut l).1
    rw [List.length_append] at this
    omega
  cases e : Lute.read (lineOfBytes l) with
  | error e2 => rw [e] at h; cases h
  | ok x =>
    rw [e] at h
    injection h with h
    injection h with h1 h2
    injection h2 with h2 h3
    exact ⟨_, hl, h2.symm, h3.symm⟩
/-- a blank, an interval, a line's end -/
def ivPy (fine : Iv → Bool) (p : Nat) (l : Bytes) : Except Nat (Iv × Nat × Bytes) := match want [32] p l with
  | .error e => .error e
  | .ok (_, q, u) => match readPy q u with
    | .error e => .error e
    | .ok (x, z, v) => if fine x = false then .error q else match want [10] z v with
      | .error e => .error e
      | .ok (_, z', v') => .ok (x, z', v')
theorem ivLine_eq (fine : Iv → Bool) (p : Nat) (l : Bytes) : ivLine fine p l = ivPy fine p l := by
  unfold ivLine ivPy
  cases want [32] p l with
  | error e => rfl
  | ok y =>
    obtain ⟨_, q, u⟩ := y
    dsimp only
    rw [readPy_eq]
    show (match Lute.read (lineOfBytes u) with
      | .error e => .error (q + e)
      | .ok x => if fine x = false then .error q else match want [10] (q + (lineOfBytes u).length) (u.drop (lineOfBytes u).length) with
        | .error e => .error e
        | .ok (_, z, v) => .ok (x, z, v) : Rd Iv) = _
    cases Lute.read (lineOfBytes u) with
    | error e => rfl
    | ok x => rfl
theorem ivPy_took (fine : Iv → Bool) (p : Nat) (l : Bytes) : ∀ a q u, ivPy fine p l = .ok (a, q, u) → ∃ k, k ≤ l.length ∧ q = p + k ∧ u = l.drop k := by
  intro a q u h
  unfold ivPy at h
  cases e : want [32] p l with
  | error e2 => rw [e] at h; cases h
  | ok y =>
    obtain ⟨y0, q1, u1⟩ := y
    rw [e] at h
    dsimp only at h
    obtain ⟨a1, a2, a3⟩ := want_took _ _ _ _ _ _ e
    cases e2 : readPy q1 u1 with
    | error e3 => rw [e2] at h; cases h
    | ok y =>
      obtain ⟨x, z, v⟩ := y
      rw [e2] at h
      dsimp only at h
      obtain ⟨k, b1, b2, b3⟩ := readPy_took _ _ _ _ _ e2
      split at h
      · cases h
      · cases e4 : want [10] z v with
        | error e3 => rw [e4] at h; cases h
        | ok y =>
          obtain ⟨y2, q3, u3⟩ := y
          rw [e4] at h
          injection h with h
          injection h with h1 h2
          injection h2 with h2 h3
          subst h2 h3
          obtain ⟨c1, c2, c3⟩ := want_took _ _ _ _ _ _ e4
          have l1 : u1.length = l.length - 1 := by rw [a3, List.length_drop]; rfl
          have l2 : v.length = u1.length - k := by rw [b3, List.length_drop]
          simp at a1 c1 a2 c2
          refine ⟨1 + k + 1, by omega, by omega, ?_⟩
          rw [c3, b3, a3, List.drop_drop, List.drop_drop]
          rfl

/-- one line behind the first -/
def putLine (st : Inst) (k : Nat) (x : Iv) : Inst := if k = 0 then { st with frets := st.frets ++ [x] } else if k = 1 then { st with courses := st.courses ++ [x] } else { st with basses := st.basses ++ [x] }
def lineTail (st : Inst) (k : Nat) (w : Bytes) (many : Bool) (fine : Iv → Bool) (p : Nat) (l : Bytes) : Except Nat (Inst × Nat × Bytes) := match want w p l with
  | .error e => .error e
  | .ok (_, q, u) => if many = true then .error p else match ivPy fine q u with
    | .error e => .error e
    | .ok (x, q, u) => .ok (putLine st k x, q, u)
def lineAt (st : Inst) (p : Nat) (l : Bytes) : Except Nat (Inst × Nat × Bytes) := match l with
  | [] => .error p
  | c :: r =>
    if c = 102 ∧ st.courses.isEmpty = true then lineTail st 0 (ascii "fret") (decide (FRETS ≤ st.frets.length)) (fun (x : Iv) => (st.frets.getLastD unison).lt x) p (c :: r)
    else if c = 99 ∧ st.basses.isEmpty = true then lineTail st 1 (ascii "course") (decide (COURSES ≤ st.opens.length)) (soundsAll st.frets) p (c :: r)
    else if c = 98 ∧ st.courses.isEmpty = false then lineTail st 2 (ascii "bass") (decide (COURSES ≤ st.opens.length)) (fun _ => true) p (c :: r)
    else .error p
theorem lineTail_took {st : Inst} {k : Nat} {w : Bytes} {many : Bool} {fine : Iv → Bool} {p : Nat} {l : Bytes} (hw : 1 ≤ w.length) : ∀ a q u, lineTail st k w many fine p l = .ok (a, q, u) → ∃ k, 1 ≤ k ∧ k ≤ l.length ∧ q = p + k ∧ u = l.drop k := by
  intro a q u h
  unfold lineTail at h
  cases e : want w p l with
  | error e2 => rw [e] at h; cases h
  | ok y =>
    obtain ⟨y0, q1, u1⟩ := y
    rw [e] at h
    dsimp only at h
    obtain ⟨a1, a2, a3⟩ := want_took _ _ _ _ _ _ e
    split at h
    · cases h
    · cases e2 : ivPy fine q1 u1 with
      | error e3 => rw [e2] at h; cases h
      | ok y =>
        obtain ⟨x, z, v⟩ := y
        rw [e2] at h
        injection h with h
        injection h with h1 h2
        injection h2 with h2 h3
        subst h2 h3
        obtain ⟨j, b1, b2, b3⟩ := ivPy_took _ _ _ _ _ _ e2
        have l1 : u1.length = l.length - w.length := by rw [a3, List.length_drop]
        refine ⟨w.length + j, by omega, by omega, by omega, ?_⟩
        rw [b3, a3, List.drop_drop]
theorem lineAt_took (st : Inst) (p : Nat) (l : Bytes) : ∀ a q u, lineAt st p l = .ok (a, q, u) → ∃ k, 1 ≤ k ∧ k ≤ l.length ∧ q = p + k ∧ u = l.drop k := by
  intro a q u h
  unfold lineAt at h
  split at h
  · cases h
  · split at h
    · exact lineTail_took (by decide) _ _ _ h
    · split at h
      · exact lineTail_took (by decide) _ _ _ h
      · split at h
        · exact lineTail_took (by decide) _ _ _ h
        · cases h
theorem linesAt_step (f : Nat) (st : Inst) (p : Nat) (c : UInt8) (r : Bytes) : linesAt (f + 1) st p (c :: r) = match lineAt st p (c :: r) with
    | .error e => .error e
    | .ok (st', q, u) => linesAt f st' q u := by
  conv => lhs; unfold linesAt
  unfold lineAt
  dsimp only
  by_cases h1 : c = 102 ∧ st.courses.isEmpty = true
  · rw [if_pos h1, if_pos h1]
    unfold lineTail
    cases want (ascii "fret") p (c :: r) with
    | error e => rfl
    | ok y =>
      obtain ⟨_, q, u⟩ := y
      dsimp only
      rw [ivLine_eq]
      by_cases h2 : FRETS ≤ st.frets.length
      · rw [if_pos h2, if_pos (decide_eq_true h2)]
      · rw [if_neg h2, if_neg (by rw [decide_eq_false h2]; decide)]
        cases ivPy (fun (x : Iv) => (st.frets.getLastD unison).lt x) q u with
        | error e => rfl
        | ok y => rfl
  · rw [if_neg h1, if_neg h1]
    by_cases h2 : c = 99 ∧ st.basses.isEmpty = true
    · rw [if_pos h2, if_pos h2]
      unfold lineTail
      cases want (ascii "course") p (c :: r) with
      | error e => rfl
      | ok y =>
        obtain ⟨_, q, u⟩ := y
        dsimp only
        rw [ivLine_eq]
        by_cases h2 : COURSES ≤ st.opens.length
        · rw [if_pos h2, if_pos (decide_eq_true h2)]
        · rw [if_neg h2, if_neg (by rw [decide_eq_false h2]; decide)]
          cases ivPy (soundsAll st.frets) q u with
          | error e => rfl
          | ok y => rfl
    · rw [if_neg h2, if_neg h2]
      by_cases h3 : c = 98 ∧ st.courses.isEmpty = false
      · rw [if_pos h3, if_pos h3]
        unfold lineTail
        cases want (ascii "bass") p (c :: r) with
        | error e => rfl
        | ok y =>
          obtain ⟨_, q, u⟩ := y
          dsimp only
          rw [ivLine_eq]
          by_cases h2 : COURSES ≤ st.opens.length
          · rw [if_pos h2, if_pos (decide_eq_true h2)]
          · rw [if_neg h2, if_neg (by rw [decide_eq_false h2]; decide)]
            cases ivPy (fun _ => true) q u with
            | error e => rfl
            | ok y => rfl
      · rw [if_neg h3, if_neg h3]
theorem linesAt_nil (f : Nat) (st : Inst) (p : Nat) : linesAt f st p [] = if st.courses.isEmpty = true then .error p else .ok st := by
  cases f <;> rfl
/-- the first line -/
def headAt (p : Nat) (l : Bytes) : Rd Nat := match want (ascii "length ") p l with
  | .error e => .error e
  | .ok (_, p, u) => match rdNum 49 7 p u with
    | .error e => .error e
    | .ok (n, q, v) => if n < SHORT ∨ LONG < n then .error p else match want [10] q v with
      | .error e => .error e
      | .ok (_, q, v) => .ok (n, q, v)
theorem readInst_eq (t : Bytes) : readInst t = match headAt 0 t with
    | .error e => .error e
    | .ok (n, q, v) => linesAt (v.length + 1) ⟨n, [], [], []⟩ q v := by
  unfold readInst headAt
  cases want (ascii "length ") 0 t with
  | error e => rfl
  | ok y =>
    obtain ⟨_, q, u⟩ := y
    dsimp only
    rw [long_eq]
    cases longNumber q u with
    | error e => rfl
    | ok y =>
      obtain ⟨n, z, v⟩ := y
      dsimp only
      by_cases h : n < SHORT ∨ LONG < n
      · rw [if_pos h, if_pos h]
      · rw [if_neg h, if_neg h]
        cases want [10] z v with
        | error e => rfl
        | ok y => rfl
end GF
namespace GF
open Lute

/-! ### common factors -/
def cf (l : List Int) : Nat := l.foldl (fun g z => Nat.gcd g z.natAbs) 0
theorem cf_five (x : Iv) : cf (LuteB.rowOf x) = x.common := by
  unfold cf LuteB.rowOf Iv.common
  simp only [List.foldl]
  rw [Nat.gcd_zero_left, Int.natAbs_natCast]
  rw [Nat.gcd_comm x.d, Nat.gcd_assoc, Nat.gcd_assoc, Nat.gcd_assoc, Nat.gcd_assoc, Nat.gcd_assoc, Nat.gcd_assoc]
theorem cf_two (n : Int) (d : Nat) : cf [n, (d : Int)] = Nat.gcd n.natAbs d := by
  unfold cf
  simp only [List.foldl]
  rw [Nat.gcd_zero_left, Int.natAbs_natCast]
theorem common_dvd (x : Iv) : x.common ∣ x.d ∧ ((x.common : Nat) : Int) ∣ x.a ∧ ((x.common : Nat) : Int) ∣ x.b ∧ ((x.common : Nat) : Int) ∣ x.c ∧ ((x.common : Nat) : Int) ∣ x.e := by
  unfold Iv.common
  refine ⟨Nat.gcd_dvd_left _ _, ?_, ?_, ?_, ?_⟩ <;> rw [Int.ofNat_dvd_left]
  · exact Nat.dvd_trans (Nat.gcd_dvd_right _ _) (Nat.gcd_dvd_left _ _)
  · exact Nat.dvd_trans (Nat.gcd_dvd_right _ _) (Nat.dvd_trans (Nat.gcd_dvd_right _ _) (Nat.gcd_dvd_left _ _))
  · exact Nat.dvd_trans (Nat.gcd_dvd_right _ _) (Nat.dvd_trans (Nat.gcd_dvd_right _ _) (Nat.dvd_trans (Nat.gcd_dvd_right _ _) (Nat.gcd_dvd_left _ _)))
  · exact Nat.dvd_trans (Nat.gcd_dvd_right _ _) (Nat.dvd_trans (Nat.gcd_dvd_right _ _) (Nat.dvd_trans (Nat.gcd_dvd_right _ _) (Nat.gcd_dvd_right _ _)))
theorem common_pos {x : Iv} (h : 1 ≤ x.d) : 1 ≤ x.common := by
  have := Nat.pos_of_dvd_of_pos (common_dvd x).1 (by omega)
  omega
theorem low_row (x : Iv) : LuteB.rowOf x.low = (LuteB.rowOf x).map fun z => z / ((x.common : Nat) : Int) := by
  unfold LuteB.rowOf Iv.low
  simp only [List.map]
  rfl
theorem low_d {x : Iv} (h : 1 ≤ x.d) : 1 ≤ x.low.d := by
  show 1 ≤ x.d / x.common
  exact Nat.div_pos (Nat.le_of_dvd (by omega) (common_dvd x).1) (common_pos h)
/-- not yet in lowest terms -/
def sumIv (x y : Iv) : Iv := ⟨x.a * (y.d : Int) + y.a * (x.d : Int), x.b * (y.d : Int) + y.b * (x.d : Int), x.c * (y.d : Int) + y.c * (x.d : Int), x.e * (y.d : Int) + y.e * (x.d : Int), x.d * y.d⟩
theorem plus_eq (x y : Iv) : x.plus y = (sumIv x y).low := rfl
theorem plus_comm (x y : Iv) : x.plus y = y.plus x := by
  rw [plus_eq, plus_eq]
  unfold sumIv
  rw [Int.add_comm (x.a * _), Int.add_comm (x.b * _), Int.add_comm (x.c * _), Int.add_comm (x.e * _), Nat.mul_comm x.d]
theorem sum_d {x y : Iv} (hx : 1 ≤ x.d) (hy : 1 ≤ y.d) : 1 ≤ (sumIv x y).d := Nat.mul_pos hx hy
theorem plus_d {x y : Iv} (hx : 1 ≤ x.d) (hy : 1 ≤ y.d) : 1 ≤ (x.plus y).d := low_d (sum_d hx hy)

/-! ### which is the wider -/
theorem toNat_low {a : Int} {g : Nat} (hg : 1 ≤ g) (h : (g : Int) ∣ a) : a.toNat = (a / (g : Int)).toNat * g := by
  obtain ⟨k, rfl⟩ := h
  rw [Int.mul_ediv_cancel_left _ (by omega)]
  rcases Int.lt_or_le k 0 with hk | hk
  · rw [Int.toNat_of_nonpos (Int.le_of_lt hk), Nat.zero_mul]
    exact Int.toNat_of_nonpos (Int.mul_nonpos_of_nonneg_of_nonpos (by omega) (Int.le_of_lt hk))
  · obtain ⟨m, rfl⟩ := Int.eq_ofNat_of_zero_le hk
    rw [← Int.natCast_mul, Int.toNat_natCast, Int.toNat_natCast, Nat.mul_comm]
theorem above_low {z : Iv} (h : 1 ≤ z.d) : z.above = z.low.above ^ z.common := by
  have hg := common_pos h
  obtain ⟨_, h1, h2, h3, h4⟩ := common_dvd z
  unfold Iv.above Iv.low
  dsimp only
  rw [Nat.mul_pow, Nat.mul_pow, Nat.mul_pow, ← Nat.pow_mul, ← Nat.pow_mul, ← Nat.pow_mul, ← Nat.pow_mul]
  rw [← toNat_low hg h1, ← toNat_low hg h2, ← toNat_low hg h3, ← toNat_low hg h4]
theorem back_common (z : Iv) : z.back.common = z.common := by
  unfold Iv.common Iv.back
  simp only [Int.natAbs_neg]
theorem back_low (z : Iv) : z.back.low = z.low.back := by
  have e := back_common z
  obtain ⟨_, h1, h2, h3, h4⟩ := common_dvd z
  unfold Iv.low
  rw [e]
  unfold Iv.back
  dsimp only
  rw [Int.neg_ediv_of_dvd h1, Int.neg_ediv_of_dvd h2, Int.neg_ediv_of_dvd h3, Int.neg_ediv_of_dvd h4]
theorem below_low {z : Iv} (h : 1 ≤ z.d) : z.below = z.low.below ^ z.common := by
  unfold Iv.below
  rw [above_low (z := z.back) h, back_common, back_low]
theorem down_low {z : Iv} (h : 1 ≤ z.d) : z.low.down = z.down := by
  unfold Iv.down
  have hg := common_pos h
  rw [above_low h, below_low h]
  by_cases q : z.low.above < z.low.below
  · rw [decide_eq_true q, decide_eq_true (Nat.pow_lt_pow_left q (by omega))]
  · rw [decide_eq_false q, decide_eq_false]
    exact Nat.not_lt.mpr (Nat.pow_le_pow_left (Nat.not_lt.mp q) _)
/-- what Python multiplies -/
def pwr (x y : Iv) : Iv := ⟨x.a * (y.d : Int) - y.a * (x.d : Int), x.b * (y.d : Int) - y.b * (x.d : Int), x.c * (y.d : Int) - y.c * (x.d : Int), x.e * (y.d : Int) - y.e * (x.d : Int), x.d * y.d⟩
theorem wider_eq {x y : Iv} (hx : 1 ≤ x.d) (hy : 1 ≤ y.d) : y.lt x = decide ((pwr x y).below < (pwr x y).above) := by
  unfold Iv.lt Iv.less
  rw [plus_eq, down_low (z := sumIv y x.back) (sum_d hy hx)]
  have e : sumIv y x.back = ({ (pwr x y).back with d := y.d * x.d } : Iv) := by
    unfold sumIv pwr Iv.back
    dsimp only
    congr 1
    all_goals (rw [Int.neg_sub, Int.neg_mul, Int.sub_eq_add_neg])
  unfold Iv.down
  have a1 : (sumIv y x.back).above = (pwr x y).below := by rw [e]; rfl
  have a2 : (sumIv y x.back).below = (pwr x y).above := by
    rw [e]
    unfold Iv.below Iv.above Iv.back
    dsimp only
    simp only [Int.neg_neg]
  rw [a1, a2]
end GF
namespace GP
open PySem PySem.Spec PyProof.Rows L2 L3
/-! ### the text by places -/
def top (i : Nat) : Stmt := PySem.Challenge.pw_gutfrets_s10_tie.main.body.getD i (.Pass ⟨0, 0, 0, 0⟩)
abbrev s_unison : Stmt := top 4
abbrev s_common_factor : Stmt := top 5
abbrev s_is_interval : Stmt := top 6
abbrev s_upon : Stmt := top 7
abbrev s_raised : Stmt := top 8
abbrev s_ratio_of : Stmt := top 9
abbrev s_is_wider : Stmt := top 10
abbrev s_Instrument_init : Stmt := inClass (top 12) 0
abbrev s_count_strings : Stmt := top 13
abbrev s_is_instrument : Stmt := top 14
abbrev s_sounds_with_each : Stmt := top 15
abbrev s_has_fret : Stmt := top 16
abbrev s_TextFault_init : Stmt := inClass (top 23) 0
abbrev s_Reader_init : Stmt := inClass (top 24) 0
abbrev s_Reader_peek : Stmt := inClass (top 24) 1
abbrev s_Reader_step : Stmt := inClass (top 24) 2
abbrev s_is_digit : Stmt := top 25
abbrev s_expect : Stmt := top 26
abbrev s_read_number : Stmt := top 27
abbrev s_read_interval : Stmt := top 33
abbrev s_is_behind : Stmt := top 34
abbrev s_read_factors : Stmt := top 35
abbrev s_read_prime : Stmt := top 36
abbrev s_read_power : Stmt := top 37
abbrev s_read_whole : Stmt := top 38
abbrev s_factor_of : Stmt := top 39
abbrev s_write_interval : Stmt := top 40
abbrev s_write_factor : Stmt := top 41
abbrev s_read_instrument : Stmt := top 48
abbrev s_read_length : Stmt := top 49
abbrev s_read_line : Stmt := top 50
abbrev s_read_word : Stmt := top 51
abbrev s_read_fret : Stmt := top 52
abbrev s_read_course : Stmt := top 53
abbrev s_read_bass : Stmt := top 54
abbrev s_write_instrument : Stmt := top 55
abbrev s_write_lines : Stmt := top 56
abbrev s_Refusal_init : Stmt := inClass (top 58) 0
abbrev s_TextTooLong_init : Stmt := inClass (top 59) 0
abbrev s_NoInstrument_init : Stmt := inClass (top 60) 0
abbrev s_OutOfBounds_init : Stmt := inClass (top 61) 0
abbrev s_NoPlace_init : Stmt := inClass (top 62) 0
abbrev s_NoneComes_init : Stmt := inClass (top 63) 0
abbrev s_instrument_of : Stmt := top 66
abbrev s_text_of : Stmt := top 67
abbrev s_check_interval : Stmt := top 68
abbrev s_check_tied_fret : Stmt := top 69
abbrev s_copied : Stmt := top 71
abbrev s_tie_fret : Stmt := top 72
abbrev s_tie : Stmt := top 74
/-- a def of the text, and how its arguments bind -/
def Dfn (K : PySem.W.Frag) (x qual : Str) (st : Stmt) (ps : List Str) (f : Addr) : Prop := ∃ fd, Fun K x qual st f fd ∧ Binds K fd ps []
/-! ### the addresses -/
structure Ad where
  o_PRIMES : Addr
  unison : Addr
  common_factor : Addr
  is_interval : Addr
  upon : Addr
  raised : Addr
  ratio_of : Addr
  is_wider : Addr
  c_Instrument : Addr
  Instrument_init : Addr
  count_strings : Addr
  is_instrument : Addr
  sounds_with_each : Addr
  has_fret : Addr
  c_TextFault : Addr
  TextFault_init : Addr
  c_Reader : Addr
  Reader_init : Addr
  Reader_peek : Addr
  Reader_step : Addr
  is_digit : Addr
  expect : Addr
  read_number : Addr
  read_interval : Addr
  is_behind : Addr
  read_factors : Addr
  read_prime : Addr
  read_power : Addr
  read_whole : Addr
  factor_of : Addr
  write_interval : Addr
  write_factor : Addr
  read_instrument : Addr
  read_length : Addr
  read_line : Addr
  read_word : Addr
  read_fret : Addr
  read_course : Addr
  read_bass : Addr
  write_instrument : Addr
  write_lines : Addr
  c_Refusal : Addr
  Refusal_init : Addr
  c_TextTooLong : Addr
  TextTooLong_init : Addr
  c_NoInstrument : Addr
  NoInstrument_init : Addr
  c_OutOfBounds : Addr
  OutOfBounds_init : Addr
  c_NoPlace : Addr
  NoPlace_init : Addr
  c_NoneComes : Addr
  NoneComes_init : Addr
  instrument_of : Addr
  text_of : Addr
  check_interval : Addr
  check_tied_fret : Addr
  copied : Addr
  tie_fret : Addr
  tie : Addr
/-! ### what the top has made -/
structure Txt (K : PySem.W.Frag) (mg : Str → Option Value) (a : Ad) : Prop where
  g_PRIMES : mg "PRIMES" = some (.ref a.o_PRIMES)
  ty_PRIMES : ∃ o, K.lookup a.o_PRIMES = some o ∧ o.cls = .type "tuple" ∧ o.dict = none
  t_PRIMES : ∀ H, SqT K H a.o_PRIMES ([2, 3, 5, 7].map V.int)
  c_MOST_POWER : ∃ t, mg "MOST_POWER" = some (.int 99 t)
  c_MOST_DIVISOR : ∃ t, mg "MOST_DIVISOR" = some (.int 24 t)
  d_unison : Dfn K "unison" "unison" s_unison [] a.unison
  g_unison : mg "unison" = some (.ref a.unison)
  d_common_factor : Dfn K "common_factor" "common_factor" s_common_factor ["numbers"] a.common_factor
  g_common_factor : mg "common_factor" = some (.ref a.common_factor)
  d_is_interval : Dfn K "is_interval" "is_interval" s_is_interval ["x"] a.is_interval
  g_is_interval : mg "is_interval" = some (.ref a.is_interval)
  d_upon : Dfn K "upon" "upon" s_upon ["x", "y"] a.upon
  g_upon : mg "upon" = some (.ref a.upon)
  d_raised : Dfn K "raised" "raised" s_raised ["base", "power"] a.raised
  g_raised : mg "raised" = some (.ref a.raised)
  d_ratio_of : Dfn K "ratio_of" "ratio_of" s_ratio_of ["powers"] a.ratio_of
  g_ratio_of : mg "ratio_of" = some (.ref a.ratio_of)
  d_is_wider : Dfn K "is_wider" "is_wider" s_is_wider ["x", "y"] a.is_wider
  g_is_wider : mg "is_wider" = some (.ref a.is_wider)
  g_Instrument : mg "Instrument" = some (.ref a.c_Instrument)
  d_Instrument_init : Dfn K "__init__" "Instrument.__init__" s_Instrument_init ["self", "length"] a.Instrument_init
  cl_Instrument : Cls K a.c_Instrument
  mk_Instrument : Mk K a.c_Instrument a.Instrument_init
  n_Instrument_length : NoAttr K a.c_Instrument "length"
  n_Instrument_frets : NoAttr K a.c_Instrument "frets"
  n_Instrument_courses : NoAttr K a.c_Instrument "courses"
  n_Instrument_basses : NoAttr K a.c_Instrument "basses"
  d_count_strings : Dfn K "count_strings" "count_strings" s_count_strings ["instrument"] a.count_strings
  g_count_strings : mg "count_strings" = some (.ref a.count_strings)
  d_is_instrument : Dfn K "is_instrument" "is_instrument" s_is_instrument ["instrument"] a.is_instrument
  g_is_instrument : mg "is_instrument" = some (.ref a.is_instrument)
  d_sounds_with_each : Dfn K "sounds_with_each" "sounds_with_each" s_sounds_with_each ["x", "frets"] a.sounds_with_each
  g_sounds_with_each : mg "sounds_with_each" = some (.ref a.sounds_with_each)
  d_has_fret : Dfn K "has_fret" "has_fret" s_has_fret ["instrument", "f"] a.has_fret
  g_has_fret : mg "has_fret" = some (.ref a.has_fret)
  c_LINE_END : ∃ t, mg "LINE_END" = some (.int 10 t)
  c_ZERO : ∃ t, mg "ZERO" = some (.int 48 t)
  c_ONE : ∃ t, mg "ONE" = some (.int 49 t)
  c_NINE : ∃ t, mg "NINE" = some (.int 57 t)
  c_NO_BYTE : ∃ t, mg "NO_BYTE" = some (.int 256 t)
  g_TextFault : mg "TextFault" = some (.ref a.c_TextFault)
  d_TextFault_init : Dfn K "__init__" "TextFault.__init__" s_TextFault_init ["self", "place"] a.TextFault_init
  x_TextFault : XC K a.c_TextFault [] a.TextFault_init
  n_TextFault_place : NoA K a.c_TextFault "place"
  g_Reader : mg "Reader" = some (.ref a.c_Reader)
  d_Reader_init : Dfn K "__init__" "Reader.__init__" s_Reader_init ["self", "t"] a.Reader_init
  d_Reader_peek : Dfn K "peek" "Reader.peek" s_Reader_peek ["self"] a.Reader_peek
  m_Reader_peek : Meth K a.c_Reader "peek" a.Reader_peek
  d_Reader_step : Dfn K "step" "Reader.step" s_Reader_step ["self"] a.Reader_step
  m_Reader_step : Meth K a.c_Reader "step" a.Reader_step
  cl_Reader : Cls K a.c_Reader
  mk_Reader : Mk K a.c_Reader a.Reader_init
  n_Reader_t : NoAttr K a.c_Reader "t"
  n_Reader_place : NoAttr K a.c_Reader "place"
  d_is_digit : Dfn K "is_digit" "is_digit" s_is_digit ["byte"] a.is_digit
  g_is_digit : mg "is_digit" = some (.ref a.is_digit)
  d_expect : Dfn K "expect" "expect" s_expect ["reader", "word"] a.expect
  g_expect : mg "expect" = some (.ref a.expect)
  d_read_number : Dfn K "read_number" "read_number" s_read_number ["reader", "lowest", "most_digits"] a.read_number
  g_read_number : mg "read_number" = some (.ref a.read_number)
  c_CARET : ∃ t, mg "CARET" = some (.int 94 t)
  c_MINUS : ∃ t, mg "MINUS" = some (.int 45 t)
  c_SLASH : ∃ t, mg "SLASH" = some (.int 47 t)
  c_MOST_DIGITS : ∃ t, mg "MOST_DIGITS" = some (.int 4 t)
  d_read_interval : Dfn K "read_interval" "read_interval" s_read_interval ["reader"] a.read_interval
  g_read_interval : mg "read_interval" = some (.ref a.read_interval)
  d_is_behind : Dfn K "is_behind" "is_behind" s_is_behind ["reader"] a.is_behind
  g_is_behind : mg "is_behind" = some (.ref a.is_behind)
  d_read_factors : Dfn K "read_factors" "read_factors" s_read_factors ["reader"] a.read_factors
  g_read_factors : mg "read_factors" = some (.ref a.read_factors)
  d_read_prime : Dfn K "read_prime" "read_prime" s_read_prime ["reader"] a.read_prime
  g_read_prime : mg "read_prime" = some (.ref a.read_prime)
  d_read_power : Dfn K "read_power" "read_power" s_read_power ["reader", "start", "position"] a.read_power
  g_read_power : mg "read_power" = some (.ref a.read_power)
  d_read_whole : Dfn K "read_whole" "read_whole" s_read_whole ["reader"] a.read_whole
  g_read_whole : mg "read_whole" = some (.ref a.read_whole)
  d_factor_of : Dfn K "factor_of" "factor_of" s_factor_of ["position", "n", "d"] a.factor_of
  g_factor_of : mg "factor_of" = some (.ref a.factor_of)
  d_write_interval : Dfn K "write_interval" "write_interval" s_write_interval ["x"] a.write_interval
  g_write_interval : mg "write_interval" = some (.ref a.write_interval)
  d_write_factor : Dfn K "write_factor" "write_factor" s_write_factor ["prime", "n", "d"] a.write_factor
  g_write_factor : mg "write_factor" = some (.ref a.write_factor)
  c_LEAST_LENGTH : ∃ t, mg "LEAST_LENGTH" = some (.int 10000 t)
  c_MOST_LENGTH : ∃ t, mg "MOST_LENGTH" = some (.int 200000 t)
  c_MOST_LENGTH_DIGITS : ∃ t, mg "MOST_LENGTH_DIGITS" = some (.int 7 t)
  c_MOST_FRETS : ∃ t, mg "MOST_FRETS" = some (.int 15 t)
  c_MOST_STRINGS : ∃ t, mg "MOST_STRINGS" = some (.int 14 t)
  d_read_instrument : Dfn K "read_instrument" "read_instrument" s_read_instrument ["t"] a.read_instrument
  g_read_instrument : mg "read_instrument" = some (.ref a.read_instrument)
  d_read_length : Dfn K "read_length" "read_length" s_read_length ["reader"] a.read_length
  g_read_length : mg "read_length" = some (.ref a.read_length)
  d_read_line : Dfn K "read_line" "read_line" s_read_line ["reader", "instrument"] a.read_line
  g_read_line : mg "read_line" = some (.ref a.read_line)
  d_read_word : Dfn K "read_word" "read_word" s_read_word ["reader", "word", "is_one_too_many"] a.read_word
  g_read_word : mg "read_word" = some (.ref a.read_word)
  d_read_fret : Dfn K "read_fret" "read_fret" s_read_fret ["reader", "instrument"] a.read_fret
  g_read_fret : mg "read_fret" = some (.ref a.read_fret)
  d_read_course : Dfn K "read_course" "read_course" s_read_course ["reader", "instrument"] a.read_course
  g_read_course : mg "read_course" = some (.ref a.read_course)
  d_read_bass : Dfn K "read_bass" "read_bass" s_read_bass ["reader", "instrument"] a.read_bass
  g_read_bass : mg "read_bass" = some (.ref a.read_bass)
  d_write_instrument : Dfn K "write_instrument" "write_instrument" s_write_instrument ["instrument"] a.write_instrument
  g_write_instrument : mg "write_instrument" = some (.ref a.write_instrument)
  d_write_lines : Dfn K "write_lines" "write_lines" s_write_lines ["word", "intervals"] a.write_lines
  g_write_lines : mg "write_lines" = some (.ref a.write_lines)
  g_Refusal : mg "Refusal" = some (.ref a.c_Refusal)
  d_Refusal_init : Dfn K "__init__" "Refusal.__init__" s_Refusal_init ["self", "number"] a.Refusal_init
  x_Refusal : XC K a.c_Refusal [] a.Refusal_init
  n_Refusal_number : NoA K a.c_Refusal "number"
  n_Refusal_place : NoA K a.c_Refusal "place"
  cm_Refusal : CM K a.c_Refusal "__init__" a.Refusal_init
  g_TextTooLong : mg "TextTooLong" = some (.ref a.c_TextTooLong)
  d_TextTooLong_init : Dfn K "__init__" "TextTooLong.__init__" s_TextTooLong_init ["self"] a.TextTooLong_init
  x_TextTooLong : XC K a.c_TextTooLong [a.c_Refusal] a.TextTooLong_init
  n_TextTooLong_number : NoA K a.c_TextTooLong "number"
  n_TextTooLong_place : NoA K a.c_TextTooLong "place"
  g_NoInstrument : mg "NoInstrument" = some (.ref a.c_NoInstrument)
  d_NoInstrument_init : Dfn K "__init__" "NoInstrument.__init__" s_NoInstrument_init ["self", "place"] a.NoInstrument_init
  x_NoInstrument : XC K a.c_NoInstrument [a.c_Refusal] a.NoInstrument_init
  n_NoInstrument_number : NoA K a.c_NoInstrument "number"
  n_NoInstrument_place : NoA K a.c_NoInstrument "place"
  g_OutOfBounds : mg "OutOfBounds" = some (.ref a.c_OutOfBounds)
  d_OutOfBounds_init : Dfn K "__init__" "OutOfBounds.__init__" s_OutOfBounds_init ["self"] a.OutOfBounds_init
  x_OutOfBounds : XC K a.c_OutOfBounds [a.c_Refusal] a.OutOfBounds_init
  n_OutOfBounds_number : NoA K a.c_OutOfBounds "number"
  n_OutOfBounds_place : NoA K a.c_OutOfBounds "place"
  g_NoPlace : mg "NoPlace" = some (.ref a.c_NoPlace)
  d_NoPlace_init : Dfn K "__init__" "NoPlace.__init__" s_NoPlace_init ["self"] a.NoPlace_init
  x_NoPlace : XC K a.c_NoPlace [a.c_Refusal] a.NoPlace_init
  n_NoPlace_number : NoA K a.c_NoPlace "number"
  n_NoPlace_place : NoA K a.c_NoPlace "place"
  g_NoneComes : mg "NoneComes" = some (.ref a.c_NoneComes)
  d_NoneComes_init : Dfn K "__init__" "NoneComes.__init__" s_NoneComes_init ["self"] a.NoneComes_init
  x_NoneComes : XC K a.c_NoneComes [a.c_Refusal] a.NoneComes_init
  n_NoneComes_number : NoA K a.c_NoneComes "number"
  n_NoneComes_place : NoA K a.c_NoneComes "place"
  c_MOST_BYTES : ∃ t, mg "MOST_BYTES" = some (.int 4096 t)
  d_instrument_of : Dfn K "instrument_of" "instrument_of" s_instrument_of ["t"] a.instrument_of
  g_instrument_of : mg "instrument_of" = some (.ref a.instrument_of)
  d_text_of : Dfn K "text_of" "text_of" s_text_of ["instrument"] a.text_of
  g_text_of : mg "text_of" = some (.ref a.text_of)
  d_check_interval : Dfn K "check_interval" "check_interval" s_check_interval ["x"] a.check_interval
  g_check_interval : mg "check_interval" = some (.ref a.check_interval)
  d_check_tied_fret : Dfn K "check_tied_fret" "check_tied_fret" s_check_tied_fret ["instrument", "f"] a.check_tied_fret
  g_check_tied_fret : mg "check_tied_fret" = some (.ref a.check_tied_fret)
  d_copied : Dfn K "copied" "copied" s_copied ["instrument"] a.copied
  g_copied : mg "copied" = some (.ref a.copied)
  d_tie_fret : Dfn K "tie_fret" "tie_fret" s_tie_fret ["instrument", "f", "x"] a.tie_fret
  g_tie_fret : mg "tie_fret" = some (.ref a.tie_fret)
  d_tie : Dfn K "tie" "tie" s_tie ["f", "t", "x"] a.tie
  g_tie : mg "tie" = some (.ref a.tie)
  x_ne : [a.c_TextFault, a.c_Refusal, a.c_TextTooLong, a.c_NoInstrument, a.c_OutOfBounds, a.c_NoPlace, a.c_NoneComes].Nodup
  b_len : mg "len" = none
  b_abs : mg "abs" = none
  b_ord : mg "ord" = none
  b_range : mg "range" = none
end GP
namespace GP
open PySem PySem.Spec PyProof.Rows L2 L3

/-! ### promises by name -/
structure Prm (P : Program) (w : World) (K : PySem.W.Frag) (mg : Str → Option Value) (base : Heap) (CX : CXT) (k : Nat) (f : Addr) (ps : List Str) (sp : Sp) : Prop where
  fn : ∃ fd, FnOk P w K mg base CX k f fd ps sp ∧ Binds K fd ps []
  kp : PySem.W.keepIn K (.ref f) = true
structure PrmH (P : Program) (w : World) (K : PySem.W.Frag) (mg : Str → Option Value) (base : Heap) (k : Nat) (f : Addr) (ps : List Str) (sp : Sp) : Prop where
  fn : ∃ fd, FnH P w K mg base k f fd ps sp ∧ Binds K fd ps []
  kp : PySem.W.keepIn K (.ref f) = true
section
variable {P : Program} {w : World} {K : PySem.W.Frag} {mg : Str → Option Value} {base : Heap} {x qual : Str} {st : Stmt} {f : Addr} {N ps : List Str} {k : Nat} {sp : Sp}
/-- a def that raises nothing -/
theorem prm (D : Dfn K x qual st ps f) (S : FnScope N ps (defScope st)) (len : ∀ vs H Q E, sp vs H Q E → vs.length = ps.length)
    (hbody : ∀ (cdv : Value) (A : Around) (outer : List Env) (s : Shared) (H : Hp) (vs : List V) (Q : VK) (E : XK), Room k (A.deeper (envOfC qual (defScope st) s.heap.objs.size f cdv)) → sp vs H Q E →
      ∃ t, PSs (cxOf CX0 P w K mg base N qual (defScope st) f cdv A outer s H E).nox (defBody st) t ∧ t { nx := fun _ H' => Q .non H', rt := Q } (start N vs) H) : Prm P w K mg base CX0 (k + 1) f ps sp := by
  obtain ⟨fd, F, b⟩ := D
  exact ⟨⟨fd, F.ok S len hbody, b⟩, F.kp⟩
theorem prmx {CX : CXT} (D : Dfn K x qual st ps f) (S : FnScope N ps (defScope st)) (len : ∀ vs H Q E, sp vs H Q E → vs.length = ps.length)
    (hbody : ∀ (cdv : Value) (A : Around) (outer : List Env) (s : Shared) (H : Hp) (vs : List V) (Q : VK) (E : XK), Room k (A.deeper (envOfC qual (defScope st) s.heap.objs.size f cdv)) → sp vs H Q E →
      ∃ t, PSs (cxOf CX P w K mg base N qual (defScope st) f cdv A outer s H E) (defBody st) t ∧ t { nx := fun _ H' => Q .non H', rt := Q } (start N vs) H) : Prm P w K mg base CX (k + 1) f ps sp := by
  obtain ⟨fd, F, b⟩ := D
  exact ⟨⟨fd, okx F S len hbody, b⟩, F.kp⟩
theorem prmH (D : Dfn K x qual st ps f) (S : FnScope N ps (defScope st)) (len : ∀ vs H Q E, sp vs H Q E → vs.length = ps.length)
    (hbody : ∀ (cdv : Value) (A : Around) (outer : List Env) (s : Shared) (H : Hp) (vs : List V) (Q : VK) (E : XK), RoomH k (A.deeper (envOfC qual (defScope st) s.heap.objs.size f cdv)) → sp vs H Q E →
      ∃ t, PSs (cxH P w K mg base N qual (defScope st) f cdv A outer s H) (defBody st) t ∧ t { nx := fun _ H' => Q .non H', rt := Q } (start N vs) H) : PrmH P w K mg base (k + 1) f ps sp := by
  obtain ⟨fd, F, b⟩ := D
  exact ⟨⟨fd, okH F S len hbody, b⟩, F.kp⟩
end
section
variable {X : Cx} {CX : CXT} {k : Nat} {f C : Addr} {ps : List Str} {sp : Sp} {E : XK} {x m : Str} {p pos apos : Pos} {e o : Expr} {es : List Expr} {ta : TE} {t : TA} {i : Int}
theorem pcall (G : Prm X.prog X.w X.K X.mg X.base CX k f ps sp) (hr : Room k X.A) (hm : X.mg x = some (.ref f)) (hx : Passes CX X E) (ha : PA X (e :: es) t) (hg : Gl X x := by rfl) (hdb : (x == ("__debug__" : Str)) = false := by decide)
    (he : starEach (e :: es) X.env = (false, eval e X.env) :: starEach es X.env := by rfl) (hpl : (backTo pos (starEach es X.env)).any (·.1) = false := by rfl) : PE X (.Call (.Name x p) (e :: es) [] pos) (tCall sp [] E t) :=
  let ⟨⟨_, F, b⟩, kp⟩ := G
  pe_call F hr hg hm kp b .nil hx ha hdb he hpl
theorem pcall0 (G : Prm X.prog X.w X.K X.mg X.base CX k f ps sp) (hr : Room k X.A) (hm : X.mg x = some (.ref f)) (hx : Passes CX X E) (hg : Gl X x := by rfl) (hdb : (x == ("__debug__" : Str)) = false := by decide) :
    PE X (.Call (.Name x p) [] [] pos) (tCall sp [] E tNil) :=
  let ⟨⟨_, F, b⟩, kp⟩ := G
  pe_call0 F hr hg hm kp b .nil hx hdb
theorem pmeth0 {pl : Sem Bool} (he : PE X o ta) (c : Cls X.K C) (hm : Meth X.K C m f) (G : Prm X.prog X.w X.K X.mg X.base CX k f ps sp) (hr : Room k X.A) (hx : Passes CX X E)
    (ht : eval (.Call (.Attribute o m apos) [] [] pos) X.env = (do
      let ov ← eval o X.env
      standAt apos.atName
      let (f, first) ← holding [ov] (getMethod ov m pl)
      callWith pos f first (backTo pos (starEach [] X.env)) (backToKw pos (keywordEach [] X.env))) := by rfl) : PE X (.Call (.Attribute o m apos) [] [] pos) (tMeth C m sp [] E ta tNil) :=
  let ⟨⟨_, F, b⟩, _⟩ := G
  pe_meth0 he c hm F hr b .nil hx ht
theorem pmake (M : Mk X.K C f) (G : Prm X.prog X.w X.K X.mg X.base CX k f ps sp) (hr : Room (k + 1) X.A) (hm : X.mg x = some (.ref C)) (hx : Passes CX X E) (ha : PA X (e :: es) t) (hg : Gl X x := by rfl) (hdb : (x == ("__debug__" : Str)) = false := by decide)
    (he : starEach (e :: es) X.env = (false, eval e X.env) :: starEach es X.env := by rfl) (hpl : (backTo pos (starEach es X.env)).any (·.1) = false := by rfl) : PE X (.Call (.Name x p) (e :: es) [] pos) (tMake C sp [] E t) :=
  let ⟨⟨_, F, b⟩, _⟩ := G
  pe_make M F hr hg hm b .nil hx ha hdb he hpl
/-- a number of the module -/
theorem pgi (h : ∃ t, X.mg x = some (.int i t)) (hg : Gl X x := by rfl) (hd : (x == ("__debug__" : Str)) = false := by decide) : PE X (.Name x pos) (tC (.int i)) :=
  let ⟨t, hm⟩ := h
  pe_glob hg hm ⟨t, rfl⟩ hd
theorem pgr (h : X.mg x = some (.ref C)) (hg : Gl X x := by rfl) (hd : (x == ("__debug__" : Str)) = false := by decide) : PE X (.Name x pos) (tC (.ref C)) := pe_glob hg h rfl hd
end

/-! ### tests -/
theorem ifT {c : Bool} {A B : Prop} (h : c = true) (x : A) : if c = true then A else B := by
  rw [if_pos h]
  exact x
theorem ifF {c : Bool} {A B : Prop} (h : c = false) (x : B) : if c = true then A else B := by
  rw [h]
  exact iteF x
/-- both ways -/
theorem ifB {c : Bool} {A B : Prop} (h1 : c = true → A) (h2 : c = false → B) : if c = true then A else B := by
  cases c with
  | true => exact iteT (h1 rfl)
  | false => exact iteF (h2 rfl)
theorem neI {i j : Int} (h : i ≠ j) : (!decide (V.int i = V.int j)) = true := by
  simp [h]
theorem eqI {i j : Int} (h : i = j) : (!decide (V.int i = V.int j)) = false := by
  simp [h]

/-! ### a new list is given, all else is as it was -/
def Gives (H : Hp) (zs : List Int) (Q : VK) : Prop := ∀ (H' : Hp) (p : Addr), Same H H' → H p = none → H' p = some (.lst (zs.map V.int)) → Q (.ref p) H'
theorem same_new {H : Hp} {p : Addr} {o : HO} (h : H p = none) : Same H (upd H p o) := fun b u e => by rw [upd_ne (ne_of_none e h)]; exact e
theorem Gives.new {H : Hp} {zs : List Int} {Q : VK} (g : Gives H zs Q) {p : Addr} (h : H p = none) : Q (.ref p) (upd H p (.lst (zs.map V.int))) := g _ p (same_new h) h upd_same
section
variable {P : Program} {w : World} {K : PySem.W.Frag} {mg : Str → Option Value} {base : Heap} {a : Ad}
/-! ### unison -/
def sp_unison : Sp := fun vs H Q _ => vs = [] ∧ Gives H [0, 0, 0, 0, 1] Q
theorem sc_unison : FnScope [] [] (defScope s_unison) := ⟨rfl, rfl, rfl, by decide +kernel, rfl, by decide +kernel, by decide +kernel⟩
theorem ok_unison (T : Txt K mg a) : Prm P w K mg base CX0 1 a.unison [] sp_unison := by
  refine prm T.d_unison sc_unison (fun vs H Q E h => by rw [h.1]; rfl) (fun cdv A outer s H vs Q E hr h => ?_)
  obtain ⟨rfl, k⟩ := h
  refine ⟨_, pss_one (ps_ret (pe_lst (pa_cons pe_int (pa_cons pe_int (pa_cons pe_int (pa_cons pe_int (pa_cons pe_int pa_nil))))))), ?_⟩
  exact ⟨by show 5 ≤ sizeLine; decide, fun p hp => k.new hp⟩
/-! ### common_factor -/
def sp_common_factor (K : PySem.W.Frag) : Sp := fun vs H Q _ => ∃ p ns, vs = [.ref p] ∧ SqL K H p (ns.map V.int) ∧ Q (.int (GF.cf ns : Nat)) H
theorem sc_common_factor : FnScope ["numbers", "factor", "number", "rest", "lesser"] ["numbers"] (defScope s_common_factor) := ⟨rfl, rfl, rfl, by decide +kernel, rfl, by decide +kernel, by decide +kernel⟩
theorem cf_take {ns : List Int} {i : Nat} {z : Int} (h : ns[i]? = some z) : GF.cf (ns.take (i + 1)) = Nat.gcd (GF.cf (ns.take i)) z.natAbs := by
  obtain ⟨hi, e⟩ := List.getElem?_eq_some_iff.mp h
  rw [List.take_add_one, h]
  unfold GF.cf
  rw [List.foldl_append]
  rfl
theorem ok_common_factor (T : Txt K mg a) : Prm P w K mg base CX0 1 a.common_factor ["numbers"] (sp_common_factor K) := by
  refine prm T.d_common_factor sc_common_factor (fun vs H Q E h => by obtain ⟨p, ns, rfl, _⟩ := h; rfl) (fun cdv A outer s H vs Q E hr h => ?_)
  obtain ⟨p, ns, rfl, hp, k⟩ := h
  have nd := sc_common_factor.nd
  refine ⟨_, pss_cons (ps_set (i := 1) nd rfl (Or.inl rfl) pe_int)
    (pss_cons (ps_for PassesOwn.never rfl (pi_list (pv 0)) (pg_name (i := 2) nd rfl (Or.inl rfl))
      (pss_cons (ps_set (i := 3) nd rfl (Or.inl rfl) (pe_callB call_abs (by rfl) T.b_abs PyProof.Rows.boot_abs (pa_cons (pv 2) pa_nil)))
      (pss_one (ps_while PassesOwn.never (pt_cmpR op_ne (pv 3) pe_int (nomark _))
        (pss_cons (ps_set (i := 4) nd rfl (Or.inl rfl) (pe_op op_mod (pv 1) (pv 3)))
        (pss_cons (ps_set (i := 1) nd rfl (Or.inl rfl) (pv 3))
        (pss_one (ps_set (i := 3) nd rfl (Or.inl rfl) (pv 4)))))))))
    (pss_one (ps_ret (pv 1)))), ?_⟩
  refine ⟨_, rfl, p, rfl, ⟨_, hp⟩, for_list (K := K) (a := p) (xs := ns.map V.int) (fun i σ H' => ∃ v2 v3 v4, σ = [some (.ref p), some (.int (GF.cf (ns.take i) : Nat)), v2, v3, v4] ∧ H' = H)
    ⟨none, none, none, rfl, rfl⟩ (fun i σ H' _ ⟨_, _, _, _, e⟩ => by rw [e]; exact hp) ?_ ?_⟩
  · rintro i y σ H' hi ⟨v2, v3, v4, rfl, rfl⟩
    obtain ⟨z, hz, rfl⟩ : ∃ z, ns[i]? = some z ∧ y = V.int z := by
      rw [List.getElem?_map] at hi
      cases e : ns[i]? with
      | none => rw [e] at hi; cases hi
      | some z => rw [e] at hi; exact ⟨z, rfl, (Option.some.inj hi).symm⟩
    refine ⟨_, rfl, z, rfl, ?_⟩
    -- while rest != 0
    refine ⟨fun m σ H2 => ∃ (g r : Nat) (v4 : Option V), σ = [some (.ref p), some (.int g), some (.int z), some (.int r), v4] ∧ H2 = H' ∧ Nat.gcd g r = GF.cf (ns.take (i + 1)) ∧ m = r, ⟨_, GF.cf (ns.take i), z.natAbs, v4, ?_, rfl, ?_, rfl⟩, ?_⟩
    · have ez : (if z < 0 then -z else z) = ((z.natAbs : Nat) : Int) := by
        split <;> omega
      show [some (V.ref p), some (V.int (GF.cf (ns.take i) : Nat)), some (V.int z), some (V.int (if z < 0 then -z else z)), v4] = _
      rw [ez]
    · exact (cf_take hz).symm
    · rintro m σ H2 ⟨g, r, v4, rfl, rfl, hg, rfl⟩
      refine ⟨_, rfl, rfl, _, rfl, ?_⟩
      by_cases hr0 : m = 0
      · subst hr0
        rw [Nat.gcd_zero_right] at hg
        exact ifF (eqI rfl) ⟨_, _, _, by rw [← hg], rfl⟩
      · refine ifT (neI (by omega)) ?_
        refine ⟨fun σ' H' => ∃ (g r : Nat) (v4 : Option V), σ' = [some (.ref p), some (.int g), some (.int z), some (.int r), v4] ∧ H' = H2 ∧ Nat.gcd g r = GF.cf (ns.take (i + 1)) ∧ r < m,
          fun σ' H' ⟨g, r, v4, e1, e2, e3, e4⟩ => ⟨r, e4, g, r, v4, e1, e2, e3, rfl⟩, ?_⟩
        refine ⟨_, rfl, _, rfl, _, _, rfl, rfl, (by show (0 : Int) < m; omega), _, rfl, _, rfl, m, g % m, some (.int ((g : Int) % m)), ?_, rfl, ?_, Nat.mod_lt _ (by omega)⟩
        · rw [show ((g % m : Nat) : Int) = (g : Int) % m from by omega]
          rfl
        · rw [← hg, Nat.gcd_comm g m, Nat.gcd_rec m g, Nat.gcd_comm]
  · rintro σ H' ⟨v2, v3, v4, rfl, rfl⟩
    rw [List.take_of_length_le (by rw [List.length_map]; exact Nat.le_refl _)]
    exact ⟨_, rfl, k⟩
end
end GP
namespace GP
open PySem PySem.Spec PyProof.Rows L2 L3
/-! ### the reader -/
def rfs (t : Addr) (p : Nat) : List (Str × V) := putF "place" (.int (p : Int)) (putF "t" (.ref t) [])
theorem tp : ¬ (("t" : Str) = "place") := by decide +kernel
theorem rfs_eq (t : Addr) (p : Nat) : rfs t p = ([("t", V.ref t), ("place", V.int (p : Int))] : List (Str × V)) := by
  show (if ("t" : Str) = "place" then [(("t" : Str), V.int (p : Int))] else (("t" : Str), V.ref t) :: putF "place" (V.int (p : Int)) []) = ([("t", V.ref t), ("place", V.int (p : Int))] : List (Str × V))
  rw [if_neg tp]
  rfl
theorem rfs_t (t : Addr) (p : Nat) : (rfs t p).lookup ("t" : Str) = some (.ref t) := by
  unfold rfs
  rw [lookup_putF, if_neg tp, lookup_putF, if_pos rfl]
theorem rfs_place (t : Addr) (p : Nat) : (rfs t p).lookup ("place" : Str) = some (.int (p : Int)) := by
  unfold rfs
  rw [lookup_putF, if_pos rfl]
theorem rfs_no (t : Addr) (p : Nat) {m : Str} (h1 : ¬ m = "place") (h2 : ¬ m = "t") : (rfs t p).lookup m = none := by
  unfold rfs
  rw [lookup_putF, if_neg h1, lookup_putF, if_neg h2]
  rfl
theorem rfs_put (t : Addr) (p : Nat) (q : Nat) : putF "place" (.int (q : Int)) (rfs t p) = rfs t q := by
  rw [rfs_eq, rfs_eq]
  show (if ("t" : Str) = "place" then _ else (("t" : Str), V.ref t) :: (if ("place" : Str) = "place" then [(("place" : Str), V.int (q : Int))] else _)) = ([("t", V.ref t), ("place", V.int (q : Int))] : List (Str × V))
  rw [if_neg tp, if_pos rfl]
abbrev byV (t : Lute.Bytes) : List V := t.map fun c => V.int (c.toNat : Int)
/-- a list that was handed in: known to the object, or the module's -/
def SqF (K : PySem.W.Frag) (H : Hp) (b : Addr) (xs : List V) : Prop :=
  (∃ o, H b = some (.frz o (.lst xs))) ∨ ∃ (o : Obj) (its : Array Value) (n : Nat), K.lookup b = some o ∧ o.cls = .type "list" ∧ o.dict = none ∧ o.data = .seq its n ∧ its.size ≤ sizeLine ∧ Vals xs its.toList
theorem SqF.sq {K : PySem.W.Frag} {H : Hp} {b : Addr} {xs : List V} (h : SqF K H b xs) : SqL K H b xs := by
  rcases h with ⟨o, h⟩ | h
  · exact .inl (.inr ⟨o, h⟩)
  · exact .inr h
theorem SqF.same {K : PySem.W.Frag} {H H' : Hp} {b : Addr} {xs : List V} (h : SqF K H b xs) (S : Same H H') : SqF K H' b xs := by
  rcases h with ⟨o, h⟩ | h
  · exact .inl ⟨o, S _ _ h⟩
  · exact .inr h
/-- a list that is written elsewhere -/
theorem SqF.upd {K : PySem.W.Frag} {H : Hp} {b l : Addr} {xs ys : List V} {o : HO} (h : SqF K H b xs) (hl : H l = some (.lst ys)) : SqF K (upd H l o) b xs := by
  rcases h with ⟨u, h⟩ | h
  · exact .inl ⟨u, by rw [upd_ne (ne_of h hl (by intro z; cases z))]; exact h⟩
  · exact .inr h
/-- a Reader of the bytes t, at the place p -/
structure RdAt (K : PySem.W.Frag) (C : Addr) (H : Hp) (r b : Addr) (t : Lute.Bytes) (p : Nat) : Prop where
  ob : ∃ dx, H r = some (.ins C dx (rfs b p))
  tx : SqF K H b (byV t)
/-- all is as it was but the reader -/
def Keep (r : Addr) (H H' : Hp) : Prop := ∀ b o, H b = some o → b ≠ r → H' b = some o
theorem Keep.refl (r : Addr) (H : Hp) : Keep r H H := fun _ _ h _ => h
theorem Keep.trans {r : Addr} {H H1 H2 : Hp} (a : Keep r H H1) (b : Keep r H1 H2) : Keep r H H2 := fun c o h n => b c o (a c o h n) n
theorem Same.keep {r : Addr} {H H1 : Hp} (a : Same H H1) : Keep r H H1 := fun c o h _ => a c o h
/-- a list is no object -/
theorem Keep.seq {K : PySem.W.Frag} {C dx r l : Addr} {fs : List (Str × V)} {H H' : Hp} {xs : List V} (k : Keep r H H') (hr : H r = some (.ins C dx fs)) (h : SqL K H l xs) : SqL K H' l xs := by
  rcases h with (h | ⟨o, h⟩) | h
  · exact .inl (.inl (k _ _ h (ne_of h hr (by intro z; cases z))))
  · exact .inl (.inr ⟨o, k _ _ h (ne_of h hr (by intro z; cases z))⟩)
  · exact .inr h
theorem Keep.sqF {K : PySem.W.Frag} {C dx r l : Addr} {fs : List (Str × V)} {H H' : Hp} {xs : List V} (k : Keep r H H') (hr : H r = some (.ins C dx fs)) (h : SqF K H l xs) : SqF K H' l xs := by
  rcases h with ⟨o, h⟩ | h
  · exact .inl ⟨o, k _ _ h (ne_of h hr (by intro z; cases z))⟩
  · exact .inr h
theorem RdAt.same {K : PySem.W.Frag} {C : Addr} {H H' : Hp} {r b : Addr} {t : Lute.Bytes} {p : Nat} (R : RdAt K C H r b t p) (S : Same H H') : RdAt K C H' r b t p :=
  ⟨let ⟨dx, h⟩ := R.ob; ⟨dx, S _ _ h⟩, R.tx.same S⟩
/-- the byte that stands here -/
def pk (l : Lute.Bytes) : Int := match l with
  | [] => 256
  | c :: _ => (c.toNat : Int)
theorem pk_here {t : Lute.Bytes} {p : Nat} {c : UInt8} (h : t[p]? = some c) : pk (t.drop p) = (c.toNat : Int) := by
  obtain ⟨hp, e⟩ := List.getElem?_eq_some_iff.mp h
  rw [List.drop_eq_getElem_cons hp, e]
  rfl
theorem pk_end {t : Lute.Bytes} {p : Nat} (h : t.length ≤ p) : pk (t.drop p) = 256 := by
  rw [List.drop_eq_nil_of_le h]
  rfl
section
variable {P : Program} {w : World} {K : PySem.W.Frag} {mg : Str → Option Value} {base : Heap} {a : Ad}
def sp_Reader_init (K : PySem.W.Frag) (C : Addr) : Sp := fun vs H Q _ => ∃ r dx b t, vs = [.ref r, .ref b] ∧ H r = some (.ins C dx []) ∧ SqF K H b (byV t) ∧ ∀ H', RdAt K C H' r b t 0 → Keep r H H' → Q .non H'
theorem sc_Reader_init : FnScope ["self", "t"] ["self", "t"] (defScope s_Reader_init) := ⟨rfl, rfl, rfl, by decide +kernel, rfl, by decide +kernel, by decide +kernel⟩
theorem ok_Reader_init (T : Txt K mg a) : Prm P w K mg base CX0 1 a.Reader_init ["self", "t"] (sp_Reader_init K a.c_Reader) := by
  refine prm T.d_Reader_init sc_Reader_init (fun vs H Q E h => by obtain ⟨r, dx, b, t, rfl, _⟩ := h; rfl) (fun cdv A outer s H vs Q E hr h => ?_)
  obtain ⟨r, dx, b, t, rfl, h1, hb, k⟩ := h
  refine ⟨_, pss_cons (ps_fld (pv 0) (pv 1) rfl) (pss_one (ps_fld (pv 0) pe_int rfl)), ?_⟩
  refine ⟨_, rfl, _, rfl, r, a.c_Reader, dx, _, rfl, h1, T.cl_Reader, T.n_Reader_t, (by show 0 < 1000; decide), _, rfl, r, a.c_Reader, dx, _, rfl, upd_same, T.cl_Reader, T.n_Reader_place, (by show 1 < 1000; decide), ?_⟩
  rw [upd_upd]
  refine k _ ⟨⟨dx, upd_same⟩, ?_⟩ fun c o e n => by rw [upd_ne n]; exact e
  exact Keep.sqF (fun c o e n => by rw [upd_ne n]; exact e) h1 hb
def sp_peek (K : PySem.W.Frag) (C : Addr) : Sp := fun vs H Q _ => ∃ r b t p, vs = [.ref r] ∧ RdAt K C H r b t p ∧ Q (.int (pk (t.drop p))) H
theorem sc_peek : FnScope ["self"] ["self"] (defScope s_Reader_peek) := ⟨rfl, rfl, rfl, by decide +kernel, rfl, by decide +kernel, by decide +kernel⟩
theorem ok_peek (T : Txt K mg a) : Prm P w K mg base CX0 1 a.Reader_peek ["self"] (sp_peek K a.c_Reader) := by
  refine prm T.d_Reader_peek sc_peek (fun vs H Q E h => by obtain ⟨r, b, t, p, rfl, _⟩ := h; rfl) (fun cdv A outer s H vs Q E hr h => ?_)
  obtain ⟨r, b, t, p, rfl, ⟨⟨dx, ho⟩, ht⟩, k⟩ := h
  refine ⟨_, pss_cons (ps_if (pt_cmpR op_lt (pe_fld (pv 0) rfl) (pe_callB call_len_seq (by rfl) T.b_len PySem.boot_len (pa_cons (pe_fld (pv 0) rfl) pa_nil)) (nomark _)) (pss_one (ps_ret (pe_ix ix_list (pe_fld (pv 0) rfl) (pe_fld (pv 0) rfl) (fun _ _ => rfl)))) pss_nil)
    (pss_one (ps_ret (pgi T.c_NO_BYTE))), ?_⟩
  refine ⟨_, rfl, r, a.c_Reader, dx, _, _, rfl, ho, T.cl_Reader, T.n_Reader_place, rfs_place _ _, _, rfl, r, a.c_Reader, dx, _, _, rfl, ho, T.cl_Reader, T.n_Reader_t, rfs_t _ _, b, _, rfl, .inl ht.sq, _, _, rfl, rfl, _, rfl, ifB (fun hc => ?_) (fun hc => ?_)⟩
  · have hp : p < t.length := by
      have := of_decide_eq_true hc
      rw [List.length_map] at this
      omega
    have e : t[p]? = some t[p] := List.getElem?_eq_getElem hp
    rw [pk_here e] at k
    exact ⟨_, rfl, r, a.c_Reader, dx, _, _, rfl, ho, T.cl_Reader, T.n_Reader_t, rfs_t _ _, _, rfl, r, a.c_Reader, dx, _, _, rfl, ho, T.cl_Reader, T.n_Reader_place, rfs_place _ _, b, _, _, _, rfl, rfl, ht.sq, atI_nat (by rw [List.getElem?_map, e]; rfl), k⟩
  · have hp : t.length ≤ p := by
      have := of_decide_eq_false hc
      rw [List.length_map] at this
      omega
    rw [pk_end hp] at k
    exact k
def sp_step (K : PySem.W.Frag) (C : Addr) : Sp := fun vs H Q _ => ∃ r b t p, vs = [.ref r] ∧ RdAt K C H r b t p ∧ ∀ H', RdAt K C H' r b t (p + 1) → Keep r H H' → Q .non H'
theorem sc_step : FnScope ["self"] ["self"] (defScope s_Reader_step) := ⟨rfl, rfl, rfl, by decide +kernel, rfl, by decide +kernel, by decide +kernel⟩
theorem ok_step (T : Txt K mg a) : Prm P w K mg base CX0 1 a.Reader_step ["self"] (sp_step K a.c_Reader) := by
  refine prm T.d_Reader_step sc_step (fun vs H Q E h => by obtain ⟨r, b, t, p, rfl, _⟩ := h; rfl) (fun cdv A outer s H vs Q E hr h => ?_)
  obtain ⟨r, b, t, p, rfl, ⟨⟨dx, ho⟩, ht⟩, k⟩ := h
  refine ⟨_, pss_one (ps_fld (pv 0) (pe_op op_add (pe_fld (pv 0) rfl) pe_int) rfl), ?_⟩
  refine ⟨_, rfl, r, a.c_Reader, dx, _, _, rfl, ho, T.cl_Reader, T.n_Reader_place, rfs_place _ _, _, _, rfl, rfl, _, rfl, r, a.c_Reader, dx, _, rfl, ho, T.cl_Reader, T.n_Reader_place, (by rw [rfs_eq]; show 2 < 1000; decide), ?_⟩
  have e1 : putF "place" (V.int ((p : Int) + 1)) (rfs b p) = rfs b (p + 1) := rfs_put b p (p + 1)
  have kp : Keep r H (upd H r (.ins a.c_Reader dx (putF "place" (V.int ((p : Int) + 1)) (rfs b p)))) := fun c o e n => by rw [upd_ne n]; exact e
  exact k _ ⟨⟨dx, Eq.trans upd_same (congrArg (fun q => some (HO.ins a.c_Reader dx q)) e1)⟩, kp.sqF ho ht⟩ kp
def sp_is_digit : Sp := fun vs H Q _ => ∃ z : Int, vs = [.int z] ∧ Q (.bl (decide (48 ≤ z) && decide (z ≤ 57))) H
theorem sc_is_digit : FnScope ["byte"] ["byte"] (defScope s_is_digit) := ⟨rfl, rfl, rfl, by decide +kernel, rfl, by decide +kernel, by decide +kernel⟩
theorem ok_is_digit (T : Txt K mg a) : Prm P w K mg base CX0 1 a.is_digit ["byte"] sp_is_digit := by
  refine prm T.d_is_digit sc_is_digit (fun vs H Q E h => by obtain ⟨z, rfl, _⟩ := h; rfl) (fun cdv A outer s H vs Q E hr h => ?_)
  obtain ⟨z, rfl, k⟩ := h
  refine ⟨_, pss_one (ps_ret (pe_and (pe_cmpR op_le (pgi T.c_ZERO) (pv 0) (nomark _)) (pe_one (pe_cmpR op_le (pv 0) (pgi T.c_NINE) (nomark _))))), ?_⟩
  refine ⟨_, rfl, _, _, rfl, rfl, _, rfl, ifB (fun hc => ?_) (fun hc => ?_)⟩
  · rw [hc] at k
    exact ⟨_, rfl, _, _, rfl, rfl, k⟩
  · rw [hc] at k
    exact k
/-! ### a fault -/
def sp_TextFault_init (K : PySem.W.Frag) : Sp := fun vs H Q _ => ∃ C ms fI e t0 v, vs = [.ref e, v] ∧ XC K C ms fI ∧ NoA K C "place" ∧ H e = some (XO C e t0 none) ∧ ∀ dx, H dx = none → dx ≠ e → Q .non (upd (upd H dx (XD dx [("place", v)])) e (XO C e t0 (some dx)))
theorem sc_TextFault_init : FnScope ["self", "place"] ["self", "place"] (defScope s_TextFault_init) := ⟨rfl, rfl, rfl, by decide +kernel, rfl, by decide +kernel, by decide +kernel⟩
theorem ok_TextFault_init (T : Txt K mg a) : PrmH P w K mg base 1 a.TextFault_init ["self", "place"] (sp_TextFault_init K) := by
  refine prmH T.d_TextFault_init sc_TextFault_init (fun vs H Q E h => by obtain ⟨C, ms, fI, e, t0, v, rfl, _⟩ := h; rfl) (fun cdv A outer s H vs Q E hr h => ?_)
  obtain ⟨C, ms, fI, e, t0, v, rfl, xc, na, he, k⟩ := h
  refine ⟨_, pss_one (ps_xfld (pv 0) (pv 1) rfl), ?_⟩
  exact ⟨_, rfl, _, rfl, C, ms, fI, e, t0, none, rfl, xc, na, he, k⟩
/-- what is wanted where a text is at fault -/
def Fails (a : Ad) (E : XK) (p : Int) : Prop := ∀ dx H', H' dx = some (XD dx [("place", .int p)]) → E (.ref a.c_TextFault) (some dx) H'
/-- the class whose exceptions have no context -/
abbrev ZT (a : Ad) : Addr → Prop := fun C => C = a.c_TextFault
theorem ps_imp {X : Cx} {st : Stmt} {t t' : TS} (h : PS X st t) (i : ∀ D σ H, t' D σ H → t D σ H) : PS X st t' := fun pins s σ H D I q => h pins s σ H D I (i D σ H q)
/-- raise TextFault(e) -/
def tFault (a : Ad) (te : TE) (E : XK) : TS := fun _ σ H => te σ H fun v _ => ∃ i, v = .int i ∧ Fails a E i
theorem ps_fault {X : Cx} {E : XK} {e1 : Expr} {te : TE} {p cpos pos : Pos} (T : Txt X.K X.mg a) (hr : RoomH 2 X.A) (wi : Wish X (ZT a) E) (ha : PE X e1 te) (mono : ∀ σ H (Q Q' : VK), (∀ v H1, Q v H1 → Q' v H1) → te σ H Q → te σ H Q') (hh : X.calm = true := by rfl) (hg : Gl X "TextFault" := by rfl)
    (he : starEach [e1] X.env = (false, eval e1 X.env) :: starEach [] X.env := by rfl) (hpl : (backTo cpos (starEach [] X.env)).any (·.1) = false := by rfl) :
    PS X (.Raise (some (.Call (.Name "TextFault" p) [e1] [] cpos)) none pos) (tFault a te E) := by
  obtain ⟨⟨fd, G, b⟩, kp⟩ := ok_TextFault_init (P := X.prog) (w := X.w) (base := X.base) T
  refine ps_imp (ps_raiseX (p := p) (pos := pos) T.x_TextFault G hr hg T.g_TextFault b wi hh (pa_cons ha pa_nil he) (by decide) he hpl) fun D σ H h => ?_
  refine mono _ _ _ _ ?_ h
  rintro v H1 ⟨i, rfl, F⟩
  refine ⟨by show 1 ≤ sizeLine; decide, fun e t0 hn => ?_⟩
  refine ⟨a.c_TextFault, [], a.TextFault_init, e, t0, .int i, rfl, T.x_TextFault, T.n_TextFault_place, upd_same, fun dx hd hne => ⟨rfl, dx, upd_same, F dx _ ?_⟩⟩
  rw [era_ne hne, upd_ne hne, upd_same]
theorem mono_var {i : Nat} : ∀ (σ : L2.St) (H : Hp) (Q Q' : VK), (∀ v H1, Q v H1 → Q' v H1) → tVar i σ H Q → tVar i σ H Q' := fun _ _ _ _ h ⟨v, e, q⟩ => ⟨v, e, h v _ q⟩
theorem mono_fld {K : PySem.W.Frag} {i : Nat} {f : Str} : ∀ (σ : L2.St) (H : Hp) (Q Q' : VK), (∀ v H1, Q v H1 → Q' v H1) → tFld K (tVar i) f σ H Q → tFld K (tVar i) f σ H Q' :=
  fun _ _ _ _ h ⟨v, e, a, C, dx, fs, u, h1, h2, h3, h4, h5, q⟩ => ⟨v, e, a, C, dx, fs, u, h1, h2, h3, h4, h5, h _ _ q⟩
end
end GP
namespace GP
open PySem PySem.Spec PyProof.Rows L2 L3
theorem for_str {x : Str} {g : TG} {tb : TS} {D : Ends} {σ : L2.St} {H : Hp} (Pv : Nat → L2.St → Hp → Prop) (h0 : Pv 0 σ H)
    (hs : ∀ i c σ H, x.cps[i]? = some c → Pv i σ H → g (.str ⟨#[c]⟩) σ H fun σ2 H2 => tb { D with nx := Pv (i + 1), ct := Pv (i + 1), bk := D.nx } σ2 H2) (hd : ∀ σ H, Pv x.cps.size σ H → D.nx σ H) :
    ∃ W : Nat → Nat → L2.St → Hp → Prop, (∃ m, W 0 m σ H) ∧ ∀ i m σ H, W i m σ H →
      ((Its x).stop i H ∧ D.nx σ H) ∨ ((Its x).go i H ∧ ∃ N : L2.St → Hp → Prop, (∀ σ' H', N σ' H' → ∃ m', m' < m ∧ W (i + 1) m' σ' H') ∧ ∀ v H', (Its x).yld i H v H' → g v σ H' fun σ2 H2 => tb { D with nx := N, ct := N, bk := D.nx } σ2 H2) := by
  refine ⟨fun i m σ H => m = x.cps.size - i ∧ i ≤ x.cps.size ∧ Pv i σ H, ⟨x.cps.size, by simp, Nat.zero_le _, h0⟩, ?_⟩
  rintro i m σ H ⟨rfl, hi, p⟩
  by_cases hlt : i < x.cps.size
  · refine .inr ⟨hlt, Pv (i + 1), fun σ' H' p' => ⟨x.cps.size - (i + 1), by omega, rfl, hlt, p'⟩, fun v H' y => ?_⟩
    obtain ⟨e, c, hc, y⟩ := y
    subst e y
    exact hs i c σ _ hc p
  · have e : i = x.cps.size := by omega
    subst e
    exact .inl ⟨Nat.le_refl _, hd σ H p⟩
theorem rfs_peek (t : Addr) (p : Nat) : (rfs t p).lookup ("peek" : Str) = none := rfs_no t p (by decide +kernel) (by decide +kernel)
theorem rfs_step (t : Addr) (p : Nat) : (rfs t p).lookup ("step" : Str) = none := rfs_no t p (by decide +kernel) (by decide +kernel)
/-- a row of signs at a place -/
theorem want_no {x : UInt8} {r : Lute.Bytes} {p : Nat} {l : Lute.Bytes} (h : pk l ≠ (x.toNat : Int)) : Lute.want (x :: r) p l = .error p := by
  cases l with
  | nil => rfl
  | cons c l =>
    unfold Lute.want
    rw [if_neg]
    rintro rfl
    exact h rfl
theorem want_yes {x : UInt8} {r : Lute.Bytes} {t : Lute.Bytes} {p q : Nat} (h : pk (t.drop q) = (x.toNat : Int)) : Lute.want (x :: r) p (t.drop q) = Lute.want r (p + 1) (t.drop (q + 1)) := by
  have hx : x.toNat < 256 := x.toNat_lt
  by_cases hq : q < t.length
  · have e : t[q]? = some t[q] := List.getElem?_eq_getElem hq
    rw [pk_here e] at h
    have e2 : t[q] = x := UInt8.toNat_inj.mp (by omega)
    rw [List.drop_eq_getElem_cons hq, e2]
    show (if x = x then Lute.want r (p + 1) (t.drop (q + 1)) else .error p) = _
    rw [if_pos rfl]
  · rw [pk_end (by omega)] at h
    omega
section
variable {P : Program} {w : World} {K : PySem.W.Frag} {mg : Str → Option Value} {base : Heap} {a : Ad}
def sp_expect (K : PySem.W.Frag) (a : Ad) : Sp := fun vs H Q E => ∃ r b t p wd ws, vs = [.ref r, .str wd] ∧ RdAt K a.c_Reader H r b t p ∧ wd.cps.toList = List.map UInt8.toNat ws ∧
  match Lute.want ws p (t.drop p) with
  | .error e => Fails a E e
  | .ok (_, q, _) => ∀ H', RdAt K a.c_Reader H' r b t q → Keep r H H' → Q .non H'
theorem sc_expect : FnScope ["reader", "word", "sign"] ["reader", "word"] (defScope s_expect) := ⟨rfl, rfl, rfl, by decide +kernel, rfl, by decide +kernel, by decide +kernel⟩
theorem ok_expect (T : Txt K mg a) : Prm P w K mg base (CXr P w (ZT a)) 3 a.expect ["reader", "word"] (sp_expect K a) := by
  refine prmx T.d_expect sc_expect (fun vs H Q E h => by obtain ⟨r, b, t, p, wd, ws, rfl, _⟩ := h; rfl) (fun cdv A outer s H vs Q E hr h => ?_)
  obtain ⟨r, b, t, p, wd, ws, rfl, R, hw, k⟩ := h
  have nd := sc_expect.nd
  have hr1 := hr.mono (show 1 ≤ 2 by decide)
  refine ⟨_, pss_one (ps_for own_def rfl (pi_str (pv 1)) (pg_name (i := 2) nd rfl (Or.inl rfl))
      (pss_cons (ps_if (pt_cmpR op_ne (pmeth0 (pv 0) T.cl_Reader T.m_Reader_peek (ok_peek T) hr1 pass0) (pe_callB call_ord (by rfl) T.b_ord boot_ord (pa_cons (pv 2) pa_nil)) (nomark _)) (pss_one (ps_fault T hr.h wish_def (pe_fld (pv 0) rfl) mono_fld)) pss_nil)
      (pss_one (ps_expr (pmeth0 (pv 0) T.cl_Reader T.m_Reader_step (ok_step T) hr1 pass0))))), ?_⟩
  have hsz : wd.cps.size = ws.length := by
    have := congrArg List.length hw
    rw [List.length_map, Array.length_toList] at this
    exact this
  refine ⟨_, rfl, wd, rfl, for_str (x := wd) (fun i σ H' => ∃ v2, σ = [some (.ref r), some (.str wd), v2] ∧ RdAt K a.c_Reader H' r b t (p + i) ∧ Keep r H H' ∧ Lute.want ws p (t.drop p) = Lute.want (ws.drop i) (p + i) (t.drop (p + i)))
    ⟨none, rfl, R, Keep.refl _ _, rfl⟩ ?_ ?_⟩
  · rintro i c σ H' hc ⟨v2, rfl, R', kp, ew⟩
    obtain ⟨⟨dx, ho⟩, ht⟩ := id R'
    have hi : i < ws.length := by
      obtain ⟨z, _⟩ := Array.getElem?_eq_some_iff.mp hc
      omega
    obtain ⟨x, hx⟩ : ∃ x, ws[i]? = some x := ⟨_, List.getElem?_eq_getElem hi⟩
    have ec : c = x.toNat := by
      have h1 : wd.cps.toList[i]? = some c := by rw [Array.getElem?_toList]; exact hc
      rw [hw, List.getElem?_map, hx] at h1
      exact (Option.some.inj h1).symm
    have ed : ws.drop i = x :: ws.drop (i + 1) := by
      rw [List.drop_eq_getElem_cons hi]
      have := List.getElem?_eq_getElem hi
      rw [hx] at this
      rw [← Option.some.inj this]
    refine ⟨_, rfl, r, dx, _, rfl, ho, rfs_peek _ _, r, b, t, _, rfl, R', _, rfl, _, rfl, rfl, rfl, _, rfl, ifB (fun hc => ?_) (fun hc => ?_)⟩
    · have hne : pk (t.drop (p + i)) ≠ (x.toNat : Int) := by
        intro z
        rw [z, ← ec] at hc
        simp at hc
      rw [ew, ed, want_no hne] at k
      exact ⟨_, rfl, r, a.c_Reader, dx, _, _, rfl, ho, T.cl_Reader, T.n_Reader_place, rfs_place _ _, _, rfl, k⟩
    · have heq : pk (t.drop (p + i)) = (x.toNat : Int) := by
        have : V.int (pk (t.drop (p + i))) = V.int ((c : Nat) : Int) := by simpa using hc
        injection this with this
        rw [this, ec]
      refine ⟨_, rfl, r, dx, _, rfl, ho, rfs_step _ _, r, b, t, _, rfl, R', fun H2 R2 k2 => ?_⟩
      refine ⟨some (.str ⟨#[c]⟩), rfl, R2, kp.trans k2, ?_⟩
      rw [ew, ed, want_yes heq]
      rfl
  · rintro σ H' ⟨v2, rfl, R', kp, ew⟩
    rw [ew, hsz, List.drop_eq_nil_of_le (Nat.le_refl _)] at k
    exact k H' (by rw [← hsz]; exact R') kp
end
end GP
namespace GP
open PySem PySem.Spec PyProof.Rows L2 L3
/-- what comes of a reading: a fault, or a value and the reader further on -/
def Out {α : Type} (K : PySem.W.Frag) (a : Ad) (r b : Addr) (t : Lute.Bytes) (H : Hp) (Q : VK) (E : XK) (f : α → V) (res : Lute.Rd α) : Prop := match res with
  | .error e => Fails a E e
  | .ok (v, q, _) => ∀ H', RdAt K a.c_Reader H' r b t q → Keep r H H' → Q (f v) H'
theorem dig_yes {l : Lute.Bytes} (h : (decide (48 ≤ pk l) && decide (pk l ≤ 57)) = true) : ∃ c r x, l = c :: r ∧ Lute.digit c = some x ∧ pk l = 48 + (x : Int) ∧ x ≤ 9 := by
  simp only [Bool.and_eq_true, decide_eq_true_eq] at h
  cases l with
  | nil => exact absurd h.2 (by decide)
  | cons c r =>
    cases e : Lute.digit c with
    | some x =>
      obtain ⟨h1, h2⟩ := GF.digit_some e
      exact ⟨c, r, x, rfl, e, by show (c.toNat : Int) = _; omega, h2⟩
    | none =>
      have := GF.digit_none e
      have h1 : (48 : Int) ≤ (c.toNat : Int) ∧ (c.toNat : Int) ≤ 57 := h
      omega
theorem dig_no {l : Lute.Bytes} (h : (decide (48 ≤ pk l) && decide (pk l ≤ 57)) = false) : l = [] ∨ ∃ c r, l = c :: r ∧ Lute.digit c = none := by
  cases l with
  | nil => exact .inl rfl
  | cons c r =>
    refine .inr ⟨c, r, rfl, ?_⟩
    cases e : Lute.digit c with
    | none => rfl
    | some x =>
      obtain ⟨h1, h2⟩ := GF.digit_some e
      have h3 : (decide ((48 : Int) ≤ (c.toNat : Int)) && decide ((c.toNat : Int) ≤ 57)) = false := h
      rw [decide_eq_true (by omega), decide_eq_true (by omega)] at h3
      cases h3
theorem drop_next {t : Lute.Bytes} {q : Nat} {c : UInt8} {r : Lute.Bytes} (h : t.drop q = c :: r) : r = t.drop (q + 1) ∧ q < t.length := by
  have hq : q < t.length := by
    rcases Nat.lt_or_ge q t.length with z | z
    · exact z
    · rw [List.drop_eq_nil_of_le z] at h
      cases h
  rw [List.drop_eq_getElem_cons hq] at h
  injection h with _ h
  exact ⟨h.symm, hq⟩
theorem rd_some {lo mx p x : Nat} {c : UInt8} {u : Lute.Bytes} (h : Lute.digit c = some x) : GF.rdNum lo mx p (c :: u) = if 48 + x < lo then Except.error p else GF.more (mx - 1) x (p + 1) u := by
  show (match Lute.digit c with
    | none => (Except.error p : Lute.Rd Nat)
    | some x => if 48 + x < lo then Except.error p else GF.more (mx - 1) x (p + 1) u) = _
  rw [h]
theorem rd_none {lo mx p : Nat} {c : UInt8} {u : Lute.Bytes} (h : Lute.digit c = none) : GF.rdNum lo mx p (c :: u) = Except.error p := by
  show (match Lute.digit c with
    | none => (Except.error p : Lute.Rd Nat)
    | some x => if 48 + x < lo then Except.error p else GF.more (mx - 1) x (p + 1) u) = _
  rw [h]
theorem more_some {f n q x : Nat} {c : UInt8} {u : Lute.Bytes} (h : Lute.digit c = some x) : GF.more f n q (c :: u) = if n = 0 ∨ f = 0 then Except.error q else GF.more (f - 1) (10 * n + x) (q + 1) u := by
  show (match Lute.digit c with
    | none => (Except.ok (n, q, c :: u) : Lute.Rd Nat)
    | some x => if n = 0 ∨ f = 0 then Except.error q else GF.more (f - 1) (10 * n + x) (q + 1) u) = _
  rw [h]
theorem more_none {f n q : Nat} {c : UInt8} {u : Lute.Bytes} (h : Lute.digit c = none) : GF.more f n q (c :: u) = Except.ok (n, q, c :: u) := by
  show (match Lute.digit c with
    | none => (Except.ok (n, q, c :: u) : Lute.Rd Nat)
    | some x => if n = 0 ∨ f = 0 then Except.error q else GF.more (f - 1) (10 * n + x) (q + 1) u) = _
  rw [h]
section
variable {P : Program} {w : World} {K : PySem.W.Frag} {mg : Str → Option Value} {base : Heap} {a : Ad}
def sp_read_number (K : PySem.W.Frag) (a : Ad) : Sp := fun vs H Q E => ∃ r b t p lo mx, vs = [.ref r, .int ((lo : Nat) : Int), .int ((mx : Nat) : Int)] ∧ 1 ≤ mx ∧ RdAt K a.c_Reader H r b t p ∧ Out K a r b t H Q E (fun n => .int ((n : Nat) : Int)) (GF.rdNum lo mx p (t.drop p))
theorem sc_read_number : FnScope ["reader", "lowest", "most_digits", "start", "number"] ["reader", "lowest", "most_digits"] (defScope s_read_number) := ⟨rfl, rfl, rfl, by decide +kernel, rfl, by decide +kernel, by decide +kernel⟩
theorem ok_read_number (T : Txt K mg a) : Prm P w K mg base (CXr P w (ZT a)) 3 a.read_number ["reader", "lowest", "most_digits"] (sp_read_number K a) := by
  refine prmx T.d_read_number sc_read_number (fun vs H Q E h => by obtain ⟨r, b, t, p, lo, mx, rfl, _⟩ := h; rfl) (fun cdv A outer s H vs Q E hr h => ?_)
  obtain ⟨r, b, t, p, lo, mx, rfl, hmx, R, k⟩ := h
  have nd := sc_read_number.nd
  have hr1 := hr.mono (show 1 ≤ 2 by decide)
  refine ⟨_, pss_cons (ps_set (i := 3) nd rfl (Or.inl rfl) (pe_fld (pv 0) rfl))
    (pss_cons (ps_if (pw_or (pt_not (pt_val (pcall (ok_is_digit T) hr1 T.g_is_digit pass0 (pa_cons (pmeth0 (pv 0) T.cl_Reader T.m_Reader_peek (ok_peek T) hr1 pass0) pa_nil)))) (pw_or1 (pt_cmpR op_lt (pmeth0 (pv 0) T.cl_Reader T.m_Reader_peek (ok_peek T) hr1 pass0) (pv 1) (nomark _)))).pt (pss_one (ps_fault T hr.h wish_def (pv 3) mono_var)) pss_nil)
    (pss_cons (ps_set (i := 4) nd rfl (Or.inl rfl) (pe_op op_sub (pmeth0 (pv 0) T.cl_Reader T.m_Reader_peek (ok_peek T) hr1 pass0) (pgi T.c_ZERO)))
    (pss_cons (ps_expr (pmeth0 (pv 0) T.cl_Reader T.m_Reader_step (ok_step T) hr1 pass0))
    (pss_cons (ps_while own_def (pt_val (pcall (ok_is_digit T) hr1 T.g_is_digit pass0 (pa_cons (pmeth0 (pv 0) T.cl_Reader T.m_Reader_peek (ok_peek T) hr1 pass0) pa_nil)))
      (pss_cons (ps_if (pw_or (pt_cmpR op_eq (pv 4) pe_int (nomark _)) (pw_or1 (pt_cmpR op_eq (pe_fld (pv 0) rfl) (pe_op op_add (pv 3) (pv 2)) (nomark _)))).pt (pss_one (ps_fault T hr.h wish_def (pe_fld (pv 0) rfl) mono_fld)) pss_nil)
      (pss_cons (ps_set (i := 4) nd rfl (Or.inl rfl) (pe_op op_sub (pe_op op_add (pe_op op_mul (pv 4) pe_int) (pmeth0 (pv 0) T.cl_Reader T.m_Reader_peek (ok_peek T) hr1 pass0)) (pgi T.c_ZERO)))
      (pss_one (ps_expr (pmeth0 (pv 0) T.cl_Reader T.m_Reader_step (ok_step T) hr1 pass0))))))
    (pss_one (ps_ret (pv 4))))))), ?_⟩
  obtain ⟨⟨dx, ho⟩, ht⟩ := id R
  -- start = reader.place; the first digit
  refine ⟨_, rfl, r, a.c_Reader, dx, _, _, rfl, ho, T.cl_Reader, T.n_Reader_place, rfs_place _ _, ?_⟩
  refine ⟨_, rfl, r, dx, _, rfl, ho, rfs_peek _ _, r, b, t, _, rfl, R, _, rfl, _, rfl, ?_⟩
  -- behind the first digit
  have main : ∀ (c : UInt8) (u : Lute.Bytes) (x : Nat), t.drop p = c :: u → Lute.digit c = some x → ¬ 48 + x < lo → pk (t.drop p) = 48 + (x : Int) → Out K a r b t H Q E (fun n => .int ((n : Nat) : Int)) (GF.rdNum lo mx p (t.drop p)) → Out K a r b t H Q E (fun n => .int ((n : Nat) : Int)) (GF.more (mx - 1) x (p + 1) (t.drop (p + 1))) := fun c u x e1 e2 e3 _ k => by
    rw [e1] at k
    rw [rd_some e2, if_neg e3, (drop_next e1).1] at k
    exact k
  cases hd : (decide (48 ≤ pk (t.drop p)) && decide (pk (t.drop p) ≤ 57)) with
  | false =>
    refine iteT ?_
    refine ⟨_, rfl, _, rfl, ?_⟩
    have e : GF.rdNum lo mx p (t.drop p) = Except.error p := by
      rcases dig_no hd with z | ⟨c, u, z, z2⟩
      · rw [z]; rfl
      · rw [z, rd_none z2]
    rw [e] at k
    exact k
  | true =>
    obtain ⟨c, u, x, e1, e2, e3, e4⟩ := dig_yes hd
    refine iteF ?_
    refine ⟨_, rfl, r, dx, _, rfl, ho, rfs_peek _ _, r, b, t, _, rfl, R, _, rfl, _, _, rfl, rfl, _, rfl, ifB (fun hc => ?_) (fun hc => ?_)⟩
    · have hlo : 48 + x < lo := by
        have := of_decide_eq_true hc
        rw [e3] at this
        omega
      refine ⟨_, rfl, _, rfl, ?_⟩
      have e : GF.rdNum lo mx p (t.drop p) = Except.error p := by
        rw [e1, rd_some e2, if_pos hlo]
      rw [e] at k
      exact k
    · have hlo : ¬ 48 + x < lo := by
        have := of_decide_eq_false hc
        rw [e3] at this
        omega
      have k := main c u x e1 e2 hlo e3 k
      refine ⟨_, rfl, r, dx, _, rfl, ho, rfs_peek _ _, r, b, t, _, rfl, R, _, _, rfl, rfl, ?_⟩
      refine ⟨_, rfl, r, dx, _, rfl, ho, rfs_step _ _, r, b, t, _, rfl, R, fun H1 R1 k1 => ?_⟩
      -- while is_digit(reader.peek())
      refine ⟨fun m σ H2 => ∃ (n f q : Nat), σ = [some (.ref r), some (.int (lo : Int)), some (.int (mx : Int)), some (.int (p : Int)), some (.int (n : Int))] ∧ RdAt K a.c_Reader H2 r b t q ∧ Keep r H H2 ∧ p + mx = q + f ∧ Out K a r b t H Q E (fun n => .int ((n : Nat) : Int)) (GF.more f n q (t.drop q)) ∧ m = t.length - q,
        ⟨_, x, mx - 1, p + 1, ?_, R1, k1, by omega, k, rfl⟩, ?_⟩
      · show [some (V.ref r), some (V.int (lo : Int)), some (V.int (mx : Int)), some (V.int (p : Int)), some (V.int (pk (t.drop p) - 48))] = _
        rw [e3, show (48 + (x : Int) - 48) = (x : Int) from by omega]
      · rintro m σ H2 ⟨n, f, q, rfl, R2, k2, hf, k, rfl⟩
        obtain ⟨⟨dx2, ho2⟩, ht2⟩ := id R2
        refine ⟨_, rfl, r, dx2, _, rfl, ho2, rfs_peek _ _, r, b, t, _, rfl, R2, _, rfl, _, rfl, ifB (fun hc => ?_) (fun hc => ?_)⟩
        · obtain ⟨c, u, x, e1, e2, e3, e4⟩ := dig_yes hc
          obtain ⟨eu, hq⟩ := drop_next e1
          have em : GF.more f n q (t.drop q) = if n = 0 ∨ f = 0 then Except.error q else GF.more (f - 1) (10 * n + x) (q + 1) (t.drop (q + 1)) := by
            rw [e1, ← eu, more_some e2]
          refine ⟨fun σ' H' => ∃ (n f q' : Nat), σ' = [some (.ref r), some (.int (lo : Int)), some (.int (mx : Int)), some (.int (p : Int)), some (.int (n : Int))] ∧ RdAt K a.c_Reader H' r b t q' ∧ Keep r H H' ∧ p + mx = q' + f ∧ Out K a r b t H Q E (fun n => .int ((n : Nat) : Int)) (GF.more f n q' (t.drop q')) ∧ t.length - q' < t.length - q,
            fun σ' H' ⟨n, f, q', z1, z2, z3, z4, z5, z6⟩ => ⟨_, z6, n, f, q', z1, z2, z3, z4, z5, rfl⟩, ?_⟩
          have fault : n = 0 ∨ f = 0 → tFault a (tFld K (tVar 0) "place") E { nx := fun _ _ => True, rt := Q } [some (.ref r), some (.int (lo : Int)), some (.int (mx : Int)), some (.int (p : Int)), some (.int (n : Int))] H2 := fun z => by
            rw [em, if_pos z] at k
            exact ⟨_, rfl, r, a.c_Reader, dx2, _, _, rfl, ho2, T.cl_Reader, T.n_Reader_place, rfs_place _ _, _, rfl, k⟩
          refine ⟨_, rfl, rfl, _, rfl, ifB (fun hn => ?_) (fun hn => ?_)⟩
          · have n0 : n = 0 := by
              have : V.int (n : Int) = V.int 0 := of_decide_eq_true hn
              injection this with this
              omega
            exact iteT (fault (.inl n0))
          · have n0 : n ≠ 0 := fun z => by
              subst z
              exact absurd hn (by decide)
            refine ⟨_, rfl, r, a.c_Reader, dx2, _, _, rfl, ho2, T.cl_Reader, T.n_Reader_place, rfs_place _ _, _, rfl, _, rfl, _, _, rfl, rfl, rfl, _, rfl, ifB (fun hn => ?_) (fun hn => ?_)⟩
            · have f0 : f = 0 := by
                have : V.int (q : Int) = V.int ((p : Int) + (mx : Int)) := of_decide_eq_true hn
                injection this with this
                omega
              exact fault (.inr f0)
            · have f0 : f ≠ 0 := fun z => by
                have : ¬ V.int (q : Int) = V.int ((p : Int) + (mx : Int)) := of_decide_eq_false hn
                exact this (by rw [show ((p : Int) + (mx : Int)) = (q : Int) from by omega])
              rw [em, if_neg (by omega)] at k
              refine ⟨_, rfl, _, _, rfl, rfl, .inr ⟨by decide, by decide⟩, _, rfl, r, dx2, _, rfl, ho2, rfs_peek _ _, r, b, t, _, rfl, R2, _, _, rfl, rfl, _, _, rfl, rfl, ?_⟩
              refine ⟨_, rfl, r, dx2, _, rfl, ho2, rfs_step _ _, r, b, t, _, rfl, R2, fun H3 R3 k3 => ?_⟩
              refine ⟨10 * n + x, f - 1, q + 1, ?_, R3, k2.trans k3, by omega, k, by omega⟩
              show [some (V.ref r), some (V.int (lo : Int)), some (V.int (mx : Int)), some (V.int (p : Int)), some (V.int ((n : Int) * 10 + pk (t.drop q) - 48))] = _
              rw [e3, show ((n : Int) * 10 + (48 + (x : Int)) - 48) = ((10 * n + x : Nat) : Int) from by omega]
        · have em : ∃ u, GF.more f n q (t.drop q) = Except.ok (n, q, u) := by
            rcases dig_no hc with z | ⟨c, u, z, z2⟩
            · rw [z]
              cases f <;> exact ⟨_, rfl⟩
            · rw [z]
              exact ⟨c :: u, more_none z2⟩
          obtain ⟨u, em⟩ := em
          rw [em] at k
          exact ⟨_, rfl, k H2 R2 k2⟩
end
end GP
namespace GP
open PySem PySem.Spec PyProof.Rows L2 L3
/-! ### PRIMES.index(digit) -/
abbrev primes : List Int := [2, 3, 5, 7]
theorem tindex_run {prog : Program} {w : World} {A : Around} {E : Value → Shared → Prop} {s : Shared} {t : Addr} {t0 t1 t2 t3 u : Tok} {z : Int} {j : Nat} {Q : Value → Shared → Prop} (ht : IsTup s.heap t #[.int 2 t0, .int 3 t1, .int 5 t2, .int 7 t3]) (hz : primes[j]? = some z)
    (h : ∀ tk, Q (.int (j : Nat) tk) { s with toks := s.toks + 1 }) : wpAny (model prog w) A (Builtin.«tuple.index» ⟨[.ref t, .int z u], []⟩) (fun fin s' => ∃ v, fin = .done (.ret v) ∧ Q v s') E s := by
  unfold Builtin.«tuple.index»
  refine wpAny_bind (m := selfAndSome "tuple.index" "index" 1 3 ⟨[.ref t, .int z u], []⟩) (wpAny_pure ?_)
  dsimp only
  refine wpAny_bind (tupleItemsOf_ ht ?_)
  refine wpAny_bind (wpAny_pure (wpAny_bind (wpAny_pure ?_)))
  have fin : ∀ s', s' = s → wpAny (model prog w) A (retInt (j : Nat)) (fun fin s' => ∃ v, fin = .done (.ret v) ∧ Q v s') E s' := fun s' e => by
    subst e
    exact wpAny_bind (wpAny_mkInt (wpAny_pure ⟨_, rfl, h _⟩))
  rw [Std.Legacy.Range.forIn_eq_forIn_range']
  simp only [Std.Legacy.Range.size, Nat.sub_zero, Nat.add_sub_cancel, Nat.div_one, Nat.min_self, List.size_toArray, List.length_cons, List.length_nil, Nat.zero_add, Nat.reduceAdd, List.range'_succ, List.range'_zero, List.forIn_cons, List.forIn_nil, List.getElem?_toArray, List.getElem?_cons_zero, List.getElem?_cons_succ]
  have yes : ∀ (i : Nat) (K1 : ForInStep (Option PySem.Fin × Unit) → Sem (Option PySem.Fin × Unit)) (s' : Shared) (R : Option PySem.Fin × Unit → Shared → Prop) (a : Int) (ta : Tok), (a == z) = true → (∀ r, K1 (.done r) = pure r) → wpAny (model prog w) A (retInt (i : Nat)) (fun fin s2 => R (some fin, ()) s2) E s' →
      wpAny (model prog w) A (do let x ← (do let l ← eqBool (.int a ta) (.int z u); if l = true then do let l ← retInt (i : Nat); pure (ForInStep.done (some l, ())) else pure (ForInStep.yield (none, ()))); K1 x) R E s' := fun i K1 s' R a ta hb hk hr => by
    refine wpAny_bind (wpAny_bind (wpAny_eqBool_int ?_))
    rw [if_pos hb]
    refine wpAny_bind (wpAny_mono hr (fun fin s2 q => wpAny_pure ?_) fun _ _ q => q)
    rw [hk]
    exact wpAny_pure q
  have no : ∀ (i : Nat) (K1 : ForInStep (Option PySem.Fin × Unit) → Sem (Option PySem.Fin × Unit)) (s' : Shared) (R : Option PySem.Fin × Unit → Shared → Prop) (a : Int) (ta : Tok), (a == z) = false → wpAny (model prog w) A (K1 (.yield (none, ()))) R E s' →
      wpAny (model prog w) A (do let x ← (do let l ← eqBool (.int a ta) (.int z u); if l = true then do let l ← retInt (i : Nat); pure (ForInStep.done (some l, ())) else pure (ForInStep.yield (none, ()))); K1 x) R E s' := fun i K1 s' R a ta hb hr => by
    refine wpAny_bind (wpAny_bind (wpAny_eqBool_int ?_))
    rw [hb, if_neg (by decide)]
    exact wpAny_pure hr
  have last : wpAny (model prog w) A (retInt (j : Nat)) (fun fin s2 => wpAny (model prog w) A (pure fin) (fun fin s' => ∃ v, fin = .done (.ret v) ∧ Q v s') E s2) E s := wpAny_mono (fin s rfl) (fun _ _ q => wpAny_pure q) fun _ _ q => q
  match j, hz with
  | 0, hz =>
    cases hz
    exact wpAny_bind (yes 0 _ s _ 2 t0 (by decide) (fun _ => rfl) last)
  | 1, hz =>
    cases hz
    exact wpAny_bind (no 0 _ s _ 2 t0 (by decide) (yes 1 _ s _ 3 t1 (by decide) (fun _ => rfl) last))
  | 2, hz =>
    cases hz
    exact wpAny_bind (no 0 _ s _ 2 t0 (by decide) (no 1 _ s _ 3 t1 (by decide) (yes 2 _ s _ 5 t2 (by decide) (fun _ => rfl) last)))
  | 3, hz =>
    cases hz
    refine wpAny_bind (no 0 _ s _ 2 t0 (by decide) (no 1 _ s _ 3 t1 (by decide) (no 2 _ s _ 5 t2 (by decide) ?_)))
    refine wpAny_bind (wpAny_bind (wpAny_eqBool_int ?_))
    rw [if_pos (by decide)]
    exact wpAny_bind (wpAny_mono last (fun fin s2 q => wpAny_pure (wpAny_pure q)) fun _ _ q => q)
  | j + 4, hz => simp at hz
theorem mt_tindex {X : Cx} : MtR X "tuple.index" (fun x xs H Q => ∃ (a : Addr) (z : Int) (j : Nat), x = .ref a ∧ xs = [.int z] ∧ SqT X.K H a (primes.map V.int) ∧ primes[j]? = some z ∧ Q (.int (j : Nat)) H) := by
  intro pins s σ H x xs v us Q I rx rxs h
  obtain ⟨a, z, j, rfl, rfl, hs, hz, q⟩ := h
  cases rx
  obtain ⟨u, rfl, ⟨tu, rfl⟩⟩ := vals1 rxs
  obtain ⟨its, r, ht, _⟩ := I.tuple hs
  have w1 : Vals [V.int 2, V.int 3, V.int 5, V.int 7] its := r
  clear r
  cases w1 with
  | cons r0 w2 =>
    cases w2 with
    | cons r1 w3 =>
      cases w3 with
      | cons r2 w4 =>
        cases w4 with
        | cons r3 w5 =>
          cases w5
          obtain ⟨t0, rfl⟩ := r0
          obtain ⟨t1, rfl⟩ := r1
          obtain ⟨t2, rfl⟩ := r2
          obtain ⟨t3, rfl⟩ := r3
          refine wpAny_call_entry PySem.F.slot_tuple_index ht.typeIs PySem.F.entry_tuple_index (tindex_run ht hz fun tk => ?_) (PySem.F.args_tuple_index_2 _ _)
          exact ⟨.int (j : Nat), H, I.tok _, ⟨tk, rfl⟩, q⟩
end GP
namespace GP
open PySem PySem.Spec PyProof.Rows L2 L3
abbrev rowV (x : Lute.Iv) : List V := (LuteB.rowOf x).map V.int
/-- numbers that a product can take -/
def Small (x : Lute.Iv) : Prop := 1 ≤ x.d ∧ ∀ z ∈ LuteB.rowOf x, -(2 ^ 64) < z ∧ z < 2 ^ 64
/-- // by a positive divisor -/
theorem op_fdivB {X : Cx} : OpR X (binaryOp .FloorDiv) (rI (fun _ j => 0 < j ∧ j < 2 ^ 1000) fun i j => .int (i / j)) := opI fun i j _ _ _ _ _ hc q => by
  have h1 : (0 : Int) < j := hc.1
  have h2 : j < 2 ^ 1000 := hc.2
  have h3 : j.natAbs < 2 ^ 1000 := by
    have e : ((2 : Int) ^ 1000) = ((2 ^ 1000 : Nat) : Int) := (Int.natCast_pow 2 1000).symm
    rw [e] at h2
    generalize (2 ^ 1000 : Nat) = M at h2 ⊢
    omega
  have h4 : j.natAbs.log2 < 1000 := (Nat.log2_lt (by omega)).mpr h3
  exact floordiv_int (by omega) (by rw [Int.fdiv_eq_ediv_of_nonneg i (by omega)]; exact q) (.inl (PyProof.noPylong_of_log2 (by omega)))
theorem ixL {X : Cx} {K : PySem.W.Frag} (h : X.K = K := by rfl) : IxR X (rIxL K) := by
  subst h
  exact ix_list
theorem row_d (x : Lute.Iv) : (LuteB.rowOf x)[4]? = some (x.d : Int) := rfl
theorem row_get (x : Lute.Iv) {i : Nat} (h : i < 5) : ∃ z, (LuteB.rowOf x)[i]? = some z := ⟨_, List.getElem?_eq_getElem (show i < (LuteB.rowOf x).length from h)⟩
theorem row_sum {x y : Lute.Iv} {i : Nat} {zx zy : Int} (h : i < 4) (hx : (LuteB.rowOf x)[i]? = some zx) (hy : (LuteB.rowOf y)[i]? = some zy) : (LuteB.rowOf (GF.sumIv x y))[i]? = some (zx * (y.d : Int) + zy * (x.d : Int)) := by
  match i, h with
  | 0, _ => cases hx; cases hy; rfl
  | 1, _ => cases hx; cases hy; rfl
  | 2, _ => cases hx; cases hy; rfl
  | 3, _ => cases hx; cases hy; rfl
theorem map_get {ns : List Int} {i : Nat} {z : Int} (h : ns[i]? = some z) : (ns.map V.int)[i]? = some (V.int z) := by
  rw [List.getElem?_map, h]
  rfl
section
variable {P : Program} {w : World} {K : PySem.W.Frag} {mg : Str → Option Value} {base : Heap} {a : Ad}
def sp_upon (K : PySem.W.Frag) : Sp := fun vs H Q _ => ∃ p q x y, vs = [.ref p, .ref q] ∧ SqL K H p (rowV x) ∧ SqL K H q (rowV y) ∧ Small x ∧ Small y ∧ Gives H (LuteB.rowOf (x.plus y)) Q
theorem sc_upon : FnScope ["x", "y", "numbers", "factor", "k", "number"] ["x", "y"] (defScope s_upon) := ⟨rfl, rfl, rfl, by decide +kernel, rfl, by decide +kernel, by decide +kernel⟩
theorem ok_upon (T : Txt K mg a) : Prm P w K mg base CX0 2 a.upon ["x", "y"] (sp_upon K) := by
  refine prm T.d_upon sc_upon (fun vs H Q E h => by obtain ⟨p, q, x, y, rfl, _⟩ := h; rfl) (fun cdv A outer s H vs Q E hr h => ?_)
  obtain ⟨p, q, x, y, rfl, hp, hq, ⟨xd, sx⟩, ⟨yd, sy⟩, k⟩ := h
  have nd := sc_upon.nd
  refine ⟨_, pss_cons (ps_setLc (i := 2) (own := [("k", 4)]) rfl nd rfl rfl rfl (pi_range1 rfl T.b_range (pa_cons pe_int pa_nil)) (blkOk_by (N := ["x", "y", "numbers", "factor", "k", "number"]) (sc := defScope s_upon) (by decide +kernel)) (fun _ _ _ _ _ => pg_name (i := 4) nd rfl (Or.inl rfl)) (fun _ _ _ _ _ => pts_nil)
      (fun _ _ _ _ _ => pe_op op_add (pe_op op_mul (pe_ix (ixL (K := K)) (pv 0) (pv 4) (fun _ _ => rfl)) (pe_ix (ixL (K := K)) (pv 1) pe_int (fun _ _ => rfl))) (pe_op op_mul (pe_ix (ixL (K := K)) (pv 1) (pv 4) (fun _ _ => rfl)) (pe_ix (ixL (K := K)) (pv 0) pe_int (fun _ _ => rfl)))))
    (pss_cons (ps_expr (pe_bm PySem.F.plainAttrs_list PySem.F.slot_list_append PySem.F.type_list_append mt_append (pv 2) (pa_cons (pe_op op_mul (pe_ix ix_list (pv 0) pe_int (fun _ _ => rfl)) (pe_ix ix_list (pv 1) pe_int (fun _ _ => rfl))) pa_nil)))
    (pss_cons (ps_set (i := 3) nd rfl (Or.inr rfl) (pcall (ok_common_factor T) hr T.g_common_factor pass0 (pa_cons (pv 2) pa_nil)))
    (pss_one (ps_ret (pe_lc (own := [("number", 5)]) rfl nd (pi_list (pv 2)) (blkOk_by (N := ["x", "y", "numbers", "factor", "k", "number"]) (sc := defScope s_upon) (by decide +kernel)) (fun _ _ _ _ _ => pg_name (i := 5) nd rfl (Or.inl rfl)) (fun _ _ _ _ _ => pts_nil)
      (fun _ _ _ _ _ => pe_op op_fdivB (pv 5) (pv 3))))))), ?_⟩
  have atx : ∀ {i : Nat} {z : Int}, (LuteB.rowOf x)[i]? = some z → ∀ {H' : Hp}, Same H H' → SqL K H' p (rowV x) ∧ atI (rowV x) ((0 : Int) + (i : Int)) = some (V.int z) ∧ (-(2 ^ 64) < z ∧ z < 2 ^ 64) := fun {i z} h {H'} S =>
    ⟨S.seq hp, at_of (j := i) (by omega) (map_get h), sx z (List.mem_of_getElem? h)⟩
  have aty : ∀ {i : Nat} {z : Int}, (LuteB.rowOf y)[i]? = some z → ∀ {H' : Hp}, Same H H' → SqL K H' q (rowV y) ∧ atI (rowV y) ((0 : Int) + (i : Int)) = some (V.int z) ∧ (-(2 ^ 64) < z ∧ z < 2 ^ 64) := fun {i z} h {H'} S =>
    ⟨S.seq hq, at_of (j := i) (by omega) (map_get h), sy z (List.mem_of_getElem? h)⟩
  -- numbers = [..]
  refine ⟨4, rfl, by decide, by decide, fun D hD => lc_range (n := 4) (fun i H' => Same H H' ∧ H' D = some (.lst (((LuteB.rowOf (GF.sumIv x y)).take i).map V.int))) ⟨same_new hD, upd_same⟩ ?_ ?_⟩
  · rintro i H' hi ⟨S, hd⟩
    obtain ⟨zx, ex⟩ := row_get x (show i < 5 by omega)
    obtain ⟨zy, ey⟩ := row_get y (show i < 5 by omega)
    obtain ⟨x1, x2, x3⟩ := atx ex S
    obtain ⟨x4, x5, x6⟩ := atx (row_d x) S
    obtain ⟨y1, y2, y3⟩ := aty ey S
    obtain ⟨y4, y5, y6⟩ := aty (row_d y) S
    refine ⟨rfl, _, rfl, _, rfl, p, _, _, _, rfl, rfl, x1, x2, _, rfl, q, _, 4, _, rfl, rfl, y4, y5, _, _, rfl, rfl, .inl x3, _, rfl, _, rfl, q, _, _, _, rfl, rfl, y1, y2, _, rfl, p, _, 4, _, rfl, rfl, x4, x5, _, _, rfl, rfl, .inl y3, _, _, rfl, rfl, _, hd, ?_, ?_, ?_⟩
    · rw [List.length_map, List.length_take]
      have : sizeLine ≥ 5 := by decide
      omega
    · exact fun b o e => by rw [upd_ne (ne_of_none e hD)]; exact S b o e
    · rw [upd_same, List.take_add_one, row_sum hi ex ey, List.map_append]
      rfl
  · rintro H1 ⟨S1, hd1⟩
    have hd1 : H1 D = some (.lst (((LuteB.rowOf (GF.sumIv x y)).take 4).map V.int)) := hd1
    -- numbers.append(x[4] * y[4])
    obtain ⟨x4, x5, x6⟩ := atx (row_d x) S1
    obtain ⟨y4, y5, y6⟩ := aty (row_d y) S1
    refine ⟨_, rfl, .inl ⟨rfl, _, SqL.of hd1⟩, _, rfl, p, _, 4, _, rfl, rfl, x4, x5, _, rfl, q, _, 4, _, rfl, rfl, y4, y5, _, _, rfl, rfl, .inl x6, D, _, _, rfl, rfl, hd1, by show 4 < sizeLine; decide, ?_⟩
    have en : ((LuteB.rowOf (GF.sumIv x y)).take 4).map V.int ++ [V.int ((x.d : Int) * (y.d : Int))] = rowV (GF.sumIv x y) := rfl
    rw [en]
    have S2 : Same H (upd H1 D (.lst (rowV (GF.sumIv x y)))) := fun b o e => by rw [upd_ne (ne_of_none e hD)]; exact S1 b o e
    have sumd := GF.sum_d xd yd
    have cp := GF.common_pos sumd
    -- factor = common_factor(numbers)
    refine ⟨_, rfl, D, _, rfl, SqL.of upd_same, ?_⟩
    rw [GF.cf_five]
    -- return [number // factor for number in numbers]
    refine ⟨_, rfl, D, rfl, ⟨_, SqL.of upd_same⟩, fun R hR => lc_list (K := K) (a := D) (xs := rowV (GF.sumIv x y)) (fun i H' => Same H H' ∧ H' D = some (.lst (rowV (GF.sumIv x y))) ∧ H' R = some (.lst (((LuteB.rowOf (x.plus y)).take i).map V.int))) ⟨?_, ?_, upd_same⟩ (fun i H' _ h => SqL.of h.2.1) ?_ ?_⟩
    · exact S2.trans (same_new hR)
    · exact same_new hR _ _ upd_same
    · rintro i v H' hi ⟨S, hd, hr⟩
      obtain ⟨z, hz, rfl⟩ : ∃ z, (LuteB.rowOf (GF.sumIv x y))[i]? = some z ∧ v = V.int z := by
        rw [List.getElem?_map] at hi
        cases e : (LuteB.rowOf (GF.sumIv x y))[i]? with
        | none => rw [e] at hi; cases hi
        | some z => rw [e] at hi; exact ⟨z, rfl, (Option.some.inj hi).symm⟩
      have nRD : D ≠ R := ne_of_none upd_same hR
      refine ⟨rfl, _, rfl, _, rfl, _, _, rfl, rfl, ?_, _, hr, ?_, ?_, ?_, ?_⟩
      · have c1 : (GF.sumIv x y).common ≤ x.d * y.d := Nat.le_of_dvd sumd (GF.common_dvd _).1
        have c2 : ((x.d : Int)) < 2 ^ 64 := (sx _ (List.mem_of_getElem? (row_d x))).2
        have c3 : ((y.d : Int)) < 2 ^ 64 := (sy _ (List.mem_of_getElem? (row_d y))).2
        have c4 : x.d * y.d < 2 ^ 128 := by
          have h1 : x.d < 2 ^ 64 := by omega
          have h2 : y.d < 2 ^ 64 := by omega
          calc x.d * y.d ≤ x.d * 2 ^ 64 := Nat.mul_le_mul_left _ (by omega)
            _ < 2 ^ 64 * 2 ^ 64 := Nat.mul_lt_mul_of_pos_right h1 (by decide)
            _ = 2 ^ 128 := by decide
        have c5 : ((2 : Nat) ^ 128) ≤ 2 ^ 1000 := Nat.pow_le_pow_right (by decide) (by decide)
        have c6 : ((GF.sumIv x y).common : Int) < ((2 ^ 1000 : Nat) : Int) := by
          generalize (2 ^ 1000 : Nat) = M at c5 ⊢
          omega
        refine ⟨by omega, ?_⟩
        rw [Int.natCast_pow] at c6
        exact c6
      · rw [List.length_map, List.length_take]
        have e5 : (LuteB.rowOf (x.plus y)).length = 5 := rfl
        have : sizeLine ≥ 6 := by decide
        omega
      · exact fun b o e => by rw [upd_ne (ne_of_none (S2 b o e) hR)]; exact S b o e
      · rw [upd_ne nRD]; exact hd
      · rw [upd_same, List.take_add_one, GF.plus_eq, GF.low_row, List.getElem?_map, hz, List.map_append]
        rfl
    · rintro H' ⟨S, hd, hr⟩
      refine k H' R S (S2.free hR) ?_
      rw [hr, List.take_of_length_le (by rw [List.length_map]; exact Nat.le_refl _)]
end
end GP
namespace GP
open PySem PySem.Spec PyProof.Rows L2 L3
theorem ended_pk (l : Lute.Bytes) : GF.ended l = (decide (V.int (pk l) = V.int 10) || decide (V.int (pk l) = V.int 256)) := by
  cases l with
  | nil => rfl
  | cons c r =>
    show (c == 10) = (decide (V.int (c.toNat : Int) = V.int 10) || decide (V.int (c.toNat : Int) = V.int 256))
    have hx : c.toNat < 256 := c.toNat_lt
    rw [Bool.eq_iff_iff]
    simp only [beq_iff_eq, Bool.or_eq_true, decide_eq_true_eq, V.int.injEq]
    constructor
    · rintro rfl
      exact .inl rfl
    · rintro (h | h)
      · exact UInt8.toNat_inj.mp (by show c.toNat = 10; omega)
      · omega
def prAt (p : Nat) (l : Lute.Bytes) : Lute.Rd Nat := match l with
  | [] => .error p
  | c :: r => match GF.primeAt c with
    | none => .error p
    | some k => .ok (k, p + 1, r)
theorem prime_in (z : Int) : inV (.int z) (primes.map V.int) = decide (z ∈ primes) := by
  rw [Bool.eq_iff_iff]
  simp [inV, eqV]
  omega
theorem prime_byte (c : UInt8) : (∀ k, GF.primeAt c = some k → primes[k]? = some ((c.toNat : Int) - 48)) ∧ (GF.primeAt c = none → ¬ ((c.toNat : Int) - 48) ∈ primes) := by
  have h1 : ∀ n : Nat, n < 256 → (∀ k, GF.primeAt (UInt8.ofNat n) = some k → primes[k]? = some ((n : Int) - 48)) ∧ (GF.primeAt (UInt8.ofNat n) = none → ¬ ((n : Int) - 48) ∈ primes) := by
    intro n hn
    unfold GF.primeAt
    by_cases q : n = 50 ∨ n = 51 ∨ n = 53 ∨ n = 55
    · rcases q with rfl | rfl | rfl | rfl <;> exact ⟨fun k h => by cases h; rfl, fun h => by cases h⟩
    · refine ⟨fun k h => ?_, fun _ h => ?_⟩
      · exfalso
        have e : ∀ m : Nat, m < 256 → UInt8.ofNat n = UInt8.ofNat m → n = m := fun m hm z => by
          have z := congrArg UInt8.toNat z
          simp only [UInt8.toNat_ofNat', Nat.reducePow] at z
          omega
        have h0 := List.mem_of_getElem? (l := [(50 : UInt8), 51, 53, 55]) (i := k) (a := UInt8.ofNat n) (by
          have z := List.idxOf?_eq_some_iff.mp h
          obtain ⟨hk, ek, _⟩ := z
          rw [List.getElem?_eq_getElem hk]
          exact congrArg some ek)
        simp only [List.mem_cons, List.not_mem_nil, or_false] at h0
        rcases h0 with h0 | h0 | h0 | h0
        · exact q (.inl (e 50 (by decide) h0))
        · exact q (.inr (.inl (e 51 (by decide) h0)))
        · exact q (.inr (.inr (.inl (e 53 (by decide) h0))))
        · exact q (.inr (.inr (.inr (e 55 (by decide) h0))))
      · simp at h
        omega
  have := h1 c.toNat c.toNat_lt
  rwa [UInt8.ofNat_toNat] at this
section
variable {P : Program} {w : World} {K : PySem.W.Frag} {mg : Str → Option Value} {base : Heap} {a : Ad}
def sp_is_behind (K : PySem.W.Frag) (a : Ad) : Sp := fun vs H Q _ => ∃ r b t p, vs = [.ref r] ∧ RdAt K a.c_Reader H r b t p ∧ Q (.bl (GF.ended (t.drop p))) H
theorem sc_is_behind : FnScope ["reader"] ["reader"] (defScope s_is_behind) := ⟨rfl, rfl, rfl, by decide +kernel, rfl, by decide +kernel, by decide +kernel⟩
theorem ok_is_behind (T : Txt K mg a) : Prm P w K mg base CX0 2 a.is_behind ["reader"] (sp_is_behind K a) := by
  refine prm T.d_is_behind sc_is_behind (fun vs H Q E h => by obtain ⟨r, b, t, p, rfl, _⟩ := h; rfl) (fun cdv A outer s H vs Q E hr h => ?_)
  obtain ⟨r, b, t, p, rfl, R, k⟩ := h
  obtain ⟨⟨dx, ho⟩, ht⟩ := id R
  refine ⟨_, pss_one (ps_ret (pe_or (pe_cmpR op_eq (pmeth0 (pv 0) T.cl_Reader T.m_Reader_peek (ok_peek T) hr pass0) (pgi T.c_LINE_END) (nomark _)) (pe_one (pe_cmpR op_eq (pmeth0 (pv 0) T.cl_Reader T.m_Reader_peek (ok_peek T) hr pass0) (pgi T.c_NO_BYTE) (nomark _))))), ?_⟩
  rw [ended_pk] at k
  refine ⟨_, rfl, r, dx, _, rfl, ho, rfs_peek _ _, r, b, t, _, rfl, R, rfl, _, rfl, ifB (fun hc => ?_) (fun hc => ?_)⟩
  · rw [hc] at k
    exact k
  · rw [hc] at k
    exact ⟨_, rfl, r, dx, _, rfl, ho, rfs_peek _ _, r, b, t, _, rfl, R, rfl, k⟩
def sp_factor_of : Sp := fun vs H Q _ => ∃ (k : Nat) (n : Int) (d : Nat), vs = [.int (k : Int), .int n, .int (d : Int)] ∧ k < 4 ∧ Gives H (LuteB.rowOf (Lute.powerOf k n d)) Q
theorem sc_factor_of : FnScope ["position", "n", "d", "factor"] ["position", "n", "d"] (defScope s_factor_of) := ⟨rfl, rfl, rfl, by decide +kernel, rfl, by decide +kernel, by decide +kernel⟩
theorem power_row {k : Nat} {n : Int} {d : Nat} (h : k < 4) : ((([0, 0, 0, 0, 1] : List Int).set k n).set 4 (d : Int)) = LuteB.rowOf (Lute.powerOf k n d) := by
  match k, h with
  | 0, _ => rfl
  | 1, _ => rfl
  | 2, _ => rfl
  | 3, _ => rfl
theorem ok_factor_of (T : Txt K mg a) : Prm P w K mg base CX0 2 a.factor_of ["position", "n", "d"] sp_factor_of := by
  refine prm T.d_factor_of sc_factor_of (fun vs H Q E h => by obtain ⟨k, n, d, rfl, _⟩ := h; rfl) (fun cdv A outer s H vs Q E hr h => ?_)
  obtain ⟨k, n, d, rfl, hk, g⟩ := h
  have nd := sc_factor_of.nd
  refine ⟨_, pss_cons (ps_set (i := 3) nd rfl (Or.inl rfl) (pcall0 (ok_unison T) hr T.g_unison pass0))
    (pss_cons (ps_asg (pv 1) (pg_sub (pv 3) (pv 0) set_list))
    (pss_cons (ps_asg (pv 2) (pg_sub (pv 3) pe_int set_list))
    (pss_one (ps_ret (pv 3))))), ?_⟩
  refine ⟨rfl, fun H1 q S1 hq h1 => ?_⟩
  have ixk : ixN ([0, 0, 0, 0, 1].map V.int).length (k : Int) = some k := by
    show (if (0 : Int) ≤ (k : Int) then (if (k : Int) < ((5 : Nat) : Int) then some (k : Int).toNat else none) else _) = _
    rw [if_pos (by omega), if_pos (by omega), Int.toNat_natCast]
  refine ⟨_, rfl, _, rfl, _, rfl, q, _, _, k, rfl, rfl, h1, ixk, ?_⟩
  refine ⟨_, rfl, _, rfl, q, _, _, 4, rfl, rfl, upd_same, by rw [List.length_set]; rfl, ?_⟩
  refine ⟨_, rfl, g _ q (fun b o e => ?_) hq ?_⟩
  · rw [upd_ne (ne_of_none e hq), upd_ne (ne_of_none e hq)]
    exact S1 b o e
  · rw [upd_same, ← power_row hk, List.map_set, List.map_set]
def sp_read_prime (K : PySem.W.Frag) (a : Ad) : Sp := fun vs H Q E => ∃ r b t p, vs = [.ref r] ∧ RdAt K a.c_Reader H r b t p ∧ Out K a r b t H Q E (fun n => .int ((n : Nat) : Int)) (prAt p (t.drop p))
theorem sc_read_prime : FnScope ["reader", "digit"] ["reader"] (defScope s_read_prime) := ⟨rfl, rfl, rfl, by decide +kernel, rfl, by decide +kernel, by decide +kernel⟩
theorem ok_read_prime (T : Txt K mg a) : Prm P w K mg base (CXr P w (ZT a)) 3 a.read_prime ["reader"] (sp_read_prime K a) := by
  refine prmx T.d_read_prime sc_read_prime (fun vs H Q E h => by obtain ⟨r, b, t, p, rfl, _⟩ := h; rfl) (fun cdv A outer s H vs Q E hr h => ?_)
  obtain ⟨r, b, t, p, rfl, R, k⟩ := h
  obtain ⟨⟨dx, ho⟩, ht⟩ := id R
  have nd := sc_read_prime.nd
  have hr1 := hr.mono (show 1 ≤ 2 by decide)
  refine ⟨_, pss_cons (ps_set (i := 1) nd rfl (Or.inl rfl) (pe_op op_sub (pmeth0 (pv 0) T.cl_Reader T.m_Reader_peek (ok_peek T) hr1 pass0) (pgi T.c_ZERO)))
    (pss_cons (ps_if (pt_cmpR op_notIn_seq (pv 1) (pgr T.g_PRIMES) (by with_unfolding_all rfl)) (pss_one (ps_fault T hr.h wish_def (pe_fld (pv 0) rfl) mono_fld)) pss_nil)
    (pss_cons (ps_expr (pmeth0 (pv 0) T.cl_Reader T.m_Reader_step (ok_step T) hr1 pass0))
    (pss_one (ps_ret (pe_bm PySem.F.plainAttrs_tuple PySem.F.slot_tuple_index PySem.F.type_tuple_index mt_tindex (pgr T.g_PRIMES) (pa_cons (pv 1) pa_nil)))))), ?_⟩
  refine ⟨_, rfl, r, dx, _, rfl, ho, rfs_peek _ _, r, b, t, _, rfl, R, _, _, rfl, rfl, ?_⟩
  refine ⟨_, rfl, a.o_PRIMES, _, rfl, .inr (T.t_PRIMES H), rfl, rfl, _, rfl, ?_⟩
  rw [prime_in]
  cases hd : decide (pk (t.drop p) - 48 ∈ primes) with
  | false =>
    refine ifT rfl ?_
    have hz : ¬ pk (t.drop p) - 48 ∈ primes := of_decide_eq_false hd
    have e : prAt p (t.drop p) = .error p := by
      cases el : t.drop p with
      | nil => rfl
      | cons c u =>
        rw [el] at hz
        show (match GF.primeAt c with
          | none => (Except.error p : Lute.Rd Nat)
          | some k => .ok (k, p + 1, u)) = _
        cases ek : GF.primeAt c with
        | none => rfl
        | some k => exact absurd (List.mem_of_getElem? ((prime_byte c).1 k ek)) hz
    rw [e] at k
    exact ⟨_, rfl, r, a.c_Reader, dx, _, _, rfl, ho, T.cl_Reader, T.n_Reader_place, rfs_place _ _, _, rfl, k⟩
  | true =>
    refine ifF rfl ?_
    have hz : pk (t.drop p) - 48 ∈ primes := of_decide_eq_true hd
    cases el : t.drop p with
    | nil =>
      rw [el] at hz
      exact absurd hz (by decide)
    | cons c u =>
      cases ek : GF.primeAt c with
      | none =>
        rw [el] at hz
        exact absurd hz ((prime_byte c).2 ek)
      | some j =>
        have e : prAt p (t.drop p) = .ok (j, p + 1, u) := by
          rw [el]
          show (match GF.primeAt c with
            | none => (Except.error p : Lute.Rd Nat)
            | some k => .ok (k, p + 1, u)) = _
          rw [ek]
        rw [e] at k
        refine ⟨_, rfl, r, dx, _, rfl, ho, rfs_step _ _, r, b, t, _, rfl, R, fun H1 R1 k1 => ?_⟩
        refine ⟨?_, _, rfl, a.o_PRIMES, _, j, rfl, rfl, T.t_PRIMES H1, ?_, k H1 R1 k1⟩
        · exact .inr (.inl ⟨rfl, T.ty_PRIMES⟩)
        · have := (prime_byte c).1 j ek
          exact this
def sp_read_whole (K : PySem.W.Frag) (a : Ad) : Sp := fun vs H Q E => ∃ r b t p, vs = [.ref r] ∧ RdAt K a.c_Reader H r b t p ∧ Out K a r b t H Q E (fun n => .int n) (GF.wholeAt p (t.drop p))
theorem sc_read_whole : FnScope ["reader"] ["reader"] (defScope s_read_whole) := ⟨rfl, rfl, rfl, by decide +kernel, rfl, by decide +kernel, by decide +kernel⟩
theorem whole_no {p : Nat} {l : Lute.Bytes} (h : pk l ≠ 45) : GF.wholeAt p l = match GF.rdNum 48 4 p l with
    | .error e => .error e
    | .ok (n, q, u) => .ok (((n : Nat) : Int), q, u) := by
  cases l with
  | nil => rfl
  | cons c r =>
    show (if c = 45 then _ else _) = _
    rw [if_neg (fun z => h (by rw [z]; rfl))]
    all_goals (cases GF.rdNum 48 4 p (c :: r) <;> rfl)
theorem whole_yes {t : Lute.Bytes} {p q : Nat} (h : pk (t.drop q) = 45) : GF.wholeAt p (t.drop q) = match GF.rdNum 49 4 (p + 1) (t.drop (q + 1)) with
    | .error e => .error e
    | .ok (n, q, u) => .ok (-((n : Nat) : Int), q, u) := by
  cases e : t.drop q with
  | nil => rw [e] at h; cases h
  | cons c r =>
    rw [e] at h
    have hc : c = 45 := UInt8.toNat_inj.mp (by
      have h : (c.toNat : Int) = 45 := h
      show c.toNat = 45
      omega)
    subst hc
    rw [← (drop_next e).1]
    rfl
theorem ok_read_whole (T : Txt K mg a) : Prm P w K mg base (CXr P w (ZT a)) 4 a.read_whole ["reader"] (sp_read_whole K a) := by
  refine prmx T.d_read_whole sc_read_whole (fun vs H Q E h => by obtain ⟨r, b, t, p, rfl, _⟩ := h; rfl) (fun cdv A outer s H vs Q E hr h => ?_)
  obtain ⟨r, b, t, p, rfl, R, k⟩ := h
  obtain ⟨⟨dx, ho⟩, ht⟩ := id R
  have hr1 := hr.mono (show 1 ≤ 3 by decide)
  refine ⟨_, pss_cons (ps_if (pt_cmpR op_ne (pmeth0 (pv 0) T.cl_Reader T.m_Reader_peek (ok_peek T) hr1 pass0) (pgi T.c_MINUS) (nomark _)) (pss_one (ps_ret (pcall (ok_read_number T) hr T.g_read_number wish_def.passes (pa_cons (pv 0) (pa_cons (pgi T.c_ZERO) (pa_cons (pgi T.c_MOST_DIGITS) pa_nil)))))) pss_nil)
    (pss_cons (ps_expr (pmeth0 (pv 0) T.cl_Reader T.m_Reader_step (ok_step T) hr1 pass0))
    (pss_one (ps_ret (pe_un un_neg (pcall (ok_read_number T) hr T.g_read_number wish_def.passes (pa_cons (pv 0) (pa_cons (pgi T.c_ONE) (pa_cons (pgi T.c_MOST_DIGITS) pa_nil)))))))), ?_⟩
  refine ⟨_, rfl, r, dx, _, rfl, ho, rfs_peek _ _, r, b, t, _, rfl, R, rfl, _, rfl, ifB (fun hc => ?_) (fun hc => ?_)⟩
  · have hne : pk (t.drop p) ≠ 45 := by
      intro z
      rw [z] at hc
      simp at hc
    rw [whole_no hne] at k
    refine ⟨_, rfl, r, b, t, p, 48, 4, rfl, by decide, R, ?_⟩
    cases er : GF.rdNum 48 4 p (t.drop p) with
    | error e => rw [er] at k; exact k
    | ok y =>
      obtain ⟨n, q, u⟩ := y
      rw [er] at k
      exact k
  · have heq : pk (t.drop p) = 45 := by
      have : V.int (pk (t.drop p)) = V.int 45 := by simpa using hc
      injection this
    rw [whole_yes heq] at k
    refine ⟨_, rfl, r, dx, _, rfl, ho, rfs_step _ _, r, b, t, _, rfl, R, fun H1 R1 k1 => ?_⟩
    refine ⟨_, rfl, r, b, t, p + 1, 49, 4, rfl, by decide, R1, ?_⟩
    cases er : GF.rdNum 49 4 (p + 1) (t.drop (p + 1)) with
    | error e => rw [er] at k; exact k
    | ok y =>
      obtain ⟨n, q, u⟩ := y
      rw [er] at k
      exact fun H2 R2 k2 => ⟨_, rfl, k H2 R2 (k1.trans k2)⟩
end
end GP
namespace GP
open PySem PySem.Spec PyProof.Rows L2 L3
theorem pk_cons {t : Lute.Bytes} {q : Nat} (c : UInt8) (h : pk (t.drop q) = (c.toNat : Int)) : t.drop q = c :: t.drop (q + 1) := by
  cases e : t.drop q with
  | nil =>
    rw [e] at h
    have h : (256 : Int) = (c.toNat : Int) := h
    have := c.toNat_lt
    omega
  | cons x u =>
    rw [e] at h
    have h : (x.toNat : Int) = (c.toNat : Int) := h
    have hx : x = c := UInt8.toNat_inj.mp (by omega)
    rw [hx, ← (drop_next e).1]
theorem pk_ne {l : Lute.Bytes} {c : UInt8} (h : pk l ≠ (c.toNat : Int)) : ∀ u, l ≠ c :: u := fun u z => h (by rw [z]; rfl)
theorem took_rest {α : Type} {p : Nat} {t : Lute.Bytes} {x : α} {q : Nat} {v : Lute.Bytes} (h : ∃ k, k ≤ (t.drop p).length ∧ q = p + k ∧ v = (t.drop p).drop k) : v = t.drop q := by
  obtain ⟨k, _, rfl, rfl⟩ := h
  rw [List.drop_drop]
theorem whole_rest {p : Nat} {t : Lute.Bytes} {n : Int} {q : Nat} {v : Lute.Bytes} (h : GF.wholeAt p (t.drop p) = .ok (n, q, v)) : v = t.drop q := by
  obtain ⟨k, _, h1, h2, h3⟩ := GF.whole_took p (t.drop p) n q v h
  exact took_rest (x := n) ⟨k, h1, h2, h3⟩
theorem num_rest {lo mx p : Nat} {t : Lute.Bytes} {n q : Nat} {v : Lute.Bytes} (h : GF.rdNum lo mx p (t.drop p) = .ok (n, q, v)) : v = t.drop q := by
  obtain ⟨k, _, h1, h2, h3⟩ := GF.rdNum_took lo mx p (t.drop p) n q v h
  exact took_rest (x := n) ⟨k, h1, h2, h3⟩
theorem Keep.free {r z : Addr} {H H1 : Hp} {o : HO} (k : Keep r H H1) (hr : H1 r = some o) (hz : H1 z = none) : H z = none := by
  cases e : H z with
  | none => rfl
  | some u =>
    have nz : z ≠ r := fun y => by rw [y, hr] at hz; cases hz
    rw [k z u e nz] at hz
    cases hz
/-- what a power is worth -/
theorem pow_no {t : Lute.Bytes} {p : Nat} (h : pk (t.drop p) ≠ 94) : GF.powAt p (t.drop p) = .ok (some (1, 1), p, t.drop p) := GF.powAt_none (pk_ne (c := 94) h)
theorem pow_err {t : Lute.Bytes} {p e : Nat} (h : pk (t.drop p) = 94) (hw : GF.wholeAt (p + 1) (t.drop (p + 1)) = .error e) : GF.powAt p (t.drop p) = .error e := by
  rw [pk_cons 94 h, GF.powAt_caret, hw]
theorem pow_one {t : Lute.Bytes} {p q : Nat} {n : Int} {v : Lute.Bytes} (h : pk (t.drop p) = 94) (hw : GF.wholeAt (p + 1) (t.drop (p + 1)) = .ok (n, q, v)) (hs : pk (t.drop q) ≠ 47) :
    GF.powAt p (t.drop p) = .ok (if n = 0 ∨ n = 1 then none else some (n, 1), q, v) := by
  rw [pk_cons 94 h, GF.powAt_caret, hw]
  have ev := whole_rest hw
  subst ev
  dsimp only
  split
  · rename_i w e
    exact absurd e (pk_ne (c := 47) hs w)
  · rfl
theorem pow_two {t : Lute.Bytes} {p q : Nat} {n : Int} {v : Lute.Bytes} (h : pk (t.drop p) = 94) (hw : GF.wholeAt (p + 1) (t.drop (p + 1)) = .ok (n, q, v)) (hs : pk (t.drop q) = 47) :
    GF.powAt p (t.drop p) = match GF.rdNum 48 4 (q + 1) (t.drop (q + 1)) with
      | .error e => .error e
      | .ok (d, z, u) => .ok (if 2 ≤ d ∧ Nat.gcd n.natAbs d = 1 then some (n, d) else none, z, u) := by
  rw [pk_cons 94 h, GF.powAt_caret, hw]
  have ev := whole_rest hw
  subst ev
  rw [pk_cons 47 hs]
  dsimp only
  cases er : GF.rdNum 48 4 (q + 1) (t.drop (q + 1)) with
  | error e => simp only [er]
  | ok y => simp only [er]
section
variable {P : Program} {w : World} {K : PySem.W.Frag} {mg : Str → Option Value} {base : Heap} {a : Ad}
def OutP (K : PySem.W.Frag) (a : Ad) (r b : Addr) (t : Lute.Bytes) (H : Hp) (Q : VK) (E : XK) (st k : Nat) (res : Lute.Rd (Option (Int × Nat))) : Prop := match res with
  | .error e => Fails a E e
  | .ok (none, _, _) => Fails a E st
  | .ok (some (n, d), q, _) => ∀ H' z, RdAt K a.c_Reader H' r b t q → Keep r H H' → H z = none → H' z = some (.lst (rowV (Lute.powerOf k n d))) → Q (.ref z) H'
def sp_read_power (K : PySem.W.Frag) (a : Ad) : Sp := fun vs H Q E => ∃ r b t p, ∃ st k : Nat, vs = [.ref r, .int (st : Int), .int (k : Int)] ∧ k < 4 ∧ RdAt K a.c_Reader H r b t p ∧ OutP K a r b t H Q E st k (GF.powAt p (t.drop p))
theorem sc_read_power : FnScope ["reader", "start", "position", "n", "d"] ["reader", "start", "position"] (defScope s_read_power) := ⟨rfl, rfl, rfl, by decide +kernel, rfl, by decide +kernel, by decide +kernel⟩
theorem ok_read_power (T : Txt K mg a) : Prm P w K mg base (CXr P w (ZT a)) 5 a.read_power ["reader", "start", "position"] (sp_read_power K a) := by
  refine prmx T.d_read_power sc_read_power (fun vs H Q E h => by obtain ⟨r, b, t, p, st, k, rfl, _⟩ := h; rfl) (fun cdv A outer s H vs Q E hr h => ?_)
  obtain ⟨r, b, t, p, st, j, rfl, hj, R, k⟩ := h
  obtain ⟨⟨dx, ho⟩, ht⟩ := id R
  have nd := sc_read_power.nd
  have hr1 := hr.mono (show 1 ≤ 4 by decide)
  have hr2 := hr.mono (show 2 ≤ 4 by decide)
  have hr3 := hr.mono (show 3 ≤ 4 by decide)
  refine ⟨_, pss_cons (ps_if (pt_cmpR op_ne (pmeth0 (pv 0) T.cl_Reader T.m_Reader_peek (ok_peek T) hr1 pass0) (pgi T.c_CARET) (nomark _)) (pss_one (ps_ret (pcall (ok_factor_of T) hr2 T.g_factor_of pass0 (pa_cons (pv 2) (pa_cons pe_int (pa_cons pe_int pa_nil)))))) pss_nil)
    (pss_cons (ps_expr (pmeth0 (pv 0) T.cl_Reader T.m_Reader_step (ok_step T) hr1 pass0))
    (pss_cons (ps_set (i := 3) nd rfl (Or.inl rfl) (pcall (ok_read_whole T) hr T.g_read_whole wish_def.passes (pa_cons (pv 0) pa_nil)))
    (pss_cons (ps_if (pt_cmpR op_ne (pmeth0 (pv 0) T.cl_Reader T.m_Reader_peek (ok_peek T) hr1 pass0) (pgi T.c_SLASH) (nomark _))
      (pss_cons (ps_if (pw_or (pt_cmpR op_eq (pv 3) pe_int (nomark _)) (pw_or1 (pt_cmpR op_eq (pv 3) pe_int (nomark _)))).pt (pss_one (ps_fault T hr2.h wish_def (pv 1) mono_var)) pss_nil)
      (pss_one (ps_ret (pcall (ok_factor_of T) hr2 T.g_factor_of pass0 (pa_cons (pv 2) (pa_cons (pv 3) (pa_cons pe_int pa_nil))))))) pss_nil)
    (pss_cons (ps_expr (pmeth0 (pv 0) T.cl_Reader T.m_Reader_step (ok_step T) hr1 pass0))
    (pss_cons (ps_set (i := 4) nd rfl (Or.inl rfl) (pcall (ok_read_number T) hr3 T.g_read_number wish_def.passes (pa_cons (pv 0) (pa_cons (pgi T.c_ZERO) (pa_cons (pgi T.c_MOST_DIGITS) pa_nil)))))
    (pss_cons (ps_if (pw_or (pt_cmpR op_lt (pv 4) pe_int (nomark _)) (pw_or1 (pt_cmpR op_ne (pcall (ok_common_factor T) hr1 T.g_common_factor pass0 (pa_cons (pe_lst (pa_cons (pv 3) (pa_cons (pv 4) pa_nil))) pa_nil)) pe_int (nomark _)))).pt (pss_one (ps_fault T hr2.h wish_def (pv 1) mono_var)) pss_nil)
    (pss_one (ps_ret (pcall (ok_factor_of T) hr2 T.g_factor_of pass0 (pa_cons (pv 2) (pa_cons (pv 3) (pa_cons (pv 4) pa_nil)))))))))))), ?_⟩
  -- a factor that is given
  have give : ∀ (n : Int) (d q : Nat) (H1 H0 : Hp), RdAt K a.c_Reader H1 r b t q → Keep r H H1 → Same H1 H0 → (∀ H' z, RdAt K a.c_Reader H' r b t q → Keep r H H' → H z = none → H' z = some (.lst (rowV (Lute.powerOf j n d))) → Q (.ref z) H') → Gives H0 (LuteB.rowOf (Lute.powerOf j n d)) Q := fun n d q H1 H0 R1 k1 S0 g H2 z S2 hz h2 => by
    obtain ⟨dx1, ho1⟩ := R1.ob
    exact g H2 z (R1.same (S0.trans S2)) (k1.trans (Same.keep (S0.trans S2))) (k1.free ho1 (S0.free hz)) h2
  refine ⟨_, rfl, r, dx, _, rfl, ho, rfs_peek _ _, r, b, t, _, rfl, R, rfl, _, rfl, ifB (fun hc => ?_) (fun hc => ?_)⟩
  · have hne : pk (t.drop p) ≠ 94 := by
      intro z
      rw [z] at hc
      simp at hc
    rw [pow_no hne] at k
    exact ⟨_, rfl, j, 1, 1, rfl, hj, give 1 1 p H H R (Keep.refl _ _) (Same.refl _) k⟩
  · have heq : pk (t.drop p) = 94 := by
      have : V.int (pk (t.drop p)) = V.int 94 := by simpa using hc
      injection this
    refine ⟨_, rfl, r, dx, _, rfl, ho, rfs_step _ _, r, b, t, _, rfl, R, fun H1 R1 k1 => ?_⟩
    refine ⟨_, rfl, r, b, t, p + 1, rfl, R1, ?_⟩
    cases ew : GF.wholeAt (p + 1) (t.drop (p + 1)) with
    | error e =>
      rw [pow_err heq ew] at k
      exact k
    | ok y =>
      obtain ⟨n, q, v⟩ := y
      intro H2 R2 k2
      obtain ⟨dx2, ho2⟩ := R2.ob
      refine ⟨_, rfl, r, dx2, _, rfl, ho2, rfs_peek _ _, r, b, t, _, rfl, R2, rfl, _, rfl, ifB (fun hc => ?_) (fun hc => ?_)⟩
      · have hns : pk (t.drop q) ≠ 47 := by
          intro z
          rw [z] at hc
          simp at hc
        rw [pow_one heq ew hns] at k
        refine ⟨_, rfl, rfl, _, rfl, ifB (fun hn => ?_) (fun hn => ?_)⟩
        · have h0 : n = 0 := by
            have : V.int n = V.int 0 := of_decide_eq_true hn
            injection this
          rw [if_pos (.inl h0)] at k
          exact iteT ⟨_, rfl, _, rfl, k⟩
        · have h0 : n ≠ 0 := fun z => of_decide_eq_false hn (by rw [z])
          refine ⟨_, rfl, rfl, _, rfl, ifB (fun hn => ?_) (fun hn => ?_)⟩
          · have h1 : n = 1 := by
              have : V.int n = V.int 1 := of_decide_eq_true hn
              injection this
            rw [if_pos (.inr h1)] at k
            exact ⟨_, rfl, _, rfl, k⟩
          · have h1 : n ≠ 1 := fun z => of_decide_eq_false hn (by rw [z])
            rw [if_neg (by rintro (z | z); exact h0 z; exact h1 z)] at k
            exact ⟨_, rfl, _, rfl, j, n, 1, rfl, hj, give n 1 q H2 H2 R2 (k1.trans k2) (Same.refl _) k⟩
      · have hs : pk (t.drop q) = 47 := by
          have : V.int (pk (t.drop q)) = V.int 47 := by simpa using hc
          injection this
        rw [pow_two heq ew hs] at k
        refine ⟨_, rfl, r, dx2, _, rfl, ho2, rfs_step _ _, r, b, t, _, rfl, R2, fun H3 R3 k3 => ?_⟩
        refine ⟨_, rfl, r, b, t, q + 1, 48, 4, rfl, by decide, R3, ?_⟩
        cases er : GF.rdNum 48 4 (q + 1) (t.drop (q + 1)) with
        | error e =>
          rw [er] at k
          exact k
        | ok y =>
          obtain ⟨d, z, u⟩ := y
          rw [er] at k
          intro H4 R4 k4
          refine ⟨_, rfl, _, _, rfl, rfl, _, rfl, ifB (fun hd => ?_) (fun hd => ?_)⟩
          · have h2 : ¬ 2 ≤ d := by
              have := of_decide_eq_true hd
              omega
            have k : OutP K a r b t H Q E st j (.ok (if 2 ≤ d ∧ Nat.gcd n.natAbs d = 1 then some (n, d) else none, z, u)) := k
            rw [if_neg (fun y => h2 y.1)] at k
            exact iteT ⟨_, rfl, _, rfl, k⟩
          · have h2 : 2 ≤ d := by
              have := of_decide_eq_false hd
              omega
            have k : OutP K a r b t H Q E st j (.ok (if 2 ≤ d ∧ Nat.gcd n.natAbs d = 1 then some (n, d) else none, z, u)) := k
            refine ⟨_, rfl, _, rfl, by show 2 ≤ sizeLine; decide, fun l hl => ⟨l, [n, (d : Int)], rfl, SqL.of upd_same, rfl, _, rfl, ?_⟩⟩
            rw [GF.cf_two]
            refine ifB (fun hg => ?_) (fun hg => ?_)
            · have hg : Nat.gcd n.natAbs d ≠ 1 := by
                intro y
                rw [y] at hg
                simp at hg
              rw [if_neg (fun y => hg y.2)] at k
              exact ⟨_, rfl, _, rfl, k⟩
            · have hg : Nat.gcd n.natAbs d = 1 := by
                have : V.int ((Nat.gcd n.natAbs d : Nat) : Int) = V.int 1 := by simpa using hg
                injection this with this
                omega
              rw [if_pos ⟨h2, hg⟩] at k
              exact ⟨_, rfl, _, rfl, _, rfl, j, n, d, rfl, hj, give n d z H4 _ R4 ((k1.trans k2).trans (k3.trans k4)) (same_new hl) k⟩
end
end GP
namespace GP
open PySem PySem.Spec PyProof.Rows L2 L3

/-- whether a row is an interval -/
def isIv (ns : List Int) : Bool := match ns with
  | [a, b, c, e, d] => [a, b, c, e].all Lute.within && (decide (1 ≤ d) && (decide (d ≤ 24) && GF.cf [a, b, c, e, d] == 1))
  | _ => false
theorem isIv_five (a b c e d : Int) : isIv [a, b, c, e, d] = ([a, b, c, e].all Lute.within && (decide (1 ≤ d) && (decide (d ≤ 24) && GF.cf [a, b, c, e, d] == 1))) := rfl
theorem isIv_len {ns : List Int} (h : ns.length ≠ 5) : isIv ns = false := by
  unfold isIv
  split
  · exact absurd rfl h
  · rfl
theorem within_abs {z : Int} : Lute.within z = !decide ((99 : Int) < (if z < 0 then -z else z)) := by
  unfold Lute.within Lute.MOST
  rw [Bool.eq_iff_iff]
  simp only [Bool.and_eq_true, decide_eq_true_eq, Bool.not_eq_true', decide_eq_false_iff_not]
  split <;> omega
theorem row_ints {ns : List Int} {i : Nat} {y : V} (h : (ns.map V.int)[i]? = some y) : ∃ z, ns[i]? = some z ∧ y = V.int z := by
  rw [List.getElem?_map] at h
  cases e : ns[i]? with
  | none => rw [e] at h; cases h
  | some z => rw [e] at h; exact ⟨z, rfl, (Option.some.inj h).symm⟩
section
variable {P : Program} {w : World} {K : PySem.W.Frag} {mg : Str → Option Value} {base : Heap} {a : Ad}
def sp_is_interval (K : PySem.W.Frag) : Sp := fun vs H Q _ => ∃ p ns, vs = [.ref p] ∧ SqL K H p (ns.map V.int) ∧ ∀ H', Same H H' → Q (.bl (isIv ns)) H'
theorem sc_is_interval : FnScope ["x", "power"] ["x"] (defScope s_is_interval) := ⟨rfl, rfl, rfl, by decide +kernel, rfl, by decide +kernel, by decide +kernel⟩
theorem ok_is_interval (T : Txt K mg a) : Prm P w K mg base CX0 2 a.is_interval ["x"] (sp_is_interval K) := by
  refine prm T.d_is_interval sc_is_interval (fun vs H Q E h => by obtain ⟨p, ns, rfl, _⟩ := h; rfl) (fun cdv A outer s H vs Q E hr h => ?_)
  obtain ⟨p, ns, rfl, hp, k⟩ := h
  have nd := sc_is_interval.nd
  refine ⟨_, pss_cons (ps_if (pt_cmpR op_ne (pe_callB call_len_seq (by rfl) T.b_len PySem.boot_len (pa_cons (pv 0) pa_nil)) pe_int (nomark _)) (pss_one (ps_ret pe_bl)) pss_nil)
    (pss_cons (ps_for PassesOwn.never rfl (pi_list (pe_slice sl_list (pv 0) po_none (po_some pe_int))) (pg_name (i := 1) nd rfl (Or.inl rfl))
      (pss_one (ps_if (pt_cmpR op_gt (pe_callB call_abs (by rfl) T.b_abs PyProof.Rows.boot_abs (pa_cons (pv 1) pa_nil)) (pgi T.c_MOST_POWER) (nomark _)) (pss_one (ps_ret pe_bl)) pss_nil)))
    (pss_cons (ps_if (pw_or (pt_cmpR op_lt (pe_ix ix_list (pv 0) pe_int (fun _ _ => rfl)) pe_int (nomark _)) (pw_or1 (pt_cmpR op_gt (pe_ix ix_list (pv 0) pe_int (fun _ _ => rfl)) (pgi T.c_MOST_DIVISOR) (nomark _)))).pt (pss_one (ps_ret pe_bl)) pss_nil)
    (pss_one (ps_ret (pe_cmpR op_eq (pcall (ok_common_factor T) hr T.g_common_factor pass0 (pa_cons (pv 0) pa_nil)) pe_int (nomark _)))))), ?_⟩
  refine ⟨_, rfl, p, _, rfl, .inl hp, rfl, _, rfl, ifB (fun hc => ?_) (fun hc => ?_)⟩
  · have hl : ns.length ≠ 5 := fun z => by
      rw [List.length_map, z] at hc
      simp at hc
    have := k H (Same.refl H)
    rw [isIv_len hl] at this
    exact this
  · have hl : ns.length = 5 := by
      simp at hc
      omega
    match ns, hl with
    | [za, zb, zc, ze, zd], _ =>
      refine ⟨_, rfl, 4, rfl, p, _, rfl, hp, fun q hq => ?_⟩
      have hS : Same H (upd H q (.lst (cutV (List.map V.int [za, zb, zc, ze, zd]) none (some 4)))) := same_new hq
      have hc4 : cutV (List.map V.int [za, zb, zc, ze, zd]) none (some 4) = [za, zb, zc, ze].map V.int := rfl
      rw [hc4] at hS ⊢
      refine ⟨q, rfl, ⟨_, SqL.of upd_same⟩, for_list (K := K) (a := q) (xs := [za, zb, zc, ze].map V.int) (fun i σ H' => ∃ v1, σ = [some (.ref p), v1] ∧ H' = upd H q (.lst ([za, zb, zc, ze].map V.int)) ∧ ([za, zb, zc, ze].take i).all Lute.within = true)
        ⟨none, rfl, rfl, rfl⟩ (fun i σ H' _ ⟨_, _, e, _⟩ => by rw [e]; exact SqL.of upd_same) ?_ ?_⟩
      · rintro i y σ H' hi ⟨v1, rfl, rfl, hw⟩
        obtain ⟨z, hz, rfl⟩ := row_ints hi
        refine ⟨_, rfl, z, rfl, _, _, rfl, rfl, _, rfl, ifB (fun hc => ?_) (fun hc => ?_)⟩
        · have hn : Lute.within z = false := by
            rw [within_abs]
            simpa using hc
          have hf : isIv [za, zb, zc, ze, zd] = false := by
            have hm : z ∈ [za, zb, zc, ze] := List.mem_of_getElem? hz
            have ha : ([za, zb, zc, ze].all Lute.within) = false := by
              rw [List.all_eq_false]
              exact ⟨z, hm, by rw [hn]; decide⟩
            rw [isIv_five]
            rw [ha]
            rfl
          have := k _ hS
          rw [hf] at this
          exact this
        · have hn : Lute.within z = true := by
            rw [within_abs]
            simpa using hc
          refine ⟨some (.int z), rfl, rfl, ?_⟩
          rw [List.take_add_one, hz, List.all_append, hw]
          simp [hn]
      · rintro σ H' ⟨v1, rfl, rfl, hw⟩
        have hw : ([za, zb, zc, ze].all Lute.within) = true := hw
        have hp' : SqL K (upd H q (.lst ([za, zb, zc, ze].map V.int))) p ([za, zb, zc, ze, zd].map V.int) := hS.seq hp
        have at4 : atI ([za, zb, zc, ze, zd].map V.int) 4 = some (V.int zd) := rfl
        refine ⟨_, rfl, p, _, _, _, rfl, rfl, hp', at4, _, _, rfl, rfl, _, rfl, ifB (fun hc => ?_) (fun hc => ?_)⟩
        · have h1 : zd < 1 := by simpa using hc
          have hf : isIv [za, zb, zc, ze, zd] = false := by
            rw [isIv_five]
            rw [decide_eq_false (show ¬ 1 ≤ zd by omega)]
            simp
          have := k _ hS
          rw [hf] at this
          exact iteT this
        · have h1 : ¬ zd < 1 := by simpa using hc
          refine ⟨_, rfl, p, _, _, _, rfl, rfl, hp', at4, _, _, rfl, rfl, _, rfl, ifB (fun hc => ?_) (fun hc => ?_)⟩
          · have h2 : 24 < zd := by simpa using hc
            have hf : isIv [za, zb, zc, ze, zd] = false := by
              rw [isIv_five]
              rw [decide_eq_false (show ¬ zd ≤ 24 by omega)]
              simp
            have := k _ hS
            rw [hf] at this
            exact this
          · have h2 : ¬ 24 < zd := by simpa using hc
            refine ⟨_, rfl, p, _, rfl, hp', rfl, ?_⟩
            have hf : isIv [za, zb, zc, ze, zd] = decide (V.int ((GF.cf [za, zb, zc, ze, zd] : Nat) : Int) = V.int 1) := by
              rw [isIv_five]
              rw [hw, decide_eq_true (show 1 ≤ zd by omega), decide_eq_true (show zd ≤ 24 by omega), Bool.true_and, Bool.true_and, Bool.true_and, Bool.eq_iff_iff]
              simp
              omega
            have := k _ hS
            rw [hf] at this
            exact this
end
end GP
namespace GP
open PySem PySem.Spec PyProof.Rows L2 L3
/-! ### one turn of the factors -/
theorem facs_step (t : Lute.Bytes) (f least q : Nat) (x : Lute.Iv) : GF.pyFactors (f + 1) least x q (t.drop q) = match prAt q (t.drop q) with
    | .error e => .error e
    | .ok (k, _, _) => match GF.powAt (q + 1) (t.drop (q + 1)) with
      | .error e => .error e
      | .ok (w, q2, _) => if k < least then .error q else match w with
        | none => .error q
        | some (n, d) => if GF.ended (t.drop q2) = true then .ok (x.plus (Lute.powerOf k n d), q2, t.drop q2) else match Lute.want [32] q2 (t.drop q2) with
          | .error e => .error e
          | .ok (_, q3, _) => GF.pyFactors f (k + 1) (x.plus (Lute.powerOf k n d)) q3 (t.drop q3) := by
  cases el : t.drop q with
  | nil => rfl
  | cons c r =>
    have er := (drop_next el).1
    rw [GF.pyFactors, GF.factorAt_eq, ← er]
    show _ = (match (match GF.primeAt c with
      | none => (Except.error q : Lute.Rd Nat)
      | some k => .ok (k, q + 1, r)) with
      | .error e => Except.error e
      | .ok (k, _, _) => _)
    cases ek : GF.primeAt c with
    | none => rfl
    | some k =>
      dsimp only
      cases ep : GF.powAt (q + 1) r with
      | error e => rfl
      | ok y =>
        obtain ⟨w, q2, u⟩ := y
        dsimp only
        have eu : u = t.drop q2 := by
          rw [er] at ep
          obtain ⟨k, h1, h2, h3⟩ := GF.pow_took _ _ _ _ _ ep
          exact took_rest (x := w) ⟨k, h1, h2, h3⟩
        subst eu
        by_cases hk : k < least
        · rw [if_pos hk, if_pos hk]
        · rw [if_neg hk, if_neg hk]
          cases w with
          | none => rfl
          | some nd =>
            obtain ⟨n, d⟩ := nd
            dsimp only
            cases e2 : t.drop q2 with
            | nil => rfl
            | cons c2 v =>
              dsimp only
              show _ = (if (c2 == 10) = true then _ else _)
              by_cases h10 : c2 = 10
              · have hb : (c2 == 10) = true := by simpa using h10
                rw [if_pos h10, if_pos hb]
              · have hb : ¬ ((c2 == 10) = true) := by simpa using h10
                rw [if_neg h10, if_neg hb]
                show _ = (match (if c2 = 32 then (Except.ok ((), q2 + 1, v) : Lute.Rd Unit) else .error q2) with
                  | .error e => Except.error e
                  | .ok (_, q3, _) => GF.pyFactors f (k + 1) (x.plus (Lute.powerOf k n d)) q3 (t.drop q3))
                by_cases h32 : c2 = 32
                · rw [if_pos h32, if_pos h32]
                  dsimp only
                  rw [(drop_next e2).1]
                · rw [if_neg h32, if_neg h32]
/-! ### sizes -/
/-- numbers below a power of two -/
def Bd (B : Nat) (x : Lute.Iv) : Prop := 1 ≤ x.d ∧ ∀ z ∈ LuteB.rowOf x, z.natAbs < 2 ^ B
theorem Bd.small {B : Nat} {x : Lute.Iv} (h : Bd B x) (hB : B ≤ 64) : Small x := by
  refine ⟨h.1, fun z hz => ?_⟩
  have h1 := h.2 z hz
  have h2 : (2 : Nat) ^ B ≤ 2 ^ 64 := Nat.pow_le_pow_right (by decide) hB
  generalize (2 : Nat) ^ B = M at h1 h2
  omega
theorem Bd.mono {B C : Nat} {x : Lute.Iv} (h : Bd B x) (hB : B ≤ C) : Bd C x := ⟨h.1, fun z hz => Nat.lt_of_lt_of_le (h.2 z hz) (Nat.pow_le_pow_right (by decide) hB)⟩
theorem bd_unison : Bd 15 Lute.unison := ⟨by decide, by decide⟩
theorem mul_bd {x y : Int} {m n : Nat} (hx : x.natAbs < 2 ^ m) (hy : y.natAbs < 2 ^ n) : (x * y).natAbs < 2 ^ (m + n) := by
  rw [Int.natAbs_mul, Nat.pow_add]
  exact Nat.mul_lt_mul'' hx hy
theorem Bd.plus {B C : Nat} {x y : Lute.Iv} (hx : Bd B x) (hy : Bd C y) : Bd (B + C + 1) (x.plus y) := by
  have sd := GF.sum_d hx.1 hy.1
  refine ⟨GF.plus_d hx.1 hy.1, fun z hz => ?_⟩
  rw [GF.plus_eq, GF.low_row] at hz
  obtain ⟨z', hz', rfl⟩ := List.mem_map.mp hz
  refine Nat.lt_of_le_of_lt (Int.natAbs_ediv_le_natAbs _ _) ?_
  have dx : ((x.d : Int)).natAbs < 2 ^ B := hx.2 _ (List.mem_of_getElem? (row_d x))
  have dy : ((y.d : Int)).natAbs < 2 ^ C := hy.2 _ (List.mem_of_getElem? (row_d y))
  have two : ∀ u v : Int, u ∈ LuteB.rowOf x → v ∈ LuteB.rowOf y → (u * (y.d : Int) + v * (x.d : Int)).natAbs < 2 ^ (B + C + 1) := fun u v hu hv => by
    have h1 := mul_bd (hx.2 u hu) dy
    have h2 := mul_bd (hy.2 v hv) dx
    have e : C + B = B + C := Nat.add_comm _ _
    rw [e] at h2
    have h3 := Int.natAbs_add_le (u * (y.d : Int)) (v * (x.d : Int))
    rw [Nat.pow_succ]
    omega
  have mx : ∀ {i : Nat} {u : Int}, (LuteB.rowOf x)[i]? = some u → u ∈ LuteB.rowOf x := fun h => List.mem_of_getElem? h
  have my : ∀ {i : Nat} {u : Int}, (LuteB.rowOf y)[i]? = some u → u ∈ LuteB.rowOf y := fun h => List.mem_of_getElem? h
  have hz' : z' ∈ [(GF.sumIv x y).a, (GF.sumIv x y).b, (GF.sumIv x y).c, (GF.sumIv x y).e, ((GF.sumIv x y).d : Int)] := hz'
  simp only [List.mem_cons, List.not_mem_nil, or_false] at hz'
  rcases hz' with rfl | rfl | rfl | rfl | rfl
  · exact two x.a y.a (mx (i := 0) rfl) (my (i := 0) rfl)
  · exact two x.b y.b (mx (i := 1) rfl) (my (i := 1) rfl)
  · exact two x.c y.c (mx (i := 2) rfl) (my (i := 2) rfl)
  · exact two x.e y.e (mx (i := 3) rfl) (my (i := 3) rfl)
  · have h1 := mul_bd dx dy
    have e : (((GF.sumIv x y).d : Nat) : Int) = (x.d : Int) * (y.d : Int) := Int.natCast_mul _ _
    rw [e, Nat.pow_succ]
    omega
theorem pow_bd {t : Lute.Bytes} {p q : Nat} {n : Int} {d : Nat} {u : Lute.Bytes} (h : GF.powAt p (t.drop p) = .ok (some (n, d), q, u)) (k : Nat) : Bd 14 (Lute.powerOf k n d) := by
  have key : n.natAbs < 10000 ∧ 1 ≤ d ∧ d < 10000 := by
    by_cases hc : pk (t.drop p) = 94
    · cases ew : GF.wholeAt (p + 1) (t.drop (p + 1)) with
      | error e =>
        rw [pow_err hc ew] at h
        cases h
      | ok y =>
        obtain ⟨m, q1, v⟩ := y
        have hm := GF.whole_lt ew
        by_cases hs : pk (t.drop q1) = 47
        · rw [pow_two hc ew hs] at h
          cases er : GF.rdNum 48 4 (q1 + 1) (t.drop (q1 + 1)) with
          | error e => rw [er] at h; cases h
          | ok y =>
            obtain ⟨d1, z, u1⟩ := y
            rw [er] at h
            have hd := (GF.rdNum_lt (by decide) er).1
            dsimp only at h
            split at h
            · rename_i hh
              cases h
              exact ⟨hm, by omega, by simpa using hd⟩
            · cases h
        · rw [pow_one hc ew hs] at h
          split at h
          · cases h
          · cases h
            exact ⟨hm, by decide, by decide⟩
    · rw [pow_no hc] at h
      cases h
      decide
  obtain ⟨h1, h2, h3⟩ := key
  refine ⟨h2, fun z hz => ?_⟩
  have hz : z ∈ [(if k = 0 then n else 0), (if k = 1 then n else 0), (if k = 2 then n else 0), (if k = 3 then n else 0), (d : Int)] := hz
  have e14 : (2 : Nat) ^ 14 = 16384 := by decide
  rw [e14]
  simp only [List.mem_cons, List.not_mem_nil, or_false] at hz
  rcases hz with rfl | rfl | rfl | rfl | rfl
  · split <;> omega
  · split <;> omega
  · split <;> omega
  · split <;> omega
  · omega
theorem isIv_row {y : Lute.Iv} (h : 1 ≤ y.d) : isIv (LuteB.rowOf y) = y.ok := by
  show isIv [y.a, y.b, y.c, y.e, (y.d : Int)] = _
  rw [isIv_five, show GF.cf [y.a, y.b, y.c, y.e, (y.d : Int)] = y.common from GF.cf_five y]
  unfold Lute.Iv.ok Lute.PARTS
  rw [Bool.eq_iff_iff]
  simp only [List.all_cons, List.all_nil, Bool.and_true, Bool.and_eq_true, decide_eq_true_eq]
  constructor
  · rintro ⟨⟨a1, a2, a3, a4⟩, b1, b2, b3⟩
    exact ⟨a1, a2, a3, a4, h, by omega, b3⟩
  · rintro ⟨a1, a2, a3, a4, b1, b2, b3⟩
    exact ⟨⟨a1, a2, a3, a4⟩, by omega, by omega, b3⟩
section
variable {P : Program} {w : World} {K : PySem.W.Frag} {mg : Str → Option Value} {base : Heap} {a : Ad}
def OutL (K : PySem.W.Frag) (a : Ad) (r b : Addr) (t : Lute.Bytes) (H : Hp) (Q : VK) (E : XK) (res : Except Nat (Lute.Iv × Nat × Lute.Bytes)) : Prop := match res with
  | .error e => Fails a E e
  | .ok (y, q, _) => ∀ H' z, RdAt K a.c_Reader H' r b t q → Keep r H H' → H z = none → H' z = some (.lst (rowV y)) → 1 ≤ y.d → Q (.ref z) H'
def sp_read_factors (K : PySem.W.Frag) (a : Ad) : Sp := fun vs H Q E => ∃ r b t p, vs = [.ref r] ∧ RdAt K a.c_Reader H r b t p ∧ OutL K a r b t H Q E (GF.pyFactors ((t.drop p).length + 1) 0 Lute.unison p (t.drop p))
theorem sc_read_factors : FnScope ["reader", "x", "before", "start", "position", "factor"] ["reader"] (defScope s_read_factors) := ⟨rfl, rfl, rfl, by decide +kernel, rfl, by decide +kernel, by decide +kernel⟩
theorem ok_read_factors (T : Txt K mg a) : Prm P w K mg base (CXr P w (ZT a)) 6 a.read_factors ["reader"] (sp_read_factors K a) := by
  refine prmx T.d_read_factors sc_read_factors (fun vs H Q E h => by obtain ⟨r, b, t, p, rfl, _⟩ := h; rfl) (fun cdv A outer s H vs Q E hr h => ?_)
  obtain ⟨r, b, t, p, rfl, R, k⟩ := h
  have nd := sc_read_factors.nd
  have hr1 := hr.mono (show 1 ≤ 5 by decide)
  have hr2 := hr.mono (show 2 ≤ 5 by decide)
  have hr3 := hr.mono (show 3 ≤ 5 by decide)
  refine ⟨_, pss_cons (ps_set (i := 1) nd rfl (Or.inl rfl) (pcall0 (ok_unison T) hr1 T.g_unison pass0))
    (pss_cons (ps_set (i := 2) nd rfl (Or.inl rfl) (pe_un un_neg pe_int))
    (pss_one (ps_while own_def (pt_val pe_bl)
      (pss_cons (ps_set (i := 3) nd rfl (Or.inl rfl) (pe_fld (pv 0) rfl))
      (pss_cons (ps_set (i := 4) nd rfl (Or.inl rfl) (pcall (ok_read_prime T) hr3 T.g_read_prime wish_def.passes (pa_cons (pv 0) pa_nil)))
      (pss_cons (ps_set (i := 5) nd rfl (Or.inl rfl) (pcall (ok_read_power T) hr T.g_read_power wish_def.passes (pa_cons (pv 0) (pa_cons (pv 3) (pa_cons (pv 4) pa_nil)))))
      (pss_cons (ps_if (pt_cmpR op_le (pv 4) (pv 2) (nomark _)) (pss_one (ps_fault T hr2.h wish_def (pv 3) mono_var)) pss_nil)
      (pss_cons (ps_set (i := 1) nd rfl (Or.inl rfl) (pcall (ok_upon T) hr2 T.g_upon pass0 (pa_cons (pv 1) (pa_cons (pv 5) pa_nil))))
      (pss_cons (ps_if (pt_val (pcall (ok_is_behind T) hr2 T.g_is_behind pass0 (pa_cons (pv 0) pa_nil))) (pss_one (ps_ret (pv 1))) pss_nil)
      (pss_cons (ps_expr (pcall (ok_expect T) hr3 T.g_expect wish_def.passes (pa_cons (pv 0) (pa_cons pe_str pa_nil))))
      (pss_one (ps_set (i := 2) nd rfl (Or.inl rfl) (pv 4))))))))))))), ?_⟩
  -- x = unison(); before = -1
  refine ⟨rfl, fun H0 z0 S0 hz0 h0 => ?_⟩
  refine ⟨_, rfl, ?_⟩
  refine ⟨fun f σ H1 => ∃ (x : Lute.Iv) (least q : Nat) (z : Addr) (v3 v4 v5 : Option V), σ = [some (.ref r), some (.ref z), some (.int ((least : Int) - 1)), v3, v4, v5] ∧ RdAt K a.c_Reader H1 r b t q ∧ Keep r H H1 ∧ H z = none ∧ H1 z = some (.lst (rowV x)) ∧ least ≤ 4 ∧ Bd (15 * (least + 1)) x ∧
      (t.drop q).length < f ∧ OutL K a r b t H Q E (GF.pyFactors f least x q (t.drop q)),
    ⟨_, Lute.unison, 0, p, z0, none, none, none, rfl, R.same S0, Same.keep S0, hz0, h0, by decide, bd_unison, Nat.lt_succ_self _, k⟩, ?_⟩
  rintro f σ H1 ⟨x, least, q, z, v3, v4, v5, rfl, R1, k1, hz, hx, hl4, bd, hf, k⟩
  obtain ⟨dx1, ho1⟩ := R1.ob
  refine ⟨true, rfl, iteT ?_⟩
  refine ⟨fun σ' H2 => ∃ (x : Lute.Iv) (least q : Nat) (z : Addr) (v3 v4 v5 : Option V), σ' = [some (.ref r), some (.ref z), some (.int ((least : Int) - 1)), v3, v4, v5] ∧ RdAt K a.c_Reader H2 r b t q ∧ Keep r H H2 ∧ H z = none ∧ H2 z = some (.lst (rowV x)) ∧ least ≤ 4 ∧ Bd (15 * (least + 1)) x ∧
      (t.drop q).length < f - 1 ∧ OutL K a r b t H Q E (GF.pyFactors (f - 1) least x q (t.drop q)),
    fun σ' H2 ⟨x, least, q, z, v3, v4, v5, e1, e2, e3, e4, e5, e6, e7, e8, e9⟩ => ⟨f - 1, by omega, x, least, q, z, v3, v4, v5, e1, e2, e3, e4, e5, e6, e7, e8, e9⟩, ?_⟩
  obtain ⟨f', rfl⟩ : ∃ f', f = f' + 1 := ⟨f - 1, by omega⟩
  rw [facs_step] at k
  -- start = reader.place
  refine ⟨_, rfl, r, a.c_Reader, dx1, _, _, rfl, ho1, T.cl_Reader, T.n_Reader_place, rfs_place _ _, ?_⟩
  -- position = read_prime(reader)
  refine ⟨_, rfl, r, b, t, q, rfl, R1, ?_⟩
  cases ep : prAt q (t.drop q) with
  | error e =>
    rw [ep] at k
    exact k
  | ok y =>
    obtain ⟨j, q1, u1⟩ := y
    have hq1 : q1 = q + 1 ∧ j < 4 := by
      cases el : t.drop q with
      | nil => rw [el] at ep; cases ep
      | cons c u =>
        rw [el] at ep
        have ep : (match GF.primeAt c with
          | none => (Except.error q : Lute.Rd Nat)
          | some k => .ok (k, q + 1, u)) = .ok (j, q1, u1) := ep
        cases ek : GF.primeAt c with
        | none => rw [ek] at ep; cases ep
        | some k =>
          rw [ek] at ep
          cases ep
          refine ⟨rfl, ?_⟩
          have := (prime_byte c).1 j ek
          exact (List.getElem?_eq_some_iff.mp this).1
    obtain ⟨rfl, hj⟩ := hq1
    rw [ep] at k
    dsimp only at k
    intro H2 R2 k2
    -- factor = read_power(reader, start, position)
    refine ⟨_, rfl, _, rfl, _, rfl, r, b, t, q + 1, q, j, rfl, hj, R2, ?_⟩
    cases eo : GF.powAt (q + 1) (t.drop (q + 1)) with
    | error e =>
      rw [eo] at k
      exact k
    | ok y =>
      obtain ⟨wo, q2, u2⟩ := y
      rw [eo] at k
      dsimp only at k
      cases wo with
      | none =>
        have : Fails a E q := by
          dsimp only at k
          split at k
          · exact k
          · exact k
        exact this
      | some nd =>
        obtain ⟨n, d⟩ := nd
        intro H3 zf R3 k3 hzf hf3
        have bdf := pow_bd eo j
        have kk := k1.trans (k2.trans k3)
        have nzr : z ≠ r := ne_of hx ho1 (by intro y; cases y)
        have hx3 : H3 z = some (.lst (rowV x)) := k3 _ _ (k2 _ _ hx nzr) nzr
        -- if position <= before
        refine ⟨_, rfl, _, rfl, _, _, rfl, rfl, _, rfl, ifB (fun hc => ?_) (fun hc => ?_)⟩
        · have hk : j < least := by
            have := of_decide_eq_true hc
            omega
          rw [if_pos hk] at k
          exact ⟨_, rfl, _, rfl, k⟩
        · have hk : ¬ j < least := by
            have := of_decide_eq_false hc
            omega
          rw [if_neg hk] at k
          dsimp only at k
          -- x = upon(x, factor)
          refine ⟨_, rfl, _, rfl, z, zf, x, Lute.powerOf j n d, rfl, SqL.of hx3, SqL.of hf3, bd.small (by omega), bdf.small (by decide), fun H4 z4 S4 hz4 h4 => ?_⟩
          obtain ⟨dx3, ho3⟩ := R3.ob
          have R4 := R3.same S4
          have k4 : Keep r H H4 := kk.trans (Same.keep S4)
          have bd4 : Bd (15 * (j + 1 + 1)) (x.plus (Lute.powerOf j n d)) := (bd.plus bdf).mono (by omega)
          -- if is_behind(reader): return x
          refine ⟨_, rfl, r, b, t, q2, rfl, R4, _, rfl, ifB (fun he => ?_) (fun he => ?_)⟩
          · rw [if_pos he] at k
            exact ⟨_, rfl, k H4 z4 R4 k4 (kk.free ho3 hz4) h4 bd4.1⟩
          · rw [if_neg (by rw [he]; decide)] at k
            -- expect(reader, " ")
            refine ⟨_, rfl, r, b, t, q2, _, [32], rfl, R4, rfl, ?_⟩
            cases ew : Lute.want [32] q2 (t.drop q2) with
            | error e =>
              rw [ew] at k
              exact k
            | ok y =>
              obtain ⟨_, q3, u3⟩ := y
              rw [ew] at k
              dsimp only at k
              obtain ⟨w1, w2, w3⟩ := GF.want_took [32] q2 (t.drop q2) _ q3 u3 ew
              have w2 : q3 = q2 + 1 := w2
              subst w2
              intro H5 R5 k5
              have nzr4 : z4 ≠ r := ne_of h4 (S4 _ _ ho3) (by intro y; cases y)
              refine ⟨_, rfl, x.plus (Lute.powerOf j n d), j + 1, q2 + 1, z4, some (.int (q : Int)), some (.int (j : Int)), some (.ref zf), ?_, R5, k4.trans k5, kk.free ho3 hz4, k5 _ _ h4 nzr4, by omega, bd4, ?_, k⟩
              · rw [show (((j + 1 : Nat) : Int) - 1) = (j : Int) from by omega]
                rfl
              · have hq2 : q + 1 ≤ q2 := by
                  obtain ⟨m, _, h2, _⟩ := GF.pow_took _ _ _ _ _ eo
                  omega
                have w1 : 1 ≤ (t.drop q2).length := w1
                rw [List.length_drop] at w1 hf ⊢
                omega
/-! ### read_interval -/
def sp_read_interval (K : PySem.W.Frag) (a : Ad) : Sp := fun vs H Q E => ∃ r b t p, vs = [.ref r] ∧ RdAt K a.c_Reader H r b t p ∧ OutL K a r b t H Q E (GF.readPy p (t.drop p))
theorem sc_read_interval : FnScope ["reader", "x"] ["reader"] (defScope s_read_interval) := ⟨rfl, rfl, rfl, by decide +kernel, rfl, by decide +kernel, by decide +kernel⟩
theorem readPy_one {t : Lute.Bytes} {p : Nat} (h : pk (t.drop p) = 49) : GF.readPy p (t.drop p) = if GF.ended (t.drop (p + 1)) = true then .ok (Lute.unison, p + 1, t.drop (p + 1)) else .error (p + 1) := by
  rw [pk_cons 49 h]
  rfl
theorem readPy_else {l : Lute.Bytes} {p : Nat} (h : pk l ≠ 49) : GF.readPy p l = match GF.pyFactors (l.length + 1) 0 Lute.unison p l with
    | .error e => .error e
    | .ok (y, z, v) => if y.ok = true then .ok (y, z, v) else .error z := by
  unfold GF.readPy
  split
  · rename_i r
    exact absurd rfl (pk_ne (c := 49) h r)
  · rfl
theorem ok_read_interval (T : Txt K mg a) : Prm P w K mg base (CXr P w (ZT a)) 7 a.read_interval ["reader"] (sp_read_interval K a) := by
  refine prmx T.d_read_interval sc_read_interval (fun vs H Q E h => by obtain ⟨r, b, t, p, rfl, _⟩ := h; rfl) (fun cdv A outer s H vs Q E hr h => ?_)
  obtain ⟨r, b, t, p, rfl, R, k⟩ := h
  obtain ⟨dx, ho⟩ := R.ob
  have nd := sc_read_interval.nd
  have hr1 := hr.mono (show 1 ≤ 6 by decide)
  have hr2 := hr.mono (show 2 ≤ 6 by decide)
  refine ⟨_, pss_cons (ps_if (pt_cmpR op_eq (pmeth0 (pv 0) T.cl_Reader T.m_Reader_peek (ok_peek T) hr1 pass0) (pgi T.c_ONE) (nomark _))
      (pss_cons (ps_expr (pmeth0 (pv 0) T.cl_Reader T.m_Reader_step (ok_step T) hr1 pass0))
      (pss_cons (ps_if (pt_not (pt_val (pcall (ok_is_behind T) hr2 T.g_is_behind pass0 (pa_cons (pv 0) pa_nil)))) (pss_one (ps_fault T hr2.h wish_def (pe_fld (pv 0) rfl) mono_fld)) pss_nil)
      (pss_one (ps_ret (pcall0 (ok_unison T) hr1 T.g_unison pass0))))) pss_nil)
    (pss_cons (ps_set (i := 1) nd rfl (Or.inl rfl) (pcall (ok_read_factors T) hr T.g_read_factors wish_def.passes (pa_cons (pv 0) pa_nil)))
    (pss_cons (ps_if (pt_not (pt_val (pcall (ok_is_interval T) hr2 T.g_is_interval pass0 (pa_cons (pv 1) pa_nil)))) (pss_one (ps_fault T hr2.h wish_def (pe_fld (pv 0) rfl) mono_fld)) pss_nil)
    (pss_one (ps_ret (pv 1))))), ?_⟩
  refine ⟨_, rfl, r, dx, _, rfl, ho, rfs_peek _ _, r, b, t, _, rfl, R, rfl, _, rfl, ifB (fun hc => ?_) (fun hc => ?_)⟩
  · have h1 : pk (t.drop p) = 49 := by
      have : V.int (pk (t.drop p)) = V.int 49 := of_decide_eq_true hc
      injection this
    rw [readPy_one h1] at k
    refine ⟨_, rfl, r, dx, _, rfl, ho, rfs_step _ _, r, b, t, _, rfl, R, fun H1 R1 k1 => ?_⟩
    obtain ⟨dx1, ho1⟩ := R1.ob
    refine ⟨_, rfl, r, b, t, p + 1, rfl, R1, _, rfl, ?_⟩
    cases he : GF.ended (t.drop (p + 1)) with
    | false =>
      rw [if_neg (by rw [he]; decide)] at k
      exact iteT ⟨_, rfl, r, a.c_Reader, dx1, _, _, rfl, ho1, T.cl_Reader, T.n_Reader_place, rfs_place _ _, _, rfl, k⟩
    | true =>
      rw [if_pos he] at k
      refine iteF ⟨rfl, fun H2 z S2 hz h2 => ?_⟩
      exact k H2 z (R1.same S2) (k1.trans (Same.keep S2)) (k1.free ho1 hz) h2 (by decide)
  · have h1 : pk (t.drop p) ≠ 49 := fun z => of_decide_eq_false hc (by rw [z])
    rw [readPy_else h1] at k
    refine ⟨_, rfl, r, b, t, p, rfl, R, ?_⟩
    cases ef : GF.pyFactors ((t.drop p).length + 1) 0 Lute.unison p (t.drop p) with
    | error e =>
      rw [ef] at k
      exact k
    | ok y =>
      obtain ⟨y, q, v⟩ := y
      rw [ef] at k
      dsimp only at k
      intro H1 z R1 k1 hz h1 yd
      refine ⟨_, rfl, z, _, rfl, SqL.of h1, fun H2 S2 => ⟨_, rfl, ?_⟩⟩
      rw [isIv_row yd]
      have R2 := R1.same S2
      obtain ⟨dx2, ho2⟩ := R2.ob
      cases hy : y.ok with
      | false =>
        rw [if_neg (by rw [hy]; decide)] at k
        exact iteT ⟨_, rfl, r, a.c_Reader, dx2, _, _, rfl, ho2, T.cl_Reader, T.n_Reader_place, rfs_place _ _, _, rfl, k⟩
      | true =>
        rw [if_pos hy] at k
        exact iteF ⟨_, rfl, k H2 z R2 (k1.trans (Same.keep S2)) hz (S2 _ _ h1) yd⟩
end
end GP
namespace GP
open PySem PySem.Spec PyProof.Rows L2 L3
/-- a product of great numbers -/
def CMulB (i j : Int) : Prop := ∃ m n : Nat, i.natAbs < 2 ^ m ∧ j.natAbs < 2 ^ n ∧ m + n ≤ 134217728
theorem bits_le {i : Int} {m : Nat} (h : i.natAbs < 2 ^ m) : Builtin.Int.intBits i ≤ m := by
  unfold Builtin.Int.intBits
  split
  · exact Nat.zero_le _
  · rename_i q
    have h0 : i.natAbs ≠ 0 := fun z => q (by simp; omega)
    have := (Nat.log2_lt h0).mpr h
    omega
theorem op_mulB {X : Cx} : OpR X (binaryOp .Mult) (rI CMulB fun i j => .int (i * j)) := opI fun i j _ _ _ _ _ hc q => by
  obtain ⟨m, n, h1, h2, h3⟩ := hc
  exact mul_int q (IntMulOk.of_le (bits_le h1) (bits_le h2) h3)
section
variable {P : Program} {w : World} {K : PySem.W.Frag} {mg : Str → Option Value} {base : Heap} {a : Ad}
def sp_raised : Sp := fun vs H Q _ => ∃ b n B : Nat, vs = [.int b, .int n] ∧ b < 2 ^ B ∧ B * n ≤ 60000000 ∧ Q (.int ((b ^ n : Nat) : Int)) H
theorem sc_raised : FnScope ["base", "power", "product"] ["base", "power"] (defScope s_raised) := ⟨rfl, rfl, rfl, by decide +kernel, rfl, by decide +kernel, by decide +kernel⟩
theorem ok_raised (T : Txt K mg a) : Prm P w K mg base CX0 1 a.raised ["base", "power"] sp_raised := by
  refine prm T.d_raised sc_raised (fun vs H Q E h => by obtain ⟨b, n, B, rfl, _⟩ := h; rfl) (fun cdv A outer s H vs Q E hr h => ?_)
  obtain ⟨b, n, B, rfl, hB, hM, k⟩ := h
  have nd := sc_raised.nd
  refine ⟨_, pss_cons (ps_set (i := 2) nd rfl (Or.inl rfl) pe_int)
    (pss_cons (ps_while PassesOwn.never (pt_cmpR op_gt (pv 1) pe_int (nomark _))
      (pss_cons (ps_if (pt_cmpR op_eq (pe_op op_mod (pv 1) pe_int) pe_int (nomark _)) (pss_one (ps_set (i := 2) nd rfl (Or.inl rfl) (pe_op op_mulB (pv 2) (pv 0)))) pss_nil)
      (pss_cons (ps_set (i := 0) nd rfl (Or.inl rfl) (pe_op op_mulB (pv 0) (pv 0)))
      (pss_one (ps_set (i := 1) nd rfl (Or.inl rfl) (pe_op op_fdiv (pv 1) pe_int))))))
    (pss_one (ps_ret (pv 2)))), ?_⟩
  refine ⟨fun m σ H' => ∃ bb pp cc B C : Nat, σ = [some (.int bb), some (.int pp), some (.int cc)] ∧ H' = H ∧ cc * bb ^ pp = b ^ n ∧ bb < 2 ^ B ∧ cc < 2 ^ C ∧ C + B * pp ≤ 60000001 ∧ m = pp,
    ⟨n, b, n, 1, B, 1, rfl, rfl, Nat.one_mul _, hB, by decide, by omega, rfl⟩, ?_⟩
  rintro m σ H' ⟨bb, pp, cc, B, C, rfl, rfl, he, h1, h2, h3, rfl⟩
  refine ⟨_, rfl, _, _, rfl, rfl, _, rfl, ifB (fun hc => ?_) (fun hc => ?_)⟩
  · have hp : 0 < m := by
      have : (0 : Int) < (m : Int) := by simpa using hc
      omega
    refine ⟨fun σ' H'' => ∃ bb pp cc B C : Nat, σ' = [some (.int bb), some (.int pp), some (.int cc)] ∧ H'' = H' ∧ cc * bb ^ pp = b ^ n ∧ bb < 2 ^ B ∧ cc < 2 ^ C ∧ C + B * pp ≤ 60000001 ∧ pp < m,
      fun σ' H'' ⟨bb, pp, cc, B, C, e1, e2, e3, e4, e5, e6, e7⟩ => ⟨pp, e7, bb, pp, cc, B, C, e1, e2, e3, e4, e5, e6, rfl⟩, ?_⟩
    have hB1 : B ≤ B * m := Nat.le_mul_of_pos_right _ hp
    have hsq : bb * bb < 2 ^ (2 * B) := by
      rw [Nat.two_mul, Nat.pow_add]
      exact Nat.mul_lt_mul'' h1 h1
    have hhalf : 2 * B * (m / 2) ≤ B * m := by
      have : 2 * B * (m / 2) = B * (2 * (m / 2)) := by rw [Nat.mul_comm 2 B, Nat.mul_assoc]
      rw [this]
      exact Nat.mul_le_mul_left _ (by omega)
    have hdiv : (m : Int) / 2 = ((m / 2 : Nat) : Int) := rfl
    have next : ∀ cc' C' : Nat, cc' * (bb * bb) ^ (m / 2) = b ^ n → cc' < 2 ^ C' → C' + 2 * B * (m / 2) ≤ 60000001 →
        ∃ bb_1 pp cc_1 B C : Nat, ([some (V.int ((bb : Int) * (bb : Int))), some (V.int ((m : Int) / 2)), some (V.int (cc' : Int))] : L2.St) = [some (.int bb_1), some (.int pp), some (.int cc_1)] ∧ H' = H' ∧ cc_1 * bb_1 ^ pp = b ^ n ∧ bb_1 < 2 ^ B ∧ cc_1 < 2 ^ C ∧ C + B * pp ≤ 60000001 ∧ pp < m :=
      fun cc' C' e1 e2 e3 => ⟨bb * bb, m / 2, cc', 2 * B, C', by rw [Int.natCast_mul]; rfl, rfl, e1, hsq, e2, e3, Nat.div_lt_self hp (by decide)⟩
    have sq : (bb * bb) ^ (m / 2) = bb ^ (2 * (m / 2)) := by rw [← Nat.pow_two, ← Nat.pow_mul]
    refine ⟨_, rfl, _, _, rfl, rfl, (by show (0 : Int) < 2; decide), rfl, _, rfl, ifB (fun hc => ?_) (fun hc => ?_)⟩
    · have ho : m % 2 = 1 := by
        have : (m : Int) % 2 = 1 := by simpa using hc
        omega
      refine ⟨_, rfl, _, rfl, _, _, rfl, rfl, ⟨C, B, by simpa using h2, by simpa using h1, by omega⟩, _, rfl, _, rfl, _, _, rfl, rfl, ⟨B, B, by simpa using h1, by simpa using h1, by omega⟩, _, rfl, _, _, rfl, rfl, ⟨by decide, by decide⟩, ?_⟩
      have r := next (cc * bb) (C + B) ?_ ?_ ?_
      · rw [Int.natCast_mul] at r
        exact r
      · rw [sq, Nat.mul_assoc, ← he]
        have : m = 2 * (m / 2) + 1 := by omega
        conv => rhs; rw [this, Nat.pow_succ]
        rw [Nat.mul_comm bb]
      · rw [Nat.pow_add]
        exact Nat.mul_lt_mul'' h2 h1
      · have : B * m = 2 * B * (m / 2) + B := by
          have e : m = 2 * (m / 2) + 1 := by omega
          conv => lhs; rw [e]
          rw [Nat.mul_add, Nat.mul_one, ← Nat.mul_assoc, Nat.mul_comm B 2]
        omega
    · have ho : m % 2 = 0 := by
        have : ¬ (m : Int) % 2 = 1 := by simpa using hc
        omega
      refine ⟨_, rfl, _, rfl, _, _, rfl, rfl, ⟨B, B, by simpa using h1, by simpa using h1, by omega⟩, _, rfl, _, _, rfl, rfl, ⟨by decide, by decide⟩, ?_⟩
      refine next cc C ?_ h2 (by omega)
      rw [sq, ← he]
      have : 2 * (m / 2) = m := by omega
      rw [this]
  · have hp : m = 0 := by
      have : ¬ (0 : Int) < (m : Int) := by simpa using hc
      omega
    subst hp
    rw [Nat.pow_zero, Nat.mul_one] at he
    refine ⟨_, rfl, ?_⟩
    rw [he]
    exact k
end
end GP
namespace GP
open PySem PySem.Spec PyProof.Rows L2 L3
/-- the product of the powers, as far as it has come -/
def PA (zs : List Int) (i : Nat) : Nat := ((([2, 3, 5, 7] : List Nat).zip zs).take i).foldl (fun acc y => acc * y.1 ^ y.2.toNat) 1
theorem PA_four (a b c e : Int) : PA [a, b, c, e] 4 = 2 ^ a.toNat * 3 ^ b.toNat * 5 ^ c.toNat * 7 ^ e.toNat := by
  show 1 * 2 ^ a.toNat * 3 ^ b.toNat * 5 ^ c.toNat * 7 ^ e.toNat = _
  rw [Nat.one_mul]
theorem PA_step {zs : List Int} {i pr : Nat} {z : Int} (h1 : ([2, 3, 5, 7] : List Nat)[i]? = some pr) (h2 : zs[i]? = some z) : PA zs (i + 1) = PA zs i * pr ^ z.toNat := by
  unfold PA
  have e : (([2, 3, 5, 7] : List Nat).zip zs)[i]? = some (pr, z) := by
    rw [List.getElem?_zip_eq_some]
    exact ⟨h1, h2⟩
  rw [List.take_add_one, e, List.foldl_append]
  rfl
theorem prime_at {i : Nat} (h : i < 4) : ∃ pr : Nat, ([2, 3, 5, 7] : List Nat)[i]? = some pr ∧ ([2, 3, 5, 7] : List Int)[i]? = some (pr : Int) ∧ pr < 2 ^ 3 := by
  match i, h with
  | 0, _ => exact ⟨2, rfl, rfl, by decide⟩
  | 1, _ => exact ⟨3, rfl, rfl, by decide⟩
  | 2, _ => exact ⟨5, rfl, rfl, by decide⟩
  | 3, _ => exact ⟨7, rfl, rfl, by decide⟩
theorem PA_lt {zs : List Int} (hb : ∀ z ∈ zs, z.natAbs ≤ 2000000) (hl : zs.length = 4) : ∀ i, i ≤ 4 → PA zs i < 2 ^ (1 + 6000000 * i)
  | 0, _ => by show 1 < 2 ^ (1 + 6000000 * 0); decide
  | i + 1, h => by
    obtain ⟨pr, h1, _, h3⟩ := prime_at (show i < 4 by omega)
    have h2 : zs[i]? = some zs[i] := List.getElem?_eq_getElem (by omega)
    rw [PA_step h1 h2]
    have hz := hb _ (List.mem_of_getElem? h2)
    have ih := PA_lt hb hl i (by omega)
    have q : pr ^ (zs[i]).toNat ≤ 2 ^ 6000000 := by
      calc pr ^ (zs[i]).toNat ≤ (2 ^ 3) ^ (zs[i]).toNat := Nat.pow_le_pow_left (Nat.le_of_lt h3) _
        _ = 2 ^ (3 * (zs[i]).toNat) := by rw [← Nat.pow_mul]
        _ ≤ 2 ^ 6000000 := Nat.pow_le_pow_right (by decide) (by omega)
    have e : (1 + 6000000 * (i + 1)) = (1 + 6000000 * i) + 6000000 := by omega
    rw [e, Nat.pow_add 2 (1 + 6000000 * i) 6000000]
    have pos : 0 < 2 ^ 6000000 := Nat.pow_pos (by decide)
    calc PA zs i * pr ^ (zs[i]).toNat ≤ PA zs i * 2 ^ 6000000 := Nat.mul_le_mul_left _ q
      _ < 2 ^ (1 + 6000000 * i) * 2 ^ 6000000 := Nat.mul_lt_mul_of_pos_right ih pos
section
variable {P : Program} {w : World} {K : PySem.W.Frag} {mg : Str → Option Value} {base : Heap} {a : Ad}
def sp_ratio_of (K : PySem.W.Frag) : Sp := fun vs H Q _ => ∃ p za zb zc ze, vs = [.ref p] ∧ SqL K H p ([za, zb, zc, ze].map V.int) ∧ (∀ z ∈ [za, zb, zc, ze], z.natAbs ≤ 2000000) ∧
  ∀ (H' : Hp) (q : Addr), Same H H' → H q = none → H' q = some (.tup [.int ((PA [za, zb, zc, ze] 4 : Nat) : Int), .int ((PA [-za, -zb, -zc, -ze] 4 : Nat) : Int)]) → Q (.ref q) H'
theorem sc_ratio_of : FnScope ["powers", "above", "below", "k"] ["powers"] (defScope s_ratio_of) := ⟨rfl, rfl, rfl, by decide +kernel, rfl, by decide +kernel, by decide +kernel⟩
theorem ok_ratio_of (T : Txt K mg a) : Prm P w K mg base CX0 2 a.ratio_of ["powers"] (sp_ratio_of K) := by
  refine prm T.d_ratio_of sc_ratio_of (fun vs H Q E h => by obtain ⟨p, za, zb, zc, ze, rfl, _⟩ := h; rfl) (fun cdv A outer s H vs Q E hr h => ?_)
  obtain ⟨p, za, zb, zc, ze, rfl, hp, hb, k⟩ := h
  have nd := sc_ratio_of.nd
  refine ⟨_, pss_cons (ps_set (i := 1) nd rfl (Or.inl rfl) pe_int)
    (pss_cons (ps_set (i := 2) nd rfl (Or.inl rfl) pe_int)
    (pss_cons (ps_for PassesOwn.never rfl (pi_range1 rfl T.b_range (pa_cons pe_int pa_nil)) (pg_name (i := 3) nd rfl (Or.inl rfl))
      (pss_one (ps_if (pt_cmpR op_gt (pe_ix ix_list (pv 0) (pv 3) (fun _ _ => rfl)) pe_int (nomark _))
        (pss_one (ps_set (i := 1) nd rfl (Or.inl rfl) (pe_op op_mulB (pv 1) (pcall (ok_raised T) hr T.g_raised pass0 (pa_cons (pe_ix ix_tup (pgr T.g_PRIMES) (pv 3) (fun _ _ => rfl)) (pa_cons (pe_ix ix_list (pv 0) (pv 3) (fun _ _ => rfl)) pa_nil))))))
        (pss_one (ps_set (i := 2) nd rfl (Or.inl rfl) (pe_op op_mulB (pv 2) (pcall (ok_raised T) hr T.g_raised pass0 (pa_cons (pe_ix ix_tup (pgr T.g_PRIMES) (pv 3) (fun _ _ => rfl)) (pa_cons (pe_un un_neg (pe_ix ix_list (pv 0) (pv 3) (fun _ _ => rfl))) pa_nil)))))))))
    (pss_one (ps_ret (pe_tup (pa_cons (pv 1) (pa_cons (pv 2) pa_nil))))))), ?_⟩
  have hneg : ∀ z ∈ [-za, -zb, -zc, -ze], z.natAbs ≤ 2000000 := by
    intro z hz
    simp only [List.mem_cons, List.not_mem_nil, or_false] at hz
    rcases hz with rfl | rfl | rfl | rfl <;> rw [Int.natAbs_neg] <;> exact hb _ (by simp)
  refine ⟨4, rfl, by decide, by decide, for_range (n := 4) (fun i σ H' => ∃ v3, σ = [some (.ref p), some (.int ((PA [za, zb, zc, ze] i : Nat) : Int)), some (.int ((PA [-za, -zb, -zc, -ze] i : Nat) : Int)), v3] ∧ H' = H)
    ⟨none, rfl, rfl⟩ ?_ ?_⟩
  · rintro i σ H' hi ⟨v3, rfl, rfl⟩
    obtain ⟨pr, h1, h2, h3⟩ := prime_at hi
    obtain ⟨z, hz⟩ : ∃ z, [za, zb, zc, ze][i]? = some z := ⟨_, List.getElem?_eq_getElem (show i < 4 from hi)⟩
    have hz' : [-za, -zb, -zc, -ze][i]? = some (-z) := by
      have e : [-za, -zb, -zc, -ze] = [za, zb, zc, ze].map (fun z => -z) := rfl
      rw [e, List.getElem?_map, hz]
      rfl
    have zb' : z.natAbs ≤ 2000000 := hb _ (List.mem_of_getElem? hz)
    have atz : atI ([za, zb, zc, ze].map V.int) ((0 : Int) + (i : Int)) = some (V.int z) := at_of (j := i) (by omega) (map_get hz)
    have atp : atI (([2, 3, 5, 7] : List Int).map V.int) ((0 : Int) + (i : Int)) = some (V.int (pr : Int)) := at_of (j := i) (by omega) (map_get h2)
    have lt1 := PA_lt hb rfl i (by omega)
    have lt2 := PA_lt hneg rfl i (by omega)
    have mul : ∀ {x n : Nat}, x < 2 ^ (1 + 6000000 * i) → n ≤ 2000000 → CMulB (x : Int) ((pr ^ n : Nat) : Int) := fun {x n} hx hn => by
      refine ⟨1 + 6000000 * i, 6000001, by simpa using hx, ?_, by omega⟩
      rw [Int.natAbs_natCast]
      calc pr ^ n ≤ (2 ^ 3) ^ n := Nat.pow_le_pow_left (Nat.le_of_lt h3) _
        _ = 2 ^ (3 * n) := by rw [← Nat.pow_mul]
        _ < 2 ^ 6000001 := Nat.pow_lt_pow_right (by decide) (by omega)
    refine ⟨_, rfl, _, rfl, p, _, _, _, rfl, rfl, hp, atz, _, _, rfl, rfl, _, rfl, ifB (fun hc => ?_) (fun hc => ?_)⟩
    · have hz0 : 0 < z := by simpa using hc
      obtain ⟨n, rfl⟩ : ∃ n : Nat, z = n := ⟨z.toNat, by omega⟩
      have hn : n ≤ 2000000 := by omega
      refine ⟨_, rfl, _, rfl, a.o_PRIMES, _, _, _, rfl, rfl, T.t_PRIMES _, atp, _, rfl, _, rfl, p, _, _, _, rfl, rfl, hp, atz, pr, n, 3, rfl, h3, by omega, _, _, rfl, rfl, mul lt1 hn, some (.int (0 + (i : Int))), ?_, rfl⟩
      rw [PA_step h1 hz, PA_step h1 hz', Int.toNat_natCast, Int.natCast_mul, show (-(n : Int)).toNat = 0 from by omega, Nat.pow_zero, Nat.mul_one]
      rfl
    · have hz0 : ¬ 0 < z := by simpa using hc
      obtain ⟨n, rfl⟩ : ∃ n : Nat, z = -(n : Int) := ⟨(-z).toNat, by omega⟩
      have hn : n ≤ 2000000 := by omega
      refine ⟨_, rfl, _, rfl, a.o_PRIMES, _, _, _, rfl, rfl, T.t_PRIMES _, atp, _, rfl, _, rfl, p, _, _, _, rfl, rfl, hp, atz, _, rfl, pr, n, 3, ?_, h3, by omega, _, _, rfl, rfl, mul lt2 hn, some (.int (0 + (i : Int))), ?_, rfl⟩
      · show [V.int (pr : Int), V.int (- -(n : Int))] = _
        rw [Int.neg_neg]
      · rw [PA_step h1 hz, PA_step h1 hz', Int.neg_neg, Int.toNat_natCast, show (-(n : Int)).toNat = 0 from by omega, Nat.pow_zero, Nat.mul_one, Int.natCast_mul]
        rfl
  · rintro σ H' ⟨v3, rfl, rfl⟩
    exact ⟨_, rfl, _, rfl, by show 2 ≤ sizeLine; decide, fun q hq => k _ q (same_new hq) hq upd_same⟩
/-! ### is_wider -/
/-- powers that is_wider can raise -/
def Wd (x y : Lute.Iv) : Prop := Small x ∧ Small y ∧ ∀ z ∈ [(GF.pwr x y).a, (GF.pwr x y).b, (GF.pwr x y).c, (GF.pwr x y).e], z.natAbs ≤ 2000000
def sp_is_wider (K : PySem.W.Frag) : Sp := fun vs H Q _ => ∃ p q x y, vs = [.ref p, .ref q] ∧ SqL K H p (rowV x) ∧ SqL K H q (rowV y) ∧ Wd x y ∧ ∀ H', Same H H' → Q (.bl (y.lt x)) H'
theorem sc_is_wider : FnScope ["x", "y", "ratio", "k"] ["x", "y"] (defScope s_is_wider) := ⟨rfl, rfl, rfl, by decide +kernel, rfl, by decide +kernel, by decide +kernel⟩
theorem row_pwr {x y : Lute.Iv} {i : Nat} {zx zy : Int} (h : i < 4) (hx : (LuteB.rowOf x)[i]? = some zx) (hy : (LuteB.rowOf y)[i]? = some zy) : [(GF.pwr x y).a, (GF.pwr x y).b, (GF.pwr x y).c, (GF.pwr x y).e][i]? = some (zx * (y.d : Int) - zy * (x.d : Int)) := by
  match i, h with
  | 0, _ => cases hx; cases hy; rfl
  | 1, _ => cases hx; cases hy; rfl
  | 2, _ => cases hx; cases hy; rfl
  | 3, _ => cases hx; cases hy; rfl
theorem ok_is_wider (T : Txt K mg a) : Prm P w K mg base CX0 3 a.is_wider ["x", "y"] (sp_is_wider K) := by
  refine prm T.d_is_wider sc_is_wider (fun vs H Q E h => by obtain ⟨p, q, x, y, rfl, _⟩ := h; rfl) (fun cdv A outer s H vs Q E hr h => ?_)
  obtain ⟨p, q, x, y, rfl, hp, hq, ⟨⟨xd, sx⟩, ⟨yd, sy⟩, hb⟩, k⟩ := h
  have nd := sc_is_wider.nd
  refine ⟨_, pss_cons (ps_set (i := 2) nd rfl (Or.inl rfl) (pcall (ok_ratio_of T) hr T.g_ratio_of pass0 (pa_cons
      (pe_lc (own := [("k", 3)]) rfl nd (pi_range1 rfl T.b_range (pa_cons pe_int pa_nil)) (blkOk_by (N := ["x", "y", "ratio", "k"]) (sc := defScope s_is_wider) (by decide +kernel)) (fun _ _ _ _ _ => pg_name (i := 3) nd rfl (Or.inl rfl)) (fun _ _ _ _ _ => pts_nil)
        (fun _ _ _ _ _ => pe_op op_sub (pe_op op_mul (pe_ix (ixL (K := K)) (pv 0) (pv 3) (fun _ _ => rfl)) (pe_ix (ixL (K := K)) (pv 1) pe_int (fun _ _ => rfl))) (pe_op op_mul (pe_ix (ixL (K := K)) (pv 1) (pv 3) (fun _ _ => rfl)) (pe_ix (ixL (K := K)) (pv 0) pe_int (fun _ _ => rfl))))) pa_nil)))
    (pss_one (ps_ret (pe_cmpR op_gt (pe_ix ix_tup (pv 2) pe_int (fun _ _ => rfl)) (pe_ix ix_tup (pv 2) pe_int (fun _ _ => rfl)) (nomark _)))), ?_⟩
  have atx : ∀ {i : Nat} {z : Int}, (LuteB.rowOf x)[i]? = some z → ∀ {H' : Hp}, Same H H' → SqL K H' p (rowV x) ∧ atI (rowV x) ((0 : Int) + (i : Int)) = some (V.int z) ∧ (-(2 ^ 64) < z ∧ z < 2 ^ 64) := fun {i z} h {H'} S =>
    ⟨S.seq hp, at_of (j := i) (by omega) (map_get h), sx z (List.mem_of_getElem? h)⟩
  have aty : ∀ {i : Nat} {z : Int}, (LuteB.rowOf y)[i]? = some z → ∀ {H' : Hp}, Same H H' → SqL K H' q (rowV y) ∧ atI (rowV y) ((0 : Int) + (i : Int)) = some (V.int z) ∧ (-(2 ^ 64) < z ∧ z < 2 ^ 64) := fun {i z} h {H'} S =>
    ⟨S.seq hq, at_of (j := i) (by omega) (map_get h), sy z (List.mem_of_getElem? h)⟩
  generalize hL : [(GF.pwr x y).a, (GF.pwr x y).b, (GF.pwr x y).c, (GF.pwr x y).e] = L at hb
  have rp := fun {i : Nat} {zx zy : Int} => @row_pwr x y i zx zy
  rw [hL] at rp
  have lenL : L.length = 4 := by rw [← hL]; rfl
  refine ⟨4, rfl, by decide, by decide, fun D hD => lc_range (n := 4) (fun i H' => Same H H' ∧ H' D = some (.lst ((L.take i).map V.int))) ⟨same_new hD, upd_same⟩ ?_ ?_⟩
  · rintro i H' hi ⟨S, hd⟩
    obtain ⟨zx, ex⟩ := row_get x (show i < 5 by omega)
    obtain ⟨zy, ey⟩ := row_get y (show i < 5 by omega)
    obtain ⟨x1, x2, x3⟩ := atx ex S
    obtain ⟨x4, x5, x6⟩ := atx (row_d x) S
    obtain ⟨y1, y2, y3⟩ := aty ey S
    obtain ⟨y4, y5, y6⟩ := aty (row_d y) S
    refine ⟨rfl, _, rfl, _, rfl, p, _, _, _, rfl, rfl, x1, x2, _, rfl, q, _, 4, _, rfl, rfl, y4, y5, _, _, rfl, rfl, .inl x3, _, rfl, _, rfl, q, _, _, _, rfl, rfl, y1, y2, _, rfl, p, _, 4, _, rfl, rfl, x4, x5, _, _, rfl, rfl, .inl y3, _, _, rfl, rfl, _, hd, ?_, ?_, ?_⟩
    · rw [List.length_map, List.length_take]
      have : sizeLine ≥ 5 := by decide
      omega
    · exact fun b o e => by rw [upd_ne (ne_of_none e hD)]; exact S b o e
    · rw [upd_same, List.take_add_one, rp hi ex ey, List.map_append]
      rfl
  · rintro H1 ⟨S1, hd1⟩
    rw [List.take_of_length_le (by omega), ← hL] at hd1
    rw [← hL] at hb
    refine ⟨D, _, _, _, _, rfl, SqL.of hd1, hb, fun H2 r S2 hr2 t2 => ?_⟩
    have S := S1.trans S2
    have el : y.lt x = decide (((PA [-(GF.pwr x y).a, -(GF.pwr x y).b, -(GF.pwr x y).c, -(GF.pwr x y).e] 4 : Nat) : Int) < ((PA [(GF.pwr x y).a, (GF.pwr x y).b, (GF.pwr x y).c, (GF.pwr x y).e] 4 : Nat) : Int)) := by
      rw [GF.wider_eq xd yd, PA_four, PA_four, Bool.eq_iff_iff, decide_eq_true_eq, decide_eq_true_eq, Int.ofNat_lt]
      rfl
    refine ⟨_, rfl, r, _, 0, _, rfl, rfl, SqT.of t2, rfl, _, rfl, r, _, 1, _, rfl, rfl, SqT.of t2, rfl, _, _, rfl, rfl, ?_⟩
    have := k H2 S
    rw [el] at this
    exact this
end
end GP
namespace GP
open PySem PySem.Spec PyProof.Rows L2 L3
/-! ### the instrument -/
def ifs (n : Nat) (lf lc lb : Addr) : List (Str × V) := putF "basses" (.ref lb) (putF "courses" (.ref lc) (putF "frets" (.ref lf) (putF "length" (.int (n : Int)) [])))
theorem ifs_length (n : Nat) (lf lc lb : Addr) : (ifs n lf lc lb).lookup ("length" : Str) = some (.int (n : Int)) := by
  unfold ifs
  rw [lookup_putF, if_neg (by decide +kernel), lookup_putF, if_neg (by decide +kernel), lookup_putF, if_neg (by decide +kernel), lookup_putF, if_pos rfl]
theorem ifs_frets (n : Nat) (lf lc lb : Addr) : (ifs n lf lc lb).lookup ("frets" : Str) = some (.ref lf) := by
  unfold ifs
  rw [lookup_putF, if_neg (by decide +kernel), lookup_putF, if_neg (by decide +kernel), lookup_putF, if_pos rfl]
theorem ifs_courses (n : Nat) (lf lc lb : Addr) : (ifs n lf lc lb).lookup ("courses" : Str) = some (.ref lc) := by
  unfold ifs
  rw [lookup_putF, if_neg (by decide +kernel), lookup_putF, if_pos rfl]
theorem ifs_basses (n : Nat) (lf lc lb : Addr) : (ifs n lf lc lb).lookup ("basses" : Str) = some (.ref lb) := by
  unfold ifs
  rw [lookup_putF, if_pos rfl]
theorem ifs_t (n : Nat) (lf lc lb : Addr) : (ifs n lf lc lb).lookup ("t" : Str) = none := by
  unfold ifs
  rw [lookup_putF, if_neg (by decide +kernel), lookup_putF, if_neg (by decide +kernel), lookup_putF, if_neg (by decide +kernel), lookup_putF, if_neg (by decide +kernel)]
  rfl
/-- lists of intervals, by their addresses -/
structure Ivs (K : PySem.W.Frag) (H : Hp) (as : List Addr) (xs : List Lute.Iv) : Prop where
  len : as.length = xs.length
  at_ : ∀ (i : Nat) (p : Addr) (x : Lute.Iv), as[i]? = some p → xs[i]? = some x → SqL K H p (rowV x)
theorem Ivs.nil {K : PySem.W.Frag} {H : Hp} : Ivs K H [] [] := ⟨rfl, fun i p x h => by simp at h⟩
theorem Ivs.get {K : PySem.W.Frag} {H : Hp} {as : List Addr} {xs : List Lute.Iv} (v : Ivs K H as xs) {i : Nat} {p : Addr} (h : as[i]? = some p) : ∃ x, xs[i]? = some x ∧ SqL K H p (rowV x) := by
  obtain ⟨hi, _⟩ := List.getElem?_eq_some_iff.mp h
  have hx : xs[i]? = some (xs[i]'(by rw [← v.len]; exact hi)) := List.getElem?_eq_getElem _
  exact ⟨_, hx, v.at_ i p _ h hx⟩
theorem Ivs.map {K : PySem.W.Frag} {H H' : Hp} {as : List Addr} {xs : List Lute.Iv} (v : Ivs K H as xs) (f : ∀ p x, SqL K H p (rowV x) → SqL K H' p (rowV x)) : Ivs K H' as xs := ⟨v.len, fun i p x h1 h2 => f p x (v.at_ i p x h1 h2)⟩
theorem Ivs.snoc {K : PySem.W.Frag} {H : Hp} {as : List Addr} {xs : List Lute.Iv} (v : Ivs K H as xs) {p : Addr} {x : Lute.Iv} (h : SqL K H p (rowV x)) : Ivs K H (as ++ [p]) (xs ++ [x]) := by
  refine ⟨by rw [List.length_append, List.length_append, v.len]; rfl, fun i q y h1 h2 => ?_⟩
  by_cases hi : i < as.length
  · rw [List.getElem?_append_left hi] at h1
    rw [List.getElem?_append_left (by rw [← v.len]; exact hi)] at h2
    exact v.at_ i q y h1 h2
  · rw [List.getElem?_append_right (by omega)] at h1
    rw [List.getElem?_append_right (by have := v.len; omega), ← v.len] at h2
    cases hj : i - as.length with
    | zero =>
      rw [hj] at h1 h2
      cases h1
      cases h2
      exact h
    | succ j =>
      rw [hj] at h1
      simp at h1
/-- a list of addresses is no row of numbers -/
theorem refs_ne {as : List Addr} {x : Lute.Iv} : (HO.lst (as.map V.ref)) ≠ HO.lst (rowV x) := by
  intro h
  injection h with h
  cases as with
  | nil => cases h
  | cons p r =>
    have h : V.ref p :: r.map V.ref = V.int x.a :: _ := h
    injection h with h _
    cases h
theorem row_upd {K : PySem.W.Frag} {H : Hp} {l p : Addr} {as : List Addr} {x : Lute.Iv} {o : HO} (hl : H l = some (.lst (as.map V.ref))) (h : SqL K H p (rowV x)) : SqL K (upd H l o) p (rowV x) := by
  rcases h with (h | ⟨u, h⟩) | h
  · exact .inl (.inl (by rw [upd_ne (ne_of h hl refs_ne.symm)]; exact h))
  · exact .inl (.inr ⟨u, by rw [upd_ne (ne_of h hl (by intro z; cases z))]; exact h⟩)
  · exact .inr h
/-- a list of intervals stands at l -/
def LsAt (K : PySem.W.Frag) (H : Hp) (l : Addr) (xs : List Lute.Iv) : Prop := ∃ as : List Addr, H l = some (.lst (as.map V.ref)) ∧ Ivs K H as xs
theorem LsAt.same {K : PySem.W.Frag} {H H' : Hp} {l : Addr} {xs : List Lute.Iv} (h : LsAt K H l xs) (S : Same H H') : LsAt K H' l xs := let ⟨as, h1, h2⟩ := h; ⟨as, S _ _ h1, h2.map fun _ _ z => S.seq z⟩
theorem LsAt.keep {K : PySem.W.Frag} {H H' : Hp} {l r C dx : Addr} {fs : List (Str × V)} {xs : List Lute.Iv} (h : LsAt K H l xs) (k : Keep r H H') (hr : H r = some (.ins C dx fs)) : LsAt K H' l xs :=
  let ⟨as, h1, h2⟩ := h; ⟨as, k _ _ h1 (ne_of h1 hr (by intro z; cases z)), h2.map fun _ _ z => k.seq hr z⟩
theorem LsAt.other {K : PySem.W.Frag} {H : Hp} {l m : Addr} {xs ys : List Lute.Iv} {o : HO} (h : LsAt K H l xs) (hm : LsAt K H m ys) (ne : l ≠ m) : LsAt K (upd H m o) l xs :=
  let ⟨as, h1, h2⟩ := h
  let ⟨bs, g1, _⟩ := hm
  ⟨as, by rw [upd_ne ne]; exact h1, h2.map fun _ _ z => row_upd g1 z⟩
structure InAt (K : PySem.W.Frag) (C : Addr) (H : Hp) (p : Addr) (I : Lute.Inst) (lf lc lb : Addr) : Prop where
  ob : ∃ dx, H p = some (.ins C dx (ifs I.length lf lc lb))
  fr : LsAt K H lf I.frets
  co : LsAt K H lc I.courses
  ba : LsAt K H lb I.basses
  n1 : lf ≠ lc
  n2 : lf ≠ lb
  n3 : lc ≠ lb
theorem InAt.same {K : PySem.W.Frag} {C : Addr} {H H' : Hp} {p : Addr} {I : Lute.Inst} {lf lc lb : Addr} (h : InAt K C H p I lf lc lb) (S : Same H H') : InAt K C H' p I lf lc lb :=
  ⟨let ⟨dx, z⟩ := h.ob; ⟨dx, S _ _ z⟩, h.fr.same S, h.co.same S, h.ba.same S, h.n1, h.n2, h.n3⟩
theorem InAt.keep {K : PySem.W.Frag} {C : Addr} {H H' : Hp} {p r Cr dr : Addr} {I : Lute.Inst} {lf lc lb : Addr} {fs : List (Str × V)} (h : InAt K C H p I lf lc lb) (k : Keep r H H') (hr : H r = some (.ins Cr dr fs)) (ne : p ≠ r) : InAt K C H' p I lf lc lb :=
  ⟨let ⟨dx, z⟩ := h.ob; ⟨dx, k _ _ z ne⟩, h.fr.keep k hr, h.co.keep k hr, h.ba.keep k hr, h.n1, h.n2, h.n3⟩
theorem rd_ne_in {K : PySem.W.Frag} {Cr Ci : Addr} {H : Hp} {r b p : Addr} {t : Lute.Bytes} {q : Nat} {I : Lute.Inst} {lf lc lb : Addr} (R : RdAt K Cr H r b t q) (h : InAt K Ci H p I lf lc lb) : p ≠ r := by
  rintro rfl
  obtain ⟨dx, h1⟩ := R.ob
  obtain ⟨dy, h2⟩ := h.ob
  rw [h1] at h2
  have e : rfs b q = ifs I.length lf lc lb := by injection h2 with h2; injection h2
  have := rfs_t b q
  rw [e, ifs_t] at this
  cases this
/-! ### intervals' sizes -/
theorem ok_parts {x : Lute.Iv} (h : x.ok = true) : (x.a.natAbs ≤ 99 ∧ x.b.natAbs ≤ 99 ∧ x.c.natAbs ≤ 99 ∧ x.e.natAbs ≤ 99) ∧ 1 ≤ x.d ∧ x.d ≤ 24 ∧ x.common = 1 := by
  unfold Lute.Iv.ok Lute.within Lute.MOST Lute.PARTS at h
  simp only [Bool.and_eq_true, decide_eq_true_eq, beq_iff_eq] at h
  omega
theorem ok_bd {x : Lute.Iv} (h : x.ok = true) : Bd 7 x := by
  obtain ⟨⟨h1, h2, h3, h4⟩, h5, h6, _⟩ := ok_parts h
  refine ⟨h5, fun z hz => ?_⟩
  have hz : z ∈ [x.a, x.b, x.c, x.e, (x.d : Int)] := hz
  have e7 : (2 : Nat) ^ 7 = 128 := by decide
  rw [e7]
  simp only [List.mem_cons, List.not_mem_nil, or_false] at hz
  rcases hz with rfl | rfl | rfl | rfl | rfl <;> omega
theorem wd_ok {x y : Lute.Iv} (hx : x.ok = true) (hy : y.ok = true) : Wd x y := by
  obtain ⟨⟨a1, a2, a3, a4⟩, a5, a6, _⟩ := ok_parts hx
  obtain ⟨⟨b1, b2, b3, b4⟩, b5, b6, _⟩ := ok_parts hy
  refine ⟨(ok_bd hx).small (by decide), (ok_bd hy).small (by decide), fun z hz => ?_⟩
  have one : ∀ u v : Int, u.natAbs ≤ 99 → v.natAbs ≤ 99 → (u * (y.d : Int) - v * (x.d : Int)).natAbs ≤ 2000000 := fun u v hu hv => by
    have h1 : (u * (y.d : Int)).natAbs ≤ 99 * 24 := by rw [Int.natAbs_mul]; exact Nat.mul_le_mul hu (by omega)
    have h2 : (v * (x.d : Int)).natAbs ≤ 99 * 24 := by rw [Int.natAbs_mul]; exact Nat.mul_le_mul hv (by omega)
    omega
  simp only [List.mem_cons, List.not_mem_nil, or_false] at hz
  rcases hz with rfl | rfl | rfl | rfl
  · exact one _ _ a1 b1
  · exact one _ _ a2 b2
  · exact one _ _ a3 b3
  · exact one _ _ a4 b4
theorem ok_unison_iv : Lute.unison.ok = true := by decide
theorem few1 {f : Str} {v : V} : (putF f v []).length < 1000 := Nat.lt_of_le_of_lt (length_putF _ _ _) (by decide)
theorem few2 {f g : Str} {v u : V} : (putF g u (putF f v [])).length < 1000 := Nat.lt_of_le_of_lt (length_putF _ _ _) (Nat.lt_of_le_of_lt (Nat.succ_le_succ (length_putF _ _ _)) (by decide))
theorem few3 {f g h : Str} {v u x : V} : (putF h x (putF g u (putF f v []))).length < 1000 := Nat.lt_of_le_of_lt (length_putF _ _ _) (Nat.lt_of_le_of_lt (Nat.succ_le_succ (length_putF _ _ _)) (Nat.lt_of_le_of_lt (Nat.succ_le_succ (Nat.succ_le_succ (length_putF _ _ _))) (by decide)))
section
variable {P : Program} {w : World} {K : PySem.W.Frag} {mg : Str → Option Value} {base : Heap} {a : Ad}
def sp_Instrument_init (K : PySem.W.Frag) (a : Ad) : Sp := fun vs H Q _ => ∃ i dx, ∃ n : Nat, vs = [.ref i, .int (n : Int)] ∧ H i = some (.ins a.c_Instrument dx []) ∧
  ∀ H' lf lc lb, InAt K a.c_Instrument H' i ⟨n, [], [], []⟩ lf lc lb → Keep i H H' → H lf = none → H lc = none → H lb = none → Q .non H'
theorem sc_Instrument_init : FnScope ["self", "length"] ["self", "length"] (defScope s_Instrument_init) := ⟨rfl, rfl, rfl, by decide +kernel, rfl, by decide +kernel, by decide +kernel⟩
theorem ok_Instrument_init (T : Txt K mg a) : Prm P w K mg base CX0 1 a.Instrument_init ["self", "length"] (sp_Instrument_init K a) := by
  refine prm T.d_Instrument_init sc_Instrument_init (fun vs H Q E h => by obtain ⟨i, dx, n, rfl, _⟩ := h; rfl) (fun cdv A outer s H vs Q E hr h => ?_)
  obtain ⟨i, dx, n, rfl, h0, k⟩ := h
  refine ⟨_, pss_cons (ps_fld (pv 0) (pv 1) rfl) (pss_cons (ps_fld (pv 0) (pe_lst pa_nil) rfl) (pss_cons (ps_fld (pv 0) (pe_lst pa_nil) rfl) (pss_one (ps_fld (pv 0) (pe_lst pa_nil) rfl)))), ?_⟩
  refine ⟨_, rfl, _, rfl, i, a.c_Instrument, dx, _, rfl, h0, T.cl_Instrument, T.n_Instrument_length, (by show 0 < 1000; decide), ?_⟩
  refine ⟨by show 0 ≤ sizeLine; decide, fun lf hlf => ?_⟩
  have nf : i ≠ lf := ne_of_none upd_same hlf
  refine ⟨_, rfl, i, a.c_Instrument, dx, _, rfl, (by rw [upd_ne nf]; exact upd_same), T.cl_Instrument, T.n_Instrument_frets, few1, ?_⟩
  refine ⟨by show 0 ≤ sizeLine; decide, fun lc hlc => ?_⟩
  have nc : i ≠ lc := ne_of_none upd_same hlc
  refine ⟨_, rfl, i, a.c_Instrument, dx, _, rfl, (by rw [upd_ne nc]; exact upd_same), T.cl_Instrument, T.n_Instrument_courses, few2, ?_⟩
  refine ⟨by show 0 ≤ sizeLine; decide, fun lb hlb => ?_⟩
  have nb : i ≠ lb := ne_of_none upd_same hlb
  refine ⟨_, rfl, i, a.c_Instrument, dx, _, rfl, (by rw [upd_ne nb]; exact upd_same), T.cl_Instrument, T.n_Instrument_basses, few3, ?_⟩
  have ncf : lf ≠ lc := ne_of_none (o := .lst []) (by rw [upd_ne nf.symm]; exact upd_same) hlc
  have nbc : lc ≠ lb := ne_of_none (o := .lst []) (by rw [upd_ne nc.symm]; exact upd_same) hlb
  have nbf : lf ≠ lb := ne_of_none (o := .lst []) (by rw [upd_ne nf.symm, upd_ne ncf, upd_ne nf.symm]; exact upd_same) hlb
  have fr1 : H lf = none := by rw [upd_ne nf.symm] at hlf; exact hlf
  have fr2 : H lc = none := by rw [upd_ne nc.symm, upd_ne ncf.symm, upd_ne nc.symm] at hlc; exact hlc
  have fr3 : H lb = none := by rw [upd_ne nb.symm, upd_ne nbc.symm, upd_ne nb.symm, upd_ne nbf.symm, upd_ne nb.symm] at hlb; exact hlb
  refine k _ lf lc lb ⟨⟨dx, upd_same⟩, ⟨[], ?_, Ivs.nil⟩, ⟨[], ?_, Ivs.nil⟩, ⟨[], ?_, Ivs.nil⟩, ncf, nbf, nbc⟩ (fun b o e n => ?_) fr1 fr2 fr3
  · rw [upd_ne nf.symm, upd_ne nbf, upd_ne nf.symm, upd_ne ncf, upd_ne nf.symm]; exact upd_same
  · rw [upd_ne nc.symm, upd_ne nbc, upd_ne nc.symm]; exact upd_same
  · rw [upd_ne nb.symm]; exact upd_same
  · rw [upd_ne n, upd_ne (ne_of_none e fr3), upd_ne n, upd_ne (ne_of_none e fr2), upd_ne n, upd_ne (ne_of_none e fr1), upd_ne n]; exact e
def sp_count_strings (K : PySem.W.Frag) (a : Ad) : Sp := fun vs H Q _ => ∃ i I lf lc lb, vs = [.ref i] ∧ InAt K a.c_Instrument H i I lf lc lb ∧ Q (.int (I.opens.length : Nat)) H
theorem sc_count_strings : FnScope ["instrument"] ["instrument"] (defScope s_count_strings) := ⟨rfl, rfl, rfl, by decide +kernel, rfl, by decide +kernel, by decide +kernel⟩
theorem ok_count_strings (T : Txt K mg a) : Prm P w K mg base CX0 1 a.count_strings ["instrument"] (sp_count_strings K a) := by
  refine prm T.d_count_strings sc_count_strings (fun vs H Q E h => by obtain ⟨i, I, lf, lc, lb, rfl, _⟩ := h; rfl) (fun cdv A outer s H vs Q E hr h => ?_)
  obtain ⟨i, I, lf, lc, lb, rfl, h1, k⟩ := h
  obtain ⟨dx, ho⟩ := h1.ob
  obtain ⟨as, c1, c2⟩ := h1.co
  obtain ⟨bs, b1, b2⟩ := h1.ba
  refine ⟨_, pss_one (ps_ret (pe_op op_add (pe_callB call_len_seq (by rfl) T.b_len PySem.boot_len (pa_cons (pe_fld (pv 0) rfl) pa_nil)) (pe_callB call_len_seq (by rfl) T.b_len PySem.boot_len (pa_cons (pe_fld (pv 0) rfl) pa_nil)))), ?_⟩
  refine ⟨_, rfl, i, a.c_Instrument, dx, _, _, rfl, ho, T.cl_Instrument, T.n_Instrument_courses, ifs_courses _ _ _ _, lc, _, rfl, .inl (SqL.of c1), _, rfl, i, a.c_Instrument, dx, _, _, rfl, ho, T.cl_Instrument, T.n_Instrument_basses, ifs_basses _ _ _ _, lb, _, rfl, .inl (SqL.of b1), _, _, rfl, rfl, ?_⟩
  have e : ((as.map V.ref).length : Int) + ((bs.map V.ref).length : Int) = ((I.opens.length : Nat) : Int) := by
    rw [List.length_map, List.length_map, c2.len, b2.len]
    unfold Lute.Inst.opens
    rw [List.length_append]
    omega
  rw [← e] at k
  exact k
def sp_sounds_with_each (K : PySem.W.Frag) : Sp := fun vs H Q _ => ∃ z l x fs, vs = [.ref z, .ref l] ∧ SqL K H z (rowV x) ∧ LsAt K H l fs ∧ Bd 7 x ∧ (∀ f ∈ fs, Bd 7 f) ∧ ∀ H', Same H H' → Q (.bl (Lute.soundsAll fs x)) H'
theorem sc_sounds_with_each : FnScope ["x", "frets", "fret"] ["x", "frets"] (defScope s_sounds_with_each) := ⟨rfl, rfl, rfl, by decide +kernel, rfl, by decide +kernel, by decide +kernel⟩
theorem ok_sounds_with_each (T : Txt K mg a) : Prm P w K mg base CX0 3 a.sounds_with_each ["x", "frets"] (sp_sounds_with_each K) := by
  refine prm T.d_sounds_with_each sc_sounds_with_each (fun vs H Q E h => by obtain ⟨z, l, x, fs, rfl, _⟩ := h; rfl) (fun cdv A outer s H vs Q E hr h => ?_)
  obtain ⟨z, l, x, fs, rfl, hx, hl, bx, bf, k⟩ := h
  obtain ⟨as, l1, l2⟩ := id hl
  have nd := sc_sounds_with_each.nd
  refine ⟨_, pss_cons (ps_for PassesOwn.never rfl (pi_list (pv 1)) (pg_name (i := 2) nd rfl (Or.inl rfl))
      (pss_one (ps_if (pt_not (pt_val (pcall (ok_is_interval T) hr T.g_is_interval pass0 (pa_cons (pcall (ok_upon T) hr T.g_upon pass0 (pa_cons (pv 2) (pa_cons (pv 0) pa_nil))) pa_nil)))) (pss_one (ps_ret pe_bl)) pss_nil)))
    (pss_one (ps_ret pe_bl)), ?_⟩
  refine ⟨_, rfl, l, rfl, ⟨_, SqL.of l1⟩, for_list (K := K) (a := l) (xs := as.map V.ref) (fun i σ H' => ∃ v2, σ = [some (.ref z), some (.ref l), v2] ∧ Same H H' ∧ (fs.take i).all (fun f => (x.plus f).ok) = true)
    ⟨none, rfl, Same.refl _, rfl⟩ (fun i σ H' _ ⟨_, _, S, _⟩ => SqL.of (S _ _ l1)) ?_ ?_⟩
  · rintro i y σ H' hi ⟨v2, rfl, S, hall⟩
    obtain ⟨p, hp, rfl⟩ : ∃ p, as[i]? = some p ∧ y = V.ref p := by
      rw [List.getElem?_map] at hi
      cases e : as[i]? with
      | none => rw [e] at hi; cases hi
      | some p => rw [e] at hi; exact ⟨p, rfl, (Option.some.inj hi).symm⟩
    obtain ⟨f, hf, hpf⟩ := l2.get hp
    have mf := List.mem_of_getElem? hf
    refine ⟨_, rfl, _, rfl, p, z, f, x, rfl, S.seq hpf, S.seq hx, (bf f mf).small (by decide), bx.small (by decide), fun H2 q S2 hq h2 => ?_⟩
    refine ⟨q, _, rfl, SqL.of h2, fun H3 S3 => ⟨_, rfl, ?_⟩⟩
    rw [GF.plus_comm, isIv_row (GF.plus_d bx.1 (bf f mf).1)]
    have SS := S.trans (S2.trans S3)
    cases ho : (x.plus f).ok with
    | false =>
      have hn : Lute.soundsAll fs x = false := by
        unfold Lute.soundsAll
        rw [List.all_eq_false]
        exact ⟨f, mf, by rw [ho]; decide⟩
      have := k H3 SS
      rw [hn] at this
      exact iteT this
    | true =>
      refine iteF ⟨some (.ref p), rfl, SS, ?_⟩
      rw [List.take_add_one, hf, List.all_append, hall]
      simp [ho]
  · rintro σ H' ⟨v2, rfl, S, hall⟩
    rw [List.length_map, l2.len, List.take_of_length_le (Nat.le_refl _)] at hall
    have := k H' S
    have e : Lute.soundsAll fs x = true := hall
    rw [e] at this
    exact this
end
end GP
namespace GP
open PySem PySem.Spec PyProof.Rows L2 L3
theorem want_rest {ws : Lute.Bytes} {t : Lute.Bytes} {p q : Nat} {x : Unit} {u : Lute.Bytes} (h : Lute.want ws p (t.drop p) = .ok (x, q, u)) : q = p + ws.length ∧ u = t.drop q := by
  obtain ⟨h1, h2, h3⟩ := GF.want_took ws p (t.drop p) x q u h
  refine ⟨h2, ?_⟩
  rw [h3, h2, List.drop_drop]
/-- a word, whether it's one too many, a blank -/
def wordAt (ws : Lute.Bytes) (many : Bool) (p : Nat) (t : Lute.Bytes) : Lute.Rd Unit := match Lute.want ws p (t.drop p) with
  | .error e => .error e
  | .ok (_, q, _) => if many = true then .error p else Lute.want [32] q (t.drop q)
section
variable {P : Program} {w : World} {K : PySem.W.Frag} {mg : Str → Option Value} {base : Heap} {a : Ad}
def sp_read_word (K : PySem.W.Frag) (a : Ad) : Sp := fun vs H Q E => ∃ r b t p wd ws many, vs = [.ref r, .str wd, .bl many] ∧ RdAt K a.c_Reader H r b t p ∧ wd.cps.toList = List.map UInt8.toNat ws ∧ Out K a r b t H Q E (fun _ => .non) (wordAt ws many p t)
theorem sc_read_word : FnScope ["reader", "word", "is_one_too_many", "start"] ["reader", "word", "is_one_too_many"] (defScope s_read_word) := ⟨rfl, rfl, rfl, by decide +kernel, rfl, by decide +kernel, by decide +kernel⟩
theorem ok_read_word (T : Txt K mg a) : Prm P w K mg base (CXr P w (ZT a)) 4 a.read_word ["reader", "word", "is_one_too_many"] (sp_read_word K a) := by
  refine prmx T.d_read_word sc_read_word (fun vs H Q E h => by obtain ⟨r, b, t, p, wd, ws, many, rfl, _⟩ := h; rfl) (fun cdv A outer s H vs Q E hr h => ?_)
  obtain ⟨r, b, t, p, wd, ws, many, rfl, R, hw, k⟩ := h
  obtain ⟨dx, ho⟩ := R.ob
  have nd := sc_read_word.nd
  have hr2 := hr.mono (show 2 ≤ 3 by decide)
  refine ⟨_, pss_cons (ps_set (i := 3) nd rfl (Or.inl rfl) (pe_fld (pv 0) rfl))
    (pss_cons (ps_expr (pcall (ok_expect T) hr T.g_expect wish_def.passes (pa_cons (pv 0) (pa_cons (pv 1) pa_nil))))
    (pss_cons (ps_if (pt_val (pv 2)) (pss_one (ps_fault T hr2.h wish_def (pv 3) mono_var)) pss_nil)
    (pss_one (ps_expr (pcall (ok_expect T) hr T.g_expect wish_def.passes (pa_cons (pv 0) (pa_cons pe_str pa_nil))))))), ?_⟩
  refine ⟨_, rfl, r, a.c_Reader, dx, _, _, rfl, ho, T.cl_Reader, T.n_Reader_place, rfs_place _ _, ?_⟩
  refine ⟨_, rfl, _, rfl, r, b, t, p, wd, ws, rfl, R, hw, ?_⟩
  unfold wordAt at k
  cases ew : Lute.want ws p (t.drop p) with
  | error e =>
    rw [ew] at k
    exact k
  | ok y =>
    obtain ⟨_, q, u⟩ := y
    rw [ew] at k
    dsimp only at k
    intro H1 R1 k1
    refine ⟨_, rfl, _, rfl, ?_⟩
    cases many with
    | true =>
      rw [if_pos rfl] at k
      exact iteT ⟨_, rfl, _, rfl, k⟩
    | false =>
      rw [if_neg (by decide)] at k
      refine iteF ⟨_, rfl, r, b, t, q, _, [32], rfl, R1, rfl, ?_⟩
      cases e2 : Lute.want [32] q (t.drop q) with
      | error e =>
        rw [e2] at k
        exact k
      | ok y =>
        obtain ⟨_, q2, u2⟩ := y
        rw [e2] at k
        exact fun H2 R2 k2 => k H2 R2 (k1.trans k2)
/-! ### the first line -/
theorem head_pos (p : Nat) (t : Lute.Bytes) : GF.headAt p (t.drop p) = match Lute.want (Lute.ascii "length ") p (t.drop p) with
    | .error e => .error e
    | .ok (_, q, _) => match GF.rdNum 49 7 q (t.drop q) with
      | .error e => .error e
      | .ok (n, q1, _) => if n < 10000 ∨ 200000 < n then .error q else match Lute.want [10] q1 (t.drop q1) with
        | .error e => .error e
        | .ok (_, q2, v) => .ok (n, q2, v) := by
  unfold GF.headAt
  cases ew : Lute.want (Lute.ascii "length ") p (t.drop p) with
  | error e => rfl
  | ok y =>
    obtain ⟨_, q, u⟩ := y
    dsimp only
    obtain ⟨_, rfl⟩ := want_rest ew
    cases er : GF.rdNum 49 7 q (t.drop q) with
    | error e => rfl
    | ok y =>
      obtain ⟨n, q1, v⟩ := y
      have ev := num_rest er
      subst ev
      rfl
def sp_read_length (K : PySem.W.Frag) (a : Ad) : Sp := fun vs H Q E => ∃ r b t p, vs = [.ref r] ∧ RdAt K a.c_Reader H r b t p ∧ Out K a r b t H Q E (fun n => .int ((n : Nat) : Int)) (GF.headAt p (t.drop p))
theorem sc_read_length : FnScope ["reader", "start", "length"] ["reader"] (defScope s_read_length) := ⟨rfl, rfl, rfl, by decide +kernel, rfl, by decide +kernel, by decide +kernel⟩
theorem ok_read_length (T : Txt K mg a) : Prm P w K mg base (CXr P w (ZT a)) 4 a.read_length ["reader"] (sp_read_length K a) := by
  refine prmx T.d_read_length sc_read_length (fun vs H Q E h => by obtain ⟨r, b, t, p, rfl, _⟩ := h; rfl) (fun cdv A outer s H vs Q E hr h => ?_)
  obtain ⟨r, b, t, p, rfl, R, k⟩ := h
  have nd := sc_read_length.nd
  have hr2 := hr.mono (show 2 ≤ 3 by decide)
  refine ⟨_, pss_cons (ps_expr (pcall (ok_expect T) hr T.g_expect wish_def.passes (pa_cons (pv 0) (pa_cons pe_str pa_nil))))
    (pss_cons (ps_set (i := 1) nd rfl (Or.inl rfl) (pe_fld (pv 0) rfl))
    (pss_cons (ps_set (i := 2) nd rfl (Or.inl rfl) (pcall (ok_read_number T) hr T.g_read_number wish_def.passes (pa_cons (pv 0) (pa_cons (pgi T.c_ONE) (pa_cons (pgi T.c_MOST_LENGTH_DIGITS) pa_nil)))))
    (pss_cons (ps_if (pw_or (pt_cmpR op_lt (pv 2) (pgi T.c_LEAST_LENGTH) (nomark _)) (pw_or1 (pt_cmpR op_gt (pv 2) (pgi T.c_MOST_LENGTH) (nomark _)))).pt (pss_one (ps_fault T hr2.h wish_def (pv 1) mono_var)) pss_nil)
    (pss_cons (ps_expr (pcall (ok_expect T) hr T.g_expect wish_def.passes (pa_cons (pv 0) (pa_cons pe_str pa_nil))))
    (pss_one (ps_ret (pv 2))))))), ?_⟩
  rw [head_pos] at k
  refine ⟨_, rfl, r, b, t, p, _, Lute.ascii "length ", rfl, R, by decide +kernel, ?_⟩
  cases ew : Lute.want (Lute.ascii "length ") p (t.drop p) with
  | error e =>
    rw [ew] at k
    exact k
  | ok y =>
    obtain ⟨_, q, u⟩ := y
    rw [ew] at k
    dsimp only at k
    intro H1 R1 k1
    obtain ⟨dx1, ho1⟩ := R1.ob
    refine ⟨_, rfl, r, a.c_Reader, dx1, _, _, rfl, ho1, T.cl_Reader, T.n_Reader_place, rfs_place _ _, ?_⟩
    refine ⟨_, rfl, r, b, t, q, 49, 7, rfl, by decide, R1, ?_⟩
    cases er : GF.rdNum 49 7 q (t.drop q) with
    | error e =>
      rw [er] at k
      exact k
    | ok y =>
      obtain ⟨n, q1, v⟩ := y
      rw [er] at k
      dsimp only at k
      intro H2 R2 k2
      refine ⟨_, rfl, _, _, rfl, rfl, _, rfl, ifB (fun hc => ?_) (fun hc => ?_)⟩
      · have h1 : n < 10000 := by
          have := of_decide_eq_true hc
          omega
        rw [if_pos (.inl h1)] at k
        exact iteT ⟨_, rfl, _, rfl, k⟩
      · have h1 : ¬ n < 10000 := by
          have := of_decide_eq_false hc
          omega
        refine ⟨_, rfl, _, _, rfl, rfl, _, rfl, ifB (fun hc => ?_) (fun hc => ?_)⟩
        · have h2 : 200000 < n := by
            have := of_decide_eq_true hc
            omega
          rw [if_pos (.inr h2)] at k
          exact ⟨_, rfl, _, rfl, k⟩
        · have h2 : ¬ 200000 < n := by
            have := of_decide_eq_false hc
            omega
          rw [if_neg (by omega)] at k
          refine ⟨_, rfl, r, b, t, q1, _, [10], rfl, R2, by decide +kernel, ?_⟩
          cases e2 : Lute.want [10] q1 (t.drop q1) with
          | error e =>
            rw [e2] at k
            exact k
          | ok y =>
            obtain ⟨_, q2, u2⟩ := y
            rw [e2] at k
            exact fun H3 R3 k3 => ⟨_, rfl, k H3 R3 (k1.trans (k2.trans k3))⟩
end
end GP
namespace GP
open PySem PySem.Spec PyProof.Rows L2 L3
/-- an instrument as far as it is read -/
structure Gd (I : Lute.Inst) : Prop where
  okf : ∀ x ∈ I.frets, x.ok = true
  okc : ∀ x ∈ I.courses, x.ok = true
  okb : ∀ x ∈ I.basses, x.ok = true
  nf : I.frets.length ≤ 15
  ns : I.opens.length ≤ 14
theorem readPy_ok {p : Nat} {l : Lute.Bytes} {x : Lute.Iv} {q : Nat} {u : Lute.Bytes} (h : GF.readPy p l = .ok (x, q, u)) : x.ok = true := by
  by_cases h1 : pk l = 49
  · cases l with
    | nil => cases h1
    | cons c r =>
      have hc : c = 49 := UInt8.toNat_inj.mp (by
        have h1 : (c.toNat : Int) = 49 := h1
        show c.toNat = 49
        omega)
      subst hc
      have h : (if GF.ended r = true then Except.ok (Lute.unison, p + 1, r) else Except.error (p + 1)) = Except.ok (x, q, u) := h
      split at h
      · cases h; exact ok_unison_iv
      · cases h
  · rw [readPy_else h1] at h
    cases e : GF.pyFactors (l.length + 1) 0 Lute.unison p l with
    | error e2 => rw [e] at h; cases h
    | ok y =>
      obtain ⟨y, z, v⟩ := y
      rw [e] at h
      dsimp only at h
      split at h
      · rename_i hy
        cases h
        exact hy
      · cases h
theorem readPy_rest {p : Nat} {t : Lute.Bytes} {x : Lute.Iv} {q : Nat} {u : Lute.Bytes} (h : GF.readPy p (t.drop p) = .ok (x, q, u)) : u = t.drop q := by
  obtain ⟨k, h1, h2, h3⟩ := GF.readPy_took p (t.drop p) x q u h
  exact took_rest (x := x) ⟨k, h1, h2, h3⟩
/-- a line, by places -/
theorem line_pos (st : Lute.Inst) (k : Nat) (ws : Lute.Bytes) (many : Bool) (fine : Lute.Iv → Bool) (p : Nat) (t : Lute.Bytes) : GF.lineTail st k ws many fine p (t.drop p) = match wordAt ws many p t with
    | .error e => .error e
    | .ok (_, q, _) => match GF.readPy q (t.drop q) with
      | .error e => .error e
      | .ok (x, z, _) => if fine x = false then .error q else match Lute.want [10] z (t.drop z) with
        | .error e => .error e
        | .ok (_, q2, v) => .ok (GF.putLine st k x, q2, v) := by
  unfold GF.lineTail wordAt
  cases ew : Lute.want ws p (t.drop p) with
  | error e => rfl
  | ok y =>
    obtain ⟨_, q, u⟩ := y
    dsimp only
    cases many with
    | true => rfl
    | false =>
      rw [if_neg (by decide), if_neg (by decide)]
      obtain ⟨_, rfl⟩ := want_rest ew
      unfold GF.ivPy
      cases e2 : Lute.want [32] q (t.drop q) with
      | error e => rfl
      | ok y =>
        obtain ⟨_, q1, u1⟩ := y
        dsimp only
        obtain ⟨_, rfl⟩ := want_rest e2
        cases e3 : GF.readPy q1 (t.drop q1) with
        | error e => rfl
        | ok y =>
          obtain ⟨x, z, v⟩ := y
          dsimp only
          have ev := readPy_rest e3
          subst ev
          cases hf : fine x with
          | false => rfl
          | true =>
            rw [if_neg (by decide), if_neg (by decide)]
            cases e4 : Lute.want [10] z (t.drop z) with
            | error e => rfl
            | ok y => rfl
/-! ### a line more -/
theorem LsAt.add {K : PySem.W.Frag} {H : Hp} {l z : Addr} {xs : List Lute.Iv} {as : List Addr} {x : Lute.Iv} (h1 : H l = some (.lst (as.map V.ref))) (h2 : Ivs K H as xs) (hz : SqL K H z (rowV x)) : LsAt K (upd H l (.lst (as.map V.ref ++ [V.ref z]))) l (xs ++ [x]) := by
  refine ⟨as ++ [z], ?_, (h2.map fun _ _ q => row_upd h1 q).snoc (row_upd h1 hz)⟩
  rw [upd_same, List.map_append]
  rfl
def KeepI (r lf lc lb : Addr) (H H' : Hp) : Prop := ∀ b o, H b = some o → b ≠ r → b ≠ lf → b ≠ lc → b ≠ lb → H' b = some o
theorem KeepI.trans {r lf lc lb : Addr} {H H1 H2 : Hp} (a : KeepI r lf lc lb H H1) (b : KeepI r lf lc lb H1 H2) : KeepI r lf lc lb H H2 := fun c o h n1 n2 n3 n4 => b c o (a c o h n1 n2 n3 n4) n1 n2 n3 n4
theorem Keep.i {r lf lc lb : Addr} {H H1 : Hp} (a : Keep r H H1) : KeepI r lf lc lb H H1 := fun c o h n1 _ _ _ => a c o h n1
theorem RdAt.upd {K : PySem.W.Frag} {C : Addr} {H : Hp} {r b l : Addr} {t : Lute.Bytes} {p : Nat} {ys : List V} {o : HO} (R : RdAt K C H r b t p) (hl : H l = some (.lst ys)) : RdAt K C (upd H l o) r b t p := by
  obtain ⟨dx, h⟩ := R.ob
  exact ⟨⟨dx, by rw [upd_ne (ne_of h hl (by intro z; cases z))]; exact h⟩, R.tx.upd hl⟩
section
variable {P : Program} {w : World} {K : PySem.W.Frag} {mg : Str → Option Value} {base : Heap} {a : Ad}
def OutI (K : PySem.W.Frag) (a : Ad) (r b : Addr) (t : Lute.Bytes) (i lf lc lb : Addr) (H : Hp) (Q : VK) (E : XK) (res : Except Nat (Lute.Inst × Nat × Lute.Bytes)) : Prop := match res with
  | .error e => Fails a E e
  | .ok (I, q, _) => ∀ H', RdAt K a.c_Reader H' r b t q → InAt K a.c_Instrument H' i I lf lc lb → KeepI r lf lc lb H H' → Q .non H'
def sp_line (K : PySem.W.Frag) (a : Ad) (f : Lute.Inst → Nat → Lute.Bytes → Except Nat (Lute.Inst × Nat × Lute.Bytes)) : Sp := fun vs H Q E => ∃ r b t p i I lf lc lb, vs = [.ref r, .ref i] ∧ RdAt K a.c_Reader H r b t p ∧ InAt K a.c_Instrument H i I lf lc lb ∧ Gd I ∧ OutI K a r b t i lf lc lb H Q E (f I p (t.drop p))
def fretLine (I : Lute.Inst) (p : Nat) (l : Lute.Bytes) := GF.lineTail I 0 (Lute.ascii "fret") (decide (Lute.FRETS ≤ I.frets.length)) (fun (x : Lute.Iv) => (I.frets.getLastD Lute.unison).lt x) p l
def courseLine (I : Lute.Inst) (p : Nat) (l : Lute.Bytes) := GF.lineTail I 1 (Lute.ascii "course") (decide (Lute.COURSES ≤ I.opens.length)) (Lute.soundsAll I.frets) p l
def bassLine (I : Lute.Inst) (p : Nat) (l : Lute.Bytes) := GF.lineTail I 2 (Lute.ascii "bass") (decide (Lute.COURSES ≤ I.opens.length)) (fun _ => true) p l
theorem sc_read_bass : FnScope ["reader", "instrument", "x"] ["reader", "instrument"] (defScope s_read_bass) := ⟨rfl, rfl, rfl, by decide +kernel, rfl, by decide +kernel, by decide +kernel⟩
theorem many_eq {n m : Nat} (h : n ≤ m) : decide (V.int (n : Int) = V.int (m : Int)) = decide (m ≤ n) := by
  rw [Bool.eq_iff_iff]
  simp only [decide_eq_true_eq, V.int.injEq]
  omega
theorem ok_read_bass (T : Txt K mg a) : Prm P w K mg base (CXr P w (ZT a)) 8 a.read_bass ["reader", "instrument"] (sp_line K a bassLine) := by
  refine prmx T.d_read_bass sc_read_bass (fun vs H Q E h => by obtain ⟨r, b, t, p, i, I, lf, lc, lb, rfl, _⟩ := h; rfl) (fun cdv A outer s H vs Q E hr h => ?_)
  obtain ⟨r, b, t, p, i, I, lf, lc, lb, rfl, R, hI, g, k⟩ := h
  have nd := sc_read_bass.nd
  have hr1 := hr.mono (show 1 ≤ 7 by decide)
  have hr3 := hr.mono (show 3 ≤ 7 by decide)
  have hr4 := hr.mono (show 4 ≤ 7 by decide)
  refine ⟨_, pss_cons (ps_expr (pcall (ok_read_word T) hr4 T.g_read_word wish_def.passes (pa_cons (pv 0) (pa_cons pe_str (pa_cons (pe_cmpR op_eq (pcall (ok_count_strings T) hr1 T.g_count_strings pass0 (pa_cons (pv 1) pa_nil)) (pgi T.c_MOST_STRINGS) (nomark _)) pa_nil)))))
    (pss_cons (ps_set (i := 2) nd rfl (Or.inl rfl) (pcall (ok_read_interval T) hr T.g_read_interval wish_def.passes (pa_cons (pv 0) pa_nil)))
    (pss_cons (ps_expr (pcall (ok_expect T) hr3 T.g_expect wish_def.passes (pa_cons (pv 0) (pa_cons pe_str pa_nil))))
    (pss_one (ps_expr (pe_bm PySem.F.plainAttrs_list PySem.F.slot_list_append PySem.F.type_list_append mt_append (pe_fld (pv 1) rfl) (pa_cons (pv 2) pa_nil)))))), ?_⟩
  have k : OutI K a r b t i lf lc lb H Q E (GF.lineTail I 2 (Lute.ascii "bass") (decide (Lute.COURSES ≤ I.opens.length)) (fun _ => true) p (t.drop p)) := k
  rw [line_pos] at k
  have em : decide (V.int ((I.opens.length : Nat) : Int) = V.int 14) = decide (Lute.COURSES ≤ I.opens.length) := many_eq (m := 14) g.ns
  refine ⟨_, rfl, _, rfl, i, I, lf, lc, lb, rfl, hI, rfl, r, b, t, p, _, Lute.ascii "bass", _, rfl, R, by decide +kernel, ?_⟩
  rw [em]
  cases ew : wordAt (Lute.ascii "bass") (decide (Lute.COURSES ≤ I.opens.length)) p t with
  | error e =>
    rw [ew] at k
    exact k
  | ok y =>
    obtain ⟨_, q, u⟩ := y
    rw [ew] at k
    dsimp only at k
    intro H1 R1 k1
    obtain ⟨dr, hor⟩ := R.ob
    have nir := rd_ne_in R hI
    have hI1 := hI.keep k1 hor nir
    refine ⟨_, rfl, r, b, t, q, rfl, R1, ?_⟩
    cases e3 : GF.readPy q (t.drop q) with
    | error e =>
      rw [e3] at k
      exact k
    | ok y =>
      obtain ⟨x, z, v⟩ := y
      rw [e3] at k
      dsimp only at k
      rw [if_neg (by decide)] at k
      intro H2 l2 R2 k2 hl2 h2 xd
      obtain ⟨dr1, hor1⟩ := R1.ob
      have hI2 := hI1.keep k2 hor1 nir
      refine ⟨_, rfl, r, b, t, z, _, [10], rfl, R2, by decide +kernel, ?_⟩
      cases e4 : Lute.want [10] z (t.drop z) with
      | error e =>
        rw [e4] at k
        exact k
      | ok y =>
        obtain ⟨_, q2, u2⟩ := y
        rw [e4] at k
        dsimp only at k
        intro H3 R3 k3
        obtain ⟨dr2, hor2⟩ := R2.ob
        have hI3 := hI2.keep k3 hor2 nir
        obtain ⟨di, hoi⟩ := hI3.ob
        obtain ⟨as, l1, l3⟩ := hI3.ba
        have h3 : H3 l2 = some (.lst (rowV x)) := k3 _ _ h2 (ne_of h2 hor2 (by intro z; cases z))
        have hlen : (as.map V.ref).length < sizeLine := by
          rw [List.length_map, l3.len]
          have := g.ns
          unfold Lute.Inst.opens at this
          rw [List.length_append] at this
          have : sizeLine ≥ 20 := by decide
          omega
        refine ⟨_, rfl, i, a.c_Instrument, di, _, _, rfl, hoi, T.cl_Instrument, T.n_Instrument_basses, ifs_basses _ _ _ _, .inl ⟨rfl, _, SqL.of l1⟩, _, rfl, lb, _, _, rfl, rfl, l1, hlen, ?_⟩
        refine k _ (R3.upd l1) ⟨⟨di, ?_⟩, hI3.fr.other hI3.ba hI3.n2, hI3.co.other hI3.ba hI3.n3, LsAt.add l1 l3 (SqL.of h3), hI3.n1, hI3.n2, hI3.n3⟩ fun c o e n1 n2 n3 n4 => ?_
        · rw [upd_ne (ne_of hoi l1 (by intro z; cases z))]
          exact hoi
        · rw [upd_ne n4]
          exact k3 _ _ (k2 _ _ (k1 _ _ e n1) n1) n1
end
end GP
namespace GP
open PySem PySem.Spec PyProof.Rows L2 L3
section
variable {P : Program} {w : World} {K : PySem.W.Frag} {mg : Str → Option Value} {base : Heap} {a : Ad}
theorem sc_read_course : FnScope ["reader", "instrument", "start", "x"] ["reader", "instrument"] (defScope s_read_course) := ⟨rfl, rfl, rfl, by decide +kernel, rfl, by decide +kernel, by decide +kernel⟩
theorem ok_read_course (T : Txt K mg a) : Prm P w K mg base (CXr P w (ZT a)) 8 a.read_course ["reader", "instrument"] (sp_line K a courseLine) := by
  refine prmx T.d_read_course sc_read_course (fun vs H Q E h => by obtain ⟨r, b, t, p, i, I, lf, lc, lb, rfl, _⟩ := h; rfl) (fun cdv A outer s H vs Q E hr h => ?_)
  obtain ⟨r, b, t, p, i, I, lf, lc, lb, rfl, R, hI, g, k⟩ := h
  have nd := sc_read_course.nd
  have hr1 := hr.mono (show 1 ≤ 7 by decide)
  have hr2 := hr.mono (show 2 ≤ 7 by decide)
  have hr3 := hr.mono (show 3 ≤ 7 by decide)
  have hr4 := hr.mono (show 4 ≤ 7 by decide)
  refine ⟨_, pss_cons (ps_expr (pcall (ok_read_word T) hr4 T.g_read_word wish_def.passes (pa_cons (pv 0) (pa_cons pe_str (pa_cons (pe_cmpR op_eq (pcall (ok_count_strings T) hr1 T.g_count_strings pass0 (pa_cons (pv 1) pa_nil)) (pgi T.c_MOST_STRINGS) (nomark _)) pa_nil)))))
    (pss_cons (ps_set (i := 2) nd rfl (Or.inl rfl) (pe_fld (pv 0) rfl))
    (pss_cons (ps_set (i := 3) nd rfl (Or.inl rfl) (pcall (ok_read_interval T) hr T.g_read_interval wish_def.passes (pa_cons (pv 0) pa_nil)))
    (pss_cons (ps_if (pt_not (pt_val (pcall (ok_sounds_with_each T) hr3 T.g_sounds_with_each pass0 (pa_cons (pv 3) (pa_cons (pe_fld (pv 1) rfl) pa_nil))))) (pss_one (ps_fault T hr2.h wish_def (pv 2) mono_var)) pss_nil)
    (pss_cons (ps_expr (pcall (ok_expect T) hr3 T.g_expect wish_def.passes (pa_cons (pv 0) (pa_cons pe_str pa_nil))))
    (pss_one (ps_expr (pe_bm PySem.F.plainAttrs_list PySem.F.slot_list_append PySem.F.type_list_append mt_append (pe_fld (pv 1) rfl) (pa_cons (pv 3) pa_nil)))))))), ?_⟩
  have k : OutI K a r b t i lf lc lb H Q E (GF.lineTail I 1 (Lute.ascii "course") (decide (Lute.COURSES ≤ I.opens.length)) (Lute.soundsAll I.frets) p (t.drop p)) := k
  rw [line_pos] at k
  have em : decide (V.int ((I.opens.length : Nat) : Int) = V.int 14) = decide (Lute.COURSES ≤ I.opens.length) := many_eq (m := 14) g.ns
  refine ⟨_, rfl, _, rfl, i, I, lf, lc, lb, rfl, hI, rfl, r, b, t, p, _, Lute.ascii "course", _, rfl, R, by decide +kernel, ?_⟩
  rw [em]
  cases ew : wordAt (Lute.ascii "course") (decide (Lute.COURSES ≤ I.opens.length)) p t with
  | error e =>
    rw [ew] at k
    exact k
  | ok y =>
    obtain ⟨_, q, u⟩ := y
    rw [ew] at k
    dsimp only at k
    intro H1 R1 k1
    obtain ⟨dr, hor⟩ := R.ob
    have nir := rd_ne_in R hI
    have hI1 := hI.keep k1 hor nir
    obtain ⟨dr1, hor1⟩ := R1.ob
    refine ⟨_, rfl, r, a.c_Reader, dr1, _, _, rfl, hor1, T.cl_Reader, T.n_Reader_place, rfs_place _ _, ?_⟩
    refine ⟨_, rfl, r, b, t, q, rfl, R1, ?_⟩
    cases e3 : GF.readPy q (t.drop q) with
    | error e =>
      rw [e3] at k
      exact k
    | ok y =>
      obtain ⟨x, z, v⟩ := y
      rw [e3] at k
      dsimp only at k
      intro H2 l2 R2 k2 hl2 h2 xd
      have xok := readPy_ok e3
      have hI2 := hI1.keep k2 hor1 nir
      obtain ⟨di2, hoi2⟩ := hI2.ob
      -- if not sounds_with_each(x, instrument.frets)
      refine ⟨_, rfl, _, rfl, i, a.c_Instrument, di2, _, _, rfl, hoi2, T.cl_Instrument, T.n_Instrument_frets, ifs_frets _ _ _ _, l2, lf, x, I.frets, rfl, SqL.of h2, hI2.fr, ok_bd xok, fun f hf => ok_bd (g.okf f hf), fun H3 S3 => ⟨_, rfl, ?_⟩⟩
      cases hs : Lute.soundsAll I.frets x with
      | false =>
        rw [if_pos hs] at k
        exact iteT ⟨_, rfl, _, rfl, k⟩
      | true =>
        rw [if_neg (by rw [hs]; decide)] at k
        have R3 := R2.same S3
        have hI3 := hI2.same S3
        obtain ⟨dr3, hor3⟩ := R3.ob
        refine iteF ⟨_, rfl, r, b, t, z, _, [10], rfl, R3, by decide +kernel, ?_⟩
        cases e4 : Lute.want [10] z (t.drop z) with
        | error e =>
          rw [e4] at k
          exact k
        | ok y =>
          obtain ⟨_, q2, u2⟩ := y
          rw [e4] at k
          dsimp only at k
          intro H4 R4 k4
          have hI4 := hI3.keep k4 hor3 nir
          obtain ⟨di, hoi⟩ := hI4.ob
          obtain ⟨as, l1, l3⟩ := hI4.co
          have h3 : H3 l2 = some (.lst (rowV x)) := S3 _ _ h2
          have h4 : H4 l2 = some (.lst (rowV x)) := k4 _ _ h3 (ne_of h3 hor3 (by intro z; cases z))
          have hlen : (as.map V.ref).length < sizeLine := by
            rw [List.length_map, l3.len]
            have := g.ns
            unfold Lute.Inst.opens at this
            rw [List.length_append] at this
            have : sizeLine ≥ 20 := by decide
            omega
          refine ⟨_, rfl, i, a.c_Instrument, di, _, _, rfl, hoi, T.cl_Instrument, T.n_Instrument_courses, ifs_courses _ _ _ _, .inl ⟨rfl, _, SqL.of l1⟩, _, rfl, lc, _, _, rfl, rfl, l1, hlen, ?_⟩
          refine k _ (R4.upd l1) ⟨⟨di, ?_⟩, hI4.fr.other hI4.co hI4.n1, LsAt.add l1 l3 (SqL.of h4), hI4.ba.other hI4.co hI4.n3.symm, hI4.n1, hI4.n2, hI4.n3⟩ fun c o e n1 n2 n3 n4 => ?_
          · rw [upd_ne (ne_of hoi l1 (by intro z; cases z))]
            exact hoi
          · rw [upd_ne n3]
            exact k4 _ _ (S3 _ _ (k2 _ _ (k1 _ _ e n1) n1)) n1
theorem sc_read_fret : FnScope ["reader", "instrument", "start", "x", "before"] ["reader", "instrument"] (defScope s_read_fret) := ⟨rfl, rfl, rfl, by decide +kernel, rfl, by decide +kernel, by decide +kernel⟩
theorem last_at {as : List Addr} {xs : List Lute.Iv} {K : PySem.W.Frag} {H : Hp} (v : Ivs K H as xs) (h : 0 < xs.length) : ∃ p x, atI (as.map V.ref) (-1) = some (V.ref p) ∧ xs.getLastD Lute.unison = x ∧ x ∈ xs ∧ SqL K H p (rowV x) := by
  have hl := v.len
  obtain ⟨p, hp⟩ : ∃ p, as[as.length - 1]? = some p := ⟨_, List.getElem?_eq_getElem (by omega)⟩
  obtain ⟨x, hx, hs⟩ := v.get hp
  refine ⟨p, x, ?_, ?_, List.mem_of_getElem? hx, hs⟩
  · have e : ixN (as.map V.ref).length (-1) = some (as.length - 1) := by
      unfold ixN
      rw [List.length_map, if_neg (by decide), if_pos (by omega)]
      congr 1
      omega
    unfold atI
    rw [e]
    show (as.map V.ref)[as.length - 1]? = _
    rw [List.getElem?_map, hp]
    rfl
  · rw [hl] at hx
    rw [List.getLastD_eq_getLast?, List.getLast?_eq_getElem?, hx]
    rfl
theorem ok_read_fret (T : Txt K mg a) : Prm P w K mg base (CXr P w (ZT a)) 8 a.read_fret ["reader", "instrument"] (sp_line K a fretLine) := by
  refine prmx T.d_read_fret sc_read_fret (fun vs H Q E h => by obtain ⟨r, b, t, p, i, I, lf, lc, lb, rfl, _⟩ := h; rfl) (fun cdv A outer s H vs Q E hr h => ?_)
  obtain ⟨r, b, t, p, i, I, lf, lc, lb, rfl, R, hI, g, k⟩ := h
  have nd := sc_read_fret.nd
  have hr1 := hr.mono (show 1 ≤ 7 by decide)
  have hr2 := hr.mono (show 2 ≤ 7 by decide)
  have hr3 := hr.mono (show 3 ≤ 7 by decide)
  have hr4 := hr.mono (show 4 ≤ 7 by decide)
  refine ⟨_, pss_cons (ps_expr (pcall (ok_read_word T) hr4 T.g_read_word wish_def.passes (pa_cons (pv 0) (pa_cons pe_str (pa_cons (pe_cmpR op_eq (pe_callB call_len_seq (by rfl) T.b_len PySem.boot_len (pa_cons (pe_fld (pv 1) rfl) pa_nil)) (pgi T.c_MOST_FRETS) (nomark _)) pa_nil)))))
    (pss_cons (ps_set (i := 2) nd rfl (Or.inl rfl) (pe_fld (pv 0) rfl))
    (pss_cons (ps_set (i := 3) nd rfl (Or.inl rfl) (pcall (ok_read_interval T) hr T.g_read_interval wish_def.passes (pa_cons (pv 0) pa_nil)))
    (pss_cons (ps_set (i := 4) nd rfl (Or.inl rfl) (pe_ifExp (pt_cmpR op_gt (pe_callB call_len_seq (by rfl) T.b_len PySem.boot_len (pa_cons (pe_fld (pv 1) rfl) pa_nil)) pe_int (nomark _)) (pe_ix ix_list (pe_fld (pv 1) rfl) (pe_un un_neg pe_int) (fun _ _ => rfl)) (pcall0 (ok_unison T) hr1 T.g_unison pass0)))
    (pss_cons (ps_if (pt_not (pt_val (pcall (ok_is_wider T) hr3 T.g_is_wider pass0 (pa_cons (pv 3) (pa_cons (pv 4) pa_nil))))) (pss_one (ps_fault T hr2.h wish_def (pv 2) mono_var)) pss_nil)
    (pss_cons (ps_expr (pcall (ok_expect T) hr3 T.g_expect wish_def.passes (pa_cons (pv 0) (pa_cons pe_str pa_nil))))
    (pss_one (ps_expr (pe_bm PySem.F.plainAttrs_list PySem.F.slot_list_append PySem.F.type_list_append mt_append (pe_fld (pv 1) rfl) (pa_cons (pv 3) pa_nil))))))))), ?_⟩
  have k : OutI K a r b t i lf lc lb H Q E (GF.lineTail I 0 (Lute.ascii "fret") (decide (Lute.FRETS ≤ I.frets.length)) (fun (x : Lute.Iv) => (I.frets.getLastD Lute.unison).lt x) p (t.drop p)) := k
  rw [line_pos] at k
  obtain ⟨di0, hoi0⟩ := hI.ob
  obtain ⟨as0, m1, m2⟩ := hI.fr
  have em : decide (V.int (((as0.map V.ref).length : Nat) : Int) = V.int 15) = decide (Lute.FRETS ≤ I.frets.length) := by
    rw [List.length_map, m2.len]
    exact many_eq (m := 15) g.nf
  refine ⟨_, rfl, _, rfl, i, a.c_Instrument, di0, _, _, rfl, hoi0, T.cl_Instrument, T.n_Instrument_frets, ifs_frets _ _ _ _, lf, _, rfl, .inl (SqL.of m1), rfl, r, b, t, p, _, Lute.ascii "fret", _, rfl, R, by decide +kernel, ?_⟩
  rw [em]
  cases ew : wordAt (Lute.ascii "fret") (decide (Lute.FRETS ≤ I.frets.length)) p t with
  | error e =>
    rw [ew] at k
    exact k
  | ok y =>
    obtain ⟨_, q, u⟩ := y
    rw [ew] at k
    dsimp only at k
    intro H1 R1 k1
    obtain ⟨dr, hor⟩ := R.ob
    have nir := rd_ne_in R hI
    have hI1 := hI.keep k1 hor nir
    obtain ⟨dr1, hor1⟩ := R1.ob
    refine ⟨_, rfl, r, a.c_Reader, dr1, _, _, rfl, hor1, T.cl_Reader, T.n_Reader_place, rfs_place _ _, ?_⟩
    refine ⟨_, rfl, r, b, t, q, rfl, R1, ?_⟩
    cases e3 : GF.readPy q (t.drop q) with
    | error e =>
      rw [e3] at k
      exact k
    | ok y =>
      obtain ⟨x, z, v⟩ := y
      rw [e3] at k
      dsimp only at k
      intro H2 l2 R2 k2 hl2 h2 xd
      have xok := readPy_ok e3
      have hI2 := hI1.keep k2 hor1 nir
      obtain ⟨di2, hoi2⟩ := hI2.ob
      obtain ⟨as, l1, l3⟩ := hI2.fr
      -- behind before
      have main : ∀ (H3 : Hp) (zb : Addr) (xb : Lute.Iv), Same H2 H3 → SqL K H3 zb (rowV xb) → xb.ok = true → I.frets.getLastD Lute.unison = xb →
          tSeq (tIfS (tNot (tB (tCall (sp_is_wider K) [] E0 (tCons (tVar 3) (tCons (tVar 4) tNil))))) (tFault a (tVar 2) E) tNext) (tSeq (tDrop (tCall (sp_expect K a) [] E (tCons (tVar 0) (tCons (tC (V.str "\n")) tNil)))) (tDrop (tBM K "list" rAppend (tFld K (tVar 1) "frets") (tCons (tVar 3) tNil)))) { nx := fun _ H' => Q .non H', rt := Q } [some (.ref r), some (.ref i), some (.int (q : Int)), some (.ref l2), some (.ref zb)] H3 := by
        intro H3 zb xb S3 hzb xbok elast
        have h3 : H3 l2 = some (.lst (rowV x)) := S3 _ _ h2
        refine ⟨_, rfl, _, rfl, l2, zb, x, xb, rfl, SqL.of h3, hzb, wd_ok xok xbok, fun H4 S4 => ⟨_, rfl, ?_⟩⟩
        rw [elast] at k
        cases hs : xb.lt x with
        | false =>
          rw [if_pos hs] at k
          exact iteT ⟨_, rfl, _, rfl, k⟩
        | true =>
          rw [if_neg (by rw [hs]; decide)] at k
          have SS := S3.trans S4
          have R4 := R2.same SS
          have hI4 := hI2.same SS
          obtain ⟨dr4, hor4⟩ := R4.ob
          have h4 : H4 l2 = some (.lst (rowV x)) := S4 _ _ h3
          refine iteF ⟨_, rfl, r, b, t, z, _, [10], rfl, R4, by decide +kernel, ?_⟩
          cases e4 : Lute.want [10] z (t.drop z) with
          | error e =>
            rw [e4] at k
            exact k
          | ok y =>
            obtain ⟨_, q2, u2⟩ := y
            rw [e4] at k
            dsimp only at k
            intro H5 R5 k5
            have hI5 := hI4.keep k5 hor4 nir
            obtain ⟨di, hoi⟩ := hI5.ob
            obtain ⟨as, l1, l3⟩ := hI5.fr
            have h5 : H5 l2 = some (.lst (rowV x)) := k5 _ _ h4 (ne_of h4 hor4 (by intro z; cases z))
            have hlen : (as.map V.ref).length < sizeLine := by
              rw [List.length_map, l3.len]
              have := g.nf
              have : sizeLine ≥ 20 := by decide
              omega
            refine ⟨_, rfl, i, a.c_Instrument, di, _, _, rfl, hoi, T.cl_Instrument, T.n_Instrument_frets, ifs_frets _ _ _ _, .inl ⟨rfl, _, SqL.of l1⟩, _, rfl, lf, _, _, rfl, rfl, l1, hlen, ?_⟩
            refine k _ (R5.upd l1) ⟨⟨di, ?_⟩, LsAt.add l1 l3 (SqL.of h5), hI5.co.other hI5.fr hI5.n1.symm, hI5.ba.other hI5.fr hI5.n2.symm, hI5.n1, hI5.n2, hI5.n3⟩ fun c o e n1 n2 n3 n4 => ?_
            · rw [upd_ne (ne_of hoi l1 (by intro z; cases z))]
              exact hoi
            · rw [upd_ne n2]
              exact k5 _ _ (SS _ _ (k2 _ _ (k1 _ _ e n1) n1)) n1
      refine ⟨_, rfl, i, a.c_Instrument, di2, _, _, rfl, hoi2, T.cl_Instrument, T.n_Instrument_frets, ifs_frets _ _ _ _, lf, _, rfl, .inl (SqL.of l1), _, _, rfl, rfl, _, rfl, ifB (fun hc => ?_) (fun hc => ?_)⟩
      · have hn : 0 < I.frets.length := by
          have := of_decide_eq_true hc
          rw [List.length_map, l3.len] at this
          omega
        obtain ⟨p9, x9, a1, a2, a3, a4⟩ := last_at l3 hn
        exact ⟨_, rfl, i, a.c_Instrument, di2, _, _, rfl, hoi2, T.cl_Instrument, T.n_Instrument_frets, ifs_frets _ _ _ _, _, rfl, lf, _, _, _, rfl, rfl, SqL.of l1, a1, main H2 p9 x9 (Same.refl _) a4 (g.okf x9 a3) a2⟩
      · have hn : I.frets = [] := by
          have := of_decide_eq_false hc
          rw [List.length_map, l3.len] at this
          exact List.length_eq_zero_iff.mp (by omega)
        exact ⟨rfl, fun H3 zb S3 hzb h3 => main H3 zb Lute.unison S3 (SqL.of h3) ok_unison_iv (by rw [hn]; rfl)⟩
end
end GP
namespace GP
open PySem PySem.Spec PyProof.Rows L2 L3
theorem emp {xs : List Lute.Iv} : xs.isEmpty = decide (xs.length = 0) := by
  cases xs <;> simp
theorem line_kind (I : Lute.Inst) (p : Nat) (l : Lute.Bytes) : GF.lineAt I p l = if pk l = 102 ∧ I.courses.length = 0 then fretLine I p l else if pk l = 99 ∧ I.basses.length = 0 then courseLine I p l else if pk l = 98 ∧ ¬ I.courses.length = 0 then bassLine I p l else .error p := by
  cases l with
  | nil => rfl
  | cons c r =>
    have hc : ∀ k : UInt8, (pk (c :: r) = (k.toNat : Int)) ↔ c = k := fun k => by
      show ((c.toNat : Int) = (k.toNat : Int)) ↔ _
      rw [← UInt8.toNat_inj]
      omega
    show (if c = 102 ∧ I.courses.isEmpty = true then _ else if c = 99 ∧ I.basses.isEmpty = true then _ else if c = 98 ∧ I.courses.isEmpty = false then _ else _) = _
    have e1 : (pk (c :: r) = 102 ∧ I.courses.length = 0) ↔ (c = 102 ∧ I.courses.isEmpty = true) := by
      rw [emp, decide_eq_true_eq, ← hc 102]; rfl
    have e2 : (pk (c :: r) = 99 ∧ I.basses.length = 0) ↔ (c = 99 ∧ I.basses.isEmpty = true) := by
      rw [emp, decide_eq_true_eq, ← hc 99]; rfl
    have e3 : (pk (c :: r) = 98 ∧ ¬ I.courses.length = 0) ↔ (c = 98 ∧ I.courses.isEmpty = false) := by
      rw [emp, decide_eq_false_iff_not, ← hc 98]; rfl
    simp only [e1, e2, e3]
    rfl
theorem tail_good {I I' : Lute.Inst} {k : Nat} {ws : Lute.Bytes} {many : Bool} {fine : Lute.Iv → Bool} {p q : Nat} {t u : Lute.Bytes} (h : GF.lineTail I k ws many fine p (t.drop p) = .ok (I', q, u)) : many = false ∧ ∃ x, x.ok = true ∧ I' = GF.putLine I k x := by
  rw [line_pos] at h
  unfold wordAt at h
  cases ew : Lute.want ws p (t.drop p) with
  | error e => rw [ew] at h; cases h
  | ok y =>
    obtain ⟨_, q1, u1⟩ := y
    rw [ew] at h
    dsimp only at h
    cases many with
    | true => cases h
    | false =>
      refine ⟨rfl, ?_⟩
      rw [if_neg (by decide)] at h
      cases e2 : Lute.want [32] q1 (t.drop q1) with
      | error e => rw [e2] at h; cases h
      | ok y =>
        obtain ⟨_, q2, u2⟩ := y
        rw [e2] at h
        dsimp only at h
        cases e3 : GF.readPy q2 (t.drop q2) with
        | error e => rw [e3] at h; cases h
        | ok y =>
          obtain ⟨x, z, v⟩ := y
          rw [e3] at h
          dsimp only at h
          split at h
          · cases h
          · cases e4 : Lute.want [10] z (t.drop z) with
            | error e => rw [e4] at h; cases h
            | ok y =>
              rw [e4] at h
              cases h
              exact ⟨x, readPy_ok e3, rfl⟩
theorem mem_snoc {xs : List Lute.Iv} {x : Lute.Iv} (h : ∀ y ∈ xs, y.ok = true) (hx : x.ok = true) : ∀ y ∈ xs ++ [x], y.ok = true := fun y hy => by
  rcases List.mem_append.mp hy with z | z
  · exact h y z
  · rw [List.mem_singleton.mp z]; exact hx
theorem line_good {I I' : Lute.Inst} {p q : Nat} {t u : Lute.Bytes} (g : Gd I) (h : GF.lineAt I p (t.drop p) = .ok (I', q, u)) : Gd I' := by
  rw [line_kind] at h
  have ns := g.ns
  unfold Lute.Inst.opens at ns
  rw [List.length_append] at ns
  split at h
  · obtain ⟨hm, x, hx, rfl⟩ := tail_good h
    have hm := of_decide_eq_false hm
    refine ⟨mem_snoc g.okf hx, g.okc, g.okb, ?_, g.ns⟩
    show (I.frets ++ [x]).length ≤ 15
    rw [List.length_append]
    have : ¬ 15 ≤ I.frets.length := hm
    show I.frets.length + 1 ≤ 15
    omega
  · split at h
    · obtain ⟨hm, x, hx, rfl⟩ := tail_good h
      have hm := of_decide_eq_false hm
      refine ⟨g.okf, mem_snoc g.okc hx, g.okb, g.nf, ?_⟩
      have hm : ¬ 14 ≤ (I.courses ++ I.basses).length := hm
      show ((I.courses ++ [x]) ++ I.basses).length ≤ 14
      rw [List.length_append] at hm
      rw [List.length_append, List.length_append]
      show I.courses.length + 1 + I.basses.length ≤ 14
      omega
    · split at h
      · obtain ⟨hm, x, hx, rfl⟩ := tail_good h
        have hm := of_decide_eq_false hm
        refine ⟨g.okf, g.okc, mem_snoc g.okb hx, g.nf, ?_⟩
        have hm : ¬ 14 ≤ (I.courses ++ I.basses).length := hm
        show (I.courses ++ (I.basses ++ [x])).length ≤ 14
        rw [List.length_append] at hm
        rw [List.length_append, List.length_append]
        show I.courses.length + (I.basses.length + 1) ≤ 14
        omega
      · cases h
section
variable {P : Program} {w : World} {K : PySem.W.Frag} {mg : Str → Option Value} {base : Heap} {a : Ad}
theorem sc_read_line : FnScope ["reader", "instrument", "first"] ["reader", "instrument"] (defScope s_read_line) := ⟨rfl, rfl, rfl, by decide +kernel, rfl, by decide +kernel, by decide +kernel⟩
theorem ok_read_line (T : Txt K mg a) : Prm P w K mg base (CXr P w (ZT a)) 9 a.read_line ["reader", "instrument"] (sp_line K a GF.lineAt) := by
  refine prmx T.d_read_line sc_read_line (fun vs H Q E h => by obtain ⟨r, b, t, p, i, I, lf, lc, lb, rfl, _⟩ := h; rfl) (fun cdv A outer s H vs Q E hr h => ?_)
  obtain ⟨r, b, t, p, i, I, lf, lc, lb, rfl, R, hI, g, k⟩ := h
  have nd := sc_read_line.nd
  have hr1 := hr.mono (show 1 ≤ 8 by decide)
  have hr2 := hr.mono (show 2 ≤ 8 by decide)
  refine ⟨_, pss_cons (ps_set (i := 2) nd rfl (Or.inl rfl) (pmeth0 (pv 0) T.cl_Reader T.m_Reader_peek (ok_peek T) hr1 pass0))
    (pss_one (ps_if (pw_and (pt_cmpR op_eq (pv 2) (pe_callB call_ord (by rfl) T.b_ord boot_ord (pa_cons pe_str pa_nil)) (nomark _)) (pw_and1 (pt_cmpR op_eq (pe_callB call_len_seq (by rfl) T.b_len PySem.boot_len (pa_cons (pe_fld (pv 1) rfl) pa_nil)) pe_int (nomark _)))).pt
      (pss_one (ps_expr (pcall (ok_read_fret T) hr T.g_read_fret wish_def.passes (pa_cons (pv 0) (pa_cons (pv 1) pa_nil)))))
      (pss_one (ps_if (pw_and (pt_cmpR op_eq (pv 2) (pe_callB call_ord (by rfl) T.b_ord boot_ord (pa_cons pe_str pa_nil)) (nomark _)) (pw_and1 (pt_cmpR op_eq (pe_callB call_len_seq (by rfl) T.b_len PySem.boot_len (pa_cons (pe_fld (pv 1) rfl) pa_nil)) pe_int (nomark _)))).pt
        (pss_one (ps_expr (pcall (ok_read_course T) hr T.g_read_course wish_def.passes (pa_cons (pv 0) (pa_cons (pv 1) pa_nil)))))
        (pss_one (ps_if (pw_and (pt_cmpR op_eq (pv 2) (pe_callB call_ord (by rfl) T.b_ord boot_ord (pa_cons pe_str pa_nil)) (nomark _)) (pw_and1 (pt_cmpR op_gt (pe_callB call_len_seq (by rfl) T.b_len PySem.boot_len (pa_cons (pe_fld (pv 1) rfl) pa_nil)) pe_int (nomark _)))).pt
          (pss_one (ps_expr (pcall (ok_read_bass T) hr T.g_read_bass wish_def.passes (pa_cons (pv 0) (pa_cons (pv 1) pa_nil)))))
          (pss_one (ps_fault T hr2.h wish_def (pe_fld (pv 0) rfl) mono_fld)))))))), ?_⟩
  obtain ⟨dr, hor⟩ := R.ob
  obtain ⟨di, hoi⟩ := hI.ob
  obtain ⟨cs, c1, c2⟩ := hI.co
  obtain ⟨bs, b1, b2⟩ := hI.ba
  rw [line_kind] at k
  have lenc : (((cs.map V.ref).length : Nat) : Int) = (I.courses.length : Int) := by rw [List.length_map, c2.len]
  have lenb : (((bs.map V.ref).length : Nat) : Int) = (I.basses.length : Int) := by rw [List.length_map, b2.len]
  refine ⟨_, rfl, r, dr, _, rfl, hor, rfs_peek _ _, r, b, t, p, rfl, R, ?_⟩
  -- the third test and what's behind it
  have third : ¬ (pk (t.drop p) = 102 ∧ I.courses.length = 0) → ¬ (pk (t.drop p) = 99 ∧ I.basses.length = 0) → tIfS (tAnd (tTest (tOp rEq (tVar 2) (tCB (fun xs H Q => ∃ x, xs = [.str x] ∧ x.length = 1 ∧ Q (.int (x.cps.getD 0 0 : Nat)) H) (tCons (tC (.str "b")) tNil)))) (tTest (tOp (rI0 fun i j => .bl (decide (j < i))) (tCB (fun xs H Q => ∃ p ys, xs = [.ref p] ∧ (SqL K H p ys ∨ SqT K H p ys) ∧ Q (.int ys.length) H) (tCons (tFld K (tVar 1) "courses") tNil)) (tC (.int 0)))))
      (tDrop (tCall (sp_line K a bassLine) [] E (tCons (tVar 0) (tCons (tVar 1) tNil)))) (tFault a (tFld K (tVar 0) "place") E) { nx := fun _ H' => Q .non H', rt := Q } [some (.ref r), some (.ref i), some (.int (pk (t.drop p)))] H := fun n1 n2 => by
    rw [if_neg n1, if_neg n2] at k
    refine ⟨_, rfl, _, rfl, rfl, rfl, _, rfl, ifB (fun h1 => ?_) (fun h1 => ?_)⟩
    · have h1 : pk (t.drop p) = 98 := by
        have : V.int (pk (t.drop p)) = V.int 98 := of_decide_eq_true h1
        injection this
      refine ⟨_, rfl, i, a.c_Instrument, di, _, _, rfl, hoi, T.cl_Instrument, T.n_Instrument_courses, ifs_courses _ _ _ _, lc, _, rfl, .inl (SqL.of c1), _, _, rfl, rfl, _, rfl, ?_⟩
      rw [lenc]
      refine ifB (fun h2 => ?_) (fun h2 => ?_)
      · have h2 : ¬ I.courses.length = 0 := by
          have := of_decide_eq_true h2
          omega
        rw [if_pos ⟨h1, h2⟩] at k
        exact ⟨_, rfl, _, rfl, r, b, t, p, i, I, lf, lc, lb, rfl, R, hI, g, k⟩
      · have h2 : I.courses.length = 0 := by
          have := of_decide_eq_false h2
          omega
        rw [if_neg (fun z => z.2 h2)] at k
        exact ⟨_, rfl, r, a.c_Reader, dr, _, _, rfl, hor, T.cl_Reader, T.n_Reader_place, rfs_place _ _, _, rfl, k⟩
    · have h1 : pk (t.drop p) ≠ 98 := fun z => of_decide_eq_false h1 (by rw [z]; rfl)
      rw [if_neg (fun z => h1 z.1)] at k
      exact iteF ⟨_, rfl, r, a.c_Reader, dr, _, _, rfl, hor, T.cl_Reader, T.n_Reader_place, rfs_place _ _, _, rfl, k⟩
  have second : ¬ (pk (t.drop p) = 102 ∧ I.courses.length = 0) → tIfS (tAnd (tTest (tOp rEq (tVar 2) (tCB (fun xs H Q => ∃ x, xs = [.str x] ∧ x.length = 1 ∧ Q (.int (x.cps.getD 0 0 : Nat)) H) (tCons (tC (.str "c")) tNil)))) (tTest (tOp rEq (tCB (fun xs H Q => ∃ p ys, xs = [.ref p] ∧ (SqL K H p ys ∨ SqT K H p ys) ∧ Q (.int ys.length) H) (tCons (tFld K (tVar 1) "basses") tNil)) (tC (.int 0)))))
      (tDrop (tCall (sp_line K a courseLine) [] E (tCons (tVar 0) (tCons (tVar 1) tNil)))) (tIfS (tAnd (tTest (tOp rEq (tVar 2) (tCB (fun xs H Q => ∃ x, xs = [.str x] ∧ x.length = 1 ∧ Q (.int (x.cps.getD 0 0 : Nat)) H) (tCons (tC (.str "b")) tNil)))) (tTest (tOp (rI0 fun i j => .bl (decide (j < i))) (tCB (fun xs H Q => ∃ p ys, xs = [.ref p] ∧ (SqL K H p ys ∨ SqT K H p ys) ∧ Q (.int ys.length) H) (tCons (tFld K (tVar 1) "courses") tNil)) (tC (.int 0)))))
      (tDrop (tCall (sp_line K a bassLine) [] E (tCons (tVar 0) (tCons (tVar 1) tNil)))) (tFault a (tFld K (tVar 0) "place") E)) { nx := fun _ H' => Q .non H', rt := Q } [some (.ref r), some (.ref i), some (.int (pk (t.drop p)))] H := fun n1 => by
    refine ⟨_, rfl, _, rfl, rfl, rfl, _, rfl, ifB (fun h1 => ?_) (fun h1 => ?_)⟩
    · have h1 : pk (t.drop p) = 99 := by
        have : V.int (pk (t.drop p)) = V.int 99 := of_decide_eq_true h1
        injection this
      refine ⟨_, rfl, i, a.c_Instrument, di, _, _, rfl, hoi, T.cl_Instrument, T.n_Instrument_basses, ifs_basses _ _ _ _, lb, _, rfl, .inl (SqL.of b1), rfl, _, rfl, ?_⟩
      rw [lenb]
      refine ifB (fun h2 => ?_) (fun h2 => ?_)
      · have h2 : I.basses.length = 0 := by
          have : V.int (I.basses.length : Int) = V.int 0 := of_decide_eq_true h2
          injection this with this
          omega
        rw [if_neg n1, if_pos ⟨h1, h2⟩] at k
        exact ⟨_, rfl, _, rfl, r, b, t, p, i, I, lf, lc, lb, rfl, R, hI, g, k⟩
      · have h2 : ¬ I.basses.length = 0 := fun z => of_decide_eq_false h2 (by rw [z]; rfl)
        exact third n1 fun z => h2 z.2
    · have h1 : pk (t.drop p) ≠ 99 := fun z => of_decide_eq_false h1 (by rw [z]; rfl)
      exact iteF (third n1 fun z => h1 z.1)
  refine ⟨_, rfl, _, rfl, rfl, rfl, _, rfl, ifB (fun h1 => ?_) (fun h1 => ?_)⟩
  · have h1 : pk (t.drop p) = 102 := by
      have : V.int (pk (t.drop p)) = V.int 102 := of_decide_eq_true h1
      injection this
    refine ⟨_, rfl, i, a.c_Instrument, di, _, _, rfl, hoi, T.cl_Instrument, T.n_Instrument_courses, ifs_courses _ _ _ _, lc, _, rfl, .inl (SqL.of c1), rfl, _, rfl, ?_⟩
    rw [lenc]
    refine ifB (fun h2 => ?_) (fun h2 => ?_)
    · have h2 : I.courses.length = 0 := by
        have : V.int (I.courses.length : Int) = V.int 0 := of_decide_eq_true h2
        injection this with this
        omega
      rw [if_pos ⟨h1, h2⟩] at k
      exact ⟨_, rfl, _, rfl, r, b, t, p, i, I, lf, lc, lb, rfl, R, hI, g, k⟩
    · have h2 : ¬ I.courses.length = 0 := fun z => of_decide_eq_false h2 (by rw [z]; rfl)
      exact second fun z => h2 z.2
  · have h1 : pk (t.drop p) ≠ 102 := fun z => of_decide_eq_false h1 (by rw [z]; rfl)
    exact iteF (second fun z => h1 z.1)
end
end GP
namespace GP
open PySem PySem.Spec PyProof.Rows L2 L3
section
variable {P : Program} {w : World} {K : PySem.W.Frag} {mg : Str → Option Value} {base : Heap} {a : Ad}
def OutR (K : PySem.W.Frag) (a : Ad) (H : Hp) (Q : VK) (E : XK) (res : Except Nat Lute.Inst) : Prop := match res with
  | .error e => Fails a E e
  | .ok I => ∀ H' i lf lc lb, InAt K a.c_Instrument H' i I lf lc lb → Gd I → Same H H' → Q (.ref i) H'
def sp_read_instrument (K : PySem.W.Frag) (a : Ad) : Sp := fun vs H Q E => ∃ b t, vs = [.ref b] ∧ SqF K H b (byV t) ∧ OutR K a H Q E (Lute.readInst t)
theorem sc_read_instrument : FnScope ["t", "reader", "instrument"] ["t"] (defScope s_read_instrument) := ⟨rfl, rfl, rfl, by decide +kernel, rfl, by decide +kernel, by decide +kernel⟩
theorem gd_new (n : Nat) : Gd ⟨n, [], [], []⟩ := ⟨fun x h => (List.not_mem_nil h).elim, fun x h => (List.not_mem_nil h).elim, fun x h => (List.not_mem_nil h).elim, Nat.zero_le _, Nat.zero_le _⟩
theorem ok_read_instrument (T : Txt K mg a) : Prm P w K mg base (CXr P w (ZT a)) 10 a.read_instrument ["t"] (sp_read_instrument K a) := by
  refine prmx T.d_read_instrument sc_read_instrument (fun vs H Q E h => by obtain ⟨b, t, rfl, _⟩ := h; rfl) (fun cdv A outer s H vs Q E hr h => ?_)
  obtain ⟨b, t, rfl, ht, k⟩ := h
  have nd := sc_read_instrument.nd
  have hr1 := hr.mono (show 1 ≤ 9 by decide)
  have hr2 := hr.mono (show 2 ≤ 9 by decide)
  have hr4 := hr.mono (show 4 ≤ 9 by decide)
  refine ⟨_, pss_cons (ps_set (i := 1) nd rfl (Or.inl rfl) (pmake T.mk_Reader (ok_Reader_init T) hr2 T.g_Reader pass0 (pa_cons (pv 0) pa_nil)))
    (pss_cons (ps_set (i := 2) nd rfl (Or.inl rfl) (pmake T.mk_Instrument (ok_Instrument_init T) hr2 T.g_Instrument pass0 (pa_cons (pcall (ok_read_length T) hr4 T.g_read_length wish_def.passes (pa_cons (pv 1) pa_nil)) pa_nil)))
    (pss_cons (ps_while own_def (pw_or (pt_cmpR op_ne (pmeth0 (pv 1) T.cl_Reader T.m_Reader_peek (ok_peek T) hr1 pass0) (pgi T.c_NO_BYTE) (nomark _)) (pw_or1 (pt_cmpR op_eq (pe_callB call_len_seq (by rfl) T.b_len PySem.boot_len (pa_cons (pe_fld (pv 2) rfl) pa_nil)) pe_int (nomark _)))).pt
      (pss_one (ps_expr (pcall (ok_read_line T) hr T.g_read_line wish_def.passes (pa_cons (pv 1) (pa_cons (pv 2) pa_nil))))))
    (pss_one (ps_ret (pv 2))))), ?_⟩
  rw [GF.readInst_eq] at k
  -- reader = Reader(t)
  refine ⟨_, rfl, fun r dr hr0 hd0 hdr => ?_⟩
  have S0 : Same H (upd (upd H dr (.own r)) r (.ins a.c_Reader dr [])) := fun c o e => by rw [upd_ne (ne_of_none e hr0), upd_ne (ne_of_none e hd0)]; exact e
  refine ⟨r, dr, b, t, rfl, upd_same, ht.same S0, fun H1 R1 k1 => ⟨rfl, ?_⟩⟩
  have S1 : Same H H1 := fun c o e => k1 _ _ (S0 _ _ e) (ne_of_none e hr0)
  -- instrument = Instrument(read_length(reader))
  refine ⟨_, rfl, r, b, t, 0, rfl, R1, ?_⟩
  show Out K a r b t H1 _ E _ (GF.headAt 0 t)
  cases eh : GF.headAt 0 t with
  | error e =>
    rw [eh] at k
    exact k
  | ok y =>
    obtain ⟨n, q0, v0⟩ := y
    have ev0 : v0 = t.drop q0 := by
      have eh : GF.headAt 0 (t.drop 0) = .ok (n, q0, v0) := eh
      rw [head_pos] at eh
      cases e1 : Lute.want (Lute.ascii "length ") 0 (t.drop 0) with
      | error e => rw [e1] at eh; cases eh
      | ok y =>
        obtain ⟨_, q1, u1⟩ := y
        rw [e1] at eh
        dsimp only at eh
        cases e2 : GF.rdNum 49 7 q1 (t.drop q1) with
        | error e => rw [e2] at eh; cases eh
        | ok y =>
          obtain ⟨m, q2, u2⟩ := y
          rw [e2] at eh
          dsimp only at eh
          split at eh
          · cases eh
          · cases e3 : Lute.want [10] q2 (t.drop q2) with
            | error e => rw [e3] at eh; cases eh
            | ok y =>
              obtain ⟨_, q3, u3⟩ := y
              rw [e3] at eh
              cases eh
              exact (want_rest e3).2
    subst ev0
    rw [eh] at k
    dsimp only at k
    intro H2 R2 k2
    have S2 : Same H H2 := fun c o e => k2 _ _ (S1 _ _ e) (ne_of_none e hr0)
    intro i di hi0 hdi hne
    obtain ⟨dr2, hor2⟩ := R2.ob
    have nri : r ≠ i := ne_of_none hor2 hi0
    have S3 : Same H2 (upd (upd H2 di (.own i)) i (.ins a.c_Instrument di [])) := fun c o e => by rw [upd_ne (ne_of_none e hi0), upd_ne (ne_of_none e hdi)]; exact e
    refine ⟨i, di, n, rfl, upd_same, fun H3 lf lc lb hI3 k3 hlf hlc hlb => ⟨rfl, ?_⟩⟩
    have S23 : Same H2 H3 := fun c o e => k3 _ _ (S3 _ _ e) (ne_of_none e hi0)
    have R3 := R2.same S23
    have fi : H i = none := S2.free hi0
    have ff : H lf = none := S2.free (S3.free hlf)
    have fc : H lc = none := S2.free (S3.free hlc)
    have fb : H lb = none := S2.free (S3.free hlb)
    -- while reader.peek() != NO_BYTE or len(instrument.courses) == 0
    refine ⟨fun f σ H4 => ∃ (I : Lute.Inst) (q : Nat), σ = [some (.ref b), some (.ref r), some (.ref i)] ∧ RdAt K a.c_Reader H4 r b t q ∧ InAt K a.c_Instrument H4 i I lf lc lb ∧ Gd I ∧ Same H H4 ∧ (t.drop q).length < f ∧ OutR K a H Q E (Lute.linesAt f I q (t.drop q)),
      ⟨_, ⟨n, [], [], []⟩, q0, rfl, R3, hI3, gd_new n, S2.trans S23, Nat.lt_succ_self _, k⟩, ?_⟩
    rintro f σ H4 ⟨I, q, rfl, R4, hI4, g, S4, hf, k⟩
    obtain ⟨dr4, hor4⟩ := R4.ob
    obtain ⟨di4, hoi4⟩ := hI4.ob
    obtain ⟨cs, c1, c2⟩ := hI4.co
    obtain ⟨f', rfl⟩ : ∃ f', f = f' + 1 := ⟨f - 1, by omega⟩
    -- the turn
    have turn : ¬ (t.drop q = [] ∧ ¬ I.courses.length = 0) → ∃ N : L2.St → Hp → Prop, (∀ σ' H', N σ' H' → ∃ m', m' < f' + 1 ∧ ∃ (I : Lute.Inst) (q : Nat), σ' = [some (.ref b), some (.ref r), some (.ref i)] ∧ RdAt K a.c_Reader H' r b t q ∧ InAt K a.c_Instrument H' i I lf lc lb ∧ Gd I ∧ Same H H' ∧ (t.drop q).length < m' ∧ OutR K a H Q E (Lute.linesAt m' I q (t.drop q))) ∧
        tDrop (tCall (sp_line K a GF.lineAt) [] E (tCons (tVar 1) (tCons (tVar 2) tNil))) { nx := N, rt := Q, bk := tRet (tVar 2) { nx := fun _ H' => Q .non H', rt := Q }, ct := N } [some (.ref b), some (.ref r), some (.ref i)] H4 := fun hn => by
      refine ⟨fun σ' H' => ∃ (I : Lute.Inst) (q : Nat), σ' = [some (.ref b), some (.ref r), some (.ref i)] ∧ RdAt K a.c_Reader H' r b t q ∧ InAt K a.c_Instrument H' i I lf lc lb ∧ Gd I ∧ Same H H' ∧ (t.drop q).length < f' ∧ OutR K a H Q E (Lute.linesAt f' I q (t.drop q)),
        fun σ' H' h => ⟨f', Nat.lt_succ_self _, h⟩, ?_⟩
      refine ⟨_, rfl, _, rfl, r, b, t, q, i, I, lf, lc, lb, rfl, R4, hI4, g, ?_⟩
      cases el : t.drop q with
      | nil =>
        have hc : I.courses.length = 0 := Classical.byContradiction fun z => hn ⟨el, z⟩
        rw [el, GF.linesAt_nil, if_pos (by rw [emp, decide_eq_true hc])] at k
        exact k
      | cons c u =>
        rw [el, GF.linesAt_step, ← el] at k
        rw [← el]
        cases ea : GF.lineAt I q (t.drop q) with
        | error e =>
          rw [ea] at k
          exact k
        | ok y =>
          obtain ⟨I', q', u'⟩ := y
          rw [ea] at k
          dsimp only at k
          obtain ⟨m, m1, m2, m3, m4⟩ := GF.lineAt_took I q (t.drop q) I' q' u' ea
          have eu : u' = t.drop q' := took_rest (x := I') ⟨m, m2, m3, m4⟩
          subst eu
          intro H5 R5 hI5 k5
          refine ⟨I', q', rfl, R5, hI5, line_good g ea, fun x o e => k5 _ _ (S4 _ _ e) (ne_of_none e hr0) (ne_of_none e ff) (ne_of_none e fc) (ne_of_none e fb), ?_, k⟩
          rw [List.length_drop] at m2 hf ⊢
          omega
    refine ⟨_, rfl, r, dr4, _, rfl, hor4, rfs_peek _ _, r, b, t, q, rfl, R4, rfl, _, rfl, ifB (fun h1 => ?_) (fun h1 => ?_)⟩
    · refine iteT (turn fun z => ?_)
      rw [z.1] at h1
      exact absurd h1 (by decide)
    · have hend : t.drop q = [] := by
        have : pk (t.drop q) = 256 := by
          have z : V.int (pk (t.drop q)) = V.int 256 := by simpa using h1
          injection z
        cases el : t.drop q with
        | nil => rfl
        | cons c u =>
          rw [el] at this
          have z : (c.toNat : Int) = 256 := this
          have := c.toNat_lt
          omega
      refine ⟨_, rfl, i, a.c_Instrument, di4, _, _, rfl, hoi4, T.cl_Instrument, T.n_Instrument_courses, ifs_courses _ _ _ _, lc, _, rfl, .inl (SqL.of c1), rfl, _, rfl, ?_⟩
      rw [show (((cs.map V.ref).length : Nat) : Int) = (I.courses.length : Int) from by rw [List.length_map, c2.len]]
      refine ifB (fun h2 => ?_) (fun h2 => ?_)
      · have h2 : I.courses.length = 0 := by
          have : V.int (I.courses.length : Int) = V.int 0 := of_decide_eq_true h2
          injection this with this
          omega
        exact turn fun z => z.2 h2
      · have h2 : ¬ I.courses.length = 0 := fun z => of_decide_eq_false h2 (by rw [z]; rfl)
        rw [hend, GF.linesAt_nil, if_neg (by rw [emp, decide_eq_false h2]; decide)] at k
        exact ⟨_, rfl, k H4 i lf lc lb hI4 g S4⟩
end
end GP
namespace GP
open PySem PySem.Spec PyProof.Rows L2 L3
/-- what is wanted of a refusal -/
def Refuses (E : XK) (C : Addr) (fs : List (Str × V)) : Prop := ∀ dx H', H' dx = some (XD dx fs) → E (.ref C) (some dx) H'
section
variable {P : Program} {w : World} {K : PySem.W.Frag} {mg : Str → Option Value} {base : Heap} {a : Ad}
def sp_Refusal_init (K : PySem.W.Frag) : Sp := fun vs H Q _ => ∃ C ms fI e t0 v, vs = [.ref e, v] ∧ XC K C ms fI ∧ NoA K C "number" ∧ H e = some (XO C e t0 none) ∧ ∀ dx, H dx = none → dx ≠ e → Q .non (upd (upd H dx (XD dx [("number", v)])) e (XO C e t0 (some dx)))
theorem sc_Refusal_init : FnScope ["self", "number"] ["self", "number"] (defScope s_Refusal_init) := ⟨rfl, rfl, rfl, by decide +kernel, rfl, by decide +kernel, by decide +kernel⟩
theorem ok_Refusal_init (T : Txt K mg a) : PrmH P w K mg base 1 a.Refusal_init ["self", "number"] (sp_Refusal_init K) := by
  refine prmH T.d_Refusal_init sc_Refusal_init (fun vs H Q E h => by obtain ⟨C, ms, fI, e, t0, v, rfl, _⟩ := h; rfl) (fun cdv A outer s H vs Q E hr h => ?_)
  obtain ⟨C, ms, fI, e, t0, v, rfl, xc, na, he, k⟩ := h
  refine ⟨_, pss_one (ps_xfld (pv 0) (pv 1) rfl), ?_⟩
  exact ⟨_, rfl, _, rfl, C, ms, fI, e, t0, none, rfl, xc, na, he, k⟩
/-- an __init__ that gives its number alone -/
def sp_ref (K : PySem.W.Frag) (n : Int) : Sp := fun vs H Q _ => ∃ C ms fI e t0, vs = [.ref e] ∧ XC K C ms fI ∧ NoA K C "number" ∧ H e = some (XO C e t0 none) ∧ ∀ dx, H dx = none → dx ≠ e → Q .non (upd (upd H dx (XD dx [("number", .int n)])) e (XO C e t0 (some dx)))
theorem sc_TextTooLong_init : FnScope ["self"] ["self"] (defScope s_TextTooLong_init) := ⟨rfl, rfl, rfl, by decide +kernel, rfl, by decide +kernel, by decide +kernel⟩
theorem ok_TextTooLong_init (T : Txt K mg a) : PrmH P w K mg base 2 a.TextTooLong_init ["self"] (sp_ref K (-2)) := by
  refine prmH T.d_TextTooLong_init sc_TextTooLong_init (fun vs H Q E h => by obtain ⟨C, ms, fI, e, t0, rfl, _⟩ := h; rfl) (fun cdv A outer s H vs Q E hr h => ?_)
  obtain ⟨C, ms, fI, e, t0, rfl, xc, na, he, k⟩ := h
  obtain ⟨⟨fd, G, b⟩, _⟩ := ok_Refusal_init (P := P) (w := w) (base := base) T
  refine ⟨_, pss_one (ps_expr (pe_cm T.cm_Refusal G hr b rfl T.g_Refusal (pa_cons (pv 0) (pa_cons (pe_un un_neg pe_int) pa_nil)))), ?_⟩
  exact ⟨_, rfl, _, rfl, C, ms, fI, e, t0, _, rfl, xc, na, he, k⟩
def sp_NoInstrument_init (K : PySem.W.Frag) : Sp := fun vs H Q _ => ∃ C ms fI e t0 v, vs = [.ref e, v] ∧ XC K C ms fI ∧ NoA K C "number" ∧ NoA K C "place" ∧ H e = some (XO C e t0 none) ∧
  ∀ dx H', H dx = none → dx ≠ e → H' dx = some (XD dx [("place", v), ("number", .int (-6))]) → H' e = some (XO C e t0 (some dx)) → (∀ c o, H c = some o → c ≠ e → H' c = some o) → Q .non H'
theorem sc_NoInstrument_init : FnScope ["self", "place"] ["self", "place"] (defScope s_NoInstrument_init) := ⟨rfl, rfl, rfl, by decide +kernel, rfl, by decide +kernel, by decide +kernel⟩
theorem ok_NoInstrument_init (T : Txt K mg a) : PrmH P w K mg base 2 a.NoInstrument_init ["self", "place"] (sp_NoInstrument_init K) := by
  refine prmH T.d_NoInstrument_init sc_NoInstrument_init (fun vs H Q E h => by obtain ⟨C, ms, fI, e, t0, v, rfl, _⟩ := h; rfl) (fun cdv A outer s H vs Q E hr h => ?_)
  obtain ⟨C, ms, fI, e, t0, v, rfl, xc, na, nb, he, k⟩ := h
  obtain ⟨⟨fd, G, b⟩, _⟩ := ok_Refusal_init (P := P) (w := w) (base := base) T
  refine ⟨_, pss_cons (ps_expr (pe_cm T.cm_Refusal G hr b rfl T.g_Refusal (pa_cons (pv 0) (pa_cons (pe_un un_neg pe_int) pa_nil)))) (pss_one (ps_xfld (pv 0) (pv 1) rfl)), ?_⟩
  refine ⟨_, rfl, _, rfl, C, ms, fI, e, t0, _, rfl, xc, na, he, fun dx hd hne => ?_⟩
  refine ⟨_, rfl, _, rfl, C, ms, fI, e, t0, some dx, rfl, xc, nb, upd_same, [("number", .int (-6))], ?_, hne, by show 1 < 1000; decide, ?_⟩
  · rw [upd_ne hne, upd_same]
  · refine k dx _ hd hne ?_ upd_same fun c o e1 n1 => ?_
    · rw [upd_ne hne, upd_same]
    · rw [upd_ne n1, upd_ne (ne_of_none e1 hd), upd_ne n1, upd_ne (ne_of_none e1 hd)]
      exact e1
def OutN (K : PySem.W.Frag) (a : Ad) (t : Lute.Bytes) (H : Hp) (Q : VK) (E : XK) : Prop :=
  if 4096 < t.length then Refuses E a.c_TextTooLong [("number", .int (-2))] else match Lute.readInst t with
    | .error e => Refuses E a.c_NoInstrument [("place", .int (e : Int)), ("number", .int (-6))]
    | .ok I => ∀ H' i lf lc lb, InAt K a.c_Instrument H' i I lf lc lb → Gd I → Same H H' → Q (.ref i) H'
def sp_instrument_of (K : PySem.W.Frag) (a : Ad) : Sp := fun vs H Q E => ∃ b t, vs = [.ref b] ∧ SqF K H b (byV t) ∧ OutN K a t H Q E
theorem sc_instrument_of : FnScope ["t", "fault"] ["t"] (defScope s_instrument_of) := ⟨rfl, rfl, rfl, by decide +kernel, rfl, by decide +kernel, by decide +kernel⟩
theorem ne_fault (T : Txt K mg a) : ¬ ZT a a.c_NoInstrument := fun z => by
  have h := T.x_ne
  have z : a.c_NoInstrument = a.c_TextFault := z
  rw [z] at h
  simp at h
theorem ok_instrument_of (T : Txt K mg a) : Prm P w K mg base (CXr P w (ZT a)) 11 a.instrument_of ["t"] (sp_instrument_of K a) := by
  refine prmx T.d_instrument_of sc_instrument_of (fun vs H Q E h => by obtain ⟨b, t, rfl, _⟩ := h; rfl) (fun cdv A outer s H vs Q E hr h => ?_)
  obtain ⟨b, t, rfl, ht, k⟩ := h
  have nd := sc_instrument_of.nd
  obtain ⟨⟨fd2, G2, b2⟩, _⟩ := ok_TextTooLong_init (P := P) (w := w) (base := base) T
  obtain ⟨⟨fd6, G6, b6⟩, _⟩ := ok_NoInstrument_init (P := P) (w := w) (base := base) T
  have hr3 : RoomH 3 _ := (hr.mono (show 3 ≤ 10 by decide)).h
  refine ⟨_, pss_cons (ps_if (pt_cmpR op_gt (pe_callB call_len_seq (by rfl) T.b_len PySem.boot_len (pa_cons (pv 0) pa_nil)) (pgi T.c_MOST_BYTES) (nomark _)) (pss_one (ps_raiseX0 T.x_TextTooLong G2 hr3 rfl T.g_TextTooLong b2 (wish_def (Z := ZT a)) rfl)) pss_nil)
    (pss_one (ps_try (Z := ZT a) (tb := fun Ec => tRet (tCall (sp_read_instrument K a) [] Ec (tCons (tVar 0) tNil))) rfl rfl (fun pn E' Ec wi => pss_one (ps_ret (pcall (ok_read_instrument T) hr T.g_read_instrument wi.passes (pa_cons (pv 0) pa_nil))))
      (ph_cons (i := 1) (ts := fun e => tRaiseF a.c_NoInstrument (sp_NoInstrument_init K) (tCons (tXld K "place" (tVar 1)) tNil) e E) T.x_TextFault rfl rfl rfl T.g_TextFault nd rfl rfl
        (fun e ok => pss_one (ps_raiseF T.x_NoInstrument G6 ⟨hr3.dp, hr3.un⟩ rfl T.g_NoInstrument b6 (wish_inH wish_def ok rfl rfl rfl) (ne_fault T) rfl (pa_cons (pe_xld (pv 1) rfl) pa_nil))) ph_nil))), ?_⟩
  unfold OutN at k
  refine ⟨_, rfl, b, _, rfl, .inl ht.sq, _, _, rfl, rfl, _, rfl, ifB (fun hc => ?_) (fun hc => ?_)⟩
  · have hl : 4096 < t.length := by
      have := of_decide_eq_true hc
      rw [List.length_map] at this
      omega
    rw [if_pos hl] at k
    refine ⟨by show 0 ≤ sizeLine; decide, fun e t0 hn => ?_⟩
    refine ⟨a.c_TextTooLong, [a.c_Refusal], a.TextTooLong_init, e, t0, rfl, T.x_TextTooLong, T.n_TextTooLong_number, upd_same, fun dx hd hne => ⟨rfl, dx, upd_same, k dx _ ?_⟩⟩
    rw [era_ne hne, upd_ne hne, upd_same]
  · have hl : ¬ 4096 < t.length := by
      have := of_decide_eq_false hc
      rw [List.length_map] at this
      omega
    rw [if_neg hl] at k
    refine ⟨_, rfl, b, t, rfl, ht, ?_⟩
    cases er : Lute.readInst t with
    | ok I =>
      rw [er] at k
      exact k
    | error e =>
      rw [er] at k
      intro dx H' hd
      refine ⟨a.c_TextFault, [], a.TextFault_init, dx, rfl, rfl, T.x_TextFault, ifT (by simp) fun eh heh => ?_⟩
      have nde : dx ≠ eh := ne_of_none hd heh
      refine ⟨_, rfl, a.c_TextFault, _, eh, dx, _, _, [], a.TextFault_init, rfl, upd_same, by rw [upd_ne nde]; exact hd, T.x_TextFault, T.n_TextFault_place, rfl, by show 1 ≤ sizeLine; decide, fun e2 t0 hn => ?_⟩
      have neh : eh ≠ e2 := ne_of_none upd_same hn
      refine ⟨a.c_NoInstrument, [a.c_Refusal], a.NoInstrument_init, e2, t0, _, rfl, T.x_NoInstrument, T.n_NoInstrument_number, T.n_NoInstrument_place, upd_same, fun d2 H2 hd2 hne2 h2 h2e kp => ⟨rfl, d2, h2e, ⟨a.c_TextFault, _, dx, kp eh _ (by rw [upd_ne neh]; exact upd_same) neh, rfl⟩, neh, k d2 _ ?_⟩⟩
      rw [era_ne hne2]
      exact h2
end
end GP
namespace GP
open PySem PySem.Spec PyProof.Rows L2 L3
section
variable {K : PySem.W.Frag} {mg : Str → Option Value} {a : Ad}
/-- a list of numbers is answered -/
def Ans (zs : List Int) (Q : VK) : Prop := ∀ (H' : Hp) (p : Addr), H' p = some (.lst (zs.map V.int)) → Q (.ref p) H'
/-- except Refusal as refusal: return [refusal.number] -/
abbrev tsR (K : PySem.W.Frag) (i : Nat) : Addr → TS := fun _ => tRet (tLst (tCons (tXld K "number" (tVar i)) tNil))
theorem refused {X : Cx} {Z : Addr → Prop} {D : Ends} {i : Nat} {C fI : Addr} {ms : List Addr} {fs : List (Str × V)} {n : Int} (hx : XC X.K C ms fI) (hR : a.c_Refusal ∈ C :: ms) (na : NoA X.K C "number") (hl : fs.lookup ("number" : Str) = some (V.int n))
    (hi : ∀ v, ((blank X).set i (some v))[i]? = some (some v)) (k : Ans [n] D.rt) : Refuses (hCons X Z a.c_Refusal i (tsR X.K i) hNil D) C fs := by
  intro dx H' hd
  refine ⟨C, ms, fI, dx, rfl, rfl, hx, ifT (decide_eq_true hR) fun eh heh => ?_⟩
  have nde : dx ≠ eh := ne_of_none hd heh
  exact ⟨_, hi _, C, _, eh, dx, _, _, ms, fI, rfl, upd_same, by rw [upd_ne nde]; exact hd, hx, na, hl, by show 1 ≤ sizeLine; decide, fun p hp => k _ p upd_same⟩
end
end GP
namespace GP
open PySem PySem.Spec PyProof.Rows L2 L3
section
variable {P : Program} {w : World} {K : PySem.W.Frag} {mg : Str → Option Value} {base : Heap} {a : Ad}
/-! ### f-strings -/
def tFvI (te : TE) : TE := fun σ H Q => te σ H fun x H1 => ∃ i : Int, x = .int i ∧ i.natAbs.log2 < 1920 ∧ Q (.str (toString i)) H1
def tFvS (te : TE) : TE := fun σ H Q => te σ H fun x H1 => ∃ y : Str, x = .str y ∧ y.length ≤ sizeLine ∧ Q (.str y) H1
theorem pe_fvI {X : Cx} {e : Expr} {te : TE} {pos : Pos} (he : PE X e te) : PE X (.FormattedValue e (-1) none pos) (tFvI te) := by
  intro pins s σ H Q I h
  refine PyProof.Rows.FormattedValue_plain (thn (he pins s σ H _ I h) fun v s1 ⟨x, H1, I1, r1, q1⟩ => ?_)
  obtain ⟨i, rfl, hd, q⟩ := q1
  obtain ⟨t, rfl⟩ := r1
  exact PyProof.Rows.formatField_int_small hd ⟨.str _, H1, I1.kept (t' := s1.toks + 1 + 1) fun _ _ z => z, ⟨_, rfl⟩, q⟩
theorem pe_fvS {X : Cx} {e : Expr} {te : TE} {pos : Pos} (he : PE X e te) : PE X (.FormattedValue e (-1) none pos) (tFvS te) := by
  intro pins s σ H Q I h
  refine PyProof.Rows.FormattedValue_plain (thn (he pins s σ H _ I h) fun v s1 ⟨x, H1, I1, r1, q1⟩ => ?_)
  obtain ⟨y, rfl, hd, q⟩ := q1
  obtain ⟨t, rfl⟩ := r1
  exact PyProof.Rows.formatField_str (fun t' tk => ⟨.str _, H1, I1.kept (t' := tk) fun _ _ z => z, ⟨_, rfl⟩, q⟩) hd
abbrev TJ := L2.St → Hp → Str → VK → Prop
def PJ (X : Cx) (es : List Expr) (t : TJ) : Prop := ∀ (pins : List (Addr × Obj)) (s : Shared) (σ : L2.St) (H : Hp) (acc : Str) (Q : VK), Inv X pins σ H s → t σ H acc Q → wpAny (model X.prog X.w) X.A (joinParts acc (evalEach es X.env)) (EP X pins σ Q) X.xe s
def jNil : TJ := fun _ H acc Q => acc.length ≤ sizeLine ∧ Q (.str acc) H
def jCons (te : TE) (tr : TJ) : TJ := fun σ H acc Q => te σ H fun x H1 => ∃ y : Str, x = .str y ∧ (acc ++ y).length ≤ sizeLine ∧ tr σ H1 (acc ++ y) Q
theorem pj_nil {X : Cx} : PJ X [] jNil := fun pins s σ H acc Q I ⟨h1, h2⟩ => PyProof.Rows.joinParts_nil ⟨.str _, H, I.tok _, ⟨_, rfl⟩, h2⟩ h1
theorem pj_cons {X : Cx} {e : Expr} {es : List Expr} {te : TE} {tr : TJ} (he : PE X e te) (hr : PJ X es tr) : PJ X (e :: es) (jCons te tr) := by
  intro pins s σ H acc Q I h
  show wpAny _ _ (joinParts acc (eval e X.env :: evalEach es X.env)) _ _ _
  refine PyProof.Rows.joinParts_cons (thn (he pins s σ H _ I h) fun v s1 ⟨x, H1, I1, r1, q1⟩ => ?_)
  obtain ⟨y, rfl, hd, q⟩ := q1
  obtain ⟨t, rfl⟩ := r1
  exact ⟨hd, hr pins s1 σ H1 (acc ++ y) Q I1 q⟩
def tJoin (t : TJ) : TE := fun σ H Q => t σ H Str.empty Q
theorem pe_fstr1 {X : Cx} {e : Expr} {te : TE} {pos : Pos} (he : PE X e te) : PE X (.JoinedStr [e] pos) te := fun pins s σ H Q I h => PyProof.Rows.JoinedStr_one (he pins s σ H Q I h)
theorem pe_fstr {X : Cx} {e1 e2 : Expr} {es : List Expr} {t : TJ} {pos : Pos} (h : PJ X (e1 :: e2 :: es) t) : PE X (.JoinedStr (e1 :: e2 :: es) pos) (tJoin t) := fun pins s σ H Q I hq => PyProof.Rows.JoinedStr_many (h pins s σ H Str.empty Q I hq)
end
end GP
namespace GF
open Lute PySem
/-! texts -/
def txt (b : Bytes) : Str := ⟨(b.map UInt8.toNat).toArray⟩
theorem txt_append (a b : Bytes) : txt (a ++ b) = txt a ++ txt b := by
  show (⟨((a ++ b).map UInt8.toNat).toArray⟩ : Str) = ⟨(a.map UInt8.toNat).toArray ++ (b.map UInt8.toNat).toArray⟩
  rw [List.map_append, List.append_toArray]
theorem txt_len (b : Bytes) : (txt b).length = b.length := by
  show ((b.map UInt8.toNat).toArray).size = _
  rw [List.size_toArray, List.length_map]
theorem dig_char : ∀ c, c < 10 → (Nat.digitChar c).toNat = 48 + c ∧ (UInt8.ofNat (48 + c)).toNat = 48 + c := by decide
theorem digits_eq : ∀ (f n : Nat), n < 10 ^ f → 1 ≤ f → (Nat.toDigits 10 n).map Char.toNat = (digits f n).map UInt8.toNat
  | 0, _, _, h => absurd h (by decide)
  | f + 1, n, hn, _ => by
    rw [Nat.toDigits_eq_if (by decide)]
    show _ = (if n < 10 then [UInt8.ofNat (48 + n)] else digits f (n / 10) ++ [UInt8.ofNat (48 + n % 10)]).map UInt8.toNat
    by_cases h : n < 10
    · rw [if_pos h, if_pos h]
      show [(Nat.digitChar n).toNat] = [(UInt8.ofNat (48 + n)).toNat]
      rw [(dig_char n h).1, (dig_char n h).2]
    · rw [if_neg h, if_neg h, List.map_append, List.map_append]
      have h1 : n / 10 < 10 ^ f := by
        rw [Nat.pow_succ] at hn
        omega
      have hf : 1 ≤ f := by
        cases f with
        | zero => simp at hn; omega
        | succ f => omega
      rw [digits_eq f (n / 10) h1 hf]
      congr 1
      show [(Nat.digitChar (n % 10)).toNat] = [(UInt8.ofNat (48 + n % 10)).toNat]
      have := Nat.mod_lt n (show 0 < 10 by decide)
      rw [(dig_char _ this).1, (dig_char _ this).2]
theorem str_nat {n : Nat} (h : n < 10 ^ 12) : Str.ofString (toString (n : Int)) = txt (decimal n) := by
  rw [show ((n : Nat) : Int) = Int.ofNat n from rfl, PyProof.Rows.text_ofNat]
  unfold txt decimal
  rw [digits_eq 12 n h (by decide)]
theorem str_int {z : Int} (h : z.natAbs < 10 ^ 12) : Str.ofString (toString z) = txt (whole z) := by
  cases z with
  | ofNat n =>
    have e : whole (Int.ofNat n) = decimal n := by
      unfold whole
      rw [if_neg (by show ¬ ((n : Int) < 0); omega)]
      rfl
    rw [e]
    exact str_nat h
  | negSucc n =>
    have e : whole (Int.negSucc n) = 45 :: decimal (n + 1) := by
      unfold whole
      rw [if_pos (Int.negSucc_lt_zero n)]
      rfl
    rw [e, show txt (45 :: decimal (n + 1)) = txt [45] ++ txt (decimal (n + 1)) from txt_append [45] _]
    have h2 : n + 1 < 10 ^ 12 := h
    rw [← str_nat h2]
    show Str.ofString ("-" ++ toString (n + 1)) = txt [45] ++ Str.ofString (toString (n + 1))
    rw [Str.ofString_eq_toList, Str.ofString_eq_toList, String.toList_append, List.map_append, ← List.append_toArray]
    rfl
end GF
namespace GF
open Lute
/-! the order of intervals in lowest terms -/
theorem abs_div {a : Int} {g : Nat} (h : (g : Int) ∣ a) : (a / (g : Int)).natAbs = a.natAbs / g := by
  obtain ⟨k, rfl⟩ := h
  by_cases hg : g = 0
  · subst hg
    simp
  · rw [Int.mul_ediv_cancel_left _ (by omega), Int.natAbs_mul, Int.natAbs_natCast, Nat.mul_div_cancel_left _ (by omega)]
end GF
namespace GP
open PySem PySem.Spec PyProof.Rows L2 L3
section
variable {P : Program} {w : World} {K : PySem.W.Frag} {mg : Str → Option Value} {base : Heap} {a : Ad}
/-! ### texts of intervals -/
theorem ofStr1 {z : Int} (h : z.natAbs < 1000000) : (toString z : String) = toString z ∧ z.natAbs.log2 < 1920 := ⟨rfl, by
  by_cases h0 : z.natAbs = 0
  · rw [h0]; decide
  · exact (Nat.log2_lt h0).mpr (Nat.lt_trans h (by decide))⟩
theorem cat_txt (a b : Lute.Bytes) : GF.txt a ++ GF.txt b = GF.txt (a ++ b) := (GF.txt_append a b).symm
theorem fits {b : Lute.Bytes} (h : b.length ≤ 100000) : (GF.txt b).length ≤ sizeLine := by
  rw [GF.txt_len]
  exact Nat.le_trans h (by decide)
/-- how long a number's text may be -/
theorem digits_len : ∀ (f n : Nat), (Lute.digits f n).length ≤ f
  | 0, _ => Nat.le_refl _
  | f + 1, n => by
    show (if n < 10 then [UInt8.ofNat (48 + n)] else Lute.digits f (n / 10) ++ [UInt8.ofNat (48 + n % 10)]).length ≤ f + 1
    split
    · simp
    · rw [List.length_append]
      have := digits_len f (n / 10)
      simp
      omega
theorem whole_len (z : Int) : (Lute.whole z).length ≤ 13 := by
  unfold Lute.whole Lute.decimal
  have := digits_len 12 z.natAbs
  split
  · simp; omega
  · omega
def sp_write_factor : Sp := fun vs H Q _ => ∃ pr : Nat, ∃ n : Int, ∃ d : Nat, vs = [.int (pr : Int), .int n, .int (d : Int)] ∧ pr < 10 ∧ n.natAbs ≤ 99 ∧ 1 ≤ d ∧ d ≤ 24 ∧ ∀ H', Same H H' → Q (.str (GF.txt (UInt8.ofNat (48 + pr) :: Lute.powerText n d))) H'
theorem sc_write_factor : FnScope ["prime", "n", "d", "factor", "above", "below"] ["prime", "n", "d"] (defScope s_write_factor) := ⟨rfl, rfl, rfl, by decide +kernel, rfl, by decide +kernel, by decide +kernel⟩
theorem decimal1 {pr : Nat} (h : pr < 10) : Lute.decimal pr = [UInt8.ofNat (48 + pr)] := by
  show (if pr < 10 then [UInt8.ofNat (48 + pr)] else _) = _
  rw [if_pos h]
theorem ok_write_factor (T : Txt K mg a) : Prm P w K mg base CX0 2 a.write_factor ["prime", "n", "d"] sp_write_factor := by
  refine prm T.d_write_factor sc_write_factor (fun vs H Q E h => by obtain ⟨pr, n, d, rfl, _⟩ := h; rfl) (fun cdv A outer s H vs Q E hr h => ?_)
  obtain ⟨pr, n, d, rfl, hp, hn, hd, hd2, k⟩ := h
  have nd := sc_write_factor.nd
  refine ⟨_, pss_cons (ps_set (i := 3) nd rfl (Or.inl rfl) (pcall (ok_common_factor T) hr T.g_common_factor pass0 (pa_cons (pe_lst (pa_cons (pv 1) (pa_cons (pv 2) pa_nil))) pa_nil)))
    (pss_cons (ps_set (i := 4) nd rfl (Or.inl rfl) (pe_op op_fdiv (pv 1) (pv 3)))
    (pss_cons (ps_set (i := 5) nd rfl (Or.inl rfl) (pe_op op_fdiv (pv 2) (pv 3)))
    (pss_cons (ps_if (pt_cmpR op_gt (pv 5) pe_int (nomark _)) (pss_one (ps_ret (pe_fstr (pj_cons (pe_fvI (pv 0)) (pj_cons pe_str (pj_cons (pe_fvI (pv 4)) (pj_cons pe_str (pj_cons (pe_fvI (pv 5)) pj_nil)))))))) pss_nil)
    (pss_cons (ps_if (pt_cmpR op_ne (pv 4) pe_int (nomark _)) (pss_one (ps_ret (pe_fstr (pj_cons (pe_fvI (pv 0)) (pj_cons pe_str (pj_cons (pe_fvI (pv 4)) pj_nil)))))) pss_nil)
    (pss_one (ps_ret (pe_fstr1 (pe_fvI (pv 0))))))))), ?_⟩
  refine ⟨_, rfl, _, rfl, by show 2 ≤ sizeLine; decide, fun q hq => ?_⟩
  have S : Same H (upd H q (.lst [.int n, .int (d : Int)])) := same_new hq
  generalize hH : upd H q (.lst [.int n, .int (d : Int)]) = H1 at S
  refine ⟨q, [n, (d : Int)], rfl, SqL.of (by rw [← hH]; exact upd_same), ?_⟩
  rw [GF.cf_two]
  generalize hg : Nat.gcd n.natAbs d = g
  have gp : 0 < g := by rw [← hg]; exact Nat.gcd_pos_of_pos_right _ hd
  have gd : g ≤ 24 := Nat.le_trans (by rw [← hg]; exact Nat.le_of_dvd hd (Nat.gcd_dvd_right _ _)) hd2
  have gdv : g ∣ d := by rw [← hg]; exact Nat.gcd_dvd_right _ _
  have gnv : (g : Int) ∣ n := by
    rw [Int.ofNat_dvd_left, ← hg]
    exact Nat.gcd_dvd_left _ _
  refine ⟨_, rfl, _, rfl, _, _, rfl, rfl, ⟨by omega, by omega⟩, _, rfl, _, rfl, _, _, rfl, rfl, ⟨by omega, by omega⟩, ?_⟩
  have ed : (d : Int) / (g : Int) = ((d / g : Nat) : Int) := rfl
  have hm : (n / (g : Int)).natAbs ≤ 99 := by rw [GF.abs_div gnv]; exact Nat.le_trans (Nat.div_le_self _ _) hn
  have hdg : d / g ≤ 24 := Nat.le_trans (Nat.div_le_self _ _) hd2
  have hdg1 : 1 ≤ d / g := Nat.div_pos (Nat.le_of_dvd hd gdv) gp
  have kx := k H1 S
  have pw : Lute.powerText n d = if d / g = 1 then (if n / (g : Int) = 1 then [] else 94 :: Lute.whole (n / (g : Int))) else 94 :: (Lute.whole (n / (g : Int)) ++ 47 :: Lute.decimal (d / g)) := by
    rw [← hg]
    rfl
  rw [pw] at kx
  dsimp only
  rw [ed]
  clear ed pw
  generalize n / (g : Int) = m at *
  generalize d / g = bl at *
  have sp : Str.ofString (toString ((pr : Nat) : Int)) = GF.txt [UInt8.ofNat (48 + pr)] := by rw [GF.str_nat (Nat.lt_trans hp (by decide)), decimal1 hp]
  have sm : Str.ofString (toString m) = GF.txt (Lute.whole m) := GF.str_int (Nat.lt_of_le_of_lt hm (by decide))
  have sb : Str.ofString (toString ((bl : Nat) : Int)) = GF.txt (Lute.decimal bl) := GF.str_nat (Nat.lt_of_le_of_lt hdg (by decide))
  have lp : ((pr : Nat) : Int).natAbs.log2 < 1920 := (ofStr1 (z := ((pr : Nat) : Int)) (by omega)).2
  have lm : m.natAbs.log2 < 1920 := (ofStr1 (z := m) (by omega)).2
  have lb : ((bl : Nat) : Int).natAbs.log2 < 1920 := (ofStr1 (z := ((bl : Nat) : Int)) (by omega)).2
  have wl := whole_len m
  have dl : (Lute.decimal bl).length ≤ 12 := digits_len 12 bl
  have c1 : Str.ofString "^" = GF.txt [94] := by decide +kernel
  have c2 : Str.ofString "/" = GF.txt [47] := by decide +kernel
  have em : Str.empty = GF.txt [] := rfl
  refine ⟨_, rfl, _, _, rfl, rfl, _, rfl, ifB (fun hc => ?_) (fun hc => ?_)⟩
  · have hb1 : ¬ bl = 1 := by have : (1 : Int) < ((bl : Nat) : Int) := of_decide_eq_true hc; omega
    rw [if_neg hb1] at kx
    refine ⟨_, rfl, _, rfl, lp, _, rfl, ?_⟩
    show (Str.empty ++ Str.ofString (toString ((pr : Nat) : Int))).length ≤ sizeLine ∧ _
    rw [em, sp, cat_txt]
    refine ⟨fits (by simp), _, rfl, ?_⟩
    show (GF.txt ([] ++ [UInt8.ofNat (48 + pr)]) ++ Str.ofString "^").length ≤ sizeLine ∧ _
    rw [c1, cat_txt]
    refine ⟨fits (by simp), _, rfl, _, rfl, lm, _, rfl, ?_⟩
    show (GF.txt ([] ++ [UInt8.ofNat (48 + pr)] ++ [94]) ++ Str.ofString (toString m)).length ≤ sizeLine ∧ _
    rw [sm, cat_txt]
    refine ⟨fits (by simp; omega), _, rfl, ?_⟩
    show (GF.txt ([] ++ [UInt8.ofNat (48 + pr)] ++ [94] ++ Lute.whole m) ++ Str.ofString "/").length ≤ sizeLine ∧ _
    rw [c2, cat_txt]
    refine ⟨fits (by simp; omega), _, rfl, _, rfl, lb, _, rfl, ?_⟩
    show (GF.txt ([] ++ [UInt8.ofNat (48 + pr)] ++ [94] ++ Lute.whole m ++ [47]) ++ Str.ofString (toString ((bl : Nat) : Int))).length ≤ sizeLine ∧ _
    rw [sb, cat_txt]
    refine ⟨fits (by simp; omega), fits (by simp; omega), ?_⟩
    have e : [] ++ [UInt8.ofNat (48 + pr)] ++ [94] ++ Lute.whole m ++ [47] ++ Lute.decimal bl = UInt8.ofNat (48 + pr) :: 94 :: (Lute.whole m ++ 47 :: Lute.decimal bl) := by simp
    rw [e]
    exact kx
  · have hb1 : bl = 1 := by have : ¬ (1 : Int) < ((bl : Nat) : Int) := of_decide_eq_false hc; omega
    rw [if_pos hb1] at kx
    refine ⟨_, rfl, rfl, _, rfl, ifB (fun hc2 => ?_) (fun hc2 => ?_)⟩
    · have hm1 : ¬ m = 1 := by simpa using hc2
      rw [if_neg hm1] at kx
      refine ⟨_, rfl, _, rfl, lp, _, rfl, ?_⟩
      show (Str.empty ++ Str.ofString (toString ((pr : Nat) : Int))).length ≤ sizeLine ∧ _
      rw [em, sp, cat_txt]
      refine ⟨fits (by simp), _, rfl, ?_⟩
      show (GF.txt ([] ++ [UInt8.ofNat (48 + pr)]) ++ Str.ofString "^").length ≤ sizeLine ∧ _
      rw [c1, cat_txt]
      refine ⟨fits (by simp), _, rfl, _, rfl, lm, _, rfl, ?_⟩
      show (GF.txt ([] ++ [UInt8.ofNat (48 + pr)] ++ [94]) ++ Str.ofString (toString m)).length ≤ sizeLine ∧ _
      rw [sm, cat_txt]
      refine ⟨fits (by simp; omega), fits (by simp; omega), ?_⟩
      have e : [] ++ [UInt8.ofNat (48 + pr)] ++ [94] ++ Lute.whole m = UInt8.ofNat (48 + pr) :: 94 :: Lute.whole m := by simp
      rw [e]
      exact kx
    · have hm1 : m = 1 := by simpa using hc2
      rw [if_pos hm1] at kx
      refine ⟨_, rfl, _, rfl, lp, ?_⟩
      show Q (.str (Str.ofString (toString ((pr : Nat) : Int)))) H1
      rw [sp]
      exact kx
end
end GP
namespace GP
open PySem PySem.Spec PyProof.Rows L2 L3
section
variable {P : Program} {w : World} {K : PySem.W.Frag} {mg : Str → Option Value} {base : Heap} {a : Ad}
theorem ixT {X : Cx} {K : PySem.W.Frag} (h : X.K = K := by rfl) : IxR X (rIxT K) := by
  subst h
  exact ix_tup
theorem lc_str {x : Str} {g : TG} {tt : TT} {te : TE} {vs : List Nat} {σ : L2.St} {H1 : Hp} {D : Addr} {Qd : Hp → Prop} (Pv : Nat → Hp → Prop) (h0 : Pv 0 (upd H1 D (.lst [])))
    (hs : ∀ i c H, x.cps[i]? = some c → Pv i H → g (.str ⟨#[c]⟩) (wipe σ vs) H fun σ2 H2 => wipe σ2 vs = wipe σ vs ∧ tt σ2 H2 fun b H3 =>
      if b = true then te σ2 H3 fun y H4 => ∃ acc, H4 D = some (.lst acc) ∧ acc.length < sizeLine ∧ Pv (i + 1) (upd H4 D (.lst (acc ++ [y]))) else Pv (i + 1) H3) (hd : ∀ H, Pv x.cps.size H → Qd H) :
    ∃ W : Nat → Nat → Hp → Prop, (∃ m, W 0 m (upd H1 D (.lst []))) ∧ ∀ i m H, W i m H →
      ((Its x).stop i H ∧ Qd H) ∨ ((Its x).go i H ∧ ∃ Nx : Hp → Prop, (∀ H', Nx H' → ∃ m', m' < m ∧ W (i + 1) m' H') ∧ ∀ v H', (Its x).yld i H v H' → g v (wipe σ vs) H' fun σ2 H2 => wipe σ2 vs = wipe σ vs ∧ tt σ2 H2 fun b H3 =>
        if b = true then te σ2 H3 fun y H4 => ∃ acc, H4 D = some (.lst acc) ∧ acc.length < sizeLine ∧ Nx (upd H4 D (.lst (acc ++ [y]))) else Nx H3) := by
  refine ⟨fun i m H => m = x.cps.size - i ∧ i ≤ x.cps.size ∧ Pv i H, ⟨x.cps.size, by simp, Nat.zero_le _, h0⟩, ?_⟩
  rintro i m H ⟨rfl, hi, p⟩
  by_cases hlt : i < x.cps.size
  · refine .inr ⟨hlt, Pv (i + 1), fun H' p' => ⟨x.cps.size - (i + 1), by omega, rfl, hlt, p'⟩, fun v H' y => ?_⟩
    obtain ⟨e, c, hc, y⟩ := y
    subst e y
    exact hs i c _ hc p
  · have e : i = x.cps.size := by omega
    subst e
    exact .inl ⟨Nat.le_refl _, hd H p⟩
/-! ### write_interval -/
def wfs (x : Lute.Iv) (i : Nat) : List Lute.Bytes := (([(2, x.a), (3, x.b), (5, x.c), (7, x.e)] : List (Nat × Int)).take i).flatMap fun p => Lute.factorText (UInt8.ofNat (48 + p.1)) p.2 x.d
theorem wfs_four (x : Lute.Iv) : wfs x 4 = Lute.factorText 50 x.a x.d ++ (Lute.factorText 51 x.b x.d ++ (Lute.factorText 53 x.c x.d ++ Lute.factorText 55 x.e x.d)) := by
  show Lute.factorText 50 x.a x.d ++ (Lute.factorText 51 x.b x.d ++ (Lute.factorText 53 x.c x.d ++ (Lute.factorText 55 x.e x.d ++ []))) = _
  rw [List.append_nil]
theorem wfs_step {x : Lute.Iv} {i pr : Nat} {z : Int} (h : ([(2, x.a), (3, x.b), (5, x.c), (7, x.e)] : List (Nat × Int))[i]? = some (pr, z)) : wfs x (i + 1) = wfs x i ++ Lute.factorText (UInt8.ofNat (48 + pr)) z x.d := by
  unfold wfs
  rw [List.take_add_one, h, List.flatMap_append]
  simp
theorem fac_at {x : Lute.Iv} {i : Nat} (h : i < 4) : ∃ (pr : Nat) (z : Int), ([(2, x.a), (3, x.b), (5, x.c), (7, x.e)] : List (Nat × Int))[i]? = some (pr, z) ∧ ([2, 3, 5, 7] : List Int)[i]? = some (pr : Int) ∧ (LuteB.rowOf x)[i]? = some z ∧ pr < 10 := by
  match i, h with
  | 0, _ => exact ⟨2, x.a, rfl, rfl, rfl, by decide⟩
  | 1, _ => exact ⟨3, x.b, rfl, rfl, rfl, by decide⟩
  | 2, _ => exact ⟨5, x.c, rfl, rfl, rfl, by decide⟩
  | 3, _ => exact ⟨7, x.e, rfl, rfl, rfl, by decide⟩
theorem power_len (n : Int) (d : Nat) : (Lute.powerText n d).length ≤ 27 := by
  unfold Lute.powerText
  have h1 := whole_len (n / ((Nat.gcd n.natAbs d : Nat) : Int))
  have h2 : (Lute.decimal (d / Nat.gcd n.natAbs d)).length ≤ 12 := digits_len 12 _
  dsimp only
  split
  · split
    · simp
    · simp; omega
  · simp; omega
theorem fac_len {p : UInt8} {n : Int} {d : Nat} : (Lute.factorText p n d).length ≤ 1 ∧ ∀ b ∈ Lute.factorText p n d, b.length ≤ 28 := by
  unfold Lute.factorText
  split
  · exact ⟨by simp, fun b hb => by cases hb⟩
  · refine ⟨by simp, fun b hb => ?_⟩
    rw [List.mem_singleton.mp hb, List.length_cons]
    have := power_len n d
    omega
theorem wfs_len (x : Lute.Iv) : ∀ i, i ≤ 4 → (wfs x i).length ≤ i ∧ ∀ b ∈ wfs x i, b.length ≤ 28
  | 0, _ => ⟨Nat.le_refl _, fun b hb => by cases hb⟩
  | i + 1, h => by
    obtain ⟨pr, z, h1, _⟩ := fac_at (x := x) (show i < 4 by omega)
    obtain ⟨a1, a2⟩ := wfs_len x i (by omega)
    obtain ⟨b1, b2⟩ := fac_len (p := UInt8.ofNat (48 + pr)) (n := z) (d := x.d)
    rw [wfs_step h1]
    refine ⟨by rw [List.length_append]; omega, fun b hb => ?_⟩
    rcases List.mem_append.mp hb with hb | hb
    · exact a2 b hb
    · exact b2 b hb
theorem join_txt : ∀ l : List Lute.Bytes, Txt.join (Str.ofString " ") (l.map GF.txt) = GF.txt (Lute.joined l) := by
  intro l
  rw [TL.join_eq]
  have sp : Str.ofString " " = GF.txt [32] := by decide +kernel
  rw [sp]
  induction l with
  | nil => rfl
  | cons t r ih =>
    cases r with
    | nil => rfl
    | cons u r =>
      show GF.txt t ++ GF.txt [32] ++ Str.join (GF.txt [32]) ((u :: r).map GF.txt) = GF.txt (t ++ 32 :: Lute.joined (u :: r))
      rw [ih, cat_txt, cat_txt]
      congr 1
      simp
theorem joined_len : ∀ l : List Lute.Bytes, (∀ b ∈ l, b.length ≤ 28) → (Lute.joined l).length ≤ 29 * l.length
  | [], _ => Nat.le_refl _
  | [t], h => by
    have := h t (by simp)
    show t.length ≤ 29
    omega
  | t :: u :: r, h => by
    have h1 := h t (by simp)
    have h2 := joined_len (u :: r) fun b hb => h b (List.mem_cons_of_mem _ hb)
    show (t ++ 32 :: Lute.joined (u :: r)).length ≤ 29 * (r.length + 1 + 1)
    rw [List.length_append, List.length_cons]
    rw [List.length_cons] at h2
    omega
theorem text_len (x : Lute.Iv) : x.text.length ≤ 116 := by
  unfold Lute.Iv.text
  rw [← wfs_four]
  obtain ⟨a1, a2⟩ := wfs_len x 4 (Nat.le_refl _)
  have := joined_len _ a2
  dsimp only
  split
  · simp
  · omega
theorem sum_le : ∀ (l : List Lute.Bytes), (∀ b ∈ l, b.length ≤ 28) → ((l.map GF.txt).map (·.length)).sum ≤ 28 * l.length
  | [], _ => Nat.le_refl _
  | t :: r, h => by
    have h1 := h t (by simp)
    have h2 := sum_le r fun b hb => h b (List.mem_cons_of_mem _ hb)
    rw [List.map_cons, List.map_cons, List.sum_cons, GF.txt_len, List.length_cons]
    omega
def sp_write_interval (K : PySem.W.Frag) : Sp := fun vs H Q _ => ∃ p x, vs = [.ref p] ∧ SqL K H p (rowV x) ∧ x.ok = true ∧ ∀ H', Same H H' → Q (.str (GF.txt x.text)) H'
abbrev N_wi : List Str := ["x", "factors", "k"]
theorem sc_write_interval : FnScope N_wi ["x"] (defScope s_write_interval) := ⟨rfl, rfl, rfl, by decide +kernel, rfl, by decide +kernel, by decide +kernel⟩
theorem ok_write_interval (T : Txt K mg a) : Prm P w K mg base CX0 3 a.write_interval ["x"] (sp_write_interval K) := by
  refine prm T.d_write_interval sc_write_interval (fun vs H Q E h => by obtain ⟨p, x, rfl, _⟩ := h; rfl) (fun cdv A outer s H vs Q E hr h => ?_)
  obtain ⟨p, x, rfl, hp, hx, k⟩ := h
  obtain ⟨⟨x1, x2, x3, x4⟩, x5, x6, _⟩ := ok_parts hx
  have nd := sc_write_interval.nd
  refine ⟨_, pss_cons (ps_setLc (i := 1) (own := [("k", 2)]) rfl nd rfl rfl rfl (pi_range1 rfl T.b_range (pa_cons pe_int pa_nil)) (blkOk_by (N := N_wi) (sc := defScope s_write_interval) (by decide +kernel)) (fun _ _ _ _ _ => pg_name (i := 2) nd rfl (Or.inl rfl))
      (fun _ _ _ _ _ => pts_one (pt_cmpR op_ne (pe_ix (ixL (K := K)) (pv 0) (pv 2) (fun _ _ => rfl)) pe_int (nomark _)))
      (fun _ _ _ _ _ => pcall (ok_write_factor T) hr T.g_write_factor pass0 (pa_cons (pe_ix (ixT (K := K)) (pgr T.g_PRIMES) (pv 2) (fun _ _ => rfl)) (pa_cons (pe_ix (ixL (K := K)) (pv 0) (pv 2) (fun _ _ => rfl)) (pa_cons (pe_ix (ixL (K := K)) (pv 0) pe_int (fun _ _ => rfl)) pa_nil)))))
    (pss_one (ps_ret (pe_ifExp (pt_cmpR op_eq (pe_callB call_len_seq (by rfl) T.b_len PySem.boot_len (pa_cons (pv 1) pa_nil)) pe_int (nomark _)) pe_str (pe_join pe_str (pv 1))))), ?_⟩
  refine ⟨4, rfl, by decide, by decide, fun D hD => ?_⟩
  refine lc_range (n := 4) (fun j H' => Same H H' ∧ H' D = some (.lst (((wfs x j).map GF.txt).map V.str))) ⟨same_new hD, upd_same⟩ ?_ ?_
  · rintro j H1 hj ⟨S1, d1⟩
    obtain ⟨pr, z, f1, f2, f3, f4⟩ := fac_at (x := x) hj
    have hz99 : z.natAbs ≤ 99 := by
      have hm : (pr, z) ∈ ([(2, x.a), (3, x.b), (5, x.c), (7, x.e)] : List (Nat × Int)) := List.mem_of_getElem? f1
      simp only [List.mem_cons, Prod.mk.injEq, List.not_mem_nil, or_false] at hm
      rcases hm with ⟨_, rfl⟩ | ⟨_, rfl⟩ | ⟨_, rfl⟩ | ⟨_, rfl⟩ <;> assumption
    have atz : atI (rowV x) ((0 : Int) + (j : Int)) = some (V.int z) := at_of (j := j) (by omega) (map_get f3)
    have atp : atI (([2, 3, 5, 7] : List Int).map V.int) ((0 : Int) + (j : Int)) = some (V.int (pr : Int)) := at_of (j := j) (by omega) (map_get f2)
    refine ⟨rfl, _, rfl, _, rfl, p, _, _, _, rfl, rfl, S1.seq hp, atz, rfl, _, rfl, ifB (fun hc => ?_) (fun hc => ?_)⟩
    · have hz0 : ¬ z = 0 := by simpa using hc
      refine ⟨_, rfl, a.o_PRIMES, _, _, _, rfl, rfl, T.t_PRIMES _, atp, _, rfl, _, rfl, p, _, _, _, rfl, rfl, S1.seq hp, atz, _, rfl, p, _, 4, _, rfl, rfl, S1.seq hp, at_of (j := 4) rfl (map_get (row_d x)), pr, z, x.d, rfl, f4, hz99, x5, x6, fun H2 S2 => ?_⟩
      have d2 := S2 _ _ d1
      have fl := (wfs_len x j (by omega)).1
      refine ⟨_, d2, ?_, ?_, ?_⟩
      · rw [List.length_map, List.length_map]
        exact Nat.lt_of_le_of_lt (show (wfs x j).length ≤ 4 by omega) (by decide)
      · exact fun b o e => by rw [upd_ne (ne_of_none e hD)]; exact S2 _ _ (S1 b o e)
      · rw [upd_same, wfs_step f1, show Lute.factorText (UInt8.ofNat (48 + pr)) z x.d = [UInt8.ofNat (48 + pr) :: Lute.powerText z x.d] from if_neg hz0, List.map_append, List.map_append]
        rfl
    · have hz0 : z = 0 := by simpa using hc
      refine ⟨S1, ?_⟩
      rw [wfs_step f1, show Lute.factorText (UInt8.ofNat (48 + pr)) z x.d = [] from if_pos hz0, List.append_nil]
      exact d1
  · rintro H1 ⟨S1, d1⟩
    have kx := k H1 S1
    obtain ⟨fl1, fl2⟩ := wfs_len x 4 (Nat.le_refl _)
    have tx : x.text = if (wfs x 4).isEmpty = true then [49] else Lute.joined (wfs x 4) := by
      rw [wfs_four]
      rfl
    rw [tx] at kx
    generalize wfs x 4 = l at *
    refine ⟨_, rfl, D, _, rfl, .inl (SqL.of d1), rfl, _, rfl, ifB (fun hc => ?_) (fun hc => ?_)⟩
    · have hl : l = [] := by
        have : (((l.map GF.txt).map V.str).length : Int) = 0 := by simpa using hc
        rw [List.length_map, List.length_map] at this
        exact List.length_eq_zero_iff.mp (by omega)
      rw [hl] at kx
      show Q (.str (Str.ofString "1")) H1
      rw [show Str.ofString "1" = GF.txt [49] by decide +kernel]
      exact kx
    · have hl : l ≠ [] := fun z => by
        rw [z] at hc
        simp at hc
      rw [if_neg (by rw [List.isEmpty_iff]; exact hl), ← join_txt] at kx
      have s28 := sum_le l fl2
      refine ⟨⟨_, rfl⟩, _, rfl, Str.ofString " ", D, l.map GF.txt, rfl, rfl, .inl (SqL.of d1), ?_, kx⟩
      rw [List.length_map, show (Str.ofString " ").length = 1 by decide +kernel]
      omega
end
end GP
namespace GP
open PySem PySem.Spec PyProof.Rows L2 L3
section
variable {P : Program} {w : World} {K : PySem.W.Frag} {mg : Str → Option Value} {base : Heap} {a : Ad}
theorem none_back {H H' : Hp} {p : Addr} (S : Same H H') (h : H' p = none) : H p = none := by
  cases e : H p with
  | none => rfl
  | some o => rw [S p o e] at h; cases h
end
end GP
namespace GP
open PySem PySem.Spec PyProof.Rows L2 L3
section
variable {P : Program} {w : World} {K : PySem.W.Frag} {mg : Str → Option Value} {base : Heap} {a : Ad}
/-! ### lines -/
def lineB (wd b : Lute.Bytes) : Lute.Bytes := wd ++ (32 :: (b ++ [10]))
def linesB (wd : Lute.Bytes) (xs : List Lute.Iv) : Lute.Bytes := xs.flatMap fun x => lineB wd x.text
theorem lines_len {wd : Lute.Bytes} (h : wd.length ≤ 6) : ∀ xs : List Lute.Iv, (linesB wd xs).length ≤ 124 * xs.length
  | [] => Nat.le_refl _
  | x :: r => by
    have h1 := text_len x
    have h2 := lines_len h r
    show (lineB wd x.text ++ linesB wd r).length ≤ 124 * (r.length + 1)
    rw [List.length_append]
    unfold lineB
    rw [List.length_append, List.length_cons, List.length_append]
    simp only [List.length_singleton]
    omega
def sp_write_lines (K : PySem.W.Frag) : Sp := fun vs H Q _ => ∃ wd l xs, vs = [.str (GF.txt wd), .ref l] ∧ wd.length ≤ 6 ∧ LsAt K H l xs ∧ (∀ x ∈ xs, x.ok = true) ∧ xs.length ≤ 15 ∧ ∀ H', Same H H' → Q (.str (GF.txt (linesB wd xs))) H'
abbrev N_wl : List Str := ["word", "intervals", "text", "x", "told"]
theorem sc_write_lines : FnScope N_wl ["word", "intervals"] (defScope s_write_lines) := ⟨rfl, rfl, rfl, by decide +kernel, rfl, by decide +kernel, by decide +kernel⟩
theorem ok_write_lines (T : Txt K mg a) : Prm P w K mg base CX0 4 a.write_lines ["word", "intervals"] (sp_write_lines K) := by
  refine prm T.d_write_lines sc_write_lines (fun vs H Q E h => by obtain ⟨wd, l, xs, rfl, _⟩ := h; rfl) (fun cdv A outer s H vs Q E hr h => ?_)
  obtain ⟨wd, l, xs, rfl, hw, hl, ho, hn, k⟩ := h
  have nd := sc_write_lines.nd
  obtain ⟨as, l1, l2⟩ := id hl
  refine ⟨_, pss_cons (ps_set (i := 2) nd rfl (Or.inl rfl) pe_str)
    (pss_cons (ps_for PassesOwn.never rfl (pi_list (pv 1)) (pg_name (i := 3) nd rfl (Or.inl rfl))
      (pss_cons (ps_set (i := 4) nd rfl (Or.inl rfl) (pcall (ok_write_interval T) hr T.g_write_interval pass0 (pa_cons (pv 3) pa_nil)))
      (pss_one (ps_set (i := 2) nd rfl (Or.inl rfl) (pe_op op_add_str (pv 2) (pe_fstr (pj_cons (pe_fvS (pv 0)) (pj_cons pe_str (pj_cons (pe_fvS (pv 4)) (pj_cons pe_str pj_nil))))))))))
    (pss_one (ps_ret (pv 2)))), ?_⟩
  have e0 : Str.ofString "" = GF.txt [] := by decide +kernel
  have e1 : Str.ofString " " = GF.txt [32] := by decide +kernel
  have e2 : Str.ofString "\n" = GF.txt [10] := by decide +kernel
  have em : Str.empty = GF.txt [] := rfl
  refine ⟨_, rfl, l, rfl, ⟨_, SqL.of l1⟩, for_list (K := K) (a := l) (xs := as.map V.ref) (fun i σ H' => ∃ v3 v4, σ = [some (.str (GF.txt wd)), some (.ref l), some (.str (GF.txt (linesB wd (xs.take i)))), v3, v4] ∧ Same H H')
    ⟨none, none, by rw [e0]; rfl, Same.refl _⟩ (fun i σ H' _ ⟨_, _, _, S⟩ => SqL.of (S _ _ l1)) ?_ ?_⟩
  · rintro i y σ H1 hi ⟨v3, v4, rfl, S1⟩
    obtain ⟨p, hp, rfl⟩ : ∃ p, as[i]? = some p ∧ y = V.ref p := by
      rw [List.getElem?_map] at hi
      cases e : as[i]? with
      | none => rw [e] at hi; cases hi
      | some p => rw [e] at hi; exact ⟨p, rfl, (Option.some.inj hi).symm⟩
    obtain ⟨x, hx, hpx⟩ := l2.get hp
    have hox := ho x (List.mem_of_getElem? hx)
    obtain ⟨hil, _⟩ := List.getElem?_eq_some_iff.mp hx
    have tl := text_len x
    have ll := lines_len hw (xs.take i)
    have lt : (xs.take i).length ≤ 15 := by rw [List.length_take]; omega
    refine ⟨_, rfl, p, x, rfl, S1.seq hpx, hox, fun H2 S2 => ?_⟩
    refine ⟨_, rfl, _, rfl, _, rfl, fits (by omega), _, rfl, ?_⟩
    show (Str.empty ++ GF.txt wd).length ≤ sizeLine ∧ _
    rw [em, cat_txt]
    refine ⟨fits (by simp; omega), _, rfl, ?_⟩
    show (GF.txt ([] ++ wd) ++ Str.ofString " ").length ≤ sizeLine ∧ _
    rw [e1, cat_txt]
    refine ⟨fits (by simp; omega), _, rfl, _, rfl, fits (by omega), _, rfl, ?_⟩
    rw [cat_txt]
    refine ⟨fits (by simp; omega), _, rfl, ?_⟩
    show (GF.txt ([] ++ wd ++ [32] ++ x.text) ++ Str.ofString "\n").length ≤ sizeLine ∧ _
    rw [e2, cat_txt]
    refine ⟨fits (by simp; omega), fits (by simp; omega), _, _, rfl, rfl, ?_, some (.ref p), some (.str (GF.txt x.text)), ?_, S1.trans S2⟩
    · rw [GF.txt_len, GF.txt_len]
      exact Nat.le_trans (show (linesB wd (xs.take i)).length + ([] ++ wd ++ [32] ++ x.text ++ [10]).length ≤ 100000 by simp; omega) (by decide)
    · rw [List.take_add_one, hx]
      show [some (V.str (GF.txt wd)), some (.ref l), some (.str (GF.txt (linesB wd (xs.take i)) ++ GF.txt ([] ++ wd ++ [32] ++ x.text ++ [10]))), some (.ref p), some (.str (GF.txt x.text))] = [some (.str (GF.txt wd)), some (.ref l), some (.str (GF.txt (linesB wd (xs.take i ++ [x])))), some (.ref p), some (.str (GF.txt x.text))]
      rw [cat_txt]
      have e : linesB wd (xs.take i ++ [x]) = linesB wd (xs.take i) ++ ([] ++ wd ++ [32] ++ x.text ++ [10]) := by
        unfold linesB lineB
        rw [List.flatMap_append]
        simp
      rw [e]
  · rintro σ H1 ⟨v3, v4, rfl, S1⟩
    rw [List.length_map, l2.len, List.take_of_length_le (Nat.le_refl _)]
    exact ⟨_, rfl, k H1 S1⟩
/-! ### the instrument's text -/
theorem inst_text (I : Lute.Inst) : I.text = (Lute.ascii "length" ++ (32 :: (Lute.decimal I.length ++ [10]))) ++ (linesB (Lute.ascii "fret") I.frets ++ (linesB (Lute.ascii "course") I.courses ++ linesB (Lute.ascii "bass") I.basses)) := rfl
def sp_write_instrument (K : PySem.W.Frag) (a : Ad) : Sp := fun vs H Q _ => ∃ i I lf lc lb, vs = [.ref i] ∧ InAt K a.c_Instrument H i I lf lc lb ∧ Gd I ∧ I.length ≤ 200000 ∧ Gives H (I.text.map fun (c : UInt8) => (c.toNat : Int)) Q
abbrev N_win : List Str := ["instrument", "length", "text", "sign"]
theorem sc_write_instrument : FnScope N_win ["instrument"] (defScope s_write_instrument) := ⟨rfl, rfl, rfl, by decide +kernel, rfl, by decide +kernel, by decide +kernel⟩
theorem ok_write_instrument (T : Txt K mg a) : Prm P w K mg base CX0 5 a.write_instrument ["instrument"] (sp_write_instrument K a) := by
  refine prm T.d_write_instrument sc_write_instrument (fun vs H Q E h => by obtain ⟨i, I, lf, lc, lb, rfl, _⟩ := h; rfl) (fun cdv A outer s H vs Q E hr h => ?_)
  obtain ⟨i, I, lf, lc, lb, rfl, hI, g, hL, k⟩ := h
  have nd := sc_write_instrument.nd
  obtain ⟨dx, ho⟩ := hI.ob
  have hns := g.ns
  have hnf := g.nf
  have hopl : I.opens.length = I.courses.length + I.basses.length := by unfold Lute.Inst.opens; rw [List.length_append]
  refine ⟨_, pss_cons (ps_set (i := 1) nd rfl (Or.inl rfl) (pe_fld (pv 0) rfl))
    (pss_cons (ps_set (i := 2) nd rfl (Or.inl rfl) (pe_fstr (pj_cons pe_str (pj_cons (pe_fvI (pv 1)) (pj_cons pe_str pj_nil)))))
    (pss_cons (ps_set (i := 2) nd rfl (Or.inl rfl) (pe_op op_add_str (pv 2) (pcall (ok_write_lines T) hr T.g_write_lines pass0 (pa_cons pe_str (pa_cons (pe_fld (pv 0) rfl) pa_nil)))))
    (pss_cons (ps_set (i := 2) nd rfl (Or.inl rfl) (pe_op op_add_str (pv 2) (pcall (ok_write_lines T) hr T.g_write_lines pass0 (pa_cons pe_str (pa_cons (pe_fld (pv 0) rfl) pa_nil)))))
    (pss_cons (ps_set (i := 2) nd rfl (Or.inl rfl) (pe_op op_add_str (pv 2) (pcall (ok_write_lines T) hr T.g_write_lines pass0 (pa_cons pe_str (pa_cons (pe_fld (pv 0) rfl) pa_nil)))))
    (pss_one (ps_ret (pe_lc (own := [("sign", 3)]) rfl nd (pi_str (pv 2)) (blkOk_by (N := N_win) (sc := defScope s_write_instrument) (by decide +kernel)) (fun _ _ _ _ _ => pg_name (i := 3) nd rfl (Or.inl rfl)) (fun _ _ _ _ _ => pts_nil)
      (fun _ _ _ _ _ => pe_callB call_ord (by rfl) T.b_ord PyProof.Rows.boot_ord (pa_cons (pv 3) pa_nil))))))))), ?_⟩
  have c1 : Str.ofString "length " = GF.txt (Lute.ascii "length" ++ [32]) := by decide +kernel
  have c2 : Str.ofString "\n" = GF.txt [10] := by decide +kernel
  have c3 : Str.ofString "fret" = GF.txt (Lute.ascii "fret") := by decide +kernel
  have c4 : Str.ofString "course" = GF.txt (Lute.ascii "course") := by decide +kernel
  have c5 : Str.ofString "bass" = GF.txt (Lute.ascii "bass") := by decide +kernel
  have em : Str.empty = GF.txt [] := rfl
  have w1 : (Lute.ascii "length" ++ [32]).length = 7 := by decide +kernel
  have w3 : (Lute.ascii "fret").length ≤ 6 := by decide +kernel
  have w4 : (Lute.ascii "course").length ≤ 6 := by decide +kernel
  have w5 : (Lute.ascii "bass").length ≤ 6 := by decide +kernel
  have sl : Str.ofString (toString ((I.length : Nat) : Int)) = GF.txt (Lute.decimal I.length) := GF.str_nat (Nat.lt_of_le_of_lt hL (by decide))
  have dl : (Lute.decimal I.length).length ≤ 12 := digits_len 12 _
  have lgl : ((I.length : Nat) : Int).natAbs.log2 < 1920 := (ofStr1 (z := ((I.length : Nat) : Int)) (by omega)).2
  have l1 := lines_len w3 I.frets
  have l2 := lines_len w4 I.courses
  have l3 := lines_len w5 I.basses
  refine ⟨_, rfl, i, a.c_Instrument, dx, _, _, rfl, ho, T.cl_Instrument, T.n_Instrument_length, ifs_length _ _ _ _, _, rfl, ?_⟩
  show (Str.empty ++ Str.ofString "length ").length ≤ sizeLine ∧ _
  rw [c1, em, cat_txt]
  refine ⟨fits (by rw [List.nil_append, w1]; decide), _, rfl, _, rfl, lgl, _, rfl, ?_⟩
  show (GF.txt ([] ++ (Lute.ascii "length" ++ [32])) ++ Str.ofString (toString ((I.length : Nat) : Int))).length ≤ sizeLine ∧ _
  rw [sl, cat_txt]
  refine ⟨fits (by rw [List.length_append, List.nil_append, w1]; omega), _, rfl, ?_⟩
  show (GF.txt ([] ++ (Lute.ascii "length" ++ [32]) ++ Lute.decimal I.length) ++ Str.ofString "\n").length ≤ sizeLine ∧ _
  rw [c2, cat_txt]
  generalize hA : ([] ++ (Lute.ascii "length" ++ [32]) ++ Lute.decimal I.length ++ [10] : Lute.Bytes) = A0
  have lA : A0.length ≤ 20 := by
    rw [← hA, List.length_append, List.length_append, List.nil_append, w1]
    simp only [List.length_singleton]
    omega
  refine ⟨fits (by omega), fits (by omega), _, rfl, _, rfl, i, a.c_Instrument, dx, _, _, rfl, ho, T.cl_Instrument, T.n_Instrument_frets, ifs_frets _ _ _ _, Lute.ascii "fret", lf, I.frets, by rw [← c3]; rfl, w3, hI.fr, g.okf, hnf, fun H1 S1 => ?_⟩
  refine ⟨_, _, rfl, rfl, by rw [GF.txt_len, GF.txt_len]; exact Nat.le_trans (show A0.length + (linesB (Lute.ascii "fret") I.frets).length ≤ 100000 by omega) (by decide), ?_⟩
  rw [cat_txt]
  obtain ⟨dx1, ho1⟩ := (hI.same S1).ob
  refine ⟨_, rfl, _, rfl, i, a.c_Instrument, dx1, _, _, rfl, ho1, T.cl_Instrument, T.n_Instrument_courses, ifs_courses _ _ _ _, Lute.ascii "course", lc, I.courses, by rw [← c4]; rfl, w4, (hI.same S1).co, g.okc, by omega, fun H2 S2 => ?_⟩
  refine ⟨_, _, rfl, rfl, by rw [GF.txt_len, GF.txt_len, List.length_append]; exact Nat.le_trans (show A0.length + (linesB (Lute.ascii "fret") I.frets).length + (linesB (Lute.ascii "course") I.courses).length ≤ 100000 by omega) (by decide), ?_⟩
  rw [cat_txt]
  have S12 := S1.trans S2
  obtain ⟨dx2, ho2⟩ := (hI.same S12).ob
  refine ⟨_, rfl, _, rfl, i, a.c_Instrument, dx2, _, _, rfl, ho2, T.cl_Instrument, T.n_Instrument_basses, ifs_basses _ _ _ _, Lute.ascii "bass", lb, I.basses, by rw [← c5]; rfl, w5, (hI.same S12).ba, g.okb, by omega, fun H3 S3 => ?_⟩
  refine ⟨_, _, rfl, rfl, by rw [GF.txt_len, GF.txt_len, List.length_append, List.length_append]; exact Nat.le_trans (show A0.length + (linesB (Lute.ascii "fret") I.frets).length + (linesB (Lute.ascii "course") I.courses).length + (linesB (Lute.ascii "bass") I.basses).length ≤ 100000 by omega) (by decide), ?_⟩
  rw [cat_txt]
  have et : A0 ++ linesB (Lute.ascii "fret") I.frets ++ linesB (Lute.ascii "course") I.courses ++ linesB (Lute.ascii "bass") I.basses = I.text := by
    rw [inst_text, ← hA]
    simp only [List.nil_append, List.append_assoc, List.cons_append]
  rw [et]
  have lT : I.text.length ≤ 100000 := by
    rw [← et, List.length_append, List.length_append, List.length_append]
    omega
  have S := S12.trans S3
  generalize I.text = tx at *
  refine ⟨_, rfl, GF.txt tx, rfl, fun D hD => ?_⟩
  have hsz : (GF.txt tx).cps.size = tx.length := GF.txt_len tx
  refine lc_str (x := GF.txt tx) (fun j H' => Same H3 H' ∧ H' D = some (.lst (((tx.take j).map fun (c : UInt8) => (c.toNat : Int)).map V.int))) ⟨same_new hD, upd_same⟩ ?_ ?_
  · rintro j c H4 hj ⟨S4, d4⟩
    have hc : (tx.map UInt8.toNat)[j]? = some c := by
      have hj : ((tx.map UInt8.toNat).toArray)[j]? = some c := hj
      rw [List.getElem?_toArray] at hj
      exact hj
    rw [List.getElem?_map] at hc
    cases e : tx[j]? with
    | none => rw [e] at hc; cases hc
    | some b =>
      rw [e] at hc
      have hc : b.toNat = c := Option.some.inj hc
      subst hc
      obtain ⟨hjl, _⟩ := List.getElem?_eq_some_iff.mp e
      refine ⟨rfl, _, rfl, _, rfl, rfl, _, d4, ?_, fun b' o e' => ?_, ?_⟩
      · rw [List.length_map, List.length_map, List.length_take]
        exact Nat.lt_of_le_of_lt (show min j tx.length ≤ 100000 by omega) (by decide)
      · rw [upd_ne (ne_of_none e' hD)]; exact S4 b' o e'
      · rw [upd_same, List.take_add_one, e, List.map_append, List.map_append]
        rfl
  · rintro H4 ⟨S4, d4⟩
    rw [hsz, List.take_of_length_le (Nat.le_refl _)] at d4
    exact k H4 D (S.trans S4) (none_back S hD) d4
end
end GP
namespace GP
open PySem PySem.Spec PyProof.Rows L2 L3
section
variable {P : Program} {w : World} {K : PySem.W.Frag} {mg : Str → Option Value} {base : Heap} {a : Ad}
/-! ### is_instrument -/
theorem sc_NoneComes_init : FnScope ["self"] ["self"] (defScope s_NoneComes_init) := ⟨rfl, rfl, rfl, by decide +kernel, rfl, by decide +kernel, by decide +kernel⟩
theorem ok_NoneComes_init (T : Txt K mg a) : PrmH P w K mg base 2 a.NoneComes_init ["self"] (sp_ref K (-3)) := by
  refine prmH T.d_NoneComes_init sc_NoneComes_init (fun vs H Q E h => by obtain ⟨C, ms, fI, e, t0, rfl, _⟩ := h; rfl) (fun cdv A outer s H vs Q E hr h => ?_)
  obtain ⟨C, ms, fI, e, t0, rfl, xc, na, he, k⟩ := h
  obtain ⟨⟨fd, G, b⟩, _⟩ := ok_Refusal_init (P := P) (w := w) (base := base) T
  refine ⟨_, pss_one (ps_expr (pe_cm T.cm_Refusal G hr b rfl T.g_Refusal (pa_cons (pv 0) (pa_cons (pe_un un_neg pe_int) pa_nil)))), ?_⟩
  exact ⟨_, rfl, _, rfl, C, ms, fI, e, t0, _, rfl, xc, na, he, k⟩
theorem widening_of : ∀ (l : List Lute.Iv) (u : Lute.Iv), Lute.widening u l = true ↔ ∀ (i : Nat) (x : Lute.Iv), l[i]? = some x → ((l.take i).getLastD u).lt x = true
  | [], u => ⟨fun _ i x h => by simp at h, fun _ => rfl⟩
  | y :: r, u => by
    show (u.lt y && Lute.widening y r) = true ↔ _
    rw [Bool.and_eq_true, widening_of r y]
    constructor
    · rintro ⟨h1, h2⟩ i x hx
      cases i with
      | zero => cases hx; exact h1
      | succ i =>
        have := h2 i x hx
        rw [List.take_succ_cons]
        cases hr : r.take i with
        | nil => rw [hr] at this; exact this
        | cons z q => rw [hr] at this; exact this
    · intro h
      refine ⟨h 0 y rfl, fun i x hx => ?_⟩
      have := h (i + 1) x hx
      rw [List.take_succ_cons] at this
      cases hr : r.take i with
      | nil => rw [hr] at this; exact this
      | cons z q => rw [hr] at this; exact this
theorem last_snoc (l : List Lute.Iv) (u x : Lute.Iv) : (l ++ [x]).getLastD u = x := by
  induction l generalizing u with
  | nil => rfl
  | cons y r ih =>
    cases r with
    | nil => rfl
    | cons z q => exact ih y
structure FrOk (xs : List Lute.Iv) (i : Nat) : Prop where
  at_ : ∀ (j : Nat) (x : Lute.Iv), j < i → xs[j]? = some x → x.ok = true ∧ ((xs.take j).getLastD Lute.unison).lt x = true
def okI (I : Lute.Inst) : Bool := (I.frets.all Lute.Iv.ok && Lute.widening Lute.unison I.frets) && (I.courses.all (fun x => x.ok && Lute.soundsAll I.frets x) && I.basses.all Lute.Iv.ok)
theorem okI_fret {I : Lute.Inst} {i : Nat} {x : Lute.Iv} (h : I.frets[i]? = some x) (hn : ¬ (x.ok = true ∧ ((I.frets.take i).getLastD Lute.unison).lt x = true)) : okI I = false := by
  rw [Bool.eq_false_iff]
  intro z
  unfold okI at z
  simp only [Bool.and_eq_true, List.all_eq_true] at z
  exact hn ⟨z.1.1 x (List.mem_of_getElem? h), (widening_of _ _).mp z.1.2 i x h⟩
theorem okI_course {I : Lute.Inst} {x : Lute.Iv} (h : x ∈ I.courses) (hn : ¬ (x.ok = true ∧ Lute.soundsAll I.frets x = true)) : okI I = false := by
  rw [Bool.eq_false_iff]
  intro z
  unfold okI at z
  simp only [Bool.and_eq_true, List.all_eq_true] at z
  exact hn (z.2.1 x h)
theorem okI_bass {I : Lute.Inst} {x : Lute.Iv} (h : x ∈ I.basses) (hn : ¬ x.ok = true) : okI I = false := by
  rw [Bool.eq_false_iff]
  intro z
  unfold okI at z
  simp only [Bool.and_eq_true, List.all_eq_true] at z
  exact hn (z.2.2 x h)
structure Dp1 (I : Lute.Inst) : Prop where
  f : ∀ x ∈ I.frets, 1 ≤ x.d
  c : ∀ x ∈ I.courses, 1 ≤ x.d
  b : ∀ x ∈ I.basses, 1 ≤ x.d
theorem ref_get {as : List Addr} {i : Nat} {y : V} (hi : (as.map V.ref)[i]? = some y) : ∃ p, as[i]? = some p ∧ y = V.ref p := by
  rw [List.getElem?_map] at hi
  cases e : as[i]? with
  | none => rw [e] at hi; cases hi
  | some p => rw [e] at hi; exact ⟨p, rfl, (Option.some.inj hi).symm⟩
def sp_is_instrument (K : PySem.W.Frag) (a : Ad) : Sp := fun vs H Q _ => ∃ i I lf lc lb, vs = [.ref i] ∧ InAt K a.c_Instrument H i I lf lc lb ∧ Dp1 I ∧ ∀ H', Same H H' → Q (.bl (okI I)) H'
abbrev N_ii : List Str := ["instrument", "before", "fret", "course", "bass"]
theorem sc_is_instrument : FnScope N_ii ["instrument"] (defScope s_is_instrument) := ⟨rfl, rfl, rfl, by decide +kernel, rfl, by decide +kernel, by decide +kernel⟩
theorem ok_is_instrument (T : Txt K mg a) : Prm P w K mg base CX0 4 a.is_instrument ["instrument"] (sp_is_instrument K a) := by
  refine prm T.d_is_instrument sc_is_instrument (fun vs H Q E h => by obtain ⟨i, I, lf, lc, lb, rfl, _⟩ := h; rfl) (fun cdv A outer s H vs Q E hr h => ?_)
  obtain ⟨i, I, lf, lc, lb, rfl, hI, dd, k⟩ := h
  have nd := sc_is_instrument.nd
  refine ⟨_, pss_cons (ps_set (i := 1) nd rfl (Or.inl rfl) (pcall0 (ok_unison T) (hr.mono (by decide)) T.g_unison pass0))
    (pss_cons (ps_for PassesOwn.never rfl (pi_list (pe_fld (pv 0) rfl)) (pg_name (i := 2) nd rfl (Or.inl rfl))
      (pss_cons (ps_if (pw_or (pt_not (pt_val (pcall (ok_is_interval T) (hr.mono (by decide)) T.g_is_interval pass0 (pa_cons (pv 2) pa_nil)))) (pw_or1 (pt_not (pt_val (pcall (ok_is_wider T) hr T.g_is_wider pass0 (pa_cons (pv 2) (pa_cons (pv 1) pa_nil))))))).pt (pss_one (ps_ret pe_bl)) pss_nil)
      (pss_one (ps_set (i := 1) nd rfl (Or.inl rfl) (pv 2)))))
    (pss_cons (ps_for PassesOwn.never rfl (pi_list (pe_fld (pv 0) rfl)) (pg_name (i := 3) nd rfl (Or.inl rfl))
      (pss_one (ps_if (pw_or (pt_not (pt_val (pcall (ok_is_interval T) (hr.mono (by decide)) T.g_is_interval pass0 (pa_cons (pv 3) pa_nil)))) (pw_or1 (pt_not (pt_val (pcall (ok_sounds_with_each T) hr T.g_sounds_with_each pass0 (pa_cons (pv 3) (pa_cons (pe_fld (pv 0) rfl) pa_nil))))))).pt (pss_one (ps_ret pe_bl)) pss_nil)))
    (pss_cons (ps_for PassesOwn.never rfl (pi_list (pe_fld (pv 0) rfl)) (pg_name (i := 4) nd rfl (Or.inl rfl))
      (pss_one (ps_if (pt_not (pt_val (pcall (ok_is_interval T) (hr.mono (by decide)) T.g_is_interval pass0 (pa_cons (pv 4) pa_nil)))) (pss_one (ps_ret pe_bl)) pss_nil)))
    (pss_one (ps_ret pe_bl))))), ?_⟩
  refine ⟨rfl, fun H1 u S1 n1 h1 => ?_⟩
  obtain ⟨dx1, ho1⟩ := (hI.same S1).ob
  obtain ⟨fs, f1, f2⟩ := id (hI.same S1).fr
  refine ⟨_, rfl, i, a.c_Instrument, dx1, _, _, rfl, ho1, T.cl_Instrument, T.n_Instrument_frets, ifs_frets _ _ _ _, lf, rfl, ⟨_, SqL.of f1⟩, for_list (K := K) (a := lf) (xs := fs.map V.ref) (fun j σ H' => ∃ pb v2, σ = [some (.ref i), some (.ref pb), v2, none, none] ∧ Same H1 H' ∧ SqL K H' pb (rowV ((I.frets.take j).getLastD Lute.unison)) ∧ ((I.frets.take j).getLastD Lute.unison).ok = true ∧ FrOk I.frets j)
    ⟨u, none, rfl, Same.refl _, SqL.of h1, ok_unison_iv, ⟨fun j x h => absurd h (Nat.not_lt_zero _)⟩⟩ (fun j σ H' _ ⟨_, _, _, S, _⟩ => SqL.of (S _ _ f1)) ?_ ?_⟩
  · rintro j y σ H2 hj ⟨pb, v2, rfl, S2, hb, ob, fo⟩
    obtain ⟨p, hp, rfl⟩ := ref_get hj
    obtain ⟨x, hx, hpx⟩ := f2.get hp
    have xd := dd.f x (List.mem_of_getElem? hx)
    have bad : ¬ (x.ok = true ∧ ((I.frets.take j).getLastD Lute.unison).lt x = true) → ∀ H', Same H2 H' → Q (.bl false) H' := fun hn H' S' => by
      have := k H' (S1.trans (S2.trans S'))
      rw [okI_fret hx hn] at this
      exact this
    refine ⟨_, rfl, p, _, rfl, S2.seq hpx, fun H3 S3 => ⟨_, rfl, ?_⟩⟩
    rw [isIv_row xd]
    cases hxo : x.ok with
    | false => exact iteT (iteT (bad (fun z => by rw [hxo] at z; cases z.1) H3 S3))
    | true =>
      refine iteF ⟨_, rfl, _, rfl, p, pb, x, _, rfl, (S2.trans S3).seq hpx, S3.seq hb, wd_ok hxo ob, fun H4 S4 => ⟨_, rfl, ?_⟩⟩
      have S34 := S3.trans S4
      cases hw : ((I.frets.take j).getLastD Lute.unison).lt x with
      | false => exact iteT (bad (fun z => by rw [hw] at z; cases z.2) H4 S34)
      | true =>
        refine iteF ⟨_, rfl, p, _, rfl, S2.trans S34, ?_, ?_, ⟨fun j' x' hj' hx' => ?_⟩⟩
        · rw [List.take_add_one, hx]
          show SqL K H4 p (rowV ((I.frets.take j ++ [x]).getLastD Lute.unison))
          rw [last_snoc]
          exact (S2.trans S34).seq hpx
        · rw [List.take_add_one, hx]
          show ((I.frets.take j ++ [x]).getLastD Lute.unison).ok = true
          rw [last_snoc]
          exact hxo
        · by_cases e : j' = j
          · subst e
            rw [hx] at hx'
            cases hx'
            exact ⟨hxo, hw⟩
          · exact fo.at_ j' x' (by omega) hx'
  · rintro σ H2 ⟨pb, v2, rfl, S2, hb, ob, fo⟩
    rw [List.length_map, f2.len] at fo
    have fok : ∀ x ∈ I.frets, x.ok = true := fun x hx => by
      obtain ⟨j, hj⟩ := List.getElem?_of_mem hx
      obtain ⟨hl, _⟩ := List.getElem?_eq_some_iff.mp hj
      exact (fo.at_ j x hl hj).1
    have fwi : Lute.widening Lute.unison I.frets = true := (widening_of _ _).mpr fun j x hj => by
      obtain ⟨hl, _⟩ := List.getElem?_eq_some_iff.mp hj
      exact (fo.at_ j x hl hj).2
    have S12 := S1.trans S2
    obtain ⟨dx2, ho2⟩ := (hI.same S12).ob
    obtain ⟨cs, c1, c2⟩ := id (hI.same S12).co
    refine ⟨_, rfl, i, a.c_Instrument, dx2, _, _, rfl, ho2, T.cl_Instrument, T.n_Instrument_courses, ifs_courses _ _ _ _, lc, rfl, ⟨_, SqL.of c1⟩, for_list (K := K) (a := lc) (xs := cs.map V.ref) (fun j σ H' => ∃ v1 v2 v3, σ = [some (.ref i), v1, v2, v3, none] ∧ Same H2 H' ∧ ∀ x ∈ I.courses.take j, x.ok = true ∧ Lute.soundsAll I.frets x = true)
      ⟨_, _, none, rfl, Same.refl _, fun x hx => by cases hx⟩ (fun j σ H' _ ⟨_, _, _, _, S, _⟩ => SqL.of (S _ _ c1)) ?_ ?_⟩
    · rintro j y σ H3 hj ⟨v1, v2, v3, rfl, S3, co⟩
      obtain ⟨p, hp, rfl⟩ := ref_get hj
      obtain ⟨x, hx, hpx⟩ := c2.get hp
      have mx := List.mem_of_getElem? hx
      have xd := dd.c x mx
      have bad : ¬ (x.ok = true ∧ Lute.soundsAll I.frets x = true) → ∀ H', Same H3 H' → Q (.bl false) H' := fun hn H' S' => by
        have := k H' (S12.trans (S3.trans S'))
        rw [okI_course mx hn] at this
        exact this
      refine ⟨_, rfl, p, _, rfl, S3.seq hpx, fun H4 S4 => ⟨_, rfl, ?_⟩⟩
      rw [isIv_row xd]
      cases hxo : x.ok with
      | false => exact iteT (iteT (bad (fun z => by rw [hxo] at z; cases z.1) H4 S4))
      | true =>
        have S34 := S3.trans S4
        obtain ⟨dx4, ho4⟩ := (hI.same (S12.trans S34)).ob
        refine iteF ⟨_, rfl, _, rfl, i, a.c_Instrument, dx4, _, _, rfl, ho4, T.cl_Instrument, T.n_Instrument_frets, ifs_frets _ _ _ _, p, lf, x, I.frets, rfl, S34.seq hpx, (hI.same (S12.trans S34)).fr, ok_bd hxo, fun f hf => ok_bd (fok f hf), fun H5 S5 => ⟨_, rfl, ?_⟩⟩
        have S45 := S4.trans S5
        cases hw : Lute.soundsAll I.frets x with
        | false => exact iteT (bad (fun z => by rw [hw] at z; cases z.2) H5 S45)
        | true =>
          refine iteF ⟨_, _, _, rfl, S3.trans S45, fun x' hx' => ?_⟩
          rw [List.take_add_one, hx] at hx'
          rcases List.mem_append.mp hx' with hx' | hx'
          · exact co x' hx'
          · have : x' = x := by simpa using hx'
            rw [this]
            exact ⟨hxo, hw⟩
    · rintro σ H3 ⟨v1, v2, v3, rfl, S3, co⟩
      rw [List.length_map, c2.len, List.take_of_length_le (Nat.le_refl _)] at co
      have S123 := S12.trans S3
      obtain ⟨dx3, ho3⟩ := (hI.same S123).ob
      obtain ⟨bs, b1, b2⟩ := id (hI.same S123).ba
      refine ⟨_, rfl, i, a.c_Instrument, dx3, _, _, rfl, ho3, T.cl_Instrument, T.n_Instrument_basses, ifs_basses _ _ _ _, lb, rfl, ⟨_, SqL.of b1⟩, for_list (K := K) (a := lb) (xs := bs.map V.ref) (fun j σ H' => ∃ v1 v2 v3 v4, σ = [some (.ref i), v1, v2, v3, v4] ∧ Same H3 H' ∧ ∀ x ∈ I.basses.take j, x.ok = true)
        ⟨_, _, _, none, rfl, Same.refl _, fun x hx => by cases hx⟩ (fun j σ H' _ ⟨_, _, _, _, _, S, _⟩ => SqL.of (S _ _ b1)) ?_ ?_⟩
      · rintro j y σ H4 hj ⟨v1, v2, v3, v4, rfl, S4, bo⟩
        obtain ⟨p, hp, rfl⟩ := ref_get hj
        obtain ⟨x, hx, hpx⟩ := b2.get hp
        have mx := List.mem_of_getElem? hx
        have xd := dd.b x mx
        refine ⟨_, rfl, p, _, rfl, S4.seq hpx, fun H5 S5 => ⟨_, rfl, ?_⟩⟩
        rw [isIv_row xd]
        cases hxo : x.ok with
        | false =>
          have := k H5 (S123.trans (S4.trans S5))
          rw [okI_bass mx (by rw [hxo]; decide)] at this
          exact iteT this
        | true =>
          refine iteF ⟨_, _, _, _, rfl, S4.trans S5, fun x' hx' => ?_⟩
          rw [List.take_add_one, hx] at hx'
          rcases List.mem_append.mp hx' with hx' | hx'
          · exact bo x' hx'
          · have : x' = x := by simpa using hx'
            rw [this]
            exact hxo
      · rintro σ H4 ⟨v1, v2, v3, v4, rfl, S4, bo⟩
        rw [List.length_map, b2.len, List.take_of_length_le (Nat.le_refl _)] at bo
        have := k H4 (S123.trans S4)
        have e : okI I = true := by
          unfold okI
          simp only [Bool.and_eq_true, List.all_eq_true]
          exact ⟨⟨fok, fwi⟩, fun x hx => co x hx, bo⟩
        rw [e] at this
        exact this
end
end GP
namespace GP
open PySem PySem.Spec PyProof.Rows L2 L3
section
variable {P : Program} {w : World} {K : PySem.W.Frag} {mg : Str → Option Value} {base : Heap} {a : Ad}
/-! ### text_of -/
structure Cand (I : Lute.Inst) : Prop where
  dd : Dp1 I
  lo : 10000 ≤ I.length
  hi : I.length ≤ 200000
  nf : I.frets.length ≤ 15
  nc : 1 ≤ I.courses.length
  ns : I.courses.length + I.basses.length ≤ 14
theorem cand_ok {I : Lute.Inst} (c : Cand I) : I.ok = okI I := by
  unfold Lute.Inst.ok okI Lute.SHORT Lute.LONG Lute.FRETS Lute.COURSES
  rw [Bool.eq_iff_iff]
  simp only [Bool.and_eq_true, decide_eq_true_eq, List.all_eq_true]
  constructor
  · rintro ⟨_, _, _, h1, h2, _, _, h3, h4, h5⟩
    exact ⟨⟨h1, h2⟩, fun x hx => ⟨h3 x hx, h5 x hx⟩, h4⟩
  · rintro ⟨⟨h1, h2⟩, h3, h4⟩
    exact ⟨c.lo, c.hi, c.nf, h1, h2, c.nc, c.ns, fun x hx => (h3 x hx).1, h4, fun x hx => (h3 x hx).2⟩
theorem okI_gd {I : Lute.Inst} (c : Cand I) (h : okI I = true) : Gd I := by
  unfold okI at h
  simp only [Bool.and_eq_true, List.all_eq_true] at h
  exact ⟨h.1.1, fun x hx => (h.2.1 x hx).1, h.2.2, c.nf, by unfold Lute.Inst.opens; rw [List.length_append]; exact c.ns⟩
theorem inst_len {I : Lute.Inst} (g : Gd I) : I.text.length ≤ 100000 := by
  have w3 : (Lute.ascii "fret").length ≤ 6 := by decide +kernel
  have w4 : (Lute.ascii "course").length ≤ 6 := by decide +kernel
  have w5 : (Lute.ascii "bass").length ≤ 6 := by decide +kernel
  have w1 : (Lute.ascii "length").length = 6 := by decide +kernel
  have l1 := lines_len w3 I.frets
  have l2 := lines_len w4 I.courses
  have l3 := lines_len w5 I.basses
  have dl : (Lute.decimal I.length).length ≤ 12 := digits_len 12 _
  have hns := g.ns
  have hnf := g.nf
  have hopl : I.opens.length = I.courses.length + I.basses.length := by unfold Lute.Inst.opens; rw [List.length_append]
  rw [inst_text]
  simp only [List.length_append, List.length_cons, List.length_nil, w1]
  omega
def sp_text_of (K : PySem.W.Frag) (a : Ad) : Sp := fun vs H Q E => ∃ i I lf lc lb, vs = [.ref i] ∧ InAt K a.c_Instrument H i I lf lc lb ∧ Cand I ∧ (I.ok = true → Ans (LuteB.gives I.text) Q) ∧ (I.ok = false → Refuses E a.c_NoneComes [("number", .int (-3))])
theorem sc_text_of : FnScope ["instrument", "text"] ["instrument"] (defScope s_text_of) := ⟨rfl, rfl, rfl, by decide +kernel, rfl, by decide +kernel, by decide +kernel⟩
theorem ok_text_of (T : Txt K mg a) : Prm P w K mg base (CXr P w (ZT a)) 6 a.text_of ["instrument"] (sp_text_of K a) := by
  refine prmx T.d_text_of sc_text_of (fun vs H Q E h => by obtain ⟨i, I, lf, lc, lb, rfl, _⟩ := h; rfl) (fun cdv A outer s H vs Q E hr h => ?_)
  obtain ⟨i, I, lf, lc, lb, rfl, hI, cd, k1, k2⟩ := h
  have nd := sc_text_of.nd
  obtain ⟨⟨fd2, G2, b2⟩, _⟩ := ok_NoneComes_init (P := P) (w := w) (base := base) T
  refine ⟨_, pss_cons (ps_if (pt_not (pt_val (pcall (ok_is_instrument T) (hr.mono (by decide)) T.g_is_instrument pass0 (pa_cons (pv 0) pa_nil)))) (pss_one (ps_raiseX0 T.x_NoneComes G2 (hr.mono (show 3 ≤ 5 by decide)).h rfl T.g_NoneComes b2 (wish_def (Z := ZT a)) rfl)) pss_nil)
    (pss_cons (ps_set (i := 1) nd rfl (Or.inl rfl) (pcall (ok_write_instrument T) hr T.g_write_instrument pass0 (pa_cons (pv 0) pa_nil)))
    (pss_one (ps_ret (pe_op op_cat (pe_lst (pa_cons (pe_callB call_len_seq (by rfl) T.b_len PySem.boot_len (pa_cons (pv 1) pa_nil)) pa_nil)) (pv 1))))), ?_⟩
  rw [cand_ok cd] at k1 k2
  refine ⟨_, rfl, i, I, lf, lc, lb, rfl, hI, cd.dd, fun H1 S1 => ⟨_, rfl, ?_⟩⟩
  cases hk : okI I with
  | false =>
    refine iteT ⟨by show 0 ≤ sizeLine; decide, fun e t0 hn => ?_⟩
    refine ⟨a.c_NoneComes, [a.c_Refusal], a.NoneComes_init, e, t0, rfl, T.x_NoneComes, T.n_NoneComes_number, upd_same, fun dx hd hne => ⟨rfl, dx, upd_same, k2 hk dx _ ?_⟩⟩
    rw [era_ne hne, upd_ne hne, upd_same]
  | true =>
    have g := okI_gd cd hk
    have lT := inst_len g
    refine iteF ⟨_, rfl, i, I, lf, lc, lb, rfl, hI.same S1, g, cd.hi, fun H2 q S2 n2 h2 => ?_⟩
    refine ⟨_, rfl, q, _, rfl, .inl (SqL.of h2), by show 1 ≤ sizeLine; decide, fun p0 h0 => ?_⟩
    have S3 := same_new (o := .lst [.int ((((I.text.map fun (c : UInt8) => (c.toNat : Int)).map V.int).length : Nat) : Int)]) h0
    refine ⟨_, rfl, p0, q, _, _, rfl, rfl, upd_same, S3 _ _ h2, ?_, fun p3 h3 => k1 hk _ p3 ?_⟩
    · rw [List.length_map, List.length_map]
      exact Nat.le_trans (show [V.int _].length + I.text.length ≤ 100001 by simp only [List.length_singleton]; omega) (by decide)
    · rw [upd_same, List.length_map, List.length_map]
      rfl
end
end GP
namespace GP
open PySem PySem.Spec PyProof.Rows L2 L3
section
variable {P : Program} {w : World} {K : PySem.W.Frag} {mg : Str → Option Value} {base : Heap} {a : Ad}
/-! ### instruments made anew -/
theorem Ivs.append {H : Hp} {as bs : List Addr} {xs ys : List Lute.Iv} (v : Ivs K H as xs) (u : Ivs K H bs ys) : Ivs K H (as ++ bs) (xs ++ ys) := by
  refine ⟨by rw [List.length_append, List.length_append, v.len, u.len], fun i q y h1 h2 => ?_⟩
  by_cases hi : i < as.length
  · rw [List.getElem?_append_left hi] at h1
    rw [List.getElem?_append_left (by rw [← v.len]; exact hi)] at h2
    exact v.at_ i q y h1 h2
  · rw [List.getElem?_append_right (by omega)] at h1
    rw [List.getElem?_append_right (by have := v.len; omega), ← v.len] at h2
    exact u.at_ _ q y h1 h2
theorem LsAt.ext {H : Hp} {l : Addr} {xs ys : List Lute.Iv} {as bs : List Addr} (h1 : H l = some (.lst (as.map V.ref))) (h2 : Ivs K H as xs) (h3 : Ivs K H bs ys) : LsAt K (upd H l (.lst (as.map V.ref ++ bs.map V.ref))) l (xs ++ ys) :=
  ⟨as ++ bs, by rw [upd_same, List.map_append], (h2.append h3).map fun _ _ z => row_upd h1 z⟩
theorem Same.put {H H' : Hp} {l : Addr} {o : HO} (S : Same H H') (h : H l = none) : Same H (upd H' l o) := fun b u e => by
  rw [upd_ne (ne_of_none e h)]
  exact S b u e
theorem ins_upd {C : Addr} {H : Hp} {j l dx : Addr} {fs : List (Str × V)} {xs : List V} {o : HO} (h : H j = some (.ins C dx fs)) (hl : H l = some (.lst xs)) : upd H l o j = some (.ins C dx fs) := by
  rw [upd_ne (ne_of h hl (by intro z; cases z))]
  exact h
theorem InAt.extF {C : Addr} {H : Hp} {j lf lc lb : Addr} {J : Lute.Inst} {as bs : List Addr} {ys : List Lute.Iv} (h : InAt K C H j J lf lc lb) (h1 : H lf = some (.lst (as.map V.ref))) (h2 : Ivs K H as J.frets) (h3 : Ivs K H bs ys) :
    InAt K C (upd H lf (.lst (as.map V.ref ++ bs.map V.ref))) j { J with frets := J.frets ++ ys } lf lc lb :=
  ⟨let ⟨dx, z⟩ := h.ob; ⟨dx, ins_upd z h1⟩, LsAt.ext h1 h2 h3, h.co.other h.fr h.n1.symm, h.ba.other h.fr h.n2.symm, h.n1, h.n2, h.n3⟩
theorem InAt.extC {C : Addr} {H : Hp} {j lf lc lb : Addr} {J : Lute.Inst} {as bs : List Addr} {ys : List Lute.Iv} (h : InAt K C H j J lf lc lb) (h1 : H lc = some (.lst (as.map V.ref))) (h2 : Ivs K H as J.courses) (h3 : Ivs K H bs ys) :
    InAt K C (upd H lc (.lst (as.map V.ref ++ bs.map V.ref))) j { J with courses := J.courses ++ ys } lf lc lb :=
  ⟨let ⟨dx, z⟩ := h.ob; ⟨dx, ins_upd z h1⟩, h.fr.other h.co h.n1, LsAt.ext h1 h2 h3, h.ba.other h.co h.n3.symm, h.n1, h.n2, h.n3⟩
theorem InAt.extB {C : Addr} {H : Hp} {j lf lc lb : Addr} {J : Lute.Inst} {as bs : List Addr} {ys : List Lute.Iv} (h : InAt K C H j J lf lc lb) (h1 : H lb = some (.lst (as.map V.ref))) (h2 : Ivs K H as J.basses) (h3 : Ivs K H bs ys) :
    InAt K C (upd H lb (.lst (as.map V.ref ++ bs.map V.ref))) j { J with basses := J.basses ++ ys } lf lc lb :=
  ⟨let ⟨dx, z⟩ := h.ob; ⟨dx, ins_upd z h1⟩, h.fr.other h.ba h.n2, h.co.other h.ba h.n3, LsAt.ext h1 h2 h3, h.n1, h.n2, h.n3⟩
theorem few_refs {as bs : List Addr} (h : as.length + bs.length ≤ 100) : (as.map V.ref).length + (bs.map V.ref).length ≤ sizeLine := by
  rw [List.length_map, List.length_map]
  exact Nat.le_trans h (by decide)
end
end GP
namespace GP
open PySem PySem.Spec PyProof.Rows L2 L3
section
variable {P : Program} {w : World} {K : PySem.W.Frag} {mg : Str → Option Value} {base : Heap} {a : Ad}
/-! ### copied -/
theorem Ivs.set {H : Hp} {as : List Addr} {xs : List Lute.Iv} (v : Ivs K H as xs) {n : Nat} {q : Addr} {y : Lute.Iv} (h : SqL K H q (rowV y)) : Ivs K H (as.set n q) (xs.set n y) := by
  refine ⟨by rw [List.length_set, List.length_set, v.len], fun i p x h1 h2 => ?_⟩
  rw [List.getElem?_set] at h1 h2
  by_cases e : n = i
  · subst e
    rw [if_pos rfl] at h1 h2
    split at h1
    · split at h2
      · cases h1
        cases h2
        exact h
      · cases h2
    · cases h1
  · rw [if_neg e] at h1 h2
    exact v.at_ i p x h1 h2
theorem LsAt.put {H : Hp} {l : Addr} {xs : List Lute.Iv} {as : List Addr} (h1 : H l = some (.lst (as.map V.ref))) (h2 : Ivs K H as xs) {n : Nat} {q : Addr} {y : Lute.Iv} (h : SqL K H q (rowV y)) : LsAt K (upd H l (.lst ((as.map V.ref).set n (.ref q)))) l (xs.set n y) :=
  ⟨as.set n q, by rw [upd_same, List.map_set], (h2.set h).map fun _ _ z => row_upd h1 z⟩
theorem ix_in {n k : Nat} (h : k < n) {z : Int} (e : z = (k : Int)) : ixN n z = some k := by
  subst e
  show (if (0 : Int) ≤ (k : Int) then (if (k : Int) < (n : Int) then some (k : Int).toNat else none) else _) = _
  rw [if_pos (by omega), if_pos (by omega), Int.toNat_natCast]
def sp_copied (K : PySem.W.Frag) (a : Ad) : Sp := fun vs H Q _ => ∃ i I lf lc lb, vs = [.ref i] ∧ InAt K a.c_Instrument H i I lf lc lb ∧ Gd I ∧ ∀ H' j mf mc mb, Same H H' → InAt K a.c_Instrument H' j I mf mc mb → H mf = none → H mc = none → H mb = none → Q (.ref j) H'
theorem sc_copied : FnScope ["instrument", "other"] ["instrument"] (defScope s_copied) := ⟨rfl, rfl, rfl, by decide +kernel, rfl, by decide +kernel, by decide +kernel⟩
theorem ok_copied (T : Txt K mg a) : Prm P w K mg base CX0 3 a.copied ["instrument"] (sp_copied K a) := by
  refine prm T.d_copied sc_copied (fun vs H Q E h => by obtain ⟨i, I, lf, lc, lb, rfl, _⟩ := h; rfl) (fun cdv A outer s H vs Q E hr h => ?_)
  obtain ⟨i, I, lf, lc, lb, rfl, hI, g, k⟩ := h
  have nd := sc_copied.nd
  refine ⟨_, pss_cons (ps_set (i := 1) nd rfl (Or.inl rfl) (pmake T.mk_Instrument (ok_Instrument_init T) hr T.g_Instrument pass0 (pa_cons (pe_fld (pv 0) rfl) pa_nil)))
    (pss_cons (ps_expr (pe_bm PySem.F.plainAttrs_list PySem.F.slot_list_extend PySem.F.type_list_extend mt_extend (pe_fld (pv 1) rfl) (pa_cons (pe_fld (pv 0) rfl) pa_nil)))
    (pss_cons (ps_expr (pe_bm PySem.F.plainAttrs_list PySem.F.slot_list_extend PySem.F.type_list_extend mt_extend (pe_fld (pv 1) rfl) (pa_cons (pe_fld (pv 0) rfl) pa_nil)))
    (pss_cons (ps_expr (pe_bm PySem.F.plainAttrs_list PySem.F.slot_list_extend PySem.F.type_list_extend mt_extend (pe_fld (pv 1) rfl) (pa_cons (pe_fld (pv 0) rfl) pa_nil)))
    (pss_one (ps_ret (pv 1)))))), ?_⟩
  have hns := g.ns
  have hnf := g.nf
  have hopl : I.opens.length = I.courses.length + I.basses.length := by unfold Lute.Inst.opens; rw [List.length_append]
  obtain ⟨dx, ho⟩ := hI.ob
  refine ⟨_, rfl, i, a.c_Instrument, dx, _, _, rfl, ho, T.cl_Instrument, T.n_Instrument_length, ifs_length _ _ _ _, fun j dj hj0 hdj hne => ?_⟩
  have S0 : Same H (upd (upd H dj (.own j)) j (.ins a.c_Instrument dj [])) := fun c o e => by rw [upd_ne (ne_of_none e hj0), upd_ne (ne_of_none e hdj)]; exact e
  refine ⟨j, dj, I.length, rfl, upd_same, fun H3 mf mc mb hJ k3 hmf hmc hmb => ⟨rfl, ?_⟩⟩
  have S3 : Same H H3 := fun c o e => k3 _ _ (S0 _ _ e) (ne_of_none e hj0)
  have ff : H mf = none := none_back S0 hmf
  have fc : H mc = none := none_back S0 hmc
  have fb : H mb = none := none_back S0 hmb
  obtain ⟨dj3, hoj3⟩ := hJ.ob
  obtain ⟨fa, fa1, fa2⟩ := id hJ.fr
  obtain ⟨dx3, ho3⟩ := (hI.same S3).ob
  obtain ⟨fs, f1, f2⟩ := (hI.same S3).fr
  refine ⟨_, rfl, j, a.c_Instrument, dj3, _, _, rfl, hoj3, T.cl_Instrument, T.n_Instrument_frets, ifs_frets _ _ _ _, .inl ⟨rfl, _, SqL.of fa1⟩, _, rfl, i, a.c_Instrument, dx3, _, _, rfl, ho3, T.cl_Instrument, T.n_Instrument_frets, ifs_frets _ _ _ _, mf, lf, _, _, rfl, rfl, fa1, f1, few_refs (by rw [fa2.len, f2.len]; show 0 + I.frets.length ≤ 100; omega), ?_⟩
  have hJ4 := hJ.extF fa1 fa2 f2
  have S4 := Same.put (o := .lst (fa.map V.ref ++ fs.map V.ref)) S3 ff
  generalize upd H3 mf (.lst (fa.map V.ref ++ fs.map V.ref)) = H4 at hJ4 S4
  obtain ⟨dj4, hoj4⟩ := hJ4.ob
  obtain ⟨ca, ca1, ca2⟩ := id hJ4.co
  obtain ⟨dx4, ho4⟩ := (hI.same S4).ob
  obtain ⟨cs, c1, c2⟩ := (hI.same S4).co
  have lca : ca.length = 0 := ca2.len
  refine ⟨_, rfl, j, a.c_Instrument, dj4, _, _, rfl, hoj4, T.cl_Instrument, T.n_Instrument_courses, ifs_courses _ _ _ _, .inl ⟨rfl, _, SqL.of ca1⟩, _, rfl, i, a.c_Instrument, dx4, _, _, rfl, ho4, T.cl_Instrument, T.n_Instrument_courses, ifs_courses _ _ _ _, mc, lc, _, _, rfl, rfl, ca1, c1, few_refs (by rw [lca, c2.len]; omega), ?_⟩
  have hJ5 := hJ4.extC ca1 ca2 c2
  have S5 := Same.put (o := .lst (ca.map V.ref ++ cs.map V.ref)) S4 fc
  generalize upd H4 mc (.lst (ca.map V.ref ++ cs.map V.ref)) = H5 at hJ5 S5
  obtain ⟨dj5, hoj5⟩ := hJ5.ob
  obtain ⟨ba, ba1, ba2⟩ := id hJ5.ba
  obtain ⟨dx5, ho5⟩ := (hI.same S5).ob
  obtain ⟨bs, b1, b2⟩ := (hI.same S5).ba
  have lba : ba.length = 0 := ba2.len
  refine ⟨_, rfl, j, a.c_Instrument, dj5, _, _, rfl, hoj5, T.cl_Instrument, T.n_Instrument_basses, ifs_basses _ _ _ _, .inl ⟨rfl, _, SqL.of ba1⟩, _, rfl, i, a.c_Instrument, dx5, _, _, rfl, ho5, T.cl_Instrument, T.n_Instrument_basses, ifs_basses _ _ _ _, mb, lb, _, _, rfl, rfl, ba1, b1, few_refs (by rw [lba, b2.len]; omega), ?_⟩
  exact ⟨_, rfl, k _ j mf mc mb (Same.put S5 fb) (hJ5.extB ba1 ba2 b2) ff fc fb⟩
end
end GP
namespace GP
open PySem PySem.Spec PyProof.Rows L2 L3
section
variable {P : Program} {w : World} {K : PySem.W.Frag} {mg : Str → Option Value} {base : Heap} {a : Ad}
/-! ### what is read is an instrument -/
structure Fit (I : Lute.Inst) : Prop where
  lo : 10000 ≤ I.length
  hi : I.length ≤ 200000
  nf : I.frets.length ≤ 15
  of_ : ∀ x ∈ I.frets, x.ok = true
  wi : Lute.widening Lute.unison I.frets = true
  ns : I.courses.length + I.basses.length ≤ 14
  oc : ∀ x ∈ I.courses, x.ok = true
  ob : ∀ x ∈ I.basses, x.ok = true
  so : ∀ x ∈ I.courses, Lute.soundsAll I.frets x = true
theorem widening_snoc : ∀ (l : List Lute.Iv) (u x : Lute.Iv), Lute.widening u l = true → (l.getLastD u).lt x = true → Lute.widening u (l ++ [x]) = true
  | [], u, x, _, h => by
    show (u.lt x && Lute.widening x []) = true
    rw [show u.lt x = true from h]
    rfl
  | y :: r, u, x, h, h2 => by
    have h : (u.lt y && Lute.widening y r) = true := h
    rw [Bool.and_eq_true] at h
    show (u.lt y && Lute.widening y (r ++ [x])) = true
    rw [h.1, widening_snoc r y x h.2 (by cases r <;> exact h2)]
    rfl
theorem ivPy_fine {fine : Lute.Iv → Bool} {p : Nat} {l : Lute.Bytes} {x : Lute.Iv} {q : Nat} {u : Lute.Bytes} (h : GF.ivPy fine p l = .ok (x, q, u)) : x.ok = true ∧ fine x = true := by
  unfold GF.ivPy at h
  cases e2 : Lute.want [32] p l with
  | error e => rw [e2] at h; cases h
  | ok y =>
    obtain ⟨_, q1, u1⟩ := y
    rw [e2] at h
    dsimp only at h
    cases e3 : GF.readPy q1 u1 with
    | error e => rw [e3] at h; cases h
    | ok y =>
      obtain ⟨x1, z, v⟩ := y
      rw [e3] at h
      dsimp only at h
      cases hf : fine x1 with
      | false => rw [if_pos hf] at h; cases h
      | true =>
        rw [if_neg (by rw [hf]; decide)] at h
        cases e4 : Lute.want [10] z v with
        | error e => rw [e4] at h; cases h
        | ok y =>
          rw [e4] at h
          injection h with h
          injection h with h1 _
          subst h1
          exact ⟨readPy_ok e3, hf⟩
theorem tail_fine {st st' : Lute.Inst} {k : Nat} {ws : Lute.Bytes} {many : Bool} {fine : Lute.Iv → Bool} {p q : Nat} {l u : Lute.Bytes} (h : GF.lineTail st k ws many fine p l = .ok (st', q, u)) : many = false ∧ ∃ x, x.ok = true ∧ fine x = true ∧ st' = GF.putLine st k x := by
  unfold GF.lineTail at h
  cases e : Lute.want ws p l with
  | error e2 => rw [e] at h; cases h
  | ok y =>
    obtain ⟨y0, q1, u1⟩ := y
    rw [e] at h
    dsimp only at h
    cases many with
    | true => rw [if_pos rfl] at h; cases h
    | false =>
      rw [if_neg (by decide)] at h
      cases e2 : GF.ivPy fine q1 u1 with
      | error e3 => rw [e2] at h; cases h
      | ok y =>
        obtain ⟨x, z, v⟩ := y
        rw [e2] at h
        injection h with h
        injection h with h1 h2
        obtain ⟨f1, f2⟩ := ivPy_fine e2
        exact ⟨rfl, x, f1, f2, h1.symm⟩
theorem line_fit {st st' : Lute.Inst} {p q : Nat} {l u : Lute.Bytes} (F : Fit st) (h : GF.lineAt st p l = .ok (st', q, u)) : Fit st' := by
  unfold GF.lineAt at h
  cases l with
  | nil => cases h
  | cons c r =>
    dsimp only at h
    split at h
    · rename_i hc
      obtain ⟨m, x, ox, fx, rfl⟩ := tail_fine h
      have m : ¬ 15 ≤ st.frets.length := of_decide_eq_false m
      have hc2 : st.courses = [] := List.isEmpty_iff.mp hc.2
      refine ⟨F.lo, F.hi, ?_, ?_, ?_, F.ns, F.oc, F.ob, ?_⟩
      · show (st.frets ++ [x]).length ≤ 15
        rw [List.length_append]
        show st.frets.length + 1 ≤ 15
        omega
      · show ∀ y ∈ st.frets ++ [x], y.ok = true
        intro y hy
        rcases List.mem_append.mp hy with hy | hy
        · exact F.of_ y hy
        · rw [List.mem_singleton.mp hy]
          exact ox
      · exact widening_snoc _ _ _ F.wi fx
      · show ∀ y ∈ st.courses, Lute.soundsAll (st.frets ++ [x]) y = true
        rw [hc2]
        intro y hy
        cases hy
    · split at h
      · obtain ⟨m, x, ox, fx, rfl⟩ := tail_fine h
        have m : ¬ 14 ≤ st.opens.length := of_decide_eq_false m
        have ho : st.opens.length = st.courses.length + st.basses.length := by unfold Lute.Inst.opens; rw [List.length_append]
        refine ⟨F.lo, F.hi, F.nf, F.of_, F.wi, ?_, ?_, F.ob, ?_⟩
        · show (st.courses ++ [x]).length + st.basses.length ≤ 14
          rw [List.length_append]
          show st.courses.length + 1 + st.basses.length ≤ 14
          omega
        · show ∀ y ∈ st.courses ++ [x], y.ok = true
          intro y hy
          rcases List.mem_append.mp hy with hy | hy
          · exact F.oc y hy
          · rw [List.mem_singleton.mp hy]
            exact ox
        · show ∀ y ∈ st.courses ++ [x], Lute.soundsAll st.frets y = true
          intro y hy
          rcases List.mem_append.mp hy with hy | hy
          · exact F.so y hy
          · rw [List.mem_singleton.mp hy]
            exact fx
      · split at h
        · obtain ⟨m, x, ox, fx, rfl⟩ := tail_fine h
          have m : ¬ 14 ≤ st.opens.length := of_decide_eq_false m
          have ho : st.opens.length = st.courses.length + st.basses.length := by unfold Lute.Inst.opens; rw [List.length_append]
          refine ⟨F.lo, F.hi, F.nf, F.of_, F.wi, ?_, F.oc, ?_, F.so⟩
          · show st.courses.length + (st.basses ++ [x]).length ≤ 14
            rw [List.length_append]
            show st.courses.length + (st.basses.length + 1) ≤ 14
            omega
          · show ∀ y ∈ st.basses ++ [x], y.ok = true
            intro y hy
            rcases List.mem_append.mp hy with hy | hy
            · exact F.ob y hy
            · rw [List.mem_singleton.mp hy]
              exact ox
        · cases h
theorem lines_fit : ∀ (f : Nat) (st : Lute.Inst) (p : Nat) (l : Lute.Bytes) (I : Lute.Inst), Fit st → Lute.linesAt f st p l = .ok I → Fit I ∧ 1 ≤ I.courses.length
  | f, st, p, [], I, F, h => by
    rw [GF.linesAt_nil] at h
    cases hc : st.courses with
    | nil => rw [hc] at h; cases h
    | cons y r =>
      rw [hc, if_neg (fun z => by cases z)] at h
      injection h with h
      subst h
      refine ⟨F, ?_⟩
      rw [hc]
      exact Nat.succ_le_succ (Nat.zero_le _)
  | 0, st, p, c :: r, I, F, h => by cases h
  | f + 1, st, p, c :: r, I, F, h => by
    rw [GF.linesAt_step] at h
    cases e : GF.lineAt st p (c :: r) with
    | error e2 => rw [e] at h; cases h
    | ok y =>
      obtain ⟨st2, q, u⟩ := y
      rw [e] at h
      exact lines_fit f st2 q u I (line_fit F e) h
theorem read_fit {t : Lute.Bytes} {I : Lute.Inst} (h : Lute.readInst t = .ok I) : Fit I ∧ 1 ≤ I.courses.length := by
  unfold Lute.readInst at h
  cases e : Lute.want (Lute.ascii "length ") 0 t with
  | error e2 => rw [e] at h; cases h
  | ok y =>
    obtain ⟨_, p, u⟩ := y
    rw [e] at h
    dsimp only at h
    cases e2 : Lute.longNumber p u with
    | error e3 => rw [e2] at h; cases h
    | ok y =>
      obtain ⟨n, q, v⟩ := y
      rw [e2] at h
      dsimp only at h
      split at h
      · cases h
      · rename_i hn
        have hn : ¬ (n < 10000 ∨ 200000 < n) := hn
        cases e4 : Lute.want [10] q v with
        | error e5 => rw [e4] at h; cases h
        | ok y =>
          rw [e4] at h
          exact lines_fit _ _ _ _ _ ⟨by show 10000 ≤ n; omega, by show n ≤ 200000; omega, Nat.zero_le _, fun x hx => (by cases hx), rfl, Nat.zero_le _, fun x hx => (by cases hx), fun x hx => (by cases hx), fun x hx => (by cases hx)⟩ h
theorem outN_fit {X : Cx} {D : Ends} {i : Nat} {t : Lute.Bytes} {H : Hp} {Q : VK} {F : Lute.Inst → LuteB.Answer} (T : Txt X.K X.mg a) (hi : ∀ v, ((blank X).set i (some v))[i]? = some (some v)) (k : Ans (LuteB.of t F) D.rt)
    (c : ∀ I, Fit I → 1 ≤ I.courses.length → Ans (F I) D.rt → ∀ H' j lf lc lb, InAt X.K a.c_Instrument H' j I lf lc lb → Gd I → Same H H' → Q (.ref j) H') : OutN X.K a t H Q (hCons X (ZT a) a.c_Refusal i (tsR X.K i) hNil D) := by
  unfold OutN
  unfold LuteB.of LuteB.TEXT at k
  by_cases hl : 4096 < t.length
  · rw [if_pos hl] at k ⊢
    exact refused T.x_TextTooLong (by simp) T.n_TextTooLong_number rfl hi k
  · rw [if_neg hl] at k ⊢
    cases er : Lute.readInst t with
    | error e =>
      rw [er] at k
      exact refused T.x_NoInstrument (by simp) T.n_NoInstrument_number rfl hi k
    | ok I =>
      rw [er] at k
      obtain ⟨f1, f2⟩ := read_fit er
      exact fun H' j lf lc lb hI g S => c I f1 f2 k H' j lf lc lb hI g S
end
end GP
namespace GP
open PySem PySem.Spec PyProof.Rows L2 L3
section
variable {P : Program} {w : World} {K : PySem.W.Frag} {mg : Str → Option Value} {base : Heap} {a : Ad}
/-! ### an interval that is handed in -/
theorem sc_OutOfBounds_init : FnScope ["self"] ["self"] (defScope s_OutOfBounds_init) := ⟨rfl, rfl, rfl, by decide +kernel, rfl, by decide +kernel, by decide +kernel⟩
theorem ok_OutOfBounds_init (T : Txt K mg a) : PrmH P w K mg base 2 a.OutOfBounds_init ["self"] (sp_ref K (-1)) := by
  refine prmH T.d_OutOfBounds_init sc_OutOfBounds_init (fun vs H Q E h => by obtain ⟨C, ms, fI, e, t0, rfl, _⟩ := h; rfl) (fun cdv A outer s H vs Q E hr h => ?_)
  obtain ⟨C, ms, fI, e, t0, rfl, xc, na, he, k⟩ := h
  obtain ⟨⟨fd, G, b⟩, _⟩ := ok_Refusal_init (P := P) (w := w) (base := base) T
  refine ⟨_, pss_one (ps_expr (pe_cm T.cm_Refusal G hr b rfl T.g_Refusal (pa_cons (pv 0) (pa_cons (pe_un un_neg pe_int) pa_nil)))), ?_⟩
  exact ⟨_, rfl, _, rfl, C, ms, fI, e, t0, _, rfl, xc, na, he, k⟩
theorem given_none {xs : List Int} (h : isIv xs = false) : LuteB.given xs = none := by
  unfold LuteB.given
  split
  · rename_i za zb zc ze zd
    refine if_neg fun z => ?_
    rw [Bool.and_eq_true] at z
    have hd : 1 ≤ zd := of_decide_eq_true z.1
    have e := isIv_row (y := ⟨za, zb, zc, ze, zd.toNat⟩) (by show 1 ≤ zd.toNat; omega)
    rw [z.2] at e
    have e2 : LuteB.rowOf ⟨za, zb, zc, ze, zd.toNat⟩ = [za, zb, zc, ze, zd] := by
      show [za, zb, zc, ze, ((zd.toNat : Nat) : Int)] = _
      rw [Int.toNat_of_nonneg (by omega)]
    rw [e2, h] at e
    cases e
  · rfl
theorem given_some {xs : List Int} (h : isIv xs = true) : ∃ x : Lute.Iv, LuteB.given xs = some x ∧ xs = LuteB.rowOf x ∧ x.ok = true := by
  match xs, h with
  | [za, zb, zc, ze, zd], h =>
    have h2 := h
    rw [isIv_five] at h2
    simp only [Bool.and_eq_true, decide_eq_true_eq] at h2
    have hd : 1 ≤ zd := h2.2.1
    have e2 : LuteB.rowOf ⟨za, zb, zc, ze, zd.toNat⟩ = [za, zb, zc, ze, zd] := by
      show [za, zb, zc, ze, ((zd.toNat : Nat) : Int)] = _
      rw [Int.toNat_of_nonneg (by omega)]
    have e := isIv_row (y := ⟨za, zb, zc, ze, zd.toNat⟩) (by show 1 ≤ zd.toNat; omega)
    rw [e2, h] at e
    refine ⟨⟨za, zb, zc, ze, zd.toNat⟩, ?_, e2.symm, e.symm⟩
    unfold LuteB.given
    exact if_pos (by rw [← e, decide_eq_true hd]; rfl)
def sp_check_interval (K : PySem.W.Frag) (a : Ad) : Sp := fun vs H Q E => ∃ p, ∃ xs : List Int, vs = [.ref p] ∧ SqL K H p (xs.map V.int) ∧ (isIv xs = true → ∀ H', Same H H' → Q .non H') ∧ (isIv xs = false → Refuses E a.c_OutOfBounds [("number", .int (-1))])
theorem sc_check_interval : FnScope ["x"] ["x"] (defScope s_check_interval) := ⟨rfl, rfl, rfl, by decide +kernel, rfl, by decide +kernel, by decide +kernel⟩
theorem ok_check_interval (T : Txt K mg a) : Prm P w K mg base (CXr P w (ZT a)) 4 a.check_interval ["x"] (sp_check_interval K a) := by
  refine prmx T.d_check_interval sc_check_interval (fun vs H Q E h => by obtain ⟨p, xs, rfl, _⟩ := h; rfl) (fun cdv A outer s H vs Q E hr h => ?_)
  obtain ⟨p, xs, rfl, hp, k1, k2⟩ := h
  obtain ⟨⟨fd2, G2, b2⟩, _⟩ := ok_OutOfBounds_init (P := P) (w := w) (base := base) T
  refine ⟨_, pss_one (ps_if (pt_not (pt_val (pcall (ok_is_interval T) (hr.mono (by decide)) T.g_is_interval pass0 (pa_cons (pv 0) pa_nil)))) (pss_one (ps_raiseX0 T.x_OutOfBounds G2 hr.h rfl T.g_OutOfBounds b2 (wish_def (Z := ZT a)) rfl)) pss_nil), ?_⟩
  refine ⟨_, rfl, p, xs, rfl, hp, fun H1 S1 => ⟨_, rfl, ?_⟩⟩
  cases hv : isIv xs with
  | true => exact iteF (k1 hv H1 S1)
  | false =>
    refine iteT ⟨by show 0 ≤ sizeLine; decide, fun e t0 hn => ?_⟩
    refine ⟨a.c_OutOfBounds, [a.c_Refusal], a.OutOfBounds_init, e, t0, rfl, T.x_OutOfBounds, T.n_OutOfBounds_number, upd_same, fun dx hd hne => ⟨rfl, dx, upd_same, k2 hv dx _ ?_⟩⟩
    rw [era_ne hne, upd_ne hne, upd_same]
end
end GP
namespace GP
open PySem PySem.Spec PyProof.Rows L2 L3
section
variable {P : Program} {w : World} {K : PySem.W.Frag} {mg : Str → Option Value} {base : Heap} {a : Ad}
theorem sc_NoPlace_init : FnScope ["self"] ["self"] (defScope s_NoPlace_init) := ⟨rfl, rfl, rfl, by decide +kernel, rfl, by decide +kernel, by decide +kernel⟩
theorem ok_NoPlace_init (T : Txt K mg a) : PrmH P w K mg base 2 a.NoPlace_init ["self"] (sp_ref K (-4)) := by
  refine prmH T.d_NoPlace_init sc_NoPlace_init (fun vs H Q E h => by obtain ⟨C, ms, fI, e, t0, rfl, _⟩ := h; rfl) (fun cdv A outer s H vs Q E hr h => ?_)
  obtain ⟨C, ms, fI, e, t0, rfl, xc, na, he, k⟩ := h
  obtain ⟨⟨fd, G, b⟩, _⟩ := ok_Refusal_init (P := P) (w := w) (base := base) T
  refine ⟨_, pss_one (ps_expr (pe_cm T.cm_Refusal G hr b rfl T.g_Refusal (pa_cons (pv 0) (pa_cons (pe_un un_neg pe_int) pa_nil)))), ?_⟩
  exact ⟨_, rfl, _, rfl, C, ms, fI, e, t0, _, rfl, xc, na, he, k⟩
def sp_has_fret (K : PySem.W.Frag) (a : Ad) : Sp := fun vs H Q _ => ∃ i I lf lc lb, ∃ f : Nat, vs = [.ref i, .int (f : Int)] ∧ InAt K a.c_Instrument H i I lf lc lb ∧ Q (.bl (decide (f ≤ I.frets.length))) H
theorem sc_has_fret : FnScope ["instrument", "f"] ["instrument", "f"] (defScope s_has_fret) := ⟨rfl, rfl, rfl, by decide +kernel, rfl, by decide +kernel, by decide +kernel⟩
theorem ok_has_fret (T : Txt K mg a) : Prm P w K mg base CX0 1 a.has_fret ["instrument", "f"] (sp_has_fret K a) := by
  refine prm T.d_has_fret sc_has_fret (fun vs H Q E h => by obtain ⟨i, I, lf, lc, lb, f, rfl, _⟩ := h; rfl) (fun cdv A outer s H vs Q E hr h => ?_)
  obtain ⟨i, I, lf, lc, lb, f, rfl, hI, k⟩ := h
  obtain ⟨dx, ho⟩ := hI.ob
  obtain ⟨fs, f1, f2⟩ := hI.fr
  refine ⟨_, pss_one (ps_ret (pe_and (pe_cmpR op_le pe_int (pv 1) (nomark _)) (pe_one (pe_cmpR op_le (pv 1) (pe_callB call_len_seq (by rfl) T.b_len PySem.boot_len (pa_cons (pe_fld (pv 0) rfl) pa_nil)) (nomark _))))), ?_⟩
  refine ⟨_, rfl, _, _, rfl, rfl, _, rfl, ifT (decide_eq_true (by omega)) ?_⟩
  refine ⟨_, rfl, _, rfl, i, a.c_Instrument, dx, _, _, rfl, ho, T.cl_Instrument, T.n_Instrument_frets, ifs_frets _ _ _ _, lf, _, rfl, .inl (SqL.of f1), _, _, rfl, rfl, ?_⟩
  have e : decide ((f : Int) ≤ (((fs.map V.ref).length : Nat) : Int)) = decide (f ≤ I.frets.length) := by
    rw [List.length_map, f2.len, Bool.eq_iff_iff, decide_eq_true_eq, decide_eq_true_eq]
    omega
  rw [← e] at k
  exact k
end
end GP
namespace GP
open PySem PySem.Spec PyProof.Rows L2 L3
section
variable {P : Program} {w : World} {K : PySem.W.Frag} {mg : Str → Option Value} {base : Heap} {a : Ad}
def sp_check_tied_fret (K : PySem.W.Frag) (a : Ad) : Sp := fun vs H Q E => ∃ i I lf lc lb, ∃ f : Nat, vs = [.ref i, .int (f : Int)] ∧ InAt K a.c_Instrument H i I lf lc lb ∧ (¬ (f < 1 ∨ I.frets.length < f) → Q .non H) ∧ ((f < 1 ∨ I.frets.length < f) → Refuses E a.c_NoPlace [("number", .int (-4))])
theorem sc_check_tied_fret : FnScope ["instrument", "f"] ["instrument", "f"] (defScope s_check_tied_fret) := ⟨rfl, rfl, rfl, by decide +kernel, rfl, by decide +kernel, by decide +kernel⟩
theorem ok_check_tied_fret (T : Txt K mg a) : Prm P w K mg base (CXr P w (ZT a)) 4 a.check_tied_fret ["instrument", "f"] (sp_check_tied_fret K a) := by
  refine prmx T.d_check_tied_fret sc_check_tied_fret (fun vs H Q E h => by obtain ⟨i, I, lf, lc, lb, f, rfl, _⟩ := h; rfl) (fun cdv A outer s H vs Q E hr h => ?_)
  obtain ⟨i, I, lf, lc, lb, f, rfl, hI, k1, k2⟩ := h
  obtain ⟨⟨fd2, G2, b2⟩, _⟩ := ok_NoPlace_init (P := P) (w := w) (base := base) T
  refine ⟨_, pss_one (ps_if (pw_or (pt_cmpR op_eq (pv 1) pe_int (nomark _)) (pw_or1 (pt_not (pt_val (pcall (ok_has_fret T) (hr.mono (by decide)) T.g_has_fret pass0 (pa_cons (pv 0) (pa_cons (pv 1) pa_nil))))))).pt (pss_one (ps_raiseX0 T.x_NoPlace G2 hr.h rfl T.g_NoPlace b2 (wish_def (Z := ZT a)) rfl)) pss_nil), ?_⟩
  have out : (f < 1 ∨ I.frets.length < f) → tRaiseX a.c_NoPlace (sp_ref K (-4)) tNil E { nx := fun _ H' => Q .non H', rt := Q } (start ["instrument", "f"] [.ref i, .int (f : Int)]) H := fun hp => by
    refine ⟨by show 0 ≤ sizeLine; decide, fun e t0 hn => ?_⟩
    refine ⟨a.c_NoPlace, [a.c_Refusal], a.NoPlace_init, e, t0, rfl, T.x_NoPlace, T.n_NoPlace_number, upd_same, fun dx hd hne => ⟨rfl, dx, upd_same, k2 hp dx _ ?_⟩⟩
    rw [era_ne hne, upd_ne hne, upd_same]
  refine ⟨_, rfl, rfl, _, rfl, ifB (fun hc => ?_) (fun hc => ?_)⟩
  · have h0 : f = 0 := by simpa using hc
    exact iteT (out (.inl (by omega)))
  · have h0 : ¬ f = 0 := by simpa using hc
    refine ⟨_, rfl, _, rfl, i, I, lf, lc, lb, f, rfl, hI, _, rfl, ?_⟩
    by_cases hp : f ≤ I.frets.length
    · rw [decide_eq_true hp]
      exact iteF (k1 (by omega))
    · rw [decide_eq_false hp]
      exact iteT (out (.inr (by omega)))
def sp_tie_fret (K : PySem.W.Frag) (a : Ad) : Sp := fun vs H Q _ => ∃ i I lf lc lb p z, ∃ f : Nat, vs = [.ref i, .int (f : Int), .ref p] ∧ InAt K a.c_Instrument H i I lf lc lb ∧ Gd I ∧ SqL K H p (rowV z) ∧ 1 ≤ f ∧ f ≤ I.frets.length ∧ ∀ H' j mf mc mb, Same H H' → InAt K a.c_Instrument H' j (I.tied f z) mf mc mb → Q (.ref j) H'
abbrev N_tf : List Str := ["instrument", "f", "x", "other"]
theorem sc_tie_fret : FnScope N_tf ["instrument", "f", "x"] (defScope s_tie_fret) := ⟨rfl, rfl, rfl, by decide +kernel, rfl, by decide +kernel, by decide +kernel⟩
theorem ok_tie_fret (T : Txt K mg a) : Prm P w K mg base CX0 4 a.tie_fret ["instrument", "f", "x"] (sp_tie_fret K a) := by
  refine prm T.d_tie_fret sc_tie_fret (fun vs H Q E h => by obtain ⟨i, I, lf, lc, lb, p, z, f, rfl, _⟩ := h; rfl) (fun cdv A outer s H vs Q E hr h => ?_)
  obtain ⟨i, I, lf, lc, lb, p, z, f, rfl, hI, g, hp, f1, f2, k⟩ := h
  have nd := sc_tie_fret.nd
  refine ⟨_, pss_cons (ps_set (i := 3) nd rfl (Or.inl rfl) (pcall (ok_copied T) hr T.g_copied pass0 (pa_cons (pv 0) pa_nil)))
    (pss_cons (ps_asg (pv 2) (pg_sub (pe_fld (pv 3) rfl) (pe_op op_sub (pv 1) pe_int) set_list))
    (pss_one (ps_ret (pv 3)))), ?_⟩
  refine ⟨_, rfl, i, I, lf, lc, lb, rfl, hI, g, fun H1 j mf mc mb S1 hJ ff fc fb => ?_⟩
  obtain ⟨dj, hoj⟩ := hJ.ob
  obtain ⟨as, a1, a2⟩ := id hJ.fr
  refine ⟨_, rfl, _, rfl, j, a.c_Instrument, dj, _, _, rfl, hoj, T.cl_Instrument, T.n_Instrument_frets, ifs_frets _ _ _ _, _, rfl, _, _, rfl, rfl, mf, _, _, f - 1, rfl, rfl, a1, ix_in (by rw [List.length_map, a2.len]; omega) (by omega), ?_⟩
  refine ⟨_, rfl, k _ j mf mc mb (Same.put S1 ff) ⟨⟨dj, ins_upd hoj a1⟩, LsAt.put a1 a2 (S1.seq hp), hJ.co.other hJ.fr hJ.n1.symm, hJ.ba.other hJ.fr hJ.n2.symm, hJ.n1, hJ.n2, hJ.n3⟩⟩
theorem cand_tied {I : Lute.Inst} (F : Fit I) (hc : 1 ≤ I.courses.length) {z : Lute.Iv} (hz : z.ok = true) (f : Nat) : Cand (I.tied f z) := by
  refine ⟨⟨fun x hx => ?_, fun x hx => (ok_parts (F.oc x hx)).2.1, fun x hx => (ok_parts (F.ob x hx)).2.1⟩, F.lo, F.hi, ?_, hc, F.ns⟩
  · rcases List.mem_or_eq_of_mem_set hx with h | h
    · exact (ok_parts (F.of_ x h)).2.1
    · rw [h]; exact (ok_parts hz).2.1
  · show (I.frets.set (f - 1) z).length ≤ 15
    rw [List.length_set]
    exact F.nf
def sp_tie (K : PySem.W.Frag) : Sp := fun vs H Q _ => ∃ f : Nat, ∃ b t p, ∃ xs : List Int, vs = [.int (f : Int), .ref b, .ref p] ∧ SqF K H b (byV t) ∧ SqF K H p (xs.map V.int) ∧ Ans (LuteB.answer (.tie t f xs)) Q
abbrev N_tie : List Str := ["f", "t", "x", "instrument", "refusal"]
theorem sc_tie : FnScope N_tie ["f", "t", "x"] (defScope s_tie) := ⟨rfl, rfl, rfl, by decide +kernel, rfl, by decide +kernel, by decide +kernel⟩
theorem ok_tie (T : Txt K mg a) : Prm P w K mg base CX0 12 a.tie ["f", "t", "x"] (sp_tie K) := by
  refine prm T.d_tie sc_tie (fun vs H Q E h => by obtain ⟨f, b, t, p, xs, rfl, _⟩ := h; rfl) (fun cdv A outer s H vs Q E hr h => ?_)
  obtain ⟨f, b, t, p, xs, rfl, ht, hx, k⟩ := h
  have nd := sc_tie.nd
  refine ⟨_, pss_one (ps_try (Z := ZT a) (tb := fun Ec => tSeq (tAsg (tCall (sp_instrument_of K a) [] Ec (tCons (tVar 1) tNil)) (gName 3)) (tSeq (tDrop (tCall (sp_check_interval K a) [] Ec (tCons (tVar 2) tNil))) (tSeq (tDrop (tCall (sp_check_tied_fret K a) [] Ec (tCons (tVar 3) (tCons (tVar 0) tNil)))) (tRet (tCall (sp_text_of K a) [] Ec (tCons (tCall (sp_tie_fret K a) [] (fun _ _ _ => False) (tCons (tVar 3) (tCons (tVar 0) (tCons (tVar 2) tNil)))) tNil)))))) rfl rfl
      (fun pn E' Ec wi => pss_cons (ps_set (i := 3) nd rfl (Or.inl rfl) (pcall (ok_instrument_of T) hr T.g_instrument_of wi.passes (pa_cons (pv 1) pa_nil)))
        (pss_cons (ps_expr (pcall (ok_check_interval T) (hr.mono (by decide)) T.g_check_interval wi.passes (pa_cons (pv 2) pa_nil)))
        (pss_cons (ps_expr (pcall (ok_check_tied_fret T) (hr.mono (by decide)) T.g_check_tied_fret wi.passes (pa_cons (pv 3) (pa_cons (pv 0) pa_nil))))
        (pss_one (ps_ret (pcall (ok_text_of T) (hr.mono (by decide)) T.g_text_of wi.passes (pa_cons (pcall (ok_tie_fret T) (hr.mono (by decide)) T.g_tie_fret pass0 (pa_cons (pv 3) (pa_cons (pv 0) (pa_cons (pv 2) pa_nil)))) pa_nil)))))))
      (ph_cons (i := 4) (ts := tsR K 4) T.x_Refusal rfl rfl rfl T.g_Refusal nd rfl rfl (fun e ok => pss_one (ps_ret (pe_lst (pa_cons (pe_xld (pv 4) rfl) pa_nil)))) ph_nil)), ?_⟩
  refine ⟨_, rfl, b, t, rfl, ht, outN_fit (X := (cxOf CX0 P w K mg base N_tie "tie" (defScope s_tie) a.tie cdv A outer s H E).nox) (i := 4) T (fun v => rfl) k fun I F hc k H' i lf lc lb hI g S => ?_⟩
  refine ⟨_, rfl, p, xs, rfl, S.seq hx.sq, fun hv H1 S1 => ?_, fun hv => ?_⟩
  · obtain ⟨z, g1, g2, g3⟩ := given_some hv
    subst g2
    unfold LuteB.withIv at k
    rw [g1] at k
    have k : Ans (if f < 1 ∨ I.frets.length < f then LuteB.says (-4) else if (I.tied f z).ok = true then LuteB.gives (I.tied f z).text else LuteB.says (-3)) Q := k
    refine ⟨_, rfl, _, rfl, i, I, lf, lc, lb, f, rfl, hI.same S1, fun hf => ?_, fun hf => ?_⟩
    · rw [if_neg hf] at k
      refine ⟨_, rfl, _, rfl, _, rfl, i, I, lf, lc, lb, p, z, f, rfl, hI.same S1, g, (S.trans S1).seq hx.sq, by omega, by omega, fun H2 j mf mc mb S2 hJ => ?_⟩
      refine ⟨j, I.tied f z, mf, mc, mb, rfl, hJ, cand_tied F hc g3 f, fun hk => ?_, fun hk => ?_⟩
      · rw [hk, if_pos rfl] at k
        exact k
      · rw [hk, if_neg (by decide)] at k
        exact refused (X := (cxOf CX0 P w K mg base N_tie "tie" (defScope s_tie) a.tie cdv A outer s H E).nox) T.x_NoneComes (by simp) T.n_NoneComes_number rfl (fun v => rfl) k
    · rw [if_pos hf] at k
      exact refused (X := (cxOf CX0 P w K mg base N_tie "tie" (defScope s_tie) a.tie cdv A outer s H E).nox) T.x_NoPlace (by simp) T.n_NoPlace_number rfl (fun v => rfl) k
  · unfold LuteB.withIv at k
    rw [given_none hv] at k
    exact refused (X := (cxOf CX0 P w K mg base N_tie "tie" (defScope s_tie) a.tie cdv A outer s H E).nox) T.x_OutOfBounds (by simp) T.n_OutOfBounds_number rfl (fun v => rfl) k
end
end GP
namespace L2
open PySem PySem.Spec PyProof.Rows PySem.W

/-- what is tracked at the call: the lists that were handed in -/
structure Tr (P : Program) (w : World) (K : PySem.W.Frag) (h : Heap) (H : Hp) : Prop where
  hok : HOk P w H h
  only : Only H
  nk : ∀ b, H b ≠ none → K.lookup b = none ∧ ∃ vs : List Value, h.get? b = some { cls := .type "list", data := .seq vs.toArray }
theorem Tr.nil {P : Program} {w : World} {K : PySem.W.Frag} {h : Heap} : Tr P w K h (fun _ => none) := ⟨(fun b u z => by have z : (none : Option HO) = some u := z; cases z), fun _ => .inl rfl, fun b z => absurd rfl z⟩
/-- a list of numbers, handed in -/
def Giv (K : PySem.W.Frag) (H : Hp) (b : Addr) (xs : List V) : Prop :=
  (∃ o, H b = some (.frz o (.lst xs))) ∨ ∃ (o : Obj) (its : Array Value) (n : Nat), K.lookup b = some o ∧ o.cls = .type "list" ∧ o.dict = none ∧ o.data = .seq its n ∧ its.size ≤ sizeLine ∧ Vals xs its.toList
theorem Tr.add {P : Program} {w : World} {K : PySem.W.Frag} {h : Heap} {H : Hp} {p : Addr} {vs : List Value} {ns : List Int} (T : Tr P w K h H) (KX : K.In h) (ho : h.get? p = some { cls := .type "list", data := .seq vs.toArray }) (hi : IntsAre vs ns) (hl : ns.length ≤ sizeLine) :
    ∃ H', Tr P w K h H' ∧ Giv K H' p (ns.map V.int) ∧ ∀ q xs, Giv K H q xs → Giv K H' q xs := by
  have rv := vals_ints hi
  cases hk : K.lookup p with
  | some o =>
    have e := KX p o hk
    rw [ho] at e
    cases e
    exact ⟨H, T, .inr ⟨_, vs.toArray, _, hk, rfl, rfl, rfl, by rw [List.size_toArray, hi.length]; exact hl, by simpa using rv⟩, fun _ _ z => z⟩
  | none =>
    have hnew : ∀ H' : Hp, ObjOk P w H' h p (.frz { cls := .type "list", data := .seq vs.toArray } (.lst (ns.map V.int))) := fun H' => ⟨ho, by rw [List.length_map]; exact hl, vs, _, rv, ho⟩
    refine ⟨upd H p (.frz { cls := .type "list", data := .seq vs.toArray } (.lst (ns.map V.int))), ⟨fun b u z => ?_, fun b => ?_, fun b z => ?_⟩, .inl ⟨_, upd_same⟩, fun q xs z => ?_⟩
    · by_cases hb : b = p
      · subst hb
        rw [upd_same] at z
        cases z
        exact hnew _
      · rw [upd_ne hb] at z
        rcases T.only b with y | ⟨ob, xs, y⟩
        · rw [y] at z; cases z
        · rw [y] at z
          cases z
          have := T.hok b _ y
          exact this
    · by_cases hb : b = p
      · subst hb
        exact .inr ⟨_, _, upd_same⟩
      · rw [upd_ne hb]
        exact T.only b
    · by_cases hb : b = p
      · subst hb
        exact ⟨hk, vs, ho⟩
      · rw [upd_ne hb] at z
        exact T.nk b z
    · rcases z with ⟨o, z⟩ | z
      · by_cases hb : q = p
        · subst hb
          obtain ⟨e1, hz, its, n, r1, e2⟩ := T.hok q _ z
          rw [ho] at e2
          cases e2
          have ex : xs = ns.map V.int := r1.inj rv
          subst ex
          exact .inl ⟨_, upd_same⟩
        · exact .inl ⟨o, by rw [upd_ne hb]; exact z⟩
      · exact .inr z
theorem ints_of_vals : ∀ {zs : List Int} {its : List Value}, Vals (zs.map V.int) its → IntsAre its zs
  | [], _, .nil => .nil
  | z :: r, _, .cons ⟨t, e⟩ q => by
    subst e
    exact .cons z t (ints_of_vals q)
/-- THE HEAD: the def's promise, at the heap behind the top -/
theorem spec_call {P : Program} {w : World} {K : PySem.W.Frag} {mg mb : Str → Option Value} {k : Nat} {fa : Addr} {fd : FuncData} {ps : List Str} {sp : Sp} {s₁ : Shared} {vals : List Value} {vs : List V} {H : Hp} {zs : List Int}
    (KX : K.In s₁.heap) (hns : s₁.heap.Ns mainGlobals mg) (hb : s₁.heap.Ns builtinsNs mb) (hbb : ∀ x : Str, x ≠ "__name__" → mb x = bootBuiltins x) (hlim : s₁.heap.NoLimit) (hg : s₁.gens = #[])
    (T : Tr P w K s₁.heap H) (rv : Vals vs vals) (hr : Room k callerA) (hbind : Binds K fd ps [])
    (G : FnOk P w K mg (hidT s₁.heap H) CX0 k fa fd ps sp)
    (hsp : sp vs H (fun v H' => ∃ p, v = .ref p ∧ H' p = some (.lst (zs.map V.int))) E0) :
    codeAny (model P w) callerA (.call (.ref fa) ⟨vals, []⟩) (fun r s' => (∃ p its n, r = .ok (.ret (.ref p)) ∧ s'.heap.get? p = some { cls := .type "list", data := .seq its n } ∧ IntsAre its.toList zs) ∧ OldK s₁.heap s'.heap ∧ s'.os = s₁.os ∧ AllBare s'.gens) s₁ := by
  have base_of : ∀ {b : Addr} {o : Obj}, s₁.heap.get? b = some o → H b = none → (hidT s₁.heap H).get? b = some o := fun e n => hidT_get e n
  have noA : ∀ {b : Addr} {o : Obj} {es : Array DictEntry} {ep : Nat}, s₁.heap.get? b = some o → o.data = .dict es ep → H b = none := fun {b o es ep} e d => by
    cases q : H b with
    | none => rfl
    | some u =>
      obtain ⟨_, vs', e'⟩ := T.nk b (by rw [q]; simp)
      rw [e'] at e; cases e
      have d' : Data.seq vs'.toArray _ = Data.dict es ep := d
      cases d'
  have nsK : ∀ {b : Addr} {m : Str → Option Value}, s₁.heap.Ns b m → (hidT s₁.heap H).Ns b m := fun {b m} ⟨o, es, ep, e, d, r⟩ => ⟨o, es, ep, base_of e (noA e d), d, r⟩
  have hKb : K.In (hidT s₁.heap H) := fun b o e => base_of (KX b o e) (by
    cases q : H b with
    | none => rfl
    | some u =>
      obtain ⟨e', _⟩ := T.nk b (by rw [q]; simp)
      rw [e'] at e; cases e)
  have hM : Mod K mg (hidT s₁.heap H) := ⟨hKb, nsK hns, ⟨mb, nsK hb, hbb⟩, let ⟨mc, h1, h2⟩ := hlim; ⟨mc, nsK h1, h2⟩⟩
  have e0 : Env0 P w K mg (hidT s₁.heap H) callerA [] s₁ H := ⟨rfl, hM, fun b o e => of_hidT e, Nat.le_of_eq (hidT_size _ _), trivial, fun b hb => absurd (show b ∈ ([] : List Addr) from hb) (by simp), T.hok, .of_eq hg⟩
  have hl : (vals ++ []).length = ps.length := by rw [List.append_nil, ← rv.length]; exact G.len _ _ _ _ hsp
  have hb' := hbind s₁ vals KX hl
  rw [List.append_nil] at hb'
  refine codeAny_mono (G.run callerA [] s₁ H ⟨vals, []⟩ vals vs _ _ hr e0 hb' rv hsp) fun r s' h => ?_
  cases r with
  | error e => exact False.elim h
  | ok fl =>
    cases fl with
    | next => exact False.elim h
    | brk => exact False.elim h
    | cont => exact False.elim h
    | ret u =>
      obtain ⟨v, H', os, bare, un, hok', r', p, rfl, hp⟩ := h
      obtain rfl : u = Value.ref p := r'
      obtain ⟨_, its, n, ri, gi⟩ := hok' p _ hp
      refine ⟨⟨p, its.toArray, n, rfl, gi, by simpa using ints_of_vals ri⟩, OldK.of_keep fun b o e => ?_, os, bare⟩
      cases q : H b with
      | none => exact un.keep b o e q (by intro z; exact absurd (show b ∈ ([] : List Addr) from z) (by simp)) (by simp)
      | some u =>
        rcases T.only b with z | ⟨ob, xs, z⟩
        · rw [q] at z; cases z
        · have z2 := un.frzs b ob _ z
          obtain ⟨e1, _⟩ := T.hok b _ z
          obtain ⟨e2, _⟩ := hok' b _ z2
          rw [e] at e1; cases e1
          exact e2
end L2
namespace GP
open PySem PySem.Spec PyProof.Rows L2 L3
/-! ### what the top has written -/
def FnAt (K : PySem.W.Frag) (x qual : Str) (st : Stmt) (f : Addr) : Prop := ∃ (oc : Value) (od : Option Addr) (kV doc pm : Value) (an : Option Addr) (cdv ct : Value) (osl : Array (Option Value)),
  K.lookup f = some ⟨oc, od, .func (PySem.W.fnOf x qual (defArgs st) (defBody st) (defScope st) .none kV doc pm an cdv ct), osl⟩ ∧ PySem.W.codeIn K cdv qual = true ∧ PySem.W.keepIn K (.ref f) = true
theorem FnAt.mk {K : PySem.W.Frag} {x qual : Str} {st : Stmt} {f : Addr} {oc : Value} {od : Option Addr} {kV doc pm : Value} {an : Option Addr} {cdv ct : Value} {osl : Array (Option Value)} (l : K.lookup f = some ⟨oc, od, .func (PySem.W.fnOf x qual (defArgs st) (defBody st) (defScope st) .none kV doc pm an cdv ct), osl⟩) (c : PySem.W.codeIn K cdv qual = true) (k : PySem.W.keepIn K (.ref f) = true) : FnAt K x qual st f := ⟨_, _, _, _, _, _, _, _, _, l, c, k⟩
theorem FnAt.dfn {K : PySem.W.Frag} {x qual : Str} {st : Stmt} {f : Addr} {ps : List Str} (h : FnAt K x qual st f)
    (hb : ∀ (kV doc pm : Value) (an : Option Addr) (cdv ct : Value) (us : List Value), us.length = ps.length → bindArgs (PySem.W.fnOf x qual (defArgs st) (defBody st) (defScope st) .none kV doc pm an cdv ct) ⟨us, []⟩ = pure (ps.zip us)) : Dfn K x qual st ps f := by
  obtain ⟨oc, od, kV, doc, pm, an, cdv, ct, osl, l, c, k⟩ := h
  exact ⟨_, fun_mk l c k, (fun_mk l c k).binds hb⟩
theorem FnAt.kp {K : PySem.W.Frag} {x qual : Str} {st : Stmt} {f : Addr} (h : FnAt K x qual st f) : PySem.W.keepIn K (.ref f) = true := by
  obtain ⟨oc, od, kV, doc, pm, an, cdv, ct, osl, l, c, k⟩ := h
  exact k
def XObj (K : PySem.W.Frag) (C : Addr) (ms : List Addr) : Prop := ∃ (nm q : Str) (N : Addr) (bs : List Value) (sn : List Str) (sub : List Value) (ab : Bool) (col : Option Bool) (dd : Option Addr) (k0 k1 k2 k3 k5 : Option Value),
  K.lookup C = some (excClassObj nm q C N bs (bmX ms) true sn sub ab col dd k0 k1 k2 k3 k5 "Exception.__new__")
theorem XObj.mk {K : PySem.W.Frag} {C : Addr} {ms : List Addr} {nm q : Str} {N : Addr} {bs : List Value} {sn : List Str} {sub : List Value} {ab : Bool} {col : Option Bool} {dd : Option Addr} {k0 k1 k2 k3 k5 : Option Value} (l : K.lookup C = some (excClassObj nm q C N bs (bmX ms) true sn sub ab col dd k0 k1 k2 k3 k5 "Exception.__new__")) : XObj K C ms := ⟨_, _, _, _, _, _, _, _, _, _, _, _, _, _, l⟩
set_option maxHeartbeats 4000000 in
theorem txt_mk {K : PySem.W.Frag} {h : Heap} {mg : Str → Option Value} (X : K.In h) (G : h.Ns mainGlobals mg)
    {v_o_PRIMES v_unison v_common_factor v_is_interval v_upon v_raised v_ratio_of v_is_wider v_c_Instrument v_Instrument_init v_count_strings v_is_instrument v_sounds_with_each v_has_fret v_c_TextFault v_TextFault_init v_c_Reader v_Reader_init v_Reader_peek v_Reader_step v_is_digit v_expect v_read_number v_read_interval v_is_behind v_read_factors v_read_prime v_read_power v_read_whole v_factor_of v_write_interval v_write_factor v_read_instrument v_read_length v_read_line v_read_word v_read_fret v_read_course v_read_bass v_write_instrument v_write_lines v_c_Refusal v_Refusal_init v_c_TextTooLong v_TextTooLong_init v_c_NoInstrument v_NoInstrument_init v_c_OutOfBounds v_OutOfBounds_init v_c_NoPlace v_NoPlace_init v_c_NoneComes v_NoneComes_init v_instrument_of v_text_of v_check_interval v_check_tied_fret v_copied v_tie_fret v_tie : Addr}
    {u0_PRIMES : Tok} {u1_PRIMES : Tok} {u2_PRIMES : Tok} {u3_PRIMES : Tok} {un_PRIMES : Nat} {us_PRIMES : Array (Option Value)} {t_MOST_POWER : Tok} {t_MOST_DIVISOR : Tok} {t_LINE_END : Tok} {t_ZERO : Tok} {t_ONE : Tok} {t_NINE : Tok} {t_NO_BYTE : Tok} {t_CARET : Tok} {t_MINUS : Tok} {t_SLASH : Tok} {t_MOST_DIGITS : Tok} {t_LEAST_LENGTH : Tok} {t_MOST_LENGTH : Tok} {t_MOST_LENGTH_DIGITS : Tok} {t_MOST_FRETS : Tok} {t_MOST_STRINGS : Tok} {t_MOST_BYTES : Tok}
    (a_PRIMES : PySem.W.nsIn K mainGlobals "PRIMES" = some (some (.ref v_o_PRIMES)))
    (l_PRIMES : K.lookup v_o_PRIMES = some ⟨.type "tuple", none, .seq #[.int 2 u0_PRIMES, .int 3 u1_PRIMES, .int 5 u2_PRIMES, .int 7 u3_PRIMES] un_PRIMES, us_PRIMES⟩)
    (c_MOST_POWER : PySem.W.nsIn K mainGlobals "MOST_POWER" = some (some (.int 99 t_MOST_POWER)))
    (c_MOST_DIVISOR : PySem.W.nsIn K mainGlobals "MOST_DIVISOR" = some (some (.int 24 t_MOST_DIVISOR)))
    (a_unison : PySem.W.nsIn K mainGlobals "unison" = some (some (.ref v_unison)))
    (l_unison : FnAt K "unison" "unison" s_unison v_unison)
    (a_common_factor : PySem.W.nsIn K mainGlobals "common_factor" = some (some (.ref v_common_factor)))
    (l_common_factor : FnAt K "common_factor" "common_factor" s_common_factor v_common_factor)
    (a_is_interval : PySem.W.nsIn K mainGlobals "is_interval" = some (some (.ref v_is_interval)))
    (l_is_interval : FnAt K "is_interval" "is_interval" s_is_interval v_is_interval)
    (a_upon : PySem.W.nsIn K mainGlobals "upon" = some (some (.ref v_upon)))
    (l_upon : FnAt K "upon" "upon" s_upon v_upon)
    (a_raised : PySem.W.nsIn K mainGlobals "raised" = some (some (.ref v_raised)))
    (l_raised : FnAt K "raised" "raised" s_raised v_raised)
    (a_ratio_of : PySem.W.nsIn K mainGlobals "ratio_of" = some (some (.ref v_ratio_of)))
    (l_ratio_of : FnAt K "ratio_of" "ratio_of" s_ratio_of v_ratio_of)
    (a_is_wider : PySem.W.nsIn K mainGlobals "is_wider" = some (some (.ref v_is_wider)))
    (l_is_wider : FnAt K "is_wider" "is_wider" s_is_wider v_is_wider)
    (a_Instrument : PySem.W.nsIn K mainGlobals "Instrument" = some (some (.ref v_c_Instrument)))
    (a_Instrument_init : PySem.W.findIn K (.ref v_c_Instrument) "__init__" = some (some (.ref v_Instrument_init)))
    (l_Instrument_init : FnAt K "__init__" "Instrument.__init__" s_Instrument_init v_Instrument_init)
    (i_Instrument_init : PySem.W.isFn K (.ref v_Instrument_init) = true)
    (k_Instrument : PySem.W.keepIn K (.ref v_c_Instrument) = true)
    (pg_Instrument : PySem.W.plainGet K v_c_Instrument Str.empty = true)
    (hd_Instrument : PySem.W.hasDictIn K v_c_Instrument = true)
    (po_Instrument : PySem.W.plainOver K v_c_Instrument = true)
    (sa_Instrument : PySem.W.findIn K (.ref v_c_Instrument) "__setattr__" = some (some (.builtin "object.__setattr__")))
    (mk_Instrument : PySem.W.makesIn K v_c_Instrument = true)
    (n_Instrument_length : PySem.W.findIn K (.ref v_c_Instrument) "length" = some none)
    (n_Instrument_frets : PySem.W.findIn K (.ref v_c_Instrument) "frets" = some none)
    (n_Instrument_courses : PySem.W.findIn K (.ref v_c_Instrument) "courses" = some none)
    (n_Instrument_basses : PySem.W.findIn K (.ref v_c_Instrument) "basses" = some none)
    (a_count_strings : PySem.W.nsIn K mainGlobals "count_strings" = some (some (.ref v_count_strings)))
    (l_count_strings : FnAt K "count_strings" "count_strings" s_count_strings v_count_strings)
    (a_is_instrument : PySem.W.nsIn K mainGlobals "is_instrument" = some (some (.ref v_is_instrument)))
    (l_is_instrument : FnAt K "is_instrument" "is_instrument" s_is_instrument v_is_instrument)
    (a_sounds_with_each : PySem.W.nsIn K mainGlobals "sounds_with_each" = some (some (.ref v_sounds_with_each)))
    (l_sounds_with_each : FnAt K "sounds_with_each" "sounds_with_each" s_sounds_with_each v_sounds_with_each)
    (a_has_fret : PySem.W.nsIn K mainGlobals "has_fret" = some (some (.ref v_has_fret)))
    (l_has_fret : FnAt K "has_fret" "has_fret" s_has_fret v_has_fret)
    (c_LINE_END : PySem.W.nsIn K mainGlobals "LINE_END" = some (some (.int 10 t_LINE_END)))
    (c_ZERO : PySem.W.nsIn K mainGlobals "ZERO" = some (some (.int 48 t_ZERO)))
    (c_ONE : PySem.W.nsIn K mainGlobals "ONE" = some (some (.int 49 t_ONE)))
    (c_NINE : PySem.W.nsIn K mainGlobals "NINE" = some (some (.int 57 t_NINE)))
    (c_NO_BYTE : PySem.W.nsIn K mainGlobals "NO_BYTE" = some (some (.int 256 t_NO_BYTE)))
    (a_TextFault : PySem.W.nsIn K mainGlobals "TextFault" = some (some (.ref v_c_TextFault)))
    (a_TextFault_init : PySem.W.findIn K (.ref v_c_TextFault) "__init__" = some (some (.ref v_TextFault_init)))
    (l_TextFault_init : FnAt K "__init__" "TextFault.__init__" s_TextFault_init v_TextFault_init)
    (i_TextFault_init : PySem.W.isFn K (.ref v_TextFault_init) = true)
    (k_TextFault : PySem.W.keepIn K (.ref v_c_TextFault) = true)
    (o_TextFault : XObj K v_c_TextFault [])
    (ga_TextFault : PySem.W.findIn K (.ref v_c_TextFault) "__getattribute__" = some (some (.builtin "BaseException.__getattribute__")))
    (gh_TextFault : PySem.W.findIn K (.ref v_c_TextFault) "__getattr__" = some none)
    (sa_TextFault : PySem.W.findIn K (.ref v_c_TextFault) "__setattr__" = some (some (.builtin "object.__setattr__")))
    (n_TextFault_place : PySem.W.findIn K (.ref v_c_TextFault) "place" = some none)
    (a_Reader : PySem.W.nsIn K mainGlobals "Reader" = some (some (.ref v_c_Reader)))
    (a_Reader_init : PySem.W.findIn K (.ref v_c_Reader) "__init__" = some (some (.ref v_Reader_init)))
    (l_Reader_init : FnAt K "__init__" "Reader.__init__" s_Reader_init v_Reader_init)
    (i_Reader_init : PySem.W.isFn K (.ref v_Reader_init) = true)
    (a_Reader_peek : PySem.W.findIn K (.ref v_c_Reader) "peek" = some (some (.ref v_Reader_peek)))
    (l_Reader_peek : FnAt K "peek" "Reader.peek" s_Reader_peek v_Reader_peek)
    (i_Reader_peek : PySem.W.isFn K (.ref v_Reader_peek) = true)
    (a_Reader_step : PySem.W.findIn K (.ref v_c_Reader) "step" = some (some (.ref v_Reader_step)))
    (l_Reader_step : FnAt K "step" "Reader.step" s_Reader_step v_Reader_step)
    (i_Reader_step : PySem.W.isFn K (.ref v_Reader_step) = true)
    (k_Reader : PySem.W.keepIn K (.ref v_c_Reader) = true)
    (pg_Reader : PySem.W.plainGet K v_c_Reader Str.empty = true)
    (hd_Reader : PySem.W.hasDictIn K v_c_Reader = true)
    (po_Reader : PySem.W.plainOver K v_c_Reader = true)
    (sa_Reader : PySem.W.findIn K (.ref v_c_Reader) "__setattr__" = some (some (.builtin "object.__setattr__")))
    (mk_Reader : PySem.W.makesIn K v_c_Reader = true)
    (n_Reader_t : PySem.W.findIn K (.ref v_c_Reader) "t" = some none)
    (n_Reader_place : PySem.W.findIn K (.ref v_c_Reader) "place" = some none)
    (a_is_digit : PySem.W.nsIn K mainGlobals "is_digit" = some (some (.ref v_is_digit)))
    (l_is_digit : FnAt K "is_digit" "is_digit" s_is_digit v_is_digit)
    (a_expect : PySem.W.nsIn K mainGlobals "expect" = some (some (.ref v_expect)))
    (l_expect : FnAt K "expect" "expect" s_expect v_expect)
    (a_read_number : PySem.W.nsIn K mainGlobals "read_number" = some (some (.ref v_read_number)))
    (l_read_number : FnAt K "read_number" "read_number" s_read_number v_read_number)
    (c_CARET : PySem.W.nsIn K mainGlobals "CARET" = some (some (.int 94 t_CARET)))
    (c_MINUS : PySem.W.nsIn K mainGlobals "MINUS" = some (some (.int 45 t_MINUS)))
    (c_SLASH : PySem.W.nsIn K mainGlobals "SLASH" = some (some (.int 47 t_SLASH)))
    (c_MOST_DIGITS : PySem.W.nsIn K mainGlobals "MOST_DIGITS" = some (some (.int 4 t_MOST_DIGITS)))
    (a_read_interval : PySem.W.nsIn K mainGlobals "read_interval" = some (some (.ref v_read_interval)))
    (l_read_interval : FnAt K "read_interval" "read_interval" s_read_interval v_read_interval)
    (a_is_behind : PySem.W.nsIn K mainGlobals "is_behind" = some (some (.ref v_is_behind)))
    (l_is_behind : FnAt K "is_behind" "is_behind" s_is_behind v_is_behind)
    (a_read_factors : PySem.W.nsIn K mainGlobals "read_factors" = some (some (.ref v_read_factors)))
    (l_read_factors : FnAt K "read_factors" "read_factors" s_read_factors v_read_factors)
    (a_read_prime : PySem.W.nsIn K mainGlobals "read_prime" = some (some (.ref v_read_prime)))
    (l_read_prime : FnAt K "read_prime" "read_prime" s_read_prime v_read_prime)
    (a_read_power : PySem.W.nsIn K mainGlobals "read_power" = some (some (.ref v_read_power)))
    (l_read_power : FnAt K "read_power" "read_power" s_read_power v_read_power)
    (a_read_whole : PySem.W.nsIn K mainGlobals "read_whole" = some (some (.ref v_read_whole)))
    (l_read_whole : FnAt K "read_whole" "read_whole" s_read_whole v_read_whole)
    (a_factor_of : PySem.W.nsIn K mainGlobals "factor_of" = some (some (.ref v_factor_of)))
    (l_factor_of : FnAt K "factor_of" "factor_of" s_factor_of v_factor_of)
    (a_write_interval : PySem.W.nsIn K mainGlobals "write_interval" = some (some (.ref v_write_interval)))
    (l_write_interval : FnAt K "write_interval" "write_interval" s_write_interval v_write_interval)
    (a_write_factor : PySem.W.nsIn K mainGlobals "write_factor" = some (some (.ref v_write_factor)))
    (l_write_factor : FnAt K "write_factor" "write_factor" s_write_factor v_write_factor)
    (c_LEAST_LENGTH : PySem.W.nsIn K mainGlobals "LEAST_LENGTH" = some (some (.int 10000 t_LEAST_LENGTH)))
    (c_MOST_LENGTH : PySem.W.nsIn K mainGlobals "MOST_LENGTH" = some (some (.int 200000 t_MOST_LENGTH)))
    (c_MOST_LENGTH_DIGITS : PySem.W.nsIn K mainGlobals "MOST_LENGTH_DIGITS" = some (some (.int 7 t_MOST_LENGTH_DIGITS)))
    (c_MOST_FRETS : PySem.W.nsIn K mainGlobals "MOST_FRETS" = some (some (.int 15 t_MOST_FRETS)))
    (c_MOST_STRINGS : PySem.W.nsIn K mainGlobals "MOST_STRINGS" = some (some (.int 14 t_MOST_STRINGS)))
    (a_read_instrument : PySem.W.nsIn K mainGlobals "read_instrument" = some (some (.ref v_read_instrument)))
    (l_read_instrument : FnAt K "read_instrument" "read_instrument" s_read_instrument v_read_instrument)
    (a_read_length : PySem.W.nsIn K mainGlobals "read_length" = some (some (.ref v_read_length)))
    (l_read_length : FnAt K "read_length" "read_length" s_read_length v_read_length)
    (a_read_line : PySem.W.nsIn K mainGlobals "read_line" = some (some (.ref v_read_line)))
    (l_read_line : FnAt K "read_line" "read_line" s_read_line v_read_line)
    (a_read_word : PySem.W.nsIn K mainGlobals "read_word" = some (some (.ref v_read_word)))
    (l_read_word : FnAt K "read_word" "read_word" s_read_word v_read_word)
    (a_read_fret : PySem.W.nsIn K mainGlobals "read_fret" = some (some (.ref v_read_fret)))
    (l_read_fret : FnAt K "read_fret" "read_fret" s_read_fret v_read_fret)
    (a_read_course : PySem.W.nsIn K mainGlobals "read_course" = some (some (.ref v_read_course)))
    (l_read_course : FnAt K "read_course" "read_course" s_read_course v_read_course)
    (a_read_bass : PySem.W.nsIn K mainGlobals "read_bass" = some (some (.ref v_read_bass)))
    (l_read_bass : FnAt K "read_bass" "read_bass" s_read_bass v_read_bass)
    (a_write_instrument : PySem.W.nsIn K mainGlobals "write_instrument" = some (some (.ref v_write_instrument)))
    (l_write_instrument : FnAt K "write_instrument" "write_instrument" s_write_instrument v_write_instrument)
    (a_write_lines : PySem.W.nsIn K mainGlobals "write_lines" = some (some (.ref v_write_lines)))
    (l_write_lines : FnAt K "write_lines" "write_lines" s_write_lines v_write_lines)
    (a_Refusal : PySem.W.nsIn K mainGlobals "Refusal" = some (some (.ref v_c_Refusal)))
    (a_Refusal_init : PySem.W.findIn K (.ref v_c_Refusal) "__init__" = some (some (.ref v_Refusal_init)))
    (l_Refusal_init : FnAt K "__init__" "Refusal.__init__" s_Refusal_init v_Refusal_init)
    (i_Refusal_init : PySem.W.isFn K (.ref v_Refusal_init) = true)
    (k_Refusal : PySem.W.keepIn K (.ref v_c_Refusal) = true)
    (o_Refusal : XObj K v_c_Refusal [])
    (ga_Refusal : PySem.W.findIn K (.ref v_c_Refusal) "__getattribute__" = some (some (.builtin "BaseException.__getattribute__")))
    (gh_Refusal : PySem.W.findIn K (.ref v_c_Refusal) "__getattr__" = some none)
    (sa_Refusal : PySem.W.findIn K (.ref v_c_Refusal) "__setattr__" = some (some (.builtin "object.__setattr__")))
    (n_Refusal_number : PySem.W.findIn K (.ref v_c_Refusal) "number" = some none)
    (n_Refusal_place : PySem.W.findIn K (.ref v_c_Refusal) "place" = some none)
    (cs_Refusal : PySem.W.specialIn K (.ref v_c_Refusal) "__getattribute__" = some (some (.builtin "type.__getattribute__")))
    (cr_Refusal : PySem.W.readsIn K v_c_Refusal (.type "type") = true)
    (cf_Refusal : PySem.W.findCls K (.ref v_c_Refusal) (.type "type") "__init__" = some (.val (.ref v_Refusal_init)))
    (a_TextTooLong : PySem.W.nsIn K mainGlobals "TextTooLong" = some (some (.ref v_c_TextTooLong)))
    (a_TextTooLong_init : PySem.W.findIn K (.ref v_c_TextTooLong) "__init__" = some (some (.ref v_TextTooLong_init)))
    (l_TextTooLong_init : FnAt K "__init__" "TextTooLong.__init__" s_TextTooLong_init v_TextTooLong_init)
    (i_TextTooLong_init : PySem.W.isFn K (.ref v_TextTooLong_init) = true)
    (k_TextTooLong : PySem.W.keepIn K (.ref v_c_TextTooLong) = true)
    (o_TextTooLong : XObj K v_c_TextTooLong [v_c_Refusal])
    (ga_TextTooLong : PySem.W.findIn K (.ref v_c_TextTooLong) "__getattribute__" = some (some (.builtin "BaseException.__getattribute__")))
    (gh_TextTooLong : PySem.W.findIn K (.ref v_c_TextTooLong) "__getattr__" = some none)
    (sa_TextTooLong : PySem.W.findIn K (.ref v_c_TextTooLong) "__setattr__" = some (some (.builtin "object.__setattr__")))
    (n_TextTooLong_number : PySem.W.findIn K (.ref v_c_TextTooLong) "number" = some none)
    (n_TextTooLong_place : PySem.W.findIn K (.ref v_c_TextTooLong) "place" = some none)
    (a_NoInstrument : PySem.W.nsIn K mainGlobals "NoInstrument" = some (some (.ref v_c_NoInstrument)))
    (a_NoInstrument_init : PySem.W.findIn K (.ref v_c_NoInstrument) "__init__" = some (some (.ref v_NoInstrument_init)))
    (l_NoInstrument_init : FnAt K "__init__" "NoInstrument.__init__" s_NoInstrument_init v_NoInstrument_init)
    (i_NoInstrument_init : PySem.W.isFn K (.ref v_NoInstrument_init) = true)
    (k_NoInstrument : PySem.W.keepIn K (.ref v_c_NoInstrument) = true)
    (o_NoInstrument : XObj K v_c_NoInstrument [v_c_Refusal])
    (ga_NoInstrument : PySem.W.findIn K (.ref v_c_NoInstrument) "__getattribute__" = some (some (.builtin "BaseException.__getattribute__")))
    (gh_NoInstrument : PySem.W.findIn K (.ref v_c_NoInstrument) "__getattr__" = some none)
    (sa_NoInstrument : PySem.W.findIn K (.ref v_c_NoInstrument) "__setattr__" = some (some (.builtin "object.__setattr__")))
    (n_NoInstrument_number : PySem.W.findIn K (.ref v_c_NoInstrument) "number" = some none)
    (n_NoInstrument_place : PySem.W.findIn K (.ref v_c_NoInstrument) "place" = some none)
    (a_OutOfBounds : PySem.W.nsIn K mainGlobals "OutOfBounds" = some (some (.ref v_c_OutOfBounds)))
    (a_OutOfBounds_init : PySem.W.findIn K (.ref v_c_OutOfBounds) "__init__" = some (some (.ref v_OutOfBounds_init)))
    (l_OutOfBounds_init : FnAt K "__init__" "OutOfBounds.__init__" s_OutOfBounds_init v_OutOfBounds_init)
    (i_OutOfBounds_init : PySem.W.isFn K (.ref v_OutOfBounds_init) = true)
    (k_OutOfBounds : PySem.W.keepIn K (.ref v_c_OutOfBounds) = true)
    (o_OutOfBounds : XObj K v_c_OutOfBounds [v_c_Refusal])
    (ga_OutOfBounds : PySem.W.findIn K (.ref v_c_OutOfBounds) "__getattribute__" = some (some (.builtin "BaseException.__getattribute__")))
    (gh_OutOfBounds : PySem.W.findIn K (.ref v_c_OutOfBounds) "__getattr__" = some none)
    (sa_OutOfBounds : PySem.W.findIn K (.ref v_c_OutOfBounds) "__setattr__" = some (some (.builtin "object.__setattr__")))
    (n_OutOfBounds_number : PySem.W.findIn K (.ref v_c_OutOfBounds) "number" = some none)
    (n_OutOfBounds_place : PySem.W.findIn K (.ref v_c_OutOfBounds) "place" = some none)
    (a_NoPlace : PySem.W.nsIn K mainGlobals "NoPlace" = some (some (.ref v_c_NoPlace)))
    (a_NoPlace_init : PySem.W.findIn K (.ref v_c_NoPlace) "__init__" = some (some (.ref v_NoPlace_init)))
    (l_NoPlace_init : FnAt K "__init__" "NoPlace.__init__" s_NoPlace_init v_NoPlace_init)
    (i_NoPlace_init : PySem.W.isFn K (.ref v_NoPlace_init) = true)
    (k_NoPlace : PySem.W.keepIn K (.ref v_c_NoPlace) = true)
    (o_NoPlace : XObj K v_c_NoPlace [v_c_Refusal])
    (ga_NoPlace : PySem.W.findIn K (.ref v_c_NoPlace) "__getattribute__" = some (some (.builtin "BaseException.__getattribute__")))
    (gh_NoPlace : PySem.W.findIn K (.ref v_c_NoPlace) "__getattr__" = some none)
    (sa_NoPlace : PySem.W.findIn K (.ref v_c_NoPlace) "__setattr__" = some (some (.builtin "object.__setattr__")))
    (n_NoPlace_number : PySem.W.findIn K (.ref v_c_NoPlace) "number" = some none)
    (n_NoPlace_place : PySem.W.findIn K (.ref v_c_NoPlace) "place" = some none)
    (a_NoneComes : PySem.W.nsIn K mainGlobals "NoneComes" = some (some (.ref v_c_NoneComes)))
    (a_NoneComes_init : PySem.W.findIn K (.ref v_c_NoneComes) "__init__" = some (some (.ref v_NoneComes_init)))
    (l_NoneComes_init : FnAt K "__init__" "NoneComes.__init__" s_NoneComes_init v_NoneComes_init)
    (i_NoneComes_init : PySem.W.isFn K (.ref v_NoneComes_init) = true)
    (k_NoneComes : PySem.W.keepIn K (.ref v_c_NoneComes) = true)
    (o_NoneComes : XObj K v_c_NoneComes [v_c_Refusal])
    (ga_NoneComes : PySem.W.findIn K (.ref v_c_NoneComes) "__getattribute__" = some (some (.builtin "BaseException.__getattribute__")))
    (gh_NoneComes : PySem.W.findIn K (.ref v_c_NoneComes) "__getattr__" = some none)
    (sa_NoneComes : PySem.W.findIn K (.ref v_c_NoneComes) "__setattr__" = some (some (.builtin "object.__setattr__")))
    (n_NoneComes_number : PySem.W.findIn K (.ref v_c_NoneComes) "number" = some none)
    (n_NoneComes_place : PySem.W.findIn K (.ref v_c_NoneComes) "place" = some none)
    (c_MOST_BYTES : PySem.W.nsIn K mainGlobals "MOST_BYTES" = some (some (.int 4096 t_MOST_BYTES)))
    (a_instrument_of : PySem.W.nsIn K mainGlobals "instrument_of" = some (some (.ref v_instrument_of)))
    (l_instrument_of : FnAt K "instrument_of" "instrument_of" s_instrument_of v_instrument_of)
    (a_text_of : PySem.W.nsIn K mainGlobals "text_of" = some (some (.ref v_text_of)))
    (l_text_of : FnAt K "text_of" "text_of" s_text_of v_text_of)
    (a_check_interval : PySem.W.nsIn K mainGlobals "check_interval" = some (some (.ref v_check_interval)))
    (l_check_interval : FnAt K "check_interval" "check_interval" s_check_interval v_check_interval)
    (a_check_tied_fret : PySem.W.nsIn K mainGlobals "check_tied_fret" = some (some (.ref v_check_tied_fret)))
    (l_check_tied_fret : FnAt K "check_tied_fret" "check_tied_fret" s_check_tied_fret v_check_tied_fret)
    (a_copied : PySem.W.nsIn K mainGlobals "copied" = some (some (.ref v_copied)))
    (l_copied : FnAt K "copied" "copied" s_copied v_copied)
    (a_tie_fret : PySem.W.nsIn K mainGlobals "tie_fret" = some (some (.ref v_tie_fret)))
    (l_tie_fret : FnAt K "tie_fret" "tie_fret" s_tie_fret v_tie_fret)
    (a_tie : PySem.W.nsIn K mainGlobals "tie" = some (some (.ref v_tie)))
    (l_tie : FnAt K "tie" "tie" s_tie v_tie)
    (x_ne : [v_c_TextFault, v_c_Refusal, v_c_TextTooLong, v_c_NoInstrument, v_c_OutOfBounds, v_c_NoPlace, v_c_NoneComes].Nodup)
    (b_len : PySem.W.nsIn K mainGlobals "len" = some none)
    (b_abs : PySem.W.nsIn K mainGlobals "abs" = some none)
    (b_ord : PySem.W.nsIn K mainGlobals "ord" = some none)
    (b_range : PySem.W.nsIn K mainGlobals "range" = some none)
    : ∃ a, Txt K mg a := by
  refine ⟨⟨v_o_PRIMES, v_unison, v_common_factor, v_is_interval, v_upon, v_raised, v_ratio_of, v_is_wider, v_c_Instrument, v_Instrument_init, v_count_strings, v_is_instrument, v_sounds_with_each, v_has_fret, v_c_TextFault, v_TextFault_init, v_c_Reader, v_Reader_init, v_Reader_peek, v_Reader_step, v_is_digit, v_expect, v_read_number, v_read_interval, v_is_behind, v_read_factors, v_read_prime, v_read_power, v_read_whole, v_factor_of, v_write_interval, v_write_factor, v_read_instrument, v_read_length, v_read_line, v_read_word, v_read_fret, v_read_course, v_read_bass, v_write_instrument, v_write_lines, v_c_Refusal, v_Refusal_init, v_c_TextTooLong, v_TextTooLong_init, v_c_NoInstrument, v_NoInstrument_init, v_c_OutOfBounds, v_OutOfBounds_init, v_c_NoPlace, v_NoPlace_init, v_c_NoneComes, v_NoneComes_init, v_instrument_of, v_text_of, v_check_interval, v_check_tied_fret, v_copied, v_tie_fret, v_tie⟩, ?_⟩
  exact {
    g_PRIMES := PySem.W.mg_of X G a_PRIMES
    ty_PRIMES := ⟨_, l_PRIMES, rfl, rfl⟩
    t_PRIMES := fun H => .inr ⟨_, _, _, l_PRIMES, rfl, rfl, by show 4 ≤ sizeLine; decide, .cons ⟨_, rfl⟩ (.cons ⟨_, rfl⟩ (.cons ⟨_, rfl⟩ (.cons ⟨_, rfl⟩ .nil)))⟩
    c_MOST_POWER := ⟨_, PySem.W.mg_of X G c_MOST_POWER⟩
    c_MOST_DIVISOR := ⟨_, PySem.W.mg_of X G c_MOST_DIVISOR⟩
    d_unison := l_unison.dfn (ps := []) fun _ _ _ _ _ _ us hl => match us, hl with | [], _ => rfl
    g_unison := PySem.W.mg_of X G a_unison
    d_common_factor := l_common_factor.dfn (ps := ["numbers"]) fun _ _ _ _ _ _ us hl => match us, hl with | [_], _ => rfl
    g_common_factor := PySem.W.mg_of X G a_common_factor
    d_is_interval := l_is_interval.dfn (ps := ["x"]) fun _ _ _ _ _ _ us hl => match us, hl with | [_], _ => rfl
    g_is_interval := PySem.W.mg_of X G a_is_interval
    d_upon := l_upon.dfn (ps := ["x", "y"]) fun _ _ _ _ _ _ us hl => match us, hl with | [_, _], _ => rfl
    g_upon := PySem.W.mg_of X G a_upon
    d_raised := l_raised.dfn (ps := ["base", "power"]) fun _ _ _ _ _ _ us hl => match us, hl with | [_, _], _ => rfl
    g_raised := PySem.W.mg_of X G a_raised
    d_ratio_of := l_ratio_of.dfn (ps := ["powers"]) fun _ _ _ _ _ _ us hl => match us, hl with | [_], _ => rfl
    g_ratio_of := PySem.W.mg_of X G a_ratio_of
    d_is_wider := l_is_wider.dfn (ps := ["x", "y"]) fun _ _ _ _ _ _ us hl => match us, hl with | [_, _], _ => rfl
    g_is_wider := PySem.W.mg_of X G a_is_wider
    g_Instrument := PySem.W.mg_of X G a_Instrument
    d_Instrument_init := l_Instrument_init.dfn (ps := ["self", "length"]) fun _ _ _ _ _ _ us hl => match us, hl with | [_, _], _ => rfl
    cl_Instrument := ⟨pg_Instrument, hd_Instrument, po_Instrument, sa_Instrument⟩
    mk_Instrument := ⟨mk_Instrument, a_Instrument_init, i_Instrument_init, k_Instrument⟩
    n_Instrument_length := n_Instrument_length
    n_Instrument_frets := n_Instrument_frets
    n_Instrument_courses := n_Instrument_courses
    n_Instrument_basses := n_Instrument_basses
    d_count_strings := l_count_strings.dfn (ps := ["instrument"]) fun _ _ _ _ _ _ us hl => match us, hl with | [_], _ => rfl
    g_count_strings := PySem.W.mg_of X G a_count_strings
    d_is_instrument := l_is_instrument.dfn (ps := ["instrument"]) fun _ _ _ _ _ _ us hl => match us, hl with | [_], _ => rfl
    g_is_instrument := PySem.W.mg_of X G a_is_instrument
    d_sounds_with_each := l_sounds_with_each.dfn (ps := ["x", "frets"]) fun _ _ _ _ _ _ us hl => match us, hl with | [_, _], _ => rfl
    g_sounds_with_each := PySem.W.mg_of X G a_sounds_with_each
    d_has_fret := l_has_fret.dfn (ps := ["instrument", "f"]) fun _ _ _ _ _ _ us hl => match us, hl with | [_, _], _ => rfl
    g_has_fret := PySem.W.mg_of X G a_has_fret
    c_LINE_END := ⟨_, PySem.W.mg_of X G c_LINE_END⟩
    c_ZERO := ⟨_, PySem.W.mg_of X G c_ZERO⟩
    c_ONE := ⟨_, PySem.W.mg_of X G c_ONE⟩
    c_NINE := ⟨_, PySem.W.mg_of X G c_NINE⟩
    c_NO_BYTE := ⟨_, PySem.W.mg_of X G c_NO_BYTE⟩
    g_TextFault := PySem.W.mg_of X G a_TextFault
    d_TextFault_init := l_TextFault_init.dfn (ps := ["self", "place"]) fun _ _ _ _ _ _ us hl => match us, hl with | [_, _], _ => rfl
    x_TextFault := ⟨o_TextFault, a_TextFault_init, ga_TextFault, gh_TextFault, sa_TextFault, i_TextFault_init, k_TextFault⟩
    n_TextFault_place := n_TextFault_place
    g_Reader := PySem.W.mg_of X G a_Reader
    d_Reader_init := l_Reader_init.dfn (ps := ["self", "t"]) fun _ _ _ _ _ _ us hl => match us, hl with | [_, _], _ => rfl
    d_Reader_peek := l_Reader_peek.dfn (ps := ["self"]) fun _ _ _ _ _ _ us hl => match us, hl with | [_], _ => rfl
    m_Reader_peek := ⟨a_Reader_peek, i_Reader_peek, l_Reader_peek.kp⟩
    d_Reader_step := l_Reader_step.dfn (ps := ["self"]) fun _ _ _ _ _ _ us hl => match us, hl with | [_], _ => rfl
    m_Reader_step := ⟨a_Reader_step, i_Reader_step, l_Reader_step.kp⟩
    cl_Reader := ⟨pg_Reader, hd_Reader, po_Reader, sa_Reader⟩
    mk_Reader := ⟨mk_Reader, a_Reader_init, i_Reader_init, k_Reader⟩
    n_Reader_t := n_Reader_t
    n_Reader_place := n_Reader_place
    d_is_digit := l_is_digit.dfn (ps := ["byte"]) fun _ _ _ _ _ _ us hl => match us, hl with | [_], _ => rfl
    g_is_digit := PySem.W.mg_of X G a_is_digit
    d_expect := l_expect.dfn (ps := ["reader", "word"]) fun _ _ _ _ _ _ us hl => match us, hl with | [_, _], _ => rfl
    g_expect := PySem.W.mg_of X G a_expect
    d_read_number := l_read_number.dfn (ps := ["reader", "lowest", "most_digits"]) fun _ _ _ _ _ _ us hl => match us, hl with | [_, _, _], _ => rfl
    g_read_number := PySem.W.mg_of X G a_read_number
    c_CARET := ⟨_, PySem.W.mg_of X G c_CARET⟩
    c_MINUS := ⟨_, PySem.W.mg_of X G c_MINUS⟩
    c_SLASH := ⟨_, PySem.W.mg_of X G c_SLASH⟩
    c_MOST_DIGITS := ⟨_, PySem.W.mg_of X G c_MOST_DIGITS⟩
    d_read_interval := l_read_interval.dfn (ps := ["reader"]) fun _ _ _ _ _ _ us hl => match us, hl with | [_], _ => rfl
    g_read_interval := PySem.W.mg_of X G a_read_interval
    d_is_behind := l_is_behind.dfn (ps := ["reader"]) fun _ _ _ _ _ _ us hl => match us, hl with | [_], _ => rfl
    g_is_behind := PySem.W.mg_of X G a_is_behind
    d_read_factors := l_read_factors.dfn (ps := ["reader"]) fun _ _ _ _ _ _ us hl => match us, hl with | [_], _ => rfl
    g_read_factors := PySem.W.mg_of X G a_read_factors
    d_read_prime := l_read_prime.dfn (ps := ["reader"]) fun _ _ _ _ _ _ us hl => match us, hl with | [_], _ => rfl
    g_read_prime := PySem.W.mg_of X G a_read_prime
    d_read_power := l_read_power.dfn (ps := ["reader", "start", "position"]) fun _ _ _ _ _ _ us hl => match us, hl with | [_, _, _], _ => rfl
    g_read_power := PySem.W.mg_of X G a_read_power
    d_read_whole := l_read_whole.dfn (ps := ["reader"]) fun _ _ _ _ _ _ us hl => match us, hl with | [_], _ => rfl
    g_read_whole := PySem.W.mg_of X G a_read_whole
    d_factor_of := l_factor_of.dfn (ps := ["position", "n", "d"]) fun _ _ _ _ _ _ us hl => match us, hl with | [_, _, _], _ => rfl
    g_factor_of := PySem.W.mg_of X G a_factor_of
    d_write_interval := l_write_interval.dfn (ps := ["x"]) fun _ _ _ _ _ _ us hl => match us, hl with | [_], _ => rfl
    g_write_interval := PySem.W.mg_of X G a_write_interval
    d_write_factor := l_write_factor.dfn (ps := ["prime", "n", "d"]) fun _ _ _ _ _ _ us hl => match us, hl with | [_, _, _], _ => rfl
    g_write_factor := PySem.W.mg_of X G a_write_factor
    c_LEAST_LENGTH := ⟨_, PySem.W.mg_of X G c_LEAST_LENGTH⟩
    c_MOST_LENGTH := ⟨_, PySem.W.mg_of X G c_MOST_LENGTH⟩
    c_MOST_LENGTH_DIGITS := ⟨_, PySem.W.mg_of X G c_MOST_LENGTH_DIGITS⟩
    c_MOST_FRETS := ⟨_, PySem.W.mg_of X G c_MOST_FRETS⟩
    c_MOST_STRINGS := ⟨_, PySem.W.mg_of X G c_MOST_STRINGS⟩
    d_read_instrument := l_read_instrument.dfn (ps := ["t"]) fun _ _ _ _ _ _ us hl => match us, hl with | [_], _ => rfl
    g_read_instrument := PySem.W.mg_of X G a_read_instrument
    d_read_length := l_read_length.dfn (ps := ["reader"]) fun _ _ _ _ _ _ us hl => match us, hl with | [_], _ => rfl
    g_read_length := PySem.W.mg_of X G a_read_length
    d_read_line := l_read_line.dfn (ps := ["reader", "instrument"]) fun _ _ _ _ _ _ us hl => match us, hl with | [_, _], _ => rfl
    g_read_line := PySem.W.mg_of X G a_read_line
    d_read_word := l_read_word.dfn (ps := ["reader", "word", "is_one_too_many"]) fun _ _ _ _ _ _ us hl => match us, hl with | [_, _, _], _ => rfl
    g_read_word := PySem.W.mg_of X G a_read_word
    d_read_fret := l_read_fret.dfn (ps := ["reader", "instrument"]) fun _ _ _ _ _ _ us hl => match us, hl with | [_, _], _ => rfl
    g_read_fret := PySem.W.mg_of X G a_read_fret
    d_read_course := l_read_course.dfn (ps := ["reader", "instrument"]) fun _ _ _ _ _ _ us hl => match us, hl with | [_, _], _ => rfl
    g_read_course := PySem.W.mg_of X G a_read_course
    d_read_bass := l_read_bass.dfn (ps := ["reader", "instrument"]) fun _ _ _ _ _ _ us hl => match us, hl with | [_, _], _ => rfl
    g_read_bass := PySem.W.mg_of X G a_read_bass
    d_write_instrument := l_write_instrument.dfn (ps := ["instrument"]) fun _ _ _ _ _ _ us hl => match us, hl with | [_], _ => rfl
    g_write_instrument := PySem.W.mg_of X G a_write_instrument
    d_write_lines := l_write_lines.dfn (ps := ["word", "intervals"]) fun _ _ _ _ _ _ us hl => match us, hl with | [_, _], _ => rfl
    g_write_lines := PySem.W.mg_of X G a_write_lines
    g_Refusal := PySem.W.mg_of X G a_Refusal
    d_Refusal_init := l_Refusal_init.dfn (ps := ["self", "number"]) fun _ _ _ _ _ _ us hl => match us, hl with | [_, _], _ => rfl
    x_Refusal := ⟨o_Refusal, a_Refusal_init, ga_Refusal, gh_Refusal, sa_Refusal, i_Refusal_init, k_Refusal⟩
    n_Refusal_number := n_Refusal_number
    n_Refusal_place := n_Refusal_place
    cm_Refusal := ⟨cs_Refusal, cr_Refusal, cf_Refusal, l_Refusal_init.kp⟩
    g_TextTooLong := PySem.W.mg_of X G a_TextTooLong
    d_TextTooLong_init := l_TextTooLong_init.dfn (ps := ["self"]) fun _ _ _ _ _ _ us hl => match us, hl with | [_], _ => rfl
    x_TextTooLong := ⟨o_TextTooLong, a_TextTooLong_init, ga_TextTooLong, gh_TextTooLong, sa_TextTooLong, i_TextTooLong_init, k_TextTooLong⟩
    n_TextTooLong_number := n_TextTooLong_number
    n_TextTooLong_place := n_TextTooLong_place
    g_NoInstrument := PySem.W.mg_of X G a_NoInstrument
    d_NoInstrument_init := l_NoInstrument_init.dfn (ps := ["self", "place"]) fun _ _ _ _ _ _ us hl => match us, hl with | [_, _], _ => rfl
    x_NoInstrument := ⟨o_NoInstrument, a_NoInstrument_init, ga_NoInstrument, gh_NoInstrument, sa_NoInstrument, i_NoInstrument_init, k_NoInstrument⟩
    n_NoInstrument_number := n_NoInstrument_number
    n_NoInstrument_place := n_NoInstrument_place
    g_OutOfBounds := PySem.W.mg_of X G a_OutOfBounds
    d_OutOfBounds_init := l_OutOfBounds_init.dfn (ps := ["self"]) fun _ _ _ _ _ _ us hl => match us, hl with | [_], _ => rfl
    x_OutOfBounds := ⟨o_OutOfBounds, a_OutOfBounds_init, ga_OutOfBounds, gh_OutOfBounds, sa_OutOfBounds, i_OutOfBounds_init, k_OutOfBounds⟩
    n_OutOfBounds_number := n_OutOfBounds_number
    n_OutOfBounds_place := n_OutOfBounds_place
    g_NoPlace := PySem.W.mg_of X G a_NoPlace
    d_NoPlace_init := l_NoPlace_init.dfn (ps := ["self"]) fun _ _ _ _ _ _ us hl => match us, hl with | [_], _ => rfl
    x_NoPlace := ⟨o_NoPlace, a_NoPlace_init, ga_NoPlace, gh_NoPlace, sa_NoPlace, i_NoPlace_init, k_NoPlace⟩
    n_NoPlace_number := n_NoPlace_number
    n_NoPlace_place := n_NoPlace_place
    g_NoneComes := PySem.W.mg_of X G a_NoneComes
    d_NoneComes_init := l_NoneComes_init.dfn (ps := ["self"]) fun _ _ _ _ _ _ us hl => match us, hl with | [_], _ => rfl
    x_NoneComes := ⟨o_NoneComes, a_NoneComes_init, ga_NoneComes, gh_NoneComes, sa_NoneComes, i_NoneComes_init, k_NoneComes⟩
    n_NoneComes_number := n_NoneComes_number
    n_NoneComes_place := n_NoneComes_place
    c_MOST_BYTES := ⟨_, PySem.W.mg_of X G c_MOST_BYTES⟩
    d_instrument_of := l_instrument_of.dfn (ps := ["t"]) fun _ _ _ _ _ _ us hl => match us, hl with | [_], _ => rfl
    g_instrument_of := PySem.W.mg_of X G a_instrument_of
    d_text_of := l_text_of.dfn (ps := ["instrument"]) fun _ _ _ _ _ _ us hl => match us, hl with | [_], _ => rfl
    g_text_of := PySem.W.mg_of X G a_text_of
    d_check_interval := l_check_interval.dfn (ps := ["x"]) fun _ _ _ _ _ _ us hl => match us, hl with | [_], _ => rfl
    g_check_interval := PySem.W.mg_of X G a_check_interval
    d_check_tied_fret := l_check_tied_fret.dfn (ps := ["instrument", "f"]) fun _ _ _ _ _ _ us hl => match us, hl with | [_, _], _ => rfl
    g_check_tied_fret := PySem.W.mg_of X G a_check_tied_fret
    d_copied := l_copied.dfn (ps := ["instrument"]) fun _ _ _ _ _ _ us hl => match us, hl with | [_], _ => rfl
    g_copied := PySem.W.mg_of X G a_copied
    d_tie_fret := l_tie_fret.dfn (ps := ["instrument", "f", "x"]) fun _ _ _ _ _ _ us hl => match us, hl with | [_, _, _], _ => rfl
    g_tie_fret := PySem.W.mg_of X G a_tie_fret
    d_tie := l_tie.dfn (ps := ["f", "t", "x"]) fun _ _ _ _ _ _ us hl => match us, hl with | [_, _, _], _ => rfl
    g_tie := PySem.W.mg_of X G a_tie
    x_ne := x_ne
    b_len := PySem.W.mg_none_of X G b_len
    b_abs := PySem.W.mg_none_of X G b_abs
    b_ord := PySem.W.mg_none_of X G b_ord
    b_range := PySem.W.mg_none_of X G b_range
  }
end GP
namespace GP
open PySem PySem.Spec PyProof.Rows L2 L3
theorem bytes_vals {ns : List Int} (h : ∀ z ∈ ns, 0 ≤ z ∧ z ≤ 255) : byV (LuInstNeutral.bytes ns) = ns.map V.int := by
  show ((ns.map fun (z : Int) => UInt8.ofNat z.toNat).map fun (c : UInt8) => V.int (c.toNat : Int)) = _
  rw [List.map_map]
  refine List.map_congr_left fun z hz => ?_
  obtain ⟨h0, h1⟩ := h z hz
  show V.int (((UInt8.ofNat z.toNat).toNat : Nat) : Int) = V.int z
  rw [UInt8.toNat_ofNat', Nat.mod_eq_of_lt (by show z.toNat < 256; omega), Int.toNat_of_nonneg h0]
theorem well_list {P : Params} {h : Heap} {v : Value} {ns : List Int} (w : PySem.W.Well P h v (.list (ns.map .int))) : ∃ p vs, v = .ref p ∧ h.get? p = some { cls := .type "list", data := .seq vs.toArray } ∧ IntsAre vs ns := by
  cases w with
  | list ho hall => exact ⟨_, _, rfl, ho, Att.ints_of_wellAll ns _ hall⟩
theorem well_int {P : Params} {h : Heap} {v : Value} {z : Int} (w : PySem.W.Well P h v (.int z)) : ∃ t, v = .int z t := by
  cases w
  exact ⟨_, rfl⟩
theorem well_cons {P : Params} {h : Heap} {vals : List Value} {x : PySem.W.WData} {xs : List PySem.W.WData} (w : PySem.W.WellAll P h vals (x :: xs)) : ∃ v r, vals = v :: r ∧ PySem.W.Well P h v x ∧ PySem.W.WellAll P h r xs := by
  cases w with
  | cons w1 w2 => exact ⟨_, _, rfl, w1, w2⟩
theorem well_nil {P : Params} {h : Heap} {vals : List Value} (w : PySem.W.WellAll P h vals []) : vals = [] := by
  cases w
  rfl
theorem walk_tie {q : Program} {loose : List Str} {XP : (Str → Option Value) → Heap → Prop} {YP : World → Heap → Prop} {d : DefRec} {kwd : List (Str × Expr)} {K : Params → PySem.W.Frag} (said : PySem.Challenge.rw_gutfrets_s10_tie.wellSaid = true)
    (hY : ∀ (w : World) (h : Heap), YP w h → (K w.params).In h) (hT : ∀ (w : World) (mg : Str → Option Value) (h : Heap), (K w.params).In h → h.Ns mainGlobals mg → ∃ a, Txt (K w.params) mg a) (hn : d.name = "tie") :
    PySem.W.WalkOS q loose XP YP PySem.Challenge.rw_gutfrets_s10_tie d kwd (fun f vs => PySem.call f vs) := by
  intro w s₀ s₁ mg mb G Y fa o pm cd doc dV kV ho hd hcd hD hmg hg args vals as hpre hlay hrd hwl hlo
  have KX := hY w _ Y
  obtain ⟨a, T⟩ := hT w mg _ KX G.T.g
  rw [hn] at hmg
  have ef := hmg.symm.trans T.g_tie
  cases ef
  obtain ⟨⟨z1, ns, xs, un⟩, hwi, _, rfl⟩ := (PySem.W.OpenSpec.pre_iff said args).mp hpre
  have hw2 : (PySem.W.Codec.inPair (PySem.W.Codec.inInt 0 2147483647) (PySem.W.Codec.inPair (PySem.W.Codec.inList 0 8192 (PySem.W.Codec.inInt 0 255)) (PySem.W.Codec.inPair (PySem.W.Codec.inList 0 8 (PySem.W.Codec.inInt (-2147483648) 2147483647)) (fun _ => true)))) (z1, ns, xs, un) = true := hwi
  simp only [PySem.W.Codec.inPair, PySem.W.Codec.inList, PySem.W.Codec.inLen, PySem.W.Codec.inNat, PySem.W.Codec.inInt, Bool.and_eq_true, decide_eq_true_eq, List.all_eq_true] at hw2
  have b0 := hw2.1
  have b1 := hw2.2.1
  have b2 := hw2.2.2.1
  have hwl : PySem.W.WellAll w.params s₁.heap vals [.int z1, .list (ns.map .int), .list (xs.map .int)] := hwl
  obtain ⟨u1, r1v, rfl, w1, r1⟩ := well_cons hwl
  obtain ⟨u2, r2v, rfl, w2, r2⟩ := well_cons r1
  obtain ⟨u3, r3v, rfl, w3, r3⟩ := well_cons r2
  obtain rfl := well_nil r3
  obtain ⟨tk1, rfl⟩ := well_int w1
  obtain ⟨p, vs, rfl, hp, hi⟩ := well_list w2
  obtain ⟨px, vx, rfl, hpx, hix⟩ := well_list w3
  obtain ⟨n1, rfl⟩ : ∃ n : Nat, z1 = (n : Int) := ⟨Int.toNat z1, (Int.toNat_of_nonneg b0.1).symm⟩
  have hz : ∀ z ∈ ns, 0 ≤ z ∧ z ≤ 255 := fun z hz => b1.2 z hz
  obtain ⟨H, tr, gv, _⟩ := (Tr.nil (P := PySem.Challenge.rw_gutfrets_s10_tie.prog) (w := w)).add KX hp hi (Nat.le_trans b1.1.2 (by decide))
  rw [← bytes_vals hz] at gv
  obtain ⟨H2, tr2, gx, up⟩ := tr.add KX hpx hix (Nat.le_trans b2.1.2 (by decide))
  have gv := up _ _ gv
  obtain ⟨⟨fd, F, bd⟩, kp⟩ := ok_tie (P := PySem.Challenge.rw_gutfrets_s10_tie.prog) (w := w) (base := hidT s₁.heap H2) T
  refine PySem.W.enter_call (codeAny_mono (spec_call (vs := [.int (n1 : Int), .ref p, .ref px]) (zs := LuteB.answer (.tie (LuInstNeutral.bytes ns) n1 xs)) KX G.T.g G.T.b G.T.builtins G.T.nolimit hg tr2 (.cons ⟨_, rfl⟩ (.cons rfl (.cons rfl (.nil)))) ⟨rfl, by decide, by decide⟩ bd F ⟨n1, p, _, px, xs, rfl, gv, gx, fun H' q h => ⟨q, rfl, h⟩⟩) fun r s' hq => ?_)
  obtain ⟨⟨z, its, n, rfl, g1, g2⟩, h2, h3, h4⟩ := hq
  refine ⟨.inl ⟨_, .list ((LuteB.answer (.tie (LuInstNeutral.bytes ns) n1 xs)).map .int), _, rfl, fun _ => rfl, (by have r := PySem.W.readsW_ints (R := []) (cl := classAt s₀.heap) g1 g2; rw [PySem.W.os_list rfl] at r; exact r), ?_, fun z => absurd z (by decide)⟩, h2, h3, h4⟩
  exact (PySem.W.OpenSpec.post_iff said hwi _ _).mpr rfl
end GP
def PySem.W.Fast.tw13222322089590860124 : Unit := ()
def PySem.W.Fast.tw4911592877504282549 : Unit := ()
def PySem.W.Fast.tw17959201477168611948 : Unit := ()
def PySem.W.Fast.tw7859951450207779547 : Unit := ()
def PySem.W.Fast.tw12233682016972378291 : Unit := ()
def PySem.W.Fast.tw1993339390527667447 : Unit := ()
def PySem.W.Fast.tw6459893181675507317 : Unit := ()
def PySem.W.Fast.tw687888266183521395 : Unit := ()
def PySem.W.Fast.tw8795732903687424574 : Unit := ()
def PySem.W.Fast.tw7732217442252687302 : Unit := ()
def PySem.W.Fast.tw460407970792394324 : Unit := ()
def PySem.W.Fast.tw5619962801256739414 : Unit := ()
def PySem.W.Fast.tw4480377007486552787 : Unit := ()
def PySem.W.Fast.tw10096021596771094074 : Unit := ()
def PySem.W.Fast.tw15543715868536047208 : Unit := ()
def PySem.W.Fast.tw13496711817350809567 : Unit := ()
def PySem.W.Fast.tw13857156551526364374 : Unit := ()
def PySem.W.Fast.tw13535856105614133583 : Unit := ()
def PySem.W.Fast.tw9481130661724553151 : Unit := ()
open PySem PySem.W PyProof.Rows
set_option maxRecDepth 100000 in
set_option maxHeartbeats 0 in
theorem PySem.Challenge.cw_gutfrets_s10_tie_holds : PySem.Challenge.rw_gutfrets_s10_tie.Holds := by
  w_on; k_headS; (case hw => exact ⟨[.int 0, .list [], .list []], by decide +kernel, by decide +kernel⟩)
  k_fillS
  refine GP.walk_tie (by decide +kernel) (fun w h Y => PySem.W.kIn_of Y) ?T rfl
  case T =>
    intro w mg h KX G
    refine' GP.txt_mk KX G ?a_PRIMES ?l_PRIMES ?c_MOST_POWER ?c_MOST_DIVISOR ?a_unison ?l_unison ?a_common_factor ?l_common_factor ?a_is_interval ?l_is_interval ?a_upon ?l_upon ?a_raised ?l_raised ?a_ratio_of ?l_ratio_of ?a_is_wider ?l_is_wider ?a_Instrument ?a_Instrument_init ?l_Instrument_init ?i_Instrument_init ?k_Instrument ?pg_Instrument ?hd_Instrument ?po_Instrument ?sa_Instrument ?mk_Instrument ?n_Instrument_length ?n_Instrument_frets ?n_Instrument_courses ?n_Instrument_basses ?a_count_strings ?l_count_strings ?a_is_instrument ?l_is_instrument ?a_sounds_with_each ?l_sounds_with_each ?a_has_fret ?l_has_fret ?c_LINE_END ?c_ZERO ?c_ONE ?c_NINE ?c_NO_BYTE ?a_TextFault ?a_TextFault_init ?l_TextFault_init ?i_TextFault_init ?k_TextFault ?o_TextFault ?ga_TextFault ?gh_TextFault ?sa_TextFault ?n_TextFault_place ?a_Reader ?a_Reader_init ?l_Reader_init ?i_Reader_init ?a_Reader_peek ?l_Reader_peek ?i_Reader_peek ?a_Reader_step ?l_Reader_step ?i_Reader_step ?k_Reader ?pg_Reader ?hd_Reader ?po_Reader ?sa_Reader ?mk_Reader ?n_Reader_t ?n_Reader_place ?a_is_digit ?l_is_digit ?a_expect ?l_expect ?a_read_number ?l_read_number ?c_CARET ?c_MINUS ?c_SLASH ?c_MOST_DIGITS ?a_read_interval ?l_read_interval ?a_is_behind ?l_is_behind ?a_read_factors ?l_read_factors ?a_read_prime ?l_read_prime ?a_read_power ?l_read_power ?a_read_whole ?l_read_whole ?a_factor_of ?l_factor_of ?a_write_interval ?l_write_interval ?a_write_factor ?l_write_factor ?c_LEAST_LENGTH ?c_MOST_LENGTH ?c_MOST_LENGTH_DIGITS ?c_MOST_FRETS ?c_MOST_STRINGS ?a_read_instrument ?l_read_instrument ?a_read_length ?l_read_length ?a_read_line ?l_read_line ?a_read_word ?l_read_word ?a_read_fret ?l_read_fret ?a_read_course ?l_read_course ?a_read_bass ?l_read_bass ?a_write_instrument ?l_write_instrument ?a_write_lines ?l_write_lines ?a_Refusal ?a_Refusal_init ?l_Refusal_init ?i_Refusal_init ?k_Refusal ?o_Refusal ?ga_Refusal ?gh_Refusal ?sa_Refusal ?n_Refusal_number ?n_Refusal_place ?cs_Refusal ?cr_Refusal ?cf_Refusal ?a_TextTooLong ?a_TextTooLong_init ?l_TextTooLong_init ?i_TextTooLong_init ?k_TextTooLong ?o_TextTooLong ?ga_TextTooLong ?gh_TextTooLong ?sa_TextTooLong ?n_TextTooLong_number ?n_TextTooLong_place ?a_NoInstrument ?a_NoInstrument_init ?l_NoInstrument_init ?i_NoInstrument_init ?k_NoInstrument ?o_NoInstrument ?ga_NoInstrument ?gh_NoInstrument ?sa_NoInstrument ?n_NoInstrument_number ?n_NoInstrument_place ?a_OutOfBounds ?a_OutOfBounds_init ?l_OutOfBounds_init ?i_OutOfBounds_init ?k_OutOfBounds ?o_OutOfBounds ?ga_OutOfBounds ?gh_OutOfBounds ?sa_OutOfBounds ?n_OutOfBounds_number ?n_OutOfBounds_place ?a_NoPlace ?a_NoPlace_init ?l_NoPlace_init ?i_NoPlace_init ?k_NoPlace ?o_NoPlace ?ga_NoPlace ?gh_NoPlace ?sa_NoPlace ?n_NoPlace_number ?n_NoPlace_place ?a_NoneComes ?a_NoneComes_init ?l_NoneComes_init ?i_NoneComes_init ?k_NoneComes ?o_NoneComes ?ga_NoneComes ?gh_NoneComes ?sa_NoneComes ?n_NoneComes_number ?n_NoneComes_place ?c_MOST_BYTES ?a_instrument_of ?l_instrument_of ?a_text_of ?l_text_of ?a_check_interval ?l_check_interval ?a_check_tied_fret ?l_check_tied_fret ?a_copied ?l_copied ?a_tie_fret ?l_tie_fret ?a_tie ?l_tie ?x_ne ?b_len ?b_abs ?b_ord ?b_range
    (case a_PRIMES => k_is)
    (case l_PRIMES => k_is)
    (case c_MOST_POWER => k_is)
    (case c_MOST_DIVISOR => k_is)
    (case a_unison => k_is)
    (case l_unison => refine' GP.FnAt.mk ?l ?c ?k; (case l => k_is); (case c => k_is); (case k => k_is))
    (case a_common_factor => k_is)
    (case l_common_factor => refine' GP.FnAt.mk ?l ?c ?k; (case l => k_is); (case c => k_is); (case k => k_is))
    (case a_is_interval => k_is)
    (case l_is_interval => refine' GP.FnAt.mk ?l ?c ?k; (case l => k_is); (case c => k_is); (case k => k_is))
    (case a_upon => k_is)
    (case l_upon => refine' GP.FnAt.mk ?l ?c ?k; (case l => k_is); (case c => k_is); (case k => k_is))
    (case a_raised => k_is)
    (case l_raised => refine' GP.FnAt.mk ?l ?c ?k; (case l => k_is); (case c => k_is); (case k => k_is))
    (case a_ratio_of => k_is)
    (case l_ratio_of => refine' GP.FnAt.mk ?l ?c ?k; (case l => k_is); (case c => k_is); (case k => k_is))
    (case a_is_wider => k_is)
    (case l_is_wider => refine' GP.FnAt.mk ?l ?c ?k; (case l => k_is); (case c => k_is); (case k => k_is))
    (case a_Instrument => k_is)
    (case a_Instrument_init => k_is)
    (case l_Instrument_init => refine' GP.FnAt.mk ?l ?c ?k; (case l => k_is); (case c => k_is); (case k => k_is))
    (case i_Instrument_init => k_is)
    (case k_Instrument => k_is)
    (case pg_Instrument => k_is)
    (case hd_Instrument => k_is)
    (case po_Instrument => k_is)
    (case sa_Instrument => k_is)
    (case mk_Instrument => k_is)
    (case n_Instrument_length => k_is)
    (case n_Instrument_frets => k_is)
    (case n_Instrument_courses => k_is)
    (case n_Instrument_basses => k_is)
    (case a_count_strings => k_is)
    (case l_count_strings => refine' GP.FnAt.mk ?l ?c ?k; (case l => k_is); (case c => k_is); (case k => k_is))
    (case a_is_instrument => k_is)
    (case l_is_instrument => refine' GP.FnAt.mk ?l ?c ?k; (case l => k_is); (case c => k_is); (case k => k_is))
    (case a_sounds_with_each => k_is)
    (case l_sounds_with_each => refine' GP.FnAt.mk ?l ?c ?k; (case l => k_is); (case c => k_is); (case k => k_is))
    (case a_has_fret => k_is)
    (case l_has_fret => refine' GP.FnAt.mk ?l ?c ?k; (case l => k_is); (case c => k_is); (case k => k_is))
    (case c_LINE_END => k_is)
    (case c_ZERO => k_is)
    (case c_ONE => k_is)
    (case c_NINE => k_is)
    (case c_NO_BYTE => k_is)
    (case a_TextFault => k_is)
    (case a_TextFault_init => k_is)
    (case l_TextFault_init => refine' GP.FnAt.mk ?l ?c ?k; (case l => k_is); (case c => k_is); (case k => k_is))
    (case i_TextFault_init => k_is)
    (case k_TextFault => k_is)
    (case o_TextFault => refine' GP.XObj.mk ?l; (case l => k_is))
    (case ga_TextFault => k_is)
    (case gh_TextFault => k_is)
    (case sa_TextFault => k_is)
    (case n_TextFault_place => k_is)
    (case a_Reader => k_is)
    (case a_Reader_init => k_is)
    (case l_Reader_init => refine' GP.FnAt.mk ?l ?c ?k; (case l => k_is); (case c => k_is); (case k => k_is))
    (case i_Reader_init => k_is)
    (case a_Reader_peek => k_is)
    (case l_Reader_peek => refine' GP.FnAt.mk ?l ?c ?k; (case l => k_is); (case c => k_is); (case k => k_is))
    (case i_Reader_peek => k_is)
    (case a_Reader_step => k_is)
    (case l_Reader_step => refine' GP.FnAt.mk ?l ?c ?k; (case l => k_is); (case c => k_is); (case k => k_is))
    (case i_Reader_step => k_is)
    (case k_Reader => k_is)
    (case pg_Reader => k_is)
    (case hd_Reader => k_is)
    (case po_Reader => k_is)
    (case sa_Reader => k_is)
    (case mk_Reader => k_is)
    (case n_Reader_t => k_is)
    (case n_Reader_place => k_is)
    (case a_is_digit => k_is)
    (case l_is_digit => refine' GP.FnAt.mk ?l ?c ?k; (case l => k_is); (case c => k_is); (case k => k_is))
    (case a_expect => k_is)
    (case l_expect => refine' GP.FnAt.mk ?l ?c ?k; (case l => k_is); (case c => k_is); (case k => k_is))
    (case a_read_number => k_is)
    (case l_read_number => refine' GP.FnAt.mk ?l ?c ?k; (case l => k_is); (case c => k_is); (case k => k_is))
    (case c_CARET => k_is)
    (case c_MINUS => k_is)
    (case c_SLASH => k_is)
    (case c_MOST_DIGITS => k_is)
    (case a_read_interval => k_is)
    (case l_read_interval => refine' GP.FnAt.mk ?l ?c ?k; (case l => k_is); (case c => k_is); (case k => k_is))
    (case a_is_behind => k_is)
    (case l_is_behind => refine' GP.FnAt.mk ?l ?c ?k; (case l => k_is); (case c => k_is); (case k => k_is))
    (case a_read_factors => k_is)
    (case l_read_factors => refine' GP.FnAt.mk ?l ?c ?k; (case l => k_is); (case c => k_is); (case k => k_is))
    (case a_read_prime => k_is)
    (case l_read_prime => refine' GP.FnAt.mk ?l ?c ?k; (case l => k_is); (case c => k_is); (case k => k_is))
    (case a_read_power => k_is)
    (case l_read_power => refine' GP.FnAt.mk ?l ?c ?k; (case l => k_is); (case c => k_is); (case k => k_is))
    (case a_read_whole => k_is)
    (case l_read_whole => refine' GP.FnAt.mk ?l ?c ?k; (case l => k_is); (case c => k_is); (case k => k_is))
    (case a_factor_of => k_is)
    (case l_factor_of => refine' GP.FnAt.mk ?l ?c ?k; (case l => k_is); (case c => k_is); (case k => k_is))
    (case a_write_interval => k_is)
    (case l_write_interval => refine' GP.FnAt.mk ?l ?c ?k; (case l => k_is); (case c => k_is); (case k => k_is))
    (case a_write_factor => k_is)
    (case l_write_factor => refine' GP.FnAt.mk ?l ?c ?k; (case l => k_is); (case c => k_is); (case k => k_is))
    (case c_LEAST_LENGTH => k_is)
    (case c_MOST_LENGTH => k_is)
    (case c_MOST_LENGTH_DIGITS => k_is)
    (case c_MOST_FRETS => k_is)
    (case c_MOST_STRINGS => k_is)
    (case a_read_instrument => k_is)
    (case l_read_instrument => refine' GP.FnAt.mk ?l ?c ?k; (case l => k_is); (case c => k_is); (case k => k_is))
    (case a_read_length => k_is)
    (case l_read_length => refine' GP.FnAt.mk ?l ?c ?k; (case l => k_is); (case c => k_is); (case k => k_is))
    (case a_read_line => k_is)
    (case l_read_line => refine' GP.FnAt.mk ?l ?c ?k; (case l => k_is); (case c => k_is); (case k => k_is))
    (case a_read_word => k_is)
    (case l_read_word => refine' GP.FnAt.mk ?l ?c ?k; (case l => k_is); (case c => k_is); (case k => k_is))
    (case a_read_fret => k_is)
    (case l_read_fret => refine' GP.FnAt.mk ?l ?c ?k; (case l => k_is); (case c => k_is); (case k => k_is))
    (case a_read_course => k_is)
    (case l_read_course => refine' GP.FnAt.mk ?l ?c ?k; (case l => k_is); (case c => k_is); (case k => k_is))
    (case a_read_bass => k_is)
    (case l_read_bass => refine' GP.FnAt.mk ?l ?c ?k; (case l => k_is); (case c => k_is); (case k => k_is))
    (case a_write_instrument => k_is)
    (case l_write_instrument => refine' GP.FnAt.mk ?l ?c ?k; (case l => k_is); (case c => k_is); (case k => k_is))
    (case a_write_lines => k_is)
    (case l_write_lines => refine' GP.FnAt.mk ?l ?c ?k; (case l => k_is); (case c => k_is); (case k => k_is))
    (case a_Refusal => k_is)
    (case a_Refusal_init => k_is)
    (case l_Refusal_init => refine' GP.FnAt.mk ?l ?c ?k; (case l => k_is); (case c => k_is); (case k => k_is))
    (case i_Refusal_init => k_is)
    (case k_Refusal => k_is)
    (case o_Refusal => refine' GP.XObj.mk ?l; (case l => k_is))
    (case ga_Refusal => k_is)
    (case gh_Refusal => k_is)
    (case sa_Refusal => k_is)
    (case n_Refusal_number => k_is)
    (case n_Refusal_place => k_is)
    (case cs_Refusal => k_is)
    (case cr_Refusal => k_is)
    (case cf_Refusal => k_is)
    (case a_TextTooLong => k_is)
    (case a_TextTooLong_init => k_is)
    (case l_TextTooLong_init => refine' GP.FnAt.mk ?l ?c ?k; (case l => k_is); (case c => k_is); (case k => k_is))
    (case i_TextTooLong_init => k_is)
    (case k_TextTooLong => k_is)
    (case o_TextTooLong => refine' GP.XObj.mk ?l; (case l => k_is))
    (case ga_TextTooLong => k_is)
    (case gh_TextTooLong => k_is)
    (case sa_TextTooLong => k_is)
    (case n_TextTooLong_number => k_is)
    (case n_TextTooLong_place => k_is)
    (case a_NoInstrument => k_is)
    (case a_NoInstrument_init => k_is)
    (case l_NoInstrument_init => refine' GP.FnAt.mk ?l ?c ?k; (case l => k_is); (case c => k_is); (case k => k_is))
    (case i_NoInstrument_init => k_is)
    (case k_NoInstrument => k_is)
    (case o_NoInstrument => refine' GP.XObj.mk ?l; (case l => k_is))
    (case ga_NoInstrument => k_is)
    (case gh_NoInstrument => k_is)
    (case sa_NoInstrument => k_is)
    (case n_NoInstrument_number => k_is)
    (case n_NoInstrument_place => k_is)
    (case a_OutOfBounds => k_is)
    (case a_OutOfBounds_init => k_is)
    (case l_OutOfBounds_init => refine' GP.FnAt.mk ?l ?c ?k; (case l => k_is); (case c => k_is); (case k => k_is))
    (case i_OutOfBounds_init => k_is)
    (case k_OutOfBounds => k_is)
    (case o_OutOfBounds => refine' GP.XObj.mk ?l; (case l => k_is))
    (case ga_OutOfBounds => k_is)
    (case gh_OutOfBounds => k_is)
    (case sa_OutOfBounds => k_is)
    (case n_OutOfBounds_number => k_is)
    (case n_OutOfBounds_place => k_is)
    (case a_NoPlace => k_is)
    (case a_NoPlace_init => k_is)
    (case l_NoPlace_init => refine' GP.FnAt.mk ?l ?c ?k; (case l => k_is); (case c => k_is); (case k => k_is))
    (case i_NoPlace_init => k_is)
    (case k_NoPlace => k_is)
    (case o_NoPlace => refine' GP.XObj.mk ?l; (case l => k_is))
    (case ga_NoPlace => k_is)
    (case gh_NoPlace => k_is)
    (case sa_NoPlace => k_is)
    (case n_NoPlace_number => k_is)
    (case n_NoPlace_place => k_is)
    (case a_NoneComes => k_is)
    (case a_NoneComes_init => k_is)
    (case l_NoneComes_init => refine' GP.FnAt.mk ?l ?c ?k; (case l => k_is); (case c => k_is); (case k => k_is))
    (case i_NoneComes_init => k_is)
    (case k_NoneComes => k_is)
    (case o_NoneComes => refine' GP.XObj.mk ?l; (case l => k_is))
    (case ga_NoneComes => k_is)
    (case gh_NoneComes => k_is)
    (case sa_NoneComes => k_is)
    (case n_NoneComes_number => k_is)
    (case n_NoneComes_place => k_is)
    (case c_MOST_BYTES => k_is)
    (case a_instrument_of => k_is)
    (case l_instrument_of => refine' GP.FnAt.mk ?l ?c ?k; (case l => k_is); (case c => k_is); (case k => k_is))
    (case a_text_of => k_is)
    (case l_text_of => refine' GP.FnAt.mk ?l ?c ?k; (case l => k_is); (case c => k_is); (case k => k_is))
    (case a_check_interval => k_is)
    (case l_check_interval => refine' GP.FnAt.mk ?l ?c ?k; (case l => k_is); (case c => k_is); (case k => k_is))
    (case a_check_tied_fret => k_is)
    (case l_check_tied_fret => refine' GP.FnAt.mk ?l ?c ?k; (case l => k_is); (case c => k_is); (case k => k_is))
    (case a_copied => k_is)
    (case l_copied => refine' GP.FnAt.mk ?l ?c ?k; (case l => k_is); (case c => k_is); (case k => k_is))
    (case a_tie_fret => k_is)
    (case l_tie_fret => refine' GP.FnAt.mk ?l ?c ?k; (case l => k_is); (case c => k_is); (case k => k_is))
    (case a_tie => k_is)
    (case l_tie => refine' GP.FnAt.mk ?l ?c ?k; (case l => k_is); (case c => k_is); (case k => k_is))
    (case x_ne => decide)
    (case b_len => k_is)
    (case b_abs => k_is)
    (case b_ord => k_is)
    (case b_range => k_is)
#print axioms PySem.Challenge.cw_gutfrets_s10_tie_holds

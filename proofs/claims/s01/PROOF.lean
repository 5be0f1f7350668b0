import PyProof.Rows.All
import Wide.All
import OpenK.AllK
import Wide.FinOn
import PyProof.EqAt
import PyProof.EqKinds
import PyProof.TupleCall
import KE.BitLaws
import Open.SpecLaws
import KE.OsHead
import KE.OsGo
import PySem.Challenge.RW_threesticks_s01_answers
import KE.KSortTupG
import KE.KTupSum
import KE.KMinKey
import PyProof.Rows.CallKwBuiltin
set_option Elab.async false
set_option linter.all false
set_option maxRecDepth 100000
namespace L2
open PySem PySem.Spec PyProof.Rows

abbrev Key := Sum Int Str
def keyIs : Key → Value → Bool
  | .inl k, v => Value.isInt k v
  | .inr x, v => Value.isStrOf x v
def keyH (w : World) : Key → Int
  | .inl k => hashInt k
  | .inr x => hashStr w x
theorem keyIs_shape : ∀ {k : Key} {v : Value}, keyIs k v = true → (∃ i t, k = Sum.inl i ∧ v = Value.int i t) ∨ (∃ x t, k = Sum.inr x ∧ v = Value.str x t)
  | .inl i, v, h => by
    obtain ⟨t, e⟩ := Value.isInt_shape (k := i) (v := v) h
    exact .inl ⟨i, t, rfl, e⟩
  | .inr x, v, h => by
    obtain ⟨t, e⟩ := Value.isStrOf_shape (x := x) (v := v) h
    exact .inr ⟨x, t, rfl, e⟩
theorem keyIs_int (i : Int) (t : Tok) : keyIs (.inl i) (.int i t) = true := by simp [keyIs, Value.isInt]
theorem keyIs_str (x : Str) (t : Tok) : keyIs (.inr x) (.str x t) = true := by simp [keyIs, Value.isStrOf]
theorem key_ll (a b : Int) : decide ((Sum.inl a : Key) = Sum.inl b) = (a == b) := by
  by_cases e : a = b
  · subst e; simp
  · have h : ¬ (Sum.inl a : Key) = Sum.inl b := fun q => e (Sum.inl.inj q)
    rw [decide_eq_false h]
    exact (beq_eq_false_iff_ne.mpr e).symm
theorem key_rr (a b : Str) : decide ((Sum.inr a : Key) = Sum.inr b) = decide (a = b) := by
  by_cases e : a = b
  · subst e; simp
  · have h : ¬ (Sum.inr a : Key) = Sum.inr b := fun q => e (Sum.inr.inj q)
    rw [decide_eq_false h, decide_eq_false e]
theorem key_lr (a : Int) (b : Str) : decide ((Sum.inl a : Key) = Sum.inr b) = false := decide_eq_false (fun q => nomatch q)
theorem key_rl (a : Str) (b : Int) : decide ((Sum.inr a : Key) = Sum.inl b) = false := decide_eq_false (fun q => nomatch q)

def mixKind (prog : Program) (w : World) : PySem.KeyKind prog w Key where
  is := keyIs
  hash := keyH w
  inj := fun v a b ha hb => by
    rcases keyIs_shape ha with ⟨i, t, rfl, rfl⟩ | ⟨x, t, rfl, rfl⟩
    · rcases keyIs_shape hb with ⟨j, u, rfl, e⟩ | ⟨y, u, rfl, e⟩
      · injection e with e1 _; rw [e1]
      · exact nomatch e
    · rcases keyIs_shape hb with ⟨j, u, rfl, e⟩ | ⟨y, u, rfl, e⟩
      · exact nomatch e
      · injection e with e1 _; rw [e1]
  byValue := fun k v h => by
    rcases keyIs_shape h with ⟨i, t, rfl, rfl⟩ | ⟨x, t, rfl, rfl⟩ <;> rfl
  pyHash := fun hv h => by
    rcases keyIs_shape hv with ⟨i, t, rfl, rfl⟩ | ⟨x, t, rfl, rfl⟩
    · exact wpAny_pyHash_int h
    · exact wpAny_pyHash_str h
  eqBool := fun hu hv h => by
    rcases keyIs_shape hu with ⟨i, t, rfl, rfl⟩ | ⟨x, t, rfl, rfl⟩
    · rcases keyIs_shape hv with ⟨j, u, rfl, rfl⟩ | ⟨y, u, rfl, rfl⟩
      · rw [key_ll] at h; exact wpAny_eqBool_int h
      · rw [key_lr] at h; exact SeqAt.EqAt.int_str i t y u _ _ _ _ h
    · rcases keyIs_shape hv with ⟨j, u, rfl, rfl⟩ | ⟨y, u, rfl, rfl⟩
      · rw [key_rl] at h; exact SeqAt.EqAt.str_int x t j u _ _ _ _ h
      · rw [key_rr] at h; exact wpAny_eqBool_str h
  «strs» := fun k x t v h => by
    rcases keyIs_shape h with ⟨i, u, rfl, e⟩ | ⟨y, u, rfl, e⟩
    · exact nomatch e
    · injection e with e1 _
      subst e1
      cases v <;> rfl

theorem mixKind_int (prog : Program) (w : World) (i : Int) (t : Tok) : (mixKind prog w).is (.inl i) (.int i t) = true := keyIs_int i t
theorem mixKind_str (prog : Program) (w : World) (x : Str) (t : Tok) : (mixKind prog w).is (.inr x) (.str x t) = true := keyIs_str x t
end L2

namespace L2
open PySem PySem.Spec PyProof.Rows

inductive V where
  | non | bl (b : Bool) | int (i : Int) | str (x : Str) | byt (b : Array UInt8) | flt (b : UInt64) | ref (a : Addr) | ty (n : String)
  deriving DecidableEq

def RelV : V → Value → Prop
  | .non, u => u = Value.none
  | .bl b, u => u = Value.bool b
  | .int i, u => ∃ t, u = Value.int i t
  | .str x, u => ∃ t, u = Value.str x t
  | .byt b, u => ∃ t, u = Value.bytes b t
  | .flt b, u => ∃ t, u = Value.float b t
  | .ref a, u => u = Value.ref a
  | .ty n, u => u = Value.type n

abbrev Vals : List V → List Value → Prop := Paired RelV
theorem Vals.length {xs : List V} {us : List Value} (r : Vals xs us) : xs.length = us.length := Paired.length r
theorem Vals.get : ∀ {xs : List V} {us : List Value} {i : Nat} {x : V}, Vals xs us → xs[i]? = some x → ∃ u, us[i]? = some u ∧ RelV x u
  | _, _, _, _, .nil, e => by simp at e
  | _, _, 0, _, .cons r _, e => by simp at e; subst e; exact ⟨_, rfl, r⟩
  | _, _, i + 1, x, .cons _ t, e => by
    obtain ⟨u, h1, h2⟩ := Vals.get (i := i) (x := x) t (by simpa using e)
    exact ⟨u, by simpa using h1, h2⟩
theorem Vals.set {x : V} {u : Value} (r : RelV x u) : ∀ {xs : List V} {us : List Value} (i : Nat), Vals xs us → Vals (xs.set i x) (us.set i u)
  | _, _, _, .nil => .nil
  | _, _, 0, .cons _ t => .cons r t
  | _, _, i + 1, .cons q t => .cons q (Vals.set r i t)
theorem Vals.append : ∀ {xs ys : List V} {us ws : List Value}, Vals xs us → Vals ys ws → Vals (xs ++ ys) (us ++ ws)
  | _, _, _, _, .nil, s => s
  | _, _, _, _, .cons r t, s => .cons r (Vals.append t s)
theorem Vals.take : ∀ {xs : List V} {us : List Value} (n : Nat), Vals xs us → Vals (xs.take n) (us.take n)
  | _, _, 0, _ => .nil
  | _, _, _ + 1, .nil => .nil
  | _, _, n + 1, .cons r t => .cons r (Vals.take n t)
theorem Vals.drop : ∀ {xs : List V} {us : List Value} (n : Nat), Vals xs us → Vals (xs.drop n) (us.drop n)
  | _, _, 0, r => r
  | _, _, _ + 1, .nil => .nil
  | _, _, n + 1, .cons _ t => Vals.drop n t
theorem Vals.none_of : ∀ {xs : List V} {us : List Value} {i : Nat}, Vals xs us → xs[i]? = none → us[i]? = none := fun {xs us i} r e => by
  have h1 := r.length
  have h2 : xs.length ≤ i := List.getElem?_eq_none_iff.mp e
  exact List.getElem?_eq_none_iff.mpr (by omega)

def RelO : Option V → Option Value → Prop
  | some v, some u => RelV v u
  | none, none => True
  | _, _ => False
def KV {κ : Type} : List (κ × V) → List (κ × Value) → Prop := Paired fun (p : κ × V) (q : κ × Value) => p.1 = q.1 ∧ RelV p.2 q.2

def kV : Key → V
  | .inl i => .int i
  | .inr x => .str x

inductive HO where
  /-- a list -/
  | lst (xs : List V)
  /-- a tuple (never changes) -/
  | tup (xs : List V)
  /-- a dict whose keys are ints and texts; one whose keys are tuples of ints and texts (the empty one is both) -/
  | dK (kvs : List (Key × V)) | dT (kvs : List (List Key × V))
  /-- a set of ints: its members, its size -/
  | set (S : Int → Bool) (n : Nat)
  /-- an instance of the class at C, its dict at dx, its attributes -/
  | ins (C dx : Addr) (fs : List (Str × V))
  /-- the dict of the instance at x -/
  | own (x : Addr)
  /-- the dict of an exception -/
  | xd (fs : List (Str × V))
  /-- a bound method, f of x -/
  | met (f x : Addr)
  /-- a range object lo, lo + 1, .. below hi -/
  | rng (lo hi : Int)
  /-- a thing that is known to the object (the script; a dict while a loop walks it): read, never written while it is so -/
  | frz (o : Obj) (u : HO)
  /-- a code object's table -/
  | tbl (ps : Array Value)
  /-- any other thing, by what is true of its one object (a def of one's own: SetO a S n := HO.ext fun h => ..) -/
  | ext (φ : Heap → Prop)

abbrev Hp := Addr → Option HO
def upd (H : Hp) (a : Addr) (o : HO) : Hp := fun b => if b = a then some o else H b
theorem upd_same {H : Hp} {a : Addr} {o : HO} : upd H a o a = some o := by unfold upd; rw [if_pos rfl]
theorem upd_ne {H : Hp} {a b : Addr} {o : HO} (h : b ≠ a) : upd H a o b = H b := by unfold upd; rw [if_neg h]
theorem ne_of {H : Hp} {a b : Addr} {o u : HO} (h : H a = some o) (h' : H b = some u) (d : o ≠ u) : a ≠ b := by
  intro e; subst e; rw [h] at h'; exact d (Option.some.inj h')
theorem ne_of_none {H : Hp} {a b : Addr} {o : HO} (h : H a = some o) (h' : H b = none) : a ≠ b := by
  intro e; subst e; rw [h] at h'; cases h'

section
variable (P : Program) (w : World)
def ObjOk (H : Hp) (h : Heap) (a : Addr) : HO → Prop
  | .lst xs => xs.length ≤ sizeLine ∧ ∃ (its : List Value) (n : Nat), Vals xs its ∧ h.get? a = some { cls := .type "list", data := .seq its.toArray n }
  | .tup xs => xs.length ≤ sizeLine ∧ ∃ its : List Value, Vals xs its ∧ IsTup h a its.toArray
  | .dK kvs => kvs.length ≤ sizeLine ∧ (a == sysModules) = false ∧ ∃ vs, KV kvs vs ∧ h.DictOf (mixKind P w) a vs
  | .dT kvs => kvs.length ≤ sizeLine ∧ (a == sysModules) = false ∧ ∃ xs : List (List Key × Addr × Value),
      Paired (fun (p : List Key × V) (q : List Key × Addr × Value) => p.1 = q.1 ∧ H q.2.1 = some (.tup (p.1.map kV)) ∧ RelV p.2 q.2.2) kvs xs ∧
      ∃ o es ep, h.get? a = some o ∧ o.ExactDict ∧ o.data = .dict es ep ∧ es.toList = xs.map (entryOfKey (tupleKind (mixKind P w))) ∧ (xs.map (·.1)).Nodup
  | .set S n => h.SetOf (intKind P w) a S n
  | .ins C dx fs => H dx = some (.own a) ∧ fs.length ≤ 1000 ∧ dx ≠ a ∧ h.get? a = some (PySem.W.instObj C dx) ∧
      ∃ mA, h.Ns1 dx mA ∧ (∀ f, RelO (fs.lookup f) (mA f)) ∧ PySem.Within mA (fs.map (·.1))
  | .own _ => ∃ o, h.get? a = some o
  | .xd fs => ∃ mA, h.Ns1 a mA ∧ ∀ f, RelO (fs.lookup f) (mA f)
  | .rng lo hi => ∃ t u v, h.get? a = some { cls := .type "range", data := .fields #[.int lo t, .int hi u, .int 1 v] }
  | .frz o u => h.get? a = some o ∧ ObjOk H h a u
  | .tbl ps => h.get? a = some { cls := .none, data := .fields ps }
  | .met f x => h.get? a = some (PySem.W.methodObj (.ref f) (.ref x))
  | .ext φ => φ h ∧ (∃ o, h.get? a = some o) ∧ ∀ h1 h2 : Heap, φ h1 → (∀ o, h1.get? a = some o → h2.get? a = some o) → φ h2
def HOk (H : Hp) (h : Heap) : Prop := ∀ a o, H a = some o → ObjOk P w H h a o
end

section
variable {P : Program} {w : World} {H H' : Hp} {h h' : Heap} {a : Addr} {o : HO}
theorem ObjOk.lt (x : ObjOk P w H h a o) : a < h.objs.size := by
  cases o with
  | lst xs => obtain ⟨_, _, _, _, e⟩ := x; exact Heap.lt_size e
  | tup xs => obtain ⟨_, _, _, p⟩ := x; exact p.lt
  | dK kvs => obtain ⟨_, _, _, _, o, _, _, e, _⟩ := x; exact Heap.lt_size e
  | dT kvs => obtain ⟨_, _, _, _, o, _, _, e, _⟩ := x; exact Heap.lt_size e
  | set S n => obtain ⟨o, _, _, _, e, _⟩ := x; exact Heap.lt_size e
  | ins C dx fs => obtain ⟨_, _, _, e, _⟩ := x; exact Heap.lt_size e
  | own y => obtain ⟨_, e⟩ := x; exact Heap.lt_size e
  | xd fs => obtain ⟨_, ⟨_, _, _, e, _⟩, _⟩ := x; exact Heap.lt_size e
  | rng lo hi => obtain ⟨_, _, _, e⟩ := x; exact Heap.lt_size e
  | frz ob u => obtain ⟨e, _⟩ := x; exact Heap.lt_size e
  | tbl ps => exact Heap.lt_size (show h.get? a = some _ from x)
  | met f y => exact Heap.lt_size (show h.get? a = some _ from x)
  | ext φ => obtain ⟨_, ⟨_, e⟩, _⟩ := x; exact Heap.lt_size e
theorem Paired.mapP {α β : Type} {F G : α → β → Prop} : ∀ {l₁ : List α} {l₂ : List β}, Paired F l₁ l₂ → (∀ a b, F a b → G a b) → Paired G l₁ l₂
  | _, _, .nil, _ => .nil
  | _, _, .cons r t, f => .cons (f _ _ r) (Paired.mapP t f)
theorem ObjOk.stay (x : ObjOk P w H h a o) (k : ∀ b u, (b = a ∨ H b = some (.own a)) → h.get? b = some u → h'.get? b = some u)
    (ho : ∀ b, H b = some (.own a) → H' b = some (.own a)) (ht : ∀ b xs, H b = some (.tup xs) → H' b = some (.tup xs)) : ObjOk P w H' h' a o := by
  induction o with
  | lst xs => obtain ⟨z, its, n, r, e⟩ := x; exact ⟨z, its, n, r, k _ _ (.inl rfl) e⟩
  | tup xs => obtain ⟨z, its, r, ob, e, c⟩ := x; exact ⟨z, its, r, ob, k _ _ (.inl rfl) e, c⟩
  | dK kvs => obtain ⟨z, y, vs, r, ob, es, ep, e, c⟩ := x; exact ⟨z, y, vs, r, ob, es, ep, k _ _ (.inl rfl) e, c⟩
  | dT kvs =>
    obtain ⟨z, y, xs, r, ob, es, ep, e, c⟩ := x
    exact ⟨z, y, xs, Paired.mapP r fun p q z => ⟨z.1, ht _ _ z.2.1, z.2.2⟩, ob, es, ep, k _ _ (.inl rfl) e, c⟩
  | set S n => obtain ⟨ob, es, ep, t, e, c⟩ := x; exact ⟨ob, es, ep, t, k _ _ (.inl rfl) e, c⟩
  | ins C dx fs =>
    obtain ⟨d, z, ne, e, mA, ⟨od, es, ep, e2, c⟩, r⟩ := x
    exact ⟨ho _ d, z, ne, k _ _ (.inl rfl) e, mA, ⟨od, es, ep, k _ _ (.inr d) e2, c⟩, r⟩
  | own y => obtain ⟨ob, e⟩ := x; exact ⟨ob, k _ _ (.inl rfl) e⟩
  | xd fs => obtain ⟨mA, ⟨od, es, ep, e, c⟩, r⟩ := x; exact ⟨mA, ⟨od, es, ep, k _ _ (.inl rfl) e, c⟩, r⟩
  | rng lo hi => obtain ⟨t, u, v, e⟩ := x; exact ⟨t, u, v, k _ _ (.inl rfl) e⟩
  | frz ob u ih => obtain ⟨e, q⟩ := x; exact ⟨k _ _ (.inl rfl) e, ih q⟩
  | tbl ps =>
    have e : h.get? a = some { cls := .none, data := .fields ps } := x
    show h'.get? a = some { cls := .none, data := .fields ps }
    exact k a _ (.inl rfl) e
  | met f y =>
    have e : h.get? a = some (PySem.W.methodObj (.ref f) (.ref y)) := x
    show h'.get? a = some (PySem.W.methodObj (.ref f) (.ref y))
    exact k a _ (.inl rfl) e
  | ext φ => obtain ⟨p, ⟨o, e⟩, st⟩ := x; exact ⟨st _ _ p fun o q => k _ _ (.inl rfl) q, ⟨o, k _ _ (.inl rfl) e⟩, st⟩
theorem HOk.lt (x : HOk P w H h) (e : H a = some o) : a < h.objs.size := (x a o e).lt
theorem HOk.fresh (x : HOk P w H h) (e : h.objs.size ≤ a) : H a = none := by
  cases q : H a with
  | none => rfl
  | some u => exact absurd (Nat.lt_of_lt_of_le (x.lt q) e) (Nat.lt_irrefl _)
theorem HOk.kept (x : HOk P w H h) (k : ∀ b u, h.get? b = some u → h'.get? b = some u) : HOk P w H h' := fun a o e =>
  (x a o e).stay (fun b u _ q => k b u q) (fun _ q => q) fun _ _ q => q
theorem HOk.laid (x : HOk P w H h) (k : ∀ b u, h.get? b = some u → h'.get? b = some u) (hp : h.objs.size ≤ a) (new : ObjOk P w (upd H a o) h' a o) : HOk P w (upd H a o) h' := fun b u e => by
  have hn := x.fresh hp
  by_cases hb : b = a
  · subst hb; rw [upd_same] at e; cases e; exact new
  · rw [upd_ne hb] at e
    exact (x b u e).stay (fun c v _ q => k c v q) (fun c q => by rw [upd_ne (ne_of_none q hn)]; exact q) fun c xs q => by rw [upd_ne (ne_of_none q hn)]; exact q
end

def Rd (H : Hp) (a : Addr) (u : HO) : Prop := H a = some u ∨ ∃ o, H a = some (.frz o u)
theorem Rd.of {H : Hp} {a : Addr} {u : HO} (h : H a = some u) : Rd H a u := .inl h
theorem Rd.ok {P : Program} {w : World} {H : Hp} {h : Heap} {a : Addr} {u : HO} (r : Rd H a u) (x : HOk P w H h) : ObjOk P w H h a u := by
  rcases r with r | ⟨o, r⟩
  · exact x a u r
  · obtain ⟨_, q⟩ := x a _ r
    exact q
def Mut : Option HO → Prop
  | some (.lst _) => True
  | some (.dK _) => True
  | some (.dT _) => True
  | some (.set _ _) => True
  | some (.ins _ _ _) => True
  | some (.ext _) => True
  | _ => False
section
variable {P : Program} {w : World} {H : Hp} {h h' : Heap} {x e : Addr} {o' : HO}
theorem HOk.write (ok : HOk P w H h) (mu : Mut (H x)) (he : e = x ∨ H e = some (.own x)) (k : ∀ b u, b ≠ e → h.get? b = some u → h'.get? b = some u) (heo : ∃ u, h'.get? e = some u)
    (new : ObjOk P w (upd H x o') h' x o') : HOk P w (upd H x o') h' := fun b u q => by
  have nown : ∀ c y, H c = some (.own y) → c ≠ x := fun c y r z => by subst z; rw [r] at mu; exact mu
  have ntup : ∀ c xs, H c = some (.tup xs) → c ≠ x := fun c xs r z => by subst z; rw [r] at mu; exact mu
  by_cases hb : b = x
  · subst hb; rw [upd_same] at q; cases q; exact new
  · rw [upd_ne hb] at q
    by_cases hbe : b = e
    · have q' : H b = some (.own x) := by
        rcases he with z | z
        · exact absurd (hbe.trans z) hb
        · rw [hbe]; exact z
      rw [q] at q'; cases q'
      obtain ⟨v, hv⟩ := heo
      exact ⟨v, by rw [hbe]; exact hv⟩
    · refine (ok b u q).stay (fun c v hc r => k c v ?_ r) (fun c r => by rw [upd_ne (nown c b r)]; exact r) fun c xs r => by rw [upd_ne (ntup c xs r)]; exact r
      rcases hc with rfl | hc
      · exact hbe
      · rintro rfl
        rcases he with z | z
        · exact nown c b hc z
        · rw [hc] at z; cases z; exact hb rfl
end

structure Un (fs ex : List Addr) (H H' : Hp) (h h' : Heap) : Prop where
  keep : ∀ b o, h.get? b = some o → H b = none → b ∉ fs → b ∉ ex → h'.get? b = some o
  slot : ∀ b o, h.get? b = some o → H b = none → b ∈ fs → b ∉ ex → ∃ sl, h'.get? b = some { o with slots := sl }
  free : ∀ b o, h.get? b = some o → H b = none → b ∉ ex → H' b = none
  there : ∀ b o, h.get? b = some o → b ∉ ex → ∃ o', h'.get? b = some o'
  tups : ∀ b xs, H b = some (.tup xs) → H' b = some (.tup xs)
  frzs : ∀ b o u, H b = some (.frz o u) → H' b = some (.frz o u)
  tbls : ∀ b ps, H b = some (.tbl ps) → ∃ more, H' b = some (.tbl (ps ++ more))
section
variable {fs fs' ex ex' : List Addr} {H H1 H2 : Hp} {h h1 h2 h' : Heap} {a x e : Addr} {o : HO}
theorem Un.any (u : Un fs ex H H1 h h1) {b : Addr} {ob : Obj} (q : h.get? b = some ob) (n : H b = none) (hx : b ∉ ex) : ∃ sl, h1.get? b = some { ob with slots := sl } := by
  by_cases hb : b ∈ fs
  · exact u.slot b ob q n hb hx
  · exact ⟨ob.slots, u.keep b ob q n hb hx⟩
theorem Un.trans (a : Un fs ex H H1 h h1) (b : Un fs ex H1 H2 h1 h2) : Un fs ex H H2 h h2 where
  keep := fun c ob q n hc hx => b.keep c ob (a.keep c ob q n hc hx) (a.free c ob q n hx) hc hx
  slot := fun c ob q n hc hx => by
    obtain ⟨sl, e1⟩ := a.slot c ob q n hc hx
    obtain ⟨sl', e2⟩ := b.slot c _ e1 (a.free c ob q n hx) hc hx
    exact ⟨sl', e2⟩
  free := fun c ob q n hx => by
    obtain ⟨o', e1⟩ := a.there c ob q hx
    exact b.free c o' e1 (a.free c ob q n hx) hx
  there := fun c ob q hx => by
    obtain ⟨o', e1⟩ := a.there c ob q hx
    exact b.there c o' e1 hx
  tups := fun c xs q => b.tups c xs (a.tups c xs q)
  frzs := fun c ob xs q => b.frzs c ob xs (a.frzs c ob xs q)
  tbls := fun c ps q => by
    obtain ⟨m1, e1⟩ := a.tbls c ps q
    obtain ⟨m2, e2⟩ := b.tbls c _ e1
    exact ⟨m1 ++ m2, by rw [e2, Array.append_assoc]⟩
theorem Un.kept (k : ∀ b u, h.get? b = some u → h'.get? b = some u) : Un fs ex H H h h' :=
  ⟨fun b ob q _ _ _ => k b ob q, fun b ob q _ _ _ => ⟨ob.slots, k b ob q⟩, fun _ _ _ n _ => n, fun b ob q _ => ⟨ob, k b ob q⟩, fun _ _ q => q, fun _ _ _ q => q, fun _ ps q => ⟨#[], by rw [q]; simp⟩⟩
theorem Un.refl : Un fs ex H H h h := Un.kept fun _ _ q => q
theorem Un.laid (k : ∀ b u, h.get? b = some u → h'.get? b = some u) (hp : h.objs.size ≤ a) (hn : H a = none) : Un fs ex H (upd H a o) h h' where
  keep := fun b u q _ _ _ => k b u q
  slot := fun b u q _ _ _ => ⟨u.slots, k b u q⟩
  free := fun b u q n _ => by rw [upd_ne (Nat.ne_of_lt (Nat.lt_of_lt_of_le (Heap.lt_size q) hp))]; exact n
  there := fun b u q _ => ⟨u, k b u q⟩
  tups := fun b xs q => by rw [upd_ne (ne_of_none q hn)]; exact q
  frzs := fun b u xs q => by rw [upd_ne (ne_of_none q hn)]; exact q
  tbls := fun b ps q => ⟨#[], by rw [upd_ne (ne_of_none q hn), q]; simp⟩
theorem Un.write (mu : Mut (H x)) (he : e = x ∨ H e = some (.own x)) (k : ∀ b u, b ≠ e → h.get? b = some u → h'.get? b = some u) (heo : ∃ u, h'.get? e = some u) : Un fs ex H (upd H x o) h h' := by
  have hx : ∀ b, H b = none → b ≠ x := fun b n z => by subst z; rw [n] at mu; exact mu
  have hb : ∀ b, H b = none → b ≠ e := fun b n z => by
    subst z
    rcases he with r | r
    · exact hx b n r
    · rw [n] at r; cases r
  have hm : ∀ b u, H b = some u → ¬ Mut (some u) → b ≠ x := fun b u q nm z => by subst z; rw [q] at mu; exact nm mu
  refine ⟨fun b u q n _ _ => k b u (hb b n) q, fun b u q n _ _ => ⟨u.slots, k b u (hb b n) q⟩, fun b u q n _ => by rw [upd_ne (hx b n)]; exact n, fun b u q _ => ?_,
    fun b xs q => by rw [upd_ne (hm b _ q fun z => z)]; exact q, fun b u xs q => by rw [upd_ne (hm b _ q fun z => z)]; exact q, fun b ps q => ⟨#[], by rw [upd_ne (hm b _ q fun z => z), q]; simp⟩⟩
  by_cases hbe : b = e
  · subst hbe; exact heo
  · exact ⟨u, k b u hbe q⟩
theorem Un.mono (u : Un fs ex H H1 h h1) (hs : ∀ b ∈ fs, b ∈ fs') (hx : ∀ b ∈ ex, b ∈ ex') : Un fs' ex' H H1 h h1 :=
  ⟨fun b ob q n hb he => u.keep b ob q n (fun z => hb (hs b z)) fun z => he (hx b z), fun _ _ q n _ he => u.any q n fun z => he (hx _ z), fun b ob q n he => u.free b ob q n fun z => he (hx b z), fun b ob q he => u.there b ob q fun z => he (hx b z), u.tups, u.frzs, u.tbls⟩
end

def trk (h : Heap) (H : Hp) : List Addr := (List.range h.objs.size).filter fun a => (H a).isSome
def hidT (h : Heap) (H : Hp) : Heap := PySem.W.hideAll h (trk h H)
theorem hidT_size (h : Heap) (H : Hp) : (hidT h H).objs.size = h.objs.size := PySem.W.hideAll_size _ _
theorem hidT_get {h : Heap} {H : Hp} {b : Addr} {o : Obj} (e : h.get? b = some o) (n : H b = none) : (hidT h H).get? b = some o :=
  PySem.W.hideAll_get _ e fun hm => by
    have q : (H b).isSome = true := (List.mem_filter.mp hm).2
    rw [n] at q; simp at q
theorem of_hidT {h : Heap} {H : Hp} {b : Addr} {o : Obj} (e : (hidT h H).get? b = some o) : h.get? b = some o ∧ H b = none := by
  have e' : h.get? b = some o := PySem.W.of_hideAll (trk h H) e
  refine ⟨e', ?_⟩
  cases q : H b with
  | none => rfl
  | some x =>
    have hm : b ∈ trk h H := List.mem_filter.mpr ⟨List.mem_range.mpr (Heap.lt_size e'), by simp [q]⟩
    have z : (hidT h H).get? b = none := PySem.W.hideAll_none (trk h H) hm
    rw [z] at e; cases e

def allNews (g h : Heap) (L : Addr) : List (Addr × Obj) := (List.range h.objs.size).filterMap fun a => if a = L ∨ (g.get? a).isSome = true then none else (h.get? a).map fun o => (a, o)
def rest (g h : Heap) (L d : Addr) : List (Addr × Obj) := (allNews g h L).filter fun p => decide (p.1 ≠ d)
end L2

namespace L2
open PySem PySem.Spec PyProof.Rows

structure Mod (K : PySem.W.Frag) (mg : Str → Option Value) (base : Heap) : Prop where
  kin : K.In base
  glob : base.Ns mainGlobals mg
  blt : ∃ mb, base.Ns builtinsNs mb ∧ ∀ x : Str, x ≠ "__name__" → mb x = bootBuiltins x
  nolimit : base.NoLimit

structure Cx where
  prog : Program
  w : World
  K : PySem.W.Frag
  mg : Str → Option Value
  base : Heap
  A : Around
  N : List Str
  s_0 : Shared
  H_0 : Hp
  env : Env
  outer : List Env
  stack : List Env
  ex : List Addr
  fn : Str → Bool
  calm : Bool
  pn : List (Addr × Obj)
  xe : Value → Shared → Prop
def frs (l : List Env) : List Addr := l.filterMap (·.frame)
abbrev Cx.fs (X : Cx) : List Addr := frs X.outer

def Vis (sc : Scope) (x : Str) : Prop := sc.names.lookup x = some .local ∨ sc.names.lookup x = some .cell ∨ sc.names.lookup x = some .free
def Loc (sc : Scope) (x : Str) : Prop := sc.names.lookup x = some .local ∨ sc.names.lookup x = some .cell
def Look (env : Env) (h : Heap) (m : Str → Option Value) (x : Str) (u : Value) : Prop :=
  (env.kindOf x = some .local ∧ m x = some u) ∨ ((env.kindOf x = some .cell ∨ env.kindOf x = some .free) ∧ ∃ c, env.cells.lookup x = some c ∧ h.IsCell c (some u))

structure Cx.Ok (X : Cx) : Prop where
  mod : Mod X.K X.mg X.base
  kind : X.env.scope.kind = .function
  glob : X.env.globals = mainGlobals
  blt : X.env.builtins = builtinsNs
  above : X.s_0.heap.objs.size ≤ X.env.locals
  inj : ∀ x y c, X.env.cells.lookup x = some c → X.env.cells.lookup y = some c → x = y
  has : ∀ x, (X.env.kindOf x = some .cell ∨ X.env.kindOf x = some .free) → ∃ c, X.env.cells.lookup x = some c
  cab : ∀ x c, X.fn x = true → X.env.cells.lookup x = some c → X.s_0.heap.objs.size ≤ c
  hd : X.calm = true → X.A.handled = none
  frames : X.A.frames = some X.stack
  stk : X.stack = X.outer ∨ (X.stack = X.env :: X.outer ∧ X.env.frame = some X.env.locals)
  exf : ∀ b ∈ X.ex, b ≠ X.env.locals ∧ ∀ x c, X.env.cells.lookup x = some c → c ≠ b
  bs : ∀ b o, X.base.get? b = some o → X.s_0.heap.get? b = some o ∧ X.H_0 b = none
  bsz : X.base.objs.size ≤ X.s_0.heap.objs.size
  noex : ∀ b o, X.base.get? b = some o → b ∉ X.ex
  exfs : ∀ b ∈ X.ex, b ∉ X.fs
  funs : X.s_0.heap.FunFrames X.base X.outer
  frf : ∀ b ∈ X.fs, X.H_0 b = none

structure Inv (X : Cx) (pins : List (Addr × Obj)) (σ : List (Option V)) (H : Hp) (s : Shared) : Prop where
  ok : X.Ok
  os : s.os = X.s_0.os
  bare : AllBare s.gens
  base : Un X.fs X.ex X.H_0 H X.s_0.heap s.heap
  loc : ∃ m, s.heap.Ns X.env.locals m ∧ ∀ (i : Nat) (x : Str) (v : V), X.N[i]? = some x → σ[i]? = some (some v) → Vis X.env.scope x → ∃ u, RelV v u ∧ Look X.env s.heap m x u
  cell : ∀ x c, X.env.cells.lookup x = some c → ∃ v, s.heap.IsCell c v
  free : H X.env.locals = none
  freeC : ∀ x c, X.env.cells.lookup x = some c → H c = none
  pin : ∀ p ∈ X.pn ++ pins, s.heap.get? p.1 = some p.2 ∧ H p.1 = none ∧ p.1 ≠ X.env.locals ∧ p.1 ∉ X.fs ∧ ∀ v, p.2.data ≠ .cell v
  hok : HOk X.prog X.w H s.heap
  len : σ.length = X.N.length

section
variable {X : Cx} {pins : List (Addr × Obj)} {σ : List (Option V)} {H H' : Hp} {s : Shared} {h' : Heap}

theorem Cx.Ok.nofr (ok : X.Ok) {b : Addr} {o : Obj} (e : X.base.get? b = some o) : b ∉ X.fs := fun hb => by
  have := (ok.funs.mem hb).1
  rw [e] at this; cases this
theorem Inv.bs (I : Inv X pins σ H s) : ∀ b o, X.base.get? b = some o → s.heap.get? b = some o ∧ H b = none := fun b o e =>
  ⟨I.base.keep b o (I.ok.bs b o e).1 (I.ok.bs b o e).2 (I.ok.nofr e) (I.ok.noex b o e), I.base.free b o (I.ok.bs b o e).1 (I.ok.bs b o e).2 (I.ok.noex b o e)⟩
theorem Inv.bk (I : Inv X pins σ H s) : ∀ b o, X.base.get? b = some o → s.heap.get? b = some o := fun b o e => (I.bs b o e).1
theorem Inv.mod (I : Inv X pins σ H s) : Mod X.K X.mg X.base := I.ok.mod
theorem Inv.kIn (I : Inv X pins σ H s) : X.K.In s.heap := I.ok.mod.kin.keeps I.bk
theorem Inv.nolimit (I : Inv X pins σ H s) : s.heap.NoLimit := I.ok.mod.nolimit.keeps I.bk
theorem Inv.fr (I : Inv X pins σ H s) : ∃ m, Fr X.base X.env.locals s.heap m :=
  let ⟨m, hn, _⟩ := I.loc
  ⟨m, hn, I.bk, Nat.le_trans I.ok.bsz I.ok.above⟩
theorem Inv.lt (I : Inv X pins σ H s) : X.env.locals < s.heap.objs.size := let ⟨_, hn, _⟩ := I.loc; hn.lt
theorem Inv.sz (I : Inv X pins σ H s) : X.s_0.heap.objs.size ≤ s.heap.objs.size := Nat.le_trans I.ok.above (Nat.le_of_lt I.lt)
theorem Inv.nofs (I : Inv X pins σ H s) {a : Addr} (h : s.heap.objs.size ≤ a) : a ∉ X.fs := fun hb => by
  obtain ⟨_, o, ho, _⟩ := I.ok.funs.mem hb
  exact absurd (Nat.lt_of_lt_of_le (Heap.lt_size ho) (Nat.le_trans I.sz h)) (Nat.lt_irrefl _)
theorem Inv.cne (I : Inv X pins σ H s) : ∀ x c, X.env.cells.lookup x = some c → c ≠ X.env.locals := fun x c e z => by
  obtain ⟨v, o, ho, hd⟩ := I.cell x c e
  obtain ⟨m, ⟨o', es, ep, ho', hd', _⟩, _⟩ := I.loc
  rw [z, ho'] at ho; cases ho; rw [hd'] at hd; cases hd
theorem Inv.funs (I : Inv X pins σ H s) : s.heap.FunFrames X.base X.outer := by
  have all : ∀ (l : List Env), (∀ b ∈ frs l, b ∈ X.fs) → X.s_0.heap.FunFrames X.base l → s.heap.FunFrames X.base l := by
    intro l
    induction l with
    | nil => intro _ _; trivial
    | cons env r ih =>
      intro hs hl
      obtain ⟨hk, ⟨L, o, hf, hn, ho, hd⟩, hr⟩ := hl
      have hL : L ∈ X.fs := hs L (by unfold frs; rw [List.filterMap_cons, hf]; exact List.mem_cons_self)
      obtain ⟨sl, e⟩ := I.base.slot L o ho (I.ok.frf L hL) hL fun z => I.ok.exfs L z hL
      exact ⟨hk, ⟨L, _, hf, hn, e, hd⟩, ih (fun b hb => hs b (by unfold frs; rw [List.filterMap_cons, hf]; exact List.mem_cons_of_mem _ hb)) hr⟩
  exact all X.outer (fun _ hb => hb) I.ok.funs

theorem Inv.stack (I : Inv X pins σ H s) : s.heap.FunFrames X.base X.stack := by
  rcases I.ok.stk with e | ⟨e, hf⟩
  · rw [e]; exact I.funs
  · rw [e]
    obtain ⟨m, hn, _⟩ := I.loc
    refine .cons (by rw [I.ok.kind]; decide) hf hn ?_ I.funs
    exact Heap.get?_none_of_le (Nat.le_trans I.ok.bsz I.ok.above)
theorem Inv.stkSub (I : Inv X pins σ H s) : ∀ b ∈ frs X.stack, b ∈ X.env.locals :: X.fs := fun b hb => by
  rcases I.ok.stk with e | ⟨e, hf⟩
  · rw [e] at hb; exact List.mem_cons_of_mem _ hb
  · rw [e] at hb
    unfold frs at hb
    rw [List.filterMap_cons, hf] at hb
    exact hb
theorem Inv.stkFree (I : Inv X pins σ H s) : ∀ b ∈ frs X.stack, H b = none := fun b hb => by
  rcases List.mem_cons.mp (I.stkSub b hb) with e | hb
  · rw [e]; exact I.free
  · obtain ⟨_, o, ho, _⟩ := I.ok.funs.mem hb
    exact I.base.free b o ho (I.ok.frf b hb) fun z => I.ok.exfs b z hb

theorem Inv.step {g' : Array GenState} {t' : Nat} {d' : Drawn} {ch : List Addr} (I : Inv X pins σ H s)
    (hch : ∀ b ∈ ch, (b ∈ X.ex ∨ X.s_0.heap.objs.size ≤ b) ∧ b ≠ X.env.locals ∧ (∀ x c, X.env.cells.lookup x = some c → c ≠ b) ∧ ∀ p ∈ X.pn ++ pins, p.1 ≠ b)
    (keep : ∀ b o, b ≠ X.env.locals → b ∉ X.fs → b ∉ ch → s.heap.get? b = some o → H b = none → h'.get? b = some o)
    (slot : ∀ b o, b ≠ X.env.locals → b ∈ X.fs → b ∉ ch → s.heap.get? b = some o → H b = none → ∃ sl, h'.get? b = some { o with slots := sl }) (free : ∀ b o, b ∉ ch → s.heap.get? b = some o → H b = none → H' b = none)
    (there : ∀ b o, b ∉ ch → s.heap.get? b = some o → ∃ o', h'.get? b = some o')
    (tups : ∀ b xs, H b = some (.tup xs) → H' b = some (.tup xs)) (frzs : ∀ b o u, H b = some (.frz o u) → H' b = some (.frz o u)) (tbls : ∀ b ps, H b = some (.tbl ps) → ∃ more, H' b = some (.tbl (ps ++ more)))
    (ns : ∀ m, s.heap.Ns X.env.locals m → h'.Ns X.env.locals m) (hok : HOk X.prog X.w H' h') (hg : AllBare g') :
    Inv X pins σ H' { s with heap := h', gens := g', drawn := d', toks := t' } := by
  have neL : ∀ b o, X.s_0.heap.get? b = some o → b ≠ X.env.locals := fun b o e => Nat.ne_of_lt (Nat.lt_of_lt_of_le (Heap.lt_size e) I.ok.above)
  have neC : ∀ b o, X.s_0.heap.get? b = some o → b ∉ X.ex → b ∉ ch := fun b o e hx hb => by
    rcases (hch b hb).1 with z | z
    · exact hx z
    · exact absurd (Nat.lt_of_lt_of_le (Heap.lt_size e) z) (Nat.lt_irrefl _)
  have cellK : ∀ x c, X.env.cells.lookup x = some c → ∀ v, s.heap.IsCell c v → h'.IsCell c v := fun x c e v ⟨o, ho, hd⟩ => by
    have nch : c ∉ ch := fun z => (hch c z).2.2.1 x c e rfl
    by_cases hc : c ∈ X.fs
    · obtain ⟨sl, q⟩ := slot c o (I.cne x c e) hc nch ho (I.freeC x c e)
      exact ⟨_, q, hd⟩
    · exact ⟨o, keep c o (I.cne x c e) hc nch ho (I.freeC x c e), hd⟩
  refine ⟨I.ok, I.os, hg, ⟨fun b o e n hb hx => ?_, fun b o e n hb hx => ?_, fun b o e n hx => ?_, fun b o e hx => ?_, fun b xs e => tups b xs (I.base.tups b xs e), fun b o xs e => frzs b o xs (I.base.frzs b o xs e), fun b ps e => ?_⟩, ?_, fun x c e => ?_, ?_, fun x c e => ?_, fun p hp => ?_, hok, I.len⟩
  · exact keep b o (neL b o e) hb (neC b o e hx) (I.base.keep b o e n hb hx) (I.base.free b o e n hx)
  · obtain ⟨sl, e1⟩ := I.base.slot b o e n hb hx
    obtain ⟨sl', e2⟩ := slot b _ (neL b o e) hb (neC b o e hx) e1 (I.base.free b o e n hx)
    exact ⟨sl', e2⟩
  · obtain ⟨o', e1⟩ := I.base.there b o e hx
    exact free b o' (neC b o e hx) e1 (I.base.free b o e n hx)
  · obtain ⟨o', e1⟩ := I.base.there b o e hx
    exact there b o' (neC b o e hx) e1
  · obtain ⟨m1, e1⟩ := I.base.tbls b ps e
    obtain ⟨m2, e2⟩ := tbls b _ e1
    exact ⟨m1 ++ m2, by rw [e2, Array.append_assoc]⟩
  · obtain ⟨m, hn, hl⟩ := I.loc
    refine ⟨m, ns m hn, fun i x v e1 e2 e3 => ?_⟩
    obtain ⟨u, r, l⟩ := hl i x v e1 e2 e3
    refine ⟨u, r, ?_⟩
    rcases l with l | ⟨k, c, e, z⟩
    · exact .inl l
    · exact .inr ⟨k, c, e, cellK x c e _ z⟩
  · obtain ⟨v, z⟩ := I.cell x c e
    exact ⟨v, cellK x c e v z⟩
  · obtain ⟨m, ⟨o, _, _, ho, _⟩, _⟩ := I.loc
    exact free _ o (fun z => (hch _ z).2.1 rfl) ho I.free
  · obtain ⟨v, o, ho, hd⟩ := I.cell x c e
    exact free c o (fun z => (hch c z).2.2.1 x c e rfl) ho (I.freeC x c e)
  · obtain ⟨e, n, ne, nf, d⟩ := I.pin p hp
    have nch : p.1 ∉ ch := fun z => (hch p.1 z).2.2.2 p hp rfl
    exact ⟨keep p.1 p.2 ne nf nch e n, free p.1 p.2 nch e n, ne, nf, d⟩
theorem Inv.un {t' : Nat} (I : Inv X pins σ H s) (u : Un X.fs [] H H' s.heap h') (hok : HOk X.prog X.w H' h') : Inv X pins σ H' { s with heap := h', toks := t' } := by
  obtain ⟨m, ⟨o, es, ep, ho, r⟩, _⟩ := id I.loc
  obtain ⟨sl, hL⟩ := u.any ho I.free (by simp)
  exact I.step (g' := s.gens) (d' := s.drawn) (ch := []) (fun _ z => nomatch z) (fun b o _ hb _ e n => u.keep b o e n hb (by simp)) (fun b o _ hb _ e n => u.slot b o e n hb (by simp)) (fun b o _ e n => u.free b o e n (by simp)) (fun b o _ e => u.there b o e (by simp)) u.tups u.frzs u.tbls (fun m' hm => by
    obtain ⟨o', es', ep', ho', r'⟩ := hm
    rw [ho] at ho'; cases ho'
    exact ⟨_, es', ep', hL, r'⟩) hok I.bare
theorem Inv.call {g' : Array GenState} {t' : Nat} {d' : Drawn} {ch : List Addr} (I : Inv X pins σ H s) (u : Un (frs X.stack) ch H H' s.heap h') (hok : HOk X.prog X.w H' h') (hg : AllBare g')
    (hch : ∀ b ∈ ch, (b ∈ X.ex ∨ X.s_0.heap.objs.size ≤ b) ∧ b ≠ X.env.locals ∧ (∀ x c, X.env.cells.lookup x = some c → c ≠ b) ∧ ∀ p ∈ X.pn ++ pins, p.1 ≠ b) :
    Inv X pins σ H' { s with heap := h', gens := g', drawn := d', toks := t' } := by
  obtain ⟨m, ⟨o, es, ep, ho, r⟩, _⟩ := id I.loc
  obtain ⟨sl, hL⟩ := u.any ho I.free fun z => (hch _ z).2.1 rfl
  exact I.step (ch := ch) hch (fun b o hL hb hc e n => u.keep b o e n (fun z => (List.mem_cons.mp (I.stkSub b z)).elim hL hb) hc) (fun b o _ _ hc e n => u.any e n hc) (fun b o hc e n => u.free b o e n hc) (fun b o hc e => u.there b o e hc) u.tups u.frzs u.tbls (fun m' hm => by
    obtain ⟨o', es', ep', ho', r'⟩ := hm
    rw [ho] at ho'; cases ho'
    exact ⟨_, es', ep', hL, r'⟩) hok hg
theorem Inv.turned {t' : Nat} {it : Addr} (I : Inv X pins σ H s) (k : ∀ b o, b ≠ it → s.heap.get? b = some o → h'.get? b = some o) (hn : H it = none) (hL : it ≠ X.env.locals)
    (h1 : it ∈ X.ex ∨ X.s_0.heap.objs.size ≤ it) (h2 : ∀ x c, X.env.cells.lookup x = some c → c ≠ it) (h3 : ∀ p ∈ X.pn ++ pins, p.1 ≠ it) : Inv X pins σ H { s with heap := h', toks := t' } := by
  have nit : ∀ b u, H b = some u → b ≠ it := fun b u e z => by rw [z, hn] at e; cases e
  refine I.step (g' := s.gens) (d' := s.drawn) (ch := [it]) (fun b hb => ?_) (fun b o _ _ hc e _ => k b o (fun z => hc (by simp [z])) e) (fun b o _ _ hc e _ => ⟨o.slots, k b o (fun z => hc (by simp [z])) e⟩) (fun _ _ _ _ n => n)
    (fun b o hc e => ⟨o, k b o (fun z => hc (by simp [z])) e⟩) (fun _ _ e => e) (fun _ _ _ e => e) (fun b ps e => ⟨#[], by rw [e]; simp⟩) (fun m hm => ?_) (fun b u e => ?_) I.bare
  · have e : b = it := by simpa using hb
    subst e
    exact ⟨h1, hL, h2, h3⟩
  · obtain ⟨o, es, ep, ho, r⟩ := hm
    exact ⟨o, es, ep, k _ o (Ne.symm hL) ho, r⟩
  · refine (I.hok b u e).stay (fun c v hc q => k c v ?_ q) (fun _ q => q) fun _ _ q => q
    rcases hc with z | z
    · rw [z]; exact nit b u e
    · exact nit c _ z
theorem Inv.tok (I : Inv X pins σ H s) (t : Nat) : Inv X pins σ H { s with toks := t } := I.un (h' := s.heap) (t' := t) Un.refl I.hok
theorem Inv.kept {t' : Nat} (I : Inv X pins σ H s) (k : ∀ b u, s.heap.get? b = some u → h'.get? b = some u) : Inv X pins σ H { s with heap := h', toks := t' } := I.un (Un.kept k) (I.hok.kept k)
theorem Inv.laid {a : Addr} {o : HO} {t' : Nat} (I : Inv X pins σ H s) (k : ∀ b u, s.heap.get? b = some u → h'.get? b = some u) (hp : s.heap.objs.size ≤ a) (new : ObjOk X.prog X.w (upd H a o) h' a o) :
    Inv X pins σ (upd H a o) { s with heap := h', toks := t' } := I.un (Un.laid k hp (I.hok.fresh hp)) (I.hok.laid k hp new)
theorem Inv.write {x e : Addr} {o : HO} {t' : Nat} (I : Inv X pins σ H s) (mu : Mut (H x)) (he : e = x ∨ H e = some (.own x)) (k : ∀ b u, b ≠ e → s.heap.get? b = some u → h'.get? b = some u) (heo : ∃ u, h'.get? e = some u)
    (new : ObjOk X.prog X.w (upd H x o) h' x o) : Inv X pins σ (upd H x o) { s with heap := h', toks := t' } := I.un (Un.write mu he k heo) (I.hok.write mu he k heo new)
theorem Inv.weak {σ' : List (Option V)} (I : Inv X pins σ H s) (hl : σ'.length = σ.length) (w : ∀ (i : Nat) v, σ'[i]? = some (some v) → σ[i]? = some (some v)) : Inv X pins σ' H s :=
  ⟨I.ok, I.os, I.bare, I.base, let ⟨m, hn, hl'⟩ := I.loc; ⟨m, hn, fun i x v e1 e2 e3 => hl' i x v e1 (w i v e2) e3⟩, I.cell, I.free, I.freeC, I.pin, I.hok, hl.trans I.len⟩
theorem Inv.pins_of {pins' : List (Addr × Obj)} (I : Inv X pins σ H s) (h : ∀ p ∈ pins', s.heap.get? p.1 = some p.2 ∧ H p.1 = none ∧ p.1 ≠ X.env.locals ∧ p.1 ∉ X.fs ∧ ∀ v, p.2.data ≠ .cell v) : Inv X pins' σ H s :=
  ⟨I.ok, I.os, I.bare, I.base, I.loc, I.cell, I.free, I.freeC, fun p hp => (List.mem_append.mp hp).elim (fun z => I.pin p (List.mem_append_left _ z)) (h p), I.hok, I.len⟩

theorem nodup_ix {N : List Str} (hN : N.Nodup) {i j : Nat} {x : Str} (a : N[i]? = some x) (b : N[j]? = some x) : i = j := by
  obtain ⟨h1, e1⟩ := List.getElem?_eq_some_iff.mp a
  obtain ⟨h2, e2⟩ := List.getElem?_eq_some_iff.mp b
  exact (List.getElem_inj hN).mp (e1.trans e2.symm)

theorem store_ok2 {M : Model} {A : Around} {E : Value → Shared → Prop} {i : Nat} {x : Str} {v : V} {u : Value} {Q : Unit → Shared → Prop} (I : Inv X pins σ H s) (hN : X.N.Nodup) (hi : X.N[i]? = some x) (hx : Loc X.env.scope x) (r : RelV v u)
    (h : ∀ s', Inv X pins (σ.set i (some v)) H s' → (∃ a, Heap.SameBut a s.heap s'.heap ∧ (a = X.env.locals ∨ X.env.cells.lookup x = some a)) → Q () s') (hf : X.fn x = true ∨ X.env.scope.names.lookup x = some .local := by first | exact .inl rfl | exact .inr rfl | assumption) : wpAny M A (storeName X.env x u) Q E s := by
  obtain ⟨m, hn, hl⟩ := id I.loc
  have hcls : (X.env.scope.kind == .class || (X.env.scope.kind == .module && X.env.locals != X.env.globals)) = false := by rw [I.ok.kind]; rfl
  have hiσ : i < σ.length := by rw [I.len]; exact (List.getElem?_eq_some_iff.mp hi).1
  have cne := I.cne
  have tracked : ∀ {a : Addr} {h' : Heap}, (∃ o, s.heap.get? a = some o ∧ H a = none) → Heap.SameBut a s.heap h' → HOk X.prog X.w H h' := fun {a h'} ha hs b ob e => by
    obtain ⟨_, _, hfree⟩ := ha
    refine (I.hok b ob e).stay (fun c w' hc q => (hs.2 c ?_).trans q) (fun _ q => q) fun _ _ q => q
    rintro rfl
    rcases hc with rfl | hc
    · rw [hfree] at e; cases e
    · rw [hfree] at hc; cases hc
  rcases hx with hk | hk
  · refine wpAny_storeName_local hk hn (fun h' hn' hs => ?_) hcls
    obtain ⟨oL, _, _, hoL, _⟩ := id hn
    refine h _ ⟨I.ok, I.os, I.bare, ⟨fun b o e n hb hx => ?_, fun b o e n hb hx => ?_, I.base.free, fun b o e hx => ?_, I.base.tups, I.base.frzs, I.base.tbls⟩, ⟨_, hn', fun j y v' e1 e2 e3 => ?_⟩, fun y c e => ?_, I.free, I.freeC, fun p hp => ?_, tracked ⟨oL, hoL, I.free⟩ hs, by simpa using I.len⟩ ⟨_, hs, .inl rfl⟩
    · exact (hs.2 b (Nat.ne_of_lt (Nat.lt_of_lt_of_le (Heap.lt_size e) I.ok.above))).trans (I.base.keep b o e n hb hx)
    · obtain ⟨sl, e1⟩ := I.base.slot b o e n hb hx
      exact ⟨sl, (hs.2 b (Nat.ne_of_lt (Nat.lt_of_lt_of_le (Heap.lt_size e) I.ok.above))).trans e1⟩
    · obtain ⟨o', e1⟩ := I.base.there b o e hx
      exact ⟨o', (hs.2 b (Nat.ne_of_lt (Nat.lt_of_lt_of_le (Heap.lt_size e) I.ok.above))).trans e1⟩
    · by_cases hj : j = i
      · subst hj
        rw [hi] at e1; cases e1
        rw [List.getElem?_set_self hiσ] at e2
        cases e2
        exact ⟨u, r, .inl ⟨hk, by simp⟩⟩
      · rw [List.getElem?_set_ne (Ne.symm hj)] at e2
        obtain ⟨u', r', q⟩ := hl j y v' e1 e2 e3
        refine ⟨u', r', ?_⟩
        rcases q with ⟨k, e⟩ | ⟨k, c, e, z⟩
        · refine .inl ⟨k, ?_⟩
          have : y ≠ x := fun e => hj (nodup_ix hN e1 (e ▸ hi))
          simp [this, e]
        · exact .inr ⟨k, c, e, z.sameBut hs (cne y c e)⟩
    · obtain ⟨w', z⟩ := I.cell y c e
      exact ⟨w', z.sameBut hs (cne y c e)⟩
    · obtain ⟨e, n, ne, nf, d⟩ := I.pin p hp
      exact ⟨(hs.2 p.1 ne).trans e, n, ne, nf, d⟩
  · have hfn : X.fn x = true := by
      rcases hf with z | z
      · exact z
      · rw [z] at hk; cases hk
    obtain ⟨c, hc⟩ := I.ok.has x (.inl hk)
    obtain ⟨w', z⟩ := I.cell x c hc
    refine wpAny_storeName_cell I.ok.kind hk hc z (fun h' hc' hs => ?_)
    obtain ⟨oc, hoc, hocd⟩ := id z
    refine h { s with heap := h' } ⟨I.ok, I.os, I.bare, ⟨fun b o e n hb hx => ?_, fun b o e n hb hx => ?_, I.base.free, fun b o e hx => ?_, I.base.tups, I.base.frzs, I.base.tbls⟩, ⟨m, hn.sameBut hs (Ne.symm (cne x c hc)), fun j y v' e1 e2 e3 => ?_⟩, fun y c' e => ?_, I.free, I.freeC, fun p hp => ?_, tracked ⟨oc, hoc, I.freeC x c hc⟩ hs, by simpa using I.len⟩ ⟨c, hs, .inr hc⟩
    · exact (hs.2 b (Nat.ne_of_lt (Nat.lt_of_lt_of_le (Heap.lt_size e) (I.ok.cab x c hfn hc)))).trans (I.base.keep b o e n hb hx)
    · obtain ⟨sl, e1⟩ := I.base.slot b o e n hb hx
      exact ⟨sl, (hs.2 b (Nat.ne_of_lt (Nat.lt_of_lt_of_le (Heap.lt_size e) (I.ok.cab x c hfn hc)))).trans e1⟩
    · obtain ⟨o', e1⟩ := I.base.there b o e hx
      exact ⟨o', (hs.2 b (Nat.ne_of_lt (Nat.lt_of_lt_of_le (Heap.lt_size e) (I.ok.cab x c hfn hc)))).trans e1⟩
    · by_cases hj : j = i
      · subst hj
        rw [hi] at e1; cases e1
        rw [List.getElem?_set_self hiσ] at e2
        cases e2
        exact ⟨u, r, .inr ⟨.inl hk, c, hc, hc'⟩⟩
      · rw [List.getElem?_set_ne (Ne.symm hj)] at e2
        obtain ⟨u', r', q⟩ := hl j y v' e1 e2 e3
        refine ⟨u', r', ?_⟩
        rcases q with q | ⟨k, c', e, z'⟩
        · exact .inl q
        · refine .inr ⟨k, c', e, z'.sameBut hs ?_⟩
          rintro rfl
          exact hj (nodup_ix hN e1 (I.ok.inj _ _ _ e hc ▸ hi))
    · by_cases hcc : c' = c
      · subst hcc; exact ⟨_, hc'⟩
      · obtain ⟨w2, z2⟩ := I.cell y c' e
        exact ⟨w2, z2.sameBut hs hcc⟩
    · obtain ⟨e, n, ne, nf, d⟩ := I.pin p hp
      refine ⟨(hs.2 p.1 ?_).trans e, n, ne, nf, d⟩
      intro q
      rw [q, hoc] at e
      have q' : oc = p.2 := Option.some.inj e
      exact d w' (by rw [← q']; exact hocd)
theorem store_ok {M : Model} {A : Around} {E : Value → Shared → Prop} {i : Nat} {x : Str} {v : V} {u : Value} {Q : Unit → Shared → Prop} (I : Inv X pins σ H s) (hN : X.N.Nodup) (hi : X.N[i]? = some x) (hx : Loc X.env.scope x) (r : RelV v u)
    (h : ∀ s', Inv X pins (σ.set i (some v)) H s' → Q () s') (hf : X.fn x = true ∨ X.env.scope.names.lookup x = some .local := by first | exact .inl rfl | exact .inr rfl | assumption) : wpAny M A (storeName X.env x u) Q E s :=
  store_ok2 I hN hi hx r (fun s' I' _ => h s' I') hf
theorem Inv.call' {s' : Shared} {ch : List Addr} (I : Inv X pins σ H s) (ho : s'.os = s.os) (u : Un (frs X.stack) ch H H' s.heap s'.heap) (hok : HOk X.prog X.w H' s'.heap) (hg : AllBare s'.gens)
    (hch : ∀ b ∈ ch, (b ∈ X.ex ∨ X.s_0.heap.objs.size ≤ b) ∧ b ≠ X.env.locals ∧ (∀ x c, X.env.cells.lookup x = some c → c ≠ b) ∧ ∀ p ∈ X.pn ++ pins, p.1 ≠ b) : Inv X pins σ H' s' := by
  obtain ⟨h', g', d', t', o'⟩ := s'
  have e : o' = s.os := ho
  subst e
  exact I.call (g' := g') (t' := t') (d' := d') u hok hg hch
end

abbrev XK := Value → Option Addr → Hp → Prop
abbrev St := List (Option V)
abbrev VK := V → Hp → Prop
abbrev TE := St → Hp → VK → Prop
abbrev TT := St → Hp → (Bool → Hp → Prop) → Prop
abbrev TA := St → Hp → (List V → Hp → Prop) → Prop
structure Ends where
  nx : St → Hp → Prop
  rt : VK
  bk : St → Hp → Prop := fun _ _ => False
  ct : St → Hp → Prop := fun _ _ => False
abbrev TS := Ends → St → Hp → Prop

def EP (X : Cx) (pins : List (Addr × Obj)) (σ : St) (Q : VK) (u : Value) (s' : Shared) : Prop := ∃ v H', Inv X pins σ H' s' ∧ RelV v u ∧ Q v H'
def TP (X : Cx) (pins : List (Addr × Obj)) (σ : St) (Q : Bool → Hp → Prop) (b : Bool) (s' : Shared) : Prop := ∃ H', Inv X pins σ H' s' ∧ Q b H'
def AP (X : Cx) (pins : List (Addr × Obj)) (σ : St) (Q : List V → Hp → Prop) (us : List Value) (s' : Shared) : Prop := ∃ vs H', Inv X pins σ H' s' ∧ Vals vs us ∧ Q vs H'
def SP (X : Cx) (pins : List (Addr × Obj)) (D : Ends) (f : Flow) (s' : Shared) : Prop :=
  match f with
  | .next => ∃ σ' H', Inv X pins σ' H' s' ∧ D.nx σ' H'
  | .brk => ∃ σ' H', Inv X pins σ' H' s' ∧ D.bk σ' H'
  | .cont => ∃ σ' H', Inv X pins σ' H' s' ∧ D.ct σ' H'
  | .ret u => ∃ v σ' H', Inv X pins σ' H' s' ∧ RelV v u ∧ D.rt v H'

def PE (X : Cx) (e : Expr) (t : TE) : Prop :=
  ∀ (pins : List (Addr × Obj)) (s : Shared) (σ : St) (H : Hp) (Q : VK), Inv X pins σ H s → t σ H Q → wpAny (model X.prog X.w) X.A (eval e X.env) (EP X pins σ Q) X.xe s
def PT (X : Cx) (e : Expr) (t : TT) : Prop :=
  ∀ (pins : List (Addr × Obj)) (s : Shared) (σ : St) (H : Hp) (Q : Bool → Hp → Prop), Inv X pins σ H s → t σ H Q → wpAny (model X.prog X.w) X.A (isTrue e X.env (eval e X.env)) (TP X pins σ Q) X.xe s
def PW (X : Cx) (e : Expr) (t : TT) : Prop :=
  ∀ (whole : Sem Value) (pins : List (Addr × Obj)) (s : Shared) (σ : St) (H : Hp) (Q : Bool → Hp → Prop), Inv X pins σ H s → t σ H Q → wpAny (model X.prog X.w) X.A (isTrue e X.env whole) (TP X pins σ Q) X.xe s
theorem PW.pt {X : Cx} {e : Expr} {t : TT} (h : PW X e t) : PT X e t := h _
def PA (X : Cx) (es : List Expr) (t : TA) : Prop :=
  ∀ (pos : Pos) (pins : List (Addr × Obj)) (s : Shared) (σ : St) (H : Hp) (Q : List V → Hp → Prop), Inv X pins σ H s → t σ H Q → wpAny (model X.prog X.w) X.A (spliced (backTo pos (starEach es X.env))) (AP X pins σ Q) X.xe s
def PS (X : Cx) (st : Stmt) (t : TS) : Prop :=
  ∀ (pins : List (Addr × Obj)) (s : Shared) (σ : St) (H : Hp) (D : Ends), Inv X pins σ H s → t D σ H → wpAny (model X.prog X.w) X.A (exec st X.env) (SP X pins D) X.xe s
def PSs (X : Cx) (st : List Stmt) (t : TS) : Prop :=
  ∀ (pins : List (Addr × Obj)) (s : Shared) (σ : St) (H : Hp) (D : Ends), Inv X pins σ H s → t D σ H → wpAny (model X.prog X.w) X.A (execs st X.env) (SP X pins D) X.xe s
theorem thn {α : Type} {t : Sem α} {Q Q' : α → Shared → Prop} {M : Model} {A : Around} {E : Value → Shared → Prop} {s : Shared} (h : wpAny M A t Q E s) (hQ : ∀ a s, Q a s → Q' a s) : wpAny M A t Q' E s := wpAny_mono h hQ fun _ _ x => x
end L2

namespace L2
open PySem PySem.Spec PyProof.Rows
section
variable {X : Cx}

def tVar (i : Nat) : TE := fun σ H Q => ∃ v, σ[i]? = some (some v) ∧ Q v H
def tC (v : V) : TE := fun _ H Q => Q v H
theorem pe_var {i : Nat} {x : Str} {pos : Pos} (hN : X.N[i]? = some x) (hv : Vis X.env.scope x) (hd : (x == ("__debug__" : Str)) = false := by decide) (hcd : (x == ("__classdict__" : Str)) = false := by decide) : PE X (.Name x pos) (tVar i) := by
  intro pins s σ H Q I h
  obtain ⟨v, e, h⟩ := h
  obtain ⟨m, hn, hl⟩ := I.loc
  obtain ⟨u, r, l⟩ := hl i x v hN e hv
  have fin : EP X pins σ Q u s := ⟨v, H, I, r, h⟩
  rcases l with ⟨hk, hm⟩ | ⟨hk, c, hc, hcell⟩
  · exact wpAny_Name (wpAny_loadName_local I.ok.kind hk hn hm fin) hd
  · rcases hk with hk | hk
    · exact wpAny_Name (wpAny_loadName_cell I.ok.kind hk hc hcell fin) hd
    · exact wpAny_Name (wpAny_loadName_free I.ok.kind hk hc hcell fin hcd) hd
theorem pe_int {i j pos} : PE X (.Constant (.int i) j pos) (tC (.int i)) := fun _ _ _ H _ I h => wpAny_Constant_int ⟨.int i, H, I.tok _, ⟨_, rfl⟩, h⟩
def Gl (X : Cx) (x : Str) : Prop := X.env.kindOf x = some .globalImplicit
theorem ld_glob {E : Value → Shared → Prop} {pins : List (Addr × Obj)} {s : Shared} {σ : St} {H : Hp} {x : Str} {u : Value} {pos : Pos} {Q : Value → Shared → Prop} (I : Inv X pins σ H s) (hg : Gl X x) (hm : X.mg x = some u) (h : Q u s)
    (hd : (x == ("__debug__" : Str)) = false := by decide) : wpAny (model X.prog X.w) X.A (eval (.Name x pos) X.env) Q E s :=
  Calls.Name_function_global I.ok.kind hg (Calls.loadGlobal_global (by rw [I.ok.glob]; exact I.mod.glob.keeps I.bk) hm h) hd
theorem ld_blt {E : Value → Shared → Prop} {pins : List (Addr × Obj)} {s : Shared} {σ : St} {H : Hp} {x : Str} {u : Value} {pos : Pos} {Q : Value → Shared → Prop} (I : Inv X pins σ H s) (hg : Gl X x) (hm : X.mg x = none) (hv : bootBuiltins x = some u) (h : Q u s)
    (hn : x ≠ "__name__" := by decide) (hd : (x == ("__debug__" : Str)) = false := by decide) : wpAny (model X.prog X.w) X.A (eval (.Name x pos) X.env) Q E s := by
  obtain ⟨mb, h1, h2⟩ := I.mod.blt
  exact Calls.Name_function_global I.ok.kind hg (Calls.loadGlobal_builtin (by rw [I.ok.glob]; exact I.mod.glob.keeps I.bk) hm (by rw [I.ok.blt]; exact h1.keeps I.bk) ((h2 x hn).trans hv) h) hd
theorem pe_glob {x : Str} {v : V} {u : Value} {pos : Pos} (hg : Gl X x) (hm : X.mg x = some u) (r : RelV v u) (hd : (x == ("__debug__" : Str)) = false := by decide) : PE X (.Name x pos) (tC v) :=
  fun _ _ _ H _ I h => ld_glob I hg hm ⟨v, H, I, r, h⟩ hd
variable {a b : Expr} {ta tb : TE} {pos : Pos}
def tB (t : TE) : TT := fun σ H Q => t σ H fun x H1 => ∃ c, x = .bl c ∧ Q c H1
theorem pt_val {e : Expr} {t : TE} (h : PE X e t) (he : ∀ whole, isTrue e X.env whole = (do let v ← whole; standAt e.pos; holding [v] (truthy v)) := by intro _; rfl) : PT X e (tB t) := by
  intro pins s σ H Q I hw
  refine isTrue_plain (thn (h pins s σ H _ I hw) fun v s1 ⟨x, H1, I1, r1, q1⟩ => ?_) (he _)
  obtain ⟨d, rfl, q⟩ := q1
  cases r1
  exact wpAny_truthy_bool ⟨H1, I1, q⟩

variable {tA tB' : TT} {rest : List Expr}
def tAnd (t u : TT) : TT := fun σ H Q => t σ H fun c H1 => if c = true then u σ H1 Q else Q false H1
def tOr (t u : TT) : TT := fun σ H Q => t σ H fun c H1 => if c = true then Q true H1 else u σ H1 Q
def tNot (t : TT) : TT := fun σ H Q => t σ H fun c H1 => Q (!c) H1
theorem pw_and1 (ha : PT X a tA) : PW X (.BoolOp .And [a] pos) tA := by
  intro wh pins s σ H Q I h
  refine isTrue_and (thn (ha pins s σ H Q I h) fun c s1 e => ?_)
  cases c with
  | true => exact isTrue_and_nil e
  | false => exact e
theorem pw_or1 (ha : PT X a tA) : PW X (.BoolOp .Or [a] pos) tA := by
  intro wh pins s σ H Q I h
  refine isTrue_or (thn (ha pins s σ H Q I h) fun c s1 e => ?_)
  cases c with
  | false => exact isTrue_or_nil e
  | true => exact e
theorem pw_and (ha : PT X a tA) (hb : PW X (.BoolOp .And (b :: rest) pos) tB') : PW X (.BoolOp .And (a :: b :: rest) pos) (tAnd tA tB') := by
  intro wh pins s σ H Q I h
  refine isTrue_and (thn (ha pins s σ H _ I h) fun c s1 ⟨H1, I1, q1⟩ => ?_)
  cases c with
  | true => exact hb wh pins s1 σ H1 Q I1 q1
  | false => exact ⟨H1, I1, q1⟩
theorem pw_or (ha : PT X a tA) (hb : PW X (.BoolOp .Or (b :: rest) pos) tB') : PW X (.BoolOp .Or (a :: b :: rest) pos) (tOr tA tB') := by
  intro wh pins s σ H Q I h
  refine isTrue_or (thn (ha pins s σ H _ I h) fun c s1 ⟨H1, I1, q1⟩ => ?_)
  cases c with
  | true => exact ⟨H1, I1, q1⟩
  | false => exact hb wh pins s1 σ H1 Q I1 q1
theorem pt_not (ha : PT X a tA) : PT X (.UnaryOp .Not a pos) (tNot tA) := by
  intro pins s σ H Q I h
  exact isTrue_not (ha pins s σ H (fun c H1 => Q (!c) H1) I h)
def tAndV (ta tb : TE) : TE := fun σ H Q => ta σ H fun x H1 => ∃ c, x = .bl c ∧ if c = true then tb σ H1 Q else Q (.bl false) H1
def tOrV (ta tb : TE) : TE := fun σ H Q => ta σ H fun x H1 => ∃ c, x = .bl c ∧ if c = true then Q (.bl true) H1 else tb σ H1 Q
def tNotV (ta : TE) : TE := fun σ H Q => ta σ H fun x H1 => ∃ c, x = .bl c ∧ Q (.bl (!c)) H1
theorem pe_one {op} {t : TE} (h : PE X a t) : PE X (.BoolOp op [a] pos) t := fun pins s σ H Q I hw => BoolOp_one (h pins s σ H Q I hw)
theorem pe_and (ha : PE X a ta) (hb : PE X (.BoolOp .And (b :: rest) pos) tb) : PE X (.BoolOp .And (a :: b :: rest) pos) (tAndV ta tb) := by
  intro pins s σ H Q I h
  refine BoolOp_and (thn (ha pins s σ H _ I h) fun v s1 ⟨x, H1, I1, r1, q1⟩ => ?_)
  obtain ⟨c, rfl, q1⟩ := q1
  cases r1
  refine wpAny_truthy_bool ?_
  cases c with
  | true => exact hb pins s1 σ H1 Q I1 q1
  | false => exact ⟨.bl false, H1, I1, rfl, q1⟩
def tIf (t : TT) (ta tb : TE) : TE := fun σ H Q => t σ H fun c H1 => if c = true then ta σ H1 Q else tb σ H1 Q
end
end L2

namespace L2
open PySem PySem.Spec PyProof.Rows

def SqL (K : PySem.W.Frag) (H : Hp) (a : Addr) (xs : List V) : Prop :=
  Rd H a (.lst xs) ∨
    ∃ (o : Obj) (its : Array Value) (n : Nat), K.lookup a = some o ∧ o.cls = .type "list" ∧ o.dict = none ∧ o.data = .seq its n ∧ its.size ≤ sizeLine ∧ Vals xs its.toList
def SqT (K : PySem.W.Frag) (H : Hp) (a : Addr) (xs : List V) : Prop :=
  Rd H a (.tup xs) ∨
    ∃ (o : Obj) (its : Array Value) (n : Nat), K.lookup a = some o ∧ o.cls = .type "tuple" ∧ o.data = .seq its n ∧ its.size ≤ sizeLine ∧ Vals xs its.toList
def absV : Value → Option V
  | .none => some .non
  | .bool b => some (.bl b)
  | .int i _ => some (.int i)
  | .str x _ => some (.str x)
  | .bytes b _ => some (.byt b)
  | .float b _ => some (.flt b)
  | .ref a => some (.ref a)
  | .type n => some (.ty n)
  | _ => none
theorem RelV.abs {x : V} {u : Value} (r : RelV x u) : absV u = some x := by
  cases x with
  | non => cases r; rfl
  | bl _ => cases r; rfl
  | int _ => obtain ⟨t, rfl⟩ := r; rfl
  | str _ => obtain ⟨t, rfl⟩ := r; rfl
  | byt _ => obtain ⟨t, rfl⟩ := r; rfl
  | flt _ => obtain ⟨t, rfl⟩ := r; rfl
  | ref _ => cases r; rfl
  | ty _ => cases r; rfl
theorem RelV.inj {x y : V} {u : Value} (r : RelV x u) (q : RelV y u) : x = y := Option.some.inj (r.abs.symm.trans q.abs)
theorem Vals.inj : ∀ {xs ys : List V} {us : List Value}, Vals xs us → Vals ys us → xs = ys
  | _, _, _, .nil, .nil => rfl
  | _, _, _, .cons r t, .cons r' t' => by rw [r.inj r', Vals.inj t t']
section
variable {X : Cx} {pins : List (Addr × Obj)} {σ : St} {H : Hp} {s : Shared} {a : Addr} {xs ys : List V}
theorem SqL.of {K : PySem.W.Frag} (h : H a = some (.lst xs)) : SqL K H a xs := .inl (.inl h)
theorem SqT.of {K : PySem.W.Frag} (h : H a = some (.tup xs)) : SqT K H a xs := .inl (.inl h)
theorem Inv.list (I : Inv X pins σ H s) (h : SqL X.K H a xs) : ∃ its : List Value, Vals xs its ∧ PlainL s.heap a its.toArray ∧ xs.length ≤ sizeLine := by
  rcases h with h | ⟨o, its, n, hk, hc, hd, hs, hz, r⟩
  · obtain ⟨z, its, n, r, e⟩ := h.ok I.hok
    exact ⟨its, r, ⟨_, n, e, rfl, rfl, rfl⟩, z⟩
  · refine ⟨its.toList, r, ⟨o, n, I.kIn a o hk, hc, hd, by simpa using hs⟩, ?_⟩
    have e := r.length
    simp only [Array.length_toList] at e
    omega
theorem Inv.tuple (I : Inv X pins σ H s) (h : SqT X.K H a xs) : ∃ its : List Value, Vals xs its ∧ IsTup s.heap a its.toArray ∧ xs.length ≤ sizeLine := by
  rcases h with h | ⟨o, its, n, hk, hc, hs, hz, r⟩
  · obtain ⟨z, its, r, p⟩ := h.ok I.hok
    exact ⟨its, r, p, z⟩
  · refine ⟨its.toList, r, ⟨o, I.kIn a o hk, hc, n, by simpa using hs⟩, ?_⟩
    have e := r.length
    simp only [Array.length_toList] at e
    omega
theorem Inv.list_inj (I : Inv X pins σ H s) (h : SqL X.K H a xs) (h' : SqL X.K H a ys) : xs = ys := by
  obtain ⟨its, r, ⟨o, n, e, _, _, d⟩, _⟩ := I.list h
  obtain ⟨its', r', ⟨o', n', e', _, _, d'⟩, _⟩ := I.list h'
  rw [e] at e'; cases e'
  rw [d] at d'
  injection d' with d1 _
  have : its = its' := by simpa using congrArg Array.toList d1
  subst this
  exact r.inj r'
end

abbrev Cx.wish (X : Cx) (E : Value → Shared → Prop) : Cx := { X with xe := E }
abbrev Cx.nox (X : Cx) : Cx := X.wish fun _ _ => False
theorem Cx.Ok.wish {X : Cx} (ok : X.Ok) (E : Value → Shared → Prop) : (X.wish E).Ok :=
  ⟨ok.mod, ok.kind, ok.glob, ok.blt, ok.above, ok.inj, ok.has, ok.cab, ok.hd, ok.frames, ok.stk, ok.exf, ok.bs, ok.bsz, ok.noex, ok.exfs, ok.funs, ok.frf⟩
theorem Cx.Ok.unwish {X : Cx} {E : Value → Shared → Prop} (ok : (X.wish E).Ok) : X.Ok :=
  ⟨ok.mod, ok.kind, ok.glob, ok.blt, ok.above, ok.inj, ok.has, ok.cab, ok.hd, ok.frames, ok.stk, ok.exf, ok.bs, ok.bsz, ok.noex, ok.exfs, ok.funs, ok.frf⟩
section
variable {X : Cx} {pins : List (Addr × Obj)} {σ : St} {H : Hp} {s : Shared} {E : Value → Shared → Prop}
theorem Inv.wish (I : Inv X pins σ H s) (E : Value → Shared → Prop) : Inv (X.wish E) pins σ H s := ⟨I.ok.wish E, I.os, I.bare, I.base, I.loc, I.cell, I.free, I.freeC, I.pin, I.hok, I.len⟩
theorem Inv.unwish (I : Inv (X.wish E) pins σ H s) : Inv X pins σ H s := ⟨I.ok.unwish, I.os, I.bare, I.base, I.loc, I.cell, I.free, I.freeC, I.pin, I.hok, I.len⟩
theorem SP.unwish {D : Ends} {f : Flow} {s' : Shared} (h : SP (X.wish E) pins D f s') : SP X pins D f s' := by
  cases f with
  | next => obtain ⟨σ', H', I, q⟩ := h; exact ⟨σ', H', I.unwish, q⟩
  | brk => obtain ⟨σ', H', I, q⟩ := h; exact ⟨σ', H', I.unwish, q⟩
  | cont => obtain ⟨σ', H', I, q⟩ := h; exact ⟨σ', H', I.unwish, q⟩
  | ret u => obtain ⟨v, σ', H', I, r, q⟩ := h; exact ⟨v, σ', H', I.unwish, r, q⟩
theorem PE.nox {e : Expr} {t : TE} (h : PE X.nox e t) : PE X e t := fun pins s σ H Q I hw =>
  wpAny_mono (h pins s σ H Q (I.wish _) hw) (fun _ _ ⟨v, H', I', r, q⟩ => ⟨v, H', I'.unwish, r, q⟩) fun _ _ z => False.elim z
theorem PT.nox {e : Expr} {t : TT} (h : PT X.nox e t) : PT X e t := fun pins s σ H Q I hw =>
  wpAny_mono (h pins s σ H Q (I.wish _) hw) (fun _ _ ⟨H', I', q⟩ => ⟨H', I'.unwish, q⟩) fun _ _ z => False.elim z
theorem PSs.nox {st : List Stmt} {t : TS} (h : PSs X.nox st t) : PSs X st t := fun pins s σ H D I hw =>
  wpAny_mono (h pins s σ H D (I.wish _) hw) (fun _ _ q => q.unwish) fun _ _ z => False.elim z
end

section
variable {X : Cx} {st : Stmt} {rest : List Stmt} {t u : TS} {e : Expr} {te : TE} {pos : Pos}
def tNext : TS := fun D σ H => D.nx σ H
def tSeq (t u : TS) : TS := fun D σ H => t { D with nx := u D } σ H
theorem pss_nil : PSs X [] tNext := fun _ _ σ H _ I h => wpAny_execs_nil ⟨σ, H, I, h⟩
theorem pss_cons (h1 : PS X st t) (h2 : PSs X rest u) : PSs X (st :: rest) (tSeq t u) := by
  intro pins s σ H D I h
  refine wpAny_execs_cons (thn (h1 pins s σ H { D with nx := u D } I h) fun f s1 q => ?_)
  cases f with
  | next =>
    obtain ⟨σ', H', I', q⟩ := q
    exact h2 pins s1 σ' H' D I' q
  | ret v => exact q
  | brk => exact q
  | cont => exact q
theorem pss_one (h1 : PS X st t) : PSs X [st] t := by
  intro pins s σ H D I h
  refine wpAny_execs_cons (thn (h1 pins s σ H D I h) fun f s1 q => ?_)
  cases f with
  | next => exact wpAny_execs_nil q
  | ret v => exact q
  | brk => exact q
  | cont => exact q
theorem Inv.quiet {pins : List (Addr × Obj)} {σ : St} {H : Hp} {s : Shared} (I : Inv X pins σ H s) : interactive X.env = false := by simp [interactive, I.ok.kind]
def tDrop (te : TE) : TS := fun D σ H => te σ H fun _ H1 => D.nx σ H1
theorem ps_expr (he : PE X e te) (hs : swapsWith e none pos.line X.env = pure false := by rfl) : PS X (.Expr e pos) (tDrop te) := by
  intro pins s σ H D I h
  exact wpAny_Expr_any (thn (he pins s σ H _ I h) fun v s1 ⟨x, H1, I1, r1, q1⟩ => ⟨σ, H1, I1, q1⟩) I.quiet hs
def tRet (te : TE) : TS := fun D σ H => te σ H D.rt
theorem ps_ret (he : PE X e te) : PS X (.Return (some e) pos) (tRet te) := by
  intro pins s σ H D I h
  exact wpAny_Return_some (thn (he pins s σ H _ I h) fun v s1 ⟨x, H1, I1, r1, q1⟩ => ⟨x, σ, H1, I1, r1, q1⟩)
def tRetN : TS := fun D _ H => D.rt .non H
def tIfS (c : TT) (t u : TS) : TS := fun D σ H => c σ H fun b H1 => if b = true then t D σ H1 else u D σ H1
theorem ps_if {c : Expr} {a b : List Stmt} {tc : TT} (hc : PT X c tc) (ha : PSs X a t) (hb : PSs X b u) : PS X (.If c a b pos) (tIfS tc t u) := by
  intro pins s σ H D I h
  refine wpAny_If (thn (hc pins s σ H _ I h) fun d s1 ⟨H1, I1, q1⟩ => ?_)
  cases d with
  | true => exact ha pins s1 σ H1 D I1 q1
  | false => exact hb pins s1 σ H1 D I1 q1
end

abbrev TG := V → St → Hp → (St → Hp → Prop) → Prop
abbrev TGs := List V → St → Hp → (St → Hp → Prop) → Prop
def PG (X : Cx) (target : Expr) (t : TG) : Prop :=
  ∀ (pins : List (Addr × Obj)) (s : Shared) (σ : St) (H : Hp) (v : V) (u : Value) (Q : St → Hp → Prop), Inv X pins σ H s → RelV v u → t v σ H Q →
    wpAny (model X.prog X.w) X.A (assign target X.env u) (fun _ s' => ∃ σ' H', Inv X pins σ' H' s' ∧ Q σ' H') X.xe s
def PGs (X : Cx) (ts : List Expr) (t : TGs) : Prop :=
  ∀ (pins : List (Addr × Obj)) (s : Shared) (σ : St) (H : Hp) (vs : List V) (us : List Value) (Q : St → Hp → Prop), Inv X pins σ H s → Vals vs us → t vs σ H Q →
    wpAny (model X.prog X.w) X.A (assignInOrder ((assignEach ts X.env).map (·.2)) us) (fun _ s' => ∃ σ' H', Inv X pins σ' H' s' ∧ Q σ' H') X.xe s
abbrev TIp := V → V → Hp → VK → Prop
def PIp (X : Cx) (op : Operator) (t : TIp) : Prop :=
  ∀ (pins : List (Addr × Obj)) (s : Shared) (σ : St) (H : Hp) (x y : V) (v u : Value) (Q : VK), Inv X pins σ H s → RelV x v → RelV y u → t x y H Q →
    wpAny (model X.prog X.w) X.A (inplaceOp op v u) (EP X pins σ Q) X.xe s
section
variable {X : Cx} {pos : Pos}
def gName (i : Nat) : TG := fun v σ H Q => Q (σ.set i (some v)) H
theorem pg_name {i : Nat} {x : Str} (hN : X.N.Nodup) (hi : X.N[i]? = some x) (hx : Loc X.env.scope x) (hf : X.fn x = true ∨ X.env.scope.names.lookup x = some .local := by first | exact .inl rfl | exact .inr rfl | assumption) : PG X (.Name x pos) (gName i) := by
  intro pins s σ H v u Q I r h
  exact wpAny_assign_Name (store_ok I hN hi hx r (fun s' I' => ⟨_, H, I', h⟩) hf)
def gNil : TGs := fun vs σ H Q => vs = [] ∧ Q σ H
def gCons (t : TG) (u : TGs) : TGs := fun vs σ H Q => ∃ v r, vs = v :: r ∧ t v σ H fun σ' H' => u r σ' H' Q
theorem pgs_nil : PGs X [] gNil := by
  intro pins s σ H vs us Q I r h
  obtain ⟨e, h⟩ := h
  subst e
  cases r
  exact assignInOrder_nil ⟨σ, H, I, h⟩
theorem pgs_cons {e : Expr} {es : List Expr} {t : TG} {u : TGs} (h1 : PG X e t) (h2 : PGs X es u)
    (hs : (assignEach (e :: es) X.env).map (·.2) = assign e X.env :: (assignEach es X.env).map (·.2) := by rfl) : PGs X (e :: es) (gCons t u) := by
  intro pins s σ H vs us Q I r h
  obtain ⟨v, vr, e1, h⟩ := h
  subst e1
  cases r with
  | cons r rr =>
    rw [hs]
    refine assignInOrder_cons (thn (h1 pins s σ H _ _ _ I r h) fun _ s1 ⟨σ1, H1, I1, q1⟩ => ?_)
    exact h2 pins s1 σ1 H1 _ _ Q I1 rr q1
def gTup (K : PySem.W.Frag) (n : Nat) (t : TGs) : TG := fun v σ H Q => ∃ a xs, v = .ref a ∧ SqT K H a xs ∧ xs.length = n ∧ t xs σ H Q
theorem pg_tup {es : List Expr} {k : Nat} {t : TGs} {n : Nat} (hc : X.calm = true) (h : PGs X es t)
    (hn : (assignEach es X.env).length = n := by rfl) (hst : (assignEach es X.env).findIdx? (·.1) = none := by rfl) : PG X (.Tuple es k pos) (gTup X.K n t) := by
  intro pins s σ H v u Q I r hw
  obtain ⟨a, xs, e1, hq, hl, hw⟩ := hw
  subst e1
  cases r
  obtain ⟨its, rv, ht, hz⟩ := I.tuple hq
  refine assign_Tuple_tuple (I.ok.hd hc) ht (by simp [hn, ← hl, rv.length]) hst fun h' hx => ?_
  have I1 : Inv X pins σ H { s with heap := h' } := I.kept (t' := s.toks) fun b o e => hx b o (Nat.ne_of_lt (Heap.lt_size e)) e
  exact h pins _ σ H xs _ Q I1 (by simpa using rv) hw
def tAsg (te : TE) (g : TG) : TS := fun D σ H => te σ H fun x H1 => g x σ H1 D.nx
theorem ps_set {i : Nat} {x : Str} {e : Expr} {te : TE} {pos' : Pos} (hN : X.N.Nodup) (hi : X.N[i]? = some x) (hx : Loc X.env.scope x) (he : PE X e te) (hs : swapsWith e (some (.Name x pos')) pos.line X.env = pure false := by rfl) (hf : X.fn x = true ∨ X.env.scope.names.lookup x = some .local := by first | exact .inl rfl | exact .inr rfl | assumption) :
    PS X (.Assign [.Name x pos'] e pos) (tAsg te (gName i)) := by
  intro pins s σ H D I h
  refine wpAny_Assign_Name (thn (he pins s σ H _ I h) fun v s1 ⟨y, H1, I1, r1, q1⟩ => ?_) hs
  exact store_ok I1 hN hi hx r1 (fun s2 I2 => ⟨_, H1, I2, q1⟩) hf
def tAug (i : Nat) (te : TE) (ti : TIp) : TS := fun D σ H => ∃ x, σ[i]? = some (some x) ∧ te σ H fun y H1 => ti x y H1 fun z H2 => D.nx (σ.set i (some z)) H2
theorem ps_aug {i : Nat} {x : Str} {e : Expr} {te : TE} {op : Operator} {ti : TIp} {pos' : Pos} (hN : X.N.Nodup) (hi : X.N[i]? = some x) (hx : Loc X.env.scope x) (he : PE X e te) (ho : PIp X op ti) (hf : X.fn x = true ∨ X.env.scope.names.lookup x = some .local := by first | exact .inl rfl | exact .inr rfl | assumption) :
    PS X (.AugAssign (.Name x pos') op e pos) (tAug i te ti) := by
  intro pins s σ H D I h
  obtain ⟨v, e1, h⟩ := h
  obtain ⟨m, hn, hl⟩ := I.loc
  have vis : Vis X.env.scope x := by rcases hx with k | k; exact .inl k; exact .inr (.inl k)
  obtain ⟨u, r, l⟩ := hl i x v hi e1 vis
  refine wpAny_AugAssign_Name ?_
  have go : wpAny (model X.prog X.w) X.A (eval e X.env) (fun w s₂ => wpAny (model X.prog X.w) X.A (inplaceOp op u w) (fun r s₃ => wpAny (model X.prog X.w) X.A (storeName X.env x r) (fun _ => SP X pins D .next) X.xe s₃) X.xe s₂) X.xe s := by
    refine thn (he pins s σ H _ I h) fun w s1 ⟨y, H1, I1, r1, q1⟩ => ?_
    refine thn (ho pins s1 σ H1 v y u w _ I1 r r1 q1) fun z s2 ⟨zv, H2, I2, r2, q2⟩ => ?_
    exact store_ok I2 hN hi hx r2 (fun s3 I3 => ⟨_, H2, I3, q2⟩) hf
  rcases l with ⟨hk, hm⟩ | ⟨hk, c, hc, hcell⟩
  · exact wpAny_loadName_local I.ok.kind hk hn hm go
  · rcases hk with hk | hk
    · exact wpAny_loadName_cell I.ok.kind hk hc hcell go
    · rcases hx with k | k
      · have : X.env.scope.names.lookup x = some .free := hk
        rw [k] at this; cases this
      · have : X.env.scope.names.lookup x = some .free := hk
        rw [k] at this; cases this
def ipI (f : Int → Int → Int) : TIp := fun x y H Q => ∃ i j, x = .int i ∧ y = .int j ∧ Q (.int (f i j)) H
theorem ip_add : PIp X .Add (ipI fun i j => i + j) := by
  intro pins s σ H x y v u Q I r1 r2 h
  obtain ⟨i, j, e1, e2, q⟩ := h
  subst e1; subst e2
  obtain ⟨t, rfl⟩ := r1
  obtain ⟨t', rfl⟩ := r2
  exact iadd_int ⟨.int _, H, I.tok _, ⟨_, rfl⟩, q⟩
end

section
variable {X : Cx} {pos : Pos}
def tWhile (c : TT) (tb : TS) : TS := fun D σ H => ∃ W : Nat → St → Hp → Prop, (∃ m, W m σ H) ∧ ∀ m σ H, W m σ H →
  c σ H fun b H1 => if b = true then ∃ N : St → Hp → Prop, (∀ σ' H', N σ' H' → ∃ m', m' < m ∧ W m' σ' H') ∧ tb { D with nx := N, ct := N, bk := D.nx } σ H1 else D.nx σ H1
theorem ps_while {c : Expr} {body : List Stmt} {tc : TT} {tb : TS} (hp : PassesOwn (model X.prog X.w) X.A X.env X.xe) (hc : PT X c tc) (hb : PSs X body tb) : PS X (.While c body [] pos) (tWhile tc tb) := by
  intro pins s σ H D I h
  obtain ⟨W, ⟨m0, w0⟩, turn⟩ := h
  refine wpAny_While (codeAny_whileLoop (fun n s' => ∃ σ' H', Inv X pins σ' H' s' ∧ W n σ' H') ?_ m0 ⟨σ, H, I, w0⟩)
  rintro n s1 ⟨σ1, H1, I1, w1⟩
  refine wpAny_passesOwn hp (thn (hc pins s1 σ1 H1 _ I1 (turn n σ1 H1 w1)) fun b s2 ⟨H2, I2, q2⟩ => ?_)
  cases b with
  | true =>
    obtain ⟨N, hN, q2⟩ := q2
    rw [if_pos rfl]
    refine wpAny_passesOwn hp (thn (hb pins s2 σ1 H2 _ I2 q2) fun f s3 q3 => ?_)
    cases f with
    | next =>
      obtain ⟨σ3, H3, I3, n3⟩ := q3
      obtain ⟨m', hm, w3⟩ := hN σ3 H3 n3
      exact ⟨m', hm, σ3, H3, I3, w3⟩
    | cont =>
      obtain ⟨σ3, H3, I3, n3⟩ := q3
      obtain ⟨m', hm, w3⟩ := hN σ3 H3 n3
      exact ⟨m', hm, σ3, H3, I3, w3⟩
    | brk => exact q3
    | ret v => exact q3
  | false =>
    rw [if_neg Bool.false_ne_true]
    exact wpAny_execs_nil ⟨σ1, H2, I2, q2⟩
end

structure It where
  go : Nat → Hp → Prop
  yld : Nat → Hp → V → Hp → Prop
  stop : Nat → Hp → Prop
def FpOk (X : Cx) (pins : List (Addr × Obj)) (H : Hp) (b : Addr) : Prop :=
  H b = none ∧ b ≠ X.env.locals ∧ b ∉ X.fs ∧ (b ∈ X.ex ∨ X.s_0.heap.objs.size ≤ b) ∧ (∀ x c, X.env.cells.lookup x = some c → c ≠ b) ∧ ∀ p ∈ X.pn ++ pins, p.1 ≠ b
theorem Inv.fpOk {X : Cx} {pins : List (Addr × Obj)} {σ : St} {H H' : Hp} {s : Shared} {b : Addr} (I : Inv X pins σ H s) (hb : s.heap.objs.size ≤ b) (hn : H' b = none) : FpOk X pins H' b := by
  refine ⟨hn, Nat.ne_of_gt (Nat.lt_of_lt_of_le I.lt hb), I.nofs hb, .inr (Nat.le_trans I.sz hb), fun x c e z => ?_, fun p hp z => ?_⟩
  · obtain ⟨v, q⟩ := I.cell x c e
    exact absurd (Nat.lt_of_lt_of_le q.lt (by rw [z]; exact hb)) (Nat.lt_irrefl _)
  · exact absurd (Nat.lt_of_lt_of_le (Heap.lt_size (I.pin p hp).1) (by rw [z]; exact hb)) (Nat.lt_irrefl _)
structure Turn (P : Program) (w : World) (K : PySem.W.Frag) (tg : Expr) (J : It) (fp : List Addr) (it : Addr) (tn : Nat → Heap → Prop) : Prop where
  mem : it ∈ fp
  obj : ∀ i h, tn i h → ∀ b ∈ fp, ∃ o, h.get? b = some o ∧ ∀ v, o.data ≠ .cell v
  keep : ∀ i h h', tn i h → (∀ b ∈ fp, ∀ o, h.get? b = some o → h'.get? b = some o) → tn i h'
  item : ∀ (X : Cx), X.prog = P → X.w = w → X.K = K → X.calm = true → ∀ (i : Nat) (pins : List (Addr × Obj)) (s : Shared) (σ : St) (H : Hp) (E : Value → Shared → Prop), Inv X pins σ H s → (∀ b ∈ fp, FpOk X pins H b) → tn i s.heap → J.go i H →
    wpAny (model P w) X.A (pyNext (.ref it)) (fun r s1 => ∃ u, r = some u ∧
      wpAny (model P w) X.A (letOwnedTupleGo tg (.ref it) u) (fun _ s2 => ∃ x H', Inv X pins σ H' s2 ∧ RelV x u ∧ J.yld i H x H' ∧ tn (i + 1) s2.heap ∧ ∀ b ∈ fp, H' b = none) E s1) E s
  done : ∀ (X : Cx), X.prog = P → X.w = w → X.K = K → X.calm = true → ∀ (i : Nat) (pins : List (Addr × Obj)) (s : Shared) (σ : St) (H : Hp) (E : Value → Shared → Prop), Inv X pins σ H s → (∀ b ∈ fp, FpOk X pins H b) → tn i s.heap → J.stop i H →
    wpAny (model P w) X.A (pyNext (.ref it)) (fun r s1 => r = none ∧ Inv X pins σ H s1) E s
  self : ∀ (A : Around) (i : Nat) (s : Shared) (Q : Value → Shared → Prop) (E : Value → Shared → Prop), tn i s.heap → Q (.ref it) s → wpAny (model P w) A (pyIter (.ref it)) Q E s
abbrev TI := St → Hp → (It → Hp → Prop) → Prop
def PIE (X : Cx) (pins : List (Addr × Obj)) (σ : St) (tg : Expr) (R : It → Hp → Prop) (itv : Value) (s2 : Shared) : Prop :=
  ∃ (it : Addr) (fp : List Addr) (tn : Nat → Heap → Prop) (J : It) (H' : Hp), itv = .ref it ∧ Inv X pins σ H' s2 ∧ Turn X.prog X.w X.K tg J fp it tn ∧ tn 0 s2.heap ∧ (∀ b ∈ fp, FpOk X pins H' b) ∧ R J H'
def PI (X : Cx) (tg iter : Expr) (wi : TI) : Prop :=
  ∀ (pins : List (Addr × Obj)) (s : Shared) (σ : St) (H : Hp) (R : It → Hp → Prop), Inv X pins σ H s → wi σ H R →
    wpAny (model X.prog X.w) X.A (eval iter X.env) (fun v s1 => wpAny (model X.prog X.w) X.A (pyIter v) (PIE X pins σ tg R) X.xe s1) X.xe s

theorem go_of {M : Model} {A : Around} {E : Value → Shared → Prop} {s : Shared} {tg : Expr} {it : Addr} {u : Value} {o : Obj} {n : String} {vs : Array Value} {Q : Unit → Shared → Prop} (ho : s.heap.get? it = some o) (hc : o.cls = .type n) (hd : o.data = .fields vs)
    (hn : ["enumerate", "zip", "dict_itemiterator", "dict_reverseitemiterator", "odict_iterator", "itertools.zip_longest", "itertools.pairwise"].contains n = false) (hQ : Q () s) : wpAny M A (letOwnedTupleGo tg (.ref it) u) Q E s := by
  unfold letOwnedTupleGo
  cases tg <;> first
    | exact wpAny_pure hQ
    | (cases u <;> first
        | exact wpAny_pure hQ
        | (refine wpAny_bind (wpAny_load ho ?_)
           rw [hc, hd]
           show wpAny M A (if (["enumerate", "zip", "dict_itemiterator", "dict_reverseitemiterator", "odict_iterator", "itertools.zip_longest", "itertools.pairwise"].contains n && vs[0]? == some (rawInt _)) = true then _ else _) Q E s
           rw [if_neg (by intro h; rw [hn, Bool.false_and] at h; cases h)]
           exact wpAny_pure hQ))

def Itl (K : PySem.W.Frag) (a : Addr) : It :=
  ⟨fun i H => ∃ xs x, SqL K H a xs ∧ xs[i]? = some x, fun i H x H' => H' = H ∧ ∀ xs, SqL K H a xs → xs[i]? = some x, fun i H => ∃ xs, SqL K H a xs ∧ xs.length ≤ i⟩
def Itr (lo : Int) (n : Nat) : It := ⟨fun i _ => i < n, fun i H x H' => H' = H ∧ x = .int (lo + i), fun i _ => n ≤ i⟩
theorem turn_list {P : Program} {w : World} {K : PySem.W.Frag} {tg : Expr} (a it : Addr) : Turn P w K tg (Itl K a) [it] it (fun i h => h.IsListIter it a i) where
  mem := by simp
  obj := fun i h st b hb => by
    have e : b = it := by simpa using hb
    subst e
    obtain ⟨o, e, c, d⟩ := st
    exact ⟨o, e, fun v z => by rw [d] at z; cases z⟩
  keep := fun i h h' st k => st.at fun o e => k it (by simp) o e
  item := by
    intro X hP hw hK hc i pins s σ H E I hf st hg
    subst hP hw hK
    obtain ⟨xs, x, hq, hx⟩ := hg
    obtain ⟨its, rv, p, hz⟩ := I.list hq
    obtain ⟨u, hu, ru⟩ := rv.get hx
    obtain ⟨f0, f1, f2, f3, f4, f5⟩ := hf it (by simp)
    refine wpAny_pyNext_list_item st p.isList (x := u) (by simpa using hu) fun h' st' sb => ?_
    have I1 : Inv X pins σ H { s with heap := h' } := I.turned (t' := s.toks) (fun b o hb e => (sb.2 b hb).trans e) f0 f1 f3 f4 f5
    obtain ⟨o, e, c, d⟩ := id st'
    exact ⟨u, rfl, go_of (s := { s with heap := h' }) e c d (by decide) ⟨x, H, I1, ru, ⟨rfl, fun ys hy => by rw [I.list_inj hy hq]; exact hx⟩, st', fun b hb => (hf b hb).1⟩⟩
  done := by
    intro X hP hw hK hc i pins s σ H E I hf st hg
    subst hP hw hK
    obtain ⟨xs, hq, hx⟩ := hg
    obtain ⟨its, rv, p, hz⟩ := I.list hq
    obtain ⟨f0, f1, f2, f3, f4, f5⟩ := hf it (by simp)
    have hl := rv.length
    exact wpAny_pyNext_list_end (I.ok.hd hc) st p.isList (by simp; omega) fun h' eb => ⟨rfl, I.turned (t' := s.toks) (fun b o hb e => eb b o hb e) f0 f1 f3 f4 f5⟩
  self := fun _ _ _ _ _ st h => wpAny_pyIter_listiter st h
theorem turn_range {P : Program} {w : World} {K : PySem.W.Frag} {tg : Expr} (it : Addr) (lo : Int) (n : Nat) : Turn P w K tg (Itr lo n) [it] it (fun i h => IsRangeIter h it (lo + (i : Nat) * 1) ((n : Int) - (i : Nat)) 1) where
  mem := by simp
  obj := fun i h st b hb => by
    have e : b = it := by simpa using hb
    subst e
    exact ⟨_, st, fun v z => by
      have z' : Data.fields _ = Data.cell v := z
      cases z'⟩
  keep := fun i h h' st k => k it (by simp) _ st
  item := by
    intro X hP hw hK hc i pins s σ H E I hf st hg
    subst hP hw hK
    obtain ⟨f0, f1, f2, f3, f4, f5⟩ := hf it (by simp)
    have W := Walks.range (prog := X.prog) (w := X.w) (I.ok.hd hc) it lo 1 n
    refine W.item i s _ _ hg st fun v h' tk hv st' kk => ?_
    obtain ⟨t, rfl⟩ := hv
    have I1 : Inv X pins σ H { s with heap := h', toks := tk } := I.turned (fun b o hb e => kk b o (by simpa using hb) e) f0 f1 f3 f4 f5
    refine ⟨_, rfl, go_of (s := { s with heap := h', toks := tk }) (n := "range_iterator") st' rfl rfl (by decide) ⟨.int (lo + i), H, I1, ⟨t, ?_⟩, ⟨rfl, rfl⟩, st', fun b hb => (hf b hb).1⟩⟩
    rw [Int.mul_one]
  done := by
    intro X hP hw hK hc i pins s σ H E I hf st hg
    subst hP hw hK
    obtain ⟨f0, f1, f2, f3, f4, f5⟩ := hf it (by simp)
    exact wpAny_pyNext_range_end (I.ok.hd hc) st (by have : n ≤ i := hg; omega) fun h' eb => ⟨rfl, I.turned (t' := s.toks) (fun b o hb e => eb b o hb e) f0 f1 f3 f4 f5⟩
  self := fun _ _ _ _ _ st h => wpAny_pyIter_rangeiter st h
end L2

namespace L2
open PySem PySem.Spec PyProof.Rows
section
variable {X : Cx} {tg : Expr}
def iList (K : PySem.W.Frag) (tl : TE) : TI := fun σ H R => tl σ H fun x H1 => ∃ a, x = .ref a ∧ (∃ xs, SqL K H1 a xs) ∧ R (Itl K a) H1
theorem pi_list {l : Expr} {tl : TE} (hl : PE X l tl) : PI X tg l (iList X.K tl) := by
  intro pins s σ H R I h
  refine thn (hl pins s σ H _ I h) fun v s1 ⟨x, H1, I1, r1, q1⟩ => ?_
  obtain ⟨a, e, ⟨xs, hq⟩, q⟩ := q1
  subst e
  cases r1
  obtain ⟨its, rv, p, hz⟩ := I1.list hq
  refine wpAny_pyIter_list p.isList ?_
  refine ⟨s1.heap.objs.size, [s1.heap.objs.size], _, _, H1, rfl, I1.kept (t' := s1.toks) fun b o e => Heap.get?_push_of_some _ e, turn_list a _, ⟨_, Heap.get?_push_size _ rfl, rfl, rfl⟩, fun b hb => ?_, q⟩
  have e : b = s1.heap.objs.size := by simpa using hb
  subst e
  exact I1.fpOk (Nat.le_refl _) (I1.hok.fresh (Nat.le_refl _))
theorem range_it {pins : List (Addr × Obj)} {σ : St} {H : Hp} {s : Shared} {R : It → Hp → Prop} {E : Value → Shared → Prop} {lo hi : Int} {t u v : Tok} {tk : Nat} (I : Inv X pins σ H s) (h1 : -(2 ^ 62) ≤ lo) (h2 : lo < 2 ^ 62) (h3 : -(2 ^ 62) ≤ hi) (h4 : hi < 2 ^ 62)
    (q : R (Itr lo (hi - lo).toNat) H) : wpAny (model X.prog X.w) X.A (pyIter (.ref s.heap.objs.size)) (PIE X pins σ tg R) E { s with heap := s.heap.push { cls := .type "range", data := .fields #[.int lo t, .int hi u, .int 1 v] }, toks := tk } := by
  refine wpAny_pyIter_range (IsRange.new ..) (small_one h1 h2 h3 h4) ?_
  have I1 : Inv X pins σ H { s with heap := s.heap.push { cls := .type "range", data := .fields #[.int lo t, .int hi u, .int 1 v] }, toks := tk } := I.kept fun b o e => Heap.get?_push_of_some _ e
  refine ⟨(s.heap.push { cls := .type "range", data := .fields #[.int lo t, .int hi u, .int 1 v] }).objs.size, [(s.heap.push { cls := .type "range", data := .fields #[.int lo t, .int hi u, .int 1 v] }).objs.size], _, _, H, rfl,
    I1.kept (t' := tk) fun b o e => Heap.get?_push_of_some _ e, turn_range _ lo (hi - lo).toNat, ?_, fun b hb => ?_, q⟩
  · have e1 : lo + ((0 : Nat) : Int) * 1 = lo := by simp
    have e2 : (((hi - lo).toNat : Nat) : Int) - ((0 : Nat) : Int) = Builtin.Range.rangeSize lo hi 1 := by rw [rangeSize_one]; split <;> omega
    show IsRangeIter _ _ (lo + ((0 : Nat) : Int) * 1) ((((hi - lo).toNat : Nat) : Int) - ((0 : Nat) : Int)) 1
    rw [e1, e2]
    exact Heap.get?_push_size _ rfl
  · have e : b = (s.heap.push { cls := .type "range", data := .fields #[.int lo t, .int hi u, .int 1 v] }).objs.size := by simpa using hb
    subst e
    exact I1.fpOk (Nat.le_refl _) (I1.hok.fresh (Nat.le_refl _))
def iRng1 (ta : TA) : TI := fun σ H R => ta σ H fun vs H1 => ∃ j : Int, vs = [.int j] ∧ -(2 ^ 62) ≤ j ∧ j < 2 ^ 62 ∧ R (Itr 0 j.toNat) H1
def iRng2 (ta : TA) : TI := fun σ H R => ta σ H fun vs H1 => ∃ i j : Int, vs = [.int i, .int j] ∧ (-(2 ^ 62) ≤ i ∧ i < 2 ^ 62 ∧ -(2 ^ 62) ≤ j ∧ j < 2 ^ 62) ∧ R (Itr i (j - i).toNat) H1
theorem pi_range1 {a : Expr} {ta : TA} {p pos : Pos} (hg : Gl X "range") (hm : X.mg "range" = none) (ha : PA X [a] ta) (hs : starEach [a] X.env = [(false, eval a X.env)] := by rfl) : PI X tg (.Call (.Name "range" p) [a] [] pos) (iRng1 ta) := by
  intro pins s σ H R I h
  refine Call_ (ld_blt I hg hm boot_range (PyProof.Rows.callWith_type1 (thn (ha pos pins s σ H _ I h) fun us s1 ⟨vs, H1, I1, r1, q1⟩ => ?_) hs rfl))
  obtain ⟨j, e, q1, q2, q⟩ := q1
  subst e
  cases r1 with
  | cons r rr =>
    cases rr
    obtain ⟨t, rfl⟩ := r
    exact call_range_1 (range_it I1 (by omega) (by omega) q1 q2 (by simpa using q))
theorem pi_range2 {a b : Expr} {ta : TA} {p pos : Pos} (hg : Gl X "range") (hm : X.mg "range" = none) (ha : PA X [a, b] ta) (hs : starEach [a, b] X.env = [(false, eval a X.env), (false, eval b X.env)] := by rfl) (hs2 : starEach [b] X.env = [(false, eval b X.env)] := by rfl) :
    PI X tg (.Call (.Name "range" p) [a, b] [] pos) (iRng2 ta) := by
  intro pins s σ H R I h
  refine Call_ (ld_blt I hg hm boot_range (PyProof.Rows.callWith_type1 (thn (ha pos pins s σ H _ I h) fun us s1 ⟨vs, H1, I1, r1, q1⟩ => ?_) (by rw [hs, hs2]) (by rw [hs2]; rfl)))
  obtain ⟨i, j, e, ⟨q1, q2, q3, q4⟩, q⟩ := q1
  subst e
  cases r1 with
  | cons r rr =>
    cases rr with
    | cons r' rr =>
      cases rr
      obtain ⟨t, rfl⟩ := r
      obtain ⟨t', rfl⟩ := r'
      exact call_range_2 (range_it I1 q1 q2 q3 q4 q)

def tFor (wi : TI) (g : TG) (tb : TS) : TS := fun D σ H => wi σ H fun J H1 => ∃ W : Nat → Nat → St → Hp → Prop, (∃ m, W 0 m σ H1) ∧ ∀ i m σ H, W i m σ H →
  (J.stop i H ∧ D.nx σ H) ∨ (J.go i H ∧ ∃ N : St → Hp → Prop, (∀ σ' H', N σ' H' → ∃ m', m' < m ∧ W (i + 1) m' σ' H') ∧ ∀ x H', J.yld i H x H' → g x σ H' fun σ2 H2 => tb { D with nx := N, ct := N, bk := D.nx } σ2 H2)
def pinsAt (fp : List Addr) (h : Heap) : List (Addr × Obj) := fp.filterMap fun b => (h.get? b).map fun o => (b, o)
theorem mem_pinsAt {fp : List Addr} {h : Heap} {b : Addr} {o : Obj} (hb : b ∈ fp) (e : h.get? b = some o) : (b, o) ∈ pinsAt fp h := List.mem_filterMap.mpr ⟨b, hb, by rw [e]; rfl⟩
theorem of_pinsAt {fp : List Addr} {h : Heap} {p : Addr × Obj} (hp : p ∈ pinsAt fp h) : p.1 ∈ fp ∧ h.get? p.1 = some p.2 := by
  obtain ⟨b, hb, e⟩ := List.mem_filterMap.mp hp
  cases q : h.get? b with
  | none => rw [q] at e; cases e
  | some o =>
    rw [q] at e
    have e' : (b, o) = p := Option.some.inj e
    subst e'
    exact ⟨hb, q⟩
theorem Inv.pinned {pins : List (Addr × Obj)} {σ : St} {H : Hp} {s : Shared} {fp : List Addr} (I : Inv X pins σ H s) (hf : ∀ b ∈ fp, FpOk X pins H b) (ho : ∀ b ∈ fp, ∃ o, s.heap.get? b = some o ∧ ∀ v, o.data ≠ .cell v) : Inv X (pins ++ pinsAt fp s.heap) σ H s :=
  I.pins_of fun p hp => (List.mem_append.mp hp).elim (fun z => I.pin p (List.mem_append_right _ z)) fun z => by
    obtain ⟨hb, e⟩ := of_pinsAt z
    obtain ⟨f0, f1, f2, _⟩ := hf p.1 hb
    obtain ⟨o, e', d⟩ := ho p.1 hb
    rw [e] at e'; cases e'
    exact ⟨e, f0, f1, f2, d⟩
theorem Inv.unpinned {pins pl : List (Addr × Obj)} {σ : St} {H : Hp} {s : Shared} (I : Inv X (pins ++ pl) σ H s) : Inv X pins σ H s := I.pins_of fun p hp => I.pin p (List.mem_append_right _ (List.mem_append_left _ hp))
theorem ps_for {iter : Expr} {body : List Stmt} {wi : TI} {g : TG} {tb : TS} {pos : Pos} (hp : PassesOwn (model X.prog X.w) X.A X.env X.xe) (hc : X.calm = true) (hi : PI X tg iter wi) (hg : PG X tg g) (hb : PSs X body tb)
    (hs : ∀ x, foldedSetIterable iter X.env x = pure x := by intro _; rfl) : PS X (.For tg iter body [] pos) (tFor wi g tb) := by
  intro pins s σ H D I h
  refine wpAny_For (thn (hi pins s σ H _ I h) fun v s1 h1 => thn h1 fun itv s2 h2 => ?_) hs
  obtain ⟨it, fp, tn, J, H2, e, I2, T, st2, f2, W, ⟨m0, w0⟩, turn⟩ := h2
  subst e
  -- what stays true of the iterator's objects through the loop
  have stat : ∀ {H' : Hp}, (∀ b ∈ fp, H' b = none) → ∀ b ∈ fp, FpOk X pins H' b := fun hn b hb => ⟨hn b hb, (f2 b hb).2⟩
  refine codeAny_forLoop_any (fun n s' => ∃ i σ' H', Inv X pins σ' H' s' ∧ tn i s'.heap ∧ (∀ b ∈ fp, H' b = none) ∧ W i n σ' H') ?_ m0 ⟨0, σ, H2, I2, st2, fun b hb => (f2 b hb).1, w0⟩
  rintro n s3 ⟨i, σ3, H3, I3, st3, fr3, w3⟩
  rcases turn i n σ3 H3 w3 with ⟨stop, qn⟩ | ⟨go, N, hN, step⟩
  · refine wpAny_passesOwn hp (thn (T.done X rfl rfl rfl hc i pins s3 σ3 H3 X.xe I3 (stat fr3) st3 stop) fun r s4 ⟨hr, I4⟩ => ?_)
    subst hr
    exact wpAny_execs_nil ⟨σ3, H3, I4, qn⟩
  · refine wpAny_passesOwn hp (thn (T.item X rfl rfl rfl hc i pins s3 σ3 H3 X.xe I3 (stat fr3) st3 go) fun r s4 ⟨u, hr, h4⟩ => ?_)
    subst hr
    refine wpAny_passesOwn hp (thn h4 fun _ s5 ⟨x, H5, I5, r5, y5, st5, fr5⟩ => ?_)
    have I5' := I5.pinned (stat fr5) (T.obj _ _ st5)
    refine wpAny_passesOwn hp (thn (hg _ s5 σ3 H5 x u _ I5' r5 (step x H5 y5)) fun _ s6 ⟨σ6, H6, I6, q6⟩ => ?_)
    refine wpAny_passesOwn hp (thn (hb _ s6 σ6 H6 _ I6 q6) fun f s7 q7 => ?_)
    have again : ∀ {σ7 : St} {H7 : Hp}, Inv X (pins ++ pinsAt fp s5.heap) σ7 H7 s7 → N σ7 H7 → ∃ m, m < n ∧ ∃ i σ' H', Inv X pins σ' H' s7 ∧ tn i s7.heap ∧ (∀ b ∈ fp, H' b = none) ∧ W i m σ' H' := fun {σ7 H7} I7 n7 => by
      obtain ⟨m', hm, w7⟩ := hN σ7 H7 n7
      refine ⟨m', hm, i + 1, σ7, H7, I7.unpinned, T.keep _ _ _ st5 fun b hb o e => (I7.pin (b, o) (List.mem_append_right _ (List.mem_append_right _ (mem_pinsAt hb e)))).1, fun b hb => ?_, w7⟩
      obtain ⟨o, e, d⟩ := T.obj _ _ st5 b hb
      exact (I7.pin (b, o) (List.mem_append_right _ (List.mem_append_right _ (mem_pinsAt hb e)))).2.1
    cases f with
    | next => obtain ⟨σ7, H7, I7, n7⟩ := q7; exact again I7 n7
    | cont => obtain ⟨σ7, H7, I7, n7⟩ := q7; exact again I7 n7
    | brk => obtain ⟨σ7, H7, I7, q7⟩ := q7; exact ⟨σ7, H7, I7.unpinned, q7⟩
    | ret v => obtain ⟨x7, σ7, H7, I7, r7, q7⟩ := q7; exact ⟨x7, σ7, H7, I7.unpinned, r7, q7⟩
end

theorem for_list {K : PySem.W.Frag} {a : Addr} {xs : List V} {g : TG} {tb : TS} {D : Ends} {σ : St} {H : Hp} (Pv : Nat → St → Hp → Prop) (h0 : Pv 0 σ H) (hl : ∀ i σ H, i ≤ xs.length → Pv i σ H → SqL K H a xs)
    (hs : ∀ i x σ H, xs[i]? = some x → Pv i σ H → g x σ H fun σ2 H2 => tb { D with nx := Pv (i + 1), ct := Pv (i + 1), bk := D.nx } σ2 H2) (hd : ∀ σ H, Pv xs.length σ H → D.nx σ H) :
    ∃ W : Nat → Nat → St → Hp → Prop, (∃ m, W 0 m σ H) ∧ ∀ i m σ H, W i m σ H →
      ((Itl K a).stop i H ∧ D.nx σ H) ∨ ((Itl K a).go i H ∧ ∃ N : St → Hp → Prop, (∀ σ' H', N σ' H' → ∃ m', m' < m ∧ W (i + 1) m' σ' H') ∧ ∀ x H', (Itl K a).yld i H x H' → g x σ H' fun σ2 H2 => tb { D with nx := N, ct := N, bk := D.nx } σ2 H2) := by
  refine ⟨fun i m σ H => m = xs.length - i ∧ i ≤ xs.length ∧ Pv i σ H, ⟨xs.length, by simp, Nat.zero_le _, h0⟩, ?_⟩
  rintro i m σ H ⟨rfl, hi, p⟩
  have q := hl i σ H hi p
  by_cases hlt : i < xs.length
  · refine .inr ⟨⟨xs, xs[i], q, by simp [hlt]⟩, Pv (i + 1), fun σ' H' p' => ⟨xs.length - (i + 1), by omega, rfl, hlt, p'⟩, fun x H' y => ?_⟩
    obtain ⟨e, y⟩ := y
    subst e
    exact hs i x σ _ (y xs q) p
  · have e : i = xs.length := by omega
    subst e
    exact .inl ⟨⟨xs, q, Nat.le_refl _⟩, hd σ H p⟩
theorem for_range {lo : Int} {n : Nat} {g : TG} {tb : TS} {D : Ends} {σ : St} {H : Hp} (Pv : Nat → St → Hp → Prop) (h0 : Pv 0 σ H)
    (hs : ∀ i σ H, i < n → Pv i σ H → g (.int (lo + i)) σ H fun σ2 H2 => tb { D with nx := Pv (i + 1), ct := Pv (i + 1), bk := D.nx } σ2 H2) (hd : ∀ σ H, Pv n σ H → D.nx σ H) :
    ∃ W : Nat → Nat → St → Hp → Prop, (∃ m, W 0 m σ H) ∧ ∀ i m σ H, W i m σ H →
      ((Itr lo n).stop i H ∧ D.nx σ H) ∨ ((Itr lo n).go i H ∧ ∃ N : St → Hp → Prop, (∀ σ' H', N σ' H' → ∃ m', m' < m ∧ W (i + 1) m' σ' H') ∧ ∀ x H', (Itr lo n).yld i H x H' → g x σ H' fun σ2 H2 => tb { D with nx := N, ct := N, bk := D.nx } σ2 H2) := by
  refine ⟨fun i m σ H => m = n - i ∧ i ≤ n ∧ Pv i σ H, ⟨n, by simp, Nat.zero_le _, h0⟩, ?_⟩
  rintro i m σ H ⟨rfl, hi, p⟩
  by_cases hlt : i < n
  · refine .inr ⟨hlt, Pv (i + 1), fun σ' H' p' => ⟨n - (i + 1), by omega, rfl, hlt, p'⟩, fun x H' y => ?_⟩
    obtain ⟨e, y⟩ := y
    subst e y
    exact hs i σ _ hlt p
  · have e : i = n := by omega
    subst e
    exact .inl ⟨Nat.le_refl _, hd σ H p⟩
theorem while_by {c : TT} {tb : TS} {D : Ends} {σ : St} {H : Hp} (Pv : St → Hp → Prop) (μ : St → Hp → Nat) (h0 : Pv σ H)
    (hs : ∀ σ H, Pv σ H → c σ H fun b H1 => if b = true then tb { D with nx := fun σ' H' => Pv σ' H' ∧ μ σ' H' < μ σ H, ct := fun σ' H' => Pv σ' H' ∧ μ σ' H' < μ σ H, bk := D.nx } σ H1 else D.nx σ H1)
    (mono : ∀ σ H Q Q', (∀ b H1, Q b H1 → Q' b H1) → c σ H Q → c σ H Q') : tWhile c tb D σ H := by
  refine ⟨fun m σ H => m = μ σ H ∧ Pv σ H, ⟨_, rfl, h0⟩, ?_⟩
  rintro m σ H ⟨rfl, p⟩
  refine mono σ H _ _ (fun b H1 q => ?_) (hs σ H p)
  cases b with
  | true => exact ⟨_, fun σ' H' ⟨p', l⟩ => ⟨_, l, rfl, p'⟩, q⟩
  | false => exact q
end L2

namespace L2
open PySem PySem.Spec PyProof.Rows

abbrev R2 := V → V → Hp → VK → Prop
def OpR (X : Cx) (f : Value → Value → Sem Value) (r : R2) : Prop :=
  ∀ (pins : List (Addr × Obj)) (s : Shared) (σ : St) (H : Hp) (x y : V) (v u : Value) (Q : VK), Inv X pins σ H s → RelV x v → RelV y u → r x y H Q →
    wpAny (model X.prog X.w) X.A (f v u) (EP X pins σ Q) X.xe s
def UnR (X : Cx) (f : Value → Sem Value) (r : V → Hp → VK → Prop) : Prop :=
  ∀ (pins : List (Addr × Obj)) (s : Shared) (σ : St) (H : Hp) (x : V) (v : Value) (Q : VK), Inv X pins σ H s → RelV x v → r x H Q →
    wpAny (model X.prog X.w) X.A (f v) (EP X pins σ Q) X.xe s
def CallR (X : Cx) (f : Value) (r : List V → Hp → VK → Prop) : Prop :=
  ∀ (pins : List (Addr × Obj)) (s : Shared) (σ : St) (H : Hp) (xs : List V) (us : List Value) (Q : VK), Inv X pins σ H s → Vals xs us → r xs H Q →
    wpAny (model X.prog X.w) X.A (call f us) (EP X pins σ Q) X.xe s
def tOp (r : R2) (ta tb : TE) : TE := fun σ H Q => ta σ H fun x H1 => tb σ H1 fun y H2 => r x y H2 Q
def tUn (r : V → Hp → VK → Prop) (ta : TE) : TE := fun σ H Q => ta σ H fun x H1 => r x H1 Q
def rI (C : Int → Int → Prop) (g : Int → Int → V) : R2 := fun x y H Q => ∃ i j, x = .int i ∧ y = .int j ∧ C i j ∧ Q (g i j) H
def rI0 (g : Int → Int → V) : R2 := fun x y H Q => ∃ i j, x = .int i ∧ y = .int j ∧ Q (g i j) H
def rU (g : Int → V) : V → Hp → VK → Prop := fun x H Q => ∃ i, x = .int i ∧ Q (g i) H

section
variable {X : Cx} {a b c : Expr} {ta tb tc : TE} {pos : Pos}

theorem binT (ha : PE X a ta) (hb : PE X b tb) {pins : List (Addr × Obj)} {s : Shared} {σ : St} {H : Hp} {R : V → V → Hp → Prop} (I : Inv X pins σ H s)
    (h : ta σ H fun x H1 => tb σ H1 fun y H2 => R x y H2) {Q : Value → Shared → Prop} {f : Value → Value → Sem Value}
    (hf : ∀ v u s2 x y H2, Inv X pins σ H2 s2 → RelV x v → RelV y u → R x y H2 → wpAny (model X.prog X.w) X.A (f v u) Q X.xe s2) :
    wpAny (model X.prog X.w) X.A (eval a X.env) (fun v s₁ => wpAny (model X.prog X.w) X.A (eval b X.env) (fun u s₂ => wpAny (model X.prog X.w) X.A (f v u) Q X.xe s₂) X.xe s₁) X.xe s := by
  refine thn (ha pins s σ H _ I h) fun v s1 ⟨x, H1, I1, r1, q1⟩ => ?_
  refine thn (hb pins s1 σ H1 _ I1 q1) fun u s2 ⟨y, H2, I2, r2, q2⟩ => ?_
  exact hf v u s2 x y H2 I2 r1 r2 q2

theorem pe_op {op : Operator} {r : R2} (ho : OpR X (binaryOp op) r) (ha : PE X a ta) (hb : PE X b tb) : PE X (.BinOp a op b pos) (tOp r ta tb) := by
  intro pins s σ H Q I h
  exact wpAny_BinOp (binT ha hb I h fun v u s2 x y H2 I2 rx ry q => ho pins s2 σ H2 x y v u Q I2 rx ry q)
theorem pe_un {op : UnaryOp} {r : V → Hp → VK → Prop} (ho : UnR X (unaryOp op) r) (ha : PE X a ta) : PE X (.UnaryOp op a pos) (tUn r ta) := by
  intro pins s σ H Q I h
  exact UnaryOp_ (thn (ha pins s σ H _ I h) fun v s1 ⟨x, H1, I1, r1, q1⟩ => ho pins s1 σ H1 x v Q I1 r1 q1)
theorem opI {f : Value → Value → Sem Value} {C : Int → Int → Prop} {g : Int → Int → Int}
    (rule : ∀ (i j : Int) (t u : Tok) (s : Shared) (Q : Value → Shared → Prop) (E : Value → Shared → Prop), C i j → Q (.int (g i j) s.toks) { s with toks := s.toks + 1 } → wpAny (model X.prog X.w) X.A (f (.int i t) (.int j u)) Q E s) :
    OpR X f (rI C fun i j => .int (g i j)) := by
  intro pins s σ H x y v u Q I rx ry h
  obtain ⟨i, j, rfl, rfl, hc, q⟩ := h
  obtain ⟨t, rfl⟩ := rx
  obtain ⟨t', rfl⟩ := ry
  exact rule i j t t' s _ _ hc ⟨.int (g i j), H, I.tok _, ⟨_, rfl⟩, q⟩
theorem opI0 {f : Value → Value → Sem Value} {g : Int → Int → Int}
    (rule : ∀ (i j : Int) (t u : Tok) (s : Shared) (Q : Value → Shared → Prop) (E : Value → Shared → Prop), Q (.int (g i j) s.toks) { s with toks := s.toks + 1 } → wpAny (model X.prog X.w) X.A (f (.int i t) (.int j u)) Q E s) :
    OpR X f (rI0 fun i j => .int (g i j)) := by
  intro pins s σ H x y v u Q I rx ry h
  obtain ⟨i, j, rfl, rfl, q⟩ := h
  obtain ⟨t, rfl⟩ := rx
  obtain ⟨t', rfl⟩ := ry
  exact rule i j t t' s _ _ ⟨.int (g i j), H, I.tok _, ⟨_, rfl⟩, q⟩
theorem opB0 {f : Value → Value → Sem Value} {g : Int → Int → Bool}
    (rule : ∀ (i j : Int) (t u : Tok) (s : Shared) (Q : Value → Shared → Prop) (E : Value → Shared → Prop), Q (.bool (g i j)) s → wpAny (model X.prog X.w) X.A (f (.int i t) (.int j u)) Q E s) :
    OpR X f (rI0 fun i j => .bl (g i j)) := by
  intro pins s σ H x y v u Q I rx ry h
  obtain ⟨i, j, rfl, rfl, q⟩ := h
  obtain ⟨t, rfl⟩ := rx
  obtain ⟨t', rfl⟩ := ry
  exact rule i j t t' s _ _ ⟨.bl (g i j), H, I, rfl, q⟩

def CDiv (i j : Int) : Prop := 0 < j ∧ j < 1073741824
def CMul (i j : Int) : Prop := (-(2 ^ 64) < i ∧ i < 2 ^ 64) ∨ (-(2 ^ 64) < j ∧ j < 2 ^ 64)
theorem CMul.ok {i j : Int} (h : CMul i j) : IntMulOk i j := by
  rcases h with ⟨h1, h2⟩ | ⟨h1, h2⟩
  · exact .of_left (intBits_le_64 h1 h2)
  · exact .of_right (intBits_le_64 h1 h2)
theorem op_add : OpR X (binaryOp .Add) (rI0 fun i j => .int (i + j)) := opI0 fun _ _ _ _ _ _ _ q => add_int q
theorem op_sub : OpR X (binaryOp .Sub) (rI0 fun i j => .int (i - j)) := opI0 fun _ _ _ _ _ _ _ q => sub_int q
theorem op_mul : OpR X (binaryOp .Mult) (rI CMul fun i j => .int (i * j)) := opI fun _ _ _ _ _ _ _ hc q => mul_int q hc.ok
theorem op_fdiv : OpR X (binaryOp .FloorDiv) (rI CDiv fun i j => .int (i / j)) := opI fun i j _ _ _ _ _ hc q => by
  have h1 : (0 : Int) < j := hc.1
  have h2 : j < 1073741824 := hc.2
  exact floordiv_int (by omega) (by rw [Int.fdiv_eq_ediv_of_nonneg i (by omega)]; exact q) (.inl (PyProof.noPylong_small (by omega)))
theorem unI {f : Value → Sem Value} {g : Int → Int}
    (rule : ∀ (i : Int) (t : Tok) (s : Shared) (Q : Value → Shared → Prop) (E : Value → Shared → Prop), Q (.int (g i) s.toks) { s with toks := s.toks + 1 } → wpAny (model X.prog X.w) X.A (f (.int i t)) Q E s) :
    UnR X f (rU fun i => .int (g i)) := by
  intro pins s σ H x v Q I rx h
  obtain ⟨i, rfl, q⟩ := h
  obtain ⟨t, rfl⟩ := rx
  exact rule i t s _ _ ⟨.int (g i), H, I.tok _, ⟨_, rfl⟩, q⟩
theorem un_neg : UnR X (unaryOp .USub) (rU fun i => .int (-i)) := unI fun _ _ _ _ _ q => neg_int q
end

def scal : V → V → Bool
  | .non, .non => true | .non, .int _ => true | .int _, .non => true | .non, .bl _ => true | .bl _, .non => true | .non, .str _ => true | .str _, .non => true
  | .int _, .int _ => true | .bl _, .bl _ => true | .str _, .str _ => true | .byt _, .byt _ => true
  | .int _, .str _ => true | .str _, .int _ => true | .bl _, .str _ => true | .str _, .bl _ => true
  | _, _ => false
def rEq : R2 := fun x y H Q => scal x y = true ∧ Q (.bl (decide (x = y))) H
def rNe : R2 := fun x y H Q => scal x y = true ∧ Q (.bl (!decide (x = y))) H

theorem dec_int {i j : Int} : decide (V.int i = V.int j) = (i == j) := by
  rw [Bool.eq_iff_iff]
  simp
theorem dec_bl {i j : Bool} : decide (V.bl i = V.bl j) = (i == j) := by
  rw [Bool.eq_iff_iff]
  simp
theorem dec_str {i j : Str} : decide (V.str i = V.str j) = (i == j) := by
  rw [Bool.eq_iff_iff]
  simp
theorem dec_byt {i j : Array UInt8} : decide (V.byt i = V.byt j) = (i.toList == j.toList) := by
  rw [Bool.eq_iff_iff]
  cases i
  cases j
  simp

section
variable {X : Cx} {a b c : Expr} {ta tb tc : TE} {pos : Pos}
theorem fin_bl {pins : List (Addr × Obj)} {σ : St} {H : Hp} {s : Shared} {Q : VK} {k k' : Bool} (I : Inv X pins σ H s) (q : Q (.bl k) H) (e : k = k') : EP X pins σ Q (.bool k') s := by
  subst e
  exact ⟨.bl k, H, I, rfl, q⟩
theorem op_eq : OpR X (compareOp .Eq) rEq := by
  intro pins s σ H x y v u Q I rx ry h
  obtain ⟨hs, q⟩ := h
  cases x with
  | non =>
    cases rx
    cases y with
    | non => cases ry; exact PySem.EqNone.eq_none_none (fin_bl I q (by simp))
    | bl j => cases ry; exact PySem.EqNone.eq_none_bool (fin_bl I q (by simp))
    | int j => obtain ⟨t', rfl⟩ := ry; exact PySem.EqNone.eq_none_int (fin_bl I q (by simp))
    | str j => obtain ⟨t', rfl⟩ := ry; exact PySem.EqNone.eq_none_str (fin_bl I q (by simp))
    | _ => exact absurd (show false = true from hs) Bool.false_ne_true
  | bl i =>
    cases rx
    cases y with
    | non => cases ry; exact PySem.EqNone.eq_bool_none (fin_bl I q (by simp))
    | bl j => cases ry; exact eq_bool (fin_bl I q dec_bl)
    | str j => obtain ⟨t', rfl⟩ := ry; exact PySem.EqMixed.eq_bool_str (fin_bl I q (by simp))
    | _ => exact absurd (show false = true from hs) Bool.false_ne_true
  | int i =>
    obtain ⟨t, rfl⟩ := rx
    cases y with
    | non => cases ry; exact PySem.EqNone.eq_int_none (fin_bl I q (by simp))
    | int j => obtain ⟨t', rfl⟩ := ry; exact eq_int (fin_bl I q dec_int)
    | str j => obtain ⟨t', rfl⟩ := ry; exact PySem.EqMixed.eq_int_str (fin_bl I q (by simp))
    | _ => exact absurd (show false = true from hs) Bool.false_ne_true
  | str i =>
    obtain ⟨t, rfl⟩ := rx
    cases y with
    | non => cases ry; exact PySem.EqNone.eq_str_none (fin_bl I q (by simp))
    | bl j => cases ry; exact PySem.EqMixed.eq_str_bool (fin_bl I q (by simp))
    | int j => obtain ⟨t', rfl⟩ := ry; exact PySem.EqMixed.eq_str_int (fin_bl I q (by simp))
    | str j => obtain ⟨t', rfl⟩ := ry; exact eq_str (fin_bl I q dec_str)
    | _ => exact absurd (show false = true from hs) Bool.false_ne_true
  | byt i =>
    obtain ⟨t, rfl⟩ := rx
    cases y with
    | byt j => obtain ⟨t', rfl⟩ := ry; exact PySem.W.eq_bytes (fin_bl I q dec_byt)
    | _ => exact absurd (show false = true from hs) Bool.false_ne_true
  | _ => cases y <;> exact absurd (show false = true from hs) Bool.false_ne_true
theorem op_lt : OpR X (compareOp .Lt) (rI0 fun i j => .bl (decide (i < j))) := opB0 fun _ _ _ _ _ _ _ q => lt_int q
theorem op_le : OpR X (compareOp .LtE) (rI0 fun i j => .bl (decide (i ≤ j))) := opB0 fun _ _ _ _ _ _ _ q => le_int q
theorem op_gt : OpR X (compareOp .Gt) (rI0 fun i j => .bl (decide (j < i))) := opB0 fun _ _ _ _ _ _ _ q => gt_int q
theorem OpR.or {f : Value → Value → Sem Value} {r r' : R2} (h : OpR X f r) (h' : OpR X f r') : OpR X f (fun x y H Q => r x y H Q ∨ r' x y H Q) := by
  intro pins s σ H x y v u Q I rx ry q
  rcases q with q | q
  · exact h pins s σ H x y v u Q I rx ry q
  · exact h' pins s σ H x y v u Q I rx ry q

theorem nomark (b : Expr) {op : CmpOp} (h : op ≠ .In := by decide) (h2 : op ≠ .NotIn := by decide) : behindInMarks op b = false := by
  have e1 : (op == CmpOp.In) = false := by cases op <;> first | rfl | exact absurd rfl h
  have e2 : (op == CmpOp.NotIn) = false := by cases op <;> first | rfl | exact absurd rfl h2
  cases b <;> simp [behindInMarks, e1, e2]
theorem pe_cmpR {op : CmpOp} {r : R2} (ho : OpR X (compareOp op) r) (ha : PE X a ta) (hb : PE X b tb) (hm : behindInMarks op b = false) : PE X (.Compare a [op] [b] pos) (tOp r ta tb) := by
  intro pins s σ H Q I h
  exact wpAny_Compare1 (binT ha hb I h fun v u s2 x y H2 I2 rx ry q => ho pins s2 σ H2 x y v u Q I2 rx ry q) hm
def tTest (t : TE) : TT := fun σ H Q => t σ H fun x H' => ∃ k, x = .bl k ∧ Q k H'
theorem pt_cmpR {op : CmpOp} {r : R2} (ho : OpR X (compareOp op) r) (ha : PE X a ta) (hb : PE X b tb) (hm : behindInMarks op b = false) : PT X (.Compare a [op] [b] pos) (tTest (tOp r ta tb)) := by
  intro pins s σ H Q I h
  refine wpAny_isTrue_Compare1 (thn (ha pins s σ H _ I h) fun v s1 ⟨x, H1, I1, r1, q1⟩ => thn (hb pins s1 σ H1 _ I1 q1) fun u s2 ⟨y, H2, I2, r2, q2⟩ =>
    thn (ho pins s2 σ H2 x y v u _ I2 r1 r2 q2) fun c s3 ⟨z, H3, I3, r3, k, e, q3⟩ => ?_) hm
  subst e
  cases r3
  exact wpAny_truthy_bool ⟨H3, I3, q3⟩
def tChain (r r' : R2) (ta tb tc : TE) : TE := fun σ H Q => ta σ H fun x H1 => tb σ H1 fun y H2 => r x y H2 fun z H3 => ∃ k, z = .bl k ∧
  (if k = true then tc σ H3 fun w' H4 => r' y w' H4 Q else Q (.bl false) H3)
theorem line63 : (sizeLine : Nat) < 2 ^ 63 := by rw [sizeLine_eq]; decide
theorem vals1 {x : V} {us : List Value} (r : Vals [x] us) : ∃ u, us = [u] ∧ RelV x u := by
  cases r with
  | cons r1 r2 => cases r2; exact ⟨_, rfl, r1⟩
theorem vals2 {x y : V} {us : List Value} (r : Vals [x, y] us) : ∃ u w', us = [u, w'] ∧ RelV x u ∧ RelV y w' := by
  cases r with
  | cons r1 r2 =>
    cases r2 with
    | cons r3 r4 => cases r4; exact ⟨_, _, rfl, r1, r3⟩
theorem call_max2 (hc : X.calm = true) : CallR X (.builtin "max") (fun xs H Q => ∃ i j, xs = [.int i, .int j] ∧ Q (.int (if j > i then j else i)) H) := by
  intro pins s σ H xs us Q I r h
  obtain ⟨i, j, rfl, q⟩ := h
  obtain ⟨u, w', rfl, ⟨t, rfl⟩, ⟨t', rfl⟩⟩ := vals2 r
  refine max_two_ints (I.ok.hd hc) fun h' tk k => ⟨_, H, I.kept k, ?_, q⟩
  by_cases hj : j > i
  · rw [if_pos hj, if_pos hj]; exact ⟨_, rfl⟩
  · rw [if_neg hj, if_neg hj]; exact ⟨_, rfl⟩
theorem call_min2 (hc : X.calm = true) : CallR X (.builtin "min") (fun xs H Q => ∃ i j, xs = [.int i, .int j] ∧ Q (.int (if j < i then j else i)) H) := by
  intro pins s σ H xs us Q I r h
  obtain ⟨i, j, rfl, q⟩ := h
  obtain ⟨u, w', rfl, ⟨t, rfl⟩, ⟨t', rfl⟩⟩ := vals2 r
  refine min_two_ints (I.ok.hd hc) fun h' tk k => ⟨_, H, I.kept k, ?_, q⟩
  by_cases hj : j < i
  · rw [if_pos hj, if_pos hj]; exact ⟨_, rfl⟩
  · rw [if_neg hj, if_neg hj]; exact ⟨_, rfl⟩
end
end L2

namespace L2
open PySem PySem.Spec PyProof.Rows

structure ObjM (h : Heap) (x dx C : Addr) (mA : Str → Option Value) : Prop where
  obj : h.get? x = some (PySem.W.instObj C dx)
  ns : h.Ns1 dx mA
  ne : dx ≠ x

theorem lookIn_ns {h : Heap} {dx : Addr} {mA : Str → Option Value} (n : h.Ns1 dx mA) : ∃ od, h.get? dx = some od ∧ ∀ name, PySem.W.lookIn name od = some (mA name) := by
  obtain ⟨o, es, ep, ho, hd, hk, _, hm⟩ := n
  refine ⟨o, ho, fun name => ?_⟩
  have e := hm name
  unfold nsFind findBy at e
  rw [← Array.find?_toList] at e
  unfold PySem.W.lookIn
  rw [hd]
  dsimp only
  split
  · rename_i y q
    rw [q] at e
    exact congrArg some e
  · rename_i q
    rw [q] at e
    have a : es.toList.any (·.refKey) = false := by
      rw [List.any_eq_false]
      intro y hy
      obtain ⟨z, t, hkey⟩ := hk y (Array.mem_toList_iff.mp hy)
      simp [DictEntry.refKey, hkey]
    have a' : ¬ es.toList.any (·.refKey) = true := by rw [a]; exact Bool.false_ne_true
    rw [if_neg a']
    exact congrArg some e

theorem ObjM.look {h : Heap} {x dx C : Addr} {mA : Str → Option Value} (I : ObjM h x dx C mA) : ∃ od, PySem.W.InstAt h x (PySem.W.instObj C dx) C (some od) ∧ ∀ name, PySem.W.lookIn name od = some (mA name) :=
  let ⟨od, ho, hl⟩ := lookIn_ns I.ns
  ⟨od, ⟨I.obj, rfl, rfl, ho⟩, hl⟩

section
variable {prog : Program} {w : World} {A : Around} {E : Value → Shared → Prop} {s : Shared} {K : PySem.W.Frag} {x dx C f : Addr} {mA : Str → Option Value} {name : Str} {v : Value}

theorem get_map {expr : Bool} {Q : Value → Shared → Prop} (X : K.In s.heap) (I : ObjM s.heap x dx C mA) (hg : PySem.W.plainGet K C name = true) (hh : PySem.W.hasDictIn K C = true)
    (ha : PySem.W.findIn K (.ref C) name = some none) (hv : mA name = some v) (hv' : PySem.W.handedIn v = true) (h : Q v { s with toks := s.toks + 1 }) :
    wpAny (model prog w) A (getAttr (.ref x) name expr) Q E s := by
  obtain ⟨od, J, hl⟩ := I.look
  exact PySem.W.get_value X J (PySem.W.plainGet_of hg).1 (PySem.W.findObj_own hh ha rfl (by rw [hl, hv])) hv' h

theorem get_meth {pl : Sem Bool} {Q : Value × List Value → Shared → Prop} (X : K.In s.heap) (I : ObjM s.heap x dx C mA) (hg : PySem.W.plainGet K C name = true)
    (hf : PySem.W.findIn K (.ref C) name = some (some (.ref f))) (ht : PySem.W.isFn K (.ref f) = true) (hv : mA name = none) (h : Q (.ref f, [.ref x]) s) :
    wpAny (model prog w) A (getMethod (.ref x) name pl) Q E s := by
  obtain ⟨od, J, hl⟩ := I.look
  exact PySem.W.method_fn X J (PySem.W.plainGet_of hg).1 (PySem.W.plainGet_of hg).2 hf (beq_iff_eq.mp ht) (by show (PySem.W.lookIn name od).map (·.isSome) = some false; rw [hl, hv]; rfl) h

theorem set_map {ns : List Str} {Q : Unit → Shared → Prop} (X : K.In s.heap) (I : ObjM s.heap x dx C mA)
    (hs : PySem.W.findIn K (.ref C) "__setattr__" = some (some (.builtin "object.__setattr__"))) (hp : PySem.W.plainOver K C = true) (ht : PySem.W.takerIn K C name = some none) (hh : PySem.W.hasDictIn K C = true)
    (hw : PySem.Within mA ns) (hsz : ns.length ≤ sizeLine)
    (h : ∀ h', ObjM h' x dx C (fun y => if y = name then some v else mA y) → Heap.SameBut dx s.heap h' → Q () { s with heap := h', toks := s.toks + 2 }) :
    wpAny (model prog w) A (setAttr (.ref x) name v) Q E s := by
  obtain ⟨od, J, hl⟩ := I.look
  refine PySem.W.set_plain X J hs (PySem.W.osa_open (s := { s with toks := s.toks + 1 }) (r := none) X J hp ht fun b => ?_)
  obtain ⟨cd, hc, hd'⟩ := PySem.W.any_some hh
  have hx : s.heap.get? x = some ⟨.ref C, some dx, .plain, #[]⟩ := I.obj
  refine wpAny_bind (wpAny_pure (wpAny_bind (wpAny_bind (wpAny_loadPart hx (wpAny_bind (PySem.W.Looks.here (s := { s with toks := s.toks + 1 }) (PySem.W.looks_clsIn X hc) ?_))))))
  rw [hd']
  refine wpAny_pure (a := some dx) (wpAny_bind (wpAny_pure (wpAny_bind ?_)))
  refine wpAny_nsSet1 (s := { s with toks := s.toks + 1 }) I.ns fun h' hn2 hs2 => ?_
  obtain ⟨oD, esD, epD, hoD, hdD, hcD⟩ := hn2.count (PySem.Within.cons name v hw)
  refine wpAny_bind (wpAny_lookBehind hoD (by rw [hdD]; exact pastItsLine_dict (Nat.le_trans hcD (by rw [List.length_cons]; omega))) ?_)
  exact wpAny_pure (h _ ⟨(hs2.2 _ (Ne.symm I.ne)).trans I.obj, hn2, I.ne⟩ hs2)

theorem make_map {R : Result → Shared → Prop} {vs : List Value} {kw : List (Str × Value)} (X : K.In s.heap) (hm : PySem.W.makesIn K C = true)
    (hi : PySem.W.findIn K (.ref C) "__init__" = some (some (.ref f))) (hf : PySem.W.typeIn K (.ref f) = some (.type "function"))
    (h : codeAny (model prog w) (A.under (.builtin "type.__call__" ⟨.ref C :: vs, kw⟩)) (.call (.ref f) ⟨.ref (s.heap.objs.size + 1) :: vs, kw⟩) (PySem.W.InitBack (s.heap.objs.size + 1) R)
      { s with heap := (s.heap.push PySem.W.emptyDict).push (PySem.W.instObj C s.heap.objs.size) }) :
    codeAny (model prog w) A (.call (.ref C) ⟨vs, kw⟩) R s := by
  obtain ⟨hh, g, d, t, os⟩ := s
  exact PySem.W.make_core (PySem.W.makes_of X hm) (PySem.W.looks_findIn X hi) (fun self => PySem.W.bind_fn X self hf) (.inl rfl) h
end

def putF (f : Str) (v : V) : List (Str × V) → List (Str × V)
  | [] => [(f, v)]
  | (g, x) :: r => if g = f then (g, v) :: r else (g, x) :: putF f v r
theorem lookup_putF (f g : Str) (v : V) : ∀ fs : List (Str × V), (putF f v fs).lookup g = if g = f then some v else fs.lookup g
  | [] => by
    show List.lookup g [(f, v)] = _
    by_cases h : g = f
    · have hb : (g == f) = true := beq_iff_eq.mpr h
      simp only [List.lookup, hb, if_pos h]
    · have hb : (g == f) = false := beq_eq_false_iff_ne.mpr h
      simp only [List.lookup, hb, if_neg h]
  | (k, x) :: r => by
    have ih := lookup_putF f g v r
    rw [show putF f v ((k, x) :: r) = (if k = f then (k, v) :: r else (k, x) :: putF f v r) from rfl]
    by_cases hk : k = f
    · rw [if_pos hk]
      by_cases h : g = k
      · have hb : (g == k) = true := beq_iff_eq.mpr h
        simp only [List.lookup, hb, if_pos (h.trans hk)]
      · have hb : (g == k) = false := beq_eq_false_iff_ne.mpr h
        simp only [List.lookup, hb, if_neg (fun e : g = f => h (e.trans hk.symm))]
    · rw [if_neg hk]
      by_cases h : g = k
      · have hb : (g == k) = true := beq_iff_eq.mpr h
        simp only [List.lookup, hb, if_neg (fun e : g = f => hk (h.symm.trans e))]
      · have hb : (g == k) = false := beq_eq_false_iff_ne.mpr h
        simp only [List.lookup, hb]
        exact ih
theorem keys_putF (f : Str) (v : V) : ∀ fs : List (Str × V), f ∈ (putF f v fs).map (·.1) ∧ ∀ g, g ∈ fs.map (·.1) → g ∈ (putF f v fs).map (·.1)
  | [] => ⟨by simp [putF], fun g h => by simp at h⟩
  | (k, x) :: r => by
    obtain ⟨i1, i2⟩ := keys_putF f v r
    rw [show putF f v ((k, x) :: r) = (if k = f then (k, v) :: r else (k, x) :: putF f v r) from rfl]
    by_cases hk : k = f
    · rw [if_pos hk]
      subst hk
      exact ⟨by simp, fun g h => by simpa using h⟩
    · rw [if_neg hk]
      refine ⟨?_, fun g h => ?_⟩
      · rw [List.map_cons]
        exact List.mem_cons_of_mem _ i1
      · rw [List.map_cons] at h ⊢
        rcases List.mem_cons.mp h with e | e
        · exact List.mem_cons.mpr (.inl e)
        · exact List.mem_cons_of_mem _ (i2 g e)
theorem length_putF (f : Str) (v : V) : ∀ fs : List (Str × V), (putF f v fs).length ≤ fs.length + 1
  | [] => by simp [putF]
  | (k, x) :: r => by
    have ih := length_putF f v r
    rw [show putF f v ((k, x) :: r) = (if k = f then (k, v) :: r else (k, x) :: putF f v r) from rfl]
    by_cases hk : k = f
    · rw [if_pos hk, List.length_cons, List.length_cons]; omega
    · rw [if_neg hk, List.length_cons, List.length_cons]; omega

theorem RelO.some_of {v : V} {o : Option Value} (r : RelO (some v) o) : ∃ u, o = some u ∧ RelV v u := by
  cases o with
  | none => exact (show False from r).elim
  | some u => exact ⟨u, rfl, r⟩
theorem RelO.none_of {o : Option Value} (r : RelO none o) : o = none := by
  cases o with
  | none => rfl
  | some u => exact (show False from r).elim
theorem handed_of {v : V} {u : Value} (r : RelV v u) : PySem.W.handedIn u = true := by
  cases v with
  | non => cases (show u = Value.none from r); rfl
  | bl b => cases (show u = Value.bool b from r); rfl
  | int i => obtain ⟨t, e⟩ := (show ∃ t, u = Value.int i t from r); cases e; rfl
  | str x => obtain ⟨t, e⟩ := (show ∃ t, u = Value.str x t from r); cases e; rfl
  | byt b => obtain ⟨t, e⟩ := (show ∃ t, u = Value.bytes b t from r); cases e; rfl
  | flt b => obtain ⟨t, e⟩ := (show ∃ t, u = Value.float b t from r); cases e; rfl
  | ref a => cases (show u = Value.ref a from r); rfl
  | ty n => cases (show u = Value.type n from r); rfl

section
variable {P : Program} {w : World} {H H' : Hp} {h h' : Heap} {a C dx : Addr} {fs fs' : List (Str × V)}
theorem ins_get (hok : HOk P w H h) (e : H a = some (.ins C dx fs)) : ∃ mA, ObjM h a dx C mA ∧ (∀ f, RelO (fs.lookup f) (mA f)) ∧ PySem.Within mA (fs.map (·.1)) ∧ fs.length ≤ 1000 ∧ H dx = some (.own a) := by
  obtain ⟨d, z, ne, ob, mA, n, r, q⟩ := (show ObjOk P w H h a (.ins C dx fs) from hok a _ e)
  exact ⟨mA, ⟨ob, n, ne⟩, r, q, z, d⟩
end

structure Cls (K : PySem.W.Frag) (C : Addr) : Prop where
  pg : PySem.W.plainGet K C Str.empty = true
  hd : PySem.W.hasDictIn K C = true
  po : PySem.W.plainOver K C = true
  sa : PySem.W.findIn K (.ref C) "__setattr__" = some (some (.builtin "object.__setattr__"))
theorem Cls.get {K : PySem.W.Frag} {C : Addr} (c : Cls K C) (f : Str) : PySem.W.plainGet K C f = true := c.pg
def NoAttr (K : PySem.W.Frag) (C : Addr) (f : Str) : Prop := PySem.W.findIn K (.ref C) f = some none
theorem NoAttr.taker {K : PySem.W.Frag} {C : Addr} {f : Str} (n : NoAttr K C f) : PySem.W.takerIn K C f = some none := by
  unfold PySem.W.takerIn
  rw [show PySem.W.findIn K (.ref C) f = some none from n]
  rfl
structure Meth (K : PySem.W.Frag) (C : Addr) (m : Str) (f : Addr) : Prop where
  at_ : PySem.W.findIn K (.ref C) m = some (some (.ref f))
  fn : PySem.W.isFn K (.ref f) = true
  kp : PySem.W.keepIn K (.ref f) = true

section
variable {X : Cx} {pins : List (Addr × Obj)} {σ : St} {H : Hp} {s : Shared} {a C dx : Addr} {fs : List (Str × V)} {f : Str} {v : V} {A : Around} {E : Value → Shared → Prop}

theorem getattr_ok {b : Bool} {Q : Value → Shared → Prop} (I : Inv X pins σ H s) (e : H a = some (.ins C dx fs)) (c : Cls X.K C) (n : NoAttr X.K C f) (l : fs.lookup f = some v)
    (h : ∀ u s', Inv X pins σ H s' → RelV v u → Q u s') : wpAny (model X.prog X.w) A (getAttr (.ref a) f b) Q E s := by
  obtain ⟨mA, O, r, _, _, _⟩ := ins_get I.hok e
  obtain ⟨u, hu, ru⟩ := RelO.some_of (v := v) (o := mA f) (by rw [← l]; exact r f)
  exact get_map I.kIn O (c.get f) c.hd n hu (handed_of ru) (h u _ (I.tok _) ru)

theorem getmeth_ok {m : Str} {g : Addr} {pl : Sem Bool} {Q : Value × List Value → Shared → Prop} (I : Inv X pins σ H s) (e : H a = some (.ins C dx fs)) (c : Cls X.K C) (k : Meth X.K C m g) (l : fs.lookup m = none)
    (h : Q (.ref g, [.ref a]) s) : wpAny (model X.prog X.w) A (getMethod (.ref a) m pl) Q E s := by
  obtain ⟨mA, O, r, _, _, _⟩ := ins_get I.hok e
  have hn : mA m = none := RelO.none_of (by rw [← l]; exact r m)
  exact get_meth I.kIn O (c.get m) k.at_ k.fn hn h

theorem setattr_ok {y : V} {u : Value} {Q : Unit → Shared → Prop} (I : Inv X pins σ H s) (e : H a = some (.ins C dx fs)) (c : Cls X.K C) (n : NoAttr X.K C f) (hl : fs.length < 1000) (ry : RelV y u)
    (h : ∀ s', Inv X pins σ (upd H a (.ins C dx (putF f y fs))) s' → Q () s') : wpAny (model X.prog X.w) A (setAttr (.ref a) f u) Q E s := by
  obtain ⟨mA, O, r, wi, _, ho⟩ := ins_get I.hok e
  have hz : (fs.map (·.1)).length ≤ sizeLine := by rw [List.length_map, sizeLine_eq]; omega
  refine set_map I.kIn O c.sa c.po n.taker c.hd wi hz fun h' O' sb => h _ ?_
  have hd : ∃ o, h'.get? dx = some o := let ⟨o, _, _, e', _⟩ := O'.ns; ⟨o, e'⟩
  refine I.write (x := a) (e := dx) (by rw [e]; exact True.intro) (.inr ho) (fun b q hb z => (sb.2 b hb).trans z) hd ?_
  refine ⟨by rw [upd_ne O.ne]; exact ho, ?_, O.ne, O'.obj, _, O'.ns, fun g => ?_, fun g hg => ?_⟩
  · have := length_putF f y fs; omega
  · show RelO ((putF f y fs).lookup g) (if g = f then some u else mA g)
    rw [lookup_putF]
    by_cases q : g = f
    · rw [if_pos q, if_pos q]; exact ry
    · rw [if_neg q, if_neg q]; exact r g
  · by_cases q : g = f
    · rw [q]; exact (keys_putF f y fs).1
    · refine (keys_putF f y fs).2 g (wi g fun z => hg ?_)
      show (if g = f then some u else mA g) = none
      rw [if_neg q]; exact z

theorem Inv.made (I : Inv X pins σ H s) : Inv X pins σ (upd (upd H s.heap.objs.size (.own (s.heap.objs.size + 1))) (s.heap.objs.size + 1) (.ins C s.heap.objs.size []))
    { s with heap := (s.heap.push PySem.W.emptyDict).push (PySem.W.instObj C s.heap.objs.size) } := by
  have e1 : (s.heap.push PySem.W.emptyDict).get? s.heap.objs.size = some PySem.W.emptyDict := Heap.get?_push_size s.heap rfl
  have e2 : ((s.heap.push PySem.W.emptyDict).push (PySem.W.instObj C s.heap.objs.size)).get? (s.heap.objs.size + 1) = some (PySem.W.instObj C s.heap.objs.size) := by
    have := Heap.get?_push_size (s.heap.push PySem.W.emptyDict) (o := PySem.W.instObj C s.heap.objs.size) rfl
    rwa [Heap.size_push] at this
  have e3 : (s.heap.push PySem.W.emptyDict).Ns s.heap.objs.size (fun _ => none) := ⟨PySem.W.emptyDict, #[], _, e1, rfl, (fun e he => absurd he (by simp)), fun _ => rfl⟩
  have I1 := I.laid (a := s.heap.objs.size) (o := .own (s.heap.objs.size + 1)) (h' := s.heap.push PySem.W.emptyDict) (t' := s.toks) (fun b u q => Heap.get?_push_of_some _ q) (Nat.le_refl _) ⟨_, e1⟩
  refine I1.laid (a := s.heap.objs.size + 1) (o := .ins C s.heap.objs.size []) (t' := s.toks) (fun b u q => Heap.get?_push_of_some _ q) (Nat.le_of_eq (Heap.size_push _ _)) ?_
  have ne : s.heap.objs.size ≠ s.heap.objs.size + 1 := Nat.ne_of_lt (Nat.lt_succ_self _)
  refine ⟨by rw [upd_ne ne, upd_same], Nat.zero_le _, ne, e2, fun _ => none, (Heap.Ns1.of_empty e3).at fun o q => Heap.get?_push_of_some _ q, fun _ => True.intro, fun y hy => absurd rfl hy⟩

theorem attr_of {prog : Program} {w : World} {env : Env} {e : Expr} {f : Str} {pos : Pos} {s : Shared} {Q : Value → Shared → Prop} (hb : attributeBase e f env (eval e env) = eval e env)
    (h : wpAny (model prog w) A (eval e env) (fun o s₁ => wpAny (model prog w) A (getAttr o f true) Q E s₁) E s) : wpAny (model prog w) A (eval (.Attribute e f pos) env) Q E s :=
  Attribute_any_ h (by rw [arm_eval_Attribute, hb])
end

def tFld (K : PySem.W.Frag) (ta : TE) (f : Str) : TE := fun σ H Q => ta σ H fun x H1 => ∃ a C dx fs v, x = .ref a ∧ H1 a = some (.ins C dx fs) ∧ Cls K C ∧ NoAttr K C f ∧ fs.lookup f = some v ∧ Q v H1
def sFld (K : PySem.W.Frag) (ta tv : TE) (f : Str) : TS := fun D σ H => tv σ H fun y H1 => ta σ H1 fun x H2 => ∃ a C dx fs, x = .ref a ∧ H2 a = some (.ins C dx fs) ∧ Cls K C ∧ NoAttr K C f ∧ fs.length < 1000 ∧
  D.nx σ (upd H2 a (.ins C dx (putF f y fs)))
section
variable {X : Cx} {o e value : Expr} {f : Str} {pos pos' tpos : Pos} {ta tv : TE}
theorem pe_fld (he : PE X e ta) (hb : attributeBase e f X.env (eval e X.env) = eval e X.env) : PE X (.Attribute e f pos) (tFld X.K ta f) := by
  intro pins s σ H Q I h
  refine attr_of hb (thn (he pins s σ H _ I h) fun u s1 ⟨x, H1, I1, rx, a, C, dx, fs, v, ex, ea, c, n, l, q⟩ => ?_)
  subst ex
  obtain rfl : u = Value.ref a := rx
  exact getattr_ok I1 ea c n l fun u' s2 I2 ru => ⟨v, H1, I2, ru, q⟩
theorem ps_fld (ha : PE X o ta) (hv : PE X value tv) (hs : swapsWith value (some (.Attribute o f pos')) pos.line X.env = pure false) : PS X (.Assign [.Attribute o f pos'] value pos) (sFld X.K ta tv f) := by
  intro pins s σ H D I h
  refine plainObj_wpAny_Assign_Attribute (thn (hv pins s σ H _ I h) fun u s1 ⟨y, H1, I1, ry, q⟩ => thn (ha pins s1 σ H1 _ I1 q) fun ov s2 ⟨x, H2, I2, rx, a, C, dx, fs, ex, ea, c, n, l, q2⟩ => ?_) hs
  subst ex
  obtain rfl : ov = Value.ref a := rx
  exact setattr_ok I2 ea c n l ry fun s3 I3 => ⟨σ, _, I3, q2⟩
end

section
variable {X : Cx} {pins : List (Addr × Obj)} {σ : St} {H : Hp} {s : Shared} {A : Around} {E : Value → Shared → Prop} {Q : Value → Shared → Prop} {c : Value} {b : Bool}
end
end L2

namespace L2
open PySem PySem.Spec PyProof.Rows

structure Room (k : Nat) (A : Around) : Prop where
  hd : A.handled = none
  dp : A.depth + 3 * k + 5 < recursionLimit
  un : A.units + 16 * k + 200 < cLine
theorem Room.mono {j k : Nat} {A : Around} (r : Room k A) (h : j ≤ k) : Room j A := ⟨r.hd, by have := r.dp; omega, by have := r.un; omega⟩
theorem Room.deeper {k : Nat} {A : Around} (r : Room (k + 1) A) (env : Env) : Room k (A.deeper env) :=
  ⟨r.hd, by have := r.dp; show A.depth + 1 + 3 * k + 5 < _; omega, by have := r.un; show A.units + 3 + 16 * k + 200 < _; omega⟩
theorem Room.in1 {k : Nat} {A : Around} (r : Room (k + 1) A) : Room k A.in1 :=
  ⟨r.hd, by have := r.dp; show A.depth + 3 * k + 5 < _; omega, by have := r.un; show A.units + 1 + 16 * k + 200 < _; omega⟩
theorem make_depth {A : Around} {C : Addr} {us : List Value} {kw : List (Str × Value)} : (A.under (.builtin "type.__call__" ⟨.ref C :: us, kw⟩)).depth = A.depth + 1 := by
  first | rfl | simp [Around.under, Code.weight, Code.isCreation, Code.isGuard, Code.isCaller, Code.frames, Code.isFrame, guardIds]
theorem make_units {A : Around} {C : Addr} {us : List Value} {kw : List (Str × Value)} : (A.under (.builtin "type.__call__" ⟨.ref C :: us, kw⟩)).units = A.units + 1 := by
  first | rfl | simp [Around.under, Code.cUnits, Code.frames, Code.isFrame]
theorem Room.make {k : Nat} {A : Around} (r : Room (k + 1) A) (C : Addr) (us : List Value) (kw : List (Str × Value)) : Room k (A.under (.builtin "type.__call__" ⟨.ref C :: us, kw⟩)) :=
  ⟨r.hd, by have := r.dp; rw [make_depth]; omega, by have := r.un; rw [make_units]; omega⟩
theorem Room.depth {k : Nat} {A : Around} (r : Room k A) : A.depth < recursionLimit := by have := r.dp; omega
theorem Room.units {k : Nat} {A : Around} (r : Room k A) : A.units + 64 < cLine := by have := r.un; omega
def tNil : TA := fun _ H Q => Q [] H
def tCons (ta : TE) (tr : TA) : TA := fun σ H Q => ta σ H fun x H1 => tr σ H1 fun xs H2 => Q (x :: xs) H2
section
variable {X : Cx} {e : Expr} {es : List Expr} {te : TE} {t : TA} {pos : Pos}
theorem pa_nil : PA X [] tNil := fun _ _ _ _ H Q I h => Calls.spliced_nil ⟨[], H, I, .nil, h⟩
theorem pa_cons (ha : PE X e te) (hr : PA X es t) (hs : starEach (e :: es) X.env = (false, eval e X.env) :: starEach es X.env := by rfl) : PA X (e :: es) (tCons te t) := by
  intro pos pins s σ H Q I h
  rw [hs]
  show wpAny _ _ (spliced ((false, eval e X.env) :: backTo pos (starEach es X.env))) _ _ s
  refine Calls.spliced_cons (thn (ha pins s σ H _ I h) fun u s1 ⟨x, H1, I1, r1, q1⟩ => ?_)
  exact thn (hr pos pins s1 σ H1 _ I1 q1) fun us s2 ⟨xs, H2, I2, r2, q2⟩ => ⟨x :: xs, H2, I2, .cons r1 r2, q2⟩

def tTup (t : TA) : TE := fun σ H Q => t σ H fun xs H1 => xs.length ≤ sizeLine ∧ ∀ p, H1 p = none → Q (.ref p) (upd H1 p (.tup xs))
def tLst (t : TA) : TE := fun σ H Q => t σ H fun xs H1 => xs.length ≤ sizeLine ∧ ∀ p, H1 p = none → Q (.ref p) (upd H1 p (.lst xs))
theorem pe_tup {x1} (h : PA X es t) : PE X (.Tuple es x1 pos) (tTup t) := by
  intro pins s σ H Q I hq
  refine wpAny_Tuple_spliced (thn (h pos pins s σ H _ I hq) fun us s1 ⟨xs, H1, I1, r, z, q⟩ => ⟨by rw [← r.length]; exact z, ?_⟩)
  have hf : H1 s1.heap.objs.size = none := I1.hok.fresh (Nat.le_refl _)
  refine ⟨.ref s1.heap.objs.size, upd H1 s1.heap.objs.size (.tup xs), I1.laid (t' := s1.toks) (fun b u e => Heap.get?_push_of_some _ e) (Nat.le_refl _) ?_, rfl, q _ hf⟩
  exact ⟨z, us, r, ⟨_, Heap.get?_push_size _ rfl, rfl, _, rfl⟩⟩
theorem pe_lst (h : PA X es t) : PE X (.List es pos) (tLst t) := by
  intro pins s σ H Q I hq
  refine wpAny_List_spliced (thn (h pos pins s σ H _ I hq) fun us s1 ⟨xs, H1, I1, r, z, q⟩ => ⟨by rw [← r.length]; exact z, ?_⟩)
  have hf : H1 s1.heap.objs.size = none := I1.hok.fresh (Nat.le_refl _)
  refine ⟨.ref s1.heap.objs.size, upd H1 s1.heap.objs.size (.lst xs), I1.laid (t' := s1.toks) (fun b u e => Heap.get?_push_of_some _ e) (Nat.le_refl _) ?_, rfl, q _ hf⟩
  exact ⟨z, us, 0, r, Heap.get?_push_size _ rfl⟩
end

abbrev Sp := List V → Hp → VK → XK → Prop
abbrev CXT := List Env → Hp → Shared → XK → Value → Shared → Prop

structure Env0 (P : Program) (w : World) (K : PySem.W.Frag) (mg : Str → Option Value) (base : Heap) (A : Around) (outer : List Env) (s : Shared) (H : Hp) : Prop where
  frames : A.frames = some outer
  mod : Mod K mg base
  bs : ∀ b o, base.get? b = some o → s.heap.get? b = some o ∧ H b = none
  bsz : base.objs.size ≤ s.heap.objs.size
  funs : s.heap.FunFrames base outer
  frf : ∀ b ∈ frs outer, H b = none
  hok : HOk P w H s.heap
  bare : AllBare s.gens
def CE (outer : List Env) (P : Program) (w : World) (H : Hp) (s : Shared) (Q : VK) (u : Value) (s' : Shared) : Prop :=
  ∃ v H', s'.os = s.os ∧ AllBare s'.gens ∧ Un (frs outer) [] H H' s.heap s'.heap ∧ HOk P w H' s'.heap ∧ RelV v u ∧ Q v H'
def CR (CX : CXT) (outer : List Env) (P : Program) (w : World) (H : Hp) (s : Shared) (Q : VK) (E : XK) (r : Result) (s' : Shared) : Prop :=
  match r with
  | .ok (.ret u) => CE outer P w H s Q u s'
  | .ok _ => False
  | .error e => CX outer H s E e s'
structure FnOk (P : Program) (w : World) (K : PySem.W.Frag) (mg : Str → Option Value) (base : Heap) (CX : CXT) (k : Nat) (f : Addr) (fd : FuncData) (ps : List Str) (sp : Sp) : Prop where
  len : ∀ vs H Q E, sp vs H Q E → vs.length = ps.length
  run : ∀ (A : Around) (outer : List Env) (s : Shared) (H : Hp) (args : Args) (us : List Value) (vs : List V) (Q : VK) (E : XK), Room k A → Env0 P w K mg base A outer s H → BindsTo s fd args (ps.zip us) → Vals vs us → sp vs H Q E →
    codeAny (model P w) A (.call (.ref f) args) (CR CX outer P w H s Q E) s
theorem FnOk.mono {P : Program} {w : World} {K : PySem.W.Frag} {mg : Str → Option Value} {base : Heap} {CX : CXT} {j k : Nat} {f : Addr} {fd : FuncData} {ps : List Str} {sp : Sp} (F : FnOk P w K mg base CX j f fd ps sp) (h : j ≤ k) :
    FnOk P w K mg base CX k f fd ps sp := ⟨F.len, fun A outer s H args us vs Q E hr => F.run A outer s H args us vs Q E (hr.mono h)⟩
theorem FnOk.imp {P : Program} {w : World} {K : PySem.W.Frag} {mg : Str → Option Value} {base : Heap} {CX : CXT} {k : Nat} {f : Addr} {fd : FuncData} {ps : List Str} {sp sp' : Sp} (F : FnOk P w K mg base CX k f fd ps sp)
    (h : ∀ vs H Q E, sp' vs H Q E → sp vs H Q E) : FnOk P w K mg base CX k f fd ps sp' :=
  ⟨fun vs H Q E q => F.len vs H Q E (h _ _ _ _ q), fun A outer s H args us vs Q E hr he hb hv hs => F.run A outer s H args us vs Q E hr he hb hv (h _ _ _ _ hs)⟩

theorem Env0.make {P : Program} {w : World} {K : PySem.W.Frag} {mg : Str → Option Value} {base : Heap} {A : Around} {outer : List Env} {s : Shared} {H : Hp} (e : Env0 P w K mg base A outer s H) (C : Addr) (us : List Value) (kw : List (Str × Value)) :
    Env0 P w K mg base (A.under (.builtin "type.__call__" ⟨.ref C :: us, kw⟩)) outer s H := ⟨by first | exact e.frames | (simpa [Around.under, Code.envs, Code.isFrame, pushEnvs] using e.frames), e.mod, e.bs, e.bsz, e.funs, e.frf, e.hok, e.bare⟩
theorem Env0.in1 {P : Program} {w : World} {K : PySem.W.Frag} {mg : Str → Option Value} {base : Heap} {A : Around} {outer : List Env} {s : Shared} {H : Hp} (e : Env0 P w K mg base A outer s H) :
    Env0 P w K mg base A.in1 outer s H := ⟨e.frames, e.mod, e.bs, e.bsz, e.funs, e.frf, e.hok, e.bare⟩

section
variable {X : Cx} {pins : List (Addr × Obj)} {σ : St} {H : Hp} {s s' : Shared}
theorem Inv.env0 (I : Inv X pins σ H s) : Env0 X.prog X.w X.K X.mg X.base X.A X.stack s H :=
  ⟨I.ok.frames, I.ok.mod, I.bs, Nat.le_trans I.ok.bsz I.sz, I.stack, I.stkFree, I.hok, I.bare⟩
theorem Inv.after {Q : VK} {u : Value} (I : Inv X pins σ H s) (h : CE X.stack X.prog X.w H s Q u s') : EP X pins σ Q u s' := by
  obtain ⟨v, H', os, bare, un, hok, r, q⟩ := h
  obtain ⟨hh, g, d, t, os'⟩ := s'
  obtain rfl : os' = s.os := os
  exact ⟨v, H', I.call (h' := hh) (g' := g) (d' := d) (t' := t) (ch := []) un hok bare (fun b z => absurd z (by simp)), r, q⟩
end

def tCall (sp : Sp) (dvs : List V) (E : XK) (t : TA) : TE := fun σ H Q => t σ H fun vs H1 => sp (vs ++ dvs) H1 Q E
def tMeth (C : Addr) (m : Str) (sp : Sp) (dvs : List V) (E : XK) (ta : TE) (t : TA) : TE := fun σ H Q => ta σ H fun x H1 => ∃ a dx fs, x = .ref a ∧ H1 a = some (.ins C dx fs) ∧ fs.lookup m = none ∧
  t σ H1 fun vs H2 => sp (x :: (vs ++ dvs)) H2 Q E
def tMake (C : Addr) (sp : Sp) (dvs : List V) (E : XK) (t : TA) : TE := fun σ H Q => t σ H fun vs H1 => ∀ x dx, H1 x = none → H1 dx = none → dx ≠ x →
  sp (.ref x :: (vs ++ dvs)) (upd (upd H1 dx (.own x)) x (.ins C dx [])) (fun v H2 => v = .non ∧ Q (.ref x) H2) E

def Binds (K : PySem.W.Frag) (fd : FuncData) (ps : List Str) (ds : List Value) : Prop :=
  ∀ (s : Shared) (us : List Value), K.In s.heap → (us ++ ds).length = ps.length → BindsTo s fd ⟨us, []⟩ (ps.zip (us ++ ds))
theorem Binds.all {K : PySem.W.Frag} {fd : FuncData} {ps : List Str} (h : ∀ us : List Value, us.length = ps.length → bindArgs fd ⟨us, []⟩ = pure (ps.zip us)) : Binds K fd ps [] := fun s us _ hl => by
  rw [List.append_nil] at hl ⊢
  exact .of_eq (h us hl)

def Passes (CX : CXT) (X : Cx) (E : XK) : Prop := ∀ (pins : List (Addr × Obj)) (σ : St) (H : Hp) (s : Shared) (e : Value) (s' : Shared), Inv X pins σ H s → CX X.stack H s E e s' → X.xe e s'

section
variable {X : Cx} {CX : CXT} {k : Nat} {f C : Addr} {fd : FuncData} {ps : List Str} {sp : Sp} {dvs : List V} {ds : List Value} {E : XK} {x m : Str} {p pos apos : Pos} {e o : Expr} {es : List Expr} {ta : TE} {t : TA}

theorem run_fn {pins : List (Addr × Obj)} {σ : St} {H : Hp} {s : Shared} {Q : VK} {us : List Value} {vs : List V} (F : FnOk X.prog X.w X.K X.mg X.base CX k f fd ps sp) (hr : Room k X.A) (hb : Binds X.K fd ps ds) (hd : Vals dvs ds) (hx : Passes CX X E)
    (I : Inv X pins σ H s) (r : Vals vs us) (h : sp (vs ++ dvs) H Q E) : wpAny (model X.prog X.w) X.A (call (.ref f) us) (EP X pins σ Q) X.xe s := by
  have r2 : Vals (vs ++ dvs) (us ++ ds) := r.append hd
  have hl : (us ++ ds).length = ps.length := by rw [← r2.length]; exact F.len _ _ _ _ h
  refine wpAny_call (codeAny_mono (F.run X.A X.stack s H ⟨us, []⟩ (us ++ ds) (vs ++ dvs) Q E hr I.env0 (hb s us I.kIn hl) r2 h) fun r s' hq => ?_)
  cases r with
  | error e => exact hx pins σ H s e s' I hq
  | ok fl =>
    cases fl with
    | ret u => exact I.after hq
    | next => exact False.elim hq
    | brk => exact False.elim hq
    | cont => exact False.elim hq

theorem pe_call (F : FnOk X.prog X.w X.K X.mg X.base CX k f fd ps sp) (hr : Room k X.A) (hg : Gl X x) (hm : X.mg x = some (.ref f)) (hk : PySem.W.keepIn X.K (.ref f) = true) (hb : Binds X.K fd ps ds) (hd : Vals dvs ds) (hx : Passes CX X E)
    (ha : PA X (e :: es) t) (hdb : (x == ("__debug__" : Str)) = false := by decide) (he : starEach (e :: es) X.env = (false, eval e X.env) :: starEach es X.env := by rfl) (hpl : (backTo pos (starEach es X.env)).any (·.1) = false := by rfl) :
    PE X (.Call (.Name x p) (e :: es) [] pos) (tCall sp dvs E t) := by
  intro pins s σ H Q I h
  refine wpAny_Call_Name_kw (ld_glob I hg hm ?_ hdb)
  refine PySem.W.callWith_K (h₀ := X.base) I.ok.mod.kin hk (thn (ha pos pins s σ H _ I h) fun us s1 ⟨vs, H1, I1, r, q⟩ => ⟨I1.kIn, ?_⟩) he hpl
  exact run_fn F hr hb hd hx I1 r q
theorem pe_call0 (F : FnOk X.prog X.w X.K X.mg X.base CX k f fd ps sp) (hr : Room k X.A) (hg : Gl X x) (hm : X.mg x = some (.ref f)) (hk : PySem.W.keepIn X.K (.ref f) = true) (hb : Binds X.K fd ps ds) (hd : Vals dvs ds) (hx : Passes CX X E)
    (hdb : (x == ("__debug__" : Str)) = false := by decide) : PE X (.Call (.Name x p) [] [] pos) (tCall sp dvs E tNil) := by
  intro pins s σ H Q I h
  refine wpAny_Call_Name_kw (ld_glob I hg hm ?_ hdb)
  exact PySem.W.callWith_K0 I.kIn hk (run_fn (us := []) F hr hb hd hx I .nil h)

theorem pe_meth {pl : Sem Bool} (he : PE X o ta) (c : Cls X.K C) (hm : Meth X.K C m f) (F : FnOk X.prog X.w X.K X.mg X.base CX k f fd ps sp) (hr : Room k X.A) (hb : Binds X.K fd ps ds) (hd : Vals dvs ds) (hx : Passes CX X E) (ha : PA X (e :: es) t)
    (hst : starEach (e :: es) X.env = (false, eval e X.env) :: starEach es X.env := by rfl) (hpl : (backTo pos (starEach es X.env)).any (·.1) = false := by rfl)
    (ht : eval (.Call (.Attribute o m apos) (e :: es) [] pos) X.env = (do
      let ov ← eval o X.env
      standAt apos.atName
      let (f, first) ← holding [ov] (getMethod ov m pl)
      callWith pos f first (backTo pos (starEach (e :: es) X.env)) (backToKw pos (keywordEach [] X.env))) := by rfl) :
    PE X (.Call (.Attribute o m apos) (e :: es) [] pos) (tMeth C m sp dvs E ta t) := by
  intro pins s σ H Q I h
  refine PySem.W.methodCall_KW (pl := pl) (thn (he pins s σ H _ I h) fun u s1 ⟨x, H1, I1, rx, a, dx, fs, ex, ea, l, q⟩ => ?_) ht
  subst ex
  obtain rfl : u = Value.ref a := rx
  refine getmeth_ok I1 ea c hm l ?_
  refine PySem.W.callWith_K (first := [.ref a]) (h₀ := X.base) I.ok.mod.kin hm.kp (thn (ha pos pins s1 σ H1 _ I1 q) fun us s2 ⟨vs, H2, I2, r, q2⟩ => ⟨I2.kIn, ?_⟩) hst hpl
  exact run_fn (us := .ref a :: us) (vs := .ref a :: vs) F hr hb hd hx I2 (.cons rfl r) q2
theorem pe_meth0 {pl : Sem Bool} (he : PE X o ta) (c : Cls X.K C) (hm : Meth X.K C m f) (F : FnOk X.prog X.w X.K X.mg X.base CX k f fd ps sp) (hr : Room k X.A) (hb : Binds X.K fd ps ds) (hd : Vals dvs ds) (hx : Passes CX X E)
    (ht : eval (.Call (.Attribute o m apos) [] [] pos) X.env = (do
      let ov ← eval o X.env
      standAt apos.atName
      let (f, first) ← holding [ov] (getMethod ov m pl)
      callWith pos f first (backTo pos (starEach [] X.env)) (backToKw pos (keywordEach [] X.env))) := by rfl) :
    PE X (.Call (.Attribute o m apos) [] [] pos) (tMeth C m sp dvs E ta tNil) := by
  intro pins s σ H Q I h
  refine PySem.W.methodCall_KW (pl := pl) (thn (he pins s σ H _ I h) fun u s1 ⟨x, H1, I1, rx, a, dx, fs, ex, ea, l, q⟩ => ?_) ht
  subst ex
  obtain rfl : u = Value.ref a := rx
  refine getmeth_ok I1 ea c hm l ?_
  exact PySem.W.callWith_K0 (first := [.ref a]) I1.kIn hm.kp (run_fn (us := [.ref a]) (vs := [.ref a]) F hr hb hd hx I1 (.cons rfl .nil) q)

structure Mk (K : PySem.W.Frag) (C f : Addr) : Prop where
  makes : PySem.W.makesIn K C = true
  init : PySem.W.findIn K (.ref C) "__init__" = some (some (.ref f))
  fn : PySem.W.isFn K (.ref f) = true
  kp : PySem.W.keepIn K (.ref C) = true

theorem run_make {pins : List (Addr × Obj)} {σ : St} {H : Hp} {s : Shared} {Q : VK} {us : List Value} {vs : List V} (M : Mk X.K C f) (F : FnOk X.prog X.w X.K X.mg X.base CX k f fd ps sp) (hr : Room (k + 1) X.A) (hb : Binds X.K fd ps ds) (hd : Vals dvs ds)
    (hx : Passes CX X E) (I : Inv X pins σ H s) (r : Vals vs us)
    (h : ∀ x dx, H x = none → H dx = none → dx ≠ x → sp (.ref x :: (vs ++ dvs)) (upd (upd H dx (.own x)) x (.ins C dx [])) (fun v H2 => v = .non ∧ Q (.ref x) H2) E) :
    wpAny (model X.prog X.w) X.A (call (.ref C) us) (EP X pins σ Q) X.xe s := by
  have hq := h (s.heap.objs.size + 1) s.heap.objs.size (I.hok.fresh (Nat.le_succ _)) (I.hok.fresh (Nat.le_refl _)) (Nat.ne_of_lt (Nat.lt_succ_self _))
  have I2 := Inv.made (C := C) I
  have r2 : Vals (V.ref (s.heap.objs.size + 1) :: (vs ++ dvs)) (Value.ref (s.heap.objs.size + 1) :: (us ++ ds)) := .cons rfl (r.append hd)
  have hl : (Value.ref (s.heap.objs.size + 1) :: us ++ ds).length = ps.length := by
    have e := r2.length
    rw [F.len _ _ _ _ hq] at e
    exact e.symm
  refine wpAny_call (make_map (f := f) I.kIn M.makes M.init (beq_iff_eq.mp M.fn) (codeAny_mono (F.run _ X.stack _ _ ⟨Value.ref (s.heap.objs.size + 1) :: us, []⟩ (Value.ref (s.heap.objs.size + 1) :: (us ++ ds)) _ _ E (hr.make C us [])
    (I2.env0.make C us []) (hb _ (Value.ref (s.heap.objs.size + 1) :: us) I2.kIn hl) r2 hq) fun r s' hq' => ?_))
  cases r with
  | error e => exact hx pins σ _ _ e s' I2 hq'
  | ok fl =>
    cases fl with
    | ret u =>
      obtain ⟨v, H', I3, rv, ev, q3⟩ := I2.after hq'
      subst ev
      exact ⟨rv, ⟨V.ref (s.heap.objs.size + 1), H', I3, rfl, q3⟩⟩
    | next => exact False.elim hq'
    | brk => exact False.elim hq'
    | cont => exact False.elim hq'
theorem pe_make0 (M : Mk X.K C f) (F : FnOk X.prog X.w X.K X.mg X.base CX k f fd ps sp) (hr : Room (k + 1) X.A) (hg : Gl X x) (hm : X.mg x = some (.ref C)) (hb : Binds X.K fd ps ds) (hd : Vals dvs ds) (hx : Passes CX X E)
    (hdb : (x == ("__debug__" : Str)) = false := by decide) : PE X (.Call (.Name x p) [] [] pos) (tMake C sp dvs E tNil) := by
  intro pins s σ H Q I h
  refine wpAny_Call_Name_kw (ld_glob I hg hm ?_ hdb)
  exact PySem.W.callWith_K0 I.kIn M.kp (run_make (us := []) M F hr hb hd hx I .nil h)
end

section
variable {X : Cx} {CX : CXT} {k : Nat} {f C : Addr} {fd : FuncData} {ps ks : List Str} {sp : Sp} {E : XK} {x m : Str} {p pos apos kpos : Pos} {e o : Expr} {es : List Expr} {kws : List Keyword} {te ta : TE} {t tk : TA} {nm : Option Str}
variable {g : List Value → List Value → List Value} {gV : List V → List V → List V}
end

structure FnScope (N P : List Str) (sc : Scope) : Prop where
  kind : sc.kind = .function
  co : sc.isCoroutine = false
  gen : sc.isGenerator = false
  nd : N.Nodup
  pre : N.take P.length = P
  par : ∀ x ∈ P, sc.names.lookup x = some .local ∨ sc.names.lookup x = some .cell
  nofree : ∀ y ∈ sc.names, y.2 ≠ .free

theorem bindL_out {kindOf : Str → Option NameKind} {x : Str} : ∀ {binds : List (Str × Value)} {m : Str → Option Value}, (∀ v, (x, v) ∉ binds) → bindL kindOf binds m x = m x
  | [], _, _ => rfl
  | (n, v) :: r, m, h => by
    unfold bindL
    rw [bindL_out fun w hw => h w (List.mem_cons_of_mem _ hw)]
    split
    · have : x ≠ n := by rintro rfl; exact h v List.mem_cons_self
      simp [this]
    · rfl
theorem bindC_out {kindOf : Str → Option NameKind} {x : Str} : ∀ {binds : List (Str × Value)} {m : Str → Option Value}, (∀ v, (x, v) ∉ binds) → bindC kindOf binds m x = m x
  | [], _, _ => rfl
  | (n, v) :: r, m, h => by
    unfold bindC
    rw [bindC_out fun w hw => h w (List.mem_cons_of_mem _ hw)]
    split
    · rfl
    · have : x ≠ n := by rintro rfl; exact h v List.mem_cons_self
      simp [this]
theorem bindL_get {kindOf : Str → Option NameKind} {x : Str} {v : Value} : ∀ {P : List Str} {vs : List Value} {i : Nat} {m : Str → Option Value}, P.Nodup → P[i]? = some x → vs[i]? = some v → kindOf x = some .local →
    bindL kindOf (P.zip vs) m x = some v
  | [], _, _, _, _, h, _, _ => by simp at h
  | _ :: _, [], _, _, _, _, h, _ => by simp at h
  | p :: P, w :: vs, 0, m, nd, h1, h2, hk => by
    simp at h1 h2; subst h1; subst h2
    show bindL kindOf ((p, w) :: P.zip vs) m p = _
    unfold bindL
    rw [bindL_out fun v hv => (List.nodup_cons.mp nd).1 (List.of_mem_zip hv).1, if_pos hk]
    simp
  | p :: P, w :: vs, i + 1, m, nd, h1, h2, hk => by
    show bindL kindOf ((p, w) :: P.zip vs) m x = _
    unfold bindL
    exact bindL_get (i := i) (List.nodup_cons.mp nd).2 (by simpa using h1) (by simpa using h2) hk
theorem bindC_get {kindOf : Str → Option NameKind} {x : Str} {v : Value} : ∀ {P : List Str} {vs : List Value} {i : Nat} {m : Str → Option Value}, P.Nodup → P[i]? = some x → vs[i]? = some v → kindOf x ≠ some .local →
    bindC kindOf (P.zip vs) m x = some v
  | [], _, _, _, _, h, _, _ => by simp at h
  | _ :: _, [], _, _, _, _, h, _ => by simp at h
  | p :: P, w :: vs, 0, m, nd, h1, h2, hk => by
    simp at h1 h2; subst h1; subst h2
    show bindC kindOf ((p, w) :: P.zip vs) m p = _
    unfold bindC
    rw [bindC_out fun v hv => (List.nodup_cons.mp nd).1 (List.of_mem_zip hv).1, if_neg hk]
    simp
  | p :: P, w :: vs, i + 1, m, nd, h1, h2, hk => by
    show bindC kindOf ((p, w) :: P.zip vs) m x = _
    unfold bindC
    exact bindC_get (i := i) (List.nodup_cons.mp nd).2 (by simpa using h1) (by simpa using h2) hk

def start (N : List Str) (vs : List V) : St := vs.map some ++ List.replicate (N.length - vs.length) none

def cxOf (CX : CXT) (P : Program) (w : World) (K : PySem.W.Frag) (mg : Str → Option Value) (base : Heap) (N : List Str) (qual : Str) (scope : Scope) (f : Addr) (cd : Value) (A : Around) (outer : List Env) (s : Shared) (H : Hp) (E : XK) : Cx where
  prog := P
  w := w
  K := K
  mg := mg
  base := base
  A := A.deeper (envOfC qual scope s.heap.objs.size f cd)
  N := N
  s_0 := s
  H_0 := H
  env := envOfC qual scope s.heap.objs.size f cd
  outer := outer
  stack := envOfC qual scope s.heap.objs.size f cd :: outer
  ex := []
  calm := true
  fn := fun _ => true
  pn := []
  xe := fun e s' => wpAny (model P w) (A.deeper (envOfC qual scope s.heap.objs.size f cd)) (leaving (envOfC qual scope s.heap.objs.size f cd) e) (fun _ s'' => CX outer H s E e s'') (fun e' s'' => CX outer H s E e' s'') s'

theorem cell_has {sc : Scope} {n : Nat} {x : Str} (h : sc.names.lookup x = some .cell) : ∃ c, (cellsFrom n sc.names []).lookup x = some c := by
  have q := PySem.W.cellsFrom_some sc.names n [] (.inl h)
  exact Option.isSome_iff_exists.mp q

theorem inv_start {CX : CXT} {P : Program} {w : World} {K : PySem.W.Frag} {mg : Str → Option Value} {base : Heap} {N ps : List Str} {qual : Str} {scope : Scope} {f : Addr} {cd : Value} {A : Around} {outer : List Env} {s s1 : Shared} {H : Hp} {E : XK} {us : List Value} {vs : List V}
    (S : FnScope N ps scope) (hd : A.handled = none) (e0 : Env0 P w K mg base A outer s H) (hl : vs.length = ps.length) (r : Vals vs us)
    (x : InCallC s s.heap.objs.size (bindL (envOfC qual scope s.heap.objs.size f cd).kindOf (ps.zip us) fun _ => none) (cellsFrom (s.heap.objs.size + 1) scope.names []) (bindC (envOfC qual scope s.heap.objs.size f cd).kindOf (ps.zip us) fun _ => none) s1) :
    Inv (cxOf CX P w K mg base N qual scope f cd A outer s H E) [] (start N vs) H s1 := by
  have hpl : ps.length ≤ N.length := by have := congrArg List.length S.pre; rw [List.length_take] at this; omega
  obtain ⟨h1, tk, rfl, hk⟩ := x.done
  have noA : ∀ b : Addr, b ∉ (cxOf CX P w K mg base N qual scope f cd A outer s H E).ex := fun b z => absurd (show b ∈ ([] : List Addr) from z) (by simp)
  refine ⟨⟨e0.mod, S.kind, rfl, rfl, Nat.le_refl _, fun y z c h1 h2 => ?_, fun y hy => ?_, fun y c _ h => ?_, fun _ => hd, Around.frames_deeper e0.frames, .inr ⟨rfl, rfl⟩, fun b z => absurd z (noA b), e0.bs, e0.bsz, fun b _ _ => noA b, fun b z => absurd z (noA b), e0.funs, e0.frf⟩,
    rfl, e0.bare, Un.kept hk, ⟨_, x.toInCall.ns, fun i y v h1 h2 h3 => ?_⟩, fun y c h => ⟨_, x.cell y c h⟩, e0.hok.fresh (Nat.le_refl _), fun y c h => ?_, fun p hp => absurd (show p ∈ ([] : List (Addr × Obj)) from hp) (by simp), e0.hok.kept hk, ?_⟩
  · exact name_of_addr x.apart (PySem.mem_of_lookup h1) (PySem.mem_of_lookup h2)
  · have hy : scope.names.lookup y = some .cell ∨ scope.names.lookup y = some .free := hy
    rcases hy with hy | hy
    · exact cell_has hy
    · exact absurd rfl (S.nofree _ (PySem.mem_of_lookup hy))
  · exact Nat.le_of_lt (x.above y c (PySem.mem_of_lookup h))
  · have hi : i < vs.length := by
      unfold start at h2
      by_cases hi : i < vs.length
      · exact hi
      · rw [List.getElem?_append_right (by simpa using hi)] at h2
        rw [List.getElem?_replicate] at h2
        split at h2 <;> cases h2
    have ha : vs[i]? = some v := by
      unfold start at h2
      rw [List.getElem?_append_left (by simpa using hi), List.getElem?_map] at h2
      cases e : vs[i]? with
      | none => rw [e] at h2; cases h2
      | some a => rw [e] at h2; cases h2; rfl
    obtain ⟨u, hu, rv⟩ := r.get ha
    have hp : ps[i]? = some y := by
      rw [← S.pre, List.getElem?_take_of_lt (by omega)]; exact h1
    have ndP : ps.Nodup := by rw [← S.pre]; exact S.nd.sublist (List.take_sublist _ _)
    refine ⟨u, rv, ?_⟩
    rcases S.par y (List.mem_of_getElem? hp) with k | k
    · exact .inl ⟨k, bindL_get ndP hp hu k⟩
    · obtain ⟨c, e⟩ := cell_has (n := s.heap.objs.size + 1) k
      refine .inr ⟨.inl k, c, e, ?_⟩
      have q := x.cell y c e
      rw [bindC_get ndP hp hu (by show scope.names.lookup y ≠ _; rw [k]; decide)] at q
      exact q
  · exact e0.hok.fresh (Nat.le_of_lt (x.above y c (PySem.mem_of_lookup h)))
  · unfold start
    show _ = N.length
    rw [List.length_append, List.length_map, List.length_replicate]
    omega

theorem fn_of {CX : CXT} {P : Program} {w : World} {K : PySem.W.Frag} {mg : Str → Option Value} {base : Heap} {k : Nat} {f : Addr} {name qual : Str} {params : Arguments} {body : List Stmt} {scope : Scope} {dV kV doc pm cdv ct oc : Value} {an od : Option Addr}
    {osl : Array (Option Value)} {N ps : List Str} {sp : Sp} (lk : K.lookup f = some ⟨oc, od, .func (PySem.W.fnOf name qual params body scope dV kV doc pm an cdv ct), osl⟩) (hcd : PySem.W.codeIn K cdv qual = true) (S : FnScope N ps scope)
    (len : ∀ vs H Q E, sp vs H Q E → vs.length = ps.length)
    (hbody : ∀ (A : Around) (outer : List Env) (s : Shared) (H : Hp) (vs : List V) (Q : VK) (E : XK), Room k (A.deeper (envOfC qual scope s.heap.objs.size f cdv)) → sp vs H Q E →
      ∃ t, PSs (cxOf CX P w K mg base N qual scope f cdv A outer s H E) body t ∧ t { nx := fun _ H' => Q .non H', rt := Q } (start N vs) H) :
    FnOk P w K mg base CX (k + 1) f (PySem.W.fnOf name qual params body scope dV kV doc pm an cdv ct) ps sp := by
  refine ⟨len, fun A outer s H args us vs Q E hr e0 hb r hsp => ?_⟩
  have hl := len _ _ _ _ hsp
  have KX : K.In s.heap := e0.mod.kin.keeps fun b o e => (e0.bs b o e).1
  have lim : s.heap.NoLimit := e0.mod.nolimit.keeps fun b o e => (e0.bs b o e).1
  have hkind : ∀ y ∈ ps.zip us, scope.names.lookup y.1 = some .local ∨ (scope.names.lookup y.1 = some .cell ∧ ((cellsFrom (s.heap.objs.size + 1) scope.names []).lookup y.1).isSome = true) := fun ⟨n, v⟩ hy => by
    rcases S.par n (List.of_mem_zip hy).1 with q | q
    · exact .inl q
    · exact .inr ⟨q, PySem.W.cellsFrom_some _ _ _ (.inl q)⟩
  refine codeAny_call_function hr.depth (KX _ _ lk) rfl S.co S.gen rfl (PySem.W.codeRec_of KX hcd) (hb _ _ _ _ ?_)
  refine wpAny_newFunctionEnv_cells S.kind hkind fun env he s1 x => ?_
  subst he
  refine ⟨lim.keeps x.toInCall.keep, codeAny_func ?_⟩
  obtain ⟨t, ht, hq⟩ := hbody A outer s H vs Q E (hr.deeper _) hsp
  have I : Inv (cxOf CX P w K mg base N qual scope f cdv A outer s H E) [] (start N vs) H s1 := inv_start S hr.hd e0 hl r x
  refine wpAny_mono (ht [] s1 (start N vs) H _ I hq) (fun fl s' hs => ?_) fun e s' hs => hs
  have fin : ∀ {σ' : St} {H' : Hp} {v : V} {u : Value}, Inv (cxOf CX P w K mg base N qual scope f cdv A outer s H E) [] σ' H' s' → RelV v u → Q v H' → CE outer P w H s Q u s' :=
    fun {σ' H' v u} J rv q => ⟨v, H', J.os, J.bare, J.base, J.hok, rv, q⟩
  cases fl with
  | ret u =>
    obtain ⟨v, σ', H', J, rv, q⟩ := hs
    exact fin J rv q
  | next =>
    obtain ⟨σ', H', J, q⟩ := hs
    exact fin (v := V.non) (u := Value.none) J rfl q
  | brk =>
    obtain ⟨_, _, _, q⟩ := hs
    exact False.elim q
  | cont =>
    obtain ⟨_, _, _, q⟩ := hs
    exact False.elim q
end L2

namespace L2
open PySem PySem.Spec PyProof.Rows
section
variable {X : Cx} {x : Str} {p pos : Pos} {e : Expr} {es : List Expr} {t : TA} {id T : String} {r : List V → Hp → VK → Prop}

def tCB (r : List V → Hp → VK → Prop) (t : TA) : TE := fun σ H Q => t σ H fun vs H1 => r vs H1 Q
theorem pe_callB (hc : CallR X (.builtin id) r) (hg : Gl X x) (hm : X.mg x = none) (hv : bootBuiltins x = some (.builtin id)) (ha : PA X (e :: es) t) (hn : x ≠ "__name__" := by decide) (hdb : (x == ("__debug__" : Str)) = false := by decide)
    (he : starEach (e :: es) X.env = (false, eval e X.env) :: starEach es X.env := by rfl) (hpl : (backTo pos (starEach es X.env)).any (·.1) = false := by rfl) : PE X (.Call (.Name x p) (e :: es) [] pos) (tCB r t) := by
  intro pins s σ H Q I h
  refine wpAny_Call_Name_kw (ld_blt I hg hm hv ?_ hn hdb)
  exact PyProof.Rows.callWith_builtin1 (thn (ha pos pins s σ H _ I h) fun us s1 ⟨vs, H1, I1, r1, q1⟩ => hc pins s1 σ H1 vs us Q I1 r1 q1) he hpl
theorem pe_callTy (hc : CallR X (.type T) r) (hg : Gl X x) (hm : X.mg x = none) (hv : bootBuiltins x = some (.type T)) (ha : PA X (e :: es) t) (hn : x ≠ "__name__" := by decide) (hdb : (x == ("__debug__" : Str)) = false := by decide)
    (he : starEach (e :: es) X.env = (false, eval e X.env) :: starEach es X.env := by rfl) (hpl : (backTo pos (starEach es X.env)).any (·.1) = false := by rfl) : PE X (.Call (.Name x p) (e :: es) [] pos) (tCB r t) := by
  intro pins s σ H Q I h
  refine wpAny_Call_Name_kw (ld_blt I hg hm hv ?_ hn hdb)
  exact PyProof.Rows.callWith_type1 (thn (ha pos pins s σ H _ I h) fun us s1 ⟨vs, H1, I1, r1, q1⟩ => hc pins s1 σ H1 vs us Q I1 r1 q1) he hpl
end
end L2

namespace HT
open PySem PyProof.Rows

def lexLt : List Int → List Int → Bool
  | [], [] => false
  | [], _ :: _ => true
  | _ :: _, [] => false
  | x :: xs, y :: ys => if x = y then lexLt xs ys else decide (x < y)
section
open PySem.SeqAt
open PySem.AutoSeq1 (wpAny_loadPart')
open PySem.MeetsSeq PySem.MeetsSeq2 PySem.MeetsSeq3

end

section
variable {prog : Program} {w : World} {A : Around} {E : Value → Shared → Prop} {s : Shared}

def sIx (n d : Nat) : Option Int → Nat
  | none => d
  | some v => if v < 0 then (v + (n : Int)).toNat else min v.toNat n
theorem sIx_none (n d : Nat) : sIx n d none = d := rfl
theorem sIx_nat (n d k : Nat) : sIx n d (some (k : Int)) = min k n := by
  show (if (k : Int) < 0 then ((k : Int) + (n : Int)).toNat else min (k : Int).toNat n) = min k n
  rw [if_neg (by omega), Int.toNat_natCast]
end
end HT

namespace L2
open PySem PySem.Spec PyProof.Rows

abbrev TO := St → Hp → (Option Int → Hp → Prop) → Prop
def PO (X : Cx) (e : Option Expr) (t : TO) : Prop :=
  ∀ (pins : List (Addr × Obj)) (s : Shared) (σ : St) (H : Hp) (Q : Option Int → Hp → Prop), Inv X pins σ H s → t σ H Q →
    wpAny (model X.prog X.w) X.A (evalPart e X.env) (fun u s' => ∃ o H', Inv X pins σ H' s' ∧ IsPart u o ∧ Q o H') X.xe s
def tNoPart : TO := fun _ H Q => Q none H
def tPart (t : TE) : TO := fun σ H Q => t σ H fun x H1 => ∃ i, x = .int i ∧ Q (some i) H1

section
variable {X : Cx} {e : Expr} {te : TE} {lo hi : Option Expr} {tl th : TO} {pos p2 : Pos}

theorem po_none : PO X none tNoPart := by
  intro pins s σ H Q I h
  rw [evalPart_none]
  exact wpAny_pure ⟨none, H, I, .none, h⟩
theorem po_some (h : PE X e te) : PO X (some e) (tPart te) := by
  intro pins s σ H Q I hw
  rw [evalPart_some]
  refine thn (h pins s σ H _ I hw) fun u s1 ⟨x, H1, I1, r1, q1⟩ => ?_
  obtain ⟨i, rfl, q⟩ := q1
  obtain ⟨t, rfl⟩ := r1
  exact ⟨some i, H1, I1, .int i t, q⟩

def SlR (X : Cx) (r : V → Option Int → Option Int → Hp → VK → Prop) : Prop :=
  ∀ (pins : List (Addr × Obj)) (s : Shared) (σ : St) (H : Hp) (x : V) (v vl vu : Value) (lo hi : Option Int) (sl : Addr) (Q : VK), Inv X pins σ H s → RelV x v → s.heap.IsSliceOf sl vl vu .none → IsPart vl lo → IsPart vu hi → r x lo hi H Q →
    ∃ T id, typeLookup (.type T) "__getitem__" = pure (some (.builtin id)) ∧ s.TypeIs v T ∧ wpAny (model X.prog X.w) X.A (getItem v (.ref sl)) (EP X pins σ Q) X.xe s
theorem SlR.or {r r' : V → Option Int → Option Int → Hp → VK → Prop} (h : SlR X r) (h' : SlR X r') : SlR X (fun x lo hi H Q => r x lo hi H Q ∨ r' x lo hi H Q) := by
  intro pins s σ H x v vl vu lo hi sl Q I rx hs pl pu q
  rcases q with q | q
  · exact h pins s σ H x v vl vu lo hi sl Q I rx hs pl pu q
  · exact h' pins s σ H x v vl vu lo hi sl Q I rx hs pl pu q
def tSl (r : V → Option Int → Option Int → Hp → VK → Prop) (te : TE) (tl th : TO) : TE := fun σ H Q => te σ H fun x H1 => tl σ H1 fun l H2 => th σ H2 fun u H3 => r x l u H3 Q
theorem pe_slice {r : V → Option Int → Option Int → Hp → VK → Prop} (hr : SlR X r) (he : PE X e te) (hl : PO X lo tl) (hu : PO X hi th) : PE X (.Subscript e (.Slice lo hi none p2) pos) (tSl r te tl th) := by
  intro pins s σ H Q I h
  refine Subscript_ (thn (he pins s σ H _ I h) fun v s1 ⟨x, H1, I1, r1, q1⟩ => ?_)
  refine wpAny_Slice (thn (hl pins s1 σ H1 _ I1 q1) fun vl s2 ⟨l, H2, I2, pl, q2⟩ => thn (hu pins s2 σ H2 _ I2 q2) fun vu s3 ⟨u, H3, I3, pu, q3⟩ => ?_)
  rw [evalPart_none]
  refine wpAny_pure ?_
  have I4 : Inv X pins σ H3 { s3 with heap := s3.heap.push { cls := .type "slice", data := .fields #[vl, vu, .none] } } := I3.kept (t' := s3.toks) fun b ob q => Heap.get?_push_of_some _ q
  obtain ⟨T, id, hT, ht, hg⟩ := hr pins { s3 with heap := s3.heap.push { cls := .type "slice", data := .fields #[vl, vu, .none] } } σ H3 x v vl vu l u s3.heap.objs.size Q I4 r1 (Heap.IsSliceOf.new ..) pl pu q3
  show wpAny (model X.prog X.w) X.A (subscriptTail e (.Slice lo hi none p2) v (.ref s3.heap.objs.size)) (EP X pins σ Q) X.xe { s3 with heap := s3.heap.push { cls := .type "slice", data := .fields #[vl, vu, .none] } }
  exact tail_any (ops := [.ref s3.heap.objs.size, v]) ht hT hg (by with_unfolding_all rfl)

def cutV (xs : List V) (lo hi : Option Int) : List V := (xs.drop (HT.sIx xs.length 0 lo)).take (HT.sIx xs.length xs.length hi - HT.sIx xs.length 0 lo)
theorem cutV_length (xs : List V) (lo hi : Option Int) : (cutV xs lo hi).length ≤ xs.length := by
  unfold cutV
  rw [List.length_take, List.length_drop]
  omega
end
end L2

namespace L2
open PySem PySem.Spec PyProof.Rows

def ixN (n : Nat) (i : Int) : Option Nat := if 0 ≤ i then (if i < n then some i.toNat else none) else if -(n : Int) ≤ i then some (i + n).toNat else none
def atI {α : Type} (xs : List α) (i : Int) : Option α := (ixN xs.length i).bind fun j => xs[j]?
theorem ixN_seq {n : Nat} {i : Int} {j : Nat} (h : ixN n i = some j) : seqIndex? i n = some j ∧ j < n ∧ -(n : Int) ≤ i ∧ i < n := by
  unfold ixN at h
  by_cases h0 : 0 ≤ i
  · rw [if_pos h0] at h
    by_cases h1 : i < n
    · rw [if_pos h1] at h
      have e : i.toNat = j := Option.some.inj h
      exact ⟨by rw [seqIndex_of h0 h1, e], by omega, by omega, h1⟩
    · rw [if_neg h1] at h; cases h
  · rw [if_neg h0] at h
    by_cases h1 : -(n : Int) ≤ i
    · rw [if_pos h1] at h
      have e : (i + n).toNat = j := Option.some.inj h
      exact ⟨by rw [seqIndex_neg (by omega) h1, e], by omega, h1, by omega⟩
    · rw [if_neg h1] at h; cases h
theorem atI_get {α : Type} {xs : List α} {i : Int} {v : α} (h : atI xs i = some v) : ∃ j, seqIndex? i xs.length = some j ∧ xs[j]? = some v ∧ j < xs.length ∧ -(xs.length : Int) ≤ i ∧ i < xs.length := by
  unfold atI at h
  cases e : ixN xs.length i with
  | none => rw [e] at h; cases h
  | some j =>
    rw [e] at h
    obtain ⟨h1, h2, h3, h4⟩ := ixN_seq e
    exact ⟨j, h1, h, h2, h3, h4⟩
theorem atI_nat {α : Type} {xs : List α} {j : Nat} {v : α} (h : xs[j]? = some v) : atI xs (j : Int) = some v := by
  have hj : j < xs.length := (List.getElem?_eq_some_iff.mp h).1
  have e : ixN xs.length (j : Int) = some j := by
    unfold ixN
    rw [if_pos (by omega), if_pos (by omega)]; simp
  unfold atI; rw [e]; exact h
theorem atI_last {α : Type} (xs : List α) (v : α) : atI (xs ++ [v]) (-1) = some v := by
  have hl : (xs ++ [v]).length = xs.length + 1 := by simp
  have e : ixN (xs ++ [v]).length (-1) = some xs.length := by
    unfold ixN
    rw [hl, if_neg (by decide), if_pos (by omega)]
    congr 1
    omega
  unfold atI
  rw [e]
  show (xs ++ [v])[xs.length]? = some v
  simp

def PlainIx (b : Expr) : Prop := ∀ o i, subscripted b false o i = operate [o, i] (getItem o i)
def IxR (X : Cx) (r : R2) : Prop :=
  ∀ (value slice : Expr) (pins : List (Addr × Obj)) (s : Shared) (σ : St) (H : Hp) (x y : V) (v u : Value) (Q : VK), Inv X pins σ H s → RelV x v → RelV y u → r x y H Q →
    subscripted slice false v u = operate [v, u] (getItem v u) → wpAny (model X.prog X.w) X.A (subscriptTail value slice v u) (EP X pins σ Q) X.xe s
def MtR (X : Cx) (id : String) (r : V → List V → Hp → VK → Prop) : Prop :=
  ∀ (pins : List (Addr × Obj)) (s : Shared) (σ : St) (H : Hp) (x : V) (xs : List V) (v : Value) (us : List Value) (Q : VK), Inv X pins σ H s → RelV x v → Vals xs us → r x xs H Q →
    wpAny (model X.prog X.w) X.A (call (.builtin id) (v :: us)) (EP X pins σ Q) X.xe s
section
variable {X : Cx} {a b : Expr} {ta tb : TE} {pos : Pos}
theorem IxR.or {r r' : R2} (h : IxR X r) (h' : IxR X r') : IxR X (fun x y H Q => r x y H Q ∨ r' x y H Q) := by
  intro value slice pins s σ H x y v u Q I rx ry q hs
  rcases q with q | q
  · exact h value slice pins s σ H x y v u Q I rx ry q hs
  · exact h' value slice pins s σ H x y v u Q I rx ry q hs
theorem MtR.or {id : String} {r r' : V → List V → Hp → VK → Prop} (h : MtR X id r) (h' : MtR X id r') : MtR X id (fun x xs H Q => r x xs H Q ∨ r' x xs H Q) := by
  intro pins s σ H x xs v us Q I rx rs q
  rcases q with q | q
  · exact h pins s σ H x xs v us Q I rx rs q
  · exact h' pins s σ H x xs v us Q I rx rs q
theorem pe_ix {r : R2} (hr : IxR X r) (ha : PE X a ta) (hb : PE X b tb) (hs : PlainIx b) : PE X (.Subscript a b pos) (tOp r ta tb) := by
  intro pins s σ H Q I h
  exact Subscript_ (binT ha hb I h fun v u s2 x y H2 I2 rx ry q => hr a b pins s2 σ H2 x y v u Q I2 rx ry q (hs _ _))

def rIxL (K : PySem.W.Frag) : R2 := fun x y H Q => ∃ p xs i v, x = .ref p ∧ y = .int i ∧ SqL K H p xs ∧ atI xs i = some v ∧ Q v H
def rIxT (K : PySem.W.Frag) : R2 := fun x y H Q => ∃ p xs i v, x = .ref p ∧ y = .int i ∧ SqT K H p xs ∧ atI xs i = some v ∧ Q v H
theorem ix_list : IxR X (rIxL X.K) := by
  intro value slice pins s σ H x y v u Q I rx ry h hs
  obtain ⟨p, xs, i, z, rfl, rfl, hq, he, q⟩ := h
  cases rx
  obtain ⟨t, rfl⟩ := ry
  obtain ⟨its, r, pl, hz⟩ := I.list hq
  obtain ⟨j, h1, h2, h3, h4, h5⟩ := atI_get he
  obtain ⟨w, ew, rw'⟩ := r.get h2
  have hl := r.length
  have hn := line63
  have fin : EP X pins σ Q w s := ⟨z, H, I, rw', q⟩
  by_cases h0 : 0 ≤ i
  · have hj : i.toNat = j := by
      rw [seqIndex_of h0 h5] at h1
      exact Option.some.inj h1
    exact item_listR pl.isList h0 (by omega) (by rw [hj]; simpa using ew) fin hs
  · have hj : (i + (its.toArray.size : Int)).toNat = j := by
      rw [seqIndex_neg (by omega) h4] at h1
      rw [List.size_toArray, ← hl]
      exact Option.some.inj h1
    exact subscriptTail_builtinR (x := w) pl.isList.typeIs slot_list_getitem.lookup
      (wpAny_getItem_list_neg (Q := fun r s' => r = w ∧ EP X pins σ Q r s') pl.isList (by omega) (by rw [List.size_toArray] <;> omega) (by omega) (by rw [hj]; simpa using ew) ⟨rfl, fin⟩) hs
theorem ix_tup : IxR X (rIxT X.K) := by
  intro value slice pins s σ H x y v u Q I rx ry h hs
  obtain ⟨p, xs, i, z, rfl, rfl, hq, he, q⟩ := h
  cases rx
  obtain ⟨t, rfl⟩ := ry
  obtain ⟨its, r, pl, hz⟩ := I.tuple hq
  obtain ⟨j, h1, h2, h3, h4, h5⟩ := atI_get he
  obtain ⟨w, ew, rw'⟩ := r.get h2
  have hl := r.length
  have hn := line63
  have fin : EP X pins σ Q w s := ⟨z, H, I, rw', q⟩
  exact subscriptTail_builtinR (x := w) pl.typeIs slot_tuple_getitem.lookup
    (getItem_tuple (j := j) (Q := fun r s' => r = w ∧ EP X pins σ Q r s') pl (by omega) (by omega) (by rw [List.size_toArray, ← hl]; exact h1) (by simpa using ew) ⟨rfl, fin⟩) hs
theorem Inv.lst {pins : List (Addr × Obj)} {σ : St} {H : Hp} {s : Shared} {p : Addr} {xs : List V} (I : Inv X pins σ H s) (h : H p = some (.lst xs)) :
    ∃ (its : List Value) (n : Nat), Vals xs its ∧ s.heap.get? p = some { cls := .type "list", data := .seq its.toArray n } ∧ xs.length ≤ sizeLine := by
  obtain ⟨z, its, n, r, e⟩ := I.hok p _ h
  exact ⟨its, n, r, e, z⟩
theorem slice_bounds (lo hi : Option Int) (n : Nat) : (sliceBounds lo hi none n).1 = ((HT.sIx n 0 lo : Nat) : Int) ∧ (sliceBounds lo hi none n).2.1 = ((HT.sIx n n hi : Nat) : Int) ∧ (sliceBounds lo hi none n).2.2 = 1 := by
  refine ⟨?_, ?_, rfl⟩
  · cases lo with
    | none => simp [sliceBounds, HT.sIx]
    | some i =>
      simp only [sliceBounds, HT.sIx, Option.getD_none, show (1 : Int) > 0 by decide, if_true]
      by_cases h : i < 0
      · simp only [h, if_true] <;> omega
      · simp only [h, if_false] <;> omega
  · cases hi with
    | none => simp [sliceBounds, HT.sIx]
    | some i =>
      simp only [sliceBounds, HT.sIx, Option.getD_none, show (1 : Int) > 0 by decide, if_true]
      by_cases h : i < 0
      · simp only [h, if_true] <;> omega
      · simp only [h, if_false] <;> omega
theorem slicePick_cut (its : List Value) (lo hi : Option Int) : slicePick its.toArray lo hi none = ((its.drop (HT.sIx its.length 0 lo)).take (HT.sIx its.length its.length hi - HT.sIx its.length 0 lo)).toArray := by
  obtain ⟨h1, h2, h3⟩ := slice_bounds lo hi its.toArray.size
  unfold slicePick
  rw [h1, h2, h3]
  simp only [sliceRange_one, pick_run, List.size_toArray] <;> rfl
def rSlL (K : PySem.W.Frag) : V → Option Int → Option Int → Hp → VK → Prop := fun x lo hi H Q => ∃ a xs, x = .ref a ∧ SqL K H a xs ∧ ∀ p, H p = none → Q (.ref p) (upd H p (.lst (cutV xs lo hi)))
theorem sl_list : SlR X (rSlL X.K) := by
  intro pins s σ H x v vl vu lo hi sl Q I rx hs pl pu h
  obtain ⟨a, xs, rfl, hx, q⟩ := h
  cases rx
  obtain ⟨its, r, ht, hz⟩ := I.list hx
  have hlen := r.length
  refine ⟨"list", _, slot_list_getitem.lookup, ht.isList.typeIs, ?_⟩
  refine wpAny_getItem_list_slice ht.isList hs pl pu .none (by simp) ?_ (by rw [List.size_toArray] <;> omega)
  rw [slicePick_cut, ← hlen]
  refine ⟨.ref s.heap.objs.size, _, I.laid (t' := s.toks) (o := .lst (cutV xs lo hi)) (fun b ob q => Heap.get?_push_of_some _ q) (Nat.le_refl _) ?_, rfl, q _ (I.hok.fresh (Nat.le_refl _))⟩
  exact ⟨Nat.le_trans (cutV_length xs lo hi) hz, _, 0, (r.drop (HT.sIx xs.length 0 lo)).take (HT.sIx xs.length xs.length hi - HT.sIx xs.length 0 lo), Heap.get?_push_size _ rfl⟩

theorem call_len_seq : CallR X (.builtin "len") (fun xs H Q => ∃ p ys, xs = [.ref p] ∧ (SqL X.K H p ys ∨ SqT X.K H p ys) ∧ Q (.int ys.length) H) := by
  intro pins s σ H xs us Q I r h
  obtain ⟨p, ys, rfl, hq, q⟩ := h
  obtain ⟨u, rfl, rx⟩ := vals1 r
  cases rx
  have hn := line63
  rcases hq with hq | hq
  · obtain ⟨its, r', pl, hz⟩ := I.list hq
    have hlen := r'.length
    exact Calls.call_len_list pl.isList (by simp only [List.size_toArray] <;> omega) ⟨.int ys.length, H, I.tok _, ⟨s.toks + 1, by rw [List.size_toArray, hlen]⟩, q⟩
  · obtain ⟨its, r', pl, hz⟩ := I.tuple hq
    have hlen := r'.length
    exact len_tuple pl (by simp only [List.size_toArray] <;> omega) ⟨.int ys.length, H, I.tok _, ⟨s.toks + 1, by rw [List.size_toArray, hlen]⟩, q⟩
theorem CallR.or {f : Value} {r r' : List V → Hp → VK → Prop} (h : CallR X f r) (h' : CallR X f r') : CallR X f (fun xs H Q => r xs H Q ∨ r' xs H Q) := by
  intro pins s σ H xs us Q I rs q
  rcases q with q | q
  · exact h pins s σ H xs us Q I rs q
  · exact h' pins s σ H xs us Q I rs q
theorem call_list_of : CallR X (.type "list") (fun xs H Q => ∃ p ys, xs = [.ref p] ∧ (SqL X.K H p ys ∨ SqT X.K H p ys) ∧ ∀ l, H l = none → Q (.ref l) (upd H l (.lst ys))) := by
  intro pins s σ H xs us Q I r h
  obtain ⟨p, ys, rfl, hq, q⟩ := h
  obtain ⟨u, rfl, rx⟩ := vals1 r
  cases rx
  have fin : ∀ (its : List Value), Vals ys its → ys.length ≤ sizeLine → ∀ (h' : Heap) (c' : Nat), (∀ b o', s.heap.get? b = some o' → h'.get? b = some o') →
      h'.get? s.heap.objs.size = some { cls := .type "list", dict := none, data := .seq its.toArray c', slots := #[] } → EP X pins σ Q (.ref s.heap.objs.size) { s with heap := h' } := fun its r' hz h' c' kp e =>
    ⟨.ref s.heap.objs.size, _, I.laid (t' := s.toks) kp (Nat.le_refl _) (show ObjOk X.prog X.w _ h' _ (.lst ys) from ⟨hz, its, c', r', e⟩), rfl, q _ (I.hok.fresh (Nat.le_refl _))⟩
  rcases hq with hq | hq
  · obtain ⟨its, r', pl, hz⟩ := I.list hq
    have hlen := r'.length
    obtain ⟨o, ho, hc, n, hd⟩ := pl.isList
    exact call_list_seq p (.inl rfl) ho hc hd (fun h' c' kp e => fin its r' hz h' c' kp e) (by simp only [List.size_toArray] <;> omega)
  · obtain ⟨its, r', pl, hz⟩ := I.tuple hq
    have hlen := r'.length
    obtain ⟨o, ho, hc, n, hd⟩ := pl
    exact call_list_seq p (.inr rfl) ho hc hd (fun h' c' kp e => fin its r' hz h' c' kp e) (by simp only [List.size_toArray] <;> omega)
def tyV (K : PySem.W.Frag) (T : String) (x : V) (H : Hp) : Prop := match x with
  | .str _ => T = "str"
  | .int _ => T = "int"
  | .ref p => (T = "list" ∧ ∃ xs, SqL K H p xs) ∨ (T = "tuple" ∧ ∃ o, K.lookup p = some o ∧ o.cls = .type "tuple" ∧ o.dict = none) ∨
      (T = "dict" ∧ ((∃ kvs, H p = some (.dK kvs)) ∨ ∃ kvs, H p = some (.dT kvs))) ∨ (T = "set" ∧ ∃ S n, H p = some (.set S n))
  | _ => False
theorem tyV_is {pins : List (Addr × Obj)} {σ : St} {H : Hp} {s : Shared} {T : String} {x : V} {v : Value} (I : Inv X pins σ H s) (r : RelV x v) (ty : tyV X.K T x H) :
    s.TypeIs v T ∧ ∀ a, v = .ref a → ∃ ob, s.heap.get? a = some ob ∧ ob.dict = none := by
  cases x with
  | str z =>
    obtain ⟨t, rfl⟩ := r
    cases (show T = "str" from ty)
    exact ⟨typeIs_str s z t, fun _ e => nomatch e⟩
  | int i =>
    obtain ⟨t, rfl⟩ := r
    cases (show T = "int" from ty)
    exact ⟨typeIs_int s i t, fun _ e => nomatch e⟩
  | ref p =>
    cases r
    rcases ty with ⟨rfl, xs, hq⟩ | ⟨rfl, o, hk, hc, hd⟩ | ⟨rfl, hk⟩ | ⟨rfl, S, n, hk⟩
    · obtain ⟨its, _, pl, _⟩ := I.list hq
      refine ⟨pl.isList.typeIs, fun a e => ?_⟩
      cases e
      obtain ⟨o, n, e, c, hd, _⟩ := pl
      exact ⟨o, e, hd⟩
    · refine ⟨⟨o, I.kIn p o hk, hc⟩, fun a e => ?_⟩
      cases e
      exact ⟨o, I.kIn _ o hk, hd⟩
    · have z : ∃ o, s.heap.get? p = some o ∧ o.ExactDict := by
        rcases hk with ⟨kvs, hk⟩ | ⟨kvs, hk⟩
        · obtain ⟨_, _, _, _, o, _, _, e, ex, _⟩ := I.hok p _ hk
          exact ⟨o, e, ex⟩
        · obtain ⟨_, _, _, _, o, _, _, e, ex, _⟩ := I.hok p _ hk
          exact ⟨o, e, ex⟩
      obtain ⟨o, e, ex⟩ := z
      refine ⟨⟨o, e, ex.1⟩, fun a e2 => ?_⟩
      cases e2
      exact ⟨o, e, ex.2.1⟩
    · obtain ⟨o, _, _, _, e, ex, _⟩ := I.hok p _ hk
      refine ⟨⟨o, e, ex.1⟩, fun a e2 => ?_⟩
      cases e2
      exact ⟨o, e, ex.2.1⟩
  | _ => exact False.elim ty
def tBM0 (K : PySem.W.Frag) (T : String) (r : V → List V → Hp → VK → Prop) (to : TE) : TE := fun σ H Q => to σ H fun x H1 => tyV K T x H1 ∧ r x [] H1 Q
def tBM (K : PySem.W.Frag) (T : String) (r : V → List V → Hp → VK → Prop) (to : TE) (t : TA) : TE := fun σ H Q => to σ H fun x H1 => tyV K T x H1 ∧ t σ H1 fun xs H2 => r x xs H2 Q
variable {o e : Expr} {es : List Expr} {to : TE} {t : TA} {name : Str} {apos cpos : Pos} {T id : String} {r : V → List V → Hp → VK → Prop}
theorem pe_bm (pa : PlainAttrs T) (slot : Slot T name id) (hty : typeOf (.builtin id) = pure (.type "method_descriptor")) (hm : MtR X id r) (ho : PE X o to) (ha : PA X (e :: es) t)
    (hbase : attributeBase o name X.env (eval o X.env) = eval o X.env := by rfl)
    (hfew : ((backTo cpos (starEach (e :: es) X.env)).all (fun x => !x.1) && (backToKw cpos (keywordEach [] X.env)).all (fun x => x.1.isSome)
      && decide ((e :: es).length + ([] : List Keyword).length + (if ([] : List Keyword).isEmpty then 0 else 1) < 30)) = true := by rfl)
    (hline : (apos.endLine == cpos.line) = true := by rfl) (hs : starEach (e :: es) X.env = (false, eval e X.env) :: starEach es X.env := by rfl) (hplain : (backTo cpos (starEach es X.env)).any (·.1) = false := by rfl) :
    PE X (.Call (.Attribute o name apos) (e :: es) [] cpos) (tBM X.K T r to t) := by
  intro pins s σ H Q I h
  refine wpAny_Call_method_late hbase hfew hline rfl (thn (ho pins s σ H _ I h) fun v s1 ⟨x, H1, I1, r1, ty, q1⟩ => ?_)
  obtain ⟨h1, h2⟩ := tyV_is I1 r1 ty
  refine ⟨T, id, pa, slot, hty, h1, h2, ?_⟩
  have hA := ha cpos pins s1 σ H1 _ I1 q1
  rw [hs] at hA ⊢
  refine Calls.callWith_builtin (by show (false || (backTo cpos (starEach es X.env)).any (·.1)) = false; rw [hplain] <;> rfl) (Calls.evalArgs_plain ?_)
  exact thn hA fun us s2 ⟨vs, H2, I2, r2, q2⟩ => hm pins s2 σ H2 x vs v us Q I2 r1 r2 q2
end
end L2

namespace L2
open PySem PySem.Spec PyProof.Rows

def MtM (X : Cx) (id : String) (r : V → List V → Hp → VK → Prop) : Prop :=
  ∀ (pins : List (Addr × Obj)) (s : Shared) (σ : St) (H : Hp) (x : V) (xs : List V) (v : Value) (us : List Value) (Q : VK), Inv X pins σ H s → RelV x v → Vals xs us → r x xs H Q →
    wpAny (model X.prog X.w) X.A (call (.builtin id) (v :: us)) (EP X pins σ Q) X.xe s

theorem Vals.one : ∀ {x : V} {us : List Value}, Vals [x] us → ∃ u, us = [u] ∧ RelV x u
  | _, _, .cons r .nil => ⟨_, rfl, r⟩
theorem Vals.two : ∀ {x y : V} {us : List Value}, Vals [x, y] us → ∃ u v, us = [u, v] ∧ RelV x u ∧ RelV y v
  | _, _, _, .cons r (.cons q .nil) => ⟨_, _, rfl, r, q⟩
theorem Vals.zero : ∀ {us : List Value}, Vals [] us → us = []
  | _, .nil => rfl
section
variable {X : Cx} {pins : List (Addr × Obj)} {σ : St} {H : Hp} {s : Shared} {l b : Addr} {xs ys zs : List V}

theorem Inv.lset {its its' : List Value} {n : Nat} {f : Array Value → Array Value} {t' : Nat} (I : Inv X pins σ H s) (hH : H l = some (.lst xs))
    (e : s.heap.get? l = some { cls := .type "list", data := .seq its.toArray n }) (hf : f its.toArray = its'.toArray) (hv : Vals ys its') (hz : ys.length ≤ sizeLine) :
    Inv X pins σ (upd H l (.lst ys)) { s with heap := s.heap.update l (Obj.mapSeq f), toks := t' } := by
  have q := PySem.IsL.update e f
  rw [hf] at q
  refine I.write (x := l) (e := l) (by rw [hH]; exact trivial) (.inl rfl) (fun b' u hb hu => (Heap.get?_update_other s.heap (Obj.mapSeq f) (Ne.symm hb)).trans hu) ⟨_, q⟩ ?_
  exact ⟨hz, its', _, hv, q⟩
theorem Inv.lnew {its : List Value} {t' : Nat} (I : Inv X pins σ H s) (hv : Vals ys its) (hz : ys.length ≤ sizeLine) :
    Inv X pins σ (upd H s.heap.objs.size (.lst ys)) { s with heap := s.heap.push { cls := .type "list", data := .seq its.toArray }, toks := t' } :=
  I.laid (fun _ _ q => Heap.get?_push_of_some _ q) (Nat.le_refl _) ⟨hz, its, 0, hv, Heap.get?_push_size _ rfl⟩
theorem Inv.fresh (I : Inv X pins σ H s) : H s.heap.objs.size = none := I.hok.fresh (Nat.le_refl _)
theorem Inv.lstM (I : Inv X pins σ H s) (hH : H l = some (.lst xs)) : xs.length ≤ sizeLine ∧ ∃ (its : List Value) (n : Nat), Vals xs its ∧ xs.length = its.length ∧ s.heap.get? l = some { cls := .type "list", data := .seq its.toArray n } := by
  obtain ⟨z, its, n, r, e⟩ := I.hok l _ hH
  exact ⟨z, its, n, r, r.length, e⟩

theorem notLongL {n : Nat} (h : n ≤ sizeLine) : Builtin.List.listTooLong n = false := by
  unfold Builtin.List.listTooLong
  exact decide_eq_false (by omega)
end

section
variable {X : Cx}

def rAppend : V → List V → Hp → VK → Prop := fun x vs H Q => ∃ l xs y, x = .ref l ∧ vs = [y] ∧ H l = some (.lst xs) ∧ xs.length < sizeLine ∧ Q .non (upd H l (.lst (xs ++ [y])))
theorem mt_append : MtM X "list.append" rAppend := by
  intro pins s σ H x vs v us Q I rx rv h
  obtain ⟨l, xs, y, rfl, rfl, hH, hz, q⟩ := h
  cases rx
  obtain ⟨u, rfl, ru⟩ := rv.one
  obtain ⟨z, its, n, r, hl, e⟩ := I.lstM hH
  refine call_meets F.slot_list_append ⟨_, e, rfl⟩ F.entry_list_append (F.args_list_append_2 _ _) (PySem.list_append l its.toArray n u (by rw [List.size_toArray]; omega)) ⟨e, ?_⟩
  refine ⟨.non, _, I.lset (its' := its ++ [u]) hH e (by simp) (r.append (.cons ru .nil)) ?_, rfl, q⟩
  rw [List.length_append, List.length_singleton]
  omega

def rExtend : V → List V → Hp → VK → Prop := fun x vs H Q => ∃ l b xs zs, x = .ref l ∧ vs = [.ref b] ∧ H l = some (.lst xs) ∧ H b = some (.lst zs) ∧ xs.length + zs.length ≤ sizeLine ∧ Q .non (upd H l (.lst (xs ++ zs)))
theorem mt_extend : MtM X "list.extend" rExtend := by
  intro pins s σ H x vs v us Q I rx rv h
  obtain ⟨l, b, xs, zs, rfl, rfl, hH, hB, hz, q⟩ := h
  cases rx
  obtain ⟨u, rfl, ru⟩ := rv.one
  cases ru
  obtain ⟨z, its, n, r, hl, e⟩ := I.lstM hH
  obtain ⟨z2, its2, n2, r2, hl2, e2⟩ := I.lstM hB
  have hsz : its.toArray.size + its2.toArray.size ≤ sizeLine := by rw [List.size_toArray, List.size_toArray]; omega
  have hlong : ¬ (!its.toArray.isEmpty && Builtin.List.listTooLong (its.toArray.size + its2.toArray.size)) = true := by
    rw [notLongL hsz, Bool.and_false]
    exact Bool.false_ne_true
  refine call_meets F.slot_list_extend ⟨_, e, rfl⟩ F.entry_list_extend (F.args_list_extend_2 _ _)
    (AutoSeq1.list_extend_list_list_0 l its.toArray n b its2.toArray n2 hlong (by rw [List.size_toArray]; omega) (by omega)) ⟨e, e2, ?_⟩
  refine ⟨.non, _, I.lset (its' := its ++ its2) hH e (by simp) (r.append r2) ?_, rfl, q⟩
  rw [List.length_append]
  omega

def rCat : R2 := fun x y H Q => ∃ l b xs zs, x = .ref l ∧ y = .ref b ∧ H l = some (.lst xs) ∧ H b = some (.lst zs) ∧ xs.length + zs.length ≤ sizeLine ∧ ∀ p, H p = none → Q (.ref p) (upd H p (.lst (xs ++ zs)))
theorem op_cat : OpR X (binaryOp .Add) rCat := by
  intro pins s σ H x y v u Q I rx ry h
  obtain ⟨l, b, xs, zs, rfl, rfl, hH, hB, hz, q⟩ := h
  cases rx
  cases ry
  obtain ⟨z, its, n, r, hl, e⟩ := I.lstM hH
  obtain ⟨z2, its2, n2, r2, hl2, e2⟩ := I.lstM hB
  refine PySem.P.add_list e e2 ?_ (by rw [List.size_toArray, List.size_toArray]; omega)
  have ea : its.toArray ++ its2.toArray = (its ++ its2).toArray := by simp
  rw [ea]
  exact ⟨.ref _, _, I.lnew (t' := s.toks) (r.append r2) (by rw [List.length_append]; omega), rfl, q _ I.fresh⟩
end

section
variable {prog : Program} {w : World} {A : Around} {E : Value → Shared → Prop} {s : Shared}
set_option maxRecDepth 100000 in
end

section
variable {X : Cx}
end
end L2

namespace L2
open PySem PySem.Spec PyProof.Rows

theorem Vals.ints : ∀ {ns : List Int} {us : List Value}, Vals (ns.map V.int) us → IntsAre us ns
  | [], us, h => by
    rw [List.map_nil] at h
    cases h
    exact IntsAre.nil
  | n :: ns, us, h => by
    rw [List.map_cons] at h
    cases h with
    | cons r t =>
      obtain ⟨k, rfl⟩ := r
      exact IntsAre.cons n k (Vals.ints t)
theorem vals_of_ints : ∀ {us : List Value} {ns : List Int}, IntsAre us ns → Vals (ns.map V.int) us
  | _, _, .nil => by rw [List.map_nil]; exact Paired.nil
  | _, _, .cons n t h => by rw [List.map_cons]; exact Paired.cons (show RelV (V.int n) (Value.int n t) from ⟨t, rfl⟩) (vals_of_ints h)
theorem Vals.bls : ∀ {bs : List Bool} {us : List Value}, Vals (bs.map V.bl) us → us = bs.map Value.bool
  | [], us, h => by
    rw [List.map_nil] at h
    cases h
    rfl
  | b :: bs, us, h => by
    rw [List.map_cons] at h
    cases h with
    | cons r t =>
      cases r
      rw [Vals.bls t, List.map_cons]
theorem Vals.ref1 {a : Addr} {us : List Value} (r : Vals [V.ref a] us) : us = [Value.ref a] := by
  cases r with
  | cons r t =>
    cases t
    cases r
    rfl
section
variable {prog : Program} {w : World} {A : Around} {E : Value → Shared → Prop} {s : Shared} {l : Addr} {its : List Value} {ns : List Int} {Q : Value → Shared → Prop}
end

section
variable {X : Cx}
def rSorted (K : PySem.W.Frag) : List V → Hp → VK → Prop := fun vs H Q => ∃ (a : Addr) (ns : List Int), vs = [V.ref a] ∧ SqL K H a (ns.map V.int) ∧ ns.length < 64 ∧
  ∀ (ns' : List Int) (p : Addr), ns'.Perm ns → ns'.Pairwise (· ≤ ·) → H p = none → Q (.ref p) (upd H p (.lst (ns'.map V.int)))
theorem small64 {n : Nat} (h : n < 64) : n ≤ sizeLine := by rw [sizeLine_eq]; omega
theorem cr_sorted : CallR X (.builtin "sorted") (rSorted X.K) := by
  intro pins s σ H vs us Q I r h
  obtain ⟨a, ns, rfl, hs, h64, q⟩ := h
  obtain ⟨its, rv, hl, _⟩ := I.list hs
  rw [Vals.ref1 r]
  have hi := rv.ints
  refine PyProof.Rows.sorted_ints hl.isList hi (by rw [hi.length]; exact h64) fun out ns' h1 h2 h3 => ?_
  obtain ⟨ep, he'⟩ := PyProof.Rows.sortedAll_at s.heap its out
  have hlen : (ns'.map V.int).length ≤ sizeLine := by rw [List.length_map, h2.length_eq]; exact small64 h64
  exact ⟨.ref _, upd H (s.heap.objs.size + 1) (.lst (ns'.map V.int)), I.laid (t' := s.toks) (fun _ _ => PyProof.Rows.sortedAll_old) (Nat.le_succ _) ⟨hlen, out.toList, ep, vals_of_ints h1, he'⟩, rfl, q ns' _ h2 h3 (I.hok.fresh (Nat.le_succ _))⟩
end

section
variable {X : Cx}
end

section
variable {X : Cx}
end

theorem iter_any {prog : Program} {w : World} {A : Around} {E : Value → Shared → Prop} {s : Shared} {l : Addr} {items : Array Value} {Q : Value → Shared → Prop} (hl : s.heap.IsList l items)
    (h : ∀ s₂ : Shared, s₂ = { s with heap := s.heap.push { cls := .type "list_iterator", data := .fields #[.ref l, .int 0 0] } } →
      (s₂.heap.IsListIter s.heap.objs.size l 0 ∧ s₂.heap.IsList l items) → l ≠ s.heap.objs.size → Q (.ref s.heap.objs.size) s₂) : wpAny (model prog w) A (pyIter (.ref l)) Q E s := by
  have hlt : l < s.heap.objs.size := by obtain ⟨_, e, _⟩ := hl; exact Heap.lt_size e
  exact wpAny_pyIter_list hl (h _ rfl ⟨⟨_, Heap.get?_push_size _ rfl, rfl, rfl⟩, hl.push _⟩ (Nat.ne_of_lt hlt))
theorem truth_bools {prog : Program} {w : World} {A : Around} {bs : List Bool} {its : List Value} (e : its = bs.map Value.bool) :
    TruthOf prog w A (fun i v => its.toArray[i]? = some v) (fun i => bs.getD i false) := fun i v s Q E hv hq => by
  have hv' : its[i]? = some v := by simpa using hv
  rw [e, List.getElem?_map] at hv'
  obtain ⟨b, hb, rfl⟩ := Option.map_eq_some_iff.mp hv'
  have hg : bs.getD i false = b := by rw [List.getD_eq_getElem?_getD, hb] <;> rfl
  have hq' : Q (bs.getD i false) s := hq
  rw [hg] at hq'
  exact wpAny_truthy_bool hq'
theorem all_range : ∀ bs : List Bool, (List.range bs.length).all (fun i => bs.getD i false) = bs.all id
  | [] => rfl
  | b :: bs => by
    rw [List.length_cons, List.range_succ_eq_map, List.all_cons, List.all_map, List.all_cons, ← all_range bs]
    all_goals rfl
section
variable {X : Cx}
def rAll (K : PySem.W.Frag) : List V → Hp → VK → Prop := fun vs H Q => ∃ (a : Addr) (bs : List Bool), vs = [V.ref a] ∧ SqL K H a (bs.map V.bl) ∧ Q (.bl (bs.all id)) H
theorem cr_all (hc : X.calm = true) : CallR X (.builtin "all") (rAll X.K) := by
  intro pins s σ H vs us Q I r h
  obtain ⟨a, bs, rfl, hs, q⟩ := h
  obtain ⟨its, rv, hl, _⟩ := I.list hs
  rw [Vals.ref1 r]
  have hb := rv.bls
  refine call_all_walk (iter_any hl.isList fun s₂ e2 st hne => ?_)
  subst e2
  refine ⟨_, _, _, _, _, _, _, rfl, Walks.list (A := X.A.in1) (I.ok.hd hc) _ a hne its.toArray, st, truth_bools hb, fun h' tk hk => ?_⟩
  refine ⟨.bl _, H, I.kept fun b o eo => hk b o (fun hmem => ?_) (Heap.get?_push_of_some _ eo), ?_, q⟩
  · rcases List.mem_cons.mp hmem with e1 | hmem
    · exact absurd (e1 ▸ Heap.lt_size eo) (Nat.lt_irrefl _)
    · cases hmem
  · show Value.bool _ = Value.bool _
    rw [← all_range, hb, List.size_toArray, List.length_map]
end

mutual
inductive Dp (K : PySem.W.Frag) (H : Hp) : V → PyData → Prop
  | non : Dp K H .non .none
  | bl (b : Bool) : Dp K H (.bl b) (.bool b)
  | int (i : Int) : Dp K H (.int i) (.int i)
  | str (x : Str) : Dp K H (.str x) (.str x)
  | lst {a : Addr} {xs : List V} {ds : List PyData} : SqL K H a xs → DpAll K H xs ds → Dp K H (.ref a) (.list ds)
  | tup {a : Addr} {xs : List V} {ds : List PyData} : SqT K H a xs → DpAll K H xs ds → Dp K H (.ref a) (.tuple ds)
inductive DpAll (K : PySem.W.Frag) (H : Hp) : List V → List PyData → Prop
  | nil : DpAll K H [] []
  | cons {v : V} {vs : List V} {d : PyData} {ds : List PyData} : Dp K H v d → DpAll K H vs ds → DpAll K H (v :: vs) (d :: ds)
end
section
variable {X : Cx} {pins : List (Addr × Obj)} {σ : St} {H : Hp} {s : Shared}
mutual
theorem Dp.reads (I : Inv X pins σ H s) : ∀ (d : PyData) (v : V) (u : Value), Dp X.K H v d → RelV v u → ∃ as, Reads s.heap u d as
  | .none, _, _, h, r => by
    cases h
    cases r
    exact ⟨_, Reads.none⟩
  | .bool b, _, _, h, r => by
    cases h
    cases r
    exact ⟨_, Reads.bool b⟩
  | .int i, _, _, h, r => by
    cases h
    obtain ⟨t, rfl⟩ := r
    exact ⟨_, Reads.int i t⟩
  | .str x, _, _, h, r => by
    cases h
    obtain ⟨t, rfl⟩ := r
    exact ⟨_, Reads.str x t⟩
  | .list ds, _, _, h, r => by
    cases h with
    | lst hs ha =>
      cases r
      obtain ⟨its, rv, ⟨o, n, ho, hc, _, hd⟩, _⟩ := I.list hs
      obtain ⟨as, hr⟩ := Dp.readsAll I ds _ its ha rv
      exact ⟨_, Reads.list ho hc hd hr⟩
  | .tuple ds, _, _, h, r => by
    cases h with
    | tup hs ha =>
      cases r
      obtain ⟨its, rv, ⟨o, ho, hc, n, hd⟩, _⟩ := I.tuple hs
      obtain ⟨as, hr⟩ := Dp.readsAll I ds _ its ha rv
      exact ⟨_, Reads.tuple ho hc hd hr⟩
  | .dict _, _, _, h, _ => by cases h
theorem Dp.readsAll (I : Inv X pins σ H s) : ∀ (ds : List PyData) (vs : List V) (us : List Value), DpAll X.K H vs ds → Vals vs us → ∃ as, ReadsAll s.heap us ds as
  | [], _, _, h, r => by
    cases h
    cases r
    exact ⟨_, ReadsAll.nil⟩
  | d :: ds, _, _, h, r => by
    cases h with
    | cons h1 h2 =>
      cases r with
      | cons r1 r2 =>
        obtain ⟨as, q1⟩ := Dp.reads I d _ _ h1 r1
        obtain ⟨bs, q2⟩ := Dp.readsAll I ds _ _ h2 r2
        exact ⟨_, ReadsAll.cons q1 q2⟩
end
end
section
variable {X : Cx}
end
end L2

namespace L2
open PySem PySem.Spec PyProof.Rows
abbrev CellAt (h : Heap) (c : Addr) (v : Option Value) : Prop := h.IsCell c v
def relS (scope sc : Scope) : Scope :=
  { scope with names := scope.names.map fun (n, k) => if (k == .free && sc.kind == .function && sc.names.lookup n == some .cell) then (n, .cell) else (n, k) }

def cloFrom (cells : List (Str × Addr)) : List (Str × NameKind) → List (Str × Addr) → List (Str × Addr)
  | [], acc => acc
  | (n, k) :: r, acc => if k == .free then cloFrom cells r ((n, (cells.lookup n).getD 0) :: acc) else cloFrom cells r acc

theorem closure_loop (env : Env) (f : Str × NameKind → List (Str × Addr) → Sem (ForInStep (List (Str × Addr))))
    (hf : ∀ n k c, f (n, k) c = if k == .free then (do let a ← cellOf env n; pure (.yield ((n, a) :: c))) else pure (.yield c)) :
    ∀ (names : List (Str × NameKind)) (acc : List (Str × Addr)), (∀ y ∈ names, y.2 = .free → ∃ c, env.cells.lookup y.1 = some c) → forIn names acc f = pure (cloFrom env.cells names acc)
  | [], acc, _ => by rw [List.forIn_nil]; rfl
  | (n, k) :: r, acc, h => by
    rw [List.forIn_cons, hf]
    have ih := fun acc => closure_loop env f hf r acc fun y hy => h y (List.mem_cons_of_mem _ hy)
    unfold cloFrom
    by_cases hk : (k == NameKind.free) = true
    · rw [if_pos hk, if_pos hk]
      obtain ⟨c, hc⟩ := h (n, k) List.mem_cons_self (by simpa using hk)
      have e : cellOf env n = pure c := by unfold cellOf; rw [hc]
      rw [e]
      have e2 : (env.cells.lookup n).getD 0 = c := by rw [hc]; rfl
      rw [e2]
      exact ih _
    · rw [if_neg hk, if_neg hk]
      exact ih _
theorem closure_ok {scope : Scope} {env : Env} (h : ∀ y ∈ scope.names, y.2 = .free → ∃ c, env.cells.lookup y.1 = some c) : closureFor scope env = pure (cloFrom env.cells scope.names []) := by
  simp only [closureFor]
  rw [closure_loop env _ (fun n k c => rfl) scope.names [] h]
  rfl

theorem mem_lookup {α : Type} : ∀ {l : List (Str × α)} {n : Str} {c : α}, (n, c) ∈ l → ∃ c', l.lookup n = some c'
  | (k, v) :: r, n, c, h => by
    rw [List.lookup_cons]
    cases hb : n == k with
    | true => exact ⟨_, rfl⟩
    | false =>
      rcases List.mem_cons.mp h with e | h
      · cases e; simp at hb
      · exact mem_lookup h

theorem cloFrom_mem {cells : List (Str × Addr)} : ∀ {names : List (Str × NameKind)} {acc : List (Str × Addr)} {n : Str} {c : Addr}, (n, c) ∈ cloFrom cells names acc → (n, c) ∈ acc ∨ ((n, .free) ∈ names ∧ c = (cells.lookup n).getD 0)
  | [], _, _, _, h => .inl h
  | (m, k) :: r, acc, n, c, h => by
    unfold cloFrom at h
    split at h
    · rename_i hk
      have hk : k = .free := by simpa using hk
      rcases cloFrom_mem h with h | ⟨h1, h2⟩
      · rcases List.mem_cons.mp h with e | h
        · cases e; exact .inr ⟨hk ▸ List.mem_cons_self, rfl⟩
        · exact .inl h
      · exact .inr ⟨List.mem_cons_of_mem _ h1, h2⟩
    · rcases cloFrom_mem h with h | ⟨h1, h2⟩
      · exact .inl h
      · exact .inr ⟨List.mem_cons_of_mem _ h1, h2⟩
theorem cloFrom_acc {cells : List (Str × Addr)} : ∀ {names : List (Str × NameKind)} {acc : List (Str × Addr)} {p : Str × Addr}, p ∈ acc → p ∈ cloFrom cells names acc
  | [], _, _, h => h
  | (m, k) :: r, acc, p, h => by
    unfold cloFrom
    split
    · exact cloFrom_acc (List.mem_cons_of_mem _ h)
    · exact cloFrom_acc h
theorem cloFrom_has {cells : List (Str × Addr)} : ∀ {names : List (Str × NameKind)} {acc : List (Str × Addr)} {n : Str}, (n, .free) ∈ names → (n, (cells.lookup n).getD 0) ∈ cloFrom cells names acc
  | (m, k) :: r, acc, n, h => by
    unfold cloFrom
    rcases List.mem_cons.mp h with e | h
    · cases e
      exact cloFrom_acc List.mem_cons_self
    · split
      · exact cloFrom_has h
      · exact cloFrom_has h

theorem cells_mem : ∀ {names : List (Str × NameKind)} {h : Heap} {acc : List (Str × Addr)} {x : Str} {c : Addr}, (x, c) ∈ cellsFrom h.objs.size names acc →
    (x, c) ∈ acc ∨ ((x, .cell) ∈ names ∧ h.objs.size ≤ c ∧ CellAt (pushCells h names) c none)
  | [], _, _, _, _, h => .inl h
  | (n, k) :: r, h, acc, x, c, hm => by
    unfold cellsFrom at hm
    unfold pushCells
    split at hm
    · rename_i hk
      rw [if_pos hk]
      have hk : k = .cell := by simpa using hk
      rw [← Heap.size_push h { cls := .type "cell", data := .cell none }] at hm
      rcases cells_mem hm with hm | ⟨h1, h2, h3⟩
      · rcases List.mem_cons.mp hm with e | hm
        · cases e
          exact .inr ⟨hk ▸ List.mem_cons_self, Nat.le_refl _, _, pushCells_keeps r _ _ _ (Heap.get?_push_size _ rfl), rfl⟩
        · exact .inl hm
      · rw [Heap.size_push] at h2
        exact .inr ⟨List.mem_cons_of_mem _ h1, Nat.le_of_succ_le h2, h3⟩
    · rename_i hk
      rw [if_neg hk]
      rcases cells_mem hm with hm | ⟨h1, h2, h3⟩
      · exact .inl hm
      · exact .inr ⟨List.mem_cons_of_mem _ h1, h2, h3⟩
theorem cells_acc : ∀ {names : List (Str × NameKind)} {n : Nat} {acc : List (Str × Addr)} {p : Str × Addr}, p ∈ acc → p ∈ cellsFrom n names acc
  | [], _, _, _, h => h
  | (m, k) :: r, n, acc, p, h => by
    unfold cellsFrom
    split
    · exact cells_acc (List.mem_cons_of_mem _ h)
    · exact cells_acc h
theorem cells_has : ∀ {names : List (Str × NameKind)} {n : Nat} {acc : List (Str × Addr)} {x : Str}, (x, .cell) ∈ names → ∃ c, (x, c) ∈ cellsFrom n names acc
  | (m, k) :: r, n, acc, x, h => by
    unfold cellsFrom
    rcases List.mem_cons.mp h with e | h
    · cases e
      exact ⟨n, cells_acc List.mem_cons_self⟩
    · split
      · exact cells_has h
      · exact cells_has h
theorem cells_inj : ∀ {names : List (Str × NameKind)} {h : Heap} {acc : List (Str × Addr)} {x y : Str} {c : Addr}, (∀ p ∈ acc, p.2 < h.objs.size) → (∀ x y c, (x, c) ∈ acc → (y, c) ∈ acc → x = y) →
    (x, c) ∈ cellsFrom h.objs.size names acc → (y, c) ∈ cellsFrom h.objs.size names acc → x = y
  | [], _, _, _, _, _, _, hi, h1, h2 => hi _ _ _ h1 h2
  | (n, k) :: r, h, acc, x, y, c, hl, hi, h1, h2 => by
    unfold cellsFrom at h1 h2
    split at h1
    · rename_i hk
      rw [if_pos hk] at h2
      rw [← Heap.size_push h { cls := .type "cell", data := .cell none }] at h1 h2
      refine cells_inj (h := h.push _) (fun p hp => ?_) (fun x y c a b => ?_) h1 h2
      · rw [Heap.size_push]
        rcases List.mem_cons.mp hp with rfl | hp
        · exact Nat.lt_succ_self _
        · exact Nat.lt_succ_of_lt (hl p hp)
      · rcases List.mem_cons.mp a with e | a <;> rcases List.mem_cons.mp b with e' | b
        · cases e; cases e'; rfl
        · cases e; exact absurd (hl _ b) (Nat.lt_irrefl _)
        · cases e'; exact absurd (hl _ a) (Nat.lt_irrefl _)
        · exact hi _ _ _ a b
    · rename_i hk
      rw [if_neg hk] at h2
      exact cells_inj hl hi h1 h2

theorem newEnv_comp {M : Model} {A : Around} {E : Value → Shared → Prop} {s : Shared} {scope : Scope} {globals : Addr} {closure : List (Str × Addr)} {qual : Str} {func : Option Addr} {code : Value} {around : Env} {builtins : Addr} {Q : Env → Shared → Prop}
    (h : Q (newEnv scope s.heap.objs.size globals (cellsFrom (s.heap.objs.size + 1) scope.names closure) qual func code (some around) builtins)
      { s with heap := pushCells (s.heap.push { cls := .type "dict", data := .dict #[] }) scope.names }) :
    wpAny M A (newFunctionEnv scope globals closure [] qual func code (some around) builtins) Q E s := by
  simp only [newFunctionEnv, Option.isSome_some, if_true]
  refine wpAny_bind (wpAny_alloc ?_)
  refine wpAny_bind (wpAny_layCells _ (fun n k c => rfl) scope.names closure _ _ ?_)
  rw [show ({ s with heap := s.heap.push { cls := .type "dict", data := .dict #[] } } : Shared).heap.objs.size = s.heap.objs.size + 1 from Heap.size_push ..]
  rw [List.forIn_nil]
  exact wpAny_bind (wpAny_pure (wpAny_pure h))

theorem lookup_relS {sc : Scope} : ∀ {names : List (Str × NameKind)} {x : Str} {k : NameKind},
    (names.map fun (n, k) => if (k == NameKind.free && sc.kind == .function && sc.names.lookup n == some .cell) then (n, NameKind.cell) else (n, k)).lookup x = some k →
    ∃ k', names.lookup x = some k' ∧ (k = k' ∨ (k' = .free ∧ k = .cell))
  | [], _, _, h => by simp at h
  | (n, k₀) :: r, x, k, h => by
    have ih := @lookup_relS sc r x k
    have h' : List.lookup x ((if (k₀ == NameKind.free && sc.kind == .function && sc.names.lookup n == some .cell) = true then (n, NameKind.cell) else (n, k₀)) :: (r.map _)) = some k := h
    cases hx : x == n with
    | true =>
      simp only [List.lookup_cons, hx]
      by_cases hc : (k₀ == NameKind.free && sc.kind == .function && sc.names.lookup n == some .cell) = true
      · rw [if_pos hc] at h'
        simp only [List.lookup_cons, hx] at h'
        cases h'
        simp only [Bool.and_eq_true, beq_iff_eq] at hc
        exact ⟨k₀, rfl, .inr ⟨hc.1.1, rfl⟩⟩
      · rw [if_neg hc] at h'
        simp only [List.lookup_cons, hx] at h'
        cases h'
        exact ⟨_, rfl, .inl rfl⟩
    | false =>
      simp only [List.lookup_cons, hx]
      by_cases hc : (k₀ == NameKind.free && sc.kind == .function && sc.names.lookup n == some .cell) = true
      · rw [if_pos hc] at h'
        simp only [List.lookup_cons, hx] at h'
        exact ih h'
      · rw [if_neg hc] at h'
        simp only [List.lookup_cons, hx] at h'
        exact ih h'
structure BlkOk (N : List Str) (sc scope : Scope) (own : List (Str × Nat)) : Prop where
  kind : scope.kind = .function
  uniq : ∀ y ∈ scope.names, scope.names.lookup y.1 = some y.2
  ix : ∀ p ∈ own, N[p.2]? = some p.1
  free : ∀ y ∈ scope.names, y.2 = .free → sc.names.lookup y.1 = some .cell ∨ sc.names.lookup y.1 = some .free
  own : ∀ y ∈ scope.names, y.2 = .local ∨ y.2 = .cell → y.1 ∈ own.map (·.1) ∨ y.1 ∉ N
def wipe (σ : St) : List Nat → St
  | [] => σ
  | v :: vs => (wipe σ vs).set v none
theorem wipe_length (σ : St) : ∀ vs : List Nat, (wipe σ vs).length = σ.length
  | [] => rfl
  | v :: vs => by unfold wipe; rw [List.length_set, wipe_length σ vs]
theorem wipe_some {σ : St} {i : Nat} {x : V} : ∀ {vs : List Nat}, (wipe σ vs)[i]? = some (some x) → σ[i]? = some (some x) ∧ i ∉ vs
  | [], h => ⟨h, by simp⟩
  | v :: vs, h => by
    unfold wipe at h
    by_cases hi : v = i
    · subst hi
      by_cases hv : v < (wipe σ vs).length
      · rw [List.getElem?_set_self hv] at h; cases h
      · rw [List.getElem?_eq_none (by simpa using hv)] at h; cases h
    · rw [List.getElem?_set_ne hi] at h
      obtain ⟨h1, h2⟩ := wipe_some h
      exact ⟨h1, by simp only [List.mem_cons, not_or]; exact ⟨fun e => hi e.symm, h2⟩⟩

abbrev Cx.blk (X : Cx) (s : Shared) (H : Hp) (scope : Scope) (cenv : Env) (fp : List Addr) : Cx := { X with s_0 := s, H_0 := H, env := cenv, outer := X.stack, ex := fp, fn := fun x => scope.names.lookup x == some .cell, pn := [], xe := fun _ _ => False }
section
variable {X : Cx} {pins : List (Addr × Obj)} {σ : St} {H : Hp} {s : Shared}
theorem block_start {scope : Scope} {own : List (Str × Nat)} {fp : List Addr} (I : Inv X pins σ H s) (ok : BlkOk X.N X.env.scope scope own) (hN : X.N.Nodup) (hfp : ∀ b ∈ fp, FpOk X pins H b ∧ b < s.heap.objs.size) :
    Inv (X.blk s H scope (compEnvC scope (cellsFrom (s.heap.objs.size + 1) scope.names (cloFrom X.env.cells scope.names [])) s.heap.objs.size X.env) fp) [] (wipe σ (own.map (·.2))) H { s with heap := pushCells (s.heap.push { cls := .type "dict", data := .dict #[] }) scope.names } := by
  have hfree : ∀ y ∈ scope.names, y.2 = .free → ∃ c, X.env.cells.lookup y.1 = some c := fun y hy e => by
    rcases ok.free y hy e with k | k
    · exact I.ok.has _ (.inl k)
    · exact I.ok.has _ (.inr k)
  generalize hcenv : compEnvC scope (cellsFrom (s.heap.objs.size + 1) scope.names (cloFrom X.env.cells scope.names [])) s.heap.objs.size X.env = cenv
  have kp : ∀ b o, s.heap.get? b = some o → (pushCells (s.heap.push { cls := .type "dict", data := .dict #[] }) scope.names).get? b = some o := fun b o e => pushCells_keeps _ _ _ _ (Heap.get?_push_of_some _ e)
  have hL : cenv.locals = s.heap.objs.size := by rw [← hcenv]; rfl
  have hcl : cenv.cells = cellsFrom (s.heap.objs.size + 1) scope.names (cloFrom X.env.cells scope.names []) := by rw [← hcenv]; rfl
  have hsc : cenv.scope = relS scope X.env.scope := by rw [← hcenv]; rfl
  rw [← Heap.size_push s.heap { cls := .type "dict", data := .dict #[] }] at hcl
  have cm : ∀ {y c}, (y, c) ∈ cloFrom X.env.cells scope.names [] → X.env.cells.lookup y = some c ∧ c < s.heap.objs.size := fun {y c} hm => by
    rcases cloFrom_mem hm with hm | ⟨h1, rfl⟩
    · cases hm
    · obtain ⟨c, hc⟩ := hfree _ h1 rfl
      rw [hc]
      obtain ⟨w, z⟩ := I.cell _ _ hc
      exact ⟨rfl, z.lt⟩
  have mem : ∀ {y c}, cenv.cells.lookup y = some c → (X.env.cells.lookup y = some c ∧ c < s.heap.objs.size) ∨ (s.heap.objs.size + 1 ≤ c ∧ CellAt (pushCells (s.heap.push { cls := .type "dict", data := .dict #[] }) scope.names) c none) := fun {y c} e => by
    rw [hcl] at e
    rcases cells_mem (PySem.mem_of_lookup e) with hm | ⟨_, h2, h3⟩
    · exact .inl (cm hm)
    · rw [Heap.size_push] at h2; exact .inr ⟨h2, h3⟩
  have look : ∀ {y}, scope.names.lookup y = some .free → ∃ c, cenv.cells.lookup y = some c ∧ X.env.cells.lookup y = some c := fun {y} hl => by
    have hy : (y, NameKind.free) ∈ scope.names := PySem.mem_of_lookup hl
    obtain ⟨c', e'⟩ := mem_lookup (cells_acc (names := scope.names) (n := (s.heap.push { cls := .type "dict", data := .dict #[] }).objs.size) (cloFrom_has (cells := X.env.cells) (acc := []) hy))
    rw [← hcl] at e'
    refine ⟨c', e', ?_⟩
    rw [hcl] at e'
    rcases cells_mem (PySem.mem_of_lookup e') with hm | ⟨h1, _, _⟩
    · exact (cm hm).1
    · have := ok.uniq _ h1
      rw [hl] at this; cases this
  have okB : (X.blk s H scope cenv fp).Ok := by
    refine ⟨I.ok.mod, by show cenv.scope.kind = _; rw [hsc]; exact ok.kind, by show cenv.globals = _; rw [← hcenv]; exact I.ok.glob, by show cenv.builtins = _; rw [← hcenv]; exact I.ok.blt, by show s.heap.objs.size ≤ cenv.locals; rw [hL]; exact Nat.le_refl _,
      fun y z c e1 e2 => ?_, fun y hy => ?_, fun y c z e => ?_, I.ok.hd, I.ok.frames, .inl rfl, fun b hb => ⟨?_, fun y c e z => ?_⟩, I.bs, Nat.le_trans I.ok.bsz I.sz, fun b o e hb => ?_, fun b hb z => ?_, I.stack, I.stkFree⟩
    · have e1 : cenv.cells.lookup y = some c := e1
      have e2 : cenv.cells.lookup z = some c := e2
      rw [hcl] at e1 e2
      refine cells_inj (fun p hp => ?_) (fun y z c a b => I.ok.inj y z c (cm a).1 (cm b).1) (PySem.mem_of_lookup e1) (PySem.mem_of_lookup e2)
      rw [Heap.size_push]
      exact Nat.lt_succ_of_lt (cm (y := p.1) (c := p.2) hp).2
    · show ∃ c, cenv.cells.lookup y = some c
      have key : ∀ k, cenv.kindOf y = some k → (k = .cell ∨ k = .free) → ∃ c, cenv.cells.lookup y = some c := fun k hk hk' => by
        unfold Env.kindOf at hk
        rw [hsc] at hk
        obtain ⟨k', e, r⟩ := lookup_relS hk
        have : k' = .cell ∨ k' = .free := by
          rcases r with rfl | ⟨rfl, _⟩
          · exact hk'
          · exact .inr rfl
        rcases this with rfl | rfl
        · obtain ⟨c, hm⟩ := cells_has (n := (s.heap.push { cls := .type "dict", data := .dict #[] }).objs.size) (acc := cloFrom X.env.cells scope.names []) (PySem.mem_of_lookup e)
          obtain ⟨c', e'⟩ := mem_lookup hm
          exact ⟨c', by rw [hcl]; exact e'⟩
        · obtain ⟨c, h1, _⟩ := look e
          exact ⟨c, h1⟩
      rcases hy with hy | hy
      · exact key _ hy (.inl rfl)
      · exact key _ hy (.inr rfl)
    · have z : (scope.names.lookup y == some NameKind.cell) = true := z
      have z : scope.names.lookup y = some .cell := by simpa using z
      have e : cenv.cells.lookup y = some c := e
      rw [hcl] at e
      rcases cells_mem (PySem.mem_of_lookup e) with hm | ⟨_, h2, _⟩
      · rcases cloFrom_mem hm with hm | ⟨h1, _⟩
        · cases hm
        · have q := ok.uniq _ h1
          rw [z] at q; cases q
      · rw [Heap.size_push] at h2
        exact Nat.le_of_succ_le h2
    · show b ≠ cenv.locals
      rw [hL]; exact Nat.ne_of_lt (hfp b hb).2
    · have e : cenv.cells.lookup y = some c := e
      rcases mem e with ⟨h1, _⟩ | ⟨h1, _⟩
      · exact (hfp b hb).1.2.2.2.2.1 y c h1 z
      · have h2 : s.heap.objs.size + 1 ≤ b := by rw [← z]; exact h1
        exact absurd (Nat.lt_of_lt_of_le (hfp b hb).2 (Nat.le_of_succ_le h2)) (Nat.lt_irrefl _)
    · rcases (hfp b hb).1.2.2.2.1 with z | z
      · exact I.ok.noex b o e z
      · exact absurd (Nat.lt_of_lt_of_le (Heap.lt_size e) (Nat.le_trans I.ok.bsz z)) (Nat.lt_irrefl _)
    · rcases List.mem_cons.mp (I.stkSub b z) with z | z
      · exact (hfp b hb).1.2.1 z
      · exact (hfp b hb).1.2.2.1 z
  refine ⟨okB, rfl, I.bare, Un.kept kp, ⟨fun _ => none, ?_, fun i y av e1 e2 e3 => ?_⟩, fun y c e => ?_, ?_, fun y c e => ?_, fun p hp => ?_, I.hok.kept kp, by rw [wipe_length]; exact I.len⟩
  · show Heap.Ns _ cenv.locals _
    rw [hL]
    exact Heap.Ns.keeps (Heap.Ns.new ..) fun b o e => pushCells_keeps _ _ _ _ e
  · obtain ⟨e2, hne⟩ := wipe_some e2
    have hfr : scope.names.lookup y = some .free ∧ (cenv.kindOf y = some .cell ∨ cenv.kindOf y = some .free) := by
      have key : ∀ k, cenv.scope.names.lookup y = some k → k = .local ∨ k = .cell ∨ k = .free → scope.names.lookup y = some .free ∧ (cenv.kindOf y = some .cell ∨ cenv.kindOf y = some .free) := fun k hk hk' => by
        have hk0 := hk
        rw [hsc] at hk
        obtain ⟨k', e, r⟩ := lookup_relS hk
        have no : ¬ (k' = .local ∨ k' = .cell) := fun hh => by
          rcases ok.own _ (PySem.mem_of_lookup e) hh with e' | e'
          · obtain ⟨p, hp, hpy⟩ := List.mem_map.mp e'
            have e3 := ok.ix p hp
            have : p.1 = y := hpy
            rw [this] at e3
            exact hne (List.mem_map.mpr ⟨p, hp, nodup_ix hN e3 e1⟩)
          · exact e' (List.mem_of_getElem? e1)
        rcases r with rfl | ⟨rfl, rfl⟩
        · rcases hk' with rfl | rfl | rfl
          · exact absurd (.inl rfl) no
          · exact absurd (.inr rfl) no
          · exact ⟨e, .inr hk0⟩
        · exact ⟨e, .inl hk0⟩
      have e3 : Vis cenv.scope y := e3
      rcases e3 with e3 | e3 | e3
      · exact key _ e3 (.inl rfl)
      · exact key _ e3 (.inr (.inl rfl))
      · exact key _ e3 (.inr (.inr rfl))
    obtain ⟨m, hn, hl⟩ := I.loc
    have hvis : Vis X.env.scope y := (ok.free _ (PySem.mem_of_lookup hfr.1) rfl).elim (fun k => .inr (.inl k)) (fun k => .inr (.inr k))
    obtain ⟨w, r, q⟩ := hl i y av e1 e2 hvis
    refine ⟨w, r, .inr ⟨hfr.2, ?_⟩⟩
    obtain ⟨c, h1, h2⟩ := look hfr.1
    rcases q with ⟨k, _⟩ | ⟨_, c', e', z⟩
    · have k : X.env.scope.names.lookup y = some .local := k
      rcases ok.free _ (PySem.mem_of_lookup hfr.1) rfl with k' | k' <;> rw [show X.env.scope.names.lookup y = _ from k'] at k <;> cases k
    · rw [h2] at e'; cases e'
      exact ⟨c, h1, z.keeps kp⟩
  · have e : cenv.cells.lookup y = some c := e
    rcases mem e with ⟨h1, _⟩ | ⟨_, z⟩
    · obtain ⟨w, z⟩ := I.cell y c h1
      exact ⟨w, z.keeps kp⟩
    · exact ⟨_, z⟩
  · show H cenv.locals = none
    rw [hL]; exact I.hok.fresh (Nat.le_refl _)
  · have e : cenv.cells.lookup y = some c := e
    rcases mem e with ⟨h1, _⟩ | ⟨h1, _⟩
    · exact I.freeC y c h1
    · exact I.hok.fresh (Nat.le_of_succ_le h1)
  · exact absurd (show p ∈ ([] : List (Addr × Obj)) ++ [] from hp) (by simp)

theorem app_ok {E : Value → Shared → Prop} {D : Addr} {xs : List V} {y : V} {v : Value} {Q : Value → Shared → Prop} (I : Inv X pins σ H s) (hD : H D = some (.lst xs)) (hz : xs.length < sizeLine) (r : RelV y v)
    (h : ∀ s', Inv X pins σ (upd H D (.lst (xs ++ [y]))) s' → Q .none s') : wpAny (model X.prog X.w) X.A (call (.builtin "list.append") [.ref D, v]) Q E s := by
  obtain ⟨hz', its, n, ri, e⟩ := I.hok D _ hD
  have hl := ri.length
  refine append_at (hsz := by rw [List.size_toArray]; omega) e fun h' sb ho' => ?_
  refine h { s with heap := h' } (I.write (t' := s.toks) (by rw [hD]; trivial) (.inl rfl) (fun b u hb q => (sb.2 b hb).trans q) ⟨_, ho'⟩ ⟨by rw [List.length_append]; exact hz, its ++ [v], n + 1, ri.append (.cons r .nil), ?_⟩)
  rw [ho']
  simp

def PTs (X : Cx) (ifs : List Expr) (t : TT) : Prop :=
  ∀ (pins : List (Addr × Obj)) (s : Shared) (σ : St) (H : Hp) (Q : Bool → Hp → Prop), Inv X pins σ H s → t σ H Q →
    wpAny (model X.prog X.w) X.A (forIn ifs true fun c r => if r = true then do let ok ← isTrue c X.env (eval c X.env); pure (ForInStep.yield ok) else pure (ForInStep.yield r)) (TP X pins σ Q) X.xe s
def tYes : TT := fun _ H Q => Q true H
theorem pts_nil : PTs X [] tYes := fun _ _ _ H _ I h => wpAny_tests_nil ⟨H, I, h⟩
end

theorem thnF {α : Type} {t : Sem α} {Q Q' : α → Shared → Prop} {M : Model} {A : Around} {E : Value → Shared → Prop} {s : Shared} (h : wpAny M A t Q (fun _ _ => False) s) (hQ : ∀ a s, Q a s → Q' a s) : wpAny M A t Q' E s := wpAny_mono h hQ fun _ _ z => False.elim z

theorem compLoop_any {prog : Program} {w : World} {A : Around} {R : Result → Shared → Prop} {s : Shared} {elt target iter : Expr} {ifs : List Expr} {scope : Scope} {pos : Pos} {it acc : Value} {env : Env} (I : Nat → Shared → Prop)
    (turn : ∀ n s, I n s → wpAny (model prog w) A (pyNext it) (fun r s₁ => match r with
      | none => R (.ok .next) s₁
      | some v => wpAny (model prog w) A (letOwnedTupleGo target it v) (fun _ s₁' => wpAny (model prog w) A (assign target env v) (fun _ s₂ =>
          wpAny (model prog w) A (forIn ifs true fun c r => if r = true then do let ok ← isTrue c env (eval c env); pure (ForInStep.yield ok) else pure (ForInStep.yield r)) (fun ok s₃ =>
            if ok = true then wpAny (model prog w) A (eval elt env) (fun x s₄ =>
              wpAny (model prog w) A (call (.builtin "list.append") [acc, x]) (fun _ s₅ => ∃ m, m < n ∧ I m s₅) (notedBy (model prog w) A env fun e s' => R (.error e) s') s₄) (notedBy (model prog w) A env fun e s' => R (.error e) s') s₃
            else ∃ m, m < n ∧ I m s₃) (notedBy (model prog w) A env fun e s' => R (.error e) s') s₂) (notedBy (model prog w) A env fun e s' => R (.error e) s') s₁') (notedBy (model prog w) A env fun e s' => R (.error e) s') s₁) (notedBy (model prog w) A env fun e s' => R (.error e) s') s)
    (n : Nat) (h : I n s) :
    codeAny (model prog w) A (.compLoop (.ListComp elt [⟨target, iter, ifs, 0⟩] scope pos) 0 it acc env) R s := by
  refine codeAny_loop rfl I (fun n s hI => ?_) n h
  show wpAny _ A ((compTurn (.ListComp elt [⟨target, iter, ifs, 0⟩] scope pos) 0 it acc env).onRaise (fun x => do noteFrame x env; theTreesLotGoes x)) _ _ s
  refine wpAny_noted ?_
  rw [compTurn_list]
  refine wpAny_bind (wpAny_standAt (wpAny_bind (wpAny_mono (turn n s hI) (fun r s₁ h₁ => ?_) fun _ _ h' => h')))
  cases r with
  | none => exact wpAny_pure h₁
  | some v =>
    refine wpAny_bind (wpAny_mono h₁ (fun _ s₁' h₁' => ?_) fun _ _ h' => h')
    refine wpAny_bind (wpAny_mono h₁' (fun _ s₂ h₂ => wpAny_bind (wpAny_mono h₂ (fun ok s₃ h₃ => ?_) fun _ _ h' => h')) fun _ _ h' => h')
    cases ok with
    | false => exact wpAny_pure ⟨rfl, h₃⟩
    | true =>
      exact wpAny_bind (wpAny_bind (wpAny_mono h₃ (fun x s₄ h₄ => wpAny_bind (wpAny_mono h₄ (fun _ s₅ h₅ => wpAny_pure (wpAny_pure ⟨rfl, h₅⟩)) fun _ _ h' => h')) fun _ _ h' => h'))

section
variable {X : Cx}
def tLc (wi : TI) (g : TG) (tt : TT) (te : TE) (vs : List Nat) : TE := fun σ H Q => wi σ H fun J H1 => ∀ D, H1 D = none → ∃ W : Nat → Nat → Hp → Prop, (∃ m, W 0 m (upd H1 D (.lst []))) ∧ ∀ i m H, W i m H →
  (J.stop i H ∧ Q (.ref D) H) ∨ (J.go i H ∧ ∃ Nx : Hp → Prop, (∀ H', Nx H' → ∃ m', m' < m ∧ W (i + 1) m' H') ∧ ∀ x H', J.yld i H x H' → g x (wipe σ vs) H' fun σ2 H2 => wipe σ2 vs = wipe σ vs ∧ tt σ2 H2 fun b H3 =>
    if b = true then te σ2 H3 fun y H4 => ∃ acc, H4 D = some (.lst acc) ∧ acc.length < sizeLine ∧ Nx (upd H4 D (.lst (acc ++ [y]))) else Nx H3)
theorem lc_core {pins : List (Addr × Obj)} {s : Shared} {σ : St} {H : Hp} {Q : VK} {elt tg iter : Expr} {ifs : List Expr} {scope : Scope} {own : List (Str × Nat)} {pos pos' : Pos} {wi : TI} {g : TG} {tt : TT} {te : TE} {use : Option (Value → Sem Unit)} {Qf : Value → Shared → Prop}
    (hc : X.calm = true) (hN : X.N.Nodup) (I : Inv X pins σ H s) (hi : PI X tg iter wi) (ok : BlkOk X.N X.env.scope scope own)
    (hg : ∀ (s : Shared) (H : Hp) (C : Addr) (cl : List (Str × Addr)) (fp : List Addr), PG (X.blk s H scope (compEnvC scope cl C X.env) fp) tg g) (ht : ∀ (s : Shared) (H : Hp) (C : Addr) (cl : List (Str × Addr)) (fp : List Addr), PTs (X.blk s H scope (compEnvC scope cl C X.env) fp) ifs tt)
    (he : ∀ (s : Shared) (H : Hp) (C : Addr) (cl : List (Str × Addr)) (fp : List Addr), PE (X.blk s H scope (compEnvC scope cl C X.env) fp) elt te) (hs : ∀ x, foldedSetIterable iter X.env x = pure x)
    (h : tLc wi g tt te (own.map (·.2)) σ H Q)
    (hRR : ∀ D C s' m H', Inv X pins σ H' s' → Q (.ref D) H' → s'.heap.Ns C m → FpOk X pins H' C → compPost (model X.prog X.w) X.A X.xe use Qf (.ref D) C (.ok .next) s') :
    wpAny (model X.prog X.w) X.A (comprehension (.ListComp elt [⟨tg, iter, ifs, 0⟩] scope pos) scope X.env pos' (newList []) false (eval iter X.env) use) Qf X.xe s := by
  have hfree : ∀ y ∈ scope.names, y.2 = .free → ∃ c, X.env.cells.lookup y.1 = some c := fun y hy e => by
    rcases ok.free y hy e with k | k
    · exact I.ok.has _ (.inl k)
    · exact I.ok.has _ (.inr k)
  refine wpAny_comprehension_free (use := use) rfl hs (closure_ok hfree) ok.kind (fun y hy e => by rw [ok.uniq y hy, e])
    (thn (hi pins s σ H _ I h) fun xv s1 hx => thn hx fun itv s2 h2 => ?_)
  obtain ⟨it, fp, tn, J, H2, e, I2, T, st2, f2, q⟩ := h2
  subst e
  refine wpAny_newObj_type (newEnv_comp ?_) (by show 0 ≤ sizeLine; decide)
  generalize hD : s2.heap.objs.size = D
  have hDn : H2 D = none := I2.hok.fresh (Nat.le_of_eq hD)
  obtain ⟨W, ⟨m0, w0⟩, turn⟩ := q D hDn
  -- the new list
  generalize hs3 : ({ s2 with heap := s2.heap.push { cls := .type "list", data := .seq ([] : List Value).toArray } } : Shared) = s3
  have I3 : Inv X pins σ (upd H2 D (.lst [])) s3 := by
    rw [← hs3]
    refine I2.laid (t' := s2.toks) (fun b o e => Heap.get?_push_of_some _ e) (Nat.le_of_eq hD) ⟨Nat.zero_le _, [], 0, .nil, ?_⟩
    rw [← hD]
    exact Heap.get?_push_size _ rfl
  have h3 : s3.heap = s2.heap.push { cls := .type "list", data := .seq ([] : List Value).toArray } := by rw [← hs3]
  have sz : ∀ b ∈ fp, b < s2.heap.objs.size := fun b hb => by
    obtain ⟨o, e, _⟩ := T.obj _ _ st2 b hb
    exact Heap.lt_size e
  have f3 : ∀ b ∈ fp, FpOk X pins (upd H2 D (.lst [])) b ∧ b < s3.heap.objs.size := fun b hb => by
    have hlt := sz b hb
    refine ⟨⟨?_, (f2 b hb).2⟩, by rw [h3, Heap.size_push]; exact Nat.lt_succ_of_lt hlt⟩
    rw [upd_ne (by rw [← hD]; exact Nat.ne_of_lt hlt)]
    exact (f2 b hb).1
  have st3 : tn 0 s3.heap := T.keep _ _ _ st2 fun b _ o e => by rw [h3]; exact Heap.get?_push_of_some _ e
  have I4 := block_start I3 ok hN f3
  have pg := hg s3 (upd H2 D (.lst [])) s3.heap.objs.size (cellsFrom (s3.heap.objs.size + 1) scope.names (cloFrom X.env.cells scope.names [])) fp
  have pt := ht s3 (upd H2 D (.lst [])) s3.heap.objs.size (cellsFrom (s3.heap.objs.size + 1) scope.names (cloFrom X.env.cells scope.names [])) fp
  have pe := he s3 (upd H2 D (.lst [])) s3.heap.objs.size (cellsFrom (s3.heap.objs.size + 1) scope.names (cloFrom X.env.cells scope.names [])) fp
  show codeAny _ _ (.compStart (.ListComp elt [⟨tg, iter, ifs, 0⟩] scope pos) 0 (.ref it) (.ref D) (compEnvC scope (cellsFrom (s3.heap.objs.size + 1) scope.names (cloFrom X.env.cells scope.names [])) s3.heap.objs.size X.env)) (compPost (model X.prog X.w) X.A X.xe use Qf (.ref D) s3.heap.objs.size) { s3 with heap := pushCells (s3.heap.push { cls := .type "dict", data := .dict #[] }) scope.names }
  have nfp : ∀ b ∈ fp, (upd H2 D (.lst [])) b = none := fun b hb => (f3 b hb).1.1
  generalize hce : compEnvC scope (cellsFrom (s3.heap.objs.size + 1) scope.names (cloFrom X.env.cells scope.names [])) s3.heap.objs.size X.env = ce at I4 pg pt pe ⊢
  have cL : ce.locals = s3.heap.objs.size := by subst hce; rfl
  generalize hH3 : upd H2 D (.lst []) = H3 at I3 I4 pg pt pe w0 nfp f3
  generalize hs4 : ({ s3 with heap := pushCells (s3.heap.push { cls := .type "dict", data := .dict #[] }) scope.names } : Shared) = s4 at I4 ⊢
  have st4 : tn 0 s4.heap := T.keep _ _ _ st3 fun b _ o e => by rw [← hs4]; exact pushCells_keeps _ _ _ _ (Heap.get?_push_of_some _ e)
  have stat : ∀ {σ' : St} {H' : Hp} {s' : Shared}, Inv (X.blk s3 H3 scope ce fp) [] σ' H' s' → (∀ b ∈ fp, H' b = none) → ∀ b ∈ fp, FpOk (X.blk s3 H3 scope ce fp) [] H' b := fun {σ' H' s'} I' hn b hb =>
    ⟨hn b hb, (I'.ok.exf b hb).1, I'.ok.exfs b hb, .inl hb, fun x c e => (I'.ok.exf b hb).2 x c e, fun p hp => absurd (show p ∈ ([] : List (Addr × Obj)) ++ [] from hp) (by simp)⟩
  have loop : codeAny (model X.prog X.w) X.A (.compLoop (.ListComp elt [⟨tg, iter, ifs, 0⟩] scope pos) 0 (.ref it) (.ref D) ce) (compPost (model X.prog X.w) X.A X.xe use Qf (.ref D) s3.heap.objs.size) s4 := by
    refine compLoop_any (fun n s' => ∃ i H', Inv (X.blk s3 H3 scope ce fp) [] (wipe σ (own.map (·.2))) H' s' ∧ tn i s'.heap ∧ (∀ b ∈ fp, H' b = none) ∧ W i n H') ?_ m0 ⟨0, H3, I4, st4, nfp, w0⟩
    rintro n s5 ⟨i, H5, I5, st5, n5, w5⟩
    rcases turn i n H5 w5 with ⟨stop, qq⟩ | ⟨go, Nx, hNx, step⟩
    · have td := T.done (X.blk s3 H3 scope ce fp) rfl rfl rfl hc i [] s5 _ H5 (fun _ _ => False) I5 (stat I5 n5) st5 stop
      refine thnF td fun r s6 ⟨hr, I6⟩ => ?_
      subst hr
      -- back in the def's context
      have I7 : Inv X pins σ H5 s6 := I3.call' (ch := fp) I6.os I6.base I6.hok I6.bare fun b hb => ⟨(f3 b hb).1.2.2.2.1, (f3 b hb).1.2.1, (f3 b hb).1.2.2.2.2.1, (f3 b hb).1.2.2.2.2.2⟩
      have nC : H5 s3.heap.objs.size = none := by
        have z : H5 ce.locals = none := I6.free
        rw [cL] at z
        exact z
      obtain ⟨m, hn, _⟩ := I6.loc
      have hn : s6.heap.Ns ce.locals m := hn
      rw [cL] at hn
      exact hRR D s3.heap.objs.size s6 m H5 I7 qq hn (I3.fpOk (Nat.le_refl _) nC)
    · have ti := T.item (X.blk s3 H3 scope ce fp) rfl rfl rfl hc i [] s5 _ H5 (fun _ _ => False) I5 (stat I5 n5) st5 go
      refine thnF ti fun r s6 ⟨u, hr, h6⟩ => ?_
      subst hr
      refine thnF h6 fun _ s7 ⟨x, H7, I7, r7, y7, st7, n7⟩ => ?_
      have I7' := I7.pinned (stat I7 n7) (T.obj _ _ st7)
      refine thnF (pg _ s7 _ H7 x u _ I7' r7 (step x H7 y7)) fun _ s8 ⟨σ8, H8, I8, hw8, q8⟩ => ?_
      refine thnF (pt _ s8 σ8 H8 _ I8 q8) fun b s9 ⟨H9, I9, q9⟩ => ?_
      -- the turn's end
      have fin : ∀ {s' : Shared} {H' : Hp}, Inv (X.blk s3 H3 scope ce fp) ([] ++ pinsAt fp s7.heap) σ8 H' s' → Nx H' → ∃ m, m < n ∧ ∃ i H', Inv (X.blk s3 H3 scope ce fp) [] (wipe σ (own.map (·.2))) H' s' ∧ tn i s'.heap ∧ (∀ b ∈ fp, H' b = none) ∧ W i m H' := fun {s' H'} I' nx => by
        obtain ⟨m', hm, w'⟩ := hNx H' nx
        have pin' : ∀ b ∈ fp, ∀ o, s7.heap.get? b = some o → s'.heap.get? b = some o ∧ H' b = none := fun b hb o e =>
          let z := I'.pin (b, o) (List.mem_append_right _ (List.mem_append_right _ (mem_pinsAt hb e)))
          ⟨z.1, z.2.1⟩
        have hl : (wipe σ (own.map (·.2))).length = σ8.length := by rw [← hw8, wipe_length]
        refine ⟨m', hm, i + 1, H', (I'.unpinned (pins := [])).weak hl (fun j v e => ?_), T.keep _ _ _ st7 fun b hb o e => (pin' b hb o e).1, fun b hb => ?_, w'⟩
        · rw [← hw8] at e
          exact (wipe_some e).1
        · obtain ⟨o, e, _⟩ := T.obj _ _ st7 b hb
          exact (pin' b hb o e).2
      cases b with
      | false =>
        simp only [Bool.false_eq_true, if_false] at q9 ⊢
        exact fin I9 q9
      | true =>
        simp only [if_true] at q9 ⊢
        refine thnF (pe _ s9 σ8 H9 _ I9 q9) fun z s10 ⟨yv, H10, I10, r10, acc, hD10, hz10, nx⟩ => ?_
        exact app_ok (X := X.blk s3 H3 scope ce fp) I10 hD10 hz10 r10 fun s11 I11 => fin I11 nx
  exact codeAny_compStart_list loop (T.self X.A 0 _ _ _ st4 loop)
theorem pe_lc {elt tg iter : Expr} {ifs : List Expr} {scope : Scope} {own : List (Str × Nat)} {pos : Pos} {wi : TI} {g : TG} {tt : TT} {te : TE} (hc : X.calm = true) (hN : X.N.Nodup) (hi : PI X tg iter wi) (ok : BlkOk X.N X.env.scope scope own)
    (hg : ∀ (s : Shared) (H : Hp) (C : Addr) (cl : List (Str × Addr)) (fp : List Addr), PG (X.blk s H scope (compEnvC scope cl C X.env) fp) tg g) (ht : ∀ (s : Shared) (H : Hp) (C : Addr) (cl : List (Str × Addr)) (fp : List Addr), PTs (X.blk s H scope (compEnvC scope cl C X.env) fp) ifs tt)
    (he : ∀ (s : Shared) (H : Hp) (C : Addr) (cl : List (Str × Addr)) (fp : List Addr), PE (X.blk s H scope (compEnvC scope cl C X.env) fp) elt te) (hs : ∀ x, foldedSetIterable iter X.env x = pure x := by intro _; rfl) :
    PE X (.ListComp elt [⟨tg, iter, ifs, 0⟩] scope pos) (tLc wi g tt te (own.map (·.2))) := by
  intro pins s σ H Q I h
  rw [eval_ListComp]
  refine lc_core hc hN I hi ok hg ht he hs h fun D C s' m H' I' q hn f => ⟨m, hn, fun h'' sb => ?_⟩
  obtain ⟨f0, f1, f2, f3, f4, f5⟩ := f
  exact ⟨.ref D, H', I'.turned (t' := s'.toks) (fun b o hb e => (sb.2 b hb).trans e) f0 f1 f3 f4 f5, rfl, q⟩
end

def blkC (N : List Str) (sc scope : Scope) (own : List (Str × Nat)) : Bool :=
  (match scope.kind with | .function => true | _ => false) && (scope.names.all fun y => decide (scope.names.lookup y.1 = some y.2)) && (own.all fun p => decide (N[p.2]? = some p.1)) &&
    (scope.names.all fun y => match y.2 with
      | .free => (match sc.names.lookup y.1 with | some .cell => true | some .free => true | _ => false)
      | .local => decide (y.1 ∈ own.map (·.1)) || decide (y.1 ∉ N)
      | .cell => decide (y.1 ∈ own.map (·.1)) || decide (y.1 ∉ N)
      | _ => true)
theorem blkOk_by {N : List Str} {sc scope : Scope} {own : List (Str × Nat)} (h : blkC N sc scope own = true) : BlkOk N sc scope own := by
  unfold blkC at h
  simp only [Bool.and_eq_true, List.all_eq_true, decide_eq_true_eq] at h
  obtain ⟨⟨⟨h1, h2⟩, h3⟩, h4⟩ := h
  refine ⟨?_, h2, h3, fun y hy e => ?_, fun y hy e => ?_⟩
  · split at h1
    · assumption
    · cases h1
  · have q := h4 y hy
    simp only [e] at q
    split at q <;> first | exact .inl (by assumption) | exact .inr (by assumption) | cases q
  · have q := h4 y hy
    rcases e with e | e <;> (simp only [e, Bool.or_eq_true, decide_eq_true_eq] at q; exact q)
end L2

namespace L2
open PySem PySem.Spec PyProof.Rows

section
variable {prog : Program} {w : World} {A : Around} {R : Result → Shared → Prop} {s : Shared} {elt t0 i0 t1 i1 : Expr} {ifs0 ifs1 : List Expr} {scope : Scope} {pos : Pos} {it acc : Value} {env : Env}
end

section
variable {X : Cx}
end
end L2

namespace L2
open PySem PySem.Spec PyProof.Rows

section
variable {κ : Type} [DecidableEq κ]
def valV (kvs : List (κ × V)) (k : κ) : Option V := (kvs.find? fun kv => decide (kv.1 = k)).map (·.2)
def putK (kvs : List (κ × V)) (k : κ) (v : V) : List (κ × V) :=
  if (kvs.any fun kv => decide (kv.1 = k)) = true then kvs.map (fun kv => if kv.1 = k then (kv.1, v) else kv) else kvs ++ [(k, v)]
def dropK (kvs : List (κ × V)) (k : κ) : List (κ × V) := kvs.filter fun kv => decide (kv.1 ≠ k)

theorem valV_pos {p : κ × V} {r : List (κ × V)} {k : κ} (e : p.1 = k) : valV (p :: r) k = some p.2 := by simp [valV, List.find?_cons, e]
theorem valV_neg {p : κ × V} {r : List (κ × V)} {k : κ} (e : ¬ p.1 = k) : valV (p :: r) k = valV r k := by simp [valV, List.find?_cons, e]
theorem valV_any (k : κ) : ∀ kvs : List (κ × V), (kvs.any fun kv => decide (kv.1 = k)) = (valV kvs k).isSome
  | [] => rfl
  | p :: r => by
    rw [List.any_cons]
    by_cases e : p.1 = k
    · simp only [valV_pos e, decide_eq_true e, Bool.true_or, Option.isSome_some]
    · rw [valV_neg e, decide_eq_false e, Bool.false_or]; exact valV_any k r
theorem valV_map (k j : κ) (y : V) : ∀ kvs : List (κ × V), valV (kvs.map fun kv => if kv.1 = k then (kv.1, y) else kv) j = (valV kvs j).map fun x => if j = k then y else x
  | [] => rfl
  | p :: r => by
    have ih := valV_map k j y r
    rw [List.map_cons]
    by_cases h : p.1 = k
    · rw [if_pos h]
      by_cases e : p.1 = j
      · rw [valV_pos (p := (p.1, y)) e, valV_pos e, Option.map_some, if_pos (e.symm.trans h)]
      · rw [valV_neg (p := (p.1, y)) e, valV_neg e, ih]
    · rw [if_neg h]
      by_cases e : p.1 = j
      · rw [valV_pos (p := p) e, valV_pos e, Option.map_some, if_neg (fun z => h (e.trans z))]
      · rw [valV_neg (p := p) e, valV_neg e, ih]
theorem valV_snoc (k j : κ) (y : V) : ∀ kvs : List (κ × V), valV kvs k = none → valV (kvs ++ [(k, y)]) j = if j = k then some y else valV kvs j
  | [], _ => by
    by_cases e : k = j
    · rw [if_pos e.symm]; exact valV_pos (p := (k, y)) e
    · rw [if_neg (fun z => e z.symm)]; exact valV_neg (p := (k, y)) e
  | p :: r, hn => by
    rw [List.cons_append]
    have hk : ¬ p.1 = k := fun z => by rw [valV_pos z] at hn; cases hn
    rw [valV_neg hk] at hn
    have ih := valV_snoc k j y r hn
    by_cases e : p.1 = j
    · rw [valV_pos e, valV_pos e, if_neg (fun z => hk (e.trans z))]
    · rw [valV_neg e, valV_neg e, ih]
theorem valV_put (kvs : List (κ × V)) (k j : κ) (y : V) : valV (putK kvs k y) j = if j = k then some y else valV kvs j := by
  unfold putK
  by_cases a : (kvs.any fun kv => decide (kv.1 = k)) = true
  · rw [if_pos a, valV_map]
    rw [valV_any] at a
    by_cases e : j = k
    · obtain ⟨x, hx⟩ := Option.isSome_iff_exists.mp a
      rw [if_pos e, e, hx, Option.map_some, if_pos rfl]
    · rw [if_neg e]
      cases valV kvs j with
      | none => rfl
      | some x => rw [Option.map_some, if_neg e]
  · rw [if_neg a]
    refine valV_snoc k j y kvs ?_
    rw [valV_any] at a
    cases q : valV kvs k with
    | none => rfl
    | some x => rw [q] at a; exact (a rfl).elim
theorem length_putK (kvs : List (κ × V)) (k : κ) (v : V) : (putK kvs k v).length ≤ kvs.length + 1 := by
  unfold putK
  split
  · rw [List.length_map]; omega
  · rw [List.length_append, List.length_cons, List.length_nil]; omega
theorem RelO.isSome_eq {o : Option V} {u : Option Value} (r : RelO o u) : o.isSome = u.isSome := by
  cases o with
  | none => cases u with
    | none => rfl
    | some _ => exact (show False from r).elim
  | some _ => cases u with
    | none => exact (show False from r).elim
    | some _ => rfl
theorem RelO.getD {o : Option V} {u : Option Value} {d : V} {d' : Value} (r : RelO o u) (rd : RelV d d') : RelV (o.getD d) (u.getD d') := by
  cases o with
  | none => cases u with
    | none => exact rd
    | some _ => exact (show False from r).elim
  | some _ => cases u with
    | none => exact (show False from r).elim
    | some _ => exact r

theorem KV.val {kvs : List (κ × V)} {vs : List (κ × Value)} (r : KV kvs vs) (k : κ) : RelO (valV kvs k) (valueAt vs k) := by
  unfold KV at r
  induction r with
  | nil => exact True.intro
  | @cons p q ps qs h t ih =>
    obtain ⟨h1, h2⟩ := h
    by_cases e : p.1 = k
    · have e' : q.1 = k := h1.symm.trans e
      have b : valueAt (q :: qs) k = some q.2 := by simp [valueAt, List.find?_cons, e']
      rw [valV_pos e, b]; exact h2
    · have e' : ¬ q.1 = k := fun z => e (h1.trans z)
      have b : valueAt (q :: qs) k = valueAt qs k := by simp [valueAt, List.find?_cons, e']
      rw [valV_neg e, b]; exact ih
theorem KV.any {kvs : List (κ × V)} {vs : List (κ × Value)} (r : KV kvs vs) (k : κ) : (kvs.any fun kv => decide (kv.1 = k)) = vs.any fun kv => decide (kv.1 = k) := by
  unfold KV at r
  induction r with
  | nil => rfl
  | cons h t ih => rw [List.any_cons, List.any_cons, ih, h.1]
theorem KV.repl {kvs : List (κ × V)} {vs : List (κ × Value)} (r : KV kvs vs) (k : κ) {y : V} {u : Value} (ry : RelV y u) :
    KV (kvs.map fun kv => if kv.1 = k then (kv.1, y) else kv) (vs.map fun kv => if kv.1 = k then (kv.1, u) else kv) := by
  unfold KV at r ⊢
  induction r with
  | nil => exact .nil
  | @cons p q ps qs h t ih =>
    rw [List.map_cons, List.map_cons]
    refine .cons ?_ ih
    obtain ⟨h1, h2⟩ := h
    by_cases e : p.1 = k
    · rw [if_pos e, if_pos (h1.symm.trans e)]; exact ⟨h1, ry⟩
    · rw [if_neg e, if_neg (fun z => e (h1.trans z))]; exact ⟨h1, h2⟩
theorem KV.put {kvs : List (κ × V)} {vs : List (κ × Value)} (r : KV kvs vs) (k : κ) {y : V} {u : Value} (ry : RelV y u) : KV (putK kvs k y) (stored vs k u) := by
  unfold putK stored
  rw [r.any k]
  by_cases e : (vs.any fun kv => decide (kv.1 = k)) = true
  · rw [if_pos e, if_pos e]; exact r.repl k ry
  · rw [if_neg e, if_neg e]; exact Paired.snoc r ⟨rfl, ry⟩
theorem KV.drop {kvs : List (κ × V)} {vs : List (κ × Value)} (r : KV kvs vs) (k : κ) : KV (dropK kvs k) (without vs k) := by
  unfold KV at r ⊢
  unfold dropK without
  induction r with
  | nil => exact .nil
  | @cons p q ps qs h t ih =>
    obtain ⟨h1, h2⟩ := h
    rw [List.filter_cons, List.filter_cons]
    by_cases e : p.1 = k
    · have a : ¬ decide (p.1 ≠ k) = true := by simp [e]
      have b : ¬ decide (q.1 ≠ k) = true := by simp [h1.symm.trans e]
      rw [if_neg a, if_neg b]; exact ih
    · have e' : ¬ q.1 = k := fun z => e (h1.trans z)
      have a : decide (p.1 ≠ k) = true := by simp [e]
      have b : decide (q.1 ≠ k) = true := by simp [e']
      rw [if_pos a, if_pos b]; exact .cons ⟨h1, h2⟩ ih
theorem KV.keys {kvs : List (κ × V)} {vs : List (κ × Value)} (r : KV kvs vs) : kvs.map (·.1) = vs.map (·.1) := by
  unfold KV at r
  induction r with
  | nil => rfl
  | cons h t ih => rw [List.map_cons, List.map_cons, ih, h.1]
theorem KV.length {kvs : List (κ × V)} {vs : List (κ × Value)} (r : KV kvs vs) : kvs.length = vs.length := Paired.length r
end


theorem kV_is {P : Program} {w : World} {k : Key} {u : Value} (r : RelV (kV k) u) : (mixKind P w).is k u = true := by
  cases k with
  | inl i => obtain ⟨t, e⟩ := (show ∃ t, u = Value.int i t from r); subst e; exact mixKind_int P w i t
  | inr x => obtain ⟨t, e⟩ := (show ∃ t, u = Value.str x t from r); subst e; exact mixKind_str P w x t
theorem items_are {P : Program} {w : World} : ∀ {ks : List Key} {us : List Value}, Vals (ks.map kV) us → ItemsAre (mixKind P w) ks us
  | [], _, r => by rw [List.map_nil] at r; cases r; exact .nil
  | k :: ks, _, r => by
    rw [List.map_cons] at r
    cases r with
    | cons h t => exact .cons (kV_is h) (items_are t)

abbrev KT (H : Hp) : List (List Key × V) → List (List Key × Addr × Value) → Prop := Paired fun p q => p.1 = q.1 ∧ H q.2.1 = some (.tup (p.1.map kV)) ∧ RelV p.2 q.2.2
theorem KT.val {H : Hp} {kvs : List (List Key × V)} {xs : List (List Key × Addr × Value)} (r : KT H kvs xs) (k : List Key) : RelO (valV kvs k) ((atKey xs k).map (·.2)) := by
  induction r with
  | nil => exact True.intro
  | @cons p q ps qs h t ih =>
    obtain ⟨h1, _, h2⟩ := h
    by_cases e : p.1 = k
    · have e' : q.1 = k := h1.symm.trans e
      have b : atKey (q :: qs) k = some q.2 := by simp [atKey, List.find?_cons, e']
      rw [valV_pos e, b]; exact h2
    · have e' : ¬ q.1 = k := fun z => e (h1.trans z)
      have b : atKey (q :: qs) k = atKey qs k := by simp [atKey, List.find?_cons, e']
      rw [valV_neg e, b]; exact ih
theorem KT.repl {H : Hp} {kvs : List (List Key × V)} {xs : List (List Key × Addr × Value)} (r : KT H kvs xs) (k : List Key) {y : V} {u : Value} (ry : RelV y u) :
    KT H (kvs.map fun kv => if kv.1 = k then (kv.1, y) else kv) (xs.map (putAt k u)) := by
  induction r with
  | nil => exact .nil
  | @cons p q ps qs h t ih =>
    rw [List.map_cons, List.map_cons]
    refine .cons ?_ ih
    obtain ⟨h1, h2, h3⟩ := h
    unfold putAt
    by_cases e : p.1 = k
    · rw [if_pos e, if_pos (h1.symm.trans e)]; exact ⟨h1, h2, ry⟩
    · rw [if_neg e, if_neg (fun z => e (h1.trans z))]; exact ⟨h1, h2, h3⟩
theorem KT.put {H : Hp} {kvs : List (List Key × V)} {xs : List (List Key × Addr × Value)} (r : KT H kvs xs) (k : List Key) {b : Addr} {y : V} {u : Value} (hb : H b = some (.tup (k.map kV))) (ry : RelV y u) :
    KT H (putK kvs k y) (storedH xs k b u) := by
  have e : (kvs.any fun kv => decide (kv.1 = k)) = (atKey xs k).isSome := by
    rw [valV_any, (r.val k).isSome_eq, Option.isSome_map]
  unfold putK storedH
  rw [e]
  by_cases q : (atKey xs k).isSome = true
  · rw [if_pos q, if_pos q]; exact r.repl k ry
  · rw [if_neg q, if_neg q]; exact Paired.snoc r ⟨rfl, hb, ry⟩
theorem KT.keeps {H H' : Hp} {kvs : List (List Key × V)} {xs : List (List Key × Addr × Value)} (r : KT H kvs xs) (ht : ∀ b ys, H b = some (.tup ys) → H' b = some (.tup ys)) : KT H' kvs xs :=
  Paired.mapP r fun _ _ z => ⟨z.1, ht _ _ z.2.1, z.2.2⟩

section
variable {P : Program} {w : World} {H : Hp} {h : Heap} {a : Addr}
theorem rd_of {u : HO} (ok : HOk P w H h) (e : Rd H a u) : ObjOk P w H h a u := e.ok ok
theorem dk_rd {kvs : List (Key × V)} (ok : HOk P w H h) (e : Rd H a (.dK kvs)) : kvs.length ≤ sizeLine ∧ (a == sysModules) = false ∧ ∃ vs, KV kvs vs ∧ h.DictOf (mixKind P w) a vs :=
  show ObjOk P w H h a (.dK kvs) from rd_of ok e
theorem dk_of {kvs : List (Key × V)} (ok : HOk P w H h) (e : H a = some (.dK kvs)) : kvs.length ≤ sizeLine ∧ (a == sysModules) = false ∧ ∃ vs, KV kvs vs ∧ h.DictOf (mixKind P w) a vs := dk_rd ok (.inl e)
theorem key_of {ks : List Key} (ok : HOk P w H h) (e : H a = some (.tup (ks.map kV))) : (tupleKind (mixKind P w)).is h ks a := by
  obtain ⟨_, its, r, o, h1, h2, n, h3⟩ := (show ObjOk P w H h a (.tup (ks.map kV)) from ok a _ e)
  exact ⟨o, its.toArray, n, h1, h2, h3, by simpa using items_are r⟩
theorem dt_rd {kvs : List (List Key × V)} (ok : HOk P w H h) (e : Rd H a (.dT kvs)) : kvs.length ≤ sizeLine ∧ (a == sysModules) = false ∧
    ∃ xs, KT H kvs xs ∧ h.DictOfH (tupleKind (mixKind P w)) a xs := by
  obtain ⟨z, y, xs, r, o, es, ep, h1, h2, h3, h4, h5⟩ := (show ObjOk P w H h a (.dT kvs) from rd_of ok e)
  refine ⟨z, y, xs, r, o, es, ep, h1, h2, h3, h4, fun x hx => ?_, h5⟩
  have all : ∀ {l : List (List Key × V)} {m : List (List Key × Addr × Value)}, KT H l m → ∀ x ∈ m, (tupleKind (mixKind P w)).is h x.1 x.2.1 := by
    intro l m q
    induction q with
    | nil => intro x hx; exact nomatch hx
    | @cons p q ps qs hq t ih =>
      intro x hx
      rcases List.mem_cons.mp hx with e | hx
      · subst e
        exact key_of ok (by rw [← hq.1]; exact hq.2.1)
      · exact ih x hx
  exact all r x hx
theorem dt_of {kvs : List (List Key × V)} (ok : HOk P w H h) (e : H a = some (.dT kvs)) : kvs.length ≤ sizeLine ∧ (a == sysModules) = false ∧
    ∃ xs, KT H kvs xs ∧ h.DictOfH (tupleKind (mixKind P w)) a xs := dt_rd ok (.inl e)
end

def DGet (H : Hp) (a : Addr) (y : V) (r : Option V) : Prop :=
  (∃ kvs k, Rd H a (.dK kvs) ∧ y = kV k ∧ r = valV kvs k) ∨ ∃ kvs k b, Rd H a (.dT kvs) ∧ y = .ref b ∧ H b = some (.tup (k.map kV)) ∧ r = valV kvs k
def DPut (H : Hp) (a : Addr) (y v : V) (H' : Hp) : Prop :=
  (∃ kvs k, H a = some (.dK kvs) ∧ y = kV k ∧ kvs.length < sizeLine ∧ H' = upd H a (.dK (putK kvs k v))) ∨
  ∃ kvs k b, H a = some (.dT kvs) ∧ y = .ref b ∧ H b = some (.tup (k.map kV)) ∧ kvs.length < sizeLine ∧ H' = upd H a (.dT (putK kvs k v))
theorem DGet.k {H : Hp} {a : Addr} {kvs : List (Key × V)} {k : Key} (e : H a = some (.dK kvs)) : DGet H a (kV k) (valV kvs k) := .inl ⟨kvs, k, .inl e, rfl, rfl⟩
theorem DGet.t {H : Hp} {a b : Addr} {kvs : List (List Key × V)} {k : List Key} (e : H a = some (.dT kvs)) (eb : H b = some (.tup (k.map kV))) : DGet H a (.ref b) (valV kvs k) := .inr ⟨kvs, k, b, .inl e, rfl, eb, rfl⟩
theorem DPut.k {H : Hp} {a : Addr} {kvs : List (Key × V)} {k : Key} {v : V} (e : H a = some (.dK kvs)) (hl : kvs.length < sizeLine) : DPut H a (kV k) v (upd H a (.dK (putK kvs k v))) := .inl ⟨kvs, k, e, rfl, hl, rfl⟩
theorem DPut.t {H : Hp} {a b : Addr} {kvs : List (List Key × V)} {k : List Key} {v : V} (e : H a = some (.dT kvs)) (eb : H b = some (.tup (k.map kV))) (hl : kvs.length < sizeLine) :
    DPut H a (.ref b) v (upd H a (.dT (putK kvs k v))) := .inr ⟨kvs, k, b, e, rfl, eb, hl, rfl⟩


section
variable {X : Cx} {pins : List (Addr × Obj)} {σ : St} {H : Hp} {s : Shared} {a : Addr} {y v : V} {u r : Value} {o : Option V} {A : Around} {E : Value → Shared → Prop}

theorem Inv.big (I : Inv X pins σ H s) : sysModules < s.heap.objs.size := by
  have h : mainGlobals < s.heap.objs.size := (I.mod.glob.keeps I.bk).lt
  exact Nat.lt_trans (by decide) h

theorem d_getItem {Q : Value → Shared → Prop} (hu : A.units + 1 < cLine) (I : Inv X pins σ H s) (g : DGet H a y (some v)) (ry : RelV y u) (h : ∀ w' s', Inv X pins σ H s' → RelV v w' → Q w' s') :
    wpAny (model X.prog X.w) A (getItem (.ref a) u) Q E s := by
  rcases g with ⟨kvs, k, e, ey, l⟩ | ⟨kvs, k, b, e, ey, eb, l⟩
  · subst ey
    obtain ⟨z, hd, vs, rel, dd⟩ := dk_rd I.hok e
    obtain ⟨w', hw, rw'⟩ := RelO.some_of (v := v) (o := valueAt vs k) (by rw [l]; exact rel.val k)
    exact wpAny_getItem_of (kV_is ry) dd.mapOf hw (h w' _ (I.tok _) rw')
  · subst ey
    cases (show u = Value.ref b from ry)
    obtain ⟨z, hd, xs, rel, dd⟩ := dt_rd I.hok e
    obtain ⟨w', hw, rw'⟩ := RelO.some_of (v := v) (o := (atKey xs k).map (·.2)) (by rw [l]; exact rel.val k)
    obtain ⟨p, hp, hp2⟩ := Option.map_eq_some_iff.mp hw
    refine wpAny_getItem_heap (tupleKind_room_in1 hu) (key_of I.hok eb) dd hp ?_
    rw [hp2]
    exact h w' _ (I.tok _) rw'
theorem d_write {h' : Heap} {t' : Nat} {ob : HO} (I : Inv X pins σ H s) (mu : Mut (H a)) (hs : Heap.SameBut a s.heap h') (he : ∃ q, h'.get? a = some q) (new : ObjOk X.prog X.w (upd H a ob) h' a ob) :
    Inv X pins σ (upd H a ob) { s with heap := h', toks := t' } :=
  I.write (x := a) (e := a) mu (.inl rfl) (fun b q hb z => (hs.2 b hb).trans z) he new
theorem dk_new {P : Program} {w : World} {H' : Hp} {h' : Heap} {kvs : List (Key × V)} {vs : List (Key × Value)} (z : kvs.length ≤ sizeLine) (hd : (a == sysModules) = false) (rel : KV kvs vs) (dd : h'.DictOf (mixKind P w) a vs) :
    ObjOk P w H' h' a (.dK kvs) := ⟨z, hd, vs, rel, dd⟩
theorem d_setItem {H' : Hp} {Q : Unit → Shared → Prop} (hu : A.units + 1 < cLine) (I : Inv X pins σ H s) (g : DPut H a y v H') (ry : RelV y u) (rv : RelV v r) (h : ∀ s', Inv X pins σ H' s' → Q () s') :
    wpAny (model X.prog X.w) A (setItem (.ref a) u r) Q E s := by
  rcases g with ⟨kvs, k, e, ey, l, eH⟩ | ⟨kvs, k, b, e, ey, eb, l, eH⟩
  · subst ey eH
    obtain ⟨z, hd, vs, rel, dd⟩ := dk_of I.hok e
    have hz : vs.length ≤ sizeLine := by rw [← rel.length]; exact z
    have hl : (putK kvs k v).length ≤ sizeLine := by have := length_putK kvs k v; omega
    refine wpAny_setItem_pairs (hsz := hz) (kV_is ry) dd fun h' dd' hs => h _ ?_
    have he : ∃ q, h'.get? a = some q := let ⟨q, _, _, hq, _⟩ := dd'; ⟨q, hq⟩
    exact d_write I (by rw [e]; exact True.intro) hs he (dk_new hl hd (rel.put k rv) dd')
  · subst ey eH
    cases (show u = Value.ref b from ry)
    obtain ⟨z, hd, xs, rel, dd⟩ := dt_of I.hok e
    have hz : xs.length ≤ sizeLine := by rw [← Paired.length rel]; exact z
    have hl : (putK kvs k v).length ≤ sizeLine := by have := length_putK kvs k v; omega
    refine wpAny_setItem_heap (hsz := hz) (tupleKind_room_in1 hu) (key_of I.hok eb) dd fun h' dd' hs => h _ ?_
    obtain ⟨q, es, ep, hq, h2, h3, h4, _, h5⟩ := dd'
    refine d_write I (by rw [e]; exact True.intro) hs ⟨q, hq⟩ ⟨hl, hd, _, (rel.put k eb rv).keeps fun c ys ec => ?_, q, es, ep, hq, h2, h3, h4, h5⟩
    rw [upd_ne (ne_of ec e (fun z => nomatch z))]
    exact ec
end

section
variable {X : Cx} {pins : List (Addr × Obj)} {σ : St} {H : Hp} {s : Shared} {a : Addr} {kvs : List (Key × V)} {k : Key} {u : Value} {A : Around} {E : Value → Shared → Prop}
end


def NoSl (i : Expr) : Prop := ∀ ov iv, subscripted i false ov iv = operate [ov, iv] (getItem ov iv)
theorem subD_of {prog : Program} {w : World} {A : Around} {E : Value → Shared → Prop} {s : Shared} {env : Env} {value slice : Expr} {pos : Pos} {T id : String} {Q : Value → Shared → Prop}
    (hl : typeLookup (.type T) "__getitem__" = pure (some (.builtin id))) (hs : NoSl slice)
    (h : wpAny (model prog w) A (eval value env) (fun o s₁ => wpAny (model prog w) A (eval slice env) (fun i s₂ => s₂.TypeIs o T ∧ wpAny (model prog w) A (getItem o i) Q E s₂) E s₁) E s) :
    wpAny (model prog w) A (eval (.Subscript value slice pos) env) Q E s := by
  refine Subscript_ (wpAny_mono h (fun o s₁ h₁ => wpAny_mono h₁ (fun i s₂ h₂ => ?_) fun _ _ x => x) fun _ _ x => x)
  obtain ⟨hT, h₂⟩ := h₂
  unfold subscriptTail
  refine wpAny_bind ?_
  rw [getitemInPython_of_ne hT.not_modules]
  refine wpAny_bind (wpAny_specialOf hT hl ?_)
  have fin : wpAny (model prog w) A (subscripted slice false o i) (fun r s₃ => wpAny (model prog w) A (letTemporaryGo value o r >>= fun _ => pure r) Q E s₃) E s₂ := by
    rw [hs o i]
    exact wpAny_operating (wpAny_mono h₂ (fun r s₃ h₃ => wpAny_bind (wpAny_letTemporaryGo (wpAny_pure h₃))) fun _ _ x => x)
  first
    | exact wpAny_pure (wpAny_bind fin)
    | exact wpAny_bind (wpAny_pure (wpAny_bind fin))
    | exact wpAny_bind fin

theorem dict_typeIs {X : Cx} {pins : List (Addr × Obj)} {σ : St} {H : Hp} {s : Shared} {a : Addr} {y : V} {o : Option V} (I : Inv X pins σ H s) (g : DGet H a y o) : s.TypeIs (.ref a) "dict" := by
  rcases g with ⟨kvs, k, e, _, _⟩ | ⟨kvs, k, b, e, _, _, _⟩
  · obtain ⟨_, _, vs, _, dd⟩ := dk_rd I.hok e
    exact dd.typeIs
  · obtain ⟨_, _, xs, _, dd⟩ := dt_rd I.hok e
    exact dd.typeIs
def tDGet (td ty : TE) : TE := fun σ H Q => td σ H fun x H1 => ty σ H1 fun y H2 => ∃ a v, x = .ref a ∧ DGet H2 a y (some v) ∧ Q v H2
def sDPut (td ty tv : TE) : TS := fun D σ H => tv σ H fun v H1 => td σ H1 fun x H2 => ty σ H2 fun y H3 => ∃ a H4, x = .ref a ∧ DPut H3 a y v H4 ∧ D.nx σ H4
section
variable {X : Cx} {o i e value : Expr} {pos pos' tpos : Pos} {td ty tv : TE}
theorem pe_dget (hu : X.A.units + 1 < cLine) (ho : PE X o td) (hi : PE X i ty) (hs : NoSl i) : PE X (.Subscript o i pos) (tDGet td ty) := by
  intro pins s σ H Q I h
  refine subD_of PySem.F.slot_dict_getitem.lookup hs (thn (ho pins s σ H _ I h) fun u s1 ⟨x, H1, I1, rx, q1⟩ => thn (hi pins s1 σ H1 _ I1 q1) fun iv s2 ⟨y, H2, I2, ry, a, v, ex, g, q2⟩ => ?_)
  subst ex
  obtain rfl : u = Value.ref a := rx
  exact ⟨dict_typeIs I2 g, d_getItem hu I2 g ry fun w' s3 I3 rw' => ⟨v, H2, I3, rw', q2⟩⟩
theorem ps_dput (hu : X.A.units + 1 < cLine) (ho : PE X o td) (hi : PE X i ty) (hv : PE X value tv) (hs : swapsWith value (some (.Subscript o i pos')) pos.line X.env = pure false) :
    PS X (.Assign [.Subscript o i pos'] value pos) (sDPut td ty tv) := by
  intro pins s σ H D I h
  refine wpAny_Assign_Subscript (thn (hv pins s σ H _ I h) fun r s1 ⟨v, H1, I1, rv, q1⟩ => thn (ho pins s1 σ H1 _ I1 q1) fun u s2 ⟨x, H2, I2, rx, q2⟩ => thn (hi pins s2 σ H2 _ I2 q2) fun iv s3 ⟨y, H3, I3, ry, a, H4, ex, g, q3⟩ => ?_) hs
  subst ex
  obtain rfl : u = Value.ref a := rx
  exact d_setItem hu I3 g ry rv fun s4 I4 => ⟨σ, H4, I4, q3⟩
end


theorem dt_empty {P : Program} {w : World} {H : Hp} (h : Heap) (hb : sysModules < h.objs.size) : ObjOk P w H (h.push { cls := .type "dict", data := .dict #[] }) h.objs.size (.dT []) :=
  ⟨Nat.zero_le _, beq_eq_false_iff_ne.mpr (Ne.symm (Nat.ne_of_lt hb)), [], .nil, _, #[], 0, Heap.get?_push_size _ rfl, ⟨rfl, rfl, rfl⟩, rfl, rfl, List.nodup_nil⟩
def tDNewT : TE := fun _ H Q => ∀ p, H p = none → Q (.ref p) (upd H p (.dT []))
section
variable {X : Cx} {pos : Pos}
theorem pe_dnewT : PE X (.Dict [] [] pos) tDNewT := fun pins s σ H Q I h =>
  wpAny_Dict_empty ⟨.ref s.heap.objs.size, _, I.laid (a := s.heap.objs.size) (o := .dT []) (t' := s.toks) (fun _ _ q => Heap.get?_push_of_some _ q) (Nat.le_refl _) (dt_empty s.heap I.big), rfl, h _ (I.hok.fresh (Nat.le_refl _))⟩
end

section
variable {X : Cx} {pins : List (Addr × Obj)} {σ : St} {H : Hp} {s : Shared} {a : Addr} {y d : V} {u r : Value} {o : Option V} {A : Around} {E : Value → Shared → Prop}
end

section
variable {X : Cx} {o e f : Expr} {apos cpos : Pos} {td ty tx : TE}
end

section
variable {X : Cx} {pins : List (Addr × Obj)} {σ : St} {H : Hp} {s : Shared} {a : Addr} {kvs : List (Key × V)} {A : Around} {E : Value → Shared → Prop}
end


section
variable {X : Cx} {pins : List (Addr × Obj)} {σ : St} {H : Hp} {s : Shared} {a : Addr} {y : V} {u : Value} {A : Around} {E : Value → Shared → Prop}
end
end L2

namespace L2
open PySem PySem.Spec PyProof.Rows

section
variable {prog : Program} {w : World} {A : Around} {E : Value → Shared → Prop}
end

section
variable {X : Cx}
end
end L2

namespace L2
open PySem PySem.Spec PyProof.Rows

section
variable {X : Cx} {pins : List (Addr × Obj)} {σ : St} {H : Hp} {s : Shared} {h' : Heap}
end
section
variable {X : Cx}
end

section
variable {X : Cx} {tg : Expr}
end
section
variable {X : Cx} {tg : Expr}
end

section
variable {prog : Program} {w : World} {A : Around} {E : Value → Shared → Prop} {s : Shared}
end

section
variable {X : Cx} {pins : List (Addr × Obj)} {σ : St} {H : Hp} {s : Shared} {d : Addr} {o : Obj}
end

section
variable {P : Program} {w : World} {K : PySem.W.Frag} {tg : Expr} {d : Addr} {o : Obj} {es : Array DictEntry} {ep : Nat}
end

section
variable {X : Cx} {tg e : Expr} {td : TE} {apos cpos : Pos}
end

end L2

section 
namespace Bits
open PySem PyProof.Rows

end Bits
end 

section 
namespace TL
open PySem PySem.Builtin PySem.Builtin.Str PySem.StrLaws

abbrev tl (x : Str) : List Nat := x.cps.toList
def pre (S l : List Nat) : Bool := l.take S.length == S
def par (S : List Nat) : List Nat → List Nat → Option (List Nat × List Nat)
  | _, [] => none
  | acc, c :: r => if pre S (c :: r) = true then some (acc, (c :: r).drop S.length) else par S (acc ++ [c]) r

end TL
end 

namespace L2
open PySem PySem.Spec PyProof.Rows

section
variable {X : Cx} {pins : List (Addr × Obj)} {σ : St} {H : Hp} {s : Shared} {Q : VK}
end

section
variable {X : Cx}

end

section
variable {X : Cx} {o e : Expr} {to te : TE}
end
end L2

namespace L2
open PySem PySem.Spec PyProof.Rows

section
variable {X : Cx}
end

end L2

namespace Att
open PySem PySem.W PySem.Calls PyProof.Rows

section
variable {prog : Program} {w : World} {A : Around} {E : Value → Shared → Prop} {s : Shared} {K : Frag}

end
end Att

namespace L2
open PySem PySem.Spec PyProof.Rows

end L2

namespace L2
open PySem PySem.Spec PyProof.Rows

end L2


namespace L2
open PySem PySem.Spec PyProof.Rows

def inClass (s : Stmt) (j : Nat) : Stmt := match s with
  | .ClassDef _ _ _ body _ _ _ _ _ _ _ => body.getD j (.Pass ⟨0, 0, 0, 0⟩)
  | _ => .Pass ⟨0, 0, 0, 0⟩
def defArgs (s : Stmt) : Arguments := match s with
  | .FunctionDef _ a _ _ _ _ _ _ _ _ => a
  | _ => { posonlyargs := [], args := [], vararg := none, kwonlyargs := [], kw_defaults := [], kwarg := none, defaults := [] }
def defBody (s : Stmt) : List Stmt := match s with
  | .FunctionDef _ _ b _ _ _ _ _ _ _ => b
  | _ => []
def defScope (s : Stmt) : Scope := match s with
  | .FunctionDef _ _ _ _ _ _ sc _ _ _ => sc
  | _ => { kind := .function, names := [], isGenerator := false, isCoroutine := false }

abbrev CX0 : CXT := fun _ _ _ _ _ _ => False
abbrev E0 : XK := fun _ _ _ => False
theorem pass0 {X : Cx} : Passes CX0 X E0 := fun _ _ _ _ _ _ _ h => h.elim

structure Fun (K : PySem.W.Frag) (x qual : Str) (st : Stmt) (f : Addr) (fd : FuncData) : Prop where
  ex : ∃ (oc : Value) (od : Option Addr) (kV doc pm : Value) (an : Option Addr) (cdv ct : Value) (osl : Array (Option Value)),
    fd = PySem.W.fnOf x qual (defArgs st) (defBody st) (defScope st) .none kV doc pm an cdv ct ∧ K.lookup f = some ⟨oc, od, .func fd, osl⟩ ∧ PySem.W.codeIn K cdv qual = true
  kp : PySem.W.keepIn K (.ref f) = true
section
variable {P : Program} {w : World} {K : PySem.W.Frag} {mg : Str → Option Value} {base : Heap}
theorem Fun.ok {x qual : Str} {st : Stmt} {f : Addr} {fd : FuncData} {N ps : List Str} {k : Nat} {sp : Sp} (F : Fun K x qual st f fd) (S : FnScope N ps (defScope st)) (len : ∀ vs H Q E, sp vs H Q E → vs.length = ps.length)
    (hbody : ∀ (cdv : Value) (A : Around) (outer : List Env) (s : Shared) (H : Hp) (vs : List V) (Q : VK) (E : XK), Room k (A.deeper (envOfC qual (defScope st) s.heap.objs.size f cdv)) → sp vs H Q E →
      ∃ t, PSs (cxOf CX0 P w K mg base N qual (defScope st) f cdv A outer s H E).nox (defBody st) t ∧ t { nx := fun _ H' => Q .non H', rt := Q } (start N vs) H) : FnOk P w K mg base CX0 (k + 1) f fd ps sp := by
  obtain ⟨oc, od, kV, doc, pm, an, cdv, ct, osl, rfl, lk, hcd⟩ := F.ex
  refine fn_of lk hcd S len fun A outer s H vs Q E hr hsp => ?_
  obtain ⟨t, h, q⟩ := hbody cdv A outer s H vs Q E hr hsp
  exact ⟨t, h.nox, q⟩
theorem Fun.binds {x qual : Str} {st : Stmt} {f : Addr} {fd : FuncData} {ps : List Str} (F : Fun K x qual st f fd)
    (h : ∀ (kV doc pm : Value) (an : Option Addr) (cdv ct : Value) (us : List Value), us.length = ps.length → bindArgs (PySem.W.fnOf x qual (defArgs st) (defBody st) (defScope st) .none kV doc pm an cdv ct) ⟨us, []⟩ = pure (ps.zip us)) : Binds K fd ps [] := by
  obtain ⟨oc, od, kV, doc, pm, an, cdv, ct, osl, rfl, lk, hcd⟩ := F.ex
  exact .all (h kV doc pm an cdv ct)
theorem fun_mk {x qual : Str} {st : Stmt} {f : Addr} {oc : Value} {od an : Option Addr} {osl : Array (Option Value)} {kV doc pm cdv ct : Value} (l : K.lookup f = some ⟨oc, od, .func (PySem.W.fnOf x qual (defArgs st) (defBody st) (defScope st) .none kV doc pm an cdv ct), osl⟩)
    (c : PySem.W.codeIn K cdv qual = true) (k : PySem.W.keepIn K (.ref f) = true) : Fun K x qual st f (PySem.W.fnOf x qual (defArgs st) (defBody st) (defScope st) .none kV doc pm an cdv ct) := ⟨⟨oc, od, kV, doc, pm, an, cdv, ct, osl, rfl, l, c⟩, k⟩
end
theorem hu_of {A : Around} {k : Nat} (hr : Room k A) : A.units + 1 < cLine := Nat.lt_of_le_of_lt (Nat.add_le_add_left (by decide : 1 ≤ 64) _) hr.units
section
variable {X : Cx}
theorem pv (i : Nat) {x : Str} {pos : Pos} (hN : X.N[i]? = some x := by rfl) (hv : Vis X.env.scope x := by first | exact Or.inl rfl | exact Or.inr (Or.inl rfl) | exact Or.inr (Or.inr rfl)) (hd : (x == ("__debug__" : Str)) = false := by decide)
    (hcd : (x == ("__classdict__" : Str)) = false := by decide) : PE X (.Name x pos) (tVar i) := pe_var hN hv hd hcd
end

theorem ite2 {c A B : Prop} [Decidable c] (h1 : c → A) (h2 : ¬ c → B) : if c then A else B := by
  by_cases h : c
  · rw [if_pos h]
    exact h1 h
  · rw [if_neg h]
    exact h2 h
def Same (H H' : Hp) : Prop := ∀ b o, H b = some o → H' b = some o
theorem Same.refl (H : Hp) : Same H H := fun _ _ h => h
theorem Same.trans {H H1 H2 : Hp} (a : Same H H1) (b : Same H1 H2) : Same H H2 := fun c o h => b c o (a c o h)
theorem Same.free {H H' : Hp} (e : Same H H') {l : Addr} (h : H' l = Option.none) : H l = Option.none := by
  cases q : H l with
  | none => rfl
  | some o =>
    rw [e l o q] at h
    cases h
theorem Same.seq {K : PySem.W.Frag} {H H' : Hp} {a : Addr} {xs : List V} (e : Same H H') (h : SqL K H a xs) : SqL K H' a xs := by
  rcases h with (h | ⟨o, h⟩) | h
  · exact .inl (.inl (e _ _ h))
  · exact .inl (.inr ⟨o, e _ _ h⟩)
  · exact .inr h

section
variable {κ : Type} [DecidableEq κ]
end
theorem at_of {xs : List V} {z : Int} {j : Nat} {v : V} (e : z = (j : Int)) (h : xs[j]? = some v) : atI xs z = some v := by
  rw [e]
  exact atI_nat h
theorem Same.made {H H1 : Hp} {x dx C : Addr} (nx : H x = Option.none) (nd : H dx = Option.none) (k : ∀ b o, (upd (upd H dx (.own x)) x (.ins C dx [])) b = some o → b ≠ x → H1 b = some o) : Same H H1 := fun b o e =>
  k b o (by rw [upd_ne (ne_of_none e nx), upd_ne (ne_of_none e nd)]; exact e) (ne_of_none e nx)
end L2

section
set_option Elab.async false
set_option linter.all false
set_option maxRecDepth 100000
set_option maxHeartbeats 2000000
namespace L2
open PySem PySem.Spec PyProof.Rows
open PySem.W (WData Codec OpenSpec Well WellAll ReadsW ReadsAllW)
mutual
inductive Dw (K : PySem.W.Frag) (H : Hp) : V → WData → Prop
  | non : Dw K H .non .none
  | bl (b : Bool) : Dw K H (.bl b) (.bool b)
  | int (i : Int) : Dw K H (.int i) (.int i)
  | str (x : Str) : Dw K H (.str x) (.str x)
  | byt (b : Array UInt8) : Dw K H (.byt b) (.bytes b.toList)
  | lst {a : Addr} {xs : List V} {ds : List WData} : SqL K H a xs → DwAll K H xs ds → Dw K H (.ref a) (.list ds)
  | tup {a : Addr} {xs : List V} {ds : List WData} : SqT K H a xs → DwAll K H xs ds → Dw K H (.ref a) (.tuple ds)
inductive DwAll (K : PySem.W.Frag) (H : Hp) : List V → List WData → Prop
  | nil : DwAll K H [] []
  | cons {v : V} {vs : List V} {d : WData} {ds : List WData} : Dw K H v d → DwAll K H vs ds → DwAll K H (v :: vs) (d :: ds)
end
theorem dw_ints {K : PySem.W.Frag} {H : Hp} : ∀ ns : List Int, DwAll K H (ns.map V.int) (ns.map WData.int)
  | [] => .nil
  | n :: r => .cons (.int n) (dw_ints r)
theorem ints_dw {K : PySem.W.Frag} {H : Hp} : ∀ (ns : List Int) (xs : List V), DwAll K H xs (ns.map WData.int) → xs = ns.map V.int
  | [], xs, h => by
    cases h
    rfl
  | n :: r, xs, h => by
    cases h with
    | cons h1 h2 =>
      cases h1
      rw [ints_dw r _ h2] <;> rfl
section
variable {P : Program} {w : World} {K : PySem.W.Frag} {H : Hp} {h : Heap} {R : PySem.W.WRecords} {cl : Str → Option Addr}
theorem sqL_at {a : Addr} {xs : List V} (hok : HOk P w H h) (KX : K.In h) (q : SqL K H a xs) : ∃ (its : List Value) (o : Obj) (n : Nat), Vals xs its ∧ h.get? a = some o ∧ o.cls = .type "list" ∧ o.data = .seq its.toArray n := by
  rcases q with q | ⟨o, its, n, e, hc, _, hd, _, hv⟩
  · obtain ⟨_, its, n, hv, e⟩ := (show ObjOk P w H h a (.lst xs) from q.ok hok)
    exact ⟨its, _, n, hv, e, rfl, rfl⟩
  · exact ⟨its.toList, o, n, hv, KX _ _ e, hc, by simp [hd]⟩
theorem sqT_at {a : Addr} {xs : List V} (hok : HOk P w H h) (KX : K.In h) (q : SqT K H a xs) : ∃ (its : List Value) (o : Obj) (n : Nat), Vals xs its ∧ h.get? a = some o ∧ o.cls = .type "tuple" ∧ o.data = .seq its.toArray n := by
  rcases q with q | ⟨o, its, n, e, hc, hd, _, hv⟩
  · obtain ⟨_, its, hv, o, e, hc, n, hd⟩ := (show ObjOk P w H h a (.tup xs) from q.ok hok)
    exact ⟨its, o, n, hv, e, hc, hd⟩
  · exact ⟨its.toList, o, n, hv, KX _ _ e, hc, by simp [hd]⟩
mutual
theorem Dw.reads (hok : HOk P w H h) (KX : K.In h) : ∀ (d : WData) (v : V) (u : Value), Dw K H v d → RelV v u → ∃ as, ReadsW R cl h u d as
  | .none, _, _, x, r => by
    cases x
    cases r
    exact ⟨_, ReadsW.none⟩
  | .bool b, _, _, x, r => by
    cases x
    cases r
    exact ⟨_, ReadsW.bool b⟩
  | .int i, _, _, x, r => by
    cases x
    obtain ⟨t, rfl⟩ := r
    exact ⟨_, ReadsW.int i t⟩
  | .str s, _, _, x, r => by
    cases x
    obtain ⟨t, rfl⟩ := r
    exact ⟨_, ReadsW.str s t⟩
  | .bytes b, _, _, x, r => by
    cases x
    obtain ⟨t, rfl⟩ := r
    exact ⟨_, ReadsW.bytes _ t⟩
  | .list ds, _, _, x, r => by
    cases x with
    | lst hs ha =>
      cases r
      obtain ⟨its, o, n, rv, ho, hc, hd⟩ := sqL_at hok KX hs
      obtain ⟨as, hr⟩ := Dw.readsAll hok KX ds _ its ha rv
      exact ⟨_, ReadsW.list ho hc hd hr⟩
  | .tuple ds, _, _, x, r => by
    cases x with
    | tup hs ha =>
      cases r
      obtain ⟨its, o, n, rv, ho, hc, hd⟩ := sqT_at hok KX hs
      obtain ⟨as, hr⟩ := Dw.readsAll hok KX ds _ its ha rv
      exact ⟨_, ReadsW.tuple ho hc hd hr⟩
  | .float _, _, _, x, _ => by cases x
  | .dict _, _, _, x, _ => by cases x
  | .bytearray _, _, _, x, _ => by cases x
  | .set _, _, _, x, _ => by cases x
  | .frozenset _, _, _, x, _ => by cases x
  | .obj _ _, _, _, x, _ => by cases x
theorem Dw.readsAll (hok : HOk P w H h) (KX : K.In h) : ∀ (ds : List WData) (vs : List V) (us : List Value), DwAll K H vs ds → Vals vs us → ∃ as, ReadsAllW R cl h us ds as
  | [], _, _, x, r => by
    cases x
    cases r
    exact ⟨_, ReadsAllW.nil⟩
  | d :: ds, _, _, x, r => by
    cases x with
    | cons h1 h2 =>
      cases r with
      | cons r1 r2 =>
        obtain ⟨as, q1⟩ := Dw.reads hok KX d _ _ h1 r1
        obtain ⟨bs, q2⟩ := Dw.readsAll hok KX ds _ _ h2 r2
        exact ⟨_, ReadsAllW.cons q1 q2⟩
end
end
mutual
def plW : WData → Bool
  | .none => true
  | .bool _ => true
  | .int _ => true
  | .str _ => true
  | .bytes _ => true
  | .list xs => plWs xs
  | .tuple xs => plWs xs
  | _ => false
def plWs : List WData → Bool
  | [] => true
  | x :: r => plW x && plWs r
end
theorem plWs_map {α : Type} {f : α → WData} (h : ∀ a, plW (f a) = true) : ∀ l : List α, plWs (l.map f) = true
  | [] => rfl
  | x :: r => by
    show (plW (f x) && plWs (r.map f)) = true
    rw [h x, plWs_map h r] <;> rfl
theorem pl_enc : ∀ (c : Codec) (a : c.denote), plW (c.enc a) = true
  | .unit, _ => rfl
  | .bool, _ => rfl
  | .int _ _, _ => rfl
  | .nat _ _, _ => rfl
  | .u8, _ => rfl
  | .bytes _ _, _ => rfl
  | .text _ _ _ _, _ => rfl
  | .list _ _ c, a => plWs_map (fun x => pl_enc c x) a
  | .pair c d, a => by
    show (plW (c.enc a.1) && (plW (d.enc a.2) && true)) = true
    rw [pl_enc c a.1, pl_enc d a.2] <;> rfl
  | .triple c d e, a => by
    show (plW (c.enc a.1) && (plW (d.enc a.2.1) && (plW (e.enc a.2.2) && true))) = true
    rw [pl_enc c a.1, pl_enc d a.2.1, pl_enc e a.2.2] <;> rfl
  | .option c, none => rfl
  | .option c, some x => pl_enc c x
theorem pl_encAll : ∀ (cs : List Codec) (a : Codec.denoteAll cs), plWs (Codec.encAll cs a) = true
  | [], _ => rfl
  | c :: cs, a => by
    show (plW (c.enc a.1) && plWs (Codec.encAll cs a.2)) = true
    rw [pl_enc c a.1, pl_encAll cs a.2] <;> rfl
theorem weight_mem : ∀ {xs : List WData} {d : WData}, d ∈ xs → d.weight ≤ WData.weightAll xs
  | [], d, h => absurd h (by simp)
  | x :: r, d, h => by
    show d.weight ≤ x.weight + 1 + WData.weightAll r
    rcases List.mem_cons.mp h with e | m
    · rw [e]
      omega
    · have z := weight_mem m
      omega
def toV : Value → V
  | .none => .non
  | .bool b => .bl b
  | .int i _ => .int i
  | .str x _ => .str x
  | .bytes b _ => .byt b
  | .ref a => .ref a
  | _ => .non
def OkU (A : List Addr) : Value → Prop
  | .none => True
  | .bool _ => True
  | .int _ _ => True
  | .str _ _ => True
  | .bytes _ _ => True
  | .ref a => a ∈ A
  | _ => False
theorem OkU.mono {A B : List Addr} (h : ∀ a ∈ A, a ∈ B) : ∀ {u : Value}, OkU A u → OkU B u := fun {u} x => by
  cases u with
  | ref a => exact h a x
  | none => trivial
  | bool b => trivial
  | int i t => trivial
  | str s t => trivial
  | bytes b t => trivial
  | _ => exact False.elim x
theorem relV_toV {A : List Addr} {u : Value} (x : OkU A u) : RelV (toV u) u := by
  cases u with
  | ref a => rfl
  | none => rfl
  | bool b => rfl
  | int i t => exact ⟨t, rfl⟩
  | str s t => exact ⟨t, rfl⟩
  | bytes b t => exact ⟨t, rfl⟩
  | _ => exact False.elim x
theorem vals_toV {A : List Addr} : ∀ {vs : List Value}, (∀ u ∈ vs, OkU A u) → Vals (vs.map toV) vs
  | [], _ => .nil
  | u :: r, h => .cons (relV_toV (h u (List.mem_cons_self ..))) (vals_toV fun x hx => h x (List.mem_cons_of_mem _ hx))
def ArgOb (h : Heap) (A : List Addr) (a : Addr) : Prop := ∃ vs : List Value, vs.length ≤ sizeLine ∧ (∀ u ∈ vs, OkU A u) ∧
  (h.get? a = some { cls := .type "list", data := .seq vs.toArray } ∨ h.get? a = some { cls := .type "tuple", data := .seq vs.toArray })
theorem ArgOb.mono {h : Heap} {A B : List Addr} {a : Addr} (k : ∀ a ∈ A, a ∈ B) (x : ArgOb h A a) : ArgOb h B a := by
  obtain ⟨vs, h1, h2, h3⟩ := x
  exact ⟨vs, h1, fun u hu => (h2 u hu).mono k, h3⟩
theorem wellAll_len {P : Params} {h : Heap} : ∀ {vs : List Value} {ds : List WData}, WellAll P h vs ds → vs.length = ds.length
  | _, _, .nil => rfl
  | _, _, .cons _ b => by
    show _ + 1 = _ + 1
    rw [wellAll_len b]
theorem well_list {P : Params} {h : Heap} {v : Value} {ds : List WData} (x : Well P h v (.list ds)) : ∃ (a : Addr) (vs : List Value), v = .ref a ∧ h.get? a = some { cls := .type "list", data := .seq vs.toArray } ∧ WellAll P h vs ds := by
  cases x with
  | list ho hall => exact ⟨_, _, rfl, ho, hall⟩
theorem well_tuple {P : Params} {h : Heap} {v : Value} {ds : List WData} (x : Well P h v (.tuple ds)) : ∃ (a : Addr) (vs : List Value), v = .ref a ∧ h.get? a = some { cls := .type "tuple", data := .seq vs.toArray } ∧ WellAll P h vs ds := by
  cases x with
  | tuple ho hall => exact ⟨_, _, rfl, ho, hall⟩
theorem well_cons {P : Params} {h : Heap} {us : List Value} {d : WData} {ds : List WData} (x : WellAll P h us (d :: ds)) : ∃ (v : Value) (vs : List Value), us = v :: vs ∧ Well P h v d ∧ WellAll P h vs ds := by
  cases x with
  | cons a b => exact ⟨_, _, rfl, a, b⟩
theorem line_of {n : Nat} (h : n ≤ 1048576) : n ≤ sizeLine := Nat.le_trans h (by decide)
section
variable {P : Params} {h : Heap}
mutual
theorem area_one : ∀ (d : WData) (v : Value), Well P h v d → plW d = true → d.weight ≤ 1048576 → ∃ A : List Addr, OkU A v ∧ ∀ a ∈ A, ArgOb h A a
  | .none, _, x, _, _ => by
    cases x
    exact ⟨[], trivial, fun a m => absurd m (by simp)⟩
  | .bool b, _, x, _, _ => by
    cases x
    exact ⟨[], trivial, fun a m => absurd m (by simp)⟩
  | .int i, _, x, _, _ => by
    cases x
    exact ⟨[], trivial, fun a m => absurd m (by simp)⟩
  | .str s, _, x, _, _ => by
    cases x
    exact ⟨[], trivial, fun a m => absurd m (by simp)⟩
  | .bytes b, _, x, _, _ => by
    cases x
    exact ⟨[], trivial, fun a m => absurd m (by simp)⟩
  | .list ds, _, x, p, z => by
    obtain ⟨a, vs, rfl, ho, hall⟩ := well_list x
    have z2 : WData.weightAll ds ≤ 1048576 := z
    obtain ⟨A, h1, h2⟩ := area_all ds _ hall p fun d hd => Nat.le_trans (weight_mem hd) z2
    have k : ∀ b ∈ A, b ∈ a :: A := fun b hb => List.mem_cons_of_mem _ hb
    refine ⟨a :: A, List.mem_cons_self .., fun b hb => ?_⟩
    rcases List.mem_cons.mp hb with e | m
    · rw [e]
      exact ⟨vs, line_of (by rw [wellAll_len hall]; exact Nat.le_trans (PySem.W.length_le_weightAllW ds) z2), fun u hu => (h1 u hu).mono k, .inl ho⟩
    · exact (h2 b m).mono k
  | .tuple ds, _, x, p, z => by
    obtain ⟨a, vs, rfl, ho, hall⟩ := well_tuple x
    have z2 : WData.weightAll ds ≤ 1048576 := z
    obtain ⟨A, h1, h2⟩ := area_all ds _ hall p fun d hd => Nat.le_trans (weight_mem hd) z2
    have k : ∀ b ∈ A, b ∈ a :: A := fun b hb => List.mem_cons_of_mem _ hb
    refine ⟨a :: A, List.mem_cons_self .., fun b hb => ?_⟩
    rcases List.mem_cons.mp hb with e | m
    · rw [e]
      exact ⟨vs, line_of (by rw [wellAll_len hall]; exact Nat.le_trans (PySem.W.length_le_weightAllW ds) z2), fun u hu => (h1 u hu).mono k, .inr ho⟩
    · exact (h2 b m).mono k
  | .float _, _, _, p, _ => Bool.noConfusion (show false = true from p)
  | .dict _, _, _, p, _ => Bool.noConfusion (show false = true from p)
  | .bytearray _, _, _, p, _ => Bool.noConfusion (show false = true from p)
  | .set _, _, _, p, _ => Bool.noConfusion (show false = true from p)
  | .frozenset _, _, _, p, _ => Bool.noConfusion (show false = true from p)
  | .obj _ _, _, _, p, _ => Bool.noConfusion (show false = true from p)
theorem area_all : ∀ (ds : List WData) (vs : List Value), WellAll P h vs ds → plWs ds = true → (∀ d ∈ ds, d.weight ≤ 1048576) → ∃ A : List Addr, (∀ u ∈ vs, OkU A u) ∧ ∀ a ∈ A, ArgOb h A a
  | [], _, x, _, _ => by
    cases x
    exact ⟨[], fun u m => absurd m (by simp), fun a m => absurd m (by simp)⟩
  | d :: ds, _, x, p, z => by
    obtain ⟨v, vs, rfl, x1, x2⟩ := well_cons x
    have q : plW d = true ∧ plWs ds = true := Bool.and_eq_true_iff.mp p
    obtain ⟨A, a1, a2⟩ := area_one d v x1 q.1 (z d (List.mem_cons_self ..))
    obtain ⟨B, b1, b2⟩ := area_all ds vs x2 q.2 fun e he => z e (List.mem_cons_of_mem _ he)
    have kA : ∀ b ∈ A, b ∈ A ++ B := fun b hb => List.mem_append.mpr (.inl hb)
    have kB : ∀ b ∈ B, b ∈ A ++ B := fun b hb => List.mem_append.mpr (.inr hb)
    refine ⟨A ++ B, fun u hu => ?_, fun b hb => ?_⟩
    · rcases List.mem_cons.mp hu with e | m
      · rw [e]
        exact a1.mono kA
      · exact (b1 u m).mono kB
    · rcases List.mem_append.mp hb with m | m
      · exact (a2 b m).mono kA
      · exact (b2 b m).mono kB
end
end
def hoOf (o : Obj) : Option HO := match o.data with
  | .seq vs _ => if (o.cls == Value.type "list") = true then some (.frz o (.lst (vs.toList.map toV))) else some (.frz o (.tup (vs.toList.map toV)))
  | _ => none
def argH (K : PySem.W.Frag) (h : Heap) (A : List Addr) : Hp := fun b => if b ∈ A then (if (K.lookup b).isNone = true then (h.get? b).bind hoOf else none) else none
def OnlyF (H : Hp) : Prop := ∀ b, H b = none ∨ ∃ o u, H b = some (.frz o u)
theorem hoOf_lst (vs : List Value) : hoOf { cls := .type "list", data := .seq vs.toArray } = some (.frz { cls := .type "list", data := .seq vs.toArray } (.lst (vs.map toV))) := by
  show (if (Value.type "list" == Value.type "list") = true then some (HO.frz { cls := .type "list", data := .seq vs.toArray } (.lst (vs.toArray.toList.map toV))) else some (HO.frz { cls := .type "list", data := .seq vs.toArray } (.tup (vs.toArray.toList.map toV)))) = _
  rw [if_pos (beq_self_eq_true _)]
theorem hoOf_tup (vs : List Value) : hoOf { cls := .type "tuple", data := .seq vs.toArray } = some (.frz { cls := .type "tuple", data := .seq vs.toArray } (.tup (vs.map toV))) := by
  show (if (Value.type "tuple" == Value.type "list") = true then some (HO.frz { cls := .type "tuple", data := .seq vs.toArray } (.lst (vs.toArray.toList.map toV))) else some (HO.frz { cls := .type "tuple", data := .seq vs.toArray } (.tup (vs.toArray.toList.map toV)))) = _
  rw [if_neg (by decide)]
section
variable {P : Program} {w : World} {K : PySem.W.Frag} {h : Heap} {A : List Addr}
theorem argH_at {b : Addr} {o : Obj} (hb : b ∈ A) (hk : K.lookup b = none) (e : h.get? b = some o) : argH K h A b = hoOf o := by
  unfold argH
  rw [if_pos hb, hk, if_pos (show (none : Option Obj).isNone = true from rfl), e] <;> rfl
theorem of_argH {b : Addr} {u : HO} (q : argH K h A b = some u) : b ∈ A ∧ K.lookup b = none := by
  unfold argH at q
  by_cases hb : b ∈ A
  · rw [if_pos hb] at q
    cases hk : K.lookup b with
    | none => exact ⟨hb, rfl⟩
    | some o =>
      rw [hk, if_neg (by simp)] at q
      cases q
  · rw [if_neg hb] at q
    cases q
theorem argH_is (ar : ∀ a ∈ A, ArgOb h A a) {b : Addr} {u : HO} (q : argH K h A b = some u) : K.lookup b = none ∧ ∃ vs : List Value, vs.length ≤ sizeLine ∧ (∀ u ∈ vs, OkU A u) ∧
    ((h.get? b = some { cls := .type "list", data := .seq vs.toArray } ∧ u = .frz { cls := .type "list", data := .seq vs.toArray } (.lst (vs.map toV))) ∨
     (h.get? b = some { cls := .type "tuple", data := .seq vs.toArray } ∧ u = .frz { cls := .type "tuple", data := .seq vs.toArray } (.tup (vs.map toV)))) := by
  obtain ⟨hb, hk⟩ := of_argH q
  obtain ⟨vs, h1, h2, h3⟩ := ar b hb
  refine ⟨hk, vs, h1, h2, ?_⟩
  rcases h3 with e | e
  · rw [argH_at hb hk e, hoOf_lst] at q
    exact .inl ⟨e, (Option.some.inj q).symm⟩
  · rw [argH_at hb hk e, hoOf_tup] at q
    exact .inr ⟨e, (Option.some.inj q).symm⟩
theorem argH_only (ar : ∀ a ∈ A, ArgOb h A a) : OnlyF (argH K h A) := fun b => by
  cases q : argH K h A b with
  | none => exact .inl rfl
  | some u =>
    obtain ⟨_, vs, _, _, ⟨_, e⟩ | ⟨_, e⟩⟩ := argH_is ar q
    · exact .inr ⟨_, _, by rw [e]⟩
    · exact .inr ⟨_, _, by rw [e]⟩
theorem argH_ok (ar : ∀ a ∈ A, ArgOb h A a) : HOk P w (argH K h A) h := fun b u q => by
  obtain ⟨_, vs, h1, h2, ⟨e, rfl⟩ | ⟨e, rfl⟩⟩ := argH_is ar q
  · exact ⟨e, by rw [List.length_map]; exact h1, vs, _, vals_toV h2, e⟩
  · exact ⟨e, by rw [List.length_map]; exact h1, vs, vals_toV h2, _, e, rfl, _, rfl⟩
theorem seq_inj {c c' : Value} {vs us : List Value} (e : (some { cls := c, data := .seq vs.toArray } : Option Obj) = some { cls := c', data := .seq us.toArray }) : c = c' ∧ vs = us := by
  have e1 := Option.some.inj e
  have e2 : c = c' := congrArg Obj.cls e1
  have e3 : Data.seq vs.toArray = Data.seq us.toArray := congrArg Obj.data e1
  injection e3 with e4
  refine ⟨e2, ?_⟩
  have e5 := congrArg Array.toList e4
  simpa using e5
theorem argL (KX : K.In h) (ar : ∀ a ∈ A, ArgOb h A a) {a : Addr} {vs : List Value} (ha : a ∈ A) (e : h.get? a = some { cls := .type "list", data := .seq vs.toArray }) : (∀ u ∈ vs, OkU A u) ∧ SqL K (argH K h A) a (vs.map toV) := by
  obtain ⟨us, h1, h2, h3⟩ := ar a ha
  have hu : us = vs := by
    rcases h3 with q | q
    · rw [e] at q
      exact (seq_inj q).2.symm
    · rw [e] at q
      exact absurd (Value.type.inj (seq_inj q).1) (by decide)
  subst hu
  refine ⟨h2, ?_⟩
  cases hk : K.lookup a with
  | none => exact .inl (.inr ⟨_, by rw [argH_at ha hk e, hoOf_lst]⟩)
  | some o =>
    have e2 := KX a o hk
    rw [e] at e2
    obtain rfl := Option.some.inj e2
    exact .inr ⟨_, us.toArray, _, hk, rfl, rfl, rfl, by rw [List.size_toArray]; exact h1, by simpa using vals_toV h2⟩
theorem argT (KX : K.In h) (ar : ∀ a ∈ A, ArgOb h A a) {a : Addr} {vs : List Value} (ha : a ∈ A) (e : h.get? a = some { cls := .type "tuple", data := .seq vs.toArray }) : (∀ u ∈ vs, OkU A u) ∧ SqT K (argH K h A) a (vs.map toV) := by
  obtain ⟨us, h1, h2, h3⟩ := ar a ha
  have hu : us = vs := by
    rcases h3 with q | q
    · rw [e] at q
      exact absurd (Value.type.inj (seq_inj q).1) (by decide)
    · rw [e] at q
      exact (seq_inj q).2.symm
  subst hu
  refine ⟨h2, ?_⟩
  cases hk : K.lookup a with
  | none => exact .inl (.inr ⟨_, by rw [argH_at ha hk e, hoOf_tup]⟩)
  | some o =>
    have e2 := KX a o hk
    rw [e] at e2
    obtain rfl := Option.some.inj e2
    exact .inr ⟨_, us.toArray, _, hk, rfl, rfl, by rw [List.size_toArray]; exact h1, by simpa using vals_toV h2⟩
mutual
theorem dw_one {Pm : Params} (KX : K.In h) (ar : ∀ a ∈ A, ArgOb h A a) : ∀ (d : WData) (v : Value), Well Pm h v d → plW d = true → OkU A v → Dw K (argH K h A) (toV v) d
  | .none, _, x, _, _ => by
    cases x
    exact .non
  | .bool b, _, x, _, _ => by
    cases x
    exact .bl b
  | .int i, _, x, _, _ => by
    cases x
    exact .int i
  | .str s, _, x, _, _ => by
    cases x
    exact .str s
  | .bytes b, _, x, _, _ => by
    cases x
    have z := Dw.byt (K := K) (H := argH K h A) b.toArray
    exact z
  | .list ds, _, x, p, hu => by
    obtain ⟨a, vs, rfl, ho, hall⟩ := well_list x
    obtain ⟨h2, hs⟩ := argL KX ar hu ho
    exact .lst hs (dw_all KX ar ds _ hall p h2)
  | .tuple ds, _, x, p, hu => by
    obtain ⟨a, vs, rfl, ho, hall⟩ := well_tuple x
    obtain ⟨h2, hs⟩ := argT KX ar hu ho
    exact .tup hs (dw_all KX ar ds _ hall p h2)
  | .float _, _, _, p, _ => Bool.noConfusion (show false = true from p)
  | .dict _, _, _, p, _ => Bool.noConfusion (show false = true from p)
  | .bytearray _, _, _, p, _ => Bool.noConfusion (show false = true from p)
  | .set _, _, _, p, _ => Bool.noConfusion (show false = true from p)
  | .frozenset _, _, _, p, _ => Bool.noConfusion (show false = true from p)
  | .obj _ _, _, _, p, _ => Bool.noConfusion (show false = true from p)
theorem dw_all {Pm : Params} (KX : K.In h) (ar : ∀ a ∈ A, ArgOb h A a) : ∀ (ds : List WData) (vs : List Value), WellAll Pm h vs ds → plWs ds = true → (∀ u ∈ vs, OkU A u) → DwAll K (argH K h A) (vs.map toV) ds
  | [], _, x, _, _ => by
    cases x
    exact .nil
  | d :: ds, _, x, p, hu => by
    obtain ⟨v, vs, rfl, x1, x2⟩ := well_cons x
    have q : plW d = true ∧ plWs ds = true := Bool.and_eq_true_iff.mp p
    exact .cons (dw_one KX ar d v x1 q.1 (hu _ (List.mem_cons_self ..))) (dw_all KX ar ds vs x2 q.2 fun u m => hu u (List.mem_cons_of_mem _ m))
end
end
theorem spec_call {P : Program} {w : World} {K : PySem.W.Frag} {mg mb : Str → Option Value} {CX : CXT} {k : Nat} {fa : Addr} {fd : FuncData} {ps : List Str} {sp : Sp} {s₁ : Shared} {vals : List Value} {ds : List WData} {R : PySem.W.WRecords} {cl : Str → Option Addr} {d0 : WData}
    (KX : K.In s₁.heap) (hns : s₁.heap.Ns mainGlobals mg) (hb : s₁.heap.Ns builtinsNs mb) (hbb : ∀ x : Str, x ≠ "__name__" → mb x = bootBuiltins x) (hlim : s₁.heap.NoLimit) (hg : s₁.gens = #[])
    (hwl : WellAll w.params s₁.heap vals ds) (hpl : plWs ds = true) (hwt : ∀ d ∈ ds, d.weight ≤ 1048576) (hr : Room k callerA)
    (F : ∀ base : Heap, K.In base → base.Ns mainGlobals mg → FnOk P w K mg base CX k fa fd ps sp) (hbind : ∀ (s : Shared) (us : List Value), us.length = ps.length → BindsTo s fd ⟨us, []⟩ (ps.zip us)) (hlen : ds.length = ps.length)
    (hsp : ∀ (H : Hp) (xs : List V), OnlyF H → DwAll K H xs ds → sp xs H (fun v H' => Dw K H' v d0) fun _ _ _ => False)
    (hCX : ∀ H e s', CX [] H s₁ (fun _ _ _ => False) e s' → False) :
    codeAny (model P w) callerA (.call (.ref fa) ⟨vals, []⟩) (fun r s' => ∃ u as, r = .ok (.ret u) ∧ ReadsW R cl s'.heap u d0 as ∧ OldK s₁.heap s'.heap ∧ s'.os = s₁.os ∧ AllBare s'.gens) s₁ := by
  obtain ⟨A, ho, ar⟩ := area_all ds vals hwl hpl hwt
  have hO : OnlyF (argH K s₁.heap A) := argH_only ar
  have hok : HOk P w (argH K s₁.heap A) s₁.heap := argH_ok ar
  have hS := dw_all KX ar ds vals hwl hpl ho
  have hV := vals_toV ho
  have hK : ∀ b u, argH K s₁.heap A b = some u → K.lookup b = none := fun b u q => (argH_is ar q).1
  have noA : ∀ {b : Addr} {o : Obj} {es : Array DictEntry} {ep : Nat}, s₁.heap.get? b = some o → o.data = .dict es ep → argH K s₁.heap A b = none := fun {b o es ep} e d => by
    cases q : argH K s₁.heap A b with
    | none => rfl
    | some u =>
      obtain ⟨_, vs, _, _, ⟨e2, _⟩ | ⟨e2, _⟩⟩ := argH_is ar q
      · rw [e2] at e
        cases e
        have d' : Data.seq vs.toArray _ = Data.dict es ep := d
        cases d'
      · rw [e2] at e
        cases e
        have d' : Data.seq vs.toArray _ = Data.dict es ep := d
        cases d'
  generalize argH K s₁.heap A = H at hO hok hS hK noA
  have base_of : ∀ {b : Addr} {o : Obj}, s₁.heap.get? b = some o → H b = none → (hidT s₁.heap H).get? b = some o := fun e n => hidT_get e n
  have nsK : ∀ {b : Addr} {m : Str → Option Value}, s₁.heap.Ns b m → (hidT s₁.heap H).Ns b m := fun {b m} ⟨o, es, ep, e, d, r⟩ => ⟨o, es, ep, base_of e (noA e d), d, r⟩
  have nK : ∀ b o, K.lookup b = some o → H b = none := fun b o e => by
    cases q : H b with
    | none => rfl
    | some u =>
      rw [hK b u q] at e
      cases e
  have hKb : K.In (hidT s₁.heap H) := fun b o e => base_of (KX b o e) (nK b o e)
  have hM : Mod K mg (hidT s₁.heap H) := ⟨hKb, nsK hns, ⟨mb, nsK hb, hbb⟩, let ⟨mc, h1, h2⟩ := hlim; ⟨mc, nsK h1, h2⟩⟩
  have e0 : Env0 P w K mg (hidT s₁.heap H) callerA [] s₁ H := ⟨rfl, hM, fun b o e => of_hidT e, Nat.le_of_eq (hidT_size _ _), trivial, fun b hb => absurd (show b ∈ ([] : List Addr) from hb) (by simp), hok, .of_eq hg⟩
  have hl : vals.length = ps.length := by rw [wellAll_len hwl]; exact hlen
  refine codeAny_mono ((F _ hKb (nsK hns)).run callerA [] s₁ H ⟨vals, []⟩ vals (vals.map toV) _ _ hr e0 (hbind s₁ vals hl) hV (hsp H _ hO hS)) fun r s' x => ?_
  cases r with
  | error e => exact (hCX H e s' x).elim
  | ok fl =>
    cases fl with
    | next => exact False.elim x
    | brk => exact False.elim x
    | cont => exact False.elim x
    | ret u =>
      obtain ⟨v, H', os, bare, un, hok', r', q⟩ := x
      have kept : ∀ b o, s₁.heap.get? b = some o → s'.heap.get? b = some o := fun b o e => by
        cases q2 : H b with
        | none => exact un.keep b o e q2 (by intro z; exact absurd (show b ∈ ([] : List Addr) from z) (by simp)) (by simp)
        | some u2 =>
          rcases hO b with z | ⟨ob, u3, z⟩
          · rw [q2] at z
            cases z
          · have z2 := un.frzs b ob _ z
            obtain ⟨e1, _⟩ := hok b _ z
            obtain ⟨e2, _⟩ := hok' b _ z2
            rw [e] at e1
            cases e1
            exact e2
      have KX' : K.In s'.heap := fun b o e => kept b o (KX b o e)
      obtain ⟨as, hrd⟩ := Dw.reads (R := R) (cl := cl) hok' KX' d0 v u q r'
      exact ⟨u, as, rfl, hrd, OldK.of_keep kept, os, bare⟩
theorem layable_weight {ds : List WData} (h : WData.layableAll ds = true) : ∀ d ∈ ds, d.weight ≤ 1048576 := fun d hd =>
  (PySem.W.layableW_iff.mp (List.all_eq_true.mp h d hd)).2.2
theorem encAll_len : ∀ (cs : List Codec) (a : Codec.denoteAll cs), (Codec.encAll cs a).length = cs.length
  | [], _ => rfl
  | c :: cs, a => by
    show (Codec.encAll cs a.2).length + 1 = cs.length + 1
    rw [encAll_len cs a.2]
theorem walk_spec {r : OpenSpec} {k : Nat} {q : Program} {loose : List Str} {XP : (Str → Option Value) → Heap → Prop} {YP : World → Heap → Prop} {d : DefRec} {K : Params → PySem.W.Frag} {CX : World → CXT} {ps : List Str} {sp : World → Sp}
    (hwell : r.wellSaid = true) (hdf : d.params.defaults = []) (hlen : r.args.length = ps.length) (hr : Room k callerA)
    (hY : ∀ (w : World) (h : Heap), YP w h → (K w.params).In h)
    (F : ∀ (w : World) (mg : Str → Option Value) (fa : Addr) (h : Heap), YP w h → (K w.params).In h → h.Ns mainGlobals mg → mg d.name = some (.ref fa) →
      ∃ fd : FuncData, (∀ (s : Shared) (us : List Value), us.length = ps.length → BindsTo s fd ⟨us, []⟩ (ps.zip us)) ∧
        ∀ base : Heap, (K w.params).In base → base.Ns mainGlobals mg → FnOk r.prog w (K w.params) mg base (CX w) k fa fd ps (sp w))
    (hsp : ∀ (w : World) (H : Hp) (xs : List V) (a : Codec.denoteAll r.args), OnlyF H → Codec.withinAll r.args a = true → Codec.app r.args r.asked a = true → DwAll (K w.params) H xs (Codec.encAll r.args a) →
      sp w xs H (fun v H' => Dw (K w.params) H' v (r.ret.enc (Codec.app r.args r.f a))) fun _ _ _ => False)
    (hCX : ∀ (w : World) (H : Hp) (s : Shared) (e : Value) (s' : Shared), CX w [] H s (fun _ _ _ => False) e s' → False) :
    PySem.W.WalkOS q loose XP YP r d [] (fun f vs => PySem.call f vs) := by
  intro w s_0 s₁ mg mb G Y fa o pm cd doc dV kV ho hd hcd hD hmg hg args vals as hpre hlay hrd hwl hlo
  obtain ⟨a, e1, e2⟩ := PySem.W.os_pre_some hpre
  obtain ⟨e3, hwi⟩ := Codec.encAll_of_decAll r.args args a e1
  subst e3
  have KX := hY w _ Y
  obtain ⟨fd, hb, hF⟩ := F w mg fa _ Y KX G.T.g hmg
  refine PySem.W.enter_call (codeAny_mono (spec_call (R := []) (cl := classAt s_0.heap) (d0 := r.ret.enc (Codec.app r.args r.f a)) KX G.T.g G.T.b G.T.builtins G.T.nolimit hg hwl (pl_encAll _ _) (layable_weight hlay) hr hF hb (by rw [encAll_len]; exact hlen)
    (fun H xs hO hS => hsp w H xs a hO hwi e2 hS) fun H e s' => hCX w H s₁ e s') fun r' s' hq => ?_)
  obtain ⟨u, as', rfl, h1, h2, h3, h4⟩ := hq
  exact ⟨.inl ⟨u, _, as', rfl, fun _ => rfl, h1, (OpenSpec.post_iff hwell hwi _ _).mpr rfl, fun z => Bool.noConfusion (show false = true from z)⟩, h2, h3, h4⟩
theorem walk_specK {r : OpenSpec} {k : Nat} {q : Program} {loose : List Str} {XP : (Str → Option Value) → Heap → Prop} {YP : World → Heap → Prop} {d : DefRec} {K : Params → PySem.W.Frag} {CX : CXT} {ps : List Str} {sp : PySem.W.Frag → Sp}
    (hwell : r.wellSaid = true) (hdf : d.params.defaults = []) (hlen : r.args.length = ps.length) (hr : Room k callerA)
    (hY : ∀ (w : World) (h : Heap), YP w h → (K w.params).In h)
    (F : ∀ (w : World) (mg : Str → Option Value) (fa : Addr) (h : Heap), YP w h → (K w.params).In h → h.Ns mainGlobals mg → mg d.name = some (.ref fa) →
      ∃ fd : FuncData, (∀ (s : Shared) (us : List Value), us.length = ps.length → BindsTo s fd ⟨us, []⟩ (ps.zip us)) ∧
        ∀ base : Heap, (K w.params).In base → base.Ns mainGlobals mg → FnOk r.prog w (K w.params) mg base CX k fa fd ps (sp (K w.params)))
    (hsp : ∀ (K : PySem.W.Frag) (H : Hp) (xs : List V) (a : Codec.denoteAll r.args), OnlyF H → Codec.withinAll r.args a = true → Codec.app r.args r.asked a = true → DwAll K H xs (Codec.encAll r.args a) →
      sp K xs H (fun v H' => Dw K H' v (r.ret.enc (Codec.app r.args r.f a))) fun _ _ _ => False)
    (hCX : ∀ (H : Hp) (s : Shared) (e : Value) (s' : Shared), CX [] H s (fun _ _ _ => False) e s' → False) :
    PySem.W.WalkOS q loose XP YP r d [] (fun f vs => PySem.call f vs) :=
  walk_spec (K := K) (CX := fun _ => CX) (sp := fun w => sp (K w.params)) hwell hdf hlen hr hY F (fun w H xs a h1 h2 h3 h4 => hsp (K w.params) H xs a h1 h2 h3 h4) fun _ H s e s' => hCX H s e s'
end L2
end
set_option Elab.async false
set_option linter.all false
set_option maxRecDepth 100000
/-! Short rules over the layer: constants of the module, calls of own defs, methods and classes, each by one bundle. -/
namespace L2
open PySem PySem.Spec PyProof.Rows
section
variable {X : Cx} {x : Str} {pos p apos : Pos}
theorem pe_cint {i : Int} (hg : Gl X x) (h : ∃ t, X.mg x = some (.int i t)) (hd : (x == ("__debug__" : Str)) = false := by decide) : PE X (.Name x pos) (tC (.int i)) := by
  obtain ⟨t, h⟩ := h
  exact pe_glob hg h ⟨t, rfl⟩ hd
theorem pe_cref {a : Addr} (hg : Gl X x) (h : X.mg x = some (.ref a)) (hd : (x == ("__debug__" : Str)) = false := by decide) : PE X (.Name x pos) (tC (.ref a)) := pe_glob hg h rfl hd
end
section
variable (P : Program) (w : World) (K : PySem.W.Frag) (mg : Str → Option Value) (base : Heap)
/-- a def of the text that may be called -/
structure Callee (x : Str) (k : Nat) (ps : List Str) (sp : Sp) : Prop where
  ex : ∃ (f : Addr) (fd : FuncData), mg x = some (.ref f) ∧ PySem.W.keepIn K (.ref f) = true ∧ Binds K fd ps [] ∧ FnOk P w K mg base CX0 k f fd ps sp
/-- a method of the class at C -/
structure Method (C : Addr) (m : Str) (k : Nat) (ps : List Str) (sp : Sp) : Prop where
  cl : Cls K C
  ex : ∃ (f : Addr) (fd : FuncData), Meth K C m f ∧ Binds K fd ps [] ∧ FnOk P w K mg base CX0 k f fd ps sp
/-- a class of the text that may be made -/
structure Maker (x : Str) (C : Addr) (k : Nat) (ps : List Str) (sp : Sp) : Prop where
  ex : ∃ (f : Addr) (fd : FuncData), Mk K C f ∧ mg x = some (.ref C) ∧ Binds K fd ps [] ∧ FnOk P w K mg base CX0 k f fd ps sp
end
section
variable {X : Cx} {x m : Str} {pos p apos : Pos} {e o : Expr} {es : List Expr} {t : TA} {ta : TE} {k : Nat} {ps : List Str} {sp : Sp} {C : Addr}
theorem pe_own (c : Callee X.prog X.w X.K X.mg X.base x k ps sp) (hr : Room k X.A) (hg : Gl X x) (ha : PA X (e :: es) t)
    (hdb : (x == ("__debug__" : Str)) = false := by decide) (he : starEach (e :: es) X.env = (false, eval e X.env) :: starEach es X.env := by rfl) (hpl : (backTo pos (starEach es X.env)).any (·.1) = false := by rfl) :
    PE X (.Call (.Name x p) (e :: es) [] pos) (tCall sp [] E0 t) := by
  obtain ⟨f, fd, hm, hk, hb, F⟩ := c.ex
  exact pe_call F hr hg hm hk hb .nil pass0 ha hdb he hpl
theorem pe_own0 (c : Callee X.prog X.w X.K X.mg X.base x k ps sp) (hr : Room k X.A) (hg : Gl X x) (hdb : (x == ("__debug__" : Str)) = false := by decide) :
    PE X (.Call (.Name x p) [] [] pos) (tCall sp [] E0 tNil) := by
  obtain ⟨f, fd, hm, hk, hb, F⟩ := c.ex
  exact pe_call0 F hr hg hm hk hb .nil pass0 hdb
theorem pe_mt {pl : Sem Bool} (he : PE X o ta) (c : Method X.prog X.w X.K X.mg X.base C m k ps sp) (hr : Room k X.A) (ha : PA X (e :: es) t)
    (hst : starEach (e :: es) X.env = (false, eval e X.env) :: starEach es X.env := by rfl) (hpl : (backTo pos (starEach es X.env)).any (·.1) = false := by rfl)
    (ht : eval (.Call (.Attribute o m apos) (e :: es) [] pos) X.env = (do
      let ov ← eval o X.env
      standAt apos.atName
      let (f, first) ← holding [ov] (getMethod ov m pl)
      callWith pos f first (backTo pos (starEach (e :: es) X.env)) (backToKw pos (keywordEach [] X.env))) := by rfl) :
    PE X (.Call (.Attribute o m apos) (e :: es) [] pos) (tMeth C m sp [] E0 ta t) := by
  obtain ⟨f, fd, hm, hb, F⟩ := c.ex
  exact pe_meth he c.cl hm F hr hb .nil pass0 ha hst hpl ht
theorem pe_mt0 {pl : Sem Bool} (he : PE X o ta) (c : Method X.prog X.w X.K X.mg X.base C m k ps sp) (hr : Room k X.A)
    (ht : eval (.Call (.Attribute o m apos) [] [] pos) X.env = (do
      let ov ← eval o X.env
      standAt apos.atName
      let (f, first) ← holding [ov] (getMethod ov m pl)
      callWith pos f first (backTo pos (starEach [] X.env)) (backToKw pos (keywordEach [] X.env))) := by rfl) :
    PE X (.Call (.Attribute o m apos) [] [] pos) (tMeth C m sp [] E0 ta tNil) := by
  obtain ⟨f, fd, hm, hb, F⟩ := c.ex
  exact pe_meth0 he c.cl hm F hr hb .nil pass0 ht
theorem pe_new0 (c : Maker X.prog X.w X.K X.mg X.base x C k ps sp) (hr : Room (k + 1) X.A) (hg : Gl X x) (hdb : (x == ("__debug__" : Str)) = false := by decide) :
    PE X (.Call (.Name x p) [] [] pos) (tMake C sp [] E0 tNil) := by
  obtain ⟨f, fd, M, hm, hb, F⟩ := c.ex
  exact pe_make0 M F hr hg hm hb .nil pass0 hdb
end
section
variable {P : Program} {w : World} {K : PySem.W.Frag} {mg : Str → Option Value} {base : Heap}
theorem Callee.of {x qual : Str} {k : Nat} {ps : List Str} {sp : Sp} {st : Stmt} {f : Addr} {fd : FuncData} (F : Fun K x qual st f fd) (hm : mg x = some (.ref f)) (hb : Binds K fd ps []) (ok : FnOk P w K mg base CX0 k f fd ps sp) : Callee P w K mg base x k ps sp := ⟨⟨f, fd, hm, F.kp, hb, ok⟩⟩
end
end L2
namespace L2
open PySem PySem.Spec PyProof.Rows
/-! loops, each by its invariant; ht: what is walked, reckoned -/
theorem tFor_r2 {ta : TA} {g : TG} {tb : TS} {D : Ends} {σ : St} {H : Hp} (i j : Int) (H1 : Hp) (Pv : Nat → St → Hp → Prop) (ht : ∀ Q : List V → Hp → Prop, Q [.int i, .int j] H1 → ta σ H Q) (hb : -(2 ^ 62) ≤ i ∧ i < 2 ^ 62 ∧ -(2 ^ 62) ≤ j ∧ j < 2 ^ 62)
    (h0 : Pv 0 σ H1) (hs : ∀ (k : Nat) σ H, k < (j - i).toNat → Pv k σ H → g (.int (i + k)) σ H fun σ2 H2 => tb { D with nx := Pv (k + 1), ct := Pv (k + 1), bk := D.nx } σ2 H2) (hd : ∀ σ H, Pv (j - i).toNat σ H → D.nx σ H) : tFor (iRng2 ta) g tb D σ H :=
  ht _ ⟨i, j, rfl, hb, for_range Pv h0 hs hd⟩
theorem tFor_r1 {ta : TA} {g : TG} {tb : TS} {D : Ends} {σ : St} {H : Hp} (j : Int) (H1 : Hp) (Pv : Nat → St → Hp → Prop) (ht : ∀ Q : List V → Hp → Prop, Q [.int j] H1 → ta σ H Q) (hb : -(2 ^ 62) ≤ j ∧ j < 2 ^ 62)
    (h0 : Pv 0 σ H1) (hs : ∀ (k : Nat) σ H, k < j.toNat → Pv k σ H → g (.int (0 + k)) σ H fun σ2 H2 => tb { D with nx := Pv (k + 1), ct := Pv (k + 1), bk := D.nx } σ2 H2) (hd : ∀ σ H, Pv j.toNat σ H → D.nx σ H) : tFor (iRng1 ta) g tb D σ H :=
  ht _ ⟨j, rfl, hb.1, hb.2, for_range Pv h0 hs hd⟩
theorem tFor_l {K : PySem.W.Frag} {tl : TE} {g : TG} {tb : TS} {D : Ends} {σ : St} {H : Hp} (a : Addr) (xs : List V) (H1 : Hp) (Pv : Nat → St → Hp → Prop) (ht : ∀ Q : V → Hp → Prop, Q (.ref a) H1 → tl σ H Q)
    (h0 : Pv 0 σ H1) (hl : ∀ i σ H, i ≤ xs.length → Pv i σ H → SqL K H a xs) (hs : ∀ i x σ H, xs[i]? = some x → Pv i σ H → g x σ H fun σ2 H2 => tb { D with nx := Pv (i + 1), ct := Pv (i + 1), bk := D.nx } σ2 H2) (hd : ∀ σ H, Pv xs.length σ H → D.nx σ H) : tFor (iList K tl) g tb D σ H :=
  ht _ ⟨a, rfl, ⟨xs, hl 0 σ H1 (Nat.zero_le _) h0⟩, for_list Pv h0 hl hs hd⟩
theorem take_snoc {α : Type} : ∀ {l : List α} {i : Nat} {x : α}, l[i]? = some x → l.take (i + 1) = l.take i ++ [x]
  | [], i, x, h => by simp at h
  | a :: l, 0, x, h => by
    have e : a = x := Option.some.inj h
    subst e
    rfl
  | a :: l, i + 1, x, h => by
    have ih := take_snoc (l := l) (i := i) (x := x) h
    show a :: l.take (i + 1) = a :: l.take i ++ [x]
    rw [ih]
    rfl
theorem Same.upd {H H' : Hp} (e : Same H H') {l : Addr} {o : HO} (h : H l = none) : Same H (L2.upd H' l o) := fun b u q => by
  rw [upd_ne (ne_of_none q h)]
  exact e b u q
theorem Same.new {H H' : Hp} (e : Same H H') {l : Addr} {o : HO} (h : H' l = none) : Same H (L2.upd H' l o) := e.upd (e.free h)
end L2
namespace L2
/-- an equation that simp leaves alone -/
inductive Is {α : Type} (a : α) : α → Prop
  | mk : Is a a
end L2
namespace L2
open PySem PySem.Spec PyProof.Rows
theorem app_do {l : Addr} {xs : List V} {y : V} {H : Hp} {Q : VK} (h : H l = some (.lst xs)) (hn : xs.length < sizeLine) (k : Q .non (upd H l (.lst (xs ++ [y])))) : rAppend (.ref l) [y] H Q := ⟨l, xs, y, rfl, rfl, h, hn, k⟩
theorem ext_do {l b : Addr} {xs zs : List V} {H : Hp} {Q : VK} (h : H l = some (.lst xs)) (hb : H b = some (.lst zs)) (hn : xs.length + zs.length ≤ sizeLine) (k : Q .non (upd H l (.lst (xs ++ zs)))) : rExtend (.ref l) [.ref b] H Q := ⟨l, b, xs, zs, rfl, rfl, h, hb, hn, k⟩
theorem cat_do {l b : Addr} {xs zs : List V} {H : Hp} {Q : VK} (h : H l = some (.lst xs)) (hb : H b = some (.lst zs)) (hn : xs.length + zs.length ≤ sizeLine) (k : ∀ p, H p = none → Q (.ref p) (upd H p (.lst (xs ++ zs)))) : rCat (.ref l) (.ref b) H Q := ⟨l, b, xs, zs, rfl, rfl, h, hb, hn, k⟩
theorem ixL_do {K : PySem.W.Frag} {p : Addr} {xs : List V} {i : Int} {j : Nat} {v : V} {H : Hp} {Q : VK} (h : SqL K H p xs) (e : i = (j : Int)) (hv : xs[j]? = some v) (k : Q v H) : rIxL K (.ref p) (.int i) H Q := ⟨p, xs, i, v, rfl, rfl, h, at_of e hv, k⟩
theorem ixT_do {K : PySem.W.Frag} {p : Addr} {xs : List V} {i : Int} {j : Nat} {v : V} {H : Hp} {Q : VK} (h : SqT K H p xs) (e : i = (j : Int)) (hv : xs[j]? = some v) (k : Q v H) : rIxT K (.ref p) (.int i) H Q := ⟨p, xs, i, v, rfl, rfl, h, at_of e hv, k⟩
end L2
namespace L2
open PySem PySem.Spec PyProof.Rows
/-! list.index where the items are data (tuples of ints, ..) -/
def rIndexD (K : PySem.W.Frag) : V → List V → Hp → VK → Prop := fun x xs H Q => ∃ (a : Addr) (ys : List V) (y : V) (ds : List PyData) (d : PyData) (j : Nat), x = V.ref a ∧ xs = [y] ∧ SqL K H a ys ∧ DpAll K H ys ds ∧ Dp K H y d ∧
  PyData.canLayAll0 ds = true ∧ d.canLay0 = true ∧ d.depth ≤ 60 ∧ (∃ e, ds[j]? = some e ∧ PyData.eqv e d = true) ∧ (∀ (m : Nat) (e : PyData), m < j → ds[m]? = some e → PyData.eqv e d = false) ∧ Q (.int (j : Nat)) H
theorem mt_indexD {X : Cx} (hu : X.A.units + 64 < cLine) : MtR X "list.index" (rIndexD X.K) := by
  intro pins s σ H x xs v us Q I rx rxs h
  obtain ⟨a, ys, y, ds, d, j, rfl, rfl, hs, hds, hd, cs, cd, dd', ⟨e, he, hej⟩, hno, q⟩ := h
  cases rx
  cases rxs with
  | cons ry rt =>
    rename_i uy ut
    cases rt
    obtain ⟨its, rv, ⟨⟨cls, dd, data, sl⟩, n, ho, hc, hdn, hdt⟩, hlen⟩ := I.list hs
    simp only at hc hdt
    subst hc hdt
    obtain ⟨as, rs⟩ := Dp.readsAll I ds ys its hds rv
    obtain ⟨bs, rx⟩ := Dp.reads I d y uy hd ry
    have em := SeqAt.readsAll_map ds its as cs rs
    have hlen2 : its.length = ds.length := by rw [← em, List.length_map]
    have hjl : j < its.length := by rw [hlen2]; exact (List.getElem?_eq_some_iff.mp he).1
    have hj : j < its.toArray.size := by simpa using hjl
    have hat : ∀ (m : Nat) (hm : m < its.length), ds[m]? = some (SeqAt.readOf s.heap its[m]) := fun m hm => by
      rw [← em, List.getElem?_map, List.getElem?_eq_getElem hm]
      rfl
    have hvl := rv.length
    have hsl := sizeLine_eq
    refine call_meets PySem.F.slot_list_index ⟨_, ho, rfl⟩ PySem.F.entry_list_index (PySem.F.args_list_index_2 _ _)
      (SeqAt.list_indexAt a its.toArray n dd sl uy (fun u => PyData.eqv (SeqAt.readOf s.heap u) d) j hj (by omega) ?_ ?_) ⟨ho, SeqAt.items_eqAt (xs := ds) (by simpa using rs) rx cs cd (Nat.lt_of_le_of_lt (Nat.add_le_add_left (Nat.min_le_right _ _) _) (by omega)), ?_⟩
    · have e1 := (hat j hjl).symm.trans he
      have e2 : SeqAt.readOf s.heap its[j] = e := Option.some.inj e1
      have e3 : its.toArray[j] = its[j] := by simp
      show PyData.eqv (SeqAt.readOf s.heap its.toArray[j]) d = true
      rw [e3, e2]
      exact hej
    · intro m hm hmj
      have hml : m < its.length := by simpa using hm
      have e3 : its.toArray[m] = its[m] := by simp
      show PyData.eqv (SeqAt.readOf s.heap its.toArray[m]) d = false
      rw [e3]
      exact hno m _ hmj (hat m hml)
    · exact ⟨.int (j : Nat), H, I.tok _, ⟨_, rfl⟩, q⟩
end L2
namespace L2
open PySem PySem.Spec PyProof.Rows
/-- o.f, o a name -/
theorem fld_do {K : PySem.W.Frag} {i : Nat} {f : Str} {σ : St} {H : Hp} {Q : VK} {a C dx : Addr} {fs : List (Str × V)} {v : V} (hs : σ[i]? = some (some (.ref a))) (h : H a = some (.ins C dx fs)) (c : Cls K C) (n : NoAttr K C f) (hv : fs.lookup f = some v) (k : Q v H) : tFld K (tVar i) f σ H Q :=
  ⟨_, hs, a, C, dx, fs, v, rfl, h, c, n, hv, k⟩
/-- o.m(..), o a name -/
theorem meth_do {C : Addr} {m : Str} {sp : Sp} {dvs : List V} {E : XK} {i : Nat} {t : TA} {σ : St} {H : Hp} {Q : VK} {a dx : Addr} {fs : List (Str × V)} (hs : σ[i]? = some (some (.ref a))) (h : H a = some (.ins C dx fs)) (n : fs.lookup m = none)
    (k : t σ H fun vs H2 => sp (.ref a :: (vs ++ dvs)) H2 Q E) : tMeth C m sp dvs E (tVar i) t σ H Q := ⟨_, hs, a, dx, fs, rfl, h, n, k⟩
end L2
set_option Elab.async false
set_option linter.all false
set_option maxRecDepth 100000
set_option maxHeartbeats 4000000
namespace L2
open PySem PySem.Spec PyProof.Rows
/-! sorted of a list of tuples of ints -/
def noT : Nat → Bool := fun _ => false
def lexI (a b : List Int) : Bool := PyProof.Rows.lexLt itemOrd (a.map Sum.inl) (b.map Sum.inl)
def rSortedT (K : PySem.W.Frag) : List V → Hp → VK → Prop := fun vs H Q => ∃ (a : Addr) (as : List Addr) (ks : Addr → List Int), vs = [V.ref a] ∧ SqL K H a (as.map V.ref) ∧ (∀ b ∈ as, H b = some (.tup ((ks b).map V.int)) ∧ ks b ≠ []) ∧
  ∀ (as' : List Addr) (p : Addr), as'.Perm as → as'.Pairwise (fun x y => lexI (ks y) (ks x) = false) → H p = none → Q (.ref p) (upd H p (.lst (as'.map V.ref)))
theorem vals_refs : ∀ {as : List Addr} {its : List Value}, Vals (as.map V.ref) its → its = as.map Value.ref
  | [], _, h => by cases h; rfl
  | a :: as, _, h => by
    cases h with
    | cons r1 r2 =>
      cases (show _ = Value.ref a from r1)
      rw [vals_refs r2]
      rfl
theorem refs_vals : ∀ (as : List Addr), Vals (as.map V.ref) (as.map Value.ref)
  | [] => .nil
  | _ :: as => .cons rfl (refs_vals as)
theorem tup_ints : ∀ {ns : List Int} {us : List Value} (i : Nat), Vals (ns.map V.int) us → tupItems noT i us = some (ns.map Sum.inl)
  | [], _, _, h => by cases h; rfl
  | n :: ns, _, i, h => by
    cases h with
    | cons r1 r2 =>
      obtain ⟨t, e⟩ := r1
      subst e
      have ih := tup_ints (i + 1) r2
      simp only [tupItems, noT, Bool.false_eq_true, if_false]
      rw [ih]
      rfl
theorem key_tup {h : Heap} {b : Addr} {us : List Value} {ns : List Int} (hb : h.IsTuple b us.toArray) (r : Vals (ns.map V.int) us) : PyProof.Rows.G.tupKeyC h noT (.ref b) = some (ns.map Sum.inl) := by
  obtain ⟨o, e, c, n, d⟩ := hb
  unfold PyProof.Rows.G.tupKeyC
  have e1 : PyProof.Rows.G.isTupObj h (.ref b) = true := by simp [PyProof.Rows.G.isTupObj, e, c]
  rw [if_pos e1]
  simp only [tupKey, e, d]
  exact tup_ints 0 r
theorem tups_ex {h : Heap} {ks : Addr → List Int} : ∀ {as : List Addr}, (∀ b ∈ as, (∃ us, h.IsTuple b us.toArray ∧ Vals ((ks b).map V.int) us) ∧ ks b ≠ []) → ∃ fs, TupsOf h noT (as.map Value.ref) fs
  | [], _ => ⟨[], .nil⟩
  | b :: as, hh => by
    obtain ⟨fs, hf⟩ := tups_ex (as := as) fun c hc => hh c (List.mem_cons_of_mem _ hc)
    obtain ⟨⟨us, ⟨o, e, c, n, d⟩, r⟩, hne⟩ := hh b List.mem_cons_self
    cases ek : ks b with
    | nil => exact absurd ek hne
    | cons k kr =>
      rw [ek] at r
      cases r with
      | cons r1 r2 =>
        obtain ⟨t, et⟩ := r1
        refine ⟨_ :: fs, .cons ⟨b, o, _, n, rfl, e, c, d, rfl, fun _ => ⟨k, t, et⟩, fun z => by cases z⟩ hf⟩
def addrOf : Value → Addr
  | .ref a => a
  | _ => 0
section
variable {X : Cx}
theorem cr_sortedT : CallR X (.builtin "sorted") (rSortedT X.K) := by
  intro pins s σ H vs us Q I r h
  obtain ⟨a, as, ks, rfl, hs, hk, q⟩ := h
  obtain ⟨its, rv, hl, hz⟩ := I.list hs
  rw [Vals.ref1 r]
  have ei := vals_refs rv
  subst ei
  have tk : ∀ b ∈ as, (∃ us, s.heap.IsTuple b us.toArray ∧ Vals ((ks b).map V.int) us) ∧ ks b ≠ [] := fun b hb => by
    obtain ⟨e, hne⟩ := hk b hb
    obtain ⟨its, rv, p, _⟩ := I.tuple (SqT.of (K := X.K) e)
    exact ⟨⟨its, p, rv⟩, hne⟩
  have kk : ∀ b ∈ as, PyProof.Rows.G.tupKeyC s.heap noT (.ref b) = some ((ks b).map Sum.inl) := fun b hb => by
    obtain ⟨⟨us, h1, h2⟩, _⟩ := tk b hb
    exact key_tup h1 h2
  obtain ⟨fs, hf⟩ := tups_ex tk
  have hlen : (as.map Value.ref).length ≤ sizeLine := by rw [List.length_map]; rw [List.length_map] at hz; exact hz
  refine PyProof.Rows.G.sorted_tups (shape := noT) hl.isList hf (fun v hv => ?_) hlen fun st' hp hs' _ => ?_
  · obtain ⟨b, hb, rfl⟩ := List.mem_map.mp hv
    exact ⟨_, kk b hb⟩
  · have hpl : (arrOf st').toList.Perm ((as.map Value.ref).zip (as.map Value.ref)) := by
      have e := Array.perm_iff_toList_perm.mp hp
      rw [pairsOf_toList] at e
      exact e
    have e2 : (((arrOf st').map (·.2)).toList) = (arrOf st').toList.map (·.2) := by simp
    have hz2 : ∀ l : List Value, (l.zip l).map (·.2) = l := fun l => by
      rw [List.map_snd_zip (Nat.le_refl _)]
    have hpo : ((arrOf st').toList.map (·.2)).Perm (as.map Value.ref) := by
      have e := hpl.map (·.2)
      rw [hz2] at e
      exact e
    have hmem : ∀ p ∈ (arrOf st').toList, ∃ b ∈ as, p.1 = Value.ref b ∧ p.2 = Value.ref b := fun p hpm => by
      obtain ⟨e, hm⟩ := mem_zip_self (hpl.mem_iff.mp hpm)
      obtain ⟨b, hb, eb⟩ := List.mem_map.mp hm
      exact ⟨b, hb, eb.symm, by first | (rw [← e]; exact eb.symm) | (rw [e]; exact eb.symm)⟩
    have hout : (arrOf st').toList.map (·.2) = (((arrOf st').toList.map (·.2)).map addrOf).map Value.ref := by
      rw [List.map_map, List.map_map]
      refine List.map_congr_left fun p hpm => ?_
      obtain ⟨b, _, _, e⟩ := hmem p hpm
      simp only [Function.comp, e, addrOf]
    have hpa : (((arrOf st').toList.map (·.2)).map addrOf).Perm as := by
      have e := hpo.map addrOf
      have e3 : (as.map Value.ref).map addrOf = as := by
        rw [List.map_map]
        exact List.map_id as
      rw [e3] at e
      exact e
    have hpw : (((arrOf st').toList.map (·.2)).map addrOf).Pairwise (fun x y => lexI (ks y) (ks x) = false) := by
      rw [List.pairwise_iff_getElem]
      intro i j hi hj hij
      simp only [List.length_map] at hi hj
      have hsz : (pairsOf (as.map Value.ref)).size = (arrOf st').toList.length := by rw [pairsOf_size, List.length_map, ← hpa.length_eq]; simp
      have hk2 := hs' i j (Nat.le_of_lt hij) (by rw [hsz]; exact hj)
      have at_ : ∀ m (hm : m < (arrOf st').toList.length), KK (PyProof.Rows.G.tupKindC s.heap noT) (arrOf st') m = (ks (addrOf ((arrOf st').toList[m]).2)).map Sum.inl := fun m hm => by
        obtain ⟨b, hb, e1, e2⟩ := hmem _ (List.getElem_mem hm)
        have e3 : (arrOf st')[m]? = some ((arrOf st').toList[m]) := by rw [← Array.getElem?_toList, List.getElem?_eq_getElem hm]
        have e4 : KK (PyProof.Rows.G.tupKindC s.heap noT) (arrOf st') m = (PyProof.Rows.G.tupKeyC s.heap noT ((arrOf st').toList[m]).1).getD [] := by unfold KK; rw [e3]
        rw [e4, e1, kk b hb, e2]
        rfl
      rw [at_ i hi, at_ j hj] at hk2
      simp only [List.getElem_map]
      exact hk2
    obtain ⟨ep, he'⟩ := PyProof.Rows.sortedAll_at s.heap (as.map Value.ref) ((arrOf st').map (·.2))
    have hlen' : ((((arrOf st').toList.map (·.2)).map addrOf).map V.ref).length ≤ sizeLine := by rw [List.length_map, hpa.length_eq]; rw [List.length_map] at hlen; exact hlen
    refine ⟨.ref _, upd H (s.heap.objs.size + 1) (.lst ((((arrOf st').toList.map (·.2)).map addrOf).map V.ref)), I.laid (t' := s.toks) (fun _ _ => PyProof.Rows.sortedAll_old) (Nat.le_succ _) ⟨hlen', ((arrOf st').map (·.2)).toList, ep, ?_, he'⟩, rfl, q _ _ hpa hpw (I.hok.fresh (Nat.le_succ _))⟩
    rw [e2]
    have := refs_vals (((arrOf st').toList.map (·.2)).map addrOf)
    rw [← hout] at this
    exact this
end
/-! max, min with key= and default= -/
theorem Env0.inner {P : Program} {w : World} {K : PySem.W.Frag} {mg : Str → Option Value} {base : Heap} {A : Around} {outer : List Env} {s : Shared} {H : Hp} (e : Env0 P w K mg base A outer s H) : Env0 P w K mg base A.in1 outer s H :=
  ⟨e.frames, e.mod, e.bs, e.bsz, e.funs, e.frf, e.hok, e.bare⟩
theorem sum_tup {prog : Program} {w : World} {A : Around} {E : Value → Shared → Prop} {s : Shared} {l : Addr} {its : List Value} {ns : List Int} {Q : Value → Shared → Prop} (hh : A.handled = none) (hl : s.heap.IsTuple l its.toArray) (hi : IntsAre its ns)
    (h : ∀ h' tk t', (∀ b o, s.heap.get? b = some o → h'.get? b = some o) → Q (.int ns.sum t') { s with heap := h', toks := tk }) : wpAny (model prog w) A (call (.builtin "sum") [.ref l]) Q E s := by
  obtain ⟨xs, e⟩ := hi.allInts.items
  have hn : numsOf (intItems xs).toList = ns := by rw [← e]; exact hi.numsOf
  rw [nums_intItems] at hn
  rw [e] at hl
  refine PySem.W.ktm_sumG hh hl fun h' tk t' hk => ?_
  have := h h' tk t' hk
  rw [preSum_eq, List.take_of_length_le (by simp), hn]; exact this

/-! the best of a list by a key: the iterator stands at I, what is kept so far at S; neither is the program's -/
structure Two (X : Cx) (pins : List (Addr × Obj)) (H : Hp) (I S : Addr) : Prop where
  i : FpOk X pins H I
  s : FpOk X pins H S
  ne : S ≠ I
structure Bw (X : Cx) (pins : List (Addr × Obj)) (σ : St) (H : Hp) (l I S : Addr) (j : Nat) (kept : Array Value) (s : Shared) : Prop where
  inv : Inv X pins σ H s
  it : s.heap.IsListIter I l j
  kp : ∃ c, s.heap.get? S = some (seqObj "list" kept c)
section
variable {X : Cx} {pins : List (Addr × Obj)} {σ : St} {H : Hp} {l I S : Addr} {xs : List V} {j : Nat} {kept : Array Value} {s : Shared}
/-- there is one more -/
theorem Bw.next {x : V} {Q : Option Value → Shared → Prop} {E : Value → Shared → Prop} (b : Bw X pins σ H l I S j kept s) (w : Two X pins H I S) (hs : SqL X.K H l xs) (hx : xs[j]? = some x)
    (k : ∀ u s', RelV x u → Bw X pins σ H l I S (j + 1) kept s' → Q (some u) s') : wpAny (model X.prog X.w) X.A.in1 (pyNext (.ref I)) Q E s := by
  obtain ⟨its, rv, p, _⟩ := b.inv.list hs
  obtain ⟨u, hu, ru⟩ := rv.get hx
  obtain ⟨c, hc⟩ := b.kp
  obtain ⟨f0, f1, _, f3, f4, f5⟩ := w.i
  exact wpAny_pyNext_list_item b.it p.isList (x := u) (by simpa using hu) fun h' st sb => k u _ ru ⟨b.inv.turned (t' := s.toks) (fun a o na e => (sb.2 a na).trans e) f0 f1 f3 f4 f5, st, c, (sb.2 S w.ne).trans hc⟩
/-- there is none -/
theorem Bw.stop {Q : Option Value → Shared → Prop} {E : Value → Shared → Prop} (b : Bw X pins σ H l I S j kept s) (w : Two X pins H I S) (hs : SqL X.K H l xs) (hcalm : X.calm = true) (hj : xs.length ≤ j)
    (k : ∀ s', Inv X pins σ H s' → (∃ c, s'.heap.get? S = some (seqObj "list" kept c)) → Q none s') : wpAny (model X.prog X.w) X.A.in1 (pyNext (.ref I)) Q E s := by
  obtain ⟨its, rv, p, _⟩ := b.inv.list hs
  obtain ⟨c, hc⟩ := b.kp
  obtain ⟨f0, f1, _, f3, f4, f5⟩ := w.i
  have hn := rv.length
  exact wpAny_pyNext_list_end (A := X.A.in1) (b.inv.ok.hd hcalm) b.it p.isList (by simp; omega) fun h' eb => k _ (b.inv.turned (t' := s.toks) (fun a o na e => eb a o na e) f0 f1 f3 f4 f5) ⟨c, eb S _ w.ne hc⟩
/-- its key is reckoned -/
theorem Bw.keyed {f u : Value} {n : Int} {Q : Value → Shared → Prop} {E : Value → Shared → Prop} (b : Bw X pins σ H l I S j kept s) (w : Two X pins H I S)
    (turn : ∀ (ps : List (Addr × Obj)) (s : Shared), Inv X ps σ H s → wpAny (model X.prog X.w) X.A.in1 (call f [u]) (fun r s' => ∃ t, r = .int n t ∧ Inv X ps σ H s') (fun _ _ => False) s)
    (k : ∀ t s', Bw X pins σ H l I S j kept s' → Q (.int n t) s') : wpAny (model X.prog X.w) X.A.in1 (holding [u] (call f [u])) Q E s := by
  obtain ⟨c, hc⟩ := b.kp
  obtain ⟨oI, eI, cI, dI⟩ := b.it
  obtain ⟨f0, f1, f2, _⟩ := w.i
  obtain ⟨g0, g1, g2, _⟩ := w.s
  have pinned : Inv X ((S, seqObj "list" kept c) :: (I, oI) :: pins) σ H s := b.inv.pins_of fun p hp => by
    cases hp with
    | head => exact ⟨hc, g0, g1, g2, fun v z => by cases (show Data.seq _ _ = Data.cell v from z)⟩
    | tail _ hp =>
      cases hp with
      | head => exact ⟨eI, f0, f1, f2, fun v z => by rw [dI] at z; cases z⟩
      | tail _ hp => exact b.inv.pin p (List.mem_append_right _ hp)
  refine wpAny_holding (wpAny_mono (turn _ _ pinned) (fun r s2 ⟨t, er, I3⟩ => ?_) fun _ _ z => z.elim)
  subst er
  have at_ : ∀ p, p ∈ (S, seqObj "list" kept c) :: (I, oI) :: pins → s2.heap.get? p.1 = some p.2 := fun p hp => (I3.pin p (List.mem_append_right _ hp)).1
  exact k t s2 ⟨I3.pins_of fun p hp => I3.pin p (List.mem_append_right _ (.tail _ (.tail _ hp))), ⟨oI, at_ (I, oI) (.tail _ (.head _)), cI, dI⟩, c, at_ (S, _) (.head _)⟩
/-- other things are kept -/
theorem Bw.set (b : Bw X pins σ H l I S j kept s) (w : Two X pins H I S) (new : Array Value) : Bw X pins σ H l I S j new { s with heap := s.heap.update S (Obj.mapSeq fun _ => new) } := by
  obtain ⟨c, hc⟩ := b.kp
  obtain ⟨oI, eI, cI, dI⟩ := b.it
  obtain ⟨g0, g1, _, g3, g4, g5⟩ := w.s
  have sb := Heap.SameBut.update s.heap S (Obj.mapSeq fun _ => new)
  exact ⟨b.inv.turned (t' := s.toks) (fun a o na e => (sb.2 a na).trans e) g0 g1 g3 g4 g5, ⟨oI, (sb.2 I w.ne.symm).trans eI, cI, dI⟩, _, get?_update_seq hc fun _ => new⟩
/-- a list's iterator, new -/
def itOf (l : Addr) : Obj := { cls := .type "list_iterator", data := .fields #[.ref l, .int 0 0] }
theorem gone (I0 : Inv X pins σ H s) (w : Two X pins H I S) : Inv X pins σ H { s with heap := s.heap.update S (Obj.mapSeq fun _ => (#[] : Array Value)) } := by
  obtain ⟨g0, g1, _, g3, g4, g5⟩ := w.s
  exact I0.turned (t' := s.toks) (fun a o na e => ((Heap.SameBut.update s.heap S (Obj.mapSeq fun _ => (#[] : Array Value))).2 a na).trans e) g0 g1 g3 g4 g5
end

def best_max (n : Nat) (kf : Nat → Int) (i : Nat) : Prop := ∀ j, j < n → kf i ≥ kf j ∧ (j < i → kf i > kf j)
theorem best_max_new {n : Nat} {kf : Nat → Int} {i : Nat} (b : best_max n kf i) (hi : i < n) (h : kf n > kf i) : best_max (n + 1) kf n := fun j hj => by
  by_cases e : j = n
  · subst e
    constructor <;> omega
  · have := (b j (by omega)).1
    constructor <;> omega
theorem best_max_old {n : Nat} {kf : Nat → Int} {i : Nat} (b : best_max n kf i) (hi : i < n) (h : ¬ kf n > kf i) : best_max (n + 1) kf i := fun j hj => by
  by_cases e : j = n
  · subst e
    constructor <;> omega
  · exact b j (by omega)
theorem args_max_kd (a v d : Value) : argsOk "max" ⟨[a], [(Str.ofString "key", v), (Str.ofString "default", d)]⟩ := by unfold argsOk; kernel_rfl
section
variable {X : Cx} {pins : List (Addr × Obj)} {σ : St} {H : Hp} {l I S q : Addr} {xs : List V} {kw : List (Str × Value)} {R : Result → Shared → Prop}

theorem max_loop_f (kf : Nat → Int) (hs : SqL X.K H l xs) (hcalm : X.calm = true) (two : Two X pins H I S)
    (turn : ∀ (i : Nat) (x : V) (u : Value), xs[i]? = some x → RelV x u → ∀ (pins : List (Addr × Obj)) (s : Shared), Inv X pins σ H s → wpAny (model X.prog X.w) X.A.in1 (call (.ref q) [u]) (fun r s' => ∃ t, r = .int (kf i) t ∧ Inv X pins σ H s') (fun _ _ => False) s)
    (hR : ∀ (i : Nat) (x : V) (u : Value) (s' : Shared), xs[i]? = some x → RelV x u → best_max xs.length kf i → Inv X pins σ H s' → R (.ok (.ret u)) s') :
    ∀ (r j i : Nat) (s : Shared) (x : V) (vb : Value) (tb : Tok), xs.length - j = r → j ≤ xs.length → Bw X pins σ H l I S j #[vb, .int (kf i) tb] s → xs[i]? = some x → RelV x vb → i < j → best_max j kf i →
      codeAny (model X.prog X.w) X.A (.builtin "max.loop" ⟨[.ref I, .ref q, .ref S], kw⟩) R s := by
  have again_ : (toString "max" ++ toString ".loop" : String) = "max.loop" := rfl
  intro r
  induction r with
  | zero =>
    intro j i s x vb tb hr hj b hx rx hij hbest
    have ej : j = xs.length := by omega
    subst ej
    obtain ⟨c, hc⟩ := b.kp
    (refine codeAny_builtin PySem.F.entry_max_loop ?_; rw [Around.under_plainId PySem.F.plain_max_loop _])
    refine wpAny_bind (wpAny_seqItems hc rfl (wpAny_bind (wpAny_tryCatch (b.stop two hs hcalm (Nat.le_refl _) fun s1 I1 ⟨c1, hc1⟩ => ?_))))
    refine wpAny_bind (wpAny_updateSeq hc1 rfl (wpAny_bind (wpAny_letGo (wpAny_pure (hR i x vb _ hx rx hbest (gone I1 two))))))
  | succ r ih =>
    intro j i s x vb tb hr hj b hx rx hij hbest
    have hlt : j < xs.length := by omega
    obtain ⟨c, hc⟩ := b.kp
    (refine codeAny_builtin PySem.F.entry_max_loop ?_; rw [Around.under_plainId PySem.F.plain_max_loop _])
    refine wpAny_bind (wpAny_seqItems hc rfl (wpAny_bind (wpAny_tryCatch (b.next two hs (List.getElem?_eq_getElem hlt) fun u s1 ru b1 => ?_))))
    refine wpAny_bind (wpAny_tryCatch (b1.keyed two (turn j _ u (List.getElem?_eq_getElem hlt) ru) fun t s2 b2 => ?_))
    refine wpAny_bind (wpAny_tryCatch (wpAny_holding (wpAny_bind (CmpOf.ints_gt (prog := X.prog) (w := X.w) (A := X.A.in1) (P := fun i v => ∃ t, v = .int (kf i) t) kf (fun _ _ z => z) j i _ _ _ _ _ ⟨t, rfl⟩ ⟨tb, rfl⟩ ?_))))
    refine wpAny_bind (wpAny_holding (wpAny_truthy_bool (wpAny_bind (wpAny_letGo (wpAny_pure ?_)))))
    by_cases hb' : kf j > kf i
    · obtain ⟨c2, hc2⟩ := b2.kp
      simp only [show decide (kf j > kf i) = true from decide_eq_true hb', if_true]
      refine wpAny_bind (wpAny_updateSeq hc2 rfl (wpAny_bind (wpAny_letGo ?_)))
      (rw [again_]; refine wpAny_pure ⟨plainId_quiet PySem.F.plain_max_loop _, ih (j + 1) j _ _ u t (by omega) hlt (b2.set two _) (List.getElem?_eq_getElem hlt) ru (Nat.lt_succ_self _) (best_max_new hbest hij hb')⟩)
    · simp only [show decide (kf j > kf i) = false from decide_eq_false hb', if_false, Bool.false_eq_true]
      (refine wpAny_bind (wpAny_letGo ?_); rw [again_]; refine wpAny_pure ⟨plainId_quiet PySem.F.plain_max_loop _, ih (j + 1) i _ x vb tb (by omega) hlt b2 hx rx (by omega) (best_max_old hbest hij hb')⟩)
theorem max_call_f {s : Shared} {y : V} {dv : Value} {Q : VK} (kf : Nat → Int) (In : Inv X pins σ H s) (hs : SqL X.K H l xs) (hcalm : X.calm = true) (ry : RelV y dv)
    (turn : ∀ (i : Nat) (x : V) (u : Value), xs[i]? = some x → RelV x u → ∀ (pins : List (Addr × Obj)) (s : Shared), Inv X pins σ H s → wpAny (model X.prog X.w) X.A.in1 (call (.ref q) [u]) (fun r s' => ∃ t, r = .int (kf i) t ∧ Inv X pins σ H s') (fun _ _ => False) s)
    (h0 : xs = [] → Q y H) (h1 : ∀ (i : Nat) (x : V), xs[i]? = some x → best_max xs.length kf i → Q x H) :
    wpAny (model X.prog X.w) X.A (call (.builtin "max") [.ref l] [(Str.ofString "key", .ref q), (Str.ofString "default", dv)]) (EP X pins σ Q) X.xe s := by
  have again_ : (toString "max" ++ toString ".loop" : String) = "max.loop" := rfl
  obtain ⟨its, rv, p, _⟩ := In.list hs
  refine kmk_tree PySem.F.kind_max PySem.F.plain_max PySem.F.entry_max (args_max_kd _ _ _) ?_
  refine wpAny_bind (wpAny_of_eq (show Builtin.Builtins.bindParams "max" ["key", "default"] 0 ⟨[], [(Str.ofString "key", .ref q), (Str.ofString "default", dv)]⟩ = pure [some (.ref q), some dv] from rfl) (wpAny_bind (wpAny_pure (wpAny_bind (wpAny_pyIter_list p.isList (wpAny_bind (wpAny_newList ?_ (Nat.zero_le _))))))))
  have sz : (s.heap.push (itOf l)).objs.size = s.heap.objs.size + 1 := size_push' ..
  have le : s.heap.objs.size ≤ (s.heap.push (itOf l)).objs.size := by rw [sz]; exact Nat.le_succ _
  have two : Two X pins H s.heap.objs.size (s.heap.push (itOf l)).objs.size := ⟨In.fpOk (Nat.le_refl _) (In.hok.fresh (Nat.le_refl _)), In.fpOk le (In.hok.fresh le), by rw [sz]; exact Nat.succ_ne_self _⟩
  have b0 : Bw X pins σ H l s.heap.objs.size (s.heap.push (itOf l)).objs.size 0 #[] { s with heap := (s.heap.push (itOf l)).push (seqObj "list" #[] 0) } :=
    ⟨In.kept (t' := s.toks) fun a o e => Heap.get?_push_of_some _ (Heap.get?_push_of_some _ e), ⟨itOf l, Heap.get?_push_of_some _ (Heap.get?_push_size _ rfl), rfl, rfl⟩, 0, Heap.get?_push_size _ rfl⟩
  obtain ⟨c, hc⟩ := b0.kp
  (rw [again_]; refine wpAny_pure ⟨plainId_quiet PySem.F.plain_max_loop _, ?_⟩; refine codeAny_builtin PySem.F.entry_max_loop ?_; rw [Around.under_plainId PySem.F.plain_max_loop _])
  refine wpAny_bind (wpAny_seqItems hc rfl ?_)
  by_cases hne : xs = []
  · refine wpAny_bind (wpAny_tryCatch (b0.stop two hs hcalm (by rw [hne]; exact Nat.le_refl _) fun s1 I1 _ => ?_))
    have fin : EP X pins σ Q dv s1 := ⟨y, H, I1, ry, h0 hne⟩
    first | exact wpAny_bind (wpAny_rule (wpAny_pure fin)) | (refine wpAny_bind ?_; exact wpAny_rule (wpAny_pure fin)) | exact wpAny_pure fin
  · have hlt : 0 < xs.length := Nat.pos_of_ne_zero fun z => hne (List.length_eq_zero_iff.mp z)
    refine wpAny_bind (wpAny_tryCatch (b0.next two hs (List.getElem?_eq_getElem hlt) fun u s1 ru b1 => ?_))
    refine wpAny_bind (wpAny_tryCatch (b1.keyed two (turn 0 _ u (List.getElem?_eq_getElem hlt) ru) fun t s2 b2 => ?_))
    obtain ⟨c2, hc2⟩ := b2.kp
    refine wpAny_bind (wpAny_updateSeq hc2 rfl ?_)
    (rw [again_]; refine wpAny_pure ⟨plainId_quiet PySem.F.plain_max_loop _, max_loop_f kf hs hcalm two turn (fun i x u s' hx rx hb I' => ⟨x, H, I', rx, h1 i x hx hb⟩) _ 1 0 _ _ u t rfl hlt (b2.set two _) (List.getElem?_eq_getElem hlt) ru (by omega) fun j hj => ?_⟩)
    have e : j = 0 := by omega
    subst e
    constructor <;> omega

theorem max_loop_s (kf : Nat → Int) (hs : SqL X.K H l xs) (hcalm : X.calm = true) (two : Two X pins H I S)
    (turn : ∀ (i : Nat) (x : V) (u : Value), xs[i]? = some x → RelV x u → ∀ (pins : List (Addr × Obj)) (s : Shared), Inv X pins σ H s → wpAny (model X.prog X.w) X.A.in1 (call (.builtin "sum") [u]) (fun r s' => ∃ t, r = .int (kf i) t ∧ Inv X pins σ H s') (fun _ _ => False) s)
    (hR : ∀ (i : Nat) (x : V) (u : Value) (s' : Shared), xs[i]? = some x → RelV x u → best_max xs.length kf i → Inv X pins σ H s' → R (.ok (.ret u)) s') :
    ∀ (r j i : Nat) (s : Shared) (x : V) (vb : Value) (tb : Tok), xs.length - j = r → j ≤ xs.length → Bw X pins σ H l I S j #[vb, .int (kf i) tb] s → xs[i]? = some x → RelV x vb → i < j → best_max j kf i →
      codeAny (model X.prog X.w) X.A (.builtin "max.loop" ⟨[.ref I, .builtin "sum", .ref S], kw⟩) R s := by
  have again_ : (toString "max" ++ toString ".loop" : String) = "max.loop" := rfl
  intro r
  induction r with
  | zero =>
    intro j i s x vb tb hr hj b hx rx hij hbest
    have ej : j = xs.length := by omega
    subst ej
    obtain ⟨c, hc⟩ := b.kp
    (refine codeAny_builtin PySem.F.entry_max_loop ?_; rw [Around.under_plainId PySem.F.plain_max_loop _])
    refine wpAny_bind (wpAny_seqItems hc rfl (wpAny_bind (wpAny_tryCatch (b.stop two hs hcalm (Nat.le_refl _) fun s1 I1 ⟨c1, hc1⟩ => ?_))))
    refine wpAny_bind (wpAny_updateSeq hc1 rfl (wpAny_bind (wpAny_letGo (wpAny_pure (hR i x vb _ hx rx hbest (gone I1 two))))))
  | succ r ih =>
    intro j i s x vb tb hr hj b hx rx hij hbest
    have hlt : j < xs.length := by omega
    obtain ⟨c, hc⟩ := b.kp
    (refine codeAny_builtin PySem.F.entry_max_loop ?_; rw [Around.under_plainId PySem.F.plain_max_loop _])
    refine wpAny_bind (wpAny_seqItems hc rfl (wpAny_bind (wpAny_tryCatch (b.next two hs (List.getElem?_eq_getElem hlt) fun u s1 ru b1 => ?_))))
    refine wpAny_bind (wpAny_tryCatch (b1.keyed two (turn j _ u (List.getElem?_eq_getElem hlt) ru) fun t s2 b2 => ?_))
    refine wpAny_bind (wpAny_tryCatch (wpAny_holding (wpAny_bind (CmpOf.ints_gt (prog := X.prog) (w := X.w) (A := X.A.in1) (P := fun i v => ∃ t, v = .int (kf i) t) kf (fun _ _ z => z) j i _ _ _ _ _ ⟨t, rfl⟩ ⟨tb, rfl⟩ ?_))))
    refine wpAny_bind (wpAny_holding (wpAny_truthy_bool (wpAny_bind (wpAny_letGo (wpAny_pure ?_)))))
    by_cases hb' : kf j > kf i
    · obtain ⟨c2, hc2⟩ := b2.kp
      simp only [show decide (kf j > kf i) = true from decide_eq_true hb', if_true]
      refine wpAny_bind (wpAny_updateSeq hc2 rfl (wpAny_bind (wpAny_letGo ?_)))
      (rw [again_]; refine wpAny_pure ⟨plainId_quiet PySem.F.plain_max_loop _, ih (j + 1) j _ _ u t (by omega) hlt (b2.set two _) (List.getElem?_eq_getElem hlt) ru (Nat.lt_succ_self _) (best_max_new hbest hij hb')⟩)
    · simp only [show decide (kf j > kf i) = false from decide_eq_false hb', if_false, Bool.false_eq_true]
      (refine wpAny_bind (wpAny_letGo ?_); rw [again_]; refine wpAny_pure ⟨plainId_quiet PySem.F.plain_max_loop _, ih (j + 1) i _ x vb tb (by omega) hlt b2 hx rx (by omega) (best_max_old hbest hij hb')⟩)
theorem max_call_s {s : Shared} {y : V} {dv : Value} {Q : VK} (kf : Nat → Int) (In : Inv X pins σ H s) (hs : SqL X.K H l xs) (hcalm : X.calm = true) (ry : RelV y dv)
    (turn : ∀ (i : Nat) (x : V) (u : Value), xs[i]? = some x → RelV x u → ∀ (pins : List (Addr × Obj)) (s : Shared), Inv X pins σ H s → wpAny (model X.prog X.w) X.A.in1 (call (.builtin "sum") [u]) (fun r s' => ∃ t, r = .int (kf i) t ∧ Inv X pins σ H s') (fun _ _ => False) s)
    (h0 : xs = [] → Q y H) (h1 : ∀ (i : Nat) (x : V), xs[i]? = some x → best_max xs.length kf i → Q x H) :
    wpAny (model X.prog X.w) X.A (call (.builtin "max") [.ref l] [(Str.ofString "key", .builtin "sum"), (Str.ofString "default", dv)]) (EP X pins σ Q) X.xe s := by
  have again_ : (toString "max" ++ toString ".loop" : String) = "max.loop" := rfl
  obtain ⟨its, rv, p, _⟩ := In.list hs
  refine kmk_tree PySem.F.kind_max PySem.F.plain_max PySem.F.entry_max (args_max_kd _ _ _) ?_
  refine wpAny_bind (wpAny_of_eq (show Builtin.Builtins.bindParams "max" ["key", "default"] 0 ⟨[], [(Str.ofString "key", .builtin "sum"), (Str.ofString "default", dv)]⟩ = pure [some (.builtin "sum"), some dv] from rfl) (wpAny_bind (wpAny_pure (wpAny_bind (wpAny_pyIter_list p.isList (wpAny_bind (wpAny_newList ?_ (Nat.zero_le _))))))))
  have sz : (s.heap.push (itOf l)).objs.size = s.heap.objs.size + 1 := size_push' ..
  have le : s.heap.objs.size ≤ (s.heap.push (itOf l)).objs.size := by rw [sz]; exact Nat.le_succ _
  have two : Two X pins H s.heap.objs.size (s.heap.push (itOf l)).objs.size := ⟨In.fpOk (Nat.le_refl _) (In.hok.fresh (Nat.le_refl _)), In.fpOk le (In.hok.fresh le), by rw [sz]; exact Nat.succ_ne_self _⟩
  have b0 : Bw X pins σ H l s.heap.objs.size (s.heap.push (itOf l)).objs.size 0 #[] { s with heap := (s.heap.push (itOf l)).push (seqObj "list" #[] 0) } :=
    ⟨In.kept (t' := s.toks) fun a o e => Heap.get?_push_of_some _ (Heap.get?_push_of_some _ e), ⟨itOf l, Heap.get?_push_of_some _ (Heap.get?_push_size _ rfl), rfl, rfl⟩, 0, Heap.get?_push_size _ rfl⟩
  obtain ⟨c, hc⟩ := b0.kp
  (rw [again_]; refine wpAny_pure ⟨plainId_quiet PySem.F.plain_max_loop _, ?_⟩; refine codeAny_builtin PySem.F.entry_max_loop ?_; rw [Around.under_plainId PySem.F.plain_max_loop _])
  refine wpAny_bind (wpAny_seqItems hc rfl ?_)
  by_cases hne : xs = []
  · refine wpAny_bind (wpAny_tryCatch (b0.stop two hs hcalm (by rw [hne]; exact Nat.le_refl _) fun s1 I1 _ => ?_))
    have fin : EP X pins σ Q dv s1 := ⟨y, H, I1, ry, h0 hne⟩
    first | exact wpAny_bind (wpAny_rule (wpAny_pure fin)) | (refine wpAny_bind ?_; exact wpAny_rule (wpAny_pure fin)) | exact wpAny_pure fin
  · have hlt : 0 < xs.length := Nat.pos_of_ne_zero fun z => hne (List.length_eq_zero_iff.mp z)
    refine wpAny_bind (wpAny_tryCatch (b0.next two hs (List.getElem?_eq_getElem hlt) fun u s1 ru b1 => ?_))
    refine wpAny_bind (wpAny_tryCatch (b1.keyed two (turn 0 _ u (List.getElem?_eq_getElem hlt) ru) fun t s2 b2 => ?_))
    obtain ⟨c2, hc2⟩ := b2.kp
    refine wpAny_bind (wpAny_updateSeq hc2 rfl ?_)
    (rw [again_]; refine wpAny_pure ⟨plainId_quiet PySem.F.plain_max_loop _, max_loop_s kf hs hcalm two turn (fun i x u s' hx rx hb I' => ⟨x, H, I', rx, h1 i x hx hb⟩) _ 1 0 _ _ u t rfl hlt (b2.set two _) (List.getElem?_eq_getElem hlt) ru (by omega) fun j hj => ?_⟩)
    have e : j = 0 := by omega
    subst e
    constructor <;> omega

end

def best_min (n : Nat) (kf : Nat → Int) (i : Nat) : Prop := ∀ j, j < n → kf i ≤ kf j ∧ (j < i → kf i < kf j)
theorem best_min_new {n : Nat} {kf : Nat → Int} {i : Nat} (b : best_min n kf i) (hi : i < n) (h : kf n < kf i) : best_min (n + 1) kf n := fun j hj => by
  by_cases e : j = n
  · subst e
    constructor <;> omega
  · have := (b j (by omega)).1
    constructor <;> omega
theorem best_min_old {n : Nat} {kf : Nat → Int} {i : Nat} (b : best_min n kf i) (hi : i < n) (h : ¬ kf n < kf i) : best_min (n + 1) kf i := fun j hj => by
  by_cases e : j = n
  · subst e
    constructor <;> omega
  · exact b j (by omega)
theorem args_min_kd (a v d : Value) : argsOk "min" ⟨[a], [(Str.ofString "key", v), (Str.ofString "default", d)]⟩ := by unfold argsOk; kernel_rfl
section
variable {X : Cx} {pins : List (Addr × Obj)} {σ : St} {H : Hp} {l I S q : Addr} {xs : List V} {kw : List (Str × Value)} {R : Result → Shared → Prop}

theorem min_loop_f (kf : Nat → Int) (hs : SqL X.K H l xs) (hcalm : X.calm = true) (two : Two X pins H I S)
    (turn : ∀ (i : Nat) (x : V) (u : Value), xs[i]? = some x → RelV x u → ∀ (pins : List (Addr × Obj)) (s : Shared), Inv X pins σ H s → wpAny (model X.prog X.w) X.A.in1 (call (.ref q) [u]) (fun r s' => ∃ t, r = .int (kf i) t ∧ Inv X pins σ H s') (fun _ _ => False) s)
    (hR : ∀ (i : Nat) (x : V) (u : Value) (s' : Shared), xs[i]? = some x → RelV x u → best_min xs.length kf i → Inv X pins σ H s' → R (.ok (.ret u)) s') :
    ∀ (r j i : Nat) (s : Shared) (x : V) (vb : Value) (tb : Tok), xs.length - j = r → j ≤ xs.length → Bw X pins σ H l I S j #[vb, .int (kf i) tb] s → xs[i]? = some x → RelV x vb → i < j → best_min j kf i →
      codeAny (model X.prog X.w) X.A (.builtin "min.loop" ⟨[.ref I, .ref q, .ref S], kw⟩) R s := by
  have again_ : (toString "min" ++ toString ".loop" : String) = "min.loop" := rfl
  intro r
  induction r with
  | zero =>
    intro j i s x vb tb hr hj b hx rx hij hbest
    have ej : j = xs.length := by omega
    subst ej
    obtain ⟨c, hc⟩ := b.kp
    (refine codeAny_builtin PySem.F.entry_min_loop ?_; rw [Around.under_plainId PySem.F.plain_min_loop _])
    refine wpAny_bind (wpAny_seqItems hc rfl (wpAny_bind (wpAny_tryCatch (b.stop two hs hcalm (Nat.le_refl _) fun s1 I1 ⟨c1, hc1⟩ => ?_))))
    refine wpAny_bind (wpAny_updateSeq hc1 rfl (wpAny_bind (wpAny_letGo (wpAny_pure (hR i x vb _ hx rx hbest (gone I1 two))))))
  | succ r ih =>
    intro j i s x vb tb hr hj b hx rx hij hbest
    have hlt : j < xs.length := by omega
    obtain ⟨c, hc⟩ := b.kp
    (refine codeAny_builtin PySem.F.entry_min_loop ?_; rw [Around.under_plainId PySem.F.plain_min_loop _])
    refine wpAny_bind (wpAny_seqItems hc rfl (wpAny_bind (wpAny_tryCatch (b.next two hs (List.getElem?_eq_getElem hlt) fun u s1 ru b1 => ?_))))
    refine wpAny_bind (wpAny_tryCatch (b1.keyed two (turn j _ u (List.getElem?_eq_getElem hlt) ru) fun t s2 b2 => ?_))
    refine wpAny_bind (wpAny_tryCatch (wpAny_holding (wpAny_bind (CmpOf.ints_lt (prog := X.prog) (w := X.w) (A := X.A.in1) (P := fun i v => ∃ t, v = .int (kf i) t) kf (fun _ _ z => z) j i _ _ _ _ _ ⟨t, rfl⟩ ⟨tb, rfl⟩ ?_))))
    refine wpAny_bind (wpAny_holding (wpAny_truthy_bool (wpAny_bind (wpAny_letGo (wpAny_pure ?_)))))
    by_cases hb' : kf j < kf i
    · obtain ⟨c2, hc2⟩ := b2.kp
      simp only [show decide (kf j < kf i) = true from decide_eq_true hb', if_true]
      refine wpAny_bind (wpAny_updateSeq hc2 rfl (wpAny_bind (wpAny_letGo ?_)))
      (rw [again_]; refine wpAny_pure ⟨plainId_quiet PySem.F.plain_min_loop _, ih (j + 1) j _ _ u t (by omega) hlt (b2.set two _) (List.getElem?_eq_getElem hlt) ru (Nat.lt_succ_self _) (best_min_new hbest hij hb')⟩)
    · simp only [show decide (kf j < kf i) = false from decide_eq_false hb', if_false, Bool.false_eq_true]
      (refine wpAny_bind (wpAny_letGo ?_); rw [again_]; refine wpAny_pure ⟨plainId_quiet PySem.F.plain_min_loop _, ih (j + 1) i _ x vb tb (by omega) hlt b2 hx rx (by omega) (best_min_old hbest hij hb')⟩)
theorem min_call_f {s : Shared} {y : V} {dv : Value} {Q : VK} (kf : Nat → Int) (In : Inv X pins σ H s) (hs : SqL X.K H l xs) (hcalm : X.calm = true) (ry : RelV y dv)
    (turn : ∀ (i : Nat) (x : V) (u : Value), xs[i]? = some x → RelV x u → ∀ (pins : List (Addr × Obj)) (s : Shared), Inv X pins σ H s → wpAny (model X.prog X.w) X.A.in1 (call (.ref q) [u]) (fun r s' => ∃ t, r = .int (kf i) t ∧ Inv X pins σ H s') (fun _ _ => False) s)
    (h0 : xs = [] → Q y H) (h1 : ∀ (i : Nat) (x : V), xs[i]? = some x → best_min xs.length kf i → Q x H) :
    wpAny (model X.prog X.w) X.A (call (.builtin "min") [.ref l] [(Str.ofString "key", .ref q), (Str.ofString "default", dv)]) (EP X pins σ Q) X.xe s := by
  have again_ : (toString "min" ++ toString ".loop" : String) = "min.loop" := rfl
  obtain ⟨its, rv, p, _⟩ := In.list hs
  refine kmk_tree PySem.F.kind_min PySem.F.plain_min PySem.F.entry_min (args_min_kd _ _ _) ?_
  refine wpAny_bind (wpAny_of_eq (show Builtin.Builtins.bindParams "min" ["key", "default"] 0 ⟨[], [(Str.ofString "key", .ref q), (Str.ofString "default", dv)]⟩ = pure [some (.ref q), some dv] from rfl) (wpAny_bind (wpAny_pure (wpAny_bind (wpAny_pyIter_list p.isList (wpAny_bind (wpAny_newList ?_ (Nat.zero_le _))))))))
  have sz : (s.heap.push (itOf l)).objs.size = s.heap.objs.size + 1 := size_push' ..
  have le : s.heap.objs.size ≤ (s.heap.push (itOf l)).objs.size := by rw [sz]; exact Nat.le_succ _
  have two : Two X pins H s.heap.objs.size (s.heap.push (itOf l)).objs.size := ⟨In.fpOk (Nat.le_refl _) (In.hok.fresh (Nat.le_refl _)), In.fpOk le (In.hok.fresh le), by rw [sz]; exact Nat.succ_ne_self _⟩
  have b0 : Bw X pins σ H l s.heap.objs.size (s.heap.push (itOf l)).objs.size 0 #[] { s with heap := (s.heap.push (itOf l)).push (seqObj "list" #[] 0) } :=
    ⟨In.kept (t' := s.toks) fun a o e => Heap.get?_push_of_some _ (Heap.get?_push_of_some _ e), ⟨itOf l, Heap.get?_push_of_some _ (Heap.get?_push_size _ rfl), rfl, rfl⟩, 0, Heap.get?_push_size _ rfl⟩
  obtain ⟨c, hc⟩ := b0.kp
  (rw [again_]; refine wpAny_pure ⟨plainId_quiet PySem.F.plain_min_loop _, ?_⟩; refine codeAny_builtin PySem.F.entry_min_loop ?_; rw [Around.under_plainId PySem.F.plain_min_loop _])
  refine wpAny_bind (wpAny_seqItems hc rfl ?_)
  by_cases hne : xs = []
  · refine wpAny_bind (wpAny_tryCatch (b0.stop two hs hcalm (by rw [hne]; exact Nat.le_refl _) fun s1 I1 _ => ?_))
    have fin : EP X pins σ Q dv s1 := ⟨y, H, I1, ry, h0 hne⟩
    first | exact wpAny_bind (wpAny_rule (wpAny_pure fin)) | (refine wpAny_bind ?_; exact wpAny_rule (wpAny_pure fin)) | exact wpAny_pure fin
  · have hlt : 0 < xs.length := Nat.pos_of_ne_zero fun z => hne (List.length_eq_zero_iff.mp z)
    refine wpAny_bind (wpAny_tryCatch (b0.next two hs (List.getElem?_eq_getElem hlt) fun u s1 ru b1 => ?_))
    refine wpAny_bind (wpAny_tryCatch (b1.keyed two (turn 0 _ u (List.getElem?_eq_getElem hlt) ru) fun t s2 b2 => ?_))
    obtain ⟨c2, hc2⟩ := b2.kp
    refine wpAny_bind (wpAny_updateSeq hc2 rfl ?_)
    (rw [again_]; refine wpAny_pure ⟨plainId_quiet PySem.F.plain_min_loop _, min_loop_f kf hs hcalm two turn (fun i x u s' hx rx hb I' => ⟨x, H, I', rx, h1 i x hx hb⟩) _ 1 0 _ _ u t rfl hlt (b2.set two _) (List.getElem?_eq_getElem hlt) ru (by omega) fun j hj => ?_⟩)
    have e : j = 0 := by omega
    subst e
    constructor <;> omega

end

theorem key_run {X : Cx} {pins : List (Addr × Obj)} {σ : St} {H : Hp} {s : Shared} {k : Nat} {ps : List Str} {sp : Sp} {f : Addr} {fd : FuncData} {x : V} {u : Value} {n : Int} (F : FnOk X.prog X.w X.K X.mg X.base CX0 k f fd ps sp) (hr : Room (k + 1) X.A) (hb : Binds X.K fd ps []) (I : Inv X pins σ H s) (r : RelV x u)
    (h : sp [x] H (fun v H' => v = .int n ∧ H' = H) E0) : wpAny (model X.prog X.w) X.A.in1 (call (.ref f) [u]) (fun r s' => ∃ t, r = .int n t ∧ Inv X pins σ H s') (fun _ _ => False) s := by
  have r2 : Vals [x] [u] := .cons r .nil
  have hl : ([u] ++ []).length = ps.length := by rw [List.append_nil, ← r2.length]; exact F.len _ _ _ _ h
  refine wpAny_call (codeAny_mono (F.run X.A.in1 X.stack s H ⟨[u], []⟩ [u] [x] _ E0 hr.in1 I.env0.inner (hb s [u] I.kIn hl) r2 h) fun r s' hq => ?_)
  cases r with
  | error e => exact hq
  | ok fl =>
    cases fl with
    | ret u =>
      obtain ⟨v, H', I', rv, e1, e2⟩ := I.after hq
      subst e1 e2
      obtain ⟨t, e⟩ := rv
      exact ⟨t, e, I'⟩
    | next => exact False.elim hq
    | brk => exact False.elim hq
    | cont => exact False.elim hq
def keyF (sp : Sp) : V → Int → Hp → Prop := fun x n H => sp [x] H (fun v H' => v = .int n ∧ H' = H) E0
def keyS (K : PySem.W.Frag) : V → Int → Hp → Prop := fun x n H => ∃ (b : Addr) (ns : List Int), x = .ref b ∧ SqT K H b (ns.map V.int) ∧ n = ns.sum

def tmaxK (K : PySem.W.Frag) (t : TA) (td : TE) (key : V → Int → Hp → Prop) : TE := fun σ H Q => t σ H fun vs H1 => td σ H1 fun y H2 => ∃ (a : Addr) (xs : List V) (kf : Nat → Int), vs = [.ref a] ∧ SqL K H2 a xs ∧ (∀ (i : Nat) (x : V), xs[i]? = some x → key x (kf i) H2) ∧ (xs = [] → Q y H2) ∧
  ∀ (i : Nat) (x : V), xs[i]? = some x → best_max xs.length kf i → Q x H2
theorem pe_maxF {X : Cx} {kn : Str} {k : Nat} {ps : List Str} {sp : Sp} {e d : Expr} {t : TA} {td : TE} {p pos kp kp1 kp2 : Pos} (c : Callee X.prog X.w X.K X.mg X.base kn k ps sp) (hr : Room (k + 1) X.A) (hcalm : X.calm = true) (hg : Gl X "max") (hm : X.mg "max" = none) (hgk : Gl X kn)
    (ha : PA X [e] t) (hd : PE X d td) (hst : starEach [e] X.env = [(false, eval e X.env)] := by rfl) (hdb : (kn == ("__debug__" : Str)) = false := by decide) :
    PE X (.Call (.Name "max" p) [e] [⟨some "key", .Name kn kp, kp1⟩, ⟨some "default", d, kp2⟩] pos) (tmaxK X.K t td (keyF sp)) := by
  intro pins s σ H Q I h
  obtain ⟨f, fd, hmf, hk, hb, F⟩ := c.ex
  refine wpAny_Call_Name_kw (ld_blt I hg hm boot_max ?_ (by decide) (by decide))
  refine PyProof.Rows.callWith_kw (thn (ha pos pins s σ H _ I h) fun us s1 ⟨vs, H1, I1, r1, q1⟩ => ?_) (by rw [hst]; rfl) (by rw [hst]; rfl)
  refine PyProof.Rows.kws_cons (ld_glob I1 hgk hmf ?_ hdb)
  refine PyProof.Rows.kws_cons (thn (hd pins s1 σ H1 _ I1 q1) fun dv s2 ⟨y, H2, I2, ry, a, xs, kf, ev, hs, hkey, h0, h1⟩ => ?_)
  refine PyProof.Rows.kws_nil ?_
  subst ev
  rw [Vals.ref1 r1]
  exact max_call_f kf I2 hs hcalm ry (fun i x u hx ru pins s I' => key_run F hr hb I' ru (hkey i x hx)) h0 h1

def tminK (K : PySem.W.Frag) (t : TA) (td : TE) (key : V → Int → Hp → Prop) : TE := fun σ H Q => t σ H fun vs H1 => td σ H1 fun y H2 => ∃ (a : Addr) (xs : List V) (kf : Nat → Int), vs = [.ref a] ∧ SqL K H2 a xs ∧ (∀ (i : Nat) (x : V), xs[i]? = some x → key x (kf i) H2) ∧ (xs = [] → Q y H2) ∧
  ∀ (i : Nat) (x : V), xs[i]? = some x → best_min xs.length kf i → Q x H2
theorem pe_minF {X : Cx} {kn : Str} {k : Nat} {ps : List Str} {sp : Sp} {e d : Expr} {t : TA} {td : TE} {p pos kp kp1 kp2 : Pos} (c : Callee X.prog X.w X.K X.mg X.base kn k ps sp) (hr : Room (k + 1) X.A) (hcalm : X.calm = true) (hg : Gl X "min") (hm : X.mg "min" = none) (hgk : Gl X kn)
    (ha : PA X [e] t) (hd : PE X d td) (hst : starEach [e] X.env = [(false, eval e X.env)] := by rfl) (hdb : (kn == ("__debug__" : Str)) = false := by decide) :
    PE X (.Call (.Name "min" p) [e] [⟨some "key", .Name kn kp, kp1⟩, ⟨some "default", d, kp2⟩] pos) (tminK X.K t td (keyF sp)) := by
  intro pins s σ H Q I h
  obtain ⟨f, fd, hmf, hk, hb, F⟩ := c.ex
  refine wpAny_Call_Name_kw (ld_blt I hg hm boot_min ?_ (by decide) (by decide))
  refine PyProof.Rows.callWith_kw (thn (ha pos pins s σ H _ I h) fun us s1 ⟨vs, H1, I1, r1, q1⟩ => ?_) (by rw [hst]; rfl) (by rw [hst]; rfl)
  refine PyProof.Rows.kws_cons (ld_glob I1 hgk hmf ?_ hdb)
  refine PyProof.Rows.kws_cons (thn (hd pins s1 σ H1 _ I1 q1) fun dv s2 ⟨y, H2, I2, ry, a, xs, kf, ev, hs, hkey, h0, h1⟩ => ?_)
  refine PyProof.Rows.kws_nil ?_
  subst ev
  rw [Vals.ref1 r1]
  exact min_call_f kf I2 hs hcalm ry (fun i x u hx ru pins s I' => key_run F hr hb I' ru (hkey i x hx)) h0 h1

theorem pe_maxS {X : Cx} {e d : Expr} {t : TA} {td : TE} {p pos kp kp1 kp2 : Pos} (hcalm : X.calm = true) (hg : Gl X "max") (hm : X.mg "max" = none) (hgk : Gl X "sum") (hmk : X.mg "sum" = none)
    (ha : PA X [e] t) (hd : PE X d td) (hst : starEach [e] X.env = [(false, eval e X.env)] := by rfl) :
    PE X (.Call (.Name "max" p) [e] [⟨some "key", .Name "sum" kp, kp1⟩, ⟨some "default", d, kp2⟩] pos) (tmaxK X.K t td (keyS X.K)) := by
  intro pins s σ H Q I h
  refine wpAny_Call_Name_kw (ld_blt I hg hm boot_max ?_ (by decide) (by decide))
  refine PyProof.Rows.callWith_kw (thn (ha pos pins s σ H _ I h) fun us s1 ⟨vs, H1, I1, r1, q1⟩ => ?_) (by rw [hst]; rfl) (by rw [hst]; rfl)
  refine PyProof.Rows.kws_cons (ld_blt I1 hgk hmk boot_sum ?_ (by decide) (by decide))
  refine PyProof.Rows.kws_cons (thn (hd pins s1 σ H1 _ I1 q1) fun dv s2 ⟨y, H2, I2, ry, a, xs, kf, ev, hs, hkey, h0, h1⟩ => ?_)
  refine PyProof.Rows.kws_nil ?_
  subst ev
  rw [Vals.ref1 r1]
  refine max_call_s kf I2 hs hcalm ry (fun i x u hx ru pins s I' => ?_) h0 h1
  obtain ⟨b, ns, ex, hq, en⟩ := hkey i x hx
  subst ex
  obtain rfl : u = Value.ref b := ru
  obtain ⟨its, rv, p, _⟩ := I'.tuple hq
  rw [en]
  exact sum_tup (A := X.A.in1) (I'.ok.hd hcalm) p rv.ints fun h' tk t' hk => ⟨t', rfl, I'.kept hk⟩

theorem maxK_do {K : PySem.W.Frag} {t : TA} {td : TE} {key : V → Int → Hp → Prop} {σ : St} {H : Hp} {Q : VK} (l : Addr) (xs : List V) (kf : Nat → Int) (ht : ∀ Q : List V → Hp → Prop, Q [.ref l] H → t σ H Q) (hd : ∀ Q : VK, (∀ p, H p = none → Q (.ref p) (upd H p (.tup []))) → td σ H Q)
    (hs : H l = some (.lst xs)) (hkey : ∀ (p : Addr) (i : Nat) (x : V), H p = none → xs[i]? = some x → key x (kf i) (upd H p (.tup []))) (h0 : xs = [] → ∀ p, H p = none → Q (.ref p) (upd H p (.tup [])))
    (h1 : ∀ (p : Addr) (i : Nat) (x : V), H p = none → xs[i]? = some x → best_max xs.length kf i → Q x (upd H p (.tup []))) : tmaxK K t td key σ H Q :=
  ht _ (hd _ fun p hp => ⟨l, xs, kf, rfl, SqL.of (by rw [upd_ne (ne_of_none hs hp)]; exact hs), fun i x hx => hkey p i x hp hx, fun e => h0 e p hp, fun i x hx hb => h1 p i x hp hx hb⟩)

theorem minK_do {K : PySem.W.Frag} {t : TA} {td : TE} {key : V → Int → Hp → Prop} {σ : St} {H : Hp} {Q : VK} (l : Addr) (xs : List V) (kf : Nat → Int) (ht : ∀ Q : List V → Hp → Prop, Q [.ref l] H → t σ H Q) (hd : ∀ Q : VK, (∀ p, H p = none → Q (.ref p) (upd H p (.tup []))) → td σ H Q)
    (hs : H l = some (.lst xs)) (hkey : ∀ (p : Addr) (i : Nat) (x : V), H p = none → xs[i]? = some x → key x (kf i) (upd H p (.tup []))) (h0 : xs = [] → ∀ p, H p = none → Q (.ref p) (upd H p (.tup [])))
    (h1 : ∀ (p : Addr) (i : Nat) (x : V), H p = none → xs[i]? = some x → best_min xs.length kf i → Q x (upd H p (.tup []))) : tminK K t td key σ H Q :=
  ht _ (hd _ fun p hp => ⟨l, xs, kf, rfl, SqL.of (by rw [upd_ne (ne_of_none hs hp)]; exact hs), fun i x hx => hkey p i x hp hx, fun e => h0 e p hp, fun i x hx hb => h1 p i x hp hx hb⟩)

end L2
set_option Elab.async false
set_option linter.all false
namespace Mt
open Ux05 (Triangle isTriangle triangles byLongest)

/-! ### windows of a range -/
theorem range_split (lo n N : Nat) (h : lo + n ≤ N) : List.range N = List.range lo ++ ((List.range n).map (lo + ·) ++ (List.range (N - lo - n)).map (lo + n + ·)) := by
  have e : N = lo + (n + (N - lo - n)) := by omega
  conv => lhs; rw [e]
  rw [List.range_add, List.range_add]
  simp [List.map_append, List.map_map, Function.comp_def, Nat.add_assoc]
theorem filt_win {α : Type} (f : Nat → α) (q : α → Bool) (lo n N : Nat) (h : lo + n ≤ N) (hz : ∀ b, b < N → q (f b) = true → lo ≤ b ∧ b < lo + n) :
    ((List.range N).map f).filter q = ((List.range n).map (fun j => f (lo + j))).filter q := by
  rw [range_split lo n N h, List.map_append, List.map_append, List.filter_append, List.filter_append, List.map_map, List.map_map]
  have e1 : ((List.range lo).map f).filter q = [] := by
    rw [List.filter_eq_nil_iff]
    intro x hx hq
    obtain ⟨b, hb, rfl⟩ := List.mem_map.mp hx
    rw [List.mem_range] at hb
    have := hz b (by omega) hq
    omega
  have e2 : ((List.range (N - lo - n)).map (f ∘ (lo + n + ·))).filter q = [] := by
    rw [List.filter_eq_nil_iff]
    intro x hx hq
    obtain ⟨b, hb, rfl⟩ := List.mem_map.mp hx
    rw [List.mem_range] at hb
    have := hz (lo + n + b) (by omega) hq
    omega
  rw [e1, e2, List.nil_append, List.append_nil]
  rfl
theorem flat_win {α : Type} (f : Nat → List α) (lo n N : Nat) (h : lo + n ≤ N) (hz : ∀ b, b < N → f b ≠ [] → lo ≤ b ∧ b < lo + n) :
    (List.range N).flatMap f = (List.range n).flatMap (fun j => f (lo + j)) := by
  rw [range_split lo n N h, List.flatMap_append, List.flatMap_append, List.flatMap_map, List.flatMap_map]
  have e1 : (List.range lo).flatMap f = [] := by
    rw [List.flatMap_eq_nil_iff]
    intro b hb
    rw [List.mem_range] at hb
    apply Classical.byContradiction
    intro hq
    have := hz b (by omega) hq
    omega
  have e2 : (List.range (N - lo - n)).flatMap (fun j => f (lo + n + j)) = [] := by
    rw [List.flatMap_eq_nil_iff]
    intro b hb
    rw [List.mem_range] at hb
    apply Classical.byContradiction
    intro hq
    have := hz (lo + n + b) (by omega) hq
    omega
  rw [e1, e2, List.nil_append, List.append_nil]
theorem isTri_iff (t : Triangle) : isTriangle t = true ↔ 1 ≤ t.a ∧ t.a ≤ t.b ∧ t.b ≤ t.c ∧ t.c < t.a + t.b := by
  unfold isTriangle
  simp

/-! ### all of a perimeter -/
def rowP (p a n : Nat) : List Triangle := ((List.range n).map fun j => (⟨a, a + j, p - a - (a + j)⟩ : Triangle)).filter isTriangle
theorem rowP_zero (p a : Nat) : rowP p a 0 = [] := rfl
theorem rowP_succ (p a j : Nat) : rowP p a (j + 1) = rowP p a j ++ (if isTriangle ⟨a, a + j, p - a - (a + j)⟩ then [⟨a, a + j, p - a - (a + j)⟩] else []) := by
  unfold rowP
  rw [List.range_succ, List.map_append, List.filter_append]
  congr 1
  simp only [List.map_cons, List.map_nil, List.filter_cons, List.filter_nil]
def perP (p i : Nat) : List Triangle := (List.range i).flatMap fun i => rowP p (1 + i) ((p - (1 + i)) / 2 + 1 - (1 + i))
theorem perP_succ (p i : Nat) : perP p (i + 1) = perP p i ++ rowP p (1 + i) ((p - (1 + i)) / 2 + 1 - (1 + i)) := by
  unfold perP
  rw [List.range_succ, List.flatMap_append]
  simp
theorem rowP_all (p a : Nat) (h1 : 1 ≤ a) (h : 3 * a ≤ p) : ((List.range (p + 1 - a)).map fun b => (⟨a, b, p - a - b⟩ : Triangle)).filter isTriangle = rowP p a ((p - a) / 2 + 1 - a) := by
  refine filt_win (fun b => (⟨a, b, p - a - b⟩ : Triangle)) isTriangle a _ _ (by omega) fun b hb hq => ?_
  rw [isTri_iff] at hq
  simp only at hq
  omega
theorem perP_all (p : Nat) : perP p (p / 3) = triangles p := by
  unfold perP triangles
  rw [flat_win _ 1 (p / 3) (p + 1) (by omega)]
  · have : ∀ i ∈ List.range (p / 3), rowP p (1 + i) ((p - (1 + i)) / 2 + 1 - (1 + i)) = ((List.range (p + 1 - (1 + i))).map fun b => (⟨1 + i, b, p - (1 + i) - b⟩ : Triangle)).filter isTriangle := by
      intro i hi
      rw [List.mem_range] at hi
      exact (rowP_all p (1 + i) (by omega) (by omega)).symm
    simp only [List.flatMap_def]
    rw [List.map_congr_left this]
  · intro a ha hne
    obtain ⟨t, ht⟩ := List.exists_mem_of_ne_nil _ hne
    rw [List.mem_filter] at ht
    obtain ⟨hm, hq⟩ := ht
    obtain ⟨b, hb, rfl⟩ := List.mem_map.mp hm
    rw [isTri_iff] at hq
    simp only at hq
    omega
theorem rowP_le (p a n : Nat) : (rowP p a n).length ≤ n := by
  unfold rowP
  refine Nat.le_trans (List.length_filter_le _ _) ?_
  simp
theorem perP_le (p : Nat) : ∀ i, (perP p i).length ≤ i * (p + 1)
  | 0 => by simp [perP]
  | i + 1 => by
    rw [perP_succ, List.length_append, Nat.succ_mul]
    have h1 := perP_le p i
    have h2 := rowP_le p (1 + i) ((p - (1 + i)) / 2 + 1 - (1 + i))
    omega
theorem triangles_le (p : Nat) : (triangles p).length ≤ p * (p + 1) := by
  rw [← perP_all]
  refine Nat.le_trans (perP_le p _) (Nat.mul_le_mul_right _ (Nat.div_le_self _ _))

/-! ### all of a longest side -/
def rowL (c a n : Nat) : List Triangle := ((List.range n).map fun j => (⟨a, a + j, c⟩ : Triangle)).filter isTriangle
theorem rowL_zero (c a : Nat) : rowL c a 0 = [] := rfl
theorem rowL_succ (c a j : Nat) : rowL c a (j + 1) = rowL c a j ++ (if isTriangle ⟨a, a + j, c⟩ then [⟨a, a + j, c⟩] else []) := by
  unfold rowL
  rw [List.range_succ, List.map_append, List.filter_append]
  congr 1
  simp only [List.map_cons, List.map_nil, List.filter_cons, List.filter_nil]
def lonP (c i : Nat) : List Triangle := (List.range i).flatMap fun i => rowL c (1 + i) (c + 1 - (1 + i))
theorem lonP_succ (c i : Nat) : lonP c (i + 1) = lonP c i ++ rowL c (1 + i) (c + 1 - (1 + i)) := by
  unfold lonP
  rw [List.range_succ, List.flatMap_append]
  simp
theorem lonP_all (c : Nat) : lonP c c = byLongest c := by
  unfold lonP byLongest
  rw [flat_win _ 1 c (c + 1) (by omega)]
  · have : ∀ i ∈ List.range c, rowL c (1 + i) (c + 1 - (1 + i)) = ((List.range (c + 1)).map fun b => (⟨1 + i, b, c⟩ : Triangle)).filter isTriangle := by
      intro i hi
      rw [List.mem_range] at hi
      refine (filt_win (fun b => (⟨1 + i, b, c⟩ : Triangle)) isTriangle (1 + i) _ _ (by omega) fun b hb hq => ?_).symm
      rw [isTri_iff] at hq
      simp only at hq
      omega
    simp only [List.flatMap_def]
    rw [List.map_congr_left this]
  · intro a ha hne
    obtain ⟨t, ht⟩ := List.exists_mem_of_ne_nil _ hne
    rw [List.mem_filter] at ht
    obtain ⟨hm, hq⟩ := ht
    obtain ⟨b, hb, rfl⟩ := List.mem_map.mp hm
    rw [isTri_iff] at hq
    simp only at hq
    omega
theorem rowL_le (c a n : Nat) : (rowL c a n).length ≤ n := by
  unfold rowL
  refine Nat.le_trans (List.length_filter_le _ _) ?_
  simp
theorem lonP_le (c : Nat) : ∀ i, (lonP c i).length ≤ i * (c + 1)
  | 0 => by simp [lonP]
  | i + 1 => by
    rw [lonP_succ, List.length_append, Nat.succ_mul]
    have h1 := lonP_le c i
    have h2 := rowL_le c (1 + i) (c + 1 - (1 + i))
    omega
theorem byLongest_le (c : Nat) : (byLongest c).length ≤ c * (c + 1) := by
  rw [← lonP_all]
  exact lonP_le c _

/-! ### counting kinds -/
def cnt (f : Triangle → Nat) (k : Nat) (l : List Triangle) : Nat := (l.filter fun t => f t == k).length
theorem kinds_cnt (f : Triangle → Nat) (l : List Triangle) : Ux05.kinds f l = [cnt f 0 l, cnt f 1 l, cnt f 2 l] := rfl
theorem cnt_nil (f : Triangle → Nat) (k : Nat) : cnt f k [] = 0 := rfl
theorem cnt_snoc (f : Triangle → Nat) (k : Nat) (l : List Triangle) (t : Triangle) : cnt f k (l ++ [t]) = cnt f k l + if f t = k then 1 else 0 := by
  unfold cnt
  rw [List.filter_append, List.length_append]
  congr 1
  by_cases h : f t = k
  · simp [h]
  · simp [h]
theorem cnt_le (f : Triangle → Nat) (k : Nat) (l : List Triangle) : cnt f k l ≤ l.length := List.length_filter_le _ _

/-! ### the first of the most, of the least -/
theorem mostBy_snoc (f : Triangle → Nat) (l : List Triangle) (t : Triangle) : Ux05.mostBy f (l ++ [t]) = some (match Ux05.mostBy f l with | none => t | some m => if f m < f t then t else m) := by
  cases l with
  | nil => rfl
  | cons u l => simp [Ux05.mostBy, List.foldl_append]
theorem leastBy_snoc (f : Triangle → Nat) (l : List Triangle) (t : Triangle) : Ux05.leastBy f (l ++ [t]) = some (match Ux05.leastBy f l with | none => t | some m => if f t < f m then t else m) := by
  cases l with
  | nil => rfl
  | cons u l => simp [Ux05.leastBy, List.foldl_append]
theorem mostBy_none (f : Triangle → Nat) (l : List Triangle) : Ux05.mostBy f l = none ↔ l = [] := by
  cases l <;> simp [Ux05.mostBy]
theorem leastBy_none (f : Triangle → Nat) (l : List Triangle) : Ux05.leastBy f l = none ↔ l = [] := by
  cases l <;> simp [Ux05.leastBy]

/-! ### areas -/
theorem area_pos {t : Triangle} (h : isTriangle t = true) : 0 < Ux05.area t := by
  rw [isTri_iff] at h
  unfold Ux05.area Ux05.perimeter
  refine Nat.mul_pos (by omega) (Nat.mul_pos (by omega) (Nat.mul_pos (by omega) (by omega)))
theorem area_int {t : Triangle} (h : isTriangle t = true) : ((Ux05.area t : Nat) : Int) = ((t.a : Int) + t.b + t.c) * ((t.a : Int) + t.b + t.c - 2 * t.a) * ((t.a : Int) + t.b + t.c - 2 * t.b) * ((t.a : Int) + t.b + t.c - 2 * t.c) := by
  rw [isTri_iff] at h
  unfold Ux05.area Ux05.perimeter
  have e1 : ((t.a + t.b + t.c - 2 * t.a : Nat) : Int) = (t.a : Int) + t.b + t.c - 2 * t.a := by omega
  have e2 : ((t.a + t.b + t.c - 2 * t.b : Nat) : Int) = (t.a : Int) + t.b + t.c - 2 * t.b := by omega
  have e3 : ((t.a + t.b + t.c - 2 * t.c : Nat) : Int) = (t.a : Int) + t.b + t.c - 2 * t.c := by omega
  rw [Int.natCast_mul, Int.natCast_mul, Int.natCast_mul, e1, e2, e3, Int.natCast_add, Int.natCast_add, Int.mul_assoc, Int.mul_assoc]
theorem tri_mem {p : Nat} {t : Triangle} (h : t ∈ triangles p) : isTriangle t = true ∧ t.a + t.b + t.c = p := by
  unfold triangles at h
  rw [List.mem_flatMap] at h
  obtain ⟨a, ha, h⟩ := h
  rw [List.mem_filter] at h
  obtain ⟨h, hq⟩ := h
  obtain ⟨b, hb, rfl⟩ := List.mem_map.mp h
  rw [List.mem_range] at ha hb
  exact ⟨hq, by simp only; omega⟩
theorem lon_mem {c : Nat} {t : Triangle} (h : t ∈ byLongest c) : isTriangle t = true ∧ t.c = c := by
  unfold byLongest at h
  rw [List.mem_flatMap] at h
  obtain ⟨a, ha, h⟩ := h
  rw [List.mem_filter] at h
  obtain ⟨h, hq⟩ := h
  obtain ⟨b, hb, rfl⟩ := List.mem_map.mp h
  exact ⟨hq, rfl⟩
/-! ### the place of a triangle -/
theorem mem_tri {t : Triangle} (h : isTriangle t = true) : t ∈ triangles (Ux05.perimeter t) := by
  have hh := (isTri_iff t).mp h
  unfold triangles Ux05.perimeter
  rw [List.mem_flatMap]
  refine ⟨t.a, List.mem_range.mpr (by omega), ?_⟩
  rw [List.mem_filter]
  refine ⟨List.mem_map.mpr ⟨t.b, List.mem_range.mpr (by omega), ?_⟩, h⟩
  have e : t.a + t.b + t.c - t.a - t.b = t.c := by omega
  rw [e]
theorem find_at {l : List Triangle} {t : Triangle} (h : t ∈ l) : l[l.findIdx (fun u => u == t)]? = some t ∧ ∀ (m : Nat) (u : Triangle), m < l.findIdx (fun u => u == t) → l[m]? = some u → u ≠ t := by
  have hlt : l.findIdx (fun u => u == t) < l.length := List.findIdx_lt_length_of_exists ⟨t, h, by simp⟩
  refine ⟨?_, fun m u hm hu => ?_⟩
  · rw [List.getElem?_eq_getElem hlt]
    have := List.findIdx_getElem (p := fun u => u == t) (xs := l) (w := hlt)
    simpa using this
  · have h1 := List.not_of_lt_findIdx hm
    obtain ⟨h2, e⟩ := List.getElem?_eq_some_iff.mp hu
    rw [e] at h1
    simpa using h1
end Mt
set_option Elab.async false
set_option linter.all false
/-! What is asked, read as calls: the list of numbers is the calls' numbers one behind another; what is due is the calls played. -/
namespace Mf
open Ux05 (Call Desk)
def cast (l : List Nat) : List Int := l.map fun (n : Nat) => (n : Int)
/-- the numbers of one call -/
inductive One : List Int → Call → Prop
  | about (p : Nat) : One [0, (p : Int)] (.about p)
  | shows : One [1] .shows
  | one (i : Nat) : One [2, (i : Int)] (.one i)
  | place (a b c : Nat) : One [3, (a : Int), (b : Int), (c : Int)] (.place a b c)
  | kinds : One [4] .kinds
  | longest (c : Nat) : One [5, (c : Int)] (.longest c)
  | area (a b c : Nat) : One [6, (a : Int), (b : Int), (c : Int)] (.area a b c)
  | greatest : One [7] .greatest
  | least : One [8] .least
  | heap (l : List Nat) : l.length ≤ 40 → One (9 :: (l.length : Int) :: cast l) (.heap l)
  | put (x : Nat) : One [10, (x : Int)] (.put x)
  | threes : One [11] .threes
  | most : One [12] .most
  | spare : One [13] .spare
  | without (n : Nat) : One [14, (n : Int)] (.without n)
inductive Lines : List Int → List Call → Prop
  | nil : Lines [] []
  | cons {u t : List Int} {c : Call} {cs : List Call} : One u c → Lines t cs → Lines (u ++ t) (c :: cs)
def run : Desk → List Call → List Int
  | _, [] => []
  | d, c :: cs => ((Ux05.step d c).2.length : Int) :: ((Ux05.step d c).2 ++ run (Ux05.step d c).1 cs)

theorem nat_ex {z : Int} (h : 0 ≤ z) : ∃ n : Nat, z = (n : Int) := ⟨z.toNat, by omega⟩
theorem cast_ex : ∀ {l : List Int}, (∀ z ∈ l, 0 ≤ z) → ∃ m : List Nat, l = cast m
  | [], _ => ⟨[], rfl⟩
  | z :: l, h => by
    obtain ⟨n, e⟩ := nat_ex (h z (by simp))
    obtain ⟨m, e2⟩ := cast_ex (l := l) fun y hy => h y (by simp [hy])
    exact ⟨n :: m, by rw [e, e2]; rfl⟩
theorem cast_toNat (m : List Nat) : (cast m).map Int.toNat = m := by
  unfold cast
  rw [List.map_map]
  conv => rhs; rw [← List.map_id m]
  rfl
theorem cast_len (m : List Nat) : (cast m).length = m.length := by simp [cast]
/-- callOf, where all numbers are Nats below the bound -/
theorem callOf_cast {m : List Nat} (h : (cast m).all Ux05Neutral.nat = true) : Ux05Neutral.callOf (cast m) = Ux05Neutral.callIn m := by
  unfold Ux05Neutral.callOf
  rw [h, cast_toNat]
  rfl

/-- one raw call that is asked: its numbers, the call that it is -/
structure Raw (c : List (List Int)) (u : List Int) (x : Call) : Prop where
  one : One u x
  is : Ux05Neutral.callOf ((PyUx05.whole c).headD []) = some x

theorem all_nn {l : List Int} (h : l.all Ux05Neutral.nat = true) : ∀ z ∈ l, 0 ≤ z := fun z hz => by
  have := List.all_eq_true.mp h z hz
  unfold Ux05Neutral.nat at this
  simp at this
  exact this.1
theorem callOf_some {l : List Int} {x : Call} (h : Ux05Neutral.callOf l = some x) : l.all Ux05Neutral.nat = true ∧ ∃ m : List Nat, l = cast m ∧ Ux05Neutral.callIn m = some x := by
  have h0 : l.all Ux05Neutral.nat = true := by
    cases e : l.all Ux05Neutral.nat with
    | true => rfl
    | false =>
      unfold Ux05Neutral.callOf at h
      rw [e] at h
      simp at h
  obtain ⟨m, rfl⟩ := cast_ex (all_nn h0)
  rw [callOf_cast h0] at h
  exact ⟨h0, m, rfl, h⟩
/-- shape's places -/
theorem shape_some {p : Int} {n k : Nat} (h : PyUx05.shape p = some (n, k)) : (p = 0 ∧ n = 1 ∧ k = 0) ∨ (p = 1 ∧ n = 0 ∧ k = 0) ∨ (p = 2 ∧ n = 1 ∧ k = 0) ∨ (p = 3 ∧ n = 3 ∧ k = 0) ∨ (p = 4 ∧ n = 0 ∧ k = 0) ∨ (p = 5 ∧ n = 1 ∧ k = 0) ∨ (p = 6 ∧ n = 3 ∧ k = 0) ∨
    (p = 7 ∧ n = 0 ∧ k = 0) ∨ (p = 8 ∧ n = 0 ∧ k = 0) ∨ (p = 9 ∧ n = 0 ∧ k = 1) ∨ (p = 10 ∧ n = 1 ∧ k = 0) ∨ (p = 11 ∧ n = 0 ∧ k = 0) ∨ (p = 12 ∧ n = 0 ∧ k = 0) ∨ (p = 13 ∧ n = 0 ∧ k = 0) ∨ (p = 14 ∧ n = 1 ∧ k = 0) := by
  unfold PyUx05.shape at h
  by_cases h0 : p = 0
  · rw [if_pos h0] at h; cases h; subst h0; simp
  rw [if_neg h0] at h
  by_cases h1 : p = 1
  · rw [if_pos h1] at h; cases h; subst h1; simp
  rw [if_neg h1] at h
  by_cases h2 : p = 2
  · rw [if_pos h2] at h; cases h; subst h2; simp
  rw [if_neg h2] at h
  by_cases h3 : p = 3
  · rw [if_pos h3] at h; cases h; subst h3; simp
  rw [if_neg h3] at h
  by_cases h4 : p = 4
  · rw [if_pos h4] at h; cases h; subst h4; simp
  rw [if_neg h4] at h
  by_cases h5 : p = 5
  · rw [if_pos h5] at h; cases h; subst h5; simp
  rw [if_neg h5] at h
  by_cases h6 : p = 6
  · rw [if_pos h6] at h; cases h; subst h6; simp
  rw [if_neg h6] at h
  by_cases h7 : p = 7
  · rw [if_pos h7] at h; cases h; subst h7; simp
  rw [if_neg h7] at h
  by_cases h8 : p = 8
  · rw [if_pos h8] at h; cases h; subst h8; simp
  rw [if_neg h8] at h
  by_cases h9 : p = 9
  · rw [if_pos h9] at h; cases h; subst h9; simp
  rw [if_neg h9] at h
  by_cases h10 : p = 10
  · rw [if_pos h10] at h; cases h; subst h10; simp
  rw [if_neg h10] at h
  by_cases h11 : p = 11
  · rw [if_pos h11] at h; cases h; subst h11; simp
  rw [if_neg h11] at h
  by_cases h12 : p = 12
  · rw [if_pos h12] at h; cases h; subst h12; simp
  rw [if_neg h12] at h
  by_cases h13 : p = 13
  · rw [if_pos h13] at h; cases h; subst h13; simp
  rw [if_neg h13] at h
  by_cases h14 : p = 14
  · rw [if_pos h14] at h; cases h; subst h14; simp
  rw [if_neg h14] at h
  cases h
theorem len1 {α : Type} : ∀ {r : List α}, ¬ r.length < 1 → ∃ x t, r = x :: t
  | [], h => by simp at h
  | x :: t, _ => ⟨x, t, rfl⟩
theorem len3 {α : Type} : ∀ {r : List α}, ¬ r.length < 3 → ∃ x y z t, r = x :: y :: z :: t
  | [], h => by simp at h
  | [_], h => by simp at h
  | [_, _], h => by simp at h
  | x :: y :: z :: t, _ => ⟨x, y, z, t, rfl⟩
theorem nat1 {p x : Int} (h : [p, x].all Ux05Neutral.nat = true) : ∃ n : Nat, x = (n : Int) := nat_ex (all_nn h x (by simp))
theorem one_of {l t : List Int} {c : List (List Int)} {x : Call} (h : PyFlat.call PyUx05.shape l = some (c, t)) (hb : PyInside.call PyUx05.bound c = true) (hx : Ux05Neutral.callOf ((PyUx05.whole c).headD []) = some x) : ∃ u, l = u ++ t ∧ One u x := by
  cases l with
  | nil => simp [PyFlat.call] at h
  | cons p r =>
    simp only [PyFlat.call] at h
    cases es : PyUx05.shape p with
    | none => rw [es] at h; simp at h
    | some nk =>
      obtain ⟨n, k⟩ := nk
      rw [es] at h
      simp only at h
      have hs := shape_some es
      by_cases hlen : r.length < n
      · rw [if_pos hlen] at h; cases h
      · rw [if_neg hlen] at h
        have k0 : k = 0 → c = [p :: r.take n] ∧ t = r.drop n := fun e => by
          subst e
          simp only [PyFlat.rows] at h
          cases h
          exact ⟨rfl, rfl⟩
        rcases hs with ⟨rfl, rfl, rfl⟩ | ⟨rfl, rfl, rfl⟩ | ⟨rfl, rfl, rfl⟩ | ⟨rfl, rfl, rfl⟩ | ⟨rfl, rfl, rfl⟩ | ⟨rfl, rfl, rfl⟩ | ⟨rfl, rfl, rfl⟩ | ⟨rfl, rfl, rfl⟩ | ⟨rfl, rfl, rfl⟩ | ⟨rfl, rfl, rfl⟩ | ⟨rfl, rfl, rfl⟩ | ⟨rfl, rfl, rfl⟩ | ⟨rfl, rfl, rfl⟩ | ⟨rfl, rfl, rfl⟩ | ⟨rfl, rfl, rfl⟩
        case inr.inr.inr.inr.inr.inr.inr.inr.inr.inl =>
          -- heap
          simp only [PyFlat.rows, List.drop_zero, List.take_zero] at h
          cases er : PyFlat.row r with
          | none => rw [er] at h; simp at h
          | some xs =>
            obtain ⟨xs, s⟩ := xs
            rw [er] at h
            simp only [Option.some.injEq, Prod.mk.injEq] at h
            obtain ⟨rfl, rfl⟩ := h
            cases r with
            | nil => simp [PyFlat.row] at er
            | cons z r =>
              simp only [PyFlat.row] at er
              by_cases hz : 0 ≤ z ∧ z.toNat ≤ r.length
              · rw [if_pos hz] at er
                simp only [Option.some.injEq, Prod.mk.injEq] at er
                obtain ⟨rfl, rfl⟩ := er
                have hx' : Ux05Neutral.callOf (9 :: r.take z.toNat) = some x := hx
                obtain ⟨hall, m, em, hin⟩ := callOf_some hx'
                cases m with
                | nil => simp [cast] at em
                | cons m0 m =>
                  have e0 : (9 : Int) = (m0 : Int) ∧ r.take z.toNat = cast m := by simpa [cast] using em
                  have e1 : m0 = 9 := by omega
                  subst e1
                  have ex : x = .heap m := by
                    have : Ux05Neutral.callIn (9 :: m) = some (.heap m) := by
                      unfold Ux05Neutral.callIn
                      rfl
                    rw [this] at hin
                    exact (Option.some.inj hin).symm
                  subst ex
                  have hl : m.length = z.toNat := by
                    rw [← cast_len m, ← e0.2, List.length_take]
                    omega
                  refine ⟨9 :: z :: r.take z.toNat, by simp [List.take_append_drop], ?_⟩
                  have hz' : z = (m.length : Int) := by omega
                  rw [e0.2]
                  rw [hz']
                  refine .heap m ?_
                  have hb' : PyInside.lists [(0, 4294967295, 0, 40)] [r.take z.toNat] = true := by
                    have : (PyInside.each [] [] && PyInside.lists [(0, 4294967295, 0, 40)] [r.take z.toNat]) = true := hb
                    simpa [PyInside.each] using this
                  simp [PyInside.lists] at hb'
                  rw [← cast_len m, ← e0.2]
                  simp
                  omega
              · rw [if_neg hz] at er; cases er
        all_goals
          obtain ⟨rfl, rfl⟩ := k0 rfl
          first
          | (obtain ⟨a, b, c, t, rfl⟩ := len3 hlen
             have hx' : Ux05Neutral.callOf [_, a, b, c] = some x := hx
             obtain ⟨hall, _⟩ := callOf_some hx'
             obtain ⟨a, rfl⟩ := nat_ex (all_nn hall a (by simp))
             obtain ⟨b, rfl⟩ := nat_ex (all_nn hall b (by simp))
             obtain ⟨c, rfl⟩ := nat_ex (all_nn hall c (by simp))
             have e := hx'
             unfold Ux05Neutral.callOf at e
             rw [hall] at e
             cases (Option.some.inj e)
             exact ⟨[_, (a : Int), (b : Int), (c : Int)], rfl, by constructor⟩)
          | (obtain ⟨a, t, rfl⟩ := len1 hlen
             have hx' : Ux05Neutral.callOf [_, a] = some x := hx
             obtain ⟨hall, _⟩ := callOf_some hx'
             obtain ⟨a, rfl⟩ := nat_ex (all_nn hall a (by simp))
             have e := hx'
             unfold Ux05Neutral.callOf at e
             rw [hall] at e
             cases (Option.some.inj e)
             exact ⟨[_, (a : Int)], rfl, by constructor⟩)
          | (have hx' : Ux05Neutral.callOf [_] = some x := hx
             cases (Option.some.inj hx')
             exact ⟨[_], rfl, by constructor⟩)
theorem lines_of : ∀ (f : Nat) (l : List Int) (raw : List (List (List Int))), PyFlat.calls PyUx05.shape f l = some raw → PyInside.calls PyUx05.bound raw = true → ((raw.map PyUx05.whole).map fun c => c.headD []).all Ux05Neutral.asked1 = true →
    ∃ cs, Lines l cs ∧ cs.length = raw.length ∧ ∀ d : Desk, PyFlat.told (PyFlat.played (fun s c => Ux05Neutral.step s (c.headD [])) d (raw.map PyUx05.whole)) = run d cs
  | f, [], raw, h, _, _ => by
    have e : raw = [] := by
      cases f <;> (simp [PyFlat.calls] at h; exact h)
    subst e
    exact ⟨[], .nil, rfl, fun d => rfl⟩
  | 0, p :: r, raw, h, _, _ => by simp [PyFlat.calls] at h
  | f + 1, p :: r, raw, h, hb, ha => by
    simp only [PyFlat.calls] at h
    cases ec : PyFlat.call PyUx05.shape (p :: r) with
    | none => rw [ec] at h; simp at h
    | some ct =>
      obtain ⟨c, t⟩ := ct
      rw [ec] at h
      simp only at h
      cases er : PyFlat.calls PyUx05.shape f t with
      | none => rw [er] at h; simp at h
      | some raw' =>
        rw [er] at h
        simp only [Option.some.injEq] at h
        subst h
        have hb' : PyInside.call PyUx05.bound c = true ∧ PyInside.calls PyUx05.bound raw' = true := by simpa [PyInside.calls] using hb
        have ha' : Ux05Neutral.asked1 ((PyUx05.whole c).headD []) = true ∧ ((raw'.map PyUx05.whole).map fun c => c.headD []).all Ux05Neutral.asked1 = true := by
          have : (Ux05Neutral.asked1 ((PyUx05.whole c).headD []) && ((raw'.map PyUx05.whole).map fun c => c.headD []).all Ux05Neutral.asked1) = true := ha
          simpa using this
        obtain ⟨cs, h1, h2, h3⟩ := lines_of f t raw' er hb'.2 ha'.2
        obtain ⟨x, hx⟩ := Option.isSome_iff_exists.mp (show (Ux05Neutral.callOf ((PyUx05.whole c).headD [])).isSome = true from ha'.1)
        obtain ⟨u, hu, ho⟩ := one_of ec hb'.1 hx
        refine ⟨x :: cs, by rw [hu]; exact .cons ho h1, by simp [h2], fun d => ?_⟩
        have es : Ux05Neutral.step d ((PyUx05.whole c).headD []) = ((Ux05.step d x).1, (Ux05.step d x).2) := by
          unfold Ux05Neutral.step
          rw [hx]
          rfl
        show (((Ux05Neutral.step d ((PyUx05.whole c).headD [])).2.length : Int) :: (Ux05Neutral.step d ((PyUx05.whole c).headD [])).2) ++ PyFlat.told (PyFlat.played (fun s c => Ux05Neutral.step s (c.headD [])) (Ux05Neutral.step d ((PyUx05.whole c).headD [])).1 (raw'.map PyUx05.whole)) = run d (x :: cs)
        rw [es, h3]
        rfl
/-- **what is asked, as calls** -/
theorem asked_calls {l : List Int} (h : PyUx05.answers_asked l = true) : ∃ cs, Lines l cs ∧ cs.length ≤ 40 ∧ PyUx05.answers l = run Ux05.init cs := by
  unfold PyUx05.answers_asked at h
  cases e : PyFlat.calls PyUx05.shape l.length l with
  | none => rw [e] at h; simp at h
  | some raw =>
    rw [e] at h
    simp only [Bool.and_eq_true] at h
    obtain ⟨⟨⟨⟨_, hm⟩, hb⟩, ha⟩, _⟩ := h
    unfold Ux05Neutral.asked at ha
    rw [Bool.and_eq_true] at ha
    obtain ⟨cs, h1, h2, h3⟩ := lines_of _ _ _ e hb ha.1
    refine ⟨cs, h1, ?_, ?_⟩
    · rw [h2]
      unfold PyFlat.atMost at hm
      simpa using hm
    · unfold PyUx05.answers PyUx05.calls
      rw [e]
      exact h3 Ux05.init
/-! ### the desk stays within its bounds; an answer is short -/
structure Good (d : Desk) : Prop where
  p1 : 1 ≤ d.p
  p2 : d.p ≤ 200
  n : d.heap.length ≤ 16
  all : ∀ x ∈ d.heap, 1 ≤ x ∧ x ≤ 1000
theorem good_init : Good Ux05.init := ⟨by decide, by decide, by decide, fun x h => by cases h⟩
theorem stick_iff (x : Nat) : Ux05.isStick x = true ↔ 1 ≤ x ∧ x ≤ 1000 := by
  unfold Ux05.isStick
  simp
theorem good_step {d : Desk} (g : Good d) (c : Call) : Good (Ux05.step d c).1 := by
  cases c with
  | about p =>
    simp only [Ux05.step]
    split
    · exact g
    · exact ⟨by simp only; omega, by simp only; omega, g.n, g.all⟩
  | heap l =>
    simp only [Ux05.step]
    split
    · exact g
    · rename_i h
      have h1 : l.length ≤ 16 := by
        apply Classical.byContradiction
        intro h'
        exact h (.inl (by omega))
      have h2 : l.all Ux05.isStick = true := by
        cases e : l.all Ux05.isStick with
        | true => rfl
        | false => exact absurd (.inr e) h
      exact ⟨g.p1, g.p2, h1, fun x hx => (stick_iff x).mp (List.all_eq_true.mp h2 x hx)⟩
  | put x =>
    simp only [Ux05.step]
    split
    · exact g
    · rename_i h
      split
      · exact g
      · rename_i h'
        refine ⟨g.p1, g.p2, by simp only [List.length_append, List.length_cons, List.length_nil]; omega, fun y hy => ?_⟩
        rcases List.mem_append.mp hy with hy | hy
        · exact g.all y hy
        · have e : y = x := by simpa using hy
          subst e
          refine (stick_iff y).mp ?_
          cases e : Ux05.isStick y with
          | true => rfl
          | false => exact absurd e h
  | _ => exact g
theorem onward_len (n : Nat) : ∀ (f x y : Nat), (Ux05.onward n f x y).length ≤ f
  | 0, _, _ => by simp [Ux05.onward]
  | f + 1, x, y => by
    unfold Ux05.onward
    split
    · simp
    · have := onward_len n f y (x + y)
      simp only [List.length_cons]
      omega
theorem ints_len (l : List Nat) : (Ux05.ints l).length = l.length := by simp [Ux05.ints]
theorem kinds_len (f : Ux05.Triangle → Nat) (l : List Ux05.Triangle) : (Ux05.kinds f l).length = 3 := by simp [Ux05.kinds]
theorem sides_len (o : Option Ux05.Triangle) : (Ux05.sides o).length ≤ 3 := by
  cases o <;> simp [Ux05.sides, Ux05.ints]
theorem step_len {d : Desk} (g : Good d) (c : Call) : (Ux05.step d c).2.length ≤ 50 := by
  have hn := g.n
  cases c with
  | about p => simp only [Ux05.step]; split <;> simp [Ux05.ints]
  | shows => simp only [Ux05.step, Ux05.counted, List.length_cons, ints_len]; omega
  | one i => simp only [Ux05.step]; split <;> simp [Ux05.ints]
  | place a b c => simp only [Ux05.step, Ux05.onTriangle]; split; simp; split <;> simp [Ux05.ints]
  | kinds => simp only [Ux05.step, ints_len, List.length_append, kinds_len]; omega
  | longest c => simp only [Ux05.step]; split; simp; simp only [ints_len, List.length_cons, kinds_len]; omega
  | area a b c => simp only [Ux05.step, Ux05.onTriangle]; split; simp; split <;> simp [Ux05.ints]
  | greatest => have := sides_len (Ux05.mostBy Ux05.area (Ux05.triangles d.p)); simp only [Ux05.step]; omega
  | least => have := sides_len (Ux05.leastBy Ux05.area (Ux05.triangles d.p)); simp only [Ux05.step]; omega
  | heap l => simp only [Ux05.step]; split <;> simp [Ux05.ints]
  | put x => simp only [Ux05.step]; split; simp; split <;> simp [Ux05.ints]
  | threes => simp only [Ux05.step, ints_len, List.length_cons, kinds_len]; omega
  | most => have := sides_len (Ux05.greatest (Ux05.made d.heap)); simp only [Ux05.step]; omega
  | spare => simp [Ux05.step, Ux05.ints]
  | without n =>
    simp only [Ux05.step]
    split
    · simp
    · have := onward_len n 40 1 1
      simp only [Ux05.counted, Ux05.without, List.length_cons, ints_len]
      omega
end Mf
set_option Elab.async false
set_option linter.all false
namespace Mh
open Ux05 (Triangle isTriangle)
theorem snoc_ind {α : Type} {P : List α → Prop} (h0 : P []) (hs : ∀ l z, P l → P (l ++ [z])) (l : List α) : P l := by
  have h : ∀ r : List α, P r.reverse := by
    intro r
    induction r with
    | nil => exact h0
    | cons z r ih => rw [List.reverse_cons]; exact hs _ _ ih
  have := h l.reverse
  rw [List.reverse_reverse] at this
  exact this
/-! ### the first of the best, by its place -/
theorem mostBy_best {f : Triangle → Nat} {l : List Triangle} {i : Nat} {t : Triangle} (hi : l[i]? = some t) (hb : ∀ (j : Nat) (u : Triangle), l[j]? = some u → f u ≤ f t ∧ (j < i → f u < f t)) : Ux05.mostBy f l = some t := by
  have key : ∀ l : List Triangle, l ≠ [] → ∃ (i : Nat) (m : Triangle), Ux05.mostBy f l = some m ∧ l[i]? = some m ∧ ∀ (j : Nat) (u : Triangle), l[j]? = some u → f u ≤ f m ∧ (j < i → f u < f m) := by
    intro l
    induction l using snoc_ind with
    | h0 => intro h; exact absurd rfl h
    | hs l z ih =>
      intro _
      rw [Mt.mostBy_snoc]
      by_cases hl : l = []
      · subst hl
        refine ⟨0, z, rfl, rfl, fun j u hu => ?_⟩
        cases j with
        | zero => cases (Option.some.inj hu); exact ⟨Nat.le_refl _, fun h => absurd h (Nat.lt_irrefl _)⟩
        | succ j => simp at hu
      · obtain ⟨i, m, e, hm, hbest⟩ := ih hl
        rw [e]
        simp only
        have hil : i < l.length := (List.getElem?_eq_some_iff.mp hm).1
        by_cases hlt : f m < f z
        · rw [if_pos hlt]
          refine ⟨l.length, z, rfl, by simp, fun j u hu => ?_⟩
          by_cases hj : j < l.length
          · rw [List.getElem?_append_left hj] at hu
            have := (hbest j u hu).1
            exact ⟨by omega, fun _ => by omega⟩
          · rw [List.getElem?_append_right (by omega)] at hu
            have hz : j - l.length = 0 := by
              cases e : j - l.length with
              | zero => rfl
              | succ n => rw [e] at hu; simp at hu
            rw [hz] at hu
            cases (Option.some.inj hu)
            exact ⟨Nat.le_refl _, fun h => by omega⟩
        · rw [if_neg hlt]
          refine ⟨i, m, rfl, by rw [List.getElem?_append_left hil]; exact hm, fun j u hu => ?_⟩
          by_cases hj : j < l.length
          · rw [List.getElem?_append_left hj] at hu
            exact hbest j u hu
          · rw [List.getElem?_append_right (by omega)] at hu
            have hz : j - l.length = 0 := by
              cases e : j - l.length with
              | zero => rfl
              | succ n => rw [e] at hu; simp at hu
            rw [hz] at hu
            cases (Option.some.inj hu)
            exact ⟨by omega, fun h => by omega⟩
  obtain ⟨i', m, e, hm, hbest⟩ := key l (fun e => by subst e; simp at hi)
  rw [e]
  have h1 := hb i' m hm
  have h2 := hbest i t hi
  have : i = i' := by
    rcases Nat.lt_trichotomy i i' with h | h | h
    · have := h2.2 h; omega
    · exact h
    · have := h1.2 h; omega
  subst this
  rw [hi] at hm
  cases hm
  rfl
theorem leastBy_best {f : Triangle → Nat} {l : List Triangle} {i : Nat} {t : Triangle} (hi : l[i]? = some t) (hb : ∀ (j : Nat) (u : Triangle), l[j]? = some u → f t ≤ f u ∧ (j < i → f t < f u)) : Ux05.leastBy f l = some t := by
  have key : ∀ l : List Triangle, l ≠ [] → ∃ (i : Nat) (m : Triangle), Ux05.leastBy f l = some m ∧ l[i]? = some m ∧ ∀ (j : Nat) (u : Triangle), l[j]? = some u → f m ≤ f u ∧ (j < i → f m < f u) := by
    intro l
    induction l using snoc_ind with
    | h0 => intro h; exact absurd rfl h
    | hs l z ih =>
      intro _
      rw [Mt.leastBy_snoc]
      by_cases hl : l = []
      · subst hl
        refine ⟨0, z, rfl, rfl, fun j u hu => ?_⟩
        cases j with
        | zero => cases (Option.some.inj hu); exact ⟨Nat.le_refl _, fun h => absurd h (Nat.lt_irrefl _)⟩
        | succ j => simp at hu
      · obtain ⟨i, m, e, hm, hbest⟩ := ih hl
        rw [e]
        simp only
        have hil : i < l.length := (List.getElem?_eq_some_iff.mp hm).1
        by_cases hlt : f z < f m
        · rw [if_pos hlt]
          refine ⟨l.length, z, rfl, by simp, fun j u hu => ?_⟩
          by_cases hj : j < l.length
          · rw [List.getElem?_append_left hj] at hu
            have := (hbest j u hu).1
            exact ⟨by omega, fun _ => by omega⟩
          · rw [List.getElem?_append_right (by omega)] at hu
            have hz : j - l.length = 0 := by
              cases e : j - l.length with
              | zero => rfl
              | succ n => rw [e] at hu; simp at hu
            rw [hz] at hu
            cases (Option.some.inj hu)
            exact ⟨Nat.le_refl _, fun h => by omega⟩
        · rw [if_neg hlt]
          refine ⟨i, m, rfl, by rw [List.getElem?_append_left hil]; exact hm, fun j u hu => ?_⟩
          by_cases hj : j < l.length
          · rw [List.getElem?_append_left hj] at hu
            exact hbest j u hu
          · rw [List.getElem?_append_right (by omega)] at hu
            have hz : j - l.length = 0 := by
              cases e : j - l.length with
              | zero => rfl
              | succ n => rw [e] at hu; simp at hu
            rw [hz] at hu
            cases (Option.some.inj hu)
            exact ⟨by omega, fun h => by omega⟩
  obtain ⟨i', m, e, hm, hbest⟩ := key l (fun e => by subst e; simp at hi)
  rw [e]
  have h1 := hb i' m hm
  have h2 := hbest i t hi
  have : i = i' := by
    rcases Nat.lt_trichotomy i i' with h | h | h
    · have := h2.2 h; omega
    · exact h
    · have := h1.2 h; omega
  subst this
  rw [hi] at hm
  cases hm
  rfl
end Mh
set_option Elab.async false
set_option linter.all false
/-! sorted; threes of a heap, as the loops find them; the greatest; sticks that can be left; the two before together -/
namespace Mh
open Ux05 (Triangle isTriangle)
/-! ### sorted -/
theorem put_perm (x : Nat) : ∀ l : List Nat, (Ux05.put x l).Perm (x :: l)
  | [] => List.Perm.refl _
  | y :: l => by
    unfold Ux05.put
    by_cases h : x ≤ y
    · rw [if_pos h]
    · rw [if_neg h]
      exact ((put_perm x l).cons y).trans (List.Perm.swap x y l)
theorem sorted_perm : ∀ l : List Nat, (Ux05.sorted l).Perm l
  | [] => List.Perm.refl _
  | x :: l => (put_perm x (Ux05.sorted l)).trans ((sorted_perm l).cons x)
theorem put_pw (x : Nat) : ∀ l : List Nat, l.Pairwise (· ≤ ·) → (Ux05.put x l).Pairwise (· ≤ ·)
  | [], _ => by simp [Ux05.put]
  | y :: l, h => by
    obtain ⟨h1, h2⟩ := List.pairwise_cons.mp h
    unfold Ux05.put
    by_cases hx : x ≤ y
    · rw [if_pos hx]
      refine List.pairwise_cons.mpr ⟨fun z hz => ?_, h⟩
      rcases List.mem_cons.mp hz with rfl | hz
      · exact hx
      · exact Nat.le_trans hx (h1 z hz)
    · rw [if_neg hx]
      refine List.pairwise_cons.mpr ⟨fun z hz => ?_, put_pw x l h2⟩
      rcases List.mem_cons.mp ((put_perm x l).mem_iff.mp hz) with rfl | hz
      · omega
      · exact h1 z hz
theorem sorted_pw : ∀ l : List Nat, (Ux05.sorted l).Pairwise (· ≤ ·)
  | [] => List.Pairwise.nil
  | x :: l => put_pw x _ (sorted_pw l)
theorem pw_unique : ∀ {l m : List Int}, l.Perm m → l.Pairwise (· ≤ ·) → m.Pairwise (· ≤ ·) → l = m
  | [], m, h, _, _ => (List.nil_perm.mp h).symm
  | x :: l, [], h, _, _ => by have := h.length_eq; simp at this
  | x :: l, y :: m, h, hl, hm => by
    obtain ⟨l1, l2⟩ := List.pairwise_cons.mp hl
    obtain ⟨m1, m2⟩ := List.pairwise_cons.mp hm
    have e : x = y := by
      have hx : x ∈ y :: m := h.mem_iff.mp List.mem_cons_self
      have hy : y ∈ x :: l := h.mem_iff.mpr List.mem_cons_self
      rcases List.mem_cons.mp hx with e | hx
      · exact e
      · rcases List.mem_cons.mp hy with e | hy
        · exact e.symm
        · exact Int.le_antisymm (l1 y hy) (m1 x hx)
    subst e
    rw [pw_unique (List.perm_cons x |>.mp h) l2 m2]
def ci (l : List Nat) : List Int := l.map fun (n : Nat) => (n : Int)
theorem ci_pw {l : List Nat} (h : l.Pairwise (· ≤ ·)) : (ci l).Pairwise (· ≤ ·) := by
  unfold ci
  rw [List.pairwise_map]
  exact h.imp fun h => Int.ofNat_le.mpr h
theorem sorted_is {l : List Nat} {ns : List Int} (hp : ns.Perm (ci l)) (hs : ns.Pairwise (· ≤ ·)) : ns = ci (Ux05.sorted l) := by
  refine pw_unique (hp.trans ?_) hs (ci_pw (sorted_pw l))
  exact ((sorted_perm l).map _).symm
/-! ### threes, as the loops find them -/
theorem pairs_snoc (z : Nat) : ∀ l : List Nat, (Ux05.pairs (l ++ [z])).Perm (Ux05.pairs l ++ l.map fun x => (x, z))
  | [] => List.Perm.refl _
  | x :: l => by
    have ih := pairs_snoc z l
    show ((l ++ [z]).map (fun y => (x, y)) ++ Ux05.pairs (l ++ [z])).Perm ((l.map (fun y => (x, y)) ++ Ux05.pairs l) ++ ((x, z) :: l.map fun x => (x, z)))
    rw [List.map_append, List.append_assoc, List.append_assoc]
    refine List.Perm.append_left _ ?_
    show ((x, z) :: Ux05.pairs (l ++ [z])).Perm (Ux05.pairs l ++ (x, z) :: l.map fun x => (x, z))
    exact (ih.cons (x, z)).trans List.perm_middle.symm
theorem threes_snoc (z : Nat) : ∀ l : List Nat, (Ux05.threes (l ++ [z])).Perm (Ux05.threes l ++ (Ux05.pairs l).map fun y => (⟨y.1, y.2, z⟩ : Triangle))
  | [] => List.Perm.refl _
  | x :: l => by
    have ih := threes_snoc z l
    show ((Ux05.pairs (l ++ [z])).map (fun y => (⟨x, y.1, y.2⟩ : Triangle)) ++ Ux05.threes (l ++ [z])).Perm (((Ux05.pairs l).map (fun y => (⟨x, y.1, y.2⟩ : Triangle)) ++ Ux05.threes l) ++ ((l.map (fun y => (x, y)) ++ Ux05.pairs l).map fun y => (⟨y.1, y.2, z⟩ : Triangle)))
    have h1 := (pairs_snoc z l).map (fun y => (⟨x, y.1, y.2⟩ : Triangle))
    rw [List.map_append] at h1
    refine (h1.append ih).trans ?_
    rw [List.append_assoc, List.append_assoc]
    refine List.Perm.append_left _ ?_
    rw [List.map_append, List.map_map, List.map_map]
    have e : (l.map ((fun y : Nat × Nat => (⟨x, y.1, y.2⟩ : Triangle)) ∘ fun x => (x, z))) = l.map ((fun y : Nat × Nat => (⟨y.1, y.2, z⟩ : Triangle)) ∘ fun y => (x, y)) := rfl
    rw [e, ← List.append_assoc, ← List.append_assoc]
    exact List.Perm.append_right _ List.perm_append_comm
section
variable (g : Nat → Nat)
def pre (n : Nat) : List Nat := (List.range n).map g
theorem pre_succ (n : Nat) : pre g (n + 1) = pre g n ++ [g n] := by
  unfold pre
  rw [List.range_succ, List.map_append]
  rfl
def rowI (k j n : Nat) : List Triangle := ((List.range n).map fun i => (⟨g i, g j, g k⟩ : Triangle)).filter isTriangle
theorem rowI_succ (k j n : Nat) : rowI g k j (n + 1) = rowI g k j n ++ (if isTriangle ⟨g n, g j, g k⟩ then [⟨g n, g j, g k⟩] else []) := by
  unfold rowI
  rw [List.range_succ, List.map_append, List.filter_append]
  congr 1
  simp only [List.map_cons, List.map_nil, List.filter_cons, List.filter_nil]
def rowJ (k n : Nat) : List Triangle := (List.range n).flatMap fun j => rowI g k j j
theorem rowJ_succ (k n : Nat) : rowJ g k (n + 1) = rowJ g k n ++ rowI g k n n := by
  unfold rowJ
  rw [List.range_succ, List.flatMap_append]
  simp
def rowK (n : Nat) : List Triangle := (List.range n).flatMap fun k => rowJ g k k
theorem rowK_succ (n : Nat) : rowK g (n + 1) = rowK g n ++ rowJ g n n := by
  unfold rowK
  rw [List.range_succ, List.flatMap_append]
  simp
theorem rowJ_perm (k : Nat) : ∀ n, (rowJ g k n).Perm (((Ux05.pairs (pre g n)).map fun y => (⟨y.1, y.2, g k⟩ : Triangle)).filter isTriangle)
  | 0 => List.Perm.refl _
  | n + 1 => by
    rw [rowJ_succ, pre_succ]
    refine ((rowJ_perm k n).append (List.Perm.refl _)).trans ?_
    have h := ((pairs_snoc (g n) (pre g n)).map (fun y => (⟨y.1, y.2, g k⟩ : Triangle))).filter isTriangle
    refine List.Perm.trans ?_ h.symm
    rw [List.map_append, List.filter_append]
    refine List.Perm.append_left _ (List.Perm.of_eq ?_)
    unfold rowI pre
    rw [List.map_map, List.map_map]
    rfl
theorem rowK_perm : ∀ n, (rowK g n).Perm ((Ux05.threes (pre g n)).filter isTriangle)
  | 0 => List.Perm.refl _
  | n + 1 => by
    rw [rowK_succ, pre_succ]
    have h := (threes_snoc (g n) (pre g n)).filter isTriangle
    rw [List.filter_append] at h
    exact ((rowK_perm n).append (rowJ_perm g n n)).trans h.symm
theorem rowI_le (k j n : Nat) : (rowI g k j n).length ≤ n := by
  unfold rowI
  refine Nat.le_trans (List.length_filter_le _ _) ?_
  simp
theorem rowJ_le (k N : Nat) : ∀ n, n ≤ N → (rowJ g k n).length ≤ n * N
  | 0, _ => by simp [rowJ]
  | n + 1, h => by
    rw [rowJ_succ, List.length_append, Nat.succ_mul]
    have h1 := rowJ_le k N n (by omega)
    have h2 := rowI_le g k n n
    omega
theorem rowK_le (N : Nat) : ∀ n, n ≤ N → (rowK g n).length ≤ n * (N * N)
  | 0, _ => by simp [rowK]
  | n + 1, h => by
    rw [rowK_succ, List.length_append, Nat.succ_mul]
    have h1 := rowK_le N n (by omega)
    have h2 := rowJ_le g n N n (by omega)
    have h3 : n * N ≤ N * N := Nat.mul_le_mul_right _ (by omega)
    omega
end
theorem pre_getD (l : List Nat) : pre (fun i => l.getD i 0) l.length = l := by
  unfold pre
  refine List.ext_getElem (by simp) fun i h1 h2 => ?_
  simp [h2]
/-! ### the greatest -/
open Ux05 (perimeter before)
structure Top (l : List Triangle) (t : Triangle) : Prop where
  mem : t ∈ l
  top : ∀ u ∈ l, perimeter u ≤ perimeter t ∧ (perimeter u = perimeter t → before u t = false)
theorem before_iff (t u : Triangle) : before t u = true ↔ t.a < u.a ∨ (t.a = u.a ∧ (t.b < u.b ∨ (t.b = u.b ∧ t.c < u.c))) := by
  unfold before
  simp
theorem before_not (t u : Triangle) : before t u = false ↔ ¬ (t.a < u.a ∨ (t.a = u.a ∧ (t.b < u.b ∨ (t.b = u.b ∧ t.c < u.c)))) := by
  rw [← before_iff]
  cases before t u <;> simp
theorem Top.uniq {l m : List Triangle} {t u : Triangle} (h : Top l t) (h' : Top m u) (hp : ∀ x, x ∈ l ↔ x ∈ m) : t = u := by
  have h1 := h.top u ((hp u).mpr h'.mem)
  have h2 := h'.top t ((hp t).mp h.mem)
  have e : perimeter t = perimeter u := Nat.le_antisymm h2.1 h1.1
  have b1 := (before_not _ _).mp (h1.2 e.symm)
  have b2 := (before_not _ _).mp (h2.2 e)
  obtain ⟨a, b, c⟩ := t
  obtain ⟨a', b', c'⟩ := u
  simp only at b1 b2
  have e1 : a = a' := by omega
  have e2 : b = b' := by omega
  have e3 : c = c' := by omega
  rw [e1, e2, e3]
theorem greatest_none {l : List Triangle} : Ux05.greatest l = none ↔ l = [] := by
  cases l <;> simp [Ux05.greatest]
theorem fold_top : ∀ (l : List Triangle) (m0 : Triangle) (seen : List Triangle), Top seen m0 →
    Top (seen ++ l) (l.foldl (fun m u => if perimeter m < perimeter u ∨ (perimeter m = perimeter u ∧ before u m = true) then u else m) m0)
  | [], m0, seen, h => by rw [List.append_nil]; exact h
  | z :: l, m0, seen, h => by
    rw [List.foldl_cons]
    have e : seen ++ z :: l = (seen ++ [z]) ++ l := by simp
    rw [e]
    refine fold_top l _ (seen ++ [z]) ?_
    by_cases hc : perimeter m0 < perimeter z ∨ (perimeter m0 = perimeter z ∧ before z m0 = true)
    · rw [if_pos hc]
      refine ⟨by simp, fun u hu => ?_⟩
      rcases List.mem_append.mp hu with hu | hu
      · obtain ⟨h1, h2⟩ := h.top u hu
        rcases hc with hc | ⟨hc, hb⟩
        · exact ⟨by omega, fun e => by omega⟩
        · refine ⟨by omega, fun e => ?_⟩
          have h3 := (before_not _ _).mp (h2 (by omega))
          rw [before_iff] at hb
          rw [before_not]
          omega
      · have e : u = z := by simpa using hu
        subst e
        refine ⟨Nat.le_refl _, fun _ => ?_⟩
        rw [before_not]
        omega
    · rw [if_neg hc]
      refine ⟨List.mem_append_left _ h.mem, fun u hu => ?_⟩
      rcases List.mem_append.mp hu with hu | hu
      · exact h.top u hu
      · have e : u = z := by simpa using hu
        subst e
        refine ⟨by omega, fun e => ?_⟩
        cases eb : before u m0 with
        | false => rfl
        | true => exact absurd (.inr ⟨e.symm, eb⟩) hc
theorem greatest_top {l : List Triangle} {t : Triangle} (h : Ux05.greatest l = some t) : Top l t := by
  cases l with
  | nil => cases h
  | cons z l =>
    have := fold_top l z [z] ⟨by simp, fun u hu => by
      have e : u = z := by simpa using hu
      subst e
      refine ⟨Nat.le_refl _, fun _ => ?_⟩
      rw [before_not]
      omega⟩
    have e := Option.some.inj h
    rw [← e]
    exact this
/-- the first greatest of a list that stands in order is the greatest of any list with the same items -/
theorem greatest_is {ts l : List Triangle} {i : Nat} {t : Triangle} (hp : ts.Perm l) (hs : ts.Pairwise fun x y => before y x = false) (hi : ts[i]? = some t) (hb : ∀ (j : Nat) (u : Triangle), ts[j]? = some u → perimeter u ≤ perimeter t ∧ (j < i → perimeter u < perimeter t)) : Ux05.greatest l = some t := by
  have htop : Top ts t := by
    refine ⟨List.mem_of_getElem? hi, fun u hu => ?_⟩
    obtain ⟨j, hj, ej⟩ := List.getElem_of_mem hu
    have hj' : ts[j]? = some u := by rw [List.getElem?_eq_getElem hj, ej]
    obtain ⟨h1, h2⟩ := hb j u hj'
    refine ⟨h1, fun e => ?_⟩
    obtain ⟨hi', ei⟩ := List.getElem?_eq_some_iff.mp hi
    rcases Nat.lt_trichotomy j i with h | h | h
    · have := h2 h; omega
    · subst h
      rw [hi] at hj'
      cases hj'
      rw [before_not]
      omega
    · have := (List.pairwise_iff_getElem.mp hs) i j hi' hj h
      rw [ei, ej] at this
      exact this
  cases e : Ux05.greatest l with
  | none =>
    rw [greatest_none] at e
    subst e
    have := htop.mem
    rw [hp.mem_iff] at this
    cases this
  | some m =>
    rw [(greatest_top e).uniq htop fun x => hp.mem_iff.symm]
theorem kinds_perm {f : Triangle → Nat} {l m : List Triangle} (h : l.Perm m) : Ux05.kinds f l = Ux05.kinds f m := by
  unfold Ux05.kinds
  refine List.map_congr_left fun k _ => ?_
  exact (h.filter _).length_eq
/-! ### sticks that can be left -/
section
variable (g : Nat → Nat)
/-- so many can be left whose last two stand at i and j -/
inductive Len : Nat → Nat → Nat → Prop
  | two {i j : Nat} : i < j → Len i j 2
  | more {h i j m : Nat} : Len h i m → i < j → g h + g i ≤ g j → Len i j (m + 1)
end
theorem Len.lt {g : Nat → Nat} {i j m : Nat} (h : Len g i j m) : i < j := by
  cases h with
  | two h => exact h
  | more _ h _ => exact h
theorem mem_subs : ∀ {l s : List Nat}, s ∈ Ux05.subs l ↔ List.Sublist s l
  | [], s => by simp [Ux05.subs]
  | x :: l, s => by
    have ih : ∀ s, s ∈ Ux05.subs l ↔ List.Sublist s l := fun s => mem_subs
    show s ∈ (Ux05.subs l).map (fun s => x :: s) ++ Ux05.subs l ↔ _
    rw [List.mem_append, List.mem_map, List.sublist_cons_iff]
    constructor
    · rintro (⟨r, hr, rfl⟩ | h)
      · exact .inr ⟨r, rfl, (ih r).mp hr⟩
      · exact .inl ((ih s).mp h)
    · rintro (h | ⟨r, rfl, hr⟩)
      · exact .inr ((ih s).mpr h)
      · exact .inl ⟨r, (ih r).mpr hr, rfl⟩
theorem free_snoc (w x y : Nat) : ∀ r : List Nat, Ux05.free (r ++ [w, x, y]) = (Ux05.free (r ++ [w, x]) && decide (w + x ≤ y))
  | [] => by simp [Ux05.free]
  | [a] => by simp [Ux05.free]
  | [a, b] => by simp [Ux05.free, Bool.and_assoc]
  | a :: b :: c :: r => by
    have ih := free_snoc w x y (b :: c :: r)
    show (decide (a + b ≤ c) && Ux05.free ((b :: c :: r) ++ [w, x, y])) = ((decide (a + b ≤ c) && Ux05.free ((b :: c :: r) ++ [w, x])) && decide (w + x ≤ y))
    rw [ih, Bool.and_assoc]
theorem sub_snoc {s l : List Nat} {z : Nat} (h : List.Sublist s (l ++ [z])) : List.Sublist s l ∨ ∃ s', s = s' ++ [z] ∧ List.Sublist s' l := by
  obtain ⟨a, b, rfl, h1, h2⟩ := List.sublist_append_iff.mp h
  rcases List.sublist_cons_iff.mp h2 with h4 | ⟨r, e, h4⟩
  · rw [List.sublist_nil.mp h4, List.append_nil]
    exact .inl h1
  · rw [e, List.sublist_nil.mp h4]
    exact .inr ⟨a, rfl, h1⟩
theorem pre_mem {g : Nat → Nat} {n x : Nat} (h : x ∈ pre g n) : ∃ i, i < n ∧ g i = x := by
  unfold pre at h
  obtain ⟨i, hi, e⟩ := List.mem_map.mp h
  exact ⟨i, List.mem_range.mp hi, e⟩
/-- what can be left has its last two at two places -/
theorem left_len {g : Nat → Nat} : ∀ (n : Nat) (r : List Nat) (x y : Nat), List.Sublist (r ++ [x, y]) (pre g n) → Ux05.free (r ++ [x, y]) = true → ∃ i j, i < j ∧ j < n ∧ g i = x ∧ g j = y ∧ Len g i j (r.length + 2)
  | 0, r, x, y, h, _ => by
    have := List.sublist_nil.mp h
    simp at this
  | n + 1, r, x, y, h, hf => by
    rw [pre_succ] at h
    rcases sub_snoc h with h | ⟨s', e, h⟩
    · obtain ⟨i, j, h1, h2, h3⟩ := left_len n r x y h hf
      exact ⟨i, j, h1, by omega, h3⟩
    · have e' : (r ++ [x]) ++ [y] = s' ++ [g n] := by rw [← e]; simp
      obtain ⟨e1, e2⟩ := List.append_inj' e' rfl
      have e3 : y = g n := by simpa using e2
      subst e1
      rcases List.eq_nil_or_concat r with rfl | ⟨r', w, er⟩
      · have hx : x ∈ pre g n := by
          have := h.subset (show x ∈ [] ++ [x] by simp)
          exact this
        obtain ⟨i, hi, ei⟩ := pre_mem hx
        exact ⟨i, n, hi, by omega, ei, e3.symm, .two hi⟩
      · rw [List.concat_eq_append] at er
        subst er
        have ef : r' ++ [w] ++ [x, y] = r' ++ [w, x, y] := by simp
        rw [ef, free_snoc, Bool.and_eq_true] at hf
        have eh : r' ++ [w] ++ [x] = r' ++ [w, x] := by simp
        rw [eh] at h
        obtain ⟨i, j, h1, h2, h3, h4, h5⟩ := left_len n r' w x h hf.1
        refine ⟨j, n, h2, by omega, h4, e3.symm, ?_⟩
        have := of_decide_eq_true hf.2
        have hm := Len.more h5 h2 (by rw [h3, h4, ← e3]; exact this)
        have el : (r' ++ [w]).length + 2 = r'.length + 2 + 1 := by simp
        rw [el]
        exact hm
theorem pre_le {g : Nat → Nat} {m n : Nat} (h : m ≤ n) : List.Sublist (pre g m) (pre g n) := by
  have e : n = m + (n - m) := by omega
  rw [e]
  unfold pre
  rw [List.range_add, List.map_append]
  exact List.sublist_append_left _ _
theorem len_left {g : Nat → Nat} {i j m : Nat} (h : Len g i j m) : ∃ r : List Nat, List.Sublist (r ++ [g i, g j]) (pre g (j + 1)) ∧ Ux05.free (r ++ [g i, g j]) = true ∧ r.length + 2 = m := by
  induction h with
  | @two i j h =>
    refine ⟨[], ?_, rfl, rfl⟩
    rw [pre_succ]
    have h1 : List.Sublist [g i] (pre g j) := by
      refine List.Sublist.trans ?_ (pre_le (g := g) (show i + 1 ≤ j by omega))
      rw [pre_succ]
      exact List.sublist_append_right _ _
    exact h1.append (List.Sublist.refl [g j])
  | @more h i j m hl hij hg ih =>
    obtain ⟨r, h1, h2, h3⟩ := ih
    refine ⟨r ++ [g h], ?_, ?_, by simp; omega⟩
    · have e : r ++ [g h] ++ [g i, g j] = (r ++ [g h, g i]) ++ [g j] := by simp
      rw [e, pre_succ]
      exact (h1.trans (pre_le (show i + 1 ≤ j by omega))).append (List.Sublist.refl [g j])
    · have e : r ++ [g h] ++ [g i, g j] = r ++ [g h, g i, g j] := by simp
      rw [e, free_snoc, h2]
      simpa using hg
theorem fold_max : ∀ (l : List (List Nat)) (m0 : Nat), m0 ≤ l.foldl (fun m s => max m s.length) m0 ∧ (∀ s ∈ l, s.length ≤ l.foldl (fun m s => max m s.length) m0) ∧ (l.foldl (fun m s => max m s.length) m0 = m0 ∨ ∃ s ∈ l, s.length = l.foldl (fun m s => max m s.length) m0)
  | [], m0 => ⟨Nat.le_refl _, fun s h => (List.not_mem_nil h).elim, .inl rfl⟩
  | z :: l, m0 => by
    obtain ⟨h1, h2, h3⟩ := fold_max l (max m0 z.length)
    rw [List.foldl_cons]
    refine ⟨by omega, fun s hs => ?_, ?_⟩
    · rcases List.mem_cons.mp hs with rfl | hs
      · omega
      · exact h2 s hs
    · rcases h3 with h3 | ⟨s, hs, e⟩
      · by_cases hz : z.length ≤ m0
        · left; rw [h3]; omega
        · right; exact ⟨z, List.mem_cons_self, by rw [h3]; omega⟩
      · exact .inr ⟨s, List.mem_cons_of_mem _ hs, e⟩
/-- how many can be left, by what the loops reckon -/
theorem spare_is {h : List Nat} {g : Nat → Nat} {most : Nat} (hl : pre g h.length = Ux05.sorted h) (h1 : most = min h.length 2 ∨ ∃ i j, j < h.length ∧ Len g i j most) (h2 : min h.length 2 ≤ most) (h3 : ∀ i j m, j < h.length → Len g i j m → m ≤ most) : Ux05.spare h = h.length - most := by
  unfold Ux05.spare
  congr 1
  generalize hF : (Ux05.subs (Ux05.sorted h)).filter Ux05.free = F
  obtain ⟨f1, f2, f3⟩ := fold_max F 0
  generalize hM : F.foldl (fun m s => max m s.length) 0 = M at f1 f2 f3
  have mem : ∀ s, s ∈ F ↔ List.Sublist s (pre g h.length) ∧ Ux05.free s = true := fun s => by
    rw [← hF, List.mem_filter, mem_subs, hl]
  refine Nat.le_antisymm ?_ ?_
  · -- none is longer
    rcases f3 with f3 | ⟨s, hs, e⟩
    · omega
    · obtain ⟨s1, s2⟩ := (mem s).mp hs
      have hle : s.length ≤ h.length := by
        have := s1.length_le
        unfold pre at this
        simpa using this
      by_cases hs2 : s.length < 2
      · omega
      · rcases List.eq_nil_or_concat s with rfl | ⟨r1, y, e1⟩
        · simp at hs2
        · rw [List.concat_eq_append] at e1
          rcases List.eq_nil_or_concat r1 with rfl | ⟨r, x, e2⟩
          · subst e1
            simp at hs2
          · rw [List.concat_eq_append] at e2
            subst e2
            have e3 : s = r ++ [x, y] := by rw [e1]; simp
            subst e3
            obtain ⟨i, j, _, hj, _, _, hL⟩ := left_len _ r x y s1 s2
            have := h3 i j _ hj hL
            simp at e
            omega
  · -- and one is as long
    rcases h1 with h1 | ⟨i, j, hj, hL⟩
    · have hs : ∃ s, s ∈ F ∧ s.length = most := by
        rcases Nat.lt_or_ge h.length 2 with hn | hn
        · refine ⟨pre g h.length, (mem _).mpr ⟨List.Sublist.refl _, ?_⟩, ?_⟩
          · have hlen : (pre g h.length).length < 2 := by unfold pre; simpa using hn
            match hp : pre g h.length, hlen with
            | [], _ => rfl
            | [_], _ => rfl
          · unfold pre
            simp
            clear f3
            omega
        · refine ⟨[g 0, g 1], (mem _).mpr ⟨?_, rfl⟩, by simp; clear f3; omega⟩
          exact pre_le (g := g) hn
      obtain ⟨s, hs, e⟩ := hs
      rw [← e]
      exact f2 s hs
    · obtain ⟨r, r1, r2, r3⟩ := len_left hL
      have := f2 _ ((mem _).mpr ⟨r1.trans (pre_le hj), r2⟩)
      simp at this
      omega
/-! ### the two before together -/
def fb : Nat → Nat × Nat
  | 0 => (1, 1)
  | k + 1 => ((fb k).2, (fb k).1 + (fb k).2)
theorem fb_40 : 1000000 < (fb 40).1 + (fb 40).2 := by decide +kernel
theorem onward_step {n x y f : Nat} (h : x + y ≤ n) : Ux05.onward n (f + 1) x y = (x + y) :: Ux05.onward n f y (x + y) := by
  show (if n < x + y then [] else (x + y) :: Ux05.onward n f y (x + y)) = _
  rw [if_neg (by omega)]
theorem onward_end {n x y : Nat} (h : n < x + y) : ∀ f, Ux05.onward n f x y = []
  | 0 => rfl
  | f + 1 => by
    show (if n < x + y then [] else (x + y) :: Ux05.onward n f y (x + y)) = _
    rw [if_pos h]
end Mh
namespace Mh
theorem Len.le {g : Nat → Nat} {i j m : Nat} (h : Len g i j m) : m ≤ j + 1 := by
  induction h with
  | two h => omega
  | more _ h _ ih => omega
theorem Len.two_le {g : Nat → Nat} {i j m : Nat} (h : Len g i j m) : 2 ≤ m := by
  induction h with
  | two h => omega
  | more _ h _ ih => omega
/-- what stands in order rises with its places -/
theorem rises {l : List Nat} (h : l.Pairwise (· ≤ ·)) {i j : Nat} (hij : i < j) (hj : j < l.length) : l.getD i 0 ≤ l.getD j 0 := by
  have := (List.pairwise_iff_getElem.mp h) i j (by omega) hj hij
  have e1 : l.getD i 0 = l[i] := by simp [show i < l.length by omega]
  have e2 : l.getD j 0 = l[j] := by simp [hj]
  rw [e1, e2]
  exact this
theorem getD_mem' {l : List Nat} {i : Nat} (hi : i < l.length) : l.getD i 0 ∈ l := by
  have e1 : l.getD i 0 = l[i] := by simp [hi]
  rw [e1]
  exact List.getElem_mem hi
end Mh
set_option Elab.async false
set_option linter.all false
set_option maxRecDepth 100000
namespace Tri
open PySem PySem.Spec PyProof.Rows L2
open Ux05 (Triangle isTriangle triangles byLongest)
def top (i : Nat) : Stmt := PySem.Challenge.pw_threesticks_s01_answers.main.body.getD i (.Pass ⟨0, 0, 0, 0⟩)
abbrev s_is_triangle : Stmt := top 1
abbrev s_of_perimeter : Stmt := top 2
abbrev s_of_longest : Stmt := top 3
abbrev s_count_by_sides : Stmt := top 4
abbrev s_count_by_angle : Stmt := top 5
abbrev s_sixteen_squares : Stmt := top 6
abbrev s_squares_of : Stmt := top 7
abbrev s_greatest_area : Stmt := top 8
abbrev s_least_area : Stmt := top 9
abbrev s_greatest_perimeter : Stmt := top 10
abbrev s_of_sticks : Stmt := top 11
abbrev s_most_left : Stmt := top 12
abbrev s_lengths_without : Stmt := top 13
abbrev s_Line___init__ : Stmt := inClass (top 41) 0
abbrev s_Line_about : Stmt := inClass (top 41) 1
abbrev s_Line_shows : Stmt := inClass (top 41) 2
abbrev s_Line_one : Stmt := inClass (top 41) 3
abbrev s_Line_kinds : Stmt := inClass (top 41) 4
abbrev s_Line_greatest : Stmt := inClass (top 41) 5
abbrev s_Line_least : Stmt := inClass (top 41) 6
abbrev s_Line_heap : Stmt := inClass (top 41) 7
abbrev s_Line_put : Stmt := inClass (top 41) 8
abbrev s_Line_threes : Stmt := inClass (top 41) 9
abbrev s_Line_most : Stmt := inClass (top 41) 10
abbrev s_Line_spare : Stmt := inClass (top 41) 11
abbrev s_sides_or_refusal : Stmt := top 42
abbrev s_is_side : Stmt := top 43
abbrev s_is_length : Stmt := top 44
abbrev s_refused_sides : Stmt := top 45
abbrev s_place : Stmt := top 46
abbrev s_longest : Stmt := top 47
abbrev s_area : Stmt := top 48
abbrev s_without : Stmt := top 49
abbrev s_answer_of_triangles : Stmt := top 50
abbrev s_answer_of_sticks : Stmt := top 51
abbrev s_answer : Stmt := top 52
abbrev s_end_of_call : Stmt := top 53
abbrev s_answers : Stmt := top 54
def triI (a b c : Int) : Bool := decide (0 < a ∧ a ≤ b ∧ b ≤ c ∧ c < a + b)
theorem triI_nat {a b c : Int} {t : Triangle} (ha : a = t.a) (hb : b = t.b) (hc : c = t.c) : triI a b c = isTriangle t := by
  subst ha hb hc
  rw [Bool.eq_iff_iff, Mt.isTri_iff]
  unfold triI
  rw [decide_eq_true_eq]
  omega
/-- a triangle as a tuple's items -/
def tv (t : Triangle) : List V := [.int t.a, .int t.b, .int t.c]
/-- the list at l holds these triangles, each a tuple -/
def TriL (H : Hp) (l : Addr) (ts : List Triangle) : Prop := ∃ as : List Addr, H l = some (.lst (as.map V.ref)) ∧ as.length = ts.length ∧ ∀ (j : Nat) (t : Triangle), ts[j]? = some t → ∃ a, as[j]? = some a ∧ H a = some (.tup (tv t))
theorem TriL.same {H H' : Hp} {l : Addr} {ts : List Triangle} (e : Same H H') (h : TriL H l ts) : TriL H' l ts := by
  obtain ⟨as, h1, h2, h3⟩ := h
  exact ⟨as, e _ _ h1, h2, fun j t ht => by obtain ⟨a, ha, hh⟩ := h3 j t ht; exact ⟨a, ha, e _ _ hh⟩⟩
theorem TriL.nil {H : Hp} {l : Addr} (h : H l = some (.lst [])) : TriL H l [] := ⟨[], h, rfl, fun j t ht => by simp at ht⟩
/-- one more: the tuple at p, a new list's content at l -/
theorem TriL.push {H : Hp} {l p : Addr} {ts : List Triangle} {as : List Addr} {t : Triangle} (h1 : H l = some (.lst (as.map V.ref))) (h2 : as.length = ts.length) (h3 : ∀ (j : Nat) (t : Triangle), ts[j]? = some t → ∃ a, as[j]? = some a ∧ H a = some (.tup (tv t)))
    (hp : H p = none) : TriL (upd (upd H p (.tup (tv t))) l (.lst (as.map V.ref ++ [.ref p]))) l (ts ++ [t]) := by
  refine ⟨as ++ [p], by rw [upd_same, List.map_append]; rfl, by simp [h2], fun j t' ht => ?_⟩
  have npl : p ≠ l := fun e => by rw [e, h1] at hp; cases hp
  by_cases hj : j < ts.length
  · rw [List.getElem?_append_left hj] at ht
    obtain ⟨a, ha, hh⟩ := h3 j t' ht
    refine ⟨a, by rw [List.getElem?_append_left (by omega)]; exact ha, ?_⟩
    have nal : a ≠ l := fun e => by rw [e, h1] at hh; cases hh
    rw [upd_ne nal, upd_ne (ne_of_none hh hp)]
    exact hh
  · rw [List.getElem?_append_right (by omega)] at ht
    have e0 : j - ts.length = 0 := by
      cases e : j - ts.length with
      | zero => rfl
      | succ n => rw [e] at ht; simp at ht
    rw [e0] at ht
    have e1 : t = t' := by simpa using ht
    subst e1
    refine ⟨p, by rw [List.getElem?_append_right (by omega), h2, e0]; rfl, ?_⟩
    rw [upd_ne npl, upd_same]
/-! ### promises -/
def spIsTri : Sp := fun vs H Q _ => ∃ a b c : Int, vs = [.int a, .int b, .int c] ∧ Q (.bl (triI a b c)) H
def spPer : Sp := fun vs H Q _ => ∃ p : Nat, vs = [.int p] ∧ p ≤ 300 ∧ ∀ H' l, Same H H' → H l = none → TriL H' l (triangles p) → Q (.ref l) H'
def spLon : Sp := fun vs H Q _ => ∃ c : Nat, vs = [.int c] ∧ c ≤ 300 ∧ ∀ H' l, Same H H' → H l = none → TriL H' l (byLongest c) → Q (.ref l) H'
structure Txt (mg : Str → Option Value) : Prop where
  nrange : mg "range" = none
  nlen : mg "len" = none
  nlist : mg "list" = none
  nsorted : mg "sorted" = none
  nmax : mg "max" = none
  nmin : mg "min" = none
  nsum : mg "sum" = none
  nall : mg "all" = none
  c_FIRST_PERIMETER : ∃ t, mg "FIRST_PERIMETER" = some (.int 12 t)
  c_GREATEST_PERIMETER : ∃ t, mg "GREATEST_PERIMETER" = some (.int 200 t)
  c_GREATEST_SIDE : ∃ t, mg "GREATEST_SIDE" = some (.int 100 t)
  c_GREATEST_LENGTH : ∃ t, mg "GREATEST_LENGTH" = some (.int 1000 t)
  c_MOST_STICKS : ∃ t, mg "MOST_STICKS" = some (.int 16 t)
  c_GREATEST_WITHOUT : ∃ t, mg "GREATEST_WITHOUT" = some (.int 1000000 t)
  c_OUT_OF_BOUNDS : ∃ t, mg "OUT_OF_BOUNDS" = some (.int (-1) t)
  c_NOT_A_TRIANGLE : ∃ t, mg "NOT_A_TRIANGLE" = some (.int (-2) t)
  c_NOT_THERE : ∃ t, mg "NOT_THERE" = some (.int (-3) t)
  c_HEAP_IS_FULL : ∃ t, mg "HEAP_IS_FULL" = some (.int (-5) t)
  c_NO_TRIANGLE : ∃ t, mg "NO_TRIANGLE" = some (.int (-6) t)
  c_ABOUT : ∃ t, mg "ABOUT" = some (.int 0 t)
  c_SHOWS : ∃ t, mg "SHOWS" = some (.int 1 t)
  c_ONE : ∃ t, mg "ONE" = some (.int 2 t)
  c_PLACE : ∃ t, mg "PLACE" = some (.int 3 t)
  c_KINDS : ∃ t, mg "KINDS" = some (.int 4 t)
  c_LONGEST : ∃ t, mg "LONGEST" = some (.int 5 t)
  c_AREA : ∃ t, mg "AREA" = some (.int 6 t)
  c_GREATEST : ∃ t, mg "GREATEST" = some (.int 7 t)
  c_LEAST : ∃ t, mg "LEAST" = some (.int 8 t)
  c_HEAP : ∃ t, mg "HEAP" = some (.int 9 t)
  c_PUT : ∃ t, mg "PUT" = some (.int 10 t)
  c_THREES : ∃ t, mg "THREES" = some (.int 11 t)
  c_MOST : ∃ t, mg "MOST" = some (.int 12 t)
  c_SPARE : ∃ t, mg "SPARE" = some (.int 13 t)
section
variable {P : Program} {w : World} {K : PySem.W.Frag} {mg : Str → Option Value} {base : Heap}
theorem sc_is_triangle : FnScope ["a", "b", "c"] ["a", "b", "c"] (defScope s_is_triangle) := ⟨rfl, rfl, rfl, by decide +kernel, rfl, by decide +kernel, by decide +kernel⟩
theorem ok_is_triangle {f : Addr} {fd : FuncData} (F : Fun K "is_triangle" "is_triangle" s_is_triangle f fd) : FnOk P w K mg base CX0 1 f fd ["a", "b", "c"] spIsTri := by
  refine F.ok sc_is_triangle (fun vs H Q E h => ?_) (fun cdv A outer s H vs Q E hr h => ?_)
  · obtain ⟨a, b, c, rfl, _⟩ := h
    rfl
  · obtain ⟨a, b, c, rfl, k⟩ := h
    refine ⟨_, (pss_one (ps_ret (pe_and (pe_cmpR op_lt pe_int (pv 0) (nomark _)) (pe_and (pe_cmpR op_le (pv 0) (pv 1) (nomark _)) (pe_and (pe_cmpR op_le (pv 1) (pv 2) (nomark _)) (pe_one (pe_cmpR op_lt (pv 2) (pe_op op_add (pv 0) (pv 1)) (nomark _)))))))), ?_⟩
    simp only [tSeq, tAsg, gName, tVar, tC, tOp, tUn, rI, rI0, rU, rEq, rNe, tTest, tB, tAnd, tOr, tNot, tAndV, tOrV, tNotV, tIf, tIfS, tRet, tRetN, tDrop, tNext, tNil, tCons, tLst, tTup, tCall, tAug, ipI, tCB, tBM, tBM0, gTup, gCons, gNil, tNoPart, tPart, tSl, tChain, L2.start, List.map_cons, List.map_nil, List.replicate_succ, List.replicate_zero, Nat.reduceSub, CDiv, Int.reduceLT,
    List.getElem?_cons_zero, List.getElem?_cons_succ, Option.some.injEq, V.int.injEq, V.bl.injEq, V.ref.injEq, List.cons.injEq, and_true, true_and, exists_eq_left, exists_eq_left', exists_eq_right, exists_eq_right', exists_and_left, List.set_cons_zero, List.set_cons_succ, List.append_nil, List.nil_append, List.cons_append, decide_eq_true_eq, List.length_cons, List.length_nil, Nat.reduceAdd, scal, if_true, if_false, ite_self, Int.natCast_inj, Bool.false_eq_true]
    unfold triI at k
    by_cases h1 : 0 < a
    · by_cases h2 : a ≤ b
      · by_cases h3 : b ≤ c
        · simpa only [h1, h2, h3, if_true, true_and] using k
        · simpa only [h1, h2, h3, if_true, if_false, true_and, false_and, and_false, decide_false] using k
      · simpa only [h1, h2, if_true, if_false, true_and, false_and, and_false, decide_false] using k
    · simpa only [h1, if_false, false_and, decide_false] using k
theorem sc_of_perimeter : FnScope ["p", "found", "a", "b", "c"] ["p"] (defScope s_of_perimeter) := ⟨rfl, rfl, rfl, by decide +kernel, rfl, by decide +kernel, by decide +kernel⟩
theorem ok_of_perimeter {f : Addr} {fd : FuncData} (F : Fun K "of_perimeter" "of_perimeter" s_of_perimeter f fd) (T : Txt mg) (c_is_triangle : Callee P w K mg base "is_triangle" 1 ["a", "b", "c"] spIsTri) : FnOk P w K mg base CX0 2 f fd ["p"] spPer := by
  refine F.ok sc_of_perimeter (fun vs H Q E h => ?_) (fun cdv A outer s H vs Q E hr h => ?_)
  · obtain ⟨p, rfl, _⟩ := h
    rfl
  · obtain ⟨p, rfl, hp, k⟩ := h
    refine ⟨_, (pss_cons (ps_set (i := 1) sc_of_perimeter.nd rfl (Or.inl rfl) (pe_lst pa_nil))
      (pss_cons (ps_for PassesOwn.never rfl (pi_range2 (by rfl) T.nrange (pa_cons pe_int (pa_cons (pe_op op_add (pe_op op_fdiv (pv 0) pe_int) pe_int) pa_nil))) (pg_name (i := 2) sc_of_perimeter.nd rfl (Or.inl rfl)) (pss_one (ps_for PassesOwn.never rfl (pi_range2 (by rfl) T.nrange (pa_cons (pv 2) (pa_cons (pe_op op_add (pe_op op_fdiv (pe_op op_sub (pv 0) (pv 2)) pe_int) pe_int) pa_nil))) (pg_name (i := 3) sc_of_perimeter.nd rfl (Or.inl rfl)) (pss_cons (ps_set (i := 4) sc_of_perimeter.nd rfl (Or.inl rfl) (pe_op op_sub (pe_op op_sub (pv 0) (pv 2)) (pv 3)))
      (pss_one (ps_if (pt_val (pe_own c_is_triangle (hr.mono (by decide)) (by rfl) (pa_cons (pv 2) (pa_cons (pv 3) (pa_cons (pv 4) pa_nil))))) (pss_one (ps_expr (pe_bm PySem.F.plainAttrs_list PySem.F.slot_list_append PySem.F.type_list_append mt_append (pv 1) (pa_cons (pe_tup (pa_cons (pv 2) (pa_cons (pv 3) (pa_cons (pv 4) pa_nil)))) pa_nil)))) pss_nil))))))
      (pss_one (ps_ret (pv 1))))), ?_⟩
    simp only [tSeq, tAsg, gName, tVar, tC, tOp, tUn, rI, rI0, rU, rEq, rNe, tTest, tB, tAnd, tOr, tNot, tAndV, tOrV, tNotV, tIf, tIfS, tRet, tRetN, tDrop, tNext, tNil, tCons, tLst, tTup, tCall, tAug, ipI, tCB, tBM, tBM0, gTup, gCons, gNil, tNoPart, tPart, tSl, tChain, L2.start, List.map_cons, List.map_nil, List.replicate_succ, List.replicate_zero, Nat.reduceSub, CDiv, Int.reduceLT,
    List.getElem?_cons_zero, List.getElem?_cons_succ, Option.some.injEq, V.int.injEq, V.bl.injEq, V.ref.injEq, List.cons.injEq, and_true, true_and, exists_eq_left, exists_eq_left', exists_eq_right, exists_eq_right', exists_and_left, List.set_cons_zero, List.set_cons_succ, List.append_nil, List.nil_append, List.cons_append, decide_eq_true_eq, List.length_cons, List.length_nil, Nat.reduceAdd, scal, if_true, if_false, ite_self, Int.natCast_inj, Bool.false_eq_true]
    refine ⟨Nat.zero_le _, fun l hl => ?_⟩
    refine tFor_r2 1 ((p : Int) / 3 + 1) _ (fun i σ H' => ∃ v2 v3 v4, Is [some (.int p), some (.ref l), v2, v3, v4] σ ∧ Same H H' ∧ TriL H' l (Mt.perP p i)) (fun Q h => by simp only [tSeq, tAsg, gName, tVar, tC, tOp, tUn, rI, rI0, rU, rEq, rNe, tTest, tB, tAnd, tOr, tNot, tAndV, tOrV, tNotV, tIf, tIfS, tRet, tRetN, tDrop, tNext, tNil, tCons, tLst, tTup, tCall, tAug, ipI, tCB, tBM, tBM0, gTup, gCons, gNil, tNoPart, tPart, tSl, tChain, L2.start, List.map_cons, List.map_nil, List.replicate_succ, List.replicate_zero, Nat.reduceSub, CDiv, Int.reduceLT,
    List.getElem?_cons_zero, List.getElem?_cons_succ, Option.some.injEq, V.int.injEq, V.bl.injEq, V.ref.injEq, List.cons.injEq, and_true, true_and, exists_eq_left, exists_eq_left', exists_eq_right, exists_eq_right', exists_and_left, List.set_cons_zero, List.set_cons_succ, List.append_nil, List.nil_append, List.cons_append, decide_eq_true_eq, List.length_cons, List.length_nil, Nat.reduceAdd, scal, if_true, if_false, ite_self, Int.natCast_inj, Bool.false_eq_true]; exact h) (by omega) ?_ ?_ ?_
    · exact ⟨_, _, _, .mk, (Same.refl H).new hl, TriL.nil upd_same⟩
    · rintro i σ H1 hi ⟨v2, v3, v4, ⟨⟩, s1, t1⟩
      simp only [tSeq, tAsg, gName, tVar, tC, tOp, tUn, rI, rI0, rU, rEq, rNe, tTest, tB, tAnd, tOr, tNot, tAndV, tOrV, tNotV, tIf, tIfS, tRet, tRetN, tDrop, tNext, tNil, tCons, tLst, tTup, tCall, tAug, ipI, tCB, tBM, tBM0, gTup, gCons, gNil, tNoPart, tPart, tSl, tChain, L2.start, List.map_cons, List.map_nil, List.replicate_succ, List.replicate_zero, Nat.reduceSub, CDiv, Int.reduceLT,
    List.getElem?_cons_zero, List.getElem?_cons_succ, Option.some.injEq, V.int.injEq, V.bl.injEq, V.ref.injEq, List.cons.injEq, and_true, true_and, exists_eq_left, exists_eq_left', exists_eq_right, exists_eq_right', exists_and_left, List.set_cons_zero, List.set_cons_succ, List.append_nil, List.nil_append, List.cons_append, decide_eq_true_eq, List.length_cons, List.length_nil, Nat.reduceAdd, scal, if_true, if_false, ite_self, Int.natCast_inj, Bool.false_eq_true]
      have hi' : i < p / 3 := by omega
      refine tFor_r2 (1 + (i : Int)) (((p : Int) - (1 + i)) / 2 + 1) H1 (fun j σ H' => ∃ v3 v4, Is [some (.int p), some (.ref l), some (.int (1 + i)), v3, v4] σ ∧ Same H H' ∧ TriL H' l (Mt.perP p i ++ Mt.rowP p (1 + i) j)) (fun Q h => by simp only [tSeq, tAsg, gName, tVar, tC, tOp, tUn, rI, rI0, rU, rEq, rNe, tTest, tB, tAnd, tOr, tNot, tAndV, tOrV, tNotV, tIf, tIfS, tRet, tRetN, tDrop, tNext, tNil, tCons, tLst, tTup, tCall, tAug, ipI, tCB, tBM, tBM0, gTup, gCons, gNil, tNoPart, tPart, tSl, tChain, L2.start, List.map_cons, List.map_nil, List.replicate_succ, List.replicate_zero, Nat.reduceSub, CDiv, Int.reduceLT,
    List.getElem?_cons_zero, List.getElem?_cons_succ, Option.some.injEq, V.int.injEq, V.bl.injEq, V.ref.injEq, List.cons.injEq, and_true, true_and, exists_eq_left, exists_eq_left', exists_eq_right, exists_eq_right', exists_and_left, List.set_cons_zero, List.set_cons_succ, List.append_nil, List.nil_append, List.cons_append, decide_eq_true_eq, List.length_cons, List.length_nil, Nat.reduceAdd, scal, if_true, if_false, ite_self, Int.natCast_inj, Bool.false_eq_true]; exact h) (by omega) ?_ ?_ ?_
      · exact ⟨_, _, .mk, s1, by rw [Mt.rowP_zero, List.append_nil]; exact t1⟩
      · rintro j σ H2 hj ⟨v3, v4, ⟨⟩, s2, t2⟩
        simp only [tSeq, tAsg, gName, tVar, tC, tOp, tUn, rI, rI0, rU, rEq, rNe, tTest, tB, tAnd, tOr, tNot, tAndV, tOrV, tNotV, tIf, tIfS, tRet, tRetN, tDrop, tNext, tNil, tCons, tLst, tTup, tCall, tAug, ipI, tCB, tBM, tBM0, gTup, gCons, gNil, tNoPart, tPart, tSl, tChain, L2.start, List.map_cons, List.map_nil, List.replicate_succ, List.replicate_zero, Nat.reduceSub, CDiv, Int.reduceLT,
    List.getElem?_cons_zero, List.getElem?_cons_succ, Option.some.injEq, V.int.injEq, V.bl.injEq, V.ref.injEq, List.cons.injEq, and_true, true_and, exists_eq_left, exists_eq_left', exists_eq_right, exists_eq_right', exists_and_left, List.set_cons_zero, List.set_cons_succ, List.append_nil, List.nil_append, List.cons_append, decide_eq_true_eq, List.length_cons, List.length_nil, Nat.reduceAdd, scal, if_true, if_false, ite_self, Int.natCast_inj, Bool.false_eq_true]
        have hj' : j < (p - (1 + i)) / 2 + 1 - (1 + i) := by omega
        refine ⟨_, _, _, rfl, _, rfl, ?_⟩
        have ht : triI (1 + i) (1 + i + j) (p - (1 + i) - (1 + i + j)) = isTriangle ⟨1 + i, 1 + i + j, p - (1 + i) - (1 + i + j)⟩ := triI_nat (by simp) (by simp) (by simp only; omega)
        rw [ht]
        refine ite2 (fun hc => ?_) (fun hc => ?_)
        · obtain ⟨as, h1, h2, h3⟩ := t2
          have hlen : as.length ≤ 90601 := by
            have e1 := Mt.perP_le p i
            have e2 := Mt.rowP_le p (1 + i) j
            have e3 : i * (p + 1) ≤ 100 * 301 := Nat.mul_le_mul (by omega) (by omega)
            rw [List.length_append] at h2
            omega
          refine ⟨.inl ⟨rfl, _, SqL.of h1⟩, (by decide), fun q hq => app_do (by rw [upd_ne (ne_of_none h1 hq)]; exact h1) (by rw [List.length_map]; exact Nat.lt_of_le_of_lt hlen (by decide)) ?_⟩
          refine ⟨_, _, .mk, (s2.new hq).upd hl, ?_⟩
          rw [Mt.rowP_succ, if_pos hc, ← List.append_assoc]
          have hh := TriL.push (t := ⟨1 + i, 1 + i + j, p - (1 + i) - (1 + i + j)⟩) h1 h2 h3 hq
          have ev : tv ⟨1 + i, 1 + i + j, p - (1 + i) - (1 + i + j)⟩ = [V.int (1 + i), V.int (1 + i + j), V.int (p - (1 + i) - (1 + i + j))] := by
              unfold tv
              have e : ((p - (1 + i) - (1 + i + j) : Nat) : Int) = (p : Int) - (1 + i) - (1 + i + j) := by omega
              simp only [e]
              simp
          rw [ev] at hh
          exact hh
        · exact ⟨_, _, .mk, s2, by rw [Mt.rowP_succ, if_neg hc, List.append_nil]; exact t2⟩
      · rintro σ H2 ⟨v3, v4, ⟨⟩, s2, t2⟩
        have e : ((((p : Int) - (1 + i)) / 2 + 1) - (1 + (i : Int))).toNat = (p - (1 + i)) / 2 + 1 - (1 + i) := by omega
        rw [e, ← Mt.perP_succ] at t2
        exact ⟨_, _, _, .mk, s2, t2⟩
    · rintro σ H1 ⟨v2, v3, v4, ⟨⟩, s1, t1⟩
      simp only [tSeq, tAsg, gName, tVar, tC, tOp, tUn, rI, rI0, rU, rEq, rNe, tTest, tB, tAnd, tOr, tNot, tAndV, tOrV, tNotV, tIf, tIfS, tRet, tRetN, tDrop, tNext, tNil, tCons, tLst, tTup, tCall, tAug, ipI, tCB, tBM, tBM0, gTup, gCons, gNil, tNoPart, tPart, tSl, tChain, L2.start, List.map_cons, List.map_nil, List.replicate_succ, List.replicate_zero, Nat.reduceSub, CDiv, Int.reduceLT,
    List.getElem?_cons_zero, List.getElem?_cons_succ, Option.some.injEq, V.int.injEq, V.bl.injEq, V.ref.injEq, List.cons.injEq, and_true, true_and, exists_eq_left, exists_eq_left', exists_eq_right, exists_eq_right', exists_and_left, List.set_cons_zero, List.set_cons_succ, List.append_nil, List.nil_append, List.cons_append, decide_eq_true_eq, List.length_cons, List.length_nil, Nat.reduceAdd, scal, if_true, if_false, ite_self, Int.natCast_inj, Bool.false_eq_true]
      refine k H1 l s1 hl ?_
      have e : ((p : Int) / 3 + 1 - 1).toNat = p / 3 := by omega
      rw [e, Mt.perP_all] at t1
      exact t1
end
end Tri
set_option Elab.async false
set_option linter.all false
set_option maxRecDepth 100000
namespace Tri
open PySem PySem.Spec PyProof.Rows L2
open Ux05 (Triangle isTriangle triangles byLongest)
/-- numbers as a list's items -/
def nv (l : List Nat) : List V := l.map fun (n : Nat) => V.int n
/-- a new list with these items is handed back, nothing else has changed -/
def Gives (H : Hp) (Q : VK) (zs : List V) : Prop := ∀ H' q, Same H H' → H q = none → H' q = some (.lst zs) → Q (.ref q) H'
def spSides : Sp := fun vs H Q _ => ∃ l ts, vs = [.ref l] ∧ TriL H l ts ∧ Gives H Q (nv (Ux05.kinds Ux05.likes ts))
def spAngle : Sp := fun vs H Q _ => ∃ l ts, vs = [.ref l] ∧ TriL H l ts ∧ (∀ t ∈ ts, isTriangle t = true ∧ t.c ≤ 1000) ∧ Gives H Q (nv (Ux05.kinds Ux05.angle ts))
def spSquares : Sp := fun vs H Q _ => ∃ t : Triangle, vs = tv t ∧ isTriangle t = true ∧ t.c ≤ 1000 ∧ Q (.int (Ux05.area t)) H
/-- the sides of the best one, none if there is none -/
def bestV : Option Triangle → List V
  | none => []
  | some t => tv t
def spSqOf : Sp := fun vs H Q _ => ∃ (a : Addr) (t : Triangle), vs = [.ref a] ∧ H a = some (.tup (tv t)) ∧ isTriangle t = true ∧ t.c ≤ 1000 ∧ Q (.int (Ux05.area t)) H
def spLeast : Sp := fun vs H Q _ => ∃ l ts, vs = [.ref l] ∧ TriL H l ts ∧ (∀ t ∈ ts, isTriangle t = true ∧ t.c ≤ 1000) ∧ Gives H Q (bestV (Ux05.leastBy Ux05.area ts))
def spGreat : Sp := fun vs H Q _ => ∃ l ts, vs = [.ref l] ∧ TriL H l ts ∧ (∀ t ∈ ts, isTriangle t = true ∧ t.c ≤ 1000) ∧ Gives H Q (bestV (Ux05.mostBy Ux05.area ts))
theorem at_map {α : Type} {f : α → V} {l : List α} {i : Nat} {x : V} (h : (l.map f)[i]? = some x) : ∃ a, l[i]? = some a ∧ x = f a := by
  rw [List.getElem?_map] at h
  cases e : l[i]? with
  | none => rw [e] at h; cases h
  | some a => rw [e] at h; exact ⟨a, rfl, (Option.some.inj h).symm⟩
section
variable {P : Program} {w : World} {K : PySem.W.Frag} {mg : Str → Option Value} {base : Heap}
theorem sc_of_longest : FnScope ["c", "found", "a", "b"] ["c"] (defScope s_of_longest) := ⟨rfl, rfl, rfl, by decide +kernel, rfl, by decide +kernel, by decide +kernel⟩
theorem ok_of_longest {f : Addr} {fd : FuncData} (F : Fun K "of_longest" "of_longest" s_of_longest f fd) (T : Txt mg) (c_is_triangle : Callee P w K mg base "is_triangle" 1 ["a", "b", "c"] spIsTri) : FnOk P w K mg base CX0 2 f fd ["c"] spLon := by
  refine F.ok sc_of_longest (fun vs H Q E h => ?_) (fun cdv A outer s H vs Q E hr h => ?_)
  · obtain ⟨p, rfl, _⟩ := h
    rfl
  · obtain ⟨c, rfl, hp, k⟩ := h
    refine ⟨_, (pss_cons (ps_set (i := 1) sc_of_longest.nd rfl (Or.inl rfl) (pe_lst pa_nil))
      (pss_cons (ps_for PassesOwn.never rfl (pi_range2 (by rfl) T.nrange (pa_cons pe_int (pa_cons (pe_op op_add (pv 0) pe_int) pa_nil))) (pg_name (i := 2) sc_of_longest.nd rfl (Or.inl rfl)) (pss_one (ps_for PassesOwn.never rfl (pi_range2 (by rfl) T.nrange (pa_cons (pv 2) (pa_cons (pe_op op_add (pv 0) pe_int) pa_nil))) (pg_name (i := 3) sc_of_longest.nd rfl (Or.inl rfl)) (pss_one (ps_if (pt_val (pe_own c_is_triangle (hr.mono (by decide)) (by rfl) (pa_cons (pv 2) (pa_cons (pv 3) (pa_cons (pv 0) pa_nil))))) (pss_one (ps_expr (pe_bm PySem.F.plainAttrs_list PySem.F.slot_list_append PySem.F.type_list_append mt_append (pv 1) (pa_cons (pe_tup (pa_cons (pv 2) (pa_cons (pv 3) (pa_cons (pv 0) pa_nil)))) pa_nil)))) pss_nil)))))
      (pss_one (ps_ret (pv 1))))), ?_⟩
    simp only [tSeq, tAsg, gName, tVar, tC, tOp, tUn, rI, rI0, rU, rEq, rNe, tTest, tB, tAnd, tOr, tNot, tAndV, tOrV, tNotV, tIf, tIfS, tRet, tRetN, tDrop, tNext, tNil, tCons, tLst, tTup, tCall, tAug, ipI, tCB, tBM, tBM0, gTup, gCons, gNil, tNoPart, tPart, tSl, tChain, L2.start, List.map_cons, List.map_nil, List.replicate_succ, List.replicate_zero, Nat.reduceSub, CDiv, Int.reduceLT,
    List.getElem?_cons_zero, List.getElem?_cons_succ, Option.some.injEq, V.int.injEq, V.bl.injEq, V.ref.injEq, List.cons.injEq, and_true, true_and, exists_eq_left, exists_eq_left', exists_eq_right, exists_eq_right', exists_and_left, List.set_cons_zero, List.set_cons_succ, List.append_nil, List.nil_append, List.cons_append, decide_eq_true_eq, List.length_cons, List.length_nil, Nat.reduceAdd, scal, if_true, if_false, ite_self, Int.natCast_inj, Bool.false_eq_true]
    refine ⟨Nat.zero_le _, fun l hl => ?_⟩
    refine tFor_r2 1 ((c : Int) + 1) _ (fun i σ H' => ∃ v2 v3, Is [some (.int c), some (.ref l), v2, v3] σ ∧ Same H H' ∧ TriL H' l (Mt.lonP c i)) (fun Q h => by simp only [tSeq, tAsg, gName, tVar, tC, tOp, tUn, rI, rI0, rU, rEq, rNe, tTest, tB, tAnd, tOr, tNot, tAndV, tOrV, tNotV, tIf, tIfS, tRet, tRetN, tDrop, tNext, tNil, tCons, tLst, tTup, tCall, tAug, ipI, tCB, tBM, tBM0, gTup, gCons, gNil, tNoPart, tPart, tSl, tChain, L2.start, List.map_cons, List.map_nil, List.replicate_succ, List.replicate_zero, Nat.reduceSub, CDiv, Int.reduceLT,
    List.getElem?_cons_zero, List.getElem?_cons_succ, Option.some.injEq, V.int.injEq, V.bl.injEq, V.ref.injEq, List.cons.injEq, and_true, true_and, exists_eq_left, exists_eq_left', exists_eq_right, exists_eq_right', exists_and_left, List.set_cons_zero, List.set_cons_succ, List.append_nil, List.nil_append, List.cons_append, decide_eq_true_eq, List.length_cons, List.length_nil, Nat.reduceAdd, scal, if_true, if_false, ite_self, Int.natCast_inj, Bool.false_eq_true]; exact h) (by omega) ?_ ?_ ?_
    · exact ⟨_, _, .mk, (Same.refl H).new hl, TriL.nil upd_same⟩
    · rintro i σ H1 hi ⟨v2, v3, ⟨⟩, s1, t1⟩
      simp only [tSeq, tAsg, gName, tVar, tC, tOp, tUn, rI, rI0, rU, rEq, rNe, tTest, tB, tAnd, tOr, tNot, tAndV, tOrV, tNotV, tIf, tIfS, tRet, tRetN, tDrop, tNext, tNil, tCons, tLst, tTup, tCall, tAug, ipI, tCB, tBM, tBM0, gTup, gCons, gNil, tNoPart, tPart, tSl, tChain, L2.start, List.map_cons, List.map_nil, List.replicate_succ, List.replicate_zero, Nat.reduceSub, CDiv, Int.reduceLT,
    List.getElem?_cons_zero, List.getElem?_cons_succ, Option.some.injEq, V.int.injEq, V.bl.injEq, V.ref.injEq, List.cons.injEq, and_true, true_and, exists_eq_left, exists_eq_left', exists_eq_right, exists_eq_right', exists_and_left, List.set_cons_zero, List.set_cons_succ, List.append_nil, List.nil_append, List.cons_append, decide_eq_true_eq, List.length_cons, List.length_nil, Nat.reduceAdd, scal, if_true, if_false, ite_self, Int.natCast_inj, Bool.false_eq_true]
      have hi' : i < c := by omega
      refine tFor_r2 (1 + (i : Int)) ((c : Int) + 1) H1 (fun j σ H' => ∃ v3, Is [some (.int c), some (.ref l), some (.int (1 + i)), v3] σ ∧ Same H H' ∧ TriL H' l (Mt.lonP c i ++ Mt.rowL c (1 + i) j)) (fun Q h => by simp only [tSeq, tAsg, gName, tVar, tC, tOp, tUn, rI, rI0, rU, rEq, rNe, tTest, tB, tAnd, tOr, tNot, tAndV, tOrV, tNotV, tIf, tIfS, tRet, tRetN, tDrop, tNext, tNil, tCons, tLst, tTup, tCall, tAug, ipI, tCB, tBM, tBM0, gTup, gCons, gNil, tNoPart, tPart, tSl, tChain, L2.start, List.map_cons, List.map_nil, List.replicate_succ, List.replicate_zero, Nat.reduceSub, CDiv, Int.reduceLT,
    List.getElem?_cons_zero, List.getElem?_cons_succ, Option.some.injEq, V.int.injEq, V.bl.injEq, V.ref.injEq, List.cons.injEq, and_true, true_and, exists_eq_left, exists_eq_left', exists_eq_right, exists_eq_right', exists_and_left, List.set_cons_zero, List.set_cons_succ, List.append_nil, List.nil_append, List.cons_append, decide_eq_true_eq, List.length_cons, List.length_nil, Nat.reduceAdd, scal, if_true, if_false, ite_self, Int.natCast_inj, Bool.false_eq_true]; exact h) (by omega) ?_ ?_ ?_
      · exact ⟨_, .mk, s1, by rw [Mt.rowL_zero, List.append_nil]; exact t1⟩
      · rintro j σ H2 hj ⟨v3, ⟨⟩, s2, t2⟩
        simp only [tSeq, tAsg, gName, tVar, tC, tOp, tUn, rI, rI0, rU, rEq, rNe, tTest, tB, tAnd, tOr, tNot, tAndV, tOrV, tNotV, tIf, tIfS, tRet, tRetN, tDrop, tNext, tNil, tCons, tLst, tTup, tCall, tAug, ipI, tCB, tBM, tBM0, gTup, gCons, gNil, tNoPart, tPart, tSl, tChain, L2.start, List.map_cons, List.map_nil, List.replicate_succ, List.replicate_zero, Nat.reduceSub, CDiv, Int.reduceLT,
    List.getElem?_cons_zero, List.getElem?_cons_succ, Option.some.injEq, V.int.injEq, V.bl.injEq, V.ref.injEq, List.cons.injEq, and_true, true_and, exists_eq_left, exists_eq_left', exists_eq_right, exists_eq_right', exists_and_left, List.set_cons_zero, List.set_cons_succ, List.append_nil, List.nil_append, List.cons_append, decide_eq_true_eq, List.length_cons, List.length_nil, Nat.reduceAdd, scal, if_true, if_false, ite_self, Int.natCast_inj, Bool.false_eq_true]
        have hj' : j < c + 1 - (1 + i) := by omega
        refine ⟨_, _, _, rfl, _, rfl, ?_⟩
        have ht : triI (1 + i) (1 + i + j) c = isTriangle ⟨1 + i, 1 + i + j, c⟩ := triI_nat (by simp) (by simp) rfl
        rw [ht]
        refine ite2 (fun hc => ?_) (fun hc => ?_)
        · obtain ⟨as, h1, h2, h3⟩ := t2
          have hlen : as.length ≤ 90903 := by
            have e1 := Mt.lonP_le c i
            have e2 := Mt.rowL_le c (1 + i) j
            have e3 : i * (c + 1) ≤ 300 * 301 := Nat.mul_le_mul (by omega) (by omega)
            rw [List.length_append] at h2
            omega
          refine ⟨.inl ⟨rfl, _, SqL.of h1⟩, (by decide), fun q hq => app_do (by rw [upd_ne (ne_of_none h1 hq)]; exact h1) (by rw [List.length_map]; exact Nat.lt_of_le_of_lt hlen (by decide)) ?_⟩
          refine ⟨_, .mk, (s2.new hq).upd hl, ?_⟩
          rw [Mt.rowL_succ, if_pos hc, ← List.append_assoc]
          have hh := TriL.push (t := ⟨1 + i, 1 + i + j, c⟩) h1 h2 h3 hq
          have ev : tv ⟨1 + i, 1 + i + j, c⟩ = [V.int (1 + i), V.int (1 + i + j), V.int c] := by
            unfold tv
            simp
          rw [ev] at hh
          exact hh
        · exact ⟨_, .mk, s2, by rw [Mt.rowL_succ, if_neg hc, List.append_nil]; exact t2⟩
      · rintro σ H2 ⟨v3, ⟨⟩, s2, t2⟩
        have e : (((c : Int) + 1) - (1 + (i : Int))).toNat = c + 1 - (1 + i) := by omega
        rw [e, ← Mt.lonP_succ] at t2
        exact ⟨_, _, .mk, s2, t2⟩
    · rintro σ H1 ⟨v2, v3, ⟨⟩, s1, t1⟩
      simp only [tSeq, tAsg, gName, tVar, tC, tOp, tUn, rI, rI0, rU, rEq, rNe, tTest, tB, tAnd, tOr, tNot, tAndV, tOrV, tNotV, tIf, tIfS, tRet, tRetN, tDrop, tNext, tNil, tCons, tLst, tTup, tCall, tAug, ipI, tCB, tBM, tBM0, gTup, gCons, gNil, tNoPart, tPart, tSl, tChain, L2.start, List.map_cons, List.map_nil, List.replicate_succ, List.replicate_zero, Nat.reduceSub, CDiv, Int.reduceLT,
    List.getElem?_cons_zero, List.getElem?_cons_succ, Option.some.injEq, V.int.injEq, V.bl.injEq, V.ref.injEq, List.cons.injEq, and_true, true_and, exists_eq_left, exists_eq_left', exists_eq_right, exists_eq_right', exists_and_left, List.set_cons_zero, List.set_cons_succ, List.append_nil, List.nil_append, List.cons_append, decide_eq_true_eq, List.length_cons, List.length_nil, Nat.reduceAdd, scal, if_true, if_false, ite_self, Int.natCast_inj, Bool.false_eq_true]
      refine k H1 l s1 hl ?_
      have e : ((c : Int) + 1 - 1).toNat = c := by omega
      rw [e, Mt.lonP_all] at t1
      exact t1
theorem sc_count_by_sides : FnScope ["triangles", "like", "paired", "unlike", "a", "b", "c"] ["triangles"] (defScope s_count_by_sides) := ⟨rfl, rfl, rfl, by decide +kernel, rfl, by decide +kernel, by decide +kernel⟩
theorem ok_count_by_sides {f : Addr} {fd : FuncData} (F : Fun K "count_by_sides" "count_by_sides" s_count_by_sides f fd) : FnOk P w K mg base CX0 1 f fd ["triangles"] spSides := by
  refine F.ok sc_count_by_sides (fun vs H Q E h => ?_) (fun cdv A outer s H vs Q E hr h => ?_)
  · obtain ⟨l, ts, rfl, _⟩ := h
    rfl
  · obtain ⟨l, ts, rfl, ⟨as, h1, h2, h3⟩, k⟩ := h
    refine ⟨_, (pss_cons (ps_set (i := 1) sc_count_by_sides.nd rfl (Or.inl rfl) pe_int)
      (pss_cons (ps_set (i := 2) sc_count_by_sides.nd rfl (Or.inl rfl) pe_int)
      (pss_cons (ps_set (i := 3) sc_count_by_sides.nd rfl (Or.inl rfl) pe_int)
      (pss_cons (ps_for PassesOwn.never rfl (pi_list (pv 0)) (pg_tup rfl (pgs_cons (pg_name (i := 4) sc_count_by_sides.nd rfl (Or.inl rfl)) (pgs_cons (pg_name (i := 5) sc_count_by_sides.nd rfl (Or.inl rfl)) (pgs_cons (pg_name (i := 6) sc_count_by_sides.nd rfl (Or.inl rfl)) pgs_nil)))) (pss_one (ps_if (pt_cmpR op_eq (pv 4) (pv 6) (nomark _)) (pss_one (ps_aug (i := 1) sc_count_by_sides.nd rfl (Or.inl rfl) pe_int ip_add)) (pss_one (ps_if (pw_or (pt_cmpR op_eq (pv 4) (pv 5) (nomark _)) (pw_or1 (pt_cmpR op_eq (pv 5) (pv 6) (nomark _)))).pt (pss_one (ps_aug (i := 2) sc_count_by_sides.nd rfl (Or.inl rfl) pe_int ip_add)) (pss_one (ps_aug (i := 3) sc_count_by_sides.nd rfl (Or.inl rfl) pe_int ip_add)))))))
      (pss_one (ps_ret (pe_lst (pa_cons (pv 1) (pa_cons (pv 2) (pa_cons (pv 3) pa_nil)))))))))), ?_⟩
    simp only [tSeq, tAsg, gName, tVar, tC, tOp, tUn, rI, rI0, rU, rEq, rNe, tTest, tB, tAnd, tOr, tNot, tAndV, tOrV, tNotV, tIf, tIfS, tRet, tRetN, tDrop, tNext, tNil, tCons, tLst, tTup, tCall, tAug, ipI, tCB, tBM, tBM0, gTup, gCons, gNil, tNoPart, tPart, tSl, tChain, L2.start, List.map_cons, List.map_nil, List.replicate_succ, List.replicate_zero, Nat.reduceSub, CDiv, Int.reduceLT,
    List.getElem?_cons_zero, List.getElem?_cons_succ, Option.some.injEq, V.int.injEq, V.bl.injEq, V.ref.injEq, List.cons.injEq, and_true, true_and, exists_eq_left, exists_eq_left', exists_eq_right, exists_eq_right', exists_and_left, List.set_cons_zero, List.set_cons_succ, List.append_nil, List.nil_append, List.cons_append, decide_eq_true_eq, List.length_cons, List.length_nil, Nat.reduceAdd, scal, if_true, if_false, ite_self, Int.natCast_inj, Bool.false_eq_true]
    refine tFor_l l (as.map V.ref) H (fun i σ H' => ∃ v4 v5 v6, Is [some (.ref l), some (.int (Mt.cnt Ux05.likes 0 (ts.take i))), some (.int (Mt.cnt Ux05.likes 1 (ts.take i))), some (.int (Mt.cnt Ux05.likes 2 (ts.take i))), v4, v5, v6] σ ∧ Is H H') (fun Q h => by simp only [tSeq, tAsg, gName, tVar, tC, tOp, tUn, rI, rI0, rU, rEq, rNe, tTest, tB, tAnd, tOr, tNot, tAndV, tOrV, tNotV, tIf, tIfS, tRet, tRetN, tDrop, tNext, tNil, tCons, tLst, tTup, tCall, tAug, ipI, tCB, tBM, tBM0, gTup, gCons, gNil, tNoPart, tPart, tSl, tChain, L2.start, List.map_cons, List.map_nil, List.replicate_succ, List.replicate_zero, Nat.reduceSub, CDiv, Int.reduceLT,
    List.getElem?_cons_zero, List.getElem?_cons_succ, Option.some.injEq, V.int.injEq, V.bl.injEq, V.ref.injEq, List.cons.injEq, and_true, true_and, exists_eq_left, exists_eq_left', exists_eq_right, exists_eq_right', exists_and_left, List.set_cons_zero, List.set_cons_succ, List.append_nil, List.nil_append, List.cons_append, decide_eq_true_eq, List.length_cons, List.length_nil, Nat.reduceAdd, scal, if_true, if_false, ite_self, Int.natCast_inj, Bool.false_eq_true]; exact h) ?_ ?_ ?_ ?_
    · exact ⟨_, _, _, .mk, .mk⟩
    · rintro i σ H1 hi ⟨v4, v5, v6, ⟨⟩, ⟨⟩⟩
      exact SqL.of h1
    · rintro i x σ H1 hx ⟨v4, v5, v6, ⟨⟩, ⟨⟩⟩
      obtain ⟨a, ha, rfl⟩ := at_map hx
      obtain ⟨t, ht⟩ : ∃ t, ts[i]? = some t := ⟨ts[i]'(by rw [← h2]; exact (List.getElem?_eq_some_iff.mp ha).1), List.getElem?_eq_getElem _⟩
      obtain ⟨a', ha', hh⟩ := h3 i t ht
      rw [ha] at ha'
      cases ha'
      simp only [tSeq, tAsg, gName, tVar, tC, tOp, tUn, rI, rI0, rU, rEq, rNe, tTest, tB, tAnd, tOr, tNot, tAndV, tOrV, tNotV, tIf, tIfS, tRet, tRetN, tDrop, tNext, tNil, tCons, tLst, tTup, tCall, tAug, ipI, tCB, tBM, tBM0, gTup, gCons, gNil, tNoPart, tPart, tSl, tChain, L2.start, List.map_cons, List.map_nil, List.replicate_succ, List.replicate_zero, Nat.reduceSub, CDiv, Int.reduceLT,
    List.getElem?_cons_zero, List.getElem?_cons_succ, Option.some.injEq, V.int.injEq, V.bl.injEq, V.ref.injEq, List.cons.injEq, and_true, true_and, exists_eq_left, exists_eq_left', exists_eq_right, exists_eq_right', exists_and_left, List.set_cons_zero, List.set_cons_succ, List.append_nil, List.nil_append, List.cons_append, decide_eq_true_eq, List.length_cons, List.length_nil, Nat.reduceAdd, scal, if_true, if_false, ite_self, Int.natCast_inj, Bool.false_eq_true]
      refine ⟨_, SqT.of hh, rfl, _, _, rfl, _, _, rfl, _, _, rfl, rfl, ?_⟩
      simp only [tSeq, tAsg, gName, tVar, tC, tOp, tUn, rI, rI0, rU, rEq, rNe, tTest, tB, tAnd, tOr, tNot, tAndV, tOrV, tNotV, tIf, tIfS, tRet, tRetN, tDrop, tNext, tNil, tCons, tLst, tTup, tCall, tAug, ipI, tCB, tBM, tBM0, gTup, gCons, gNil, tNoPart, tPart, tSl, tChain, L2.start, List.map_cons, List.map_nil, List.replicate_succ, List.replicate_zero, Nat.reduceSub, CDiv, Int.reduceLT,
    List.getElem?_cons_zero, List.getElem?_cons_succ, Option.some.injEq, V.int.injEq, V.bl.injEq, V.ref.injEq, List.cons.injEq, and_true, true_and, exists_eq_left, exists_eq_left', exists_eq_right, exists_eq_right', exists_and_left, List.set_cons_zero, List.set_cons_succ, List.append_nil, List.nil_append, List.cons_append, decide_eq_true_eq, List.length_cons, List.length_nil, Nat.reduceAdd, scal, if_true, if_false, ite_self, Int.natCast_inj, Bool.false_eq_true, take_snoc ht, Mt.cnt_snoc]
      have e : Ux05.likes t = if t.a = t.c then 0 else if t.a = t.b ∨ t.b = t.c then 1 else 2 := rfl
      by_cases hA : t.a = t.c
      · rw [if_pos hA] at e
        rw [if_pos hA, e]
        exact ⟨_, _, _, .mk, .mk⟩
      · rw [if_neg hA] at e
        rw [if_neg hA]
        by_cases hB : t.a = t.b
        · rw [if_pos (.inl hB)] at e
          rw [if_pos hB, e]
          exact ⟨_, _, _, .mk, .mk⟩
        · rw [if_neg hB]
          by_cases hC : t.b = t.c
          · rw [if_pos (.inr hC)] at e
            rw [if_pos hC, e]
            exact ⟨_, _, _, .mk, .mk⟩
          · rw [if_neg (by intro z; cases z <;> contradiction)] at e
            rw [if_neg hC, e]
            exact ⟨_, _, _, .mk, .mk⟩
    · rintro σ H1 ⟨v4, v5, v6, ⟨⟩, ⟨⟩⟩
      simp only [tSeq, tAsg, gName, tVar, tC, tOp, tUn, rI, rI0, rU, rEq, rNe, tTest, tB, tAnd, tOr, tNot, tAndV, tOrV, tNotV, tIf, tIfS, tRet, tRetN, tDrop, tNext, tNil, tCons, tLst, tTup, tCall, tAug, ipI, tCB, tBM, tBM0, gTup, gCons, gNil, tNoPart, tPart, tSl, tChain, L2.start, List.map_cons, List.map_nil, List.replicate_succ, List.replicate_zero, Nat.reduceSub, CDiv, Int.reduceLT,
    List.getElem?_cons_zero, List.getElem?_cons_succ, Option.some.injEq, V.int.injEq, V.bl.injEq, V.ref.injEq, List.cons.injEq, and_true, true_and, exists_eq_left, exists_eq_left', exists_eq_right, exists_eq_right', exists_and_left, List.set_cons_zero, List.set_cons_succ, List.append_nil, List.nil_append, List.cons_append, decide_eq_true_eq, List.length_cons, List.length_nil, Nat.reduceAdd, scal, if_true, if_false, ite_self, Int.natCast_inj, Bool.false_eq_true]
      refine ⟨(by decide), fun q hq => k _ q ((Same.refl H).new hq) hq ?_⟩
      rw [upd_same, List.length_map, h2, List.take_length]
      rfl
theorem sc_count_by_angle : FnScope ["triangles", "sharp", "right", "blunt", "a", "b", "c", "over"] ["triangles"] (defScope s_count_by_angle) := ⟨rfl, rfl, rfl, by decide +kernel, rfl, by decide +kernel, by decide +kernel⟩
theorem ok_count_by_angle {f : Addr} {fd : FuncData} (F : Fun K "count_by_angle" "count_by_angle" s_count_by_angle f fd) : FnOk P w K mg base CX0 1 f fd ["triangles"] spAngle := by
  refine F.ok sc_count_by_angle (fun vs H Q E h => ?_) (fun cdv A outer s H vs Q E hr h => ?_)
  · obtain ⟨l, ts, rfl, _⟩ := h
    rfl
  · obtain ⟨l, ts, rfl, ⟨as, h1, h2, h3⟩, hts, k⟩ := h
    refine ⟨_, (pss_cons (ps_set (i := 1) sc_count_by_angle.nd rfl (Or.inl rfl) pe_int)
      (pss_cons (ps_set (i := 2) sc_count_by_angle.nd rfl (Or.inl rfl) pe_int)
      (pss_cons (ps_set (i := 3) sc_count_by_angle.nd rfl (Or.inl rfl) pe_int)
      (pss_cons (ps_for PassesOwn.never rfl (pi_list (pv 0)) (pg_tup rfl (pgs_cons (pg_name (i := 4) sc_count_by_angle.nd rfl (Or.inl rfl)) (pgs_cons (pg_name (i := 5) sc_count_by_angle.nd rfl (Or.inl rfl)) (pgs_cons (pg_name (i := 6) sc_count_by_angle.nd rfl (Or.inl rfl)) pgs_nil)))) (pss_cons (ps_set (i := 7) sc_count_by_angle.nd rfl (Or.inl rfl) (pe_op op_sub (pe_op op_add (pe_op op_mul (pv 4) (pv 4)) (pe_op op_mul (pv 5) (pv 5))) (pe_op op_mul (pv 6) (pv 6))))
      (pss_one (ps_if (pt_cmpR op_gt (pv 7) pe_int (nomark _)) (pss_one (ps_aug (i := 1) sc_count_by_angle.nd rfl (Or.inl rfl) pe_int ip_add)) (pss_one (ps_if (pt_cmpR op_eq (pv 7) pe_int (nomark _)) (pss_one (ps_aug (i := 2) sc_count_by_angle.nd rfl (Or.inl rfl) pe_int ip_add)) (pss_one (ps_aug (i := 3) sc_count_by_angle.nd rfl (Or.inl rfl) pe_int ip_add))))))))
      (pss_one (ps_ret (pe_lst (pa_cons (pv 1) (pa_cons (pv 2) (pa_cons (pv 3) pa_nil)))))))))), ?_⟩
    simp only [tSeq, tAsg, gName, tVar, tC, tOp, tUn, rI, rI0, rU, rEq, rNe, tTest, tB, tAnd, tOr, tNot, tAndV, tOrV, tNotV, tIf, tIfS, tRet, tRetN, tDrop, tNext, tNil, tCons, tLst, tTup, tCall, tAug, ipI, tCB, tBM, tBM0, gTup, gCons, gNil, tNoPart, tPart, tSl, tChain, L2.start, List.map_cons, List.map_nil, List.replicate_succ, List.replicate_zero, Nat.reduceSub, CDiv, Int.reduceLT,
    List.getElem?_cons_zero, List.getElem?_cons_succ, Option.some.injEq, V.int.injEq, V.bl.injEq, V.ref.injEq, List.cons.injEq, and_true, true_and, exists_eq_left, exists_eq_left', exists_eq_right, exists_eq_right', exists_and_left, List.set_cons_zero, List.set_cons_succ, List.append_nil, List.nil_append, List.cons_append, decide_eq_true_eq, List.length_cons, List.length_nil, Nat.reduceAdd, scal, if_true, if_false, ite_self, Int.natCast_inj, Bool.false_eq_true]
    refine tFor_l l (as.map V.ref) H (fun i σ H' => ∃ v4 v5 v6 v7, Is [some (.ref l), some (.int (Mt.cnt Ux05.angle 0 (ts.take i))), some (.int (Mt.cnt Ux05.angle 1 (ts.take i))), some (.int (Mt.cnt Ux05.angle 2 (ts.take i))), v4, v5, v6, v7] σ ∧ Is H H') (fun Q h => by simp only [tSeq, tAsg, gName, tVar, tC, tOp, tUn, rI, rI0, rU, rEq, rNe, tTest, tB, tAnd, tOr, tNot, tAndV, tOrV, tNotV, tIf, tIfS, tRet, tRetN, tDrop, tNext, tNil, tCons, tLst, tTup, tCall, tAug, ipI, tCB, tBM, tBM0, gTup, gCons, gNil, tNoPart, tPart, tSl, tChain, L2.start, List.map_cons, List.map_nil, List.replicate_succ, List.replicate_zero, Nat.reduceSub, CDiv, Int.reduceLT,
    List.getElem?_cons_zero, List.getElem?_cons_succ, Option.some.injEq, V.int.injEq, V.bl.injEq, V.ref.injEq, List.cons.injEq, and_true, true_and, exists_eq_left, exists_eq_left', exists_eq_right, exists_eq_right', exists_and_left, List.set_cons_zero, List.set_cons_succ, List.append_nil, List.nil_append, List.cons_append, decide_eq_true_eq, List.length_cons, List.length_nil, Nat.reduceAdd, scal, if_true, if_false, ite_self, Int.natCast_inj, Bool.false_eq_true]; exact h) ?_ ?_ ?_ ?_
    · exact ⟨_, _, _, _, .mk, .mk⟩
    · rintro i σ H1 hi ⟨v4, v5, v6, v7, ⟨⟩, ⟨⟩⟩
      exact SqL.of h1
    · rintro i x σ H1 hx ⟨v4, v5, v6, v7, ⟨⟩, ⟨⟩⟩
      obtain ⟨a, ha, rfl⟩ := at_map hx
      obtain ⟨t, ht⟩ : ∃ t, ts[i]? = some t := ⟨ts[i]'(by rw [← h2]; exact (List.getElem?_eq_some_iff.mp ha).1), List.getElem?_eq_getElem _⟩
      obtain ⟨a', ha', hh⟩ := h3 i t ht
      rw [ha] at ha'
      cases ha'
      simp only [tSeq, tAsg, gName, tVar, tC, tOp, tUn, rI, rI0, rU, rEq, rNe, tTest, tB, tAnd, tOr, tNot, tAndV, tOrV, tNotV, tIf, tIfS, tRet, tRetN, tDrop, tNext, tNil, tCons, tLst, tTup, tCall, tAug, ipI, tCB, tBM, tBM0, gTup, gCons, gNil, tNoPart, tPart, tSl, tChain, L2.start, List.map_cons, List.map_nil, List.replicate_succ, List.replicate_zero, Nat.reduceSub, CDiv, Int.reduceLT,
    List.getElem?_cons_zero, List.getElem?_cons_succ, Option.some.injEq, V.int.injEq, V.bl.injEq, V.ref.injEq, List.cons.injEq, and_true, true_and, exists_eq_left, exists_eq_left', exists_eq_right, exists_eq_right', exists_and_left, List.set_cons_zero, List.set_cons_succ, List.append_nil, List.nil_append, List.cons_append, decide_eq_true_eq, List.length_cons, List.length_nil, Nat.reduceAdd, scal, if_true, if_false, ite_self, Int.natCast_inj, Bool.false_eq_true]
      refine ⟨_, SqT.of hh, rfl, _, _, rfl, _, _, rfl, _, _, rfl, rfl, ?_⟩
      obtain ⟨q1, q2⟩ := hts t (List.mem_of_getElem? ht)
      rw [Mt.isTri_iff] at q1
      simp only [tSeq, tAsg, gName, tVar, tC, tOp, tUn, rI, rI0, rU, rEq, rNe, tTest, tB, tAnd, tOr, tNot, tAndV, tOrV, tNotV, tIf, tIfS, tRet, tRetN, tDrop, tNext, tNil, tCons, tLst, tTup, tCall, tAug, ipI, tCB, tBM, tBM0, gTup, gCons, gNil, tNoPart, tPart, tSl, tChain, L2.start, List.map_cons, List.map_nil, List.replicate_succ, List.replicate_zero, Nat.reduceSub, CDiv, Int.reduceLT,
    List.getElem?_cons_zero, List.getElem?_cons_succ, Option.some.injEq, V.int.injEq, V.bl.injEq, V.ref.injEq, List.cons.injEq, and_true, true_and, exists_eq_left, exists_eq_left', exists_eq_right, exists_eq_right', exists_and_left, List.set_cons_zero, List.set_cons_succ, List.append_nil, List.nil_append, List.cons_append, decide_eq_true_eq, List.length_cons, List.length_nil, Nat.reduceAdd, scal, if_true, if_false, ite_self, Int.natCast_inj, Bool.false_eq_true, take_snoc ht, Mt.cnt_snoc]
      refine ⟨.inl (by omega), .inl (by omega), .inl (by omega), ?_⟩
      have e : Ux05.angle t = if t.c * t.c < t.a * t.a + t.b * t.b then 0 else if t.c * t.c = t.a * t.a + t.b * t.b then 1 else 2 := rfl
      have c1 : (0 : Int) < (t.a : Int) * t.a + t.b * t.b - t.c * t.c ↔ t.c * t.c < t.a * t.a + t.b * t.b := by
        rw [← Int.natCast_mul, ← Int.natCast_mul, ← Int.natCast_mul]
        omega
      have c2 : (t.a : Int) * t.a + t.b * t.b - t.c * t.c = 0 ↔ t.c * t.c = t.a * t.a + t.b * t.b := by
        rw [← Int.natCast_mul, ← Int.natCast_mul, ← Int.natCast_mul]
        omega
      by_cases hA : t.c * t.c < t.a * t.a + t.b * t.b
      · rw [if_pos hA] at e
        rw [if_pos (c1.mpr hA), e]
        exact ⟨_, _, _, _, .mk, .mk⟩
      · rw [if_neg hA] at e
        rw [if_neg (fun z => hA (c1.mp z))]
        by_cases hB : t.c * t.c = t.a * t.a + t.b * t.b
        · rw [if_pos hB] at e
          rw [if_pos (c2.mpr hB), e]
          exact ⟨_, _, _, _, .mk, .mk⟩
        · rw [if_neg hB] at e
          rw [if_neg (fun z => hB (c2.mp z)), e]
          exact ⟨_, _, _, _, .mk, .mk⟩
    · rintro σ H1 ⟨v4, v5, v6, v7, ⟨⟩, ⟨⟩⟩
      simp only [tSeq, tAsg, gName, tVar, tC, tOp, tUn, rI, rI0, rU, rEq, rNe, tTest, tB, tAnd, tOr, tNot, tAndV, tOrV, tNotV, tIf, tIfS, tRet, tRetN, tDrop, tNext, tNil, tCons, tLst, tTup, tCall, tAug, ipI, tCB, tBM, tBM0, gTup, gCons, gNil, tNoPart, tPart, tSl, tChain, L2.start, List.map_cons, List.map_nil, List.replicate_succ, List.replicate_zero, Nat.reduceSub, CDiv, Int.reduceLT,
    List.getElem?_cons_zero, List.getElem?_cons_succ, Option.some.injEq, V.int.injEq, V.bl.injEq, V.ref.injEq, List.cons.injEq, and_true, true_and, exists_eq_left, exists_eq_left', exists_eq_right, exists_eq_right', exists_and_left, List.set_cons_zero, List.set_cons_succ, List.append_nil, List.nil_append, List.cons_append, decide_eq_true_eq, List.length_cons, List.length_nil, Nat.reduceAdd, scal, if_true, if_false, ite_self, Int.natCast_inj, Bool.false_eq_true]
      refine ⟨(by decide), fun q hq => k _ q ((Same.refl H).new hq) hq ?_⟩
      rw [upd_same, List.length_map, h2, List.take_length]
      rfl
theorem sc_sixteen_squares : FnScope ["a", "b", "c", "p"] ["a", "b", "c"] (defScope s_sixteen_squares) := ⟨rfl, rfl, rfl, by decide +kernel, rfl, by decide +kernel, by decide +kernel⟩
theorem ok_sixteen_squares {f : Addr} {fd : FuncData} (F : Fun K "sixteen_squares" "sixteen_squares" s_sixteen_squares f fd) : FnOk P w K mg base CX0 1 f fd ["a", "b", "c"] spSquares := by
  refine F.ok sc_sixteen_squares (fun vs H Q E h => ?_) (fun cdv A outer s H vs Q E hr h => ?_)
  · obtain ⟨t, rfl, _⟩ := h
    rfl
  · obtain ⟨t, rfl, ht, hc, k⟩ := h
    refine ⟨_, (pss_cons (ps_set (i := 3) sc_sixteen_squares.nd rfl (Or.inl rfl) (pe_op op_add (pe_op op_add (pv 0) (pv 1)) (pv 2)))
      (pss_one (ps_ret (pe_op op_mul (pe_op op_mul (pe_op op_mul (pv 3) (pe_op op_sub (pv 3) (pe_op op_mul pe_int (pv 0)))) (pe_op op_sub (pv 3) (pe_op op_mul pe_int (pv 1)))) (pe_op op_sub (pv 3) (pe_op op_mul pe_int (pv 2))))))), ?_⟩
    rw [Mt.area_int ht] at k
    rw [Mt.isTri_iff] at ht
    simp only [tSeq, tAsg, gName, tVar, tC, tOp, tUn, rI, rI0, rU, rEq, rNe, tTest, tB, tAnd, tOr, tNot, tAndV, tOrV, tNotV, tIf, tIfS, tRet, tRetN, tDrop, tNext, tNil, tCons, tLst, tTup, tCall, tAug, ipI, tCB, tBM, tBM0, gTup, gCons, gNil, tNoPart, tPart, tSl, tChain, L2.start, List.map_cons, List.map_nil, List.replicate_succ, List.replicate_zero, Nat.reduceSub, CDiv, Int.reduceLT,
    List.getElem?_cons_zero, List.getElem?_cons_succ, Option.some.injEq, V.int.injEq, V.bl.injEq, V.ref.injEq, List.cons.injEq, and_true, true_and, exists_eq_left, exists_eq_left', exists_eq_right, exists_eq_right', exists_and_left, List.set_cons_zero, List.set_cons_succ, List.append_nil, List.nil_append, List.cons_append, decide_eq_true_eq, List.length_cons, List.length_nil, Nat.reduceAdd, scal, if_true, if_false, ite_self, Int.natCast_inj, Bool.false_eq_true, tv]
    refine ⟨.inl (by omega), .inl (by omega), .inl (by omega), .inr (by omega), .inl (by omega), .inr (by omega), ?_⟩
    exact k
theorem sc_squares_of : FnScope ["triangle"] ["triangle"] (defScope s_squares_of) := ⟨rfl, rfl, rfl, by decide +kernel, rfl, by decide +kernel, by decide +kernel⟩
theorem ok_squares_of {f : Addr} {fd : FuncData} (F : Fun K "squares_of" "squares_of" s_squares_of f fd) (c_sixteen_squares : Callee P w K mg base "sixteen_squares" 1 ["a", "b", "c"] spSquares) : FnOk P w K mg base CX0 2 f fd ["triangle"] spSqOf := by
  refine F.ok sc_squares_of (fun vs H Q E h => ?_) (fun cdv A outer s H vs Q E hr h => ?_)
  · obtain ⟨a, t, rfl, _⟩ := h
    rfl
  · obtain ⟨a, t, rfl, ha, ht, hc, k⟩ := h
    refine ⟨_, (pss_one (ps_ret (pe_own c_sixteen_squares (hr.mono (by decide)) (by rfl) (pa_cons (pe_ix ix_tup (pv 0) pe_int (fun _ _ => rfl)) (pa_cons (pe_ix ix_tup (pv 0) pe_int (fun _ _ => rfl)) (pa_cons (pe_ix ix_tup (pv 0) pe_int (fun _ _ => rfl)) pa_nil)))))), ?_⟩
    simp only [tSeq, tAsg, gName, tVar, tC, tOp, tUn, rI, rI0, rU, rEq, rNe, tTest, tB, tAnd, tOr, tNot, tAndV, tOrV, tNotV, tIf, tIfS, tRet, tRetN, tDrop, tNext, tNil, tCons, tLst, tTup, tCall, tAug, ipI, tCB, tBM, tBM0, gTup, gCons, gNil, tNoPart, tPart, tSl, tChain, L2.start, List.map_cons, List.map_nil, List.replicate_succ, List.replicate_zero, Nat.reduceSub, CDiv, Int.reduceLT,
    List.getElem?_cons_zero, List.getElem?_cons_succ, Option.some.injEq, V.int.injEq, V.bl.injEq, V.ref.injEq, List.cons.injEq, and_true, true_and, exists_eq_left, exists_eq_left', exists_eq_right, exists_eq_right', exists_and_left, List.set_cons_zero, List.set_cons_succ, List.append_nil, List.nil_append, List.cons_append, decide_eq_true_eq, List.length_cons, List.length_nil, Nat.reduceAdd, scal, if_true, if_false, ite_self, Int.natCast_inj, Bool.false_eq_true]
    refine ixT_do (j := 0) (SqT.of ha) rfl rfl ?_
    refine ixT_do (j := 1) (SqT.of ha) rfl rfl ?_
    refine ixT_do (j := 2) (SqT.of ha) rfl rfl ?_
    exact ⟨t, rfl, ht, hc, k⟩
theorem TriL.at {H : Hp} {ts : List Triangle} {as : List Addr} (h2 : as.length = ts.length) (h3 : ∀ (j : Nat) (t : Triangle), ts[j]? = some t → ∃ a, as[j]? = some a ∧ H a = some (.tup (tv t))) {i : Nat} {x : V} (h : (as.map V.ref)[i]? = some x) :
    ∃ a t, x = .ref a ∧ ts[i]? = some t ∧ H a = some (.tup (tv t)) := by
  obtain ⟨a, ha, rfl⟩ := at_map h
  have hi : i < ts.length := by rw [← h2]; exact (List.getElem?_eq_some_iff.mp ha).1
  obtain ⟨a', ha', hh⟩ := h3 i _ (List.getElem?_eq_getElem hi)
  rw [ha] at ha'
  cases ha'
  exact ⟨a, _, rfl, List.getElem?_eq_getElem hi, hh⟩
def kfOf (f : Triangle → Nat) (ts : List Triangle) : Nat → Int := fun i => (((ts[i]?).map f).getD 0 : Nat)
theorem kfOf_at {f : Triangle → Nat} {ts : List Triangle} {i : Nat} {t : Triangle} (h : ts[i]? = some t) : kfOf f ts i = (f t : Nat) := by
  unfold kfOf
  rw [h]
  rfl
theorem sc_greatest_area : FnScope ["triangles"] ["triangles"] (defScope s_greatest_area) := ⟨rfl, rfl, rfl, by decide +kernel, rfl, by decide +kernel, by decide +kernel⟩
theorem ok_greatest_area {f : Addr} {fd : FuncData} (F : Fun K "greatest_area" "greatest_area" s_greatest_area f fd) (T : Txt mg) (c_squares_of : Callee P w K mg base "squares_of" 2 ["triangle"] spSqOf) : FnOk P w K mg base CX0 4 f fd ["triangles"] spGreat := by
  refine F.ok sc_greatest_area (fun vs H Q E h => ?_) (fun cdv A outer s H vs Q E hr h => ?_)
  · obtain ⟨l, ts, rfl, _⟩ := h
    rfl
  · obtain ⟨l, ts, rfl, ⟨as, h1, h2, h3⟩, hts, k⟩ := h
    refine ⟨_, (pss_one (ps_ret (pe_callTy call_list_of (by rfl) T.nlist boot_list (pa_cons (pe_maxF c_squares_of (hr.mono (by decide)) rfl (by rfl) T.nmax (by rfl) (pa_cons (pv 0) pa_nil) (pe_tup pa_nil)) pa_nil)))), ?_⟩
    simp only [tSeq, tAsg, gName, tVar, tC, tOp, tUn, rI, rI0, rU, rEq, rNe, tTest, tB, tAnd, tOr, tNot, tAndV, tOrV, tNotV, tIf, tIfS, tRet, tRetN, tDrop, tNext, tNil, tCons, tLst, tTup, tCall, tAug, ipI, tCB, tBM, tBM0, gTup, gCons, gNil, tNoPart, tPart, tSl, tChain, L2.start, List.map_cons, List.map_nil, List.replicate_succ, List.replicate_zero, Nat.reduceSub, CDiv, Int.reduceLT,
    List.getElem?_cons_zero, List.getElem?_cons_succ, Option.some.injEq, V.int.injEq, V.bl.injEq, V.ref.injEq, List.cons.injEq, and_true, true_and, exists_eq_left, exists_eq_left', exists_eq_right, exists_eq_right', exists_and_left, List.set_cons_zero, List.set_cons_succ, List.append_nil, List.nil_append, List.cons_append, decide_eq_true_eq, List.length_cons, List.length_nil, Nat.reduceAdd, scal, if_true, if_false, ite_self, Int.natCast_inj, Bool.false_eq_true]
    refine maxK_do l (as.map V.ref) (kfOf Ux05.area ts) (fun Q h => ⟨_, rfl, h⟩) (fun Q h => ⟨Nat.zero_le _, h⟩) h1 ?_ ?_ ?_
    · intro p i x hp hx
      obtain ⟨a, t, rfl, ht, hh⟩ := TriL.at h2 h3 hx
      obtain ⟨q1, q2⟩ := hts t (List.mem_of_getElem? ht)
      exact ⟨a, t, rfl, ((Same.refl H).new hp) _ _ hh, q1, q2, by rw [kfOf_at ht], rfl⟩
    · intro e p hp
      have e0 : ts = [] := List.length_eq_zero_iff.mp (by rw [← h2]; exact List.length_eq_zero_iff.mpr (List.map_eq_nil_iff.mp e))
      rw [e0] at k
      refine ⟨_, rfl, _, .inr (SqT.of upd_same), fun q hq => k _ q (((Same.refl H).new hp).new hq) (((Same.refl H).new hp).free hq) upd_same⟩
    · intro p i x hp hx hb
      obtain ⟨a, t, rfl, ht, hh⟩ := TriL.at h2 h3 hx
      have em : Ux05.mostBy Ux05.area ts = some t := Mh.mostBy_best ht fun j u hu => by
        have := hb j (by rw [List.length_map, h2]; exact (List.getElem?_eq_some_iff.mp hu).1)
        rw [kfOf_at ht, kfOf_at hu] at this
        exact ⟨by omega, fun hji => by have := this.2 hji; omega⟩
      rw [em] at k
      refine ⟨_, rfl, _, .inr (SqT.of (((Same.refl H).new hp) _ _ hh)), fun q hq => k _ q (((Same.refl H).new hp).new hq) (((Same.refl H).new hp).free hq) upd_same⟩
theorem sc_least_area : FnScope ["triangles"] ["triangles"] (defScope s_least_area) := ⟨rfl, rfl, rfl, by decide +kernel, rfl, by decide +kernel, by decide +kernel⟩
theorem ok_least_area {f : Addr} {fd : FuncData} (F : Fun K "least_area" "least_area" s_least_area f fd) (T : Txt mg) (c_squares_of : Callee P w K mg base "squares_of" 2 ["triangle"] spSqOf) : FnOk P w K mg base CX0 4 f fd ["triangles"] spLeast := by
  refine F.ok sc_least_area (fun vs H Q E h => ?_) (fun cdv A outer s H vs Q E hr h => ?_)
  · obtain ⟨l, ts, rfl, _⟩ := h
    rfl
  · obtain ⟨l, ts, rfl, ⟨as, h1, h2, h3⟩, hts, k⟩ := h
    refine ⟨_, (pss_one (ps_ret (pe_callTy call_list_of (by rfl) T.nlist boot_list (pa_cons (pe_minF c_squares_of (hr.mono (by decide)) rfl (by rfl) T.nmin (by rfl) (pa_cons (pv 0) pa_nil) (pe_tup pa_nil)) pa_nil)))), ?_⟩
    simp only [tSeq, tAsg, gName, tVar, tC, tOp, tUn, rI, rI0, rU, rEq, rNe, tTest, tB, tAnd, tOr, tNot, tAndV, tOrV, tNotV, tIf, tIfS, tRet, tRetN, tDrop, tNext, tNil, tCons, tLst, tTup, tCall, tAug, ipI, tCB, tBM, tBM0, gTup, gCons, gNil, tNoPart, tPart, tSl, tChain, L2.start, List.map_cons, List.map_nil, List.replicate_succ, List.replicate_zero, Nat.reduceSub, CDiv, Int.reduceLT,
    List.getElem?_cons_zero, List.getElem?_cons_succ, Option.some.injEq, V.int.injEq, V.bl.injEq, V.ref.injEq, List.cons.injEq, and_true, true_and, exists_eq_left, exists_eq_left', exists_eq_right, exists_eq_right', exists_and_left, List.set_cons_zero, List.set_cons_succ, List.append_nil, List.nil_append, List.cons_append, decide_eq_true_eq, List.length_cons, List.length_nil, Nat.reduceAdd, scal, if_true, if_false, ite_self, Int.natCast_inj, Bool.false_eq_true]
    refine minK_do l (as.map V.ref) (kfOf Ux05.area ts) (fun Q h => ⟨_, rfl, h⟩) (fun Q h => ⟨Nat.zero_le _, h⟩) h1 ?_ ?_ ?_
    · intro p i x hp hx
      obtain ⟨a, t, rfl, ht, hh⟩ := TriL.at h2 h3 hx
      obtain ⟨q1, q2⟩ := hts t (List.mem_of_getElem? ht)
      exact ⟨a, t, rfl, ((Same.refl H).new hp) _ _ hh, q1, q2, by rw [kfOf_at ht], rfl⟩
    · intro e p hp
      have e0 : ts = [] := List.length_eq_zero_iff.mp (by rw [← h2]; exact List.length_eq_zero_iff.mpr (List.map_eq_nil_iff.mp e))
      rw [e0] at k
      refine ⟨_, rfl, _, .inr (SqT.of upd_same), fun q hq => k _ q (((Same.refl H).new hp).new hq) (((Same.refl H).new hp).free hq) upd_same⟩
    · intro p i x hp hx hb
      obtain ⟨a, t, rfl, ht, hh⟩ := TriL.at h2 h3 hx
      have em : Ux05.leastBy Ux05.area ts = some t := Mh.leastBy_best ht fun j u hu => by
        have := hb j (by rw [List.length_map, h2]; exact (List.getElem?_eq_some_iff.mp hu).1)
        rw [kfOf_at ht, kfOf_at hu] at this
        exact ⟨by omega, fun hji => by have := this.2 hji; omega⟩
      rw [em] at k
      refine ⟨_, rfl, _, .inr (SqT.of (((Same.refl H).new hp) _ _ hh)), fun q hq => k _ q (((Same.refl H).new hp).new hq) (((Same.refl H).new hp).free hq) upd_same⟩
end
end Tri
set_option Elab.async false
set_option linter.all false
set_option maxRecDepth 100000
namespace Tri
open PySem PySem.Spec PyProof.Rows L2
open Ux05 (Triangle isTriangle triangles byLongest)
/-- ints as a list's items -/
def iv (l : List Int) : List V := l.map V.int
theorem iv_ints (l : List Nat) : iv (Ux05.ints l) = nv l := by
  unfold iv Ux05.ints nv
  rw [List.map_map]
  rfl
def outSide (a : Nat) : Prop := a < 1 ∨ 100 < a
instance (a : Nat) : Decidable (outSide a) := by unfold outSide; exact inferInstance
def refV (a b c : Nat) : List V := if a < 1 ∨ 100 < a ∨ b < 1 ∨ 100 < b ∨ c < 1 ∨ 100 < c then [.int (-1)] else if isTriangle ⟨a, b, c⟩ = false then [.int (-2)] else []
def spSide : Sp := fun vs H Q _ => ∃ n : Nat, vs = [.int n] ∧ Q (.bl (decide (1 ≤ n ∧ n ≤ 100))) H
def spRefused : Sp := fun vs H Q _ => ∃ a b c : Nat, vs = [.int a, .int b, .int c] ∧ Gives H Q (refV a b c)
def spPlace : Sp := fun vs H Q _ => ∃ a b c : Nat, vs = [.int a, .int b, .int c] ∧ Gives H Q (iv (Ux05.step Ux05.init (.place a b c)).2)
def spLongest : Sp := fun vs H Q _ => ∃ c : Nat, vs = [.int c] ∧ Gives H Q (iv (Ux05.step Ux05.init (.longest c)).2)
def spArea : Sp := fun vs H Q _ => ∃ a b c : Nat, vs = [.int a, .int b, .int c] ∧ Gives H Q (iv (Ux05.step Ux05.init (.area a b c)).2)
/-- a triangle as data -/
def dT (t : Triangle) : PyData := .tuple [.int t.a, .int t.b, .int t.c]
theorem eqv_dT (t u : Triangle) : PyData.eqv (dT t) (dT u) = decide (t = u) := by
  obtain ⟨a, b, c⟩ := t
  obtain ⟨x, y, z⟩ := u
  rw [Bool.eq_iff_iff]
  simp [dT, PyData.eqv, PyData.eqvAll, Int.natCast_inj]
theorem canLay_dT : ∀ ts : List Triangle, PyData.canLayAll0 (ts.map dT) = true
  | [] => rfl
  | t :: ts => by
    show (PyData.canLay0 (dT t) && PyData.canLayAll0 (ts.map dT)) = true
    rw [canLay_dT ts]
    rfl
theorem dp_tup {K : PySem.W.Frag} {H : Hp} {a : Addr} {t : Triangle} (h : H a = some (.tup (tv t))) : Dp K H (.ref a) (dT t) := .tup (SqT.of h) (.cons (.int _) (.cons (.int _) (.cons (.int _) .nil)))
theorem dp_all {K : PySem.W.Frag} {H : Hp} : ∀ (as : List Addr) (ts : List Triangle), as.length = ts.length → (∀ (j : Nat) (t : Triangle), ts[j]? = some t → ∃ a, as[j]? = some a ∧ H a = some (.tup (tv t))) → DpAll K H (as.map V.ref) (ts.map dT)
  | [], [], _, _ => .nil
  | a :: as, t :: ts, hl, h => by
    refine .cons ?_ (dp_all as ts (by simpa using hl) fun j u hu => ?_)
    · obtain ⟨b, hb, hh⟩ := h 0 t rfl
      cases hb
      exact dp_tup hh
    · obtain ⟨b, hb, hh⟩ := h (j + 1) u hu
      exact ⟨b, hb, hh⟩
  | [], _ :: _, hl, _ => by simp at hl
  | _ :: _, [], hl, _ => by simp at hl
section
variable {P : Program} {w : World} {K : PySem.W.Frag} {mg : Str → Option Value} {base : Heap}
theorem sc_is_side : FnScope ["length"] ["length"] (defScope s_is_side) := ⟨rfl, rfl, rfl, by decide +kernel, rfl, by decide +kernel, by decide +kernel⟩
theorem ok_is_side {f : Addr} {fd : FuncData} (F : Fun K "is_side" "is_side" s_is_side f fd) (T : Txt mg) : FnOk P w K mg base CX0 1 f fd ["length"] spSide := by
  refine F.ok sc_is_side (fun vs H Q E h => ?_) (fun cdv A outer s H vs Q E hr h => ?_)
  · obtain ⟨n, rfl, _⟩ := h
    rfl
  · obtain ⟨n, rfl, k⟩ := h
    refine ⟨_, (pss_one (ps_ret (pe_and (pe_cmpR op_le pe_int (pv 0) (nomark _)) (pe_one (pe_cmpR op_le (pv 0) (pe_cint (by rfl) T.c_GREATEST_SIDE) (nomark _)))))), ?_⟩
    simp only [tSeq, tAsg, gName, tVar, tC, tOp, tUn, rI, rI0, rU, rEq, rNe, tTest, tB, tAnd, tOr, tNot, tAndV, tOrV, tNotV, tIf, tIfS, tRet, tRetN, tDrop, tNext, tNil, tCons, tLst, tTup, tCall, tAug, ipI, tCB, tBM, tBM0, gTup, gCons, gNil, tNoPart, tPart, tSl, tChain, L2.start, List.map_cons, List.map_nil, List.replicate_succ, List.replicate_zero, Nat.reduceSub, CDiv, Int.reduceLT,
    List.getElem?_cons_zero, List.getElem?_cons_succ, Option.some.injEq, V.int.injEq, V.bl.injEq, V.ref.injEq, List.cons.injEq, and_true, true_and, exists_eq_left, exists_eq_left', exists_eq_right, exists_eq_right', exists_and_left, List.set_cons_zero, List.set_cons_succ, List.append_nil, List.nil_append, List.cons_append, decide_eq_true_eq, List.length_cons, List.length_nil, Nat.reduceAdd, scal, if_true, if_false, ite_self, Int.natCast_inj, Bool.false_eq_true]
    have e1 : ((1 : Int) ≤ n) = (1 ≤ n) := by apply propext; omega
    have e2 : ((n : Int) ≤ 100) = (n ≤ 100) := by apply propext; omega
    simp only [e1, e2]
    by_cases h1 : 1 ≤ n
    · simpa only [h1, if_true, true_and] using k
    · simpa only [h1, if_false, false_and, decide_false] using k
theorem sc_refused_sides : FnScope ["a", "b", "c"] ["a", "b", "c"] (defScope s_refused_sides) := ⟨rfl, rfl, rfl, by decide +kernel, rfl, by decide +kernel, by decide +kernel⟩
theorem ok_refused_sides {f : Addr} {fd : FuncData} (F : Fun K "refused_sides" "refused_sides" s_refused_sides f fd) (T : Txt mg) (c_is_side : Callee P w K mg base "is_side" 1 ["length"] spSide) (c_is_triangle : Callee P w K mg base "is_triangle" 1 ["a", "b", "c"] spIsTri) :
    FnOk P w K mg base CX0 2 f fd ["a", "b", "c"] spRefused := by
  refine F.ok sc_refused_sides (fun vs H Q E h => ?_) (fun cdv A outer s H vs Q E hr h => ?_)
  · obtain ⟨a, b, c, rfl, _⟩ := h
    rfl
  · obtain ⟨a, b, c, rfl, k⟩ := h
    refine ⟨_, (pss_cons (ps_if (pt_not (pw_and (pt_val (pe_own c_is_side (hr.mono (by decide)) (by rfl) (pa_cons (pv 0) pa_nil))) (pw_and (pt_val (pe_own c_is_side (hr.mono (by decide)) (by rfl) (pa_cons (pv 1) pa_nil))) (pw_and1 (pt_val (pe_own c_is_side (hr.mono (by decide)) (by rfl) (pa_cons (pv 2) pa_nil)))))).pt) (pss_one (ps_ret (pe_lst (pa_cons (pe_cint (by rfl) T.c_OUT_OF_BOUNDS) pa_nil)))) pss_nil)
      (pss_cons (ps_if (pt_not (pt_val (pe_own c_is_triangle (hr.mono (by decide)) (by rfl) (pa_cons (pv 0) (pa_cons (pv 1) (pa_cons (pv 2) pa_nil)))))) (pss_one (ps_ret (pe_lst (pa_cons (pe_cint (by rfl) T.c_NOT_A_TRIANGLE) pa_nil)))) pss_nil)
      (pss_one (ps_ret (pe_lst pa_nil))))), ?_⟩
    unfold refV at k
    have no : ∀ {zs : List V}, zs.length ≤ 10 → (Gives H Q zs) → zs.length ≤ sizeLine ∧ ∀ p, H p = none → Q (.ref p) (upd H p (.lst zs)) := fun hz g => ⟨Nat.le_trans hz (by decide), fun p hp => g _ p ((Same.refl H).new hp) hp upd_same⟩
    simp only [tSeq, tAsg, gName, tVar, tC, tOp, tUn, rI, rI0, rU, rEq, rNe, tTest, tB, tAnd, tOr, tNot, tAndV, tOrV, tNotV, tIf, tIfS, tRet, tRetN, tDrop, tNext, tNil, tCons, tLst, tTup, tCall, tAug, ipI, tCB, tBM, tBM0, gTup, gCons, gNil, tNoPart, tPart, tSl, tChain, L2.start, List.map_cons, List.map_nil, List.replicate_succ, List.replicate_zero, Nat.reduceSub, CDiv, Int.reduceLT,
    List.getElem?_cons_zero, List.getElem?_cons_succ, Option.some.injEq, V.int.injEq, V.bl.injEq, V.ref.injEq, List.cons.injEq, and_true, true_and, exists_eq_left, exists_eq_left', exists_eq_right, exists_eq_right', exists_and_left, List.set_cons_zero, List.set_cons_succ, List.append_nil, List.nil_append, List.cons_append, decide_eq_true_eq, List.length_cons, List.length_nil, Nat.reduceAdd, scal, if_true, if_false, ite_self, Int.natCast_inj, Bool.false_eq_true]
    refine ⟨a, rfl, _, rfl, ?_⟩
    by_cases ha : 1 ≤ a ∧ a ≤ 100
    · simp only [ha, decide_true, if_true, and_self]
      refine ⟨b, rfl, _, rfl, ?_⟩
      by_cases hb : 1 ≤ b ∧ b ≤ 100
      · simp only [hb, decide_true, if_true, and_self]
        refine ⟨c, rfl, _, rfl, ?_⟩
        by_cases hc : 1 ≤ c ∧ c ≤ 100
        · simp only [hc, decide_true, if_true, and_self, Bool.not_true, Bool.false_eq_true, if_false]
          refine ⟨_, _, _, rfl, _, rfl, ?_⟩
          rw [triI_nat (t := ⟨a, b, c⟩) rfl rfl rfl]
          rw [if_neg (by omega)] at k
          cases e : isTriangle ⟨a, b, c⟩ with
          | true =>
            rw [e] at k
            rw [if_neg (by simp)] at k
            simp only [Bool.not_true, Bool.false_eq_true, if_false]
            exact no (zs := []) (by simp) k
          | false =>
            rw [e] at k
            rw [if_pos rfl] at k
            simp only [Bool.not_false, if_true]
            exact no (by simp) k
        · simp only [hc, decide_false, Bool.not_false, if_true]
          rw [if_pos (by omega)] at k
          exact no (by simp) k
      · simp only [hb, decide_false, Bool.false_eq_true, if_false, Bool.not_false, if_true]
        rw [if_pos (by omega)] at k
        exact no (by simp) k
    · simp only [ha, decide_false, Bool.false_eq_true, if_false, Bool.not_false, if_true]
      rw [if_pos (by omega)] at k
      exact no (by simp) k
theorem sc_place : FnScope ["a", "b", "c", "refused", "triangles"] ["a", "b", "c"] (defScope s_place) := ⟨rfl, rfl, rfl, by decide +kernel, rfl, by decide +kernel, by decide +kernel⟩
theorem ok_place {f : Addr} {fd : FuncData} (F : Fun K "place" "place" s_place f fd) (T : Txt mg) (c_refused_sides : Callee P w K mg base "refused_sides" 2 ["a", "b", "c"] spRefused) (c_of_perimeter : Callee P w K mg base "of_perimeter" 2 ["p"] spPer) :
    FnOk P w K mg base CX0 3 f fd ["a", "b", "c"] spPlace := by
  refine F.ok sc_place (fun vs H Q E h => ?_) (fun cdv A outer s H vs Q E hr h => ?_)
  · obtain ⟨a, b, c, rfl, _⟩ := h
    rfl
  · obtain ⟨a, b, c, rfl, k⟩ := h
    refine ⟨_, (pss_cons (ps_set (i := 3) sc_place.nd rfl (Or.inl rfl) (pe_own c_refused_sides (hr.mono (by decide)) (by rfl) (pa_cons (pv 0) (pa_cons (pv 1) (pa_cons (pv 2) pa_nil)))))
      (pss_cons (ps_if (pt_cmpR op_gt (pe_callB call_len_seq (by rfl) T.nlen PySem.boot_len (pa_cons (pv 3) pa_nil)) pe_int (nomark _)) (pss_one (ps_ret (pv 3))) pss_nil)
      (pss_cons (ps_set (i := 4) sc_place.nd rfl (Or.inl rfl) (pe_own c_of_perimeter (hr.mono (by decide)) (by rfl) (pa_cons (pe_op op_add (pe_op op_add (pv 0) (pv 1)) (pv 2)) pa_nil)))
      (pss_one (ps_ret (pe_lst (pa_cons (pe_op op_add (pe_bm PySem.F.plainAttrs_list PySem.F.slot_list_index PySem.F.type_list_index (mt_indexD hr.units) (pv 4) (pa_cons (pe_tup (pa_cons (pv 0) (pa_cons (pv 1) (pa_cons (pv 2) pa_nil)))) pa_nil)) pe_int) (pa_cons (pe_callB call_len_seq (by rfl) T.nlen PySem.boot_len (pa_cons (pv 4) pa_nil)) pa_nil)))))))), ?_⟩
    have ek : (Ux05.step Ux05.init (.place a b c)).2 = if a < 1 ∨ 100 < a ∨ b < 1 ∨ 100 < b ∨ c < 1 ∨ 100 < c then [-1] else if isTriangle ⟨a, b, c⟩ = false then [-2] else Ux05.ints [((triangles (Ux05.perimeter ⟨a, b, c⟩)).findIdx fun u => u == ⟨a, b, c⟩) + 1, (triangles (Ux05.perimeter ⟨a, b, c⟩)).length] := rfl
    rw [ek] at k
    simp only [tSeq, tAsg, gName, tVar, tC, tOp, tUn, rI, rI0, rU, rEq, rNe, tTest, tB, tAnd, tOr, tNot, tAndV, tOrV, tNotV, tIf, tIfS, tRet, tRetN, tDrop, tNext, tNil, tCons, tLst, tTup, tCall, tAug, ipI, tCB, tBM, tBM0, gTup, gCons, gNil, tNoPart, tPart, tSl, tChain, L2.start, List.map_cons, List.map_nil, List.replicate_succ, List.replicate_zero, Nat.reduceSub, CDiv, Int.reduceLT,
    List.getElem?_cons_zero, List.getElem?_cons_succ, Option.some.injEq, V.int.injEq, V.bl.injEq, V.ref.injEq, List.cons.injEq, and_true, true_and, exists_eq_left, exists_eq_left', exists_eq_right, exists_eq_right', exists_and_left, List.set_cons_zero, List.set_cons_succ, List.append_nil, List.nil_append, List.cons_append, decide_eq_true_eq, List.length_cons, List.length_nil, Nat.reduceAdd, scal, if_true, if_false, ite_self, Int.natCast_inj, Bool.false_eq_true]
    refine ⟨a, b, c, rfl, fun H1 q s1 nq hq => ?_⟩
    unfold refV at hq
    simp only [tSeq, tAsg, gName, tVar, tC, tOp, tUn, rI, rI0, rU, rEq, rNe, tTest, tB, tAnd, tOr, tNot, tAndV, tOrV, tNotV, tIf, tIfS, tRet, tRetN, tDrop, tNext, tNil, tCons, tLst, tTup, tCall, tAug, ipI, tCB, tBM, tBM0, gTup, gCons, gNil, tNoPart, tPart, tSl, tChain, L2.start, List.map_cons, List.map_nil, List.replicate_succ, List.replicate_zero, Nat.reduceSub, CDiv, Int.reduceLT,
    List.getElem?_cons_zero, List.getElem?_cons_succ, Option.some.injEq, V.int.injEq, V.bl.injEq, V.ref.injEq, List.cons.injEq, and_true, true_and, exists_eq_left, exists_eq_left', exists_eq_right, exists_eq_right', exists_and_left, List.set_cons_zero, List.set_cons_succ, List.append_nil, List.nil_append, List.cons_append, decide_eq_true_eq, List.length_cons, List.length_nil, Nat.reduceAdd, scal, if_true, if_false, ite_self, Int.natCast_inj, Bool.false_eq_true]
    refine ⟨_, .inl (SqL.of hq), ?_⟩
    by_cases h1 : a < 1 ∨ 100 < a ∨ b < 1 ∨ 100 < b ∨ c < 1 ∨ 100 < c
    · rw [if_pos h1] at hq k ⊢
      rw [if_pos (by decide)]
      exact k H1 q s1 nq hq
    · rw [if_neg h1] at hq k ⊢
      cases e : isTriangle ⟨a, b, c⟩ with
      | false =>
        rw [e, if_pos rfl] at hq k
        rw [if_pos rfl, if_pos (by decide)]
        exact k H1 q s1 nq hq
      | true =>
        rw [e, if_neg (by simp)] at hq k
        rw [if_neg (by simp)]
        refine ⟨a + b + c, by simp, by omega, fun H2 l s2 nl hl => ?_⟩
        simp only [tSeq, tAsg, gName, tVar, tC, tOp, tUn, rI, rI0, rU, rEq, rNe, tTest, tB, tAnd, tOr, tNot, tAndV, tOrV, tNotV, tIf, tIfS, tRet, tRetN, tDrop, tNext, tNil, tCons, tLst, tTup, tCall, tAug, ipI, tCB, tBM, tBM0, gTup, gCons, gNil, tNoPart, tPart, tSl, tChain, L2.start, List.map_cons, List.map_nil, List.replicate_succ, List.replicate_zero, Nat.reduceSub, CDiv, Int.reduceLT,
    List.getElem?_cons_zero, List.getElem?_cons_succ, Option.some.injEq, V.int.injEq, V.bl.injEq, V.ref.injEq, List.cons.injEq, and_true, true_and, exists_eq_left, exists_eq_left', exists_eq_right, exists_eq_right', exists_and_left, List.set_cons_zero, List.set_cons_succ, List.append_nil, List.nil_append, List.cons_append, decide_eq_true_eq, List.length_cons, List.length_nil, Nat.reduceAdd, scal, if_true, if_false, ite_self, Int.natCast_inj, Bool.false_eq_true]
        obtain ⟨as, l1, l2, l3⟩ := hl
        refine ⟨.inl ⟨rfl, _, SqL.of l1⟩, by decide, fun p hp => ?_⟩
        have s3 : Same H2 (upd H2 p (.tup (tv ⟨a, b, c⟩))) := (Same.refl H2).new hp
        obtain ⟨f1, f2⟩ := Mt.find_at (Mt.mem_tri e)
        refine ⟨l, _, _, (triangles (a + b + c)).map dT, dT ⟨a, b, c⟩, (triangles (a + b + c)).findIdx (fun u => u == ⟨a, b, c⟩), rfl, rfl, SqL.of (s3 _ _ l1), ?_, ?_, ?_, ?_, ?_, ?_, ?_, ?_⟩
        · exact dp_all as _ l2 fun j t ht => by obtain ⟨x, hx, hh⟩ := l3 j t ht; exact ⟨x, hx, s3 _ _ hh⟩
        · exact dp_tup upd_same
        · exact canLay_dT _
        · rfl
        · show 0 + 1 ≤ 60
          decide
        · exact ⟨dT ⟨a, b, c⟩, by rw [List.getElem?_map]; exact congrArg (Option.map dT) f1, by rw [eqv_dT]; simp⟩
        · intro m e' hm he'
          rw [List.getElem?_map] at he'
          cases eu : (triangles (a + b + c))[m]? with
          | none => rw [eu] at he'; cases he'
          | some u =>
            rw [eu] at he'
            have e2 : dT u = e' := Option.some.inj he'
            rw [← e2, eqv_dT]
            exact decide_eq_false (f2 m u hm eu)
        · simp only [tSeq, tAsg, gName, tVar, tC, tOp, tUn, rI, rI0, rU, rEq, rNe, tTest, tB, tAnd, tOr, tNot, tAndV, tOrV, tNotV, tIf, tIfS, tRet, tRetN, tDrop, tNext, tNil, tCons, tLst, tTup, tCall, tAug, ipI, tCB, tBM, tBM0, gTup, gCons, gNil, tNoPart, tPart, tSl, tChain, L2.start, List.map_cons, List.map_nil, List.replicate_succ, List.replicate_zero, Nat.reduceSub, CDiv, Int.reduceLT,
    List.getElem?_cons_zero, List.getElem?_cons_succ, Option.some.injEq, V.int.injEq, V.bl.injEq, V.ref.injEq, List.cons.injEq, and_true, true_and, exists_eq_left, exists_eq_left', exists_eq_right, exists_eq_right', exists_and_left, List.set_cons_zero, List.set_cons_succ, List.append_nil, List.nil_append, List.cons_append, decide_eq_true_eq, List.length_cons, List.length_nil, Nat.reduceAdd, scal, if_true, if_false, ite_self, Int.natCast_inj, Bool.false_eq_true]
          refine ⟨_, .inl (SqL.of (s3 _ _ l1)), by decide, fun r hr' => ?_⟩
          refine k _ r (((s1.trans s2).trans s3).new hr') ((s1.trans s2).trans s3 |>.free hr') ?_
          rw [upd_same, List.length_map, l2]
          rfl
theorem sc_area : FnScope ["a", "b", "c", "refused"] ["a", "b", "c"] (defScope s_area) := ⟨rfl, rfl, rfl, by decide +kernel, rfl, by decide +kernel, by decide +kernel⟩
theorem ok_area {f : Addr} {fd : FuncData} (F : Fun K "area" "area" s_area f fd) (T : Txt mg) (c_refused_sides : Callee P w K mg base "refused_sides" 2 ["a", "b", "c"] spRefused) (c_sixteen_squares : Callee P w K mg base "sixteen_squares" 1 ["a", "b", "c"] spSquares) :
    FnOk P w K mg base CX0 3 f fd ["a", "b", "c"] spArea := by
  refine F.ok sc_area (fun vs H Q E h => ?_) (fun cdv A outer s H vs Q E hr h => ?_)
  · obtain ⟨a, b, c, rfl, _⟩ := h
    rfl
  · obtain ⟨a, b, c, rfl, k⟩ := h
    refine ⟨_, (pss_cons (ps_set (i := 3) sc_area.nd rfl (Or.inl rfl) (pe_own c_refused_sides (hr.mono (by decide)) (by rfl) (pa_cons (pv 0) (pa_cons (pv 1) (pa_cons (pv 2) pa_nil)))))
      (pss_cons (ps_if (pt_cmpR op_gt (pe_callB call_len_seq (by rfl) T.nlen PySem.boot_len (pa_cons (pv 3) pa_nil)) pe_int (nomark _)) (pss_one (ps_ret (pv 3))) pss_nil)
      (pss_one (ps_ret (pe_lst (pa_cons pe_int (pa_cons (pe_own c_sixteen_squares (hr.mono (by decide)) (by rfl) (pa_cons (pv 0) (pa_cons (pv 1) (pa_cons (pv 2) pa_nil)))) pa_nil))))))), ?_⟩
    have ek : (Ux05.step Ux05.init (.area a b c)).2 = if a < 1 ∨ 100 < a ∨ b < 1 ∨ 100 < b ∨ c < 1 ∨ 100 < c then [-1] else if isTriangle ⟨a, b, c⟩ = false then [-2] else Ux05.ints [0, Ux05.area ⟨a, b, c⟩] := rfl
    rw [ek] at k
    simp only [tSeq, tAsg, gName, tVar, tC, tOp, tUn, rI, rI0, rU, rEq, rNe, tTest, tB, tAnd, tOr, tNot, tAndV, tOrV, tNotV, tIf, tIfS, tRet, tRetN, tDrop, tNext, tNil, tCons, tLst, tTup, tCall, tAug, ipI, tCB, tBM, tBM0, gTup, gCons, gNil, tNoPart, tPart, tSl, tChain, L2.start, List.map_cons, List.map_nil, List.replicate_succ, List.replicate_zero, Nat.reduceSub, CDiv, Int.reduceLT,
    List.getElem?_cons_zero, List.getElem?_cons_succ, Option.some.injEq, V.int.injEq, V.bl.injEq, V.ref.injEq, List.cons.injEq, and_true, true_and, exists_eq_left, exists_eq_left', exists_eq_right, exists_eq_right', exists_and_left, List.set_cons_zero, List.set_cons_succ, List.append_nil, List.nil_append, List.cons_append, decide_eq_true_eq, List.length_cons, List.length_nil, Nat.reduceAdd, scal, if_true, if_false, ite_self, Int.natCast_inj, Bool.false_eq_true]
    refine ⟨a, b, c, rfl, fun H1 q s1 nq hq => ?_⟩
    unfold refV at hq
    simp only [tSeq, tAsg, gName, tVar, tC, tOp, tUn, rI, rI0, rU, rEq, rNe, tTest, tB, tAnd, tOr, tNot, tAndV, tOrV, tNotV, tIf, tIfS, tRet, tRetN, tDrop, tNext, tNil, tCons, tLst, tTup, tCall, tAug, ipI, tCB, tBM, tBM0, gTup, gCons, gNil, tNoPart, tPart, tSl, tChain, L2.start, List.map_cons, List.map_nil, List.replicate_succ, List.replicate_zero, Nat.reduceSub, CDiv, Int.reduceLT,
    List.getElem?_cons_zero, List.getElem?_cons_succ, Option.some.injEq, V.int.injEq, V.bl.injEq, V.ref.injEq, List.cons.injEq, and_true, true_and, exists_eq_left, exists_eq_left', exists_eq_right, exists_eq_right', exists_and_left, List.set_cons_zero, List.set_cons_succ, List.append_nil, List.nil_append, List.cons_append, decide_eq_true_eq, List.length_cons, List.length_nil, Nat.reduceAdd, scal, if_true, if_false, ite_self, Int.natCast_inj, Bool.false_eq_true]
    refine ⟨_, .inl (SqL.of hq), ?_⟩
    by_cases h1 : a < 1 ∨ 100 < a ∨ b < 1 ∨ 100 < b ∨ c < 1 ∨ 100 < c
    · rw [if_pos h1] at hq k ⊢
      rw [if_pos (by decide)]
      exact k H1 q s1 nq hq
    · rw [if_neg h1] at hq k ⊢
      cases e : isTriangle ⟨a, b, c⟩ with
      | false =>
        rw [e, if_pos rfl] at hq k
        rw [if_pos rfl, if_pos (by decide)]
        exact k H1 q s1 nq hq
      | true =>
        rw [e, if_neg (by simp)] at hq k
        rw [if_neg (by simp)]
        refine ⟨⟨a, b, c⟩, rfl, e, by simp only; omega, by decide, fun r hr' => ?_⟩
        refine k _ r (s1.new hr') (s1.free hr') ?_
        rw [upd_same]
        rfl
theorem sc_longest : FnScope ["c", "triangles"] ["c"] (defScope s_longest) := ⟨rfl, rfl, rfl, by decide +kernel, rfl, by decide +kernel, by decide +kernel⟩
theorem ok_longest {f : Addr} {fd : FuncData} (F : Fun K "longest" "longest" s_longest f fd) (T : Txt mg) (c_is_side : Callee P w K mg base "is_side" 1 ["length"] spSide) (c_of_longest : Callee P w K mg base "of_longest" 2 ["c"] spLon) (c_count_by_angle : Callee P w K mg base "count_by_angle" 1 ["triangles"] spAngle) :
    FnOk P w K mg base CX0 3 f fd ["c"] spLongest := by
  refine F.ok sc_longest (fun vs H Q E h => ?_) (fun cdv A outer s H vs Q E hr h => ?_)
  · obtain ⟨c, rfl, _⟩ := h
    rfl
  · obtain ⟨c, rfl, k⟩ := h
    refine ⟨_, (pss_cons (ps_if (pt_not (pt_val (pe_own c_is_side (hr.mono (by decide)) (by rfl) (pa_cons (pv 0) pa_nil)))) (pss_one (ps_ret (pe_lst (pa_cons (pe_cint (by rfl) T.c_OUT_OF_BOUNDS) pa_nil)))) pss_nil)
      (pss_cons (ps_set (i := 1) sc_longest.nd rfl (Or.inl rfl) (pe_own c_of_longest (hr.mono (by decide)) (by rfl) (pa_cons (pv 0) pa_nil)))
      (pss_one (ps_ret (pe_op op_cat (pe_lst (pa_cons (pe_callB call_len_seq (by rfl) T.nlen PySem.boot_len (pa_cons (pv 1) pa_nil)) pa_nil)) (pe_own c_count_by_angle (hr.mono (by decide)) (by rfl) (pa_cons (pv 1) pa_nil))))))), ?_⟩
    have ek : (Ux05.step Ux05.init (.longest c)).2 = if c < 1 ∨ 100 < c then [-1] else Ux05.ints ((byLongest c).length :: Ux05.kinds Ux05.angle (byLongest c)) := rfl
    rw [ek] at k
    simp only [tSeq, tAsg, gName, tVar, tC, tOp, tUn, rI, rI0, rU, rEq, rNe, tTest, tB, tAnd, tOr, tNot, tAndV, tOrV, tNotV, tIf, tIfS, tRet, tRetN, tDrop, tNext, tNil, tCons, tLst, tTup, tCall, tAug, ipI, tCB, tBM, tBM0, gTup, gCons, gNil, tNoPart, tPart, tSl, tChain, L2.start, List.map_cons, List.map_nil, List.replicate_succ, List.replicate_zero, Nat.reduceSub, CDiv, Int.reduceLT,
    List.getElem?_cons_zero, List.getElem?_cons_succ, Option.some.injEq, V.int.injEq, V.bl.injEq, V.ref.injEq, List.cons.injEq, and_true, true_and, exists_eq_left, exists_eq_left', exists_eq_right, exists_eq_right', exists_and_left, List.set_cons_zero, List.set_cons_succ, List.append_nil, List.nil_append, List.cons_append, decide_eq_true_eq, List.length_cons, List.length_nil, Nat.reduceAdd, scal, if_true, if_false, ite_self, Int.natCast_inj, Bool.false_eq_true]
    refine ⟨c, rfl, _, rfl, ?_⟩
    by_cases hc : 1 ≤ c ∧ c ≤ 100
    · rw [if_neg (by omega)] at k
      simp only [hc, and_self, decide_true, Bool.not_true, Bool.false_eq_true, if_false]
      refine ⟨c, rfl, by omega, fun H1 l s1 nl hl => ?_⟩
      simp only [tSeq, tAsg, gName, tVar, tC, tOp, tUn, rI, rI0, rU, rEq, rNe, tTest, tB, tAnd, tOr, tNot, tAndV, tOrV, tNotV, tIf, tIfS, tRet, tRetN, tDrop, tNext, tNil, tCons, tLst, tTup, tCall, tAug, ipI, tCB, tBM, tBM0, gTup, gCons, gNil, tNoPart, tPart, tSl, tChain, L2.start, List.map_cons, List.map_nil, List.replicate_succ, List.replicate_zero, Nat.reduceSub, CDiv, Int.reduceLT,
    List.getElem?_cons_zero, List.getElem?_cons_succ, Option.some.injEq, V.int.injEq, V.bl.injEq, V.ref.injEq, List.cons.injEq, and_true, true_and, exists_eq_left, exists_eq_left', exists_eq_right, exists_eq_right', exists_and_left, List.set_cons_zero, List.set_cons_succ, List.append_nil, List.nil_append, List.cons_append, decide_eq_true_eq, List.length_cons, List.length_nil, Nat.reduceAdd, scal, if_true, if_false, ite_self, Int.natCast_inj, Bool.false_eq_true]
      obtain ⟨as, l1, l2, l3⟩ := hl
      refine ⟨_, .inl (SqL.of l1), by decide, fun p hp => ?_⟩
      have s2 : Same H1 (upd H1 p (.lst [.int ((as.map V.ref).length : Nat)])) := (Same.refl H1).new hp
      refine ⟨l, byLongest c, rfl, TriL.same s2 ⟨as, l1, l2, l3⟩, fun t ht => ?_, fun H3 q s3 nq hq => ?_⟩
      · obtain ⟨h1, h2⟩ := Mt.lon_mem ht
        exact ⟨h1, by omega⟩
      · refine cat_do (s3 _ _ upd_same) hq (by show 1 + 3 ≤ sizeLine; decide) fun r hr' => ?_
        have s13 := (s1.trans s2).trans s3
        refine k _ r (s13.new hr') (s13.free hr') ?_
        rw [upd_same, List.length_map, l2]
        rfl
    · rw [if_pos (by omega)] at k
      simp only [hc, decide_false, Bool.not_false, if_true]
      exact ⟨by decide, fun r hr' => k _ r ((Same.refl H).new hr') hr' upd_same⟩
end
end Tri
set_option Elab.async false
set_option linter.all false
set_option maxRecDepth 100000
namespace Tri
open PySem PySem.Spec PyProof.Rows L2
open Ux05 (Triangle isTriangle triangles byLongest Desk)
/-! ### the object -/
def lf (p : Nat) (ls : Addr) : List (Str × V) := putF "sticks" (.ref ls) (putF "perimeter" (.int p) [])
theorem lf_p (p : Nat) (ls : Addr) : (lf p ls).lookup ("perimeter" : Str) = some (.int p) := by
  unfold lf
  rw [lookup_putF, if_neg (by decide +kernel), lookup_putF, if_pos rfl]
theorem lf_s (p : Nat) (ls : Addr) : (lf p ls).lookup ("sticks" : Str) = some (.ref ls) := by
  unfold lf
  rw [lookup_putF, if_pos rfl]
theorem lf_no (p : Nat) (ls : Addr) {m : Str} (h : ¬ m = "sticks") (h2 : ¬ m = "perimeter") : (lf p ls).lookup m = none := by
  unfold lf
  rw [lookup_putF, if_neg h, lookup_putF, if_neg h2]
  all_goals rfl
theorem lf_eq (p : Nat) (ls : Addr) : lf p ls = ([(("perimeter" : Str), V.int p), (("sticks" : Str), V.ref ls)] : List (Str × V)) := by
  unfold lf
  simp only [putF]
  rw [if_neg (by decide +kernel)]
theorem lf_putP (p p' : Nat) (ls : Addr) : putF "perimeter" (.int p') (lf p ls) = lf p' ls := by
  rw [lf_eq, lf_eq]
  simp only [putF, if_true]
theorem lf_putS (p : Nat) (ls ls' : Addr) : putF "sticks" (.ref ls') (lf p ls) = lf p ls' := by
  rw [lf_eq, lf_eq]
  simp only [putF]
  rw [if_neg (by decide +kernel)]
  simp only [if_true]
/-- the line with the desk d stands at a, its sticks at ls -/
def LineAt (C : Addr) (H : Hp) (a ls : Addr) (d : Desk) : Prop := (∃ dx, H a = some (.ins C dx (lf d.p ls))) ∧ H ls = some (.lst (nv d.heap))
theorem LineAt.same {C : Addr} {H H' : Hp} {a ls : Addr} {d : Desk} (s : Same H H') (h : LineAt C H a ls d) : LineAt C H' a ls d := by
  obtain ⟨⟨dx, h1⟩, h2⟩ := h
  exact ⟨⟨dx, s _ _ h1⟩, s _ _ h2⟩
structure Good (d : Desk) : Prop where
  p1 : 1 ≤ d.p
  p2 : d.p ≤ 200
  n : d.heap.length ≤ 16
  all : ∀ x ∈ d.heap, 1 ≤ x ∧ x ≤ 1000
/-- what stands behind a call: its desk, its answer in a new list; nothing else has changed but the object and its sticks -/
def After (C : Addr) (H : Hp) (Q : VK) (a ls : Addr) (d : Desk) (c : Ux05.Call) : Prop := ∀ H' q ls', LineAt C H' a ls' (Ux05.step d c).1 → (ls' = ls ∨ H ls' = none) → (∀ b o, H b = some o → b ≠ a → b ≠ ls → H' b = some o) →
  H q = none → H' q = some (.lst (iv (Ux05.step d c).2)) → Q (.ref q) H'
/-- of a call that leaves the desk as it was -/
theorem After.gives {C : Addr} {H : Hp} {Q : VK} {a ls : Addr} {d : Desk} {c : Ux05.Call} (k : After C H Q a ls d c) (h : LineAt C H a ls d) (e : (Ux05.step d c).1 = d) : Gives H Q (iv (Ux05.step d c).2) := fun H' q s nq hq =>
  k H' q ls (by rw [e]; exact h.same s) (.inl rfl) (fun b o hb _ _ => s b o hb) nq hq
def spInit (C : Addr) : Sp := fun vs H Q _ => ∃ (p dx : Addr), vs = [.ref p] ∧ H p = some (.ins C dx []) ∧ ∀ (H' : Hp) (ls : Addr), LineAt C H' p ls Ux05.init → H ls = none → (∀ b o, H b = some o → b ≠ p → H' b = some o) → Q .non H'
def spAbout (C : Addr) : Sp := fun vs H Q _ => ∃ (a ls : Addr) (d : Desk) (n : Nat), vs = [.ref a, .int n] ∧ LineAt C H a ls d ∧ After C H Q a ls d (.about n)
def spM0 (C : Addr) (c : Ux05.Call) : Sp := fun vs H Q _ => ∃ (a ls : Addr) (d : Desk), vs = [.ref a] ∧ LineAt C H a ls d ∧ Good d ∧ After C H Q a ls d c
def spOne (C : Addr) : Sp := fun vs H Q _ => ∃ (a ls : Addr) (d : Desk) (n : Nat), vs = [.ref a, .int n] ∧ LineAt C H a ls d ∧ Good d ∧ After C H Q a ls d (.one n)
/-- the sides that were chosen, or the refusal: at q, or in a new list -/
def sidesV : Option Triangle → List V
  | none => [.int (-6)]
  | some t => tv t
theorem sidesV_is (o : Option Triangle) : iv (Ux05.sides o) = sidesV o := by cases o <;> rfl
def spSor : Sp := fun vs H Q _ => ∃ (q : Addr) (o : Option Triangle), vs = [.ref q] ∧ H q = some (.lst (bestV o)) ∧ ∀ (H' : Hp) (p : Addr), Same H H' → (p = q ∨ H p = none) → H' p = some (.lst (sidesV o)) → Q (.ref p) H'
theorem sor_do {H H2 : Hp} {Q : VK} {E : XK} {o : Option Triangle} {q : Addr} (g : Gives H Q (iv (Ux05.sides o))) (s : Same H H2) (n : H q = none) (h : H2 q = some (.lst (bestV o))) : spSor [.ref q] H2 Q E := by
  refine ⟨q, o, rfl, h, fun H' p s' hp hh => g H' p (s.trans s') ?_ (by rw [sidesV_is]; exact hh)⟩
  rcases hp with e | hp
  · rw [e]; exact n
  · exact s.free hp
structure TxC (K : PySem.W.Frag) (C : Addr) : Prop where
  cl : Cls K C
  nP : NoAttr K C "perimeter"
  nS : NoAttr K C "sticks"
section
variable {P : Program} {w : World} {K : PySem.W.Frag} {mg : Str → Option Value} {base : Heap} {C : Addr}
theorem sc_Line___init__ : FnScope ["self"] ["self"] (defScope s_Line___init__) := ⟨rfl, rfl, rfl, by decide +kernel, rfl, by decide +kernel, by decide +kernel⟩
theorem ok_init {f : Addr} {fd : FuncData} (F : Fun K "__init__" "Line.__init__" s_Line___init__ f fd) (T : Txt mg) (TC : TxC K C) : FnOk P w K mg base CX0 1 f fd ["self"] (spInit C) := by
  refine F.ok sc_Line___init__ (fun vs H Q E h => ?_) (fun cdv A outer s H vs Q E hr h => ?_)
  · obtain ⟨p, dx, rfl, _⟩ := h
    rfl
  · obtain ⟨p, dx, rfl, hp, k⟩ := h
    refine ⟨_, (pss_cons (ps_fld (pv 0) (pe_cint (by rfl) T.c_FIRST_PERIMETER) rfl)
      (pss_one (ps_fld (pv 0) (pe_lst pa_nil) rfl))), ?_⟩
    refine ⟨_, rfl, p, C, dx, [], rfl, hp, TC.cl, TC.nP, (by show 0 < 1000; decide), ?_⟩
    refine ⟨(by show 0 ≤ sizeLine; decide), fun ls hls => ?_⟩
    have npl : p ≠ ls := fun e => by rw [← e, upd_same] at hls; cases hls
    have hls' : H ls = none := by rw [upd_ne (Ne.symm npl)] at hls; exact hls
    refine ⟨_, rfl, p, C, dx, _, rfl, Eq.trans (upd_ne npl) upd_same, TC.cl, TC.nS, (by show 1 < 1000; decide), ?_⟩
    refine k _ ls ⟨⟨dx, upd_same⟩, ?_⟩ hls' fun b o e hb => ?_
    · rw [upd_ne (Ne.symm npl), upd_same]
      rfl
    · rw [upd_ne hb, upd_ne (ne_of_none e hls'), upd_ne hb]
      exact e
theorem sc_Line_about : FnScope ["self", "p"] ["self", "p"] (defScope s_Line_about) := ⟨rfl, rfl, rfl, by decide +kernel, rfl, by decide +kernel, by decide +kernel⟩
theorem ok_about {f : Addr} {fd : FuncData} (F : Fun K "about" "Line.about" s_Line_about f fd) (T : Txt mg) (TC : TxC K C) (c_of_perimeter : Callee P w K mg base "of_perimeter" 2 ["p"] spPer) : FnOk P w K mg base CX0 3 f fd ["self", "p"] (spAbout C) := by
  refine F.ok sc_Line_about (fun vs H Q E h => ?_) (fun cdv A outer s H vs Q E hr h => ?_)
  · obtain ⟨a, ls, d, n, rfl, _⟩ := h
    rfl
  · obtain ⟨a, ls, d, n, rfl, hL, k⟩ := h
    refine ⟨_, (pss_cons (ps_if (pw_or (pt_cmpR op_lt (pv 1) pe_int (nomark _)) (pw_or1 (pt_cmpR op_gt (pv 1) (pe_cint (by rfl) T.c_GREATEST_PERIMETER) (nomark _)))).pt (pss_one (ps_ret (pe_lst (pa_cons (pe_cint (by rfl) T.c_OUT_OF_BOUNDS) pa_nil)))) pss_nil)
      (pss_cons (ps_fld (pv 0) (pv 1) rfl)
      (pss_one (ps_ret (pe_lst (pa_cons (pe_callB call_len_seq (by rfl) T.nlen PySem.boot_len (pa_cons (pe_own c_of_perimeter (hr.mono (by decide)) (by rfl) (pa_cons (pv 1) pa_nil)) pa_nil)) pa_nil)))))), ?_⟩
    have ek : Ux05.step d (.about n) = if n < 1 ∨ 200 < n then (d, [-1]) else ({ d with p := n }, Ux05.ints [(triangles n).length]) := rfl
    simp only [tSeq, tAsg, gName, tVar, tC, tOp, tUn, rI, rI0, rU, rEq, rNe, tTest, tB, tAnd, tOr, tNot, tAndV, tOrV, tNotV, tIf, tIfS, tRet, tRetN, tDrop, tNext, tNil, tCons, tLst, tTup, tCall, tAug, ipI, tCB, tBM, tBM0, gTup, gCons, gNil, tNoPart, tPart, tSl, tChain, L2.start, List.map_cons, List.map_nil, List.replicate_succ, List.replicate_zero, Nat.reduceSub, CDiv, Int.reduceLT,
    List.getElem?_cons_zero, List.getElem?_cons_succ, Option.some.injEq, V.int.injEq, V.bl.injEq, V.ref.injEq, List.cons.injEq, and_true, true_and, exists_eq_left, exists_eq_left', exists_eq_right, exists_eq_right', exists_and_left, List.set_cons_zero, List.set_cons_succ, List.append_nil, List.nil_append, List.cons_append, decide_eq_true_eq, List.length_cons, List.length_nil, Nat.reduceAdd, scal, if_true, if_false, ite_self, Int.natCast_inj, Bool.false_eq_true]
    by_cases h1 : n < 1 ∨ 200 < n
    · rw [if_pos h1] at ek
      have g := k.gives hL (by rw [ek])
      rw [ek] at g
      have last : 1 ≤ sizeLine ∧ ∀ p, H p = none → Q (.ref p) (upd H p (.lst [.int (-1)])) := ⟨by decide, fun p hp => g _ p ((Same.refl H).new hp) hp upd_same⟩
      rcases h1 with h1 | h1
      · rw [if_pos (by omega)]; exact last
      · rw [if_neg (by omega), if_pos (by omega)]; exact last
    · rw [if_neg h1] at ek
      unfold After at k
      rw [ek] at k
      rw [if_neg (by omega), if_neg (by omega)]
      obtain ⟨⟨dx, hA⟩, hS⟩ := hL
      have nla : ls ≠ a := fun e => by rw [e, hA] at hS; cases hS
      refine ⟨_, rfl, _, rfl, a, C, dx, _, rfl, hA, TC.cl, TC.nP, (by rw [lf_eq]; show 2 < 1000; decide), ?_⟩
      simp only [tSeq, tAsg, gName, tVar, tC, tOp, tUn, rI, rI0, rU, rEq, rNe, tTest, tB, tAnd, tOr, tNot, tAndV, tOrV, tNotV, tIf, tIfS, tRet, tRetN, tDrop, tNext, tNil, tCons, tLst, tTup, tCall, tAug, ipI, tCB, tBM, tBM0, gTup, gCons, gNil, tNoPart, tPart, tSl, tChain, L2.start, List.map_cons, List.map_nil, List.replicate_succ, List.replicate_zero, Nat.reduceSub, CDiv, Int.reduceLT,
    List.getElem?_cons_zero, List.getElem?_cons_succ, Option.some.injEq, V.int.injEq, V.bl.injEq, V.ref.injEq, List.cons.injEq, and_true, true_and, exists_eq_left, exists_eq_left', exists_eq_right, exists_eq_right', exists_and_left, List.set_cons_zero, List.set_cons_succ, List.append_nil, List.nil_append, List.cons_append, decide_eq_true_eq, List.length_cons, List.length_nil, Nat.reduceAdd, scal, if_true, if_false, ite_self, Int.natCast_inj, Bool.false_eq_true, lf_putP]
      refine ⟨n, rfl, by omega, fun H1 l s1 nl hl => ?_⟩
      simp only [tSeq, tAsg, gName, tVar, tC, tOp, tUn, rI, rI0, rU, rEq, rNe, tTest, tB, tAnd, tOr, tNot, tAndV, tOrV, tNotV, tIf, tIfS, tRet, tRetN, tDrop, tNext, tNil, tCons, tLst, tTup, tCall, tAug, ipI, tCB, tBM, tBM0, gTup, gCons, gNil, tNoPart, tPart, tSl, tChain, L2.start, List.map_cons, List.map_nil, List.replicate_succ, List.replicate_zero, Nat.reduceSub, CDiv, Int.reduceLT,
    List.getElem?_cons_zero, List.getElem?_cons_succ, Option.some.injEq, V.int.injEq, V.bl.injEq, V.ref.injEq, List.cons.injEq, and_true, true_and, exists_eq_left, exists_eq_left', exists_eq_right, exists_eq_right', exists_and_left, List.set_cons_zero, List.set_cons_succ, List.append_nil, List.nil_append, List.cons_append, decide_eq_true_eq, List.length_cons, List.length_nil, Nat.reduceAdd, scal, if_true, if_false, ite_self, Int.natCast_inj, Bool.false_eq_true]
      obtain ⟨as, l1, l2, l3⟩ := hl
      refine ⟨_, .inl (SqL.of l1), by decide, fun q hq => ?_⟩
      have s2 : Same (upd H a (.ins C dx (lf n ls))) (upd H1 q (.lst [.int ((as.map V.ref).length : Nat)])) := s1.new hq
      have kp : ∀ b o, H b = some o → b ≠ a → upd H1 q (.lst [.int ((as.map V.ref).length : Nat)]) b = some o := fun b o hb hba => s2 b o (by rw [upd_ne hba]; exact hb)
      refine k _ q ls ⟨⟨dx, s2 _ _ upd_same⟩, kp _ _ hS nla⟩ (.inl rfl) (fun b o hb hba _ => kp b o hb hba) ?_ ?_
      · have := s1.free hq
        by_cases e : q = a
        · rw [e, upd_same] at this
          cases this
        · rw [upd_ne e] at this
          exact this
      · rw [upd_same, List.length_map, l2]
        rfl
theorem sc_Line_shows : FnScope ["self"] ["self"] (defScope s_Line_shows) := ⟨rfl, rfl, rfl, by decide +kernel, rfl, by decide +kernel, by decide +kernel⟩
theorem ok_shows {f : Addr} {fd : FuncData} (F : Fun K "shows" "Line.shows" s_Line_shows f fd) (T : Txt mg) (TC : TxC K C) : FnOk P w K mg base CX0 1 f fd ["self"] (spM0 C .shows) := by
  refine F.ok sc_Line_shows (fun vs H Q E h => ?_) (fun cdv A outer s H vs Q E hr h => ?_)
  · obtain ⟨a, ls, d, rfl, _⟩ := h
    rfl
  · obtain ⟨a, ls, d, rfl, hL, gd, k⟩ := h
    have g := k.gives hL rfl
    obtain ⟨⟨dx, hA⟩, hS⟩ := hL
    refine ⟨_, (pss_one (ps_ret (pe_op op_cat (pe_lst (pa_cons (pe_fld (pv 0) rfl) (pa_cons (pe_callB call_len_seq (by rfl) T.nlen PySem.boot_len (pa_cons (pe_fld (pv 0) rfl) pa_nil)) pa_nil))) (pe_fld (pv 0) rfl)))), ?_⟩
    have ek : (Ux05.step d .shows).2 = (d.p : Int) :: (d.heap.length : Int) :: Ux05.ints d.heap := rfl
    rw [ek] at g
    simp only [tSeq, tAsg, gName, tVar, tC, tOp, tUn, rI, rI0, rU, rEq, rNe, tTest, tB, tAnd, tOr, tNot, tAndV, tOrV, tNotV, tIf, tIfS, tRet, tRetN, tDrop, tNext, tNil, tCons, tLst, tTup, tCall, tAug, ipI, tCB, tBM, tBM0, gTup, gCons, gNil, tNoPart, tPart, tSl, tChain, L2.start, List.map_cons, List.map_nil, List.replicate_succ, List.replicate_zero, Nat.reduceSub, CDiv, Int.reduceLT,
    List.getElem?_cons_zero, List.getElem?_cons_succ, Option.some.injEq, V.int.injEq, V.bl.injEq, V.ref.injEq, List.cons.injEq, and_true, true_and, exists_eq_left, exists_eq_left', exists_eq_right, exists_eq_right', exists_and_left, List.set_cons_zero, List.set_cons_succ, List.append_nil, List.nil_append, List.cons_append, decide_eq_true_eq, List.length_cons, List.length_nil, Nat.reduceAdd, scal, if_true, if_false, ite_self, Int.natCast_inj, Bool.false_eq_true]
    refine fld_do rfl hA TC.cl TC.nP (lf_p _ _) ?_
    refine fld_do rfl hA TC.cl TC.nS (lf_s _ _) ?_
    simp only [tSeq, tAsg, gName, tVar, tC, tOp, tUn, rI, rI0, rU, rEq, rNe, tTest, tB, tAnd, tOr, tNot, tAndV, tOrV, tNotV, tIf, tIfS, tRet, tRetN, tDrop, tNext, tNil, tCons, tLst, tTup, tCall, tAug, ipI, tCB, tBM, tBM0, gTup, gCons, gNil, tNoPart, tPart, tSl, tChain, L2.start, List.map_cons, List.map_nil, List.replicate_succ, List.replicate_zero, Nat.reduceSub, CDiv, Int.reduceLT,
    List.getElem?_cons_zero, List.getElem?_cons_succ, Option.some.injEq, V.int.injEq, V.bl.injEq, V.ref.injEq, List.cons.injEq, and_true, true_and, exists_eq_left, exists_eq_left', exists_eq_right, exists_eq_right', exists_and_left, List.set_cons_zero, List.set_cons_succ, List.append_nil, List.nil_append, List.cons_append, decide_eq_true_eq, List.length_cons, List.length_nil, Nat.reduceAdd, scal, if_true, if_false, ite_self, Int.natCast_inj, Bool.false_eq_true]
    refine ⟨_, .inl (SqL.of hS), by decide, fun p hp => ?_⟩
    have s1 : Same H (upd H p (.lst [.int d.p, .int ((nv d.heap).length : Nat)])) := (Same.refl H).new hp
    refine fld_do rfl (s1 _ _ hA) TC.cl TC.nS (lf_s _ _) ?_
    have hn : (nv d.heap).length = d.heap.length := by unfold nv; rw [List.length_map]
    refine cat_do upd_same (s1 _ _ hS) (by rw [hn]; have := gd.n; exact Nat.le_trans (show 2 + d.heap.length ≤ 18 by omega) (by decide)) fun q hq => ?_
    refine g _ q (s1.new hq) (s1.free hq) ?_
    rw [upd_same, hn]
    show some (HO.lst (V.int d.p :: V.int d.heap.length :: nv d.heap)) = some (HO.lst (V.int d.p :: V.int d.heap.length :: iv (Ux05.ints d.heap)))
    rw [iv_ints]
theorem sc_Line_one : FnScope ["self", "i", "triangles"] ["self", "i"] (defScope s_Line_one) := ⟨rfl, rfl, rfl, by decide +kernel, rfl, by decide +kernel, by decide +kernel⟩
theorem ok_one {f : Addr} {fd : FuncData} (F : Fun K "one" "Line.one" s_Line_one f fd) (T : Txt mg) (TC : TxC K C) (c_of_perimeter : Callee P w K mg base "of_perimeter" 2 ["p"] spPer) : FnOk P w K mg base CX0 3 f fd ["self", "i"] (spOne C) := by
  refine F.ok sc_Line_one (fun vs H Q E h => ?_) (fun cdv A outer s H vs Q E hr h => ?_)
  · obtain ⟨a, ls, d, n, rfl, _⟩ := h
    rfl
  · obtain ⟨a, ls, d, n, rfl, hL, gd, k⟩ := h
    have g := k.gives hL rfl
    obtain ⟨⟨dx, hA⟩, hS⟩ := hL
    refine ⟨_, (pss_cons (ps_set (i := 2) sc_Line_one.nd rfl (Or.inl rfl) (pe_own c_of_perimeter (hr.mono (by decide)) (by rfl) (pa_cons (pe_fld (pv 0) rfl) pa_nil)))
      (pss_cons (ps_if (pw_or (pt_cmpR op_lt (pv 1) pe_int (nomark _)) (pw_or1 (pt_cmpR op_gt (pv 1) (pe_callB call_len_seq (by rfl) T.nlen PySem.boot_len (pa_cons (pv 2) pa_nil)) (nomark _)))).pt (pss_one (ps_ret (pe_lst (pa_cons (pe_cint (by rfl) T.c_NOT_THERE) pa_nil)))) pss_nil)
      (pss_one (ps_ret (pe_callTy call_list_of (by rfl) T.nlist boot_list (pa_cons (pe_ix ix_list (pv 2) (pe_op op_sub (pv 1) pe_int) (fun _ _ => rfl)) pa_nil)))))), ?_⟩
    have ek : (Ux05.step d (.one n)).2 = match (if n = 0 then none else (triangles d.p)[n - 1]?) with
      | none => [-3]
      | some t => Ux05.ints [t.a, t.b, t.c] := rfl
    rw [ek] at g
    simp only [tSeq, tAsg, gName, tVar, tC, tOp, tUn, rI, rI0, rU, rEq, rNe, tTest, tB, tAnd, tOr, tNot, tAndV, tOrV, tNotV, tIf, tIfS, tRet, tRetN, tDrop, tNext, tNil, tCons, tLst, tTup, tCall, tAug, ipI, tCB, tBM, tBM0, gTup, gCons, gNil, tNoPart, tPart, tSl, tChain, L2.start, List.map_cons, List.map_nil, List.replicate_succ, List.replicate_zero, Nat.reduceSub, CDiv, Int.reduceLT,
    List.getElem?_cons_zero, List.getElem?_cons_succ, Option.some.injEq, V.int.injEq, V.bl.injEq, V.ref.injEq, List.cons.injEq, and_true, true_and, exists_eq_left, exists_eq_left', exists_eq_right, exists_eq_right', exists_and_left, List.set_cons_zero, List.set_cons_succ, List.append_nil, List.nil_append, List.cons_append, decide_eq_true_eq, List.length_cons, List.length_nil, Nat.reduceAdd, scal, if_true, if_false, ite_self, Int.natCast_inj, Bool.false_eq_true]
    refine fld_do rfl hA TC.cl TC.nP (lf_p _ _) ?_
    refine ⟨d.p, rfl, by have := gd.p2; omega, fun H1 l s1 nl hl => ?_⟩
    obtain ⟨as, l1, l2, l3⟩ := hl
    simp only [tSeq, tAsg, gName, tVar, tC, tOp, tUn, rI, rI0, rU, rEq, rNe, tTest, tB, tAnd, tOr, tNot, tAndV, tOrV, tNotV, tIf, tIfS, tRet, tRetN, tDrop, tNext, tNil, tCons, tLst, tTup, tCall, tAug, ipI, tCB, tBM, tBM0, gTup, gCons, gNil, tNoPart, tPart, tSl, tChain, L2.start, List.map_cons, List.map_nil, List.replicate_succ, List.replicate_zero, Nat.reduceSub, CDiv, Int.reduceLT,
    List.getElem?_cons_zero, List.getElem?_cons_succ, Option.some.injEq, V.int.injEq, V.bl.injEq, V.ref.injEq, List.cons.injEq, and_true, true_and, exists_eq_left, exists_eq_left', exists_eq_right, exists_eq_right', exists_and_left, List.set_cons_zero, List.set_cons_succ, List.append_nil, List.nil_append, List.cons_append, decide_eq_true_eq, List.length_cons, List.length_nil, Nat.reduceAdd, scal, if_true, if_false, ite_self, Int.natCast_inj, Bool.false_eq_true]
    have no : (if n = 0 then none else (triangles d.p)[n - 1]?) = none → 1 ≤ sizeLine ∧ ∀ p, H1 p = none → Q (.ref p) (upd H1 p (.lst [.int (-3)])) := fun e => by
      rw [e] at g
      exact ⟨by decide, fun p hp => g _ p (s1.new hp) (s1.free hp) upd_same⟩
    by_cases h0 : n = 0
    · rw [if_pos (by omega)]
      exact no (if_pos h0)
    · rw [if_neg (by omega)]
      refine ⟨_, .inl (SqL.of l1), ?_⟩
      rw [List.length_map, l2]
      by_cases h1 : (triangles d.p).length < n
      · rw [if_pos (by omega)]
        refine no ?_
        rw [if_neg h0]
        exact List.getElem?_eq_none (by omega)
      · rw [if_neg (by omega)]
        have hlt : n - 1 < (triangles d.p).length := by omega
        obtain ⟨x, hx, hh⟩ := l3 (n - 1) _ (List.getElem?_eq_getElem hlt)
        have e1 : (if n = 0 then none else (triangles d.p)[n - 1]?) = some (triangles d.p)[n - 1] := by rw [if_neg h0]; exact List.getElem?_eq_getElem hlt
        rw [e1] at g
        refine ixL_do (j := n - 1) (SqL.of l1) (by omega) (by rw [List.getElem?_map, hx]; rfl) ?_
        simp only [tSeq, tAsg, gName, tVar, tC, tOp, tUn, rI, rI0, rU, rEq, rNe, tTest, tB, tAnd, tOr, tNot, tAndV, tOrV, tNotV, tIf, tIfS, tRet, tRetN, tDrop, tNext, tNil, tCons, tLst, tTup, tCall, tAug, ipI, tCB, tBM, tBM0, gTup, gCons, gNil, tNoPart, tPart, tSl, tChain, L2.start, List.map_cons, List.map_nil, List.replicate_succ, List.replicate_zero, Nat.reduceSub, CDiv, Int.reduceLT,
    List.getElem?_cons_zero, List.getElem?_cons_succ, Option.some.injEq, V.int.injEq, V.bl.injEq, V.ref.injEq, List.cons.injEq, and_true, true_and, exists_eq_left, exists_eq_left', exists_eq_right, exists_eq_right', exists_and_left, List.set_cons_zero, List.set_cons_succ, List.append_nil, List.nil_append, List.cons_append, decide_eq_true_eq, List.length_cons, List.length_nil, Nat.reduceAdd, scal, if_true, if_false, ite_self, Int.natCast_inj, Bool.false_eq_true]
        refine ⟨_, .inr (SqT.of hh), fun q hq => g _ q (s1.new hq) (s1.free hq) ?_⟩
        rw [upd_same]
        rfl
theorem sc_Line_kinds : FnScope ["self", "triangles"] ["self"] (defScope s_Line_kinds) := ⟨rfl, rfl, rfl, by decide +kernel, rfl, by decide +kernel, by decide +kernel⟩
theorem ok_kinds {f : Addr} {fd : FuncData} (F : Fun K "kinds" "Line.kinds" s_Line_kinds f fd) (T : Txt mg) (TC : TxC K C) (c_of_perimeter : Callee P w K mg base "of_perimeter" 2 ["p"] spPer)
    (c_count_by_sides : Callee P w K mg base "count_by_sides" 1 ["triangles"] spSides) (c_count_by_angle : Callee P w K mg base "count_by_angle" 1 ["triangles"] spAngle) : FnOk P w K mg base CX0 3 f fd ["self"] (spM0 C .kinds) := by
  refine F.ok sc_Line_kinds (fun vs H Q E h => ?_) (fun cdv A outer s H vs Q E hr h => ?_)
  · obtain ⟨a, ls, d, rfl, _⟩ := h
    rfl
  · obtain ⟨a, ls, d, rfl, hL, gd, k⟩ := h
    have g := k.gives hL rfl
    obtain ⟨⟨dx, hA⟩, hS⟩ := hL
    refine ⟨_, (pss_cons (ps_set (i := 1) sc_Line_kinds.nd rfl (Or.inl rfl) (pe_own c_of_perimeter (hr.mono (by decide)) (by rfl) (pa_cons (pe_fld (pv 0) rfl) pa_nil)))
      (pss_one (ps_ret (pe_op op_cat (pe_own c_count_by_sides (hr.mono (by decide)) (by rfl) (pa_cons (pv 1) pa_nil)) (pe_own c_count_by_angle (hr.mono (by decide)) (by rfl) (pa_cons (pv 1) pa_nil)))))), ?_⟩
    have ek : (Ux05.step d .kinds).2 = Ux05.ints (Ux05.kinds Ux05.likes (triangles d.p) ++ Ux05.kinds Ux05.angle (triangles d.p)) := rfl
    rw [ek, iv_ints] at g
    simp only [tSeq, tAsg, gName, tVar, tC, tOp, tUn, rI, rI0, rU, rEq, rNe, tTest, tB, tAnd, tOr, tNot, tAndV, tOrV, tNotV, tIf, tIfS, tRet, tRetN, tDrop, tNext, tNil, tCons, tLst, tTup, tCall, tAug, ipI, tCB, tBM, tBM0, gTup, gCons, gNil, tNoPart, tPart, tSl, tChain, L2.start, List.map_cons, List.map_nil, List.replicate_succ, List.replicate_zero, Nat.reduceSub, CDiv, Int.reduceLT,
    List.getElem?_cons_zero, List.getElem?_cons_succ, Option.some.injEq, V.int.injEq, V.bl.injEq, V.ref.injEq, List.cons.injEq, and_true, true_and, exists_eq_left, exists_eq_left', exists_eq_right, exists_eq_right', exists_and_left, List.set_cons_zero, List.set_cons_succ, List.append_nil, List.nil_append, List.cons_append, decide_eq_true_eq, List.length_cons, List.length_nil, Nat.reduceAdd, scal, if_true, if_false, ite_self, Int.natCast_inj, Bool.false_eq_true]
    refine fld_do rfl hA TC.cl TC.nP (lf_p _ _) ?_
    refine ⟨d.p, rfl, by have := gd.p2; omega, fun H1 l s1 nl hl => ?_⟩
    simp only [tSeq, tAsg, gName, tVar, tC, tOp, tUn, rI, rI0, rU, rEq, rNe, tTest, tB, tAnd, tOr, tNot, tAndV, tOrV, tNotV, tIf, tIfS, tRet, tRetN, tDrop, tNext, tNil, tCons, tLst, tTup, tCall, tAug, ipI, tCB, tBM, tBM0, gTup, gCons, gNil, tNoPart, tPart, tSl, tChain, L2.start, List.map_cons, List.map_nil, List.replicate_succ, List.replicate_zero, Nat.reduceSub, CDiv, Int.reduceLT,
    List.getElem?_cons_zero, List.getElem?_cons_succ, Option.some.injEq, V.int.injEq, V.bl.injEq, V.ref.injEq, List.cons.injEq, and_true, true_and, exists_eq_left, exists_eq_left', exists_eq_right, exists_eq_right', exists_and_left, List.set_cons_zero, List.set_cons_succ, List.append_nil, List.nil_append, List.cons_append, decide_eq_true_eq, List.length_cons, List.length_nil, Nat.reduceAdd, scal, if_true, if_false, ite_self, Int.natCast_inj, Bool.false_eq_true]
    refine ⟨l, _, rfl, hl, fun H2 q2 s2 n2 h2 => ?_⟩
    refine ⟨l, _, rfl, hl.same s2, fun t ht => ?_, fun H3 q3 s3 n3 h3 => ?_⟩
    · obtain ⟨e1, e2⟩ := Mt.tri_mem ht
      have := gd.p2
      exact ⟨e1, by omega⟩
    · refine cat_do (s3 _ _ h2) h3 (by show 3 + 3 ≤ sizeLine; decide) fun q hq => ?_
      have s13 := (s1.trans s2).trans s3
      refine g _ q (s13.new hq) (s13.free hq) ?_
      rw [upd_same]
      rfl
theorem sc_sides_or_refusal : FnScope ["sides"] ["sides"] (defScope s_sides_or_refusal) := ⟨rfl, rfl, rfl, by decide +kernel, rfl, by decide +kernel, by decide +kernel⟩
theorem ok_sides_or_refusal {f : Addr} {fd : FuncData} (F : Fun K "sides_or_refusal" "sides_or_refusal" s_sides_or_refusal f fd) (T : Txt mg) : FnOk P w K mg base CX0 1 f fd ["sides"] spSor := by
  refine F.ok sc_sides_or_refusal (fun vs H Q E h => ?_) (fun cdv A outer s H vs Q E hr h => ?_)
  · obtain ⟨q, o, rfl, _⟩ := h
    rfl
  · obtain ⟨q, o, rfl, hq, k⟩ := h
    refine ⟨_, (pss_cons (ps_if (pt_cmpR op_eq (pe_callB call_len_seq (by rfl) T.nlen PySem.boot_len (pa_cons (pv 0) pa_nil)) pe_int (nomark _)) (pss_one (ps_ret (pe_lst (pa_cons (pe_cint (by rfl) T.c_NO_TRIANGLE) pa_nil)))) pss_nil)
      (pss_one (ps_ret (pv 0)))), ?_⟩
    simp only [tSeq, tAsg, gName, tVar, tC, tOp, tUn, rI, rI0, rU, rEq, rNe, tTest, tB, tAnd, tOr, tNot, tAndV, tOrV, tNotV, tIf, tIfS, tRet, tRetN, tDrop, tNext, tNil, tCons, tLst, tTup, tCall, tAug, ipI, tCB, tBM, tBM0, gTup, gCons, gNil, tNoPart, tPart, tSl, tChain, L2.start, List.map_cons, List.map_nil, List.replicate_succ, List.replicate_zero, Nat.reduceSub, CDiv, Int.reduceLT,
    List.getElem?_cons_zero, List.getElem?_cons_succ, Option.some.injEq, V.int.injEq, V.bl.injEq, V.ref.injEq, List.cons.injEq, and_true, true_and, exists_eq_left, exists_eq_left', exists_eq_right, exists_eq_right', exists_and_left, List.set_cons_zero, List.set_cons_succ, List.append_nil, List.nil_append, List.cons_append, decide_eq_true_eq, List.length_cons, List.length_nil, Nat.reduceAdd, scal, if_true, if_false, ite_self, Int.natCast_inj, Bool.false_eq_true]
    refine ⟨_, .inl (SqL.of hq), ?_⟩
    cases o with
    | none =>
      rw [if_pos (show (((bestV none).length : Nat) : Int) = 0 from rfl)]
      exact ⟨by decide, fun p hp => k _ p ((Same.refl H).new hp) (.inr hp) upd_same⟩
    | some m =>
      rw [if_neg (show ¬ (((bestV (some m)).length : Nat) : Int) = 0 from by show ¬ (3 : Int) = 0; decide)]
      exact k _ q (Same.refl H) (.inl rfl) hq
theorem sc_Line_greatest : FnScope ["self"] ["self"] (defScope s_Line_greatest) := ⟨rfl, rfl, rfl, by decide +kernel, rfl, by decide +kernel, by decide +kernel⟩
theorem ok_greatest {f : Addr} {fd : FuncData} (F : Fun K "greatest" "Line.greatest" s_Line_greatest f fd) (T : Txt mg) (TC : TxC K C) (c_of_perimeter : Callee P w K mg base "of_perimeter" 2 ["p"] spPer)
    (c_greatest_area : Callee P w K mg base "greatest_area" 4 ["triangles"] spGreat) (c_sides_or_refusal : Callee P w K mg base "sides_or_refusal" 1 ["sides"] spSor) : FnOk P w K mg base CX0 5 f fd ["self"] (spM0 C .greatest) := by
  refine F.ok sc_Line_greatest (fun vs H Q E h => ?_) (fun cdv A outer s H vs Q E hr h => ?_)
  · obtain ⟨a, ls, d, rfl, _⟩ := h
    rfl
  · obtain ⟨a, ls, d, rfl, hL, gd, k⟩ := h
    have g := k.gives hL rfl
    obtain ⟨⟨dx, hA⟩, hS⟩ := hL
    refine ⟨_, (pss_one (ps_ret (pe_own c_sides_or_refusal (hr.mono (by decide)) (by rfl) (pa_cons (pe_own c_greatest_area (hr.mono (by decide)) (by rfl) (pa_cons (pe_own c_of_perimeter (hr.mono (by decide)) (by rfl) (pa_cons (pe_fld (pv 0) rfl) pa_nil)) pa_nil)) pa_nil)))), ?_⟩
    have ek : (Ux05.step d .greatest).2 = Ux05.sides (Ux05.mostBy Ux05.area (triangles d.p)) := rfl
    rw [ek] at g
    simp only [tSeq, tAsg, gName, tVar, tC, tOp, tUn, rI, rI0, rU, rEq, rNe, tTest, tB, tAnd, tOr, tNot, tAndV, tOrV, tNotV, tIf, tIfS, tRet, tRetN, tDrop, tNext, tNil, tCons, tLst, tTup, tCall, tAug, ipI, tCB, tBM, tBM0, gTup, gCons, gNil, tNoPart, tPart, tSl, tChain, L2.start, List.map_cons, List.map_nil, List.replicate_succ, List.replicate_zero, Nat.reduceSub, CDiv, Int.reduceLT,
    List.getElem?_cons_zero, List.getElem?_cons_succ, Option.some.injEq, V.int.injEq, V.bl.injEq, V.ref.injEq, List.cons.injEq, and_true, true_and, exists_eq_left, exists_eq_left', exists_eq_right, exists_eq_right', exists_and_left, List.set_cons_zero, List.set_cons_succ, List.append_nil, List.nil_append, List.cons_append, decide_eq_true_eq, List.length_cons, List.length_nil, Nat.reduceAdd, scal, if_true, if_false, ite_self, Int.natCast_inj, Bool.false_eq_true]
    refine fld_do rfl hA TC.cl TC.nP (lf_p _ _) ?_
    refine ⟨d.p, rfl, by have := gd.p2; omega, fun H1 l s1 nl hl => ?_⟩
    refine ⟨l, _, rfl, hl, fun t ht => ?_, fun H2 q2 s2 n2 h2 => ?_⟩
    · obtain ⟨e1, e2⟩ := Mt.tri_mem ht
      have := gd.p2
      exact ⟨e1, by omega⟩
    · exact sor_do g (s1.trans s2) (s1.free n2) h2
theorem sc_Line_least : FnScope ["self"] ["self"] (defScope s_Line_least) := ⟨rfl, rfl, rfl, by decide +kernel, rfl, by decide +kernel, by decide +kernel⟩
theorem ok_least {f : Addr} {fd : FuncData} (F : Fun K "least" "Line.least" s_Line_least f fd) (T : Txt mg) (TC : TxC K C) (c_of_perimeter : Callee P w K mg base "of_perimeter" 2 ["p"] spPer)
    (c_least_area : Callee P w K mg base "least_area" 4 ["triangles"] spLeast) (c_sides_or_refusal : Callee P w K mg base "sides_or_refusal" 1 ["sides"] spSor) : FnOk P w K mg base CX0 5 f fd ["self"] (spM0 C .least) := by
  refine F.ok sc_Line_least (fun vs H Q E h => ?_) (fun cdv A outer s H vs Q E hr h => ?_)
  · obtain ⟨a, ls, d, rfl, _⟩ := h
    rfl
  · obtain ⟨a, ls, d, rfl, hL, gd, k⟩ := h
    have g := k.gives hL rfl
    obtain ⟨⟨dx, hA⟩, hS⟩ := hL
    refine ⟨_, (pss_one (ps_ret (pe_own c_sides_or_refusal (hr.mono (by decide)) (by rfl) (pa_cons (pe_own c_least_area (hr.mono (by decide)) (by rfl) (pa_cons (pe_own c_of_perimeter (hr.mono (by decide)) (by rfl) (pa_cons (pe_fld (pv 0) rfl) pa_nil)) pa_nil)) pa_nil)))), ?_⟩
    have ek : (Ux05.step d .least).2 = Ux05.sides (Ux05.leastBy Ux05.area (triangles d.p)) := rfl
    rw [ek] at g
    simp only [tSeq, tAsg, gName, tVar, tC, tOp, tUn, rI, rI0, rU, rEq, rNe, tTest, tB, tAnd, tOr, tNot, tAndV, tOrV, tNotV, tIf, tIfS, tRet, tRetN, tDrop, tNext, tNil, tCons, tLst, tTup, tCall, tAug, ipI, tCB, tBM, tBM0, gTup, gCons, gNil, tNoPart, tPart, tSl, tChain, L2.start, List.map_cons, List.map_nil, List.replicate_succ, List.replicate_zero, Nat.reduceSub, CDiv, Int.reduceLT,
    List.getElem?_cons_zero, List.getElem?_cons_succ, Option.some.injEq, V.int.injEq, V.bl.injEq, V.ref.injEq, List.cons.injEq, and_true, true_and, exists_eq_left, exists_eq_left', exists_eq_right, exists_eq_right', exists_and_left, List.set_cons_zero, List.set_cons_succ, List.append_nil, List.nil_append, List.cons_append, decide_eq_true_eq, List.length_cons, List.length_nil, Nat.reduceAdd, scal, if_true, if_false, ite_self, Int.natCast_inj, Bool.false_eq_true]
    refine fld_do rfl hA TC.cl TC.nP (lf_p _ _) ?_
    refine ⟨d.p, rfl, by have := gd.p2; omega, fun H1 l s1 nl hl => ?_⟩
    refine ⟨l, _, rfl, hl, fun t ht => ?_, fun H2 q2 s2 n2 h2 => ?_⟩
    · obtain ⟨e1, e2⟩ := Mt.tri_mem ht
      have := gd.p2
      exact ⟨e1, by omega⟩
    · exact sor_do g (s1.trans s2) (s1.free n2) h2
end
end Tri
set_option Elab.async false
set_option linter.all false
set_option maxRecDepth 100000
namespace Tri
open PySem PySem.Spec PyProof.Rows L2
open Ux05 (Triangle isTriangle triangles byLongest Desk before perimeter)
theorem nv_ci (l : List Nat) : (Mh.ci l).map V.int = nv l := by
  unfold Mh.ci nv
  rw [List.map_map]
  rfl
theorem nv_at {l : List Nat} {i : Nat} (h : i < l.length) : (nv l)[i]? = some (.int ((l.getD i 0 : Nat) : Int)) := by
  unfold nv
  rw [List.getElem?_map, List.getElem?_eq_getElem h]
  simp [h]
theorem nv_len (l : List Nat) : (nv l).length = l.length := by unfold nv; rw [List.length_map]
/-! ### sorted lists of triangles -/
def ksOf (H : Hp) (b : Addr) : List Int := match H b with
  | some (.tup [.int x, .int y, .int z]) => [x, y, z]
  | _ => []
def triOf (H : Hp) (b : Addr) : Triangle := match H b with
  | some (.tup [.int x, .int y, .int z]) => ⟨x.toNat, y.toNat, z.toNat⟩
  | _ => ⟨0, 0, 0⟩
theorem ksOf_is {H : Hp} {b : Addr} {t : Triangle} (h : H b = some (.tup (tv t))) : ksOf H b = [(t.a : Int), (t.b : Int), (t.c : Int)] := by
  unfold ksOf
  rw [h]
  rfl
theorem triOf_is {H : Hp} {b : Addr} {t : Triangle} (h : H b = some (.tup (tv t))) : triOf H b = t := by
  unfold triOf
  rw [h]
  rfl
theorem lexI_before (t u : Triangle) : lexI [(t.a : Int), (t.b : Int), (t.c : Int)] [(u.a : Int), (u.b : Int), (u.c : Int)] = before t u := by
  rw [Bool.eq_iff_iff, Mh.before_iff]
  simp only [lexI, List.map_cons, List.map_nil, PyProof.Rows.lexLt, PyProof.Rows.itemLt, Bool.or_eq_true, Bool.and_eq_true, decide_eq_true_eq, Bool.not_eq_true', decide_eq_false_iff_not, Bool.false_eq_true, or_false, and_false]
  omega
theorem TriL.mem {H : Hp} {as : List Addr} {ts : List Triangle} (h2 : as.length = ts.length) (h3 : ∀ (j : Nat) (t : Triangle), ts[j]? = some t → ∃ a, as[j]? = some a ∧ H a = some (.tup (tv t))) :
    (∀ b ∈ as, ∃ t ∈ ts, H b = some (.tup (tv t))) ∧ as.map (triOf H) = ts := by
  have at_ : ∀ (j : Nat) (hj : j < as.length), H as[j] = some (.tup (tv (ts[j]'(by omega)))) := fun j hj => by
    obtain ⟨a, ha, hh⟩ := h3 j _ (List.getElem?_eq_getElem (show j < ts.length by omega))
    rw [List.getElem?_eq_getElem hj] at ha
    cases ha
    exact hh
  refine ⟨fun b hb => ?_, List.ext_getElem (by simpa using h2) fun j h1 h2' => ?_⟩
  · obtain ⟨j, hj, e⟩ := List.getElem_of_mem hb
    rw [← e]
    exact ⟨_, List.getElem_mem _, at_ j hj⟩
  · rw [List.getElem_map]
    exact triOf_is (at_ j (by simpa using h1))
theorem TriL.sorts {K : PySem.W.Frag} {H : Hp} {l : Addr} {ts : List Triangle} {Q : VK} (h : TriL H l ts)
    (k : ∀ (r : Addr) (ts' : List Triangle) (H2 : Hp), ts'.Perm ts → ts'.Pairwise (fun x y => before y x = false) → H r = none → TriL H2 r ts' → Same H H2 → Q (.ref r) H2) : rSortedT K [.ref l] H Q := by
  obtain ⟨as, h1, h2, h3⟩ := h
  obtain ⟨m1, m2⟩ := TriL.mem h2 h3
  refine ⟨l, as, ksOf H, rfl, SqL.of h1, fun b hb => ?_, fun as' p hp hw hn => ?_⟩
  · obtain ⟨t, _, e⟩ := m1 b hb
    rw [ksOf_is e]
    exact ⟨e, by simp⟩
  · have hs : Same H (upd H p (.lst (as'.map V.ref))) := (Same.refl H).new hn
    refine k p (as'.map (triOf H)) _ ?_ ?_ hn ⟨as', upd_same, by simp, fun j t ht => ?_⟩ hs
    · rw [← m2]
      exact hp.map _
    · rw [List.pairwise_map]
      refine hw.imp_of_mem fun {x y} hx hy hxy => ?_
      obtain ⟨t, _, e⟩ := m1 x (hp.mem_iff.mp hx)
      obtain ⟨u, _, e'⟩ := m1 y (hp.mem_iff.mp hy)
      rw [ksOf_is e, ksOf_is e', lexI_before] at hxy
      rw [triOf_is e, triOf_is e']
      exact hxy
    · rw [List.getElem?_map] at ht
      cases ea : as'[j]? with
      | none => rw [ea] at ht; cases ht
      | some b =>
        rw [ea] at ht
        have et : triOf H b = t := Option.some.inj ht
        obtain ⟨u, _, e⟩ := m1 b (hp.mem_iff.mp (List.mem_of_getElem? ea))
        rw [triOf_is e] at et
        subst et
        exact ⟨b, rfl, hs _ _ e⟩
def spOfSt : Sp := fun vs H Q _ => ∃ (ls : Addr) (hp : List Nat), vs = [.ref ls] ∧ H ls = some (.lst (nv hp)) ∧ hp.length ≤ 16 ∧
  ∀ (H' : Hp) (l : Addr) (ts : List Triangle), Same H H' → H l = none → TriL H' l ts → ts.Perm (Ux05.made hp) → ts.Pairwise (fun x y => before y x = false) → Q (.ref l) H'
def spGP : Sp := fun vs H Q _ => ∃ (l : Addr) (ts m : List Triangle), vs = [.ref l] ∧ TriL H l ts ∧ ts.Perm m ∧ ts.Pairwise (fun x y => before y x = false) ∧ Gives H Q (bestV (Ux05.greatest m))
section
variable {P : Program} {w : World} {K : PySem.W.Frag} {mg : Str → Option Value} {base : Heap}
theorem sc_greatest_perimeter : FnScope ["triangles"] ["triangles"] (defScope s_greatest_perimeter) := ⟨rfl, rfl, rfl, by decide +kernel, rfl, by decide +kernel, by decide +kernel⟩
theorem ok_greatest_perimeter {f : Addr} {fd : FuncData} (F : Fun K "greatest_perimeter" "greatest_perimeter" s_greatest_perimeter f fd) (T : Txt mg) : FnOk P w K mg base CX0 1 f fd ["triangles"] spGP := by
  refine F.ok sc_greatest_perimeter (fun vs H Q E h => ?_) (fun cdv A outer s H vs Q E hr h => ?_)
  · obtain ⟨l, ts, m, rfl, _⟩ := h
    rfl
  · obtain ⟨l, ts, m, rfl, ⟨as, h1, h2, h3⟩, hp, hw, k⟩ := h
    refine ⟨_, (pss_one (ps_ret (pe_callTy call_list_of (by rfl) T.nlist boot_list (pa_cons (pe_maxS rfl (by rfl) T.nmax (by rfl) T.nsum (pa_cons (pv 0) pa_nil) (pe_tup pa_nil)) pa_nil)))), ?_⟩
    simp only [tSeq, tAsg, gName, tVar, tC, tOp, tUn, rI, rI0, rU, rEq, rNe, tTest, tB, tAnd, tOr, tNot, tAndV, tOrV, tNotV, tIf, tIfS, tRet, tRetN, tDrop, tNext, tNil, tCons, tLst, tTup, tCall, tAug, ipI, tCB, tBM, tBM0, gTup, gCons, gNil, tNoPart, tPart, tSl, tChain, L2.start, List.map_cons, List.map_nil, List.replicate_succ, List.replicate_zero, Nat.reduceSub, CDiv, Int.reduceLT,
    List.getElem?_cons_zero, List.getElem?_cons_succ, Option.some.injEq, V.int.injEq, V.bl.injEq, V.ref.injEq, List.cons.injEq, and_true, true_and, exists_eq_left, exists_eq_left', exists_eq_right, exists_eq_right', exists_and_left, List.set_cons_zero, List.set_cons_succ, List.append_nil, List.nil_append, List.cons_append, decide_eq_true_eq, List.length_cons, List.length_nil, Nat.reduceAdd, scal, if_true, if_false, ite_self, Int.natCast_inj, Bool.false_eq_true]
    refine maxK_do l (as.map V.ref) (kfOf perimeter ts) (fun Q h => ⟨_, rfl, h⟩) (fun Q h => ⟨Nat.zero_le _, h⟩) h1 ?_ ?_ ?_
    · intro p i x hp hx
      obtain ⟨a, t, rfl, ht, hh⟩ := TriL.at h2 h3 hx
      refine ⟨a, [(t.a : Int), (t.b : Int), (t.c : Int)], rfl, SqT.of (((Same.refl H).new hp) _ _ hh), ?_⟩
      rw [kfOf_at ht]
      unfold perimeter
      simp only [List.sum_cons, List.sum_nil]
      omega
    · intro e p hp'
      have e0 : ts = [] := List.length_eq_zero_iff.mp (by rw [← h2]; exact List.length_eq_zero_iff.mpr (List.map_eq_nil_iff.mp e))
      subst e0
      rw [List.nil_perm.mp hp] at k
      refine ⟨_, rfl, _, .inr (SqT.of upd_same), fun q hq => k _ q (((Same.refl H).new hp').new hq) (((Same.refl H).new hp').free hq) upd_same⟩
    · intro p i x hp' hx hb
      obtain ⟨a, t, rfl, ht, hh⟩ := TriL.at h2 h3 hx
      have em : Ux05.greatest m = some t := Mh.greatest_is hp hw ht fun j u hu => by
        have := hb j (by rw [List.length_map, h2]; exact (List.getElem?_eq_some_iff.mp hu).1)
        rw [kfOf_at ht, kfOf_at hu] at this
        exact ⟨by omega, fun hji => by have := this.2 hji; omega⟩
      rw [em] at k
      refine ⟨_, rfl, _, .inr (SqT.of (((Same.refl H).new hp') _ _ hh)), fun q hq => k _ q (((Same.refl H).new hp').new hq) (((Same.refl H).new hp').free hq) upd_same⟩
theorem sc_of_sticks : FnScope ["sticks", "lengths", "found", "k", "j", "i"] ["sticks"] (defScope s_of_sticks) := ⟨rfl, rfl, rfl, by decide +kernel, rfl, by decide +kernel, by decide +kernel⟩
theorem ok_of_sticks {f : Addr} {fd : FuncData} (F : Fun K "of_sticks" "of_sticks" s_of_sticks f fd) (T : Txt mg) (c_is_triangle : Callee P w K mg base "is_triangle" 1 ["a", "b", "c"] spIsTri) : FnOk P w K mg base CX0 2 f fd ["sticks"] spOfSt := by
  refine F.ok sc_of_sticks (fun vs H Q E h => ?_) (fun cdv A outer s H vs Q E hr h => ?_)
  · obtain ⟨ls, hp, rfl, _⟩ := h
    rfl
  · obtain ⟨ls, hp, rfl, hS, hn, k⟩ := h
    refine ⟨_, (pss_cons (ps_set (i := 1) sc_of_sticks.nd rfl (Or.inl rfl) (pe_callB cr_sorted (by rfl) T.nsorted boot_sorted (pa_cons (pv 0) pa_nil)))
      (pss_cons (ps_set (i := 2) sc_of_sticks.nd rfl (Or.inl rfl) (pe_lst pa_nil))
      (pss_cons (ps_for PassesOwn.never rfl (pi_range1 (by rfl) T.nrange (pa_cons (pe_callB call_len_seq (by rfl) T.nlen PySem.boot_len (pa_cons (pv 1) pa_nil)) pa_nil)) (pg_name (i := 3) sc_of_sticks.nd rfl (Or.inl rfl)) (pss_one (ps_for PassesOwn.never rfl (pi_range1 (by rfl) T.nrange (pa_cons (pv 3) pa_nil)) (pg_name (i := 4) sc_of_sticks.nd rfl (Or.inl rfl)) (pss_one (ps_for PassesOwn.never rfl (pi_range1 (by rfl) T.nrange (pa_cons (pv 4) pa_nil)) (pg_name (i := 5) sc_of_sticks.nd rfl (Or.inl rfl)) (pss_one (ps_if (pt_val (pe_own c_is_triangle (hr.mono (by decide)) (by rfl) (pa_cons (pe_ix ix_list (pv 1) (pv 5) (fun _ _ => rfl)) (pa_cons (pe_ix ix_list (pv 1) (pv 4) (fun _ _ => rfl)) (pa_cons (pe_ix ix_list (pv 1) (pv 3) (fun _ _ => rfl)) pa_nil))))) (pss_one (ps_expr (pe_bm PySem.F.plainAttrs_list PySem.F.slot_list_append PySem.F.type_list_append mt_append (pv 2) (pa_cons (pe_tup (pa_cons (pe_ix ix_list (pv 1) (pv 5) (fun _ _ => rfl)) (pa_cons (pe_ix ix_list (pv 1) (pv 4) (fun _ _ => rfl)) (pa_cons (pe_ix ix_list (pv 1) (pv 3) (fun _ _ => rfl)) pa_nil)))) pa_nil)))) pss_nil)))))))
      (pss_one (ps_ret (pe_callB cr_sortedT (by rfl) T.nsorted boot_sorted (pa_cons (pv 2) pa_nil))))))), ?_⟩
    simp only [tSeq, tAsg, gName, tVar, tC, tOp, tUn, rI, rI0, rU, rEq, rNe, tTest, tB, tAnd, tOr, tNot, tAndV, tOrV, tNotV, tIf, tIfS, tRet, tRetN, tDrop, tNext, tNil, tCons, tLst, tTup, tCall, tAug, ipI, tCB, tBM, tBM0, gTup, gCons, gNil, tNoPart, tPart, tSl, tChain, L2.start, List.map_cons, List.map_nil, List.replicate_succ, List.replicate_zero, Nat.reduceSub, CDiv, Int.reduceLT,
    List.getElem?_cons_zero, List.getElem?_cons_succ, Option.some.injEq, V.int.injEq, V.bl.injEq, V.ref.injEq, List.cons.injEq, and_true, true_and, exists_eq_left, exists_eq_left', exists_eq_right, exists_eq_right', exists_and_left, List.set_cons_zero, List.set_cons_succ, List.append_nil, List.nil_append, List.cons_append, decide_eq_true_eq, List.length_cons, List.length_nil, Nat.reduceAdd, scal, if_true, if_false, ite_self, Int.natCast_inj, Bool.false_eq_true]
    refine ⟨ls, Mh.ci hp, rfl, SqL.of (by rw [nv_ci]; exact hS), by unfold Mh.ci; rw [List.length_map]; omega, fun ns' p hperm hpw hp0 => ?_⟩
    have en := Mh.sorted_is hperm hpw
    subst en
    rw [nv_ci]
    have hlen : (Ux05.sorted hp).length = hp.length := (Mh.sorted_perm hp).length_eq
    generalize hL : Ux05.sorted hp = L at hlen
    have s0 : Same H (upd H p (.lst (nv L))) := (Same.refl H).new hp0
    refine ⟨Nat.zero_le _, fun l hl => ?_⟩
    have hl0 : H l = none := s0.free hl
    have pl : ∀ {H' : Hp}, Same (upd H p (.lst (nv L))) H' → H' p = some (.lst (nv L)) := fun sm => sm _ _ upd_same
    refine tFor_r1 (L.length : Int) _ (fun k σ H' => ∃ v3 v4 v5, Is [some (.ref ls), some (.ref p), some (.ref l), v3, v4, v5] σ ∧ Same (upd H p (.lst (nv L))) H' ∧ TriL H' l (Mh.rowK (fun i => L.getD i 0) k)) (fun Q h => by
      simp only [tSeq, tAsg, gName, tVar, tC, tOp, tUn, rI, rI0, rU, rEq, rNe, tTest, tB, tAnd, tOr, tNot, tAndV, tOrV, tNotV, tIf, tIfS, tRet, tRetN, tDrop, tNext, tNil, tCons, tLst, tTup, tCall, tAug, ipI, tCB, tBM, tBM0, gTup, gCons, gNil, tNoPart, tPart, tSl, tChain, L2.start, List.map_cons, List.map_nil, List.replicate_succ, List.replicate_zero, Nat.reduceSub, CDiv, Int.reduceLT,
    List.getElem?_cons_zero, List.getElem?_cons_succ, Option.some.injEq, V.int.injEq, V.bl.injEq, V.ref.injEq, List.cons.injEq, and_true, true_and, exists_eq_left, exists_eq_left', exists_eq_right, exists_eq_right', exists_and_left, List.set_cons_zero, List.set_cons_succ, List.append_nil, List.nil_append, List.cons_append, decide_eq_true_eq, List.length_cons, List.length_nil, Nat.reduceAdd, scal, if_true, if_false, ite_self, Int.natCast_inj, Bool.false_eq_true]
      exact ⟨_, .inl (SqL.of (pl ((Same.refl _).new hl))), by rw [nv_len]; exact h⟩) (by omega) ?_ ?_ ?_
    · exact ⟨_, _, _, .mk, (Same.refl _).new hl, TriL.nil upd_same⟩
    · rintro k σ H1 hk ⟨v3, v4, v5, ⟨⟩, s1, t1⟩
      have hk' : k < L.length := by omega
      simp only [tSeq, tAsg, gName, tVar, tC, tOp, tUn, rI, rI0, rU, rEq, rNe, tTest, tB, tAnd, tOr, tNot, tAndV, tOrV, tNotV, tIf, tIfS, tRet, tRetN, tDrop, tNext, tNil, tCons, tLst, tTup, tCall, tAug, ipI, tCB, tBM, tBM0, gTup, gCons, gNil, tNoPart, tPart, tSl, tChain, L2.start, List.map_cons, List.map_nil, List.replicate_succ, List.replicate_zero, Nat.reduceSub, CDiv, Int.reduceLT,
    List.getElem?_cons_zero, List.getElem?_cons_succ, Option.some.injEq, V.int.injEq, V.bl.injEq, V.ref.injEq, List.cons.injEq, and_true, true_and, exists_eq_left, exists_eq_left', exists_eq_right, exists_eq_right', exists_and_left, List.set_cons_zero, List.set_cons_succ, List.append_nil, List.nil_append, List.cons_append, decide_eq_true_eq, List.length_cons, List.length_nil, Nat.reduceAdd, scal, if_true, if_false, ite_self, Int.natCast_inj, Bool.false_eq_true]
      refine tFor_r1 (0 + (k : Int)) H1 (fun j σ H' => ∃ v4 v5, Is [some (.ref ls), some (.ref p), some (.ref l), some (.int (0 + k)), v4, v5] σ ∧ Same (upd H p (.lst (nv L))) H' ∧ TriL H' l (Mh.rowK (fun i => L.getD i 0) k ++ Mh.rowJ (fun i => L.getD i 0) k j)) (fun Q h => by simp only [tSeq, tAsg, gName, tVar, tC, tOp, tUn, rI, rI0, rU, rEq, rNe, tTest, tB, tAnd, tOr, tNot, tAndV, tOrV, tNotV, tIf, tIfS, tRet, tRetN, tDrop, tNext, tNil, tCons, tLst, tTup, tCall, tAug, ipI, tCB, tBM, tBM0, gTup, gCons, gNil, tNoPart, tPart, tSl, tChain, L2.start, List.map_cons, List.map_nil, List.replicate_succ, List.replicate_zero, Nat.reduceSub, CDiv, Int.reduceLT,
    List.getElem?_cons_zero, List.getElem?_cons_succ, Option.some.injEq, V.int.injEq, V.bl.injEq, V.ref.injEq, List.cons.injEq, and_true, true_and, exists_eq_left, exists_eq_left', exists_eq_right, exists_eq_right', exists_and_left, List.set_cons_zero, List.set_cons_succ, List.append_nil, List.nil_append, List.cons_append, decide_eq_true_eq, List.length_cons, List.length_nil, Nat.reduceAdd, scal, if_true, if_false, ite_self, Int.natCast_inj, Bool.false_eq_true]; exact h) (by omega) ?_ ?_ ?_
      · exact ⟨_, _, .mk, s1, by simpa [Mh.rowJ] using t1⟩
      · rintro j σ H2 hj ⟨v4, v5, ⟨⟩, s2, t2⟩
        have hj' : j < k := by omega
        simp only [tSeq, tAsg, gName, tVar, tC, tOp, tUn, rI, rI0, rU, rEq, rNe, tTest, tB, tAnd, tOr, tNot, tAndV, tOrV, tNotV, tIf, tIfS, tRet, tRetN, tDrop, tNext, tNil, tCons, tLst, tTup, tCall, tAug, ipI, tCB, tBM, tBM0, gTup, gCons, gNil, tNoPart, tPart, tSl, tChain, L2.start, List.map_cons, List.map_nil, List.replicate_succ, List.replicate_zero, Nat.reduceSub, CDiv, Int.reduceLT,
    List.getElem?_cons_zero, List.getElem?_cons_succ, Option.some.injEq, V.int.injEq, V.bl.injEq, V.ref.injEq, List.cons.injEq, and_true, true_and, exists_eq_left, exists_eq_left', exists_eq_right, exists_eq_right', exists_and_left, List.set_cons_zero, List.set_cons_succ, List.append_nil, List.nil_append, List.cons_append, decide_eq_true_eq, List.length_cons, List.length_nil, Nat.reduceAdd, scal, if_true, if_false, ite_self, Int.natCast_inj, Bool.false_eq_true]
        refine tFor_r1 (0 + (j : Int)) H2 (fun i σ H' => ∃ v5, Is [some (.ref ls), some (.ref p), some (.ref l), some (.int (0 + k)), some (.int (0 + j)), v5] σ ∧ Same (upd H p (.lst (nv L))) H' ∧ TriL H' l (Mh.rowK (fun i => L.getD i 0) k ++ Mh.rowJ (fun i => L.getD i 0) k j ++ Mh.rowI (fun i => L.getD i 0) k j i)) (fun Q h => by simp only [tSeq, tAsg, gName, tVar, tC, tOp, tUn, rI, rI0, rU, rEq, rNe, tTest, tB, tAnd, tOr, tNot, tAndV, tOrV, tNotV, tIf, tIfS, tRet, tRetN, tDrop, tNext, tNil, tCons, tLst, tTup, tCall, tAug, ipI, tCB, tBM, tBM0, gTup, gCons, gNil, tNoPart, tPart, tSl, tChain, L2.start, List.map_cons, List.map_nil, List.replicate_succ, List.replicate_zero, Nat.reduceSub, CDiv, Int.reduceLT,
    List.getElem?_cons_zero, List.getElem?_cons_succ, Option.some.injEq, V.int.injEq, V.bl.injEq, V.ref.injEq, List.cons.injEq, and_true, true_and, exists_eq_left, exists_eq_left', exists_eq_right, exists_eq_right', exists_and_left, List.set_cons_zero, List.set_cons_succ, List.append_nil, List.nil_append, List.cons_append, decide_eq_true_eq, List.length_cons, List.length_nil, Nat.reduceAdd, scal, if_true, if_false, ite_self, Int.natCast_inj, Bool.false_eq_true]; exact h) (by omega) ?_ ?_ ?_
        · exact ⟨_, .mk, s2, by simpa [Mh.rowI] using t2⟩
        · rintro i σ H3 hi ⟨v5, ⟨⟩, s3, t3⟩
          have hi' : i < j := by omega
          simp only [tSeq, tAsg, gName, tVar, tC, tOp, tUn, rI, rI0, rU, rEq, rNe, tTest, tB, tAnd, tOr, tNot, tAndV, tOrV, tNotV, tIf, tIfS, tRet, tRetN, tDrop, tNext, tNil, tCons, tLst, tTup, tCall, tAug, ipI, tCB, tBM, tBM0, gTup, gCons, gNil, tNoPart, tPart, tSl, tChain, L2.start, List.map_cons, List.map_nil, List.replicate_succ, List.replicate_zero, Nat.reduceSub, CDiv, Int.reduceLT,
    List.getElem?_cons_zero, List.getElem?_cons_succ, Option.some.injEq, V.int.injEq, V.bl.injEq, V.ref.injEq, List.cons.injEq, and_true, true_and, exists_eq_left, exists_eq_left', exists_eq_right, exists_eq_right', exists_and_left, List.set_cons_zero, List.set_cons_succ, List.append_nil, List.nil_append, List.cons_append, decide_eq_true_eq, List.length_cons, List.length_nil, Nat.reduceAdd, scal, if_true, if_false, ite_self, Int.natCast_inj, Bool.false_eq_true]
          have at_ : ∀ {x : Nat}, x < L.length → (nv L)[x]? = some (.int ((L.getD x 0 : Nat) : Int)) := fun h => nv_at h
          refine ixL_do (j := i) (SqL.of (pl s3)) (by omega) (at_ (by omega)) ?_
          refine ixL_do (j := j) (SqL.of (pl s3)) (by omega) (at_ (by omega)) ?_
          refine ixL_do (j := k) (SqL.of (pl s3)) (by omega) (at_ (by omega)) ?_
          refine ⟨_, _, _, rfl, _, rfl, ?_⟩
          rw [triI_nat (t := ⟨L.getD i 0, L.getD j 0, L.getD k 0⟩) rfl rfl rfl]
          refine ite2 (fun hc => ?_) (fun hc => ?_)
          · obtain ⟨as, h1, h2, h3⟩ := t3
            have hll : as.length ≤ 10000 := by
              have e1 := Mh.rowK_le (fun i => L.getD i 0) 16 k (by omega)
              have e2 := Mh.rowJ_le (fun i => L.getD i 0) k 16 j (by omega)
              have e3 := Mh.rowI_le (fun i => L.getD i 0) k j i
              rw [List.length_append, List.length_append] at h2
              omega
            refine ⟨.inl ⟨rfl, _, SqL.of h1⟩, ?_⟩
            refine ixL_do (j := i) (SqL.of (pl s3)) (by omega) (at_ (by omega)) ?_
            refine ixL_do (j := j) (SqL.of (pl s3)) (by omega) (at_ (by omega)) ?_
            refine ixL_do (j := k) (SqL.of (pl s3)) (by omega) (at_ (by omega)) ?_
            refine ⟨(by decide), fun q hq => app_do (by rw [upd_ne (ne_of_none h1 hq)]; exact h1) (by rw [List.length_map]; exact Nat.lt_of_le_of_lt hll (by decide)) ?_⟩
            refine ⟨_, .mk, (s3.new hq).upd hl, ?_⟩
            rw [Mh.rowI_succ, if_pos hc, ← List.append_assoc]
            exact TriL.push (t := ⟨L.getD i 0, L.getD j 0, L.getD k 0⟩) h1 h2 h3 hq
          · exact ⟨_, .mk, s3, by rw [Mh.rowI_succ, if_neg hc, List.append_nil]; exact t3⟩
        · rintro σ H3 ⟨v5, ⟨⟩, s3, t3⟩
          have e : (0 + (j : Int)).toNat = j := by omega
          rw [e, List.append_assoc, ← Mh.rowJ_succ] at t3
          exact ⟨_, _, .mk, s3, t3⟩
      · rintro σ H2 ⟨v4, v5, ⟨⟩, s2, t2⟩
        have e : (0 + (k : Int)).toNat = k := by omega
        rw [e, ← Mh.rowK_succ] at t2
        exact ⟨_, _, _, .mk, s2, t2⟩
    · rintro σ H1 ⟨v3, v4, v5, ⟨⟩, s1, t1⟩
      simp only [tSeq, tAsg, gName, tVar, tC, tOp, tUn, rI, rI0, rU, rEq, rNe, tTest, tB, tAnd, tOr, tNot, tAndV, tOrV, tNotV, tIf, tIfS, tRet, tRetN, tDrop, tNext, tNil, tCons, tLst, tTup, tCall, tAug, ipI, tCB, tBM, tBM0, gTup, gCons, gNil, tNoPart, tPart, tSl, tChain, L2.start, List.map_cons, List.map_nil, List.replicate_succ, List.replicate_zero, Nat.reduceSub, CDiv, Int.reduceLT,
    List.getElem?_cons_zero, List.getElem?_cons_succ, Option.some.injEq, V.int.injEq, V.bl.injEq, V.ref.injEq, List.cons.injEq, and_true, true_and, exists_eq_left, exists_eq_left', exists_eq_right, exists_eq_right', exists_and_left, List.set_cons_zero, List.set_cons_succ, List.append_nil, List.nil_append, List.cons_append, decide_eq_true_eq, List.length_cons, List.length_nil, Nat.reduceAdd, scal, if_true, if_false, ite_self, Int.natCast_inj, Bool.false_eq_true]
      have e : (L.length : Int).toNat = L.length := by omega
      rw [e] at t1
      refine TriL.sorts t1 fun r ts' H2 hperm hw hr' tl sm => ?_
      have s2 := (s0.trans s1).trans sm
      refine k H2 r ts' s2 ((s0.trans s1).free hr') tl (hperm.trans ?_) hw
      have := Mh.rowK_perm (fun i => L.getD i 0) L.length
      rw [Mh.pre_getD] at this
      unfold Ux05.made
      rw [hL]
      exact this
end
end Tri
set_option Elab.async false
set_option linter.all false
set_option maxRecDepth 100000
namespace Tri
open PySem PySem.Spec PyProof.Rows L2
open Ux05 (Triangle isTriangle triangles byLongest Desk before perimeter)
/-! ### most_left -/
def kk (i j : Nat) : List Key := [Sum.inl (i : Int), Sum.inl (j : Int)]
theorem kk_v (i j : Nat) : (kk i j).map kV = [V.int (i : Int), V.int (j : Int)] := rfl
theorem kk_inj {i j i' j' : Nat} (h : kk i j = kk i' j') : i = i' ∧ j = j' := by
  unfold kk at h
  simp only [List.cons.injEq, Sum.inl.injEq, and_true] at h
  omega
/-- the dict holds, at each pair of places in S, the most that can be left with these last -/
def Dk (g : Nat → Nat) (kvs : List (List Key × V)) (S : Nat → Nat → Prop) : Prop := ∀ i j, S i j → ∃ v : Nat, valV kvs (kk i j) = some (.int v) ∧ Mh.Len g i j v ∧ ∀ m, Mh.Len g i j m → m ≤ v
structure Mo (g : Nat → Nat) (n mo : Nat) (S : Nat → Nat → Prop) : Prop where
  is : mo = min n 2 ∨ ∃ i j, j < n ∧ Mh.Len g i j mo
  ge : min n 2 ≤ mo
  all : ∀ i j m, S i j → Mh.Len g i j m → m ≤ mo
def Sj (j : Nat) : Nat → Nat → Prop := fun i' j' => i' < j' ∧ j' < j
def Si (j i : Nat) : Nat → Nat → Prop := fun i' j' => i' < j' ∧ (j' < j ∨ (j' = j ∧ i' < i))
/-- the value under way at (i, j), h places looked at -/
structure Cur (g : Nat → Nat) (i j h cur : Nat) : Prop where
  len : Mh.Len g i j cur
  all : ∀ h' m, h' < h → Mh.Len g h' i m → g h' + g i ≤ g j → m + 1 ≤ cur
theorem Cur.done {g : Nat → Nat} {i j cur : Nat} (c : Cur g i j i cur) : ∀ m, Mh.Len g i j m → m ≤ cur := by
  intro m hm
  cases hm with
  | two _ => exact c.len.two_le
  | more hl _ hg => exact c.all _ _ hl.lt hl hg
theorem Dk.put {g : Nat → Nat} {kvs : List (List Key × V)} {S : Nat → Nat → Prop} {i j : Nat} {v : V} (h : Dk g kvs S) (hn : ¬ S i j) : Dk g (putK kvs (kk i j) v) S := fun i' j' hs => by
  obtain ⟨v, h1, h2⟩ := h i' j' hs
  refine ⟨v, ?_, h2⟩
  rw [valV_put, if_neg, h1]
  intro e
  obtain ⟨rfl, rfl⟩ := kk_inj e
  exact hn hs
def spLeft : Sp := fun vs H Q _ => ∃ (ls : Addr) (hp : List Nat), vs = [.ref ls] ∧ H ls = some (.lst (nv hp)) ∧ hp.length ≤ 16 ∧ (∀ x ∈ hp, 1 ≤ x) ∧ ∀ (H' : Hp) (m : Nat), Same H H' → Ux05.spare hp = hp.length - m → m ≤ hp.length → Q (.int m) H'
theorem max_nat (a b : Nat) : (if (a : Int) < (b : Int) then (b : Int) else (a : Int)) = ((max a b : Nat) : Int) := by
  by_cases h : a < b
  · rw [if_pos (by omega)]; omega
  · rw [if_neg (by omega)]; omega
theorem max_nat1 (a b : Nat) : (if (b : Int) + 1 > (a : Int) then (b : Int) + 1 else (a : Int)) = ((max a (b + 1) : Nat) : Int) := by
  by_cases h : a < b + 1
  · rw [if_pos (by omega)]; omega
  · rw [if_neg (by omega)]; omega
/-- the loops' invariants -/
def PvJ (ls p d : Addr) (H0 : Hp) (g : Nat → Nat) (n j : Nat) : L2.St → Hp → Prop := fun σ H' => ∃ (v4 v5 v6 : Option V) (kvs : List (List Key × V)) (mo : Nat), Is [some (.ref ls), some (.ref p), some (.int (mo : Int)), some (.ref d), v4, v5, v6] σ ∧ Same H0 H' ∧ H' d = some (.dT kvs) ∧ kvs.length ≤ j * 272 ∧ Dk g kvs (Sj j) ∧ Mo g n mo (Sj j)
def PvI (ls p d : Addr) (H0 : Hp) (g : Nat → Nat) (n j i : Nat) : L2.St → Hp → Prop := fun σ H' => ∃ (v5 v6 : Option V) (kvs : List (List Key × V)) (mo : Nat), Is [some (.ref ls), some (.ref p), some (.int (mo : Int)), some (.ref d), some (.int (j : Int)), v5, v6] σ ∧ Same H0 H' ∧ H' d = some (.dT kvs) ∧ kvs.length ≤ j * 272 + i * 17 ∧ Dk g kvs (Si j i) ∧ Mo g n mo (Si j i)
def PvH (ls p d : Addr) (H0 : Hp) (g : Nat → Nat) (mo j i h : Nat) : L2.St → Hp → Prop := fun σ H' => ∃ (v6 : Option V) (kvs' : List (List Key × V)) (cur : Nat), Is [some (.ref ls), some (.ref p), some (.int (mo : Int)), some (.ref d), some (.int (j : Int)), some (.int (i : Int)), v6] σ ∧ Same H0 H' ∧ H' d = some (.dT kvs') ∧ kvs'.length ≤ j * 272 + i * 17 + 1 + h ∧ Dk g kvs' (Si j i) ∧ valV kvs' (kk i j) = some (.int (cur : Int)) ∧ Cur g i j h cur
theorem dget_do {td ty : TE} {σ : L2.St} {H : Hp} {Q : VK} (d : Addr) (i j : Nat) (kvs : List (List Key × V)) (hv0 : V) (hd : ∀ Q : VK, Q (.ref d) H → td σ H Q) (ht : ∀ Q : VK, (∀ p, H p = none → Q (.ref p) (upd H p (.tup [.int (i : Int), .int (j : Int)]))) → ty σ H Q)
    (h : H d = some (.dT kvs)) (hv : valV kvs (kk i j) = some hv0) (k : ∀ p, H p = none → Q hv0 (upd H p (.tup [.int (i : Int), .int (j : Int)]))) : tDGet td ty σ H Q :=
  hd _ (ht _ fun p hp => ⟨d, hv0, rfl, by rw [← hv]; exact DGet.t (k := kk i j) (by rw [upd_ne (ne_of_none h hp)]; exact h) upd_same, k p hp⟩)
section
variable {P : Program} {w : World} {K : PySem.W.Frag} {mg : Str → Option Value} {base : Heap}
theorem sc_most_left : FnScope ["sticks", "lengths", "most", "left", "j", "i", "h"] ["sticks"] (defScope s_most_left) := ⟨rfl, rfl, rfl, by decide +kernel, rfl, by decide +kernel, by decide +kernel⟩
theorem ok_most_left {f : Addr} {fd : FuncData} (F : Fun K "most_left" "most_left" s_most_left f fd) (T : Txt mg) (c_is_triangle : Callee P w K mg base "is_triangle" 1 ["a", "b", "c"] spIsTri) : FnOk P w K mg base CX0 2 f fd ["sticks"] spLeft := by
  refine F.ok sc_most_left (fun vs H Q E h => ?_) (fun cdv A outer s H vs Q E hr h => ?_)
  · obtain ⟨ls, hp, rfl, _⟩ := h
    rfl
  · obtain ⟨ls, hp, rfl, hS, hn, h1, k⟩ := h
    refine ⟨_, (pss_cons (ps_set (i := 1) sc_most_left.nd rfl (Or.inl rfl) (pe_callB cr_sorted (by rfl) T.nsorted boot_sorted (pa_cons (pv 0) pa_nil)))
      (pss_cons (ps_set (i := 2) sc_most_left.nd rfl (Or.inl rfl) (pe_callB (call_min2 rfl) (by rfl) T.nmin boot_min (pa_cons (pe_callB call_len_seq (by rfl) T.nlen PySem.boot_len (pa_cons (pv 1) pa_nil)) (pa_cons pe_int pa_nil))))
      (pss_cons (ps_set (i := 3) sc_most_left.nd rfl (Or.inl rfl) pe_dnewT)
      (pss_cons (ps_for PassesOwn.never rfl (pi_range1 (by rfl) T.nrange (pa_cons (pe_callB call_len_seq (by rfl) T.nlen PySem.boot_len (pa_cons (pv 1) pa_nil)) pa_nil)) (pg_name (i := 4) sc_most_left.nd rfl (Or.inl rfl)) (pss_one (ps_for PassesOwn.never rfl (pi_range1 (by rfl) T.nrange (pa_cons (pv 4) pa_nil)) (pg_name (i := 5) sc_most_left.nd rfl (Or.inl rfl)) (pss_cons (ps_dput (hu_of hr) (pv 3) (pe_tup (pa_cons (pv 5) (pa_cons (pv 4) pa_nil))) pe_int rfl)
      (pss_cons (ps_for PassesOwn.never rfl (pi_range1 (by rfl) T.nrange (pa_cons (pv 5) pa_nil)) (pg_name (i := 6) sc_most_left.nd rfl (Or.inl rfl)) (pss_one (ps_if (pt_not (pt_val (pe_own c_is_triangle (hr.mono (by decide)) (by rfl) (pa_cons (pe_ix ix_list (pv 1) (pv 6) (fun _ _ => rfl)) (pa_cons (pe_ix ix_list (pv 1) (pv 5) (fun _ _ => rfl)) (pa_cons (pe_ix ix_list (pv 1) (pv 4) (fun _ _ => rfl)) pa_nil)))))) (pss_one (ps_dput (hu_of hr) (pv 3) (pe_tup (pa_cons (pv 5) (pa_cons (pv 4) pa_nil))) (pe_callB (call_max2 rfl) (by rfl) T.nmax boot_max (pa_cons (pe_dget (hu_of hr) (pv 3) (pe_tup (pa_cons (pv 5) (pa_cons (pv 4) pa_nil))) (fun _ _ => rfl)) (pa_cons (pe_op op_add (pe_dget (hu_of hr) (pv 3) (pe_tup (pa_cons (pv 6) (pa_cons (pv 5) pa_nil))) (fun _ _ => rfl)) pe_int) pa_nil))) rfl)) pss_nil)))
      (pss_one (ps_set (i := 2) sc_most_left.nd rfl (Or.inl rfl) (pe_callB (call_max2 rfl) (by rfl) T.nmax boot_max (pa_cons (pv 2) (pa_cons (pe_dget (hu_of hr) (pv 3) (pe_tup (pa_cons (pv 5) (pa_cons (pv 4) pa_nil))) (fun _ _ => rfl)) pa_nil))))))))))
      (pss_one (ps_ret (pv 2))))))), ?_⟩
    simp only [tSeq, tAsg, gName, tVar, tC, tOp, tUn, rI, rI0, rU, rEq, rNe, tTest, tB, tAnd, tOr, tNot, tAndV, tOrV, tNotV, tIf, tIfS, tRet, tRetN, tDrop, tNext, tNil, tCons, tLst, tTup, tCall, tAug, ipI, tCB, tBM, tBM0, gTup, gCons, gNil, tNoPart, tPart, tSl, tChain, L2.start, List.map_cons, List.map_nil, List.replicate_succ, List.replicate_zero, Nat.reduceSub, CDiv, Int.reduceLT,
    List.getElem?_cons_zero, List.getElem?_cons_succ, Option.some.injEq, V.int.injEq, V.bl.injEq, V.ref.injEq, List.cons.injEq, and_true, true_and, exists_eq_left, exists_eq_left', exists_eq_right, exists_eq_right', exists_and_left, List.set_cons_zero, List.set_cons_succ, List.append_nil, List.nil_append, List.cons_append, decide_eq_true_eq, List.length_cons, List.length_nil, Nat.reduceAdd, scal, if_true, if_false, ite_self, Int.natCast_inj, Bool.false_eq_true]
    refine ⟨ls, Mh.ci hp, rfl, SqL.of (by rw [nv_ci]; exact hS), by unfold Mh.ci; rw [List.length_map]; omega, fun ns' p hperm hpw hp0 => ?_⟩
    have en := Mh.sorted_is hperm hpw
    subst en
    rw [nv_ci]
    have hlen : (Ux05.sorted hp).length = hp.length := (Mh.sorted_perm hp).length_eq
    have hri := Mh.sorted_pw hp
    have hpos : ∀ x ∈ Ux05.sorted hp, 1 ≤ x := fun x hx => h1 x ((Mh.sorted_perm hp).mem_iff.mp hx)
    generalize hL : Ux05.sorted hp = L at hlen hri hpos
    generalize hg : (fun i => L.getD i 0) = g
    have s0 : Same H (upd H p (.lst (nv L))) := (Same.refl H).new hp0
    have emin : (if (2 : Int) < ((nv L).length : Nat) then (2 : Int) else ((nv L).length : Nat)) = ((min L.length 2 : Nat) : Int) := by
      rw [nv_len]
      by_cases h : 2 < L.length
      · rw [if_pos (by omega)]; omega
      · rw [if_neg (by omega)]; omega
    refine ⟨_, rfl, _, .inl (SqL.of upd_same), _, _, ⟨rfl, rfl⟩, fun d hd => ?_⟩
    rw [emin]
    have hd0 : H d = none := s0.free hd
    have pl : ∀ {H' : Hp}, Same (upd H p (.lst (nv L))) H' → H' p = some (.lst (nv L)) := fun sm => sm _ _ upd_same
    have at_ : ∀ {x : Nat}, x < L.length → (nv L)[x]? = some (.int ((g x : Nat) : Int)) := fun h => by rw [← hg]; exact nv_at h
    have rise : ∀ {x y : Nat}, x < y → y < L.length → g x ≤ g y := fun hxy hy => by rw [← hg]; exact Mh.rises hri hxy hy
    have pos : ∀ {x : Nat}, x < L.length → 1 ≤ g x := fun hx => by rw [← hg]; exact hpos _ (Mh.getD_mem' hx)
    refine tFor_r1 (L.length : Int) _ (PvJ ls p d (upd H p (.lst (nv L))) g L.length) (fun Q h => by
      simp only [tSeq, tAsg, gName, tVar, tC, tOp, tUn, rI, rI0, rU, rEq, rNe, tTest, tB, tAnd, tOr, tNot, tAndV, tOrV, tNotV, tIf, tIfS, tRet, tRetN, tDrop, tNext, tNil, tCons, tLst, tTup, tCall, tAug, ipI, tCB, tBM, tBM0, gTup, gCons, gNil, tNoPart, tPart, tSl, tChain, L2.start, List.map_cons, List.map_nil, List.replicate_succ, List.replicate_zero, Nat.reduceSub, CDiv, Int.reduceLT,
    List.getElem?_cons_zero, List.getElem?_cons_succ, Option.some.injEq, V.int.injEq, V.bl.injEq, V.ref.injEq, List.cons.injEq, and_true, true_and, exists_eq_left, exists_eq_left', exists_eq_right, exists_eq_right', exists_and_left, List.set_cons_zero, List.set_cons_succ, List.append_nil, List.nil_append, List.cons_append, decide_eq_true_eq, List.length_cons, List.length_nil, Nat.reduceAdd, scal, if_true, if_false, ite_self, Int.natCast_inj, Bool.false_eq_true]
      exact ⟨_, .inl (SqL.of (pl ((Same.refl _).new hd))), by rw [nv_len]; exact h⟩) (by omega) ?_ ?_ ?_
    · exact ⟨_, _, _, [], min L.length 2, .mk, (Same.refl _).new hd, upd_same, by simp, fun i j h => absurd h.2 (Nat.not_lt_zero _), ⟨.inl rfl, Nat.le_refl _, fun i j m h => absurd h.2 (Nat.not_lt_zero _)⟩⟩
    · rintro j σ H1 hj ⟨v4, v5, v6, kvs, mo, ⟨⟩, s1, hk1, hl1, d1, m1⟩
      have hj' : j < L.length := by omega
      simp only [tSeq, tAsg, gName, tVar, tC, tOp, tUn, rI, rI0, rU, rEq, rNe, tTest, tB, tAnd, tOr, tNot, tAndV, tOrV, tNotV, tIf, tIfS, tRet, tRetN, tDrop, tNext, tNil, tCons, tLst, tTup, tCall, tAug, ipI, tCB, tBM, tBM0, gTup, gCons, gNil, tNoPart, tPart, tSl, tChain, L2.start, List.map_cons, List.map_nil, List.replicate_succ, List.replicate_zero, Nat.reduceSub, CDiv, Int.reduceLT,
    List.getElem?_cons_zero, List.getElem?_cons_succ, Option.some.injEq, V.int.injEq, V.bl.injEq, V.ref.injEq, List.cons.injEq, and_true, true_and, exists_eq_left, exists_eq_left', exists_eq_right, exists_eq_right', exists_and_left, List.set_cons_zero, List.set_cons_succ, List.append_nil, List.nil_append, List.cons_append, decide_eq_true_eq, List.length_cons, List.length_nil, Nat.reduceAdd, scal, if_true, if_false, ite_self, Int.natCast_inj, Bool.false_eq_true, Int.zero_add]
      refine tFor_r1 (j : Int) H1 (PvI ls p d (upd H p (.lst (nv L))) g L.length j) (fun Q h => by simp only [tSeq, tAsg, gName, tVar, tC, tOp, tUn, rI, rI0, rU, rEq, rNe, tTest, tB, tAnd, tOr, tNot, tAndV, tOrV, tNotV, tIf, tIfS, tRet, tRetN, tDrop, tNext, tNil, tCons, tLst, tTup, tCall, tAug, ipI, tCB, tBM, tBM0, gTup, gCons, gNil, tNoPart, tPart, tSl, tChain, L2.start, List.map_cons, List.map_nil, List.replicate_succ, List.replicate_zero, Nat.reduceSub, CDiv, Int.reduceLT,
    List.getElem?_cons_zero, List.getElem?_cons_succ, Option.some.injEq, V.int.injEq, V.bl.injEq, V.ref.injEq, List.cons.injEq, and_true, true_and, exists_eq_left, exists_eq_left', exists_eq_right, exists_eq_right', exists_and_left, List.set_cons_zero, List.set_cons_succ, List.append_nil, List.nil_append, List.cons_append, decide_eq_true_eq, List.length_cons, List.length_nil, Nat.reduceAdd, scal, if_true, if_false, ite_self, Int.natCast_inj, Bool.false_eq_true]; exact h) (by omega) ?_ ?_ ?_
      · exact ⟨_, _, kvs, mo, .mk, s1, hk1, by omega, fun i' j' h => d1 i' j' ⟨h.1, by have := h.2; omega⟩, ⟨m1.is, m1.ge, fun i' j' m h => m1.all i' j' m ⟨h.1, by have := h.2; omega⟩⟩⟩
      · rintro i σ H2 hi ⟨v5, v6, kvs, mo, ⟨⟩, s2, hk2, hl2, d2, m2⟩
        have hi' : i < j := by omega
        have hjl : j ≤ 15 := by omega
        have small : ∀ {n : Nat}, n ≤ 10000 → n < sizeLine := fun h => Nat.lt_of_le_of_lt h (by decide)
        simp only [tSeq, tAsg, gName, tVar, tC, tOp, tUn, rI, rI0, rU, rEq, rNe, tTest, tB, tAnd, tOr, tNot, tAndV, tOrV, tNotV, tIf, tIfS, tRet, tRetN, tDrop, tNext, tNil, tCons, tLst, tTup, tCall, tAug, ipI, tCB, tBM, tBM0, gTup, gCons, gNil, tNoPart, tPart, tSl, tChain, L2.start, List.map_cons, List.map_nil, List.replicate_succ, List.replicate_zero, Nat.reduceSub, CDiv, Int.reduceLT,
    List.getElem?_cons_zero, List.getElem?_cons_succ, Option.some.injEq, V.int.injEq, V.bl.injEq, V.ref.injEq, List.cons.injEq, and_true, true_and, exists_eq_left, exists_eq_left', exists_eq_right, exists_eq_right', exists_and_left, List.set_cons_zero, List.set_cons_succ, List.append_nil, List.nil_append, List.cons_append, decide_eq_true_eq, List.length_cons, List.length_nil, Nat.reduceAdd, scal, if_true, if_false, ite_self, Int.natCast_inj, Bool.false_eq_true, sDPut, Int.zero_add]
        refine ⟨by decide, fun q hq => ⟨_, DPut.t (kvs := kvs) (k := kk i j) (by rw [upd_ne (ne_of_none hk2 hq)]; exact hk2) upd_same (small (by omega)), ?_⟩⟩
        refine tFor_r1 (i : Int) _ (PvH ls p d (upd H p (.lst (nv L))) g mo j i) (fun Q h => by simp only [tSeq, tAsg, gName, tVar, tC, tOp, tUn, rI, rI0, rU, rEq, rNe, tTest, tB, tAnd, tOr, tNot, tAndV, tOrV, tNotV, tIf, tIfS, tRet, tRetN, tDrop, tNext, tNil, tCons, tLst, tTup, tCall, tAug, ipI, tCB, tBM, tBM0, gTup, gCons, gNil, tNoPart, tPart, tSl, tChain, L2.start, List.map_cons, List.map_nil, List.replicate_succ, List.replicate_zero, Nat.reduceSub, CDiv, Int.reduceLT,
    List.getElem?_cons_zero, List.getElem?_cons_succ, Option.some.injEq, V.int.injEq, V.bl.injEq, V.ref.injEq, List.cons.injEq, and_true, true_and, exists_eq_left, exists_eq_left', exists_eq_right, exists_eq_right', exists_and_left, List.set_cons_zero, List.set_cons_succ, List.append_nil, List.nil_append, List.cons_append, decide_eq_true_eq, List.length_cons, List.length_nil, Nat.reduceAdd, scal, if_true, if_false, ite_self, Int.natCast_inj, Bool.false_eq_true]; exact h) (by omega) ?_ ?_ ?_
        · exact ⟨_, _, 2, .mk, (s2.new hq).upd hd, upd_same, by have := length_putK kvs (kk i j) (.int 2); omega, d2.put (fun h => by have := h.2; omega), by rw [valV_put, if_pos rfl]; rfl, ⟨.two hi', fun h' m hh => absurd hh (Nat.not_lt_zero _)⟩⟩
        · rintro h σ H3 hh ⟨v6, kvs', cur, ⟨⟩, s3, hk3, hl3, d3, c3, cu⟩
          have hh' : h < i := by omega
          simp only [tSeq, tAsg, gName, tVar, tC, tOp, tUn, rI, rI0, rU, rEq, rNe, tTest, tB, tAnd, tOr, tNot, tAndV, tOrV, tNotV, tIf, tIfS, tRet, tRetN, tDrop, tNext, tNil, tCons, tLst, tTup, tCall, tAug, ipI, tCB, tBM, tBM0, gTup, gCons, gNil, tNoPart, tPart, tSl, tChain, L2.start, List.map_cons, List.map_nil, List.replicate_succ, List.replicate_zero, Nat.reduceSub, CDiv, Int.reduceLT,
    List.getElem?_cons_zero, List.getElem?_cons_succ, Option.some.injEq, V.int.injEq, V.bl.injEq, V.ref.injEq, List.cons.injEq, and_true, true_and, exists_eq_left, exists_eq_left', exists_eq_right, exists_eq_right', exists_and_left, List.set_cons_zero, List.set_cons_succ, List.append_nil, List.nil_append, List.cons_append, decide_eq_true_eq, List.length_cons, List.length_nil, Nat.reduceAdd, scal, if_true, if_false, ite_self, Int.natCast_inj, Bool.false_eq_true, sDPut, Int.zero_add]
          refine ixL_do (j := h) (SqL.of (pl s3)) rfl (at_ (by omega)) ?_
          refine ixL_do (j := i) (SqL.of (pl s3)) rfl (at_ (by omega)) ?_
          refine ixL_do (j := j) (SqL.of (pl s3)) rfl (at_ (by omega)) ?_
          refine ⟨_, _, _, rfl, _, rfl, ?_⟩
          rw [triI_nat (t := ⟨g h, g i, g j⟩) rfl rfl rfl]
          have tri : isTriangle ⟨g h, g i, g j⟩ = decide (g j < g h + g i) := by
            rw [Bool.eq_iff_iff, Mt.isTri_iff, decide_eq_true_eq]
            have r1 := rise hh' (show i < L.length by omega)
            have r2 := rise hi' hj'
            have r3 := pos (show h < L.length by omega)
            simp only
            omega
          rw [tri]
          by_cases hc : g j < g h + g i
          · simp only [hc, decide_true, Bool.not_true, Bool.false_eq_true, if_false]
            refine ⟨_, kvs', cur, .mk, s3, hk3, by omega, d3, c3, ⟨cu.len, fun h' m hlt hl hgg => ?_⟩⟩
            by_cases e : h' = h
            · subst e; omega
            · exact cu.all h' m (by omega) hl hgg
          · simp only [hc, decide_false, Bool.not_false, if_true]
            obtain ⟨v, hv, hv1, hv2⟩ := d3 h i ⟨hh', .inl hi'⟩
            refine dget_do d i j kvs' _ (fun Q h => ⟨_, rfl, h⟩) (fun Q h => ⟨_, rfl, _, rfl, (show 2 ≤ sizeLine by decide), h⟩) hk3 c3 fun q1 hq1 => ?_
            have hk4 := (upd_ne (o := .tup [.int (i : Int), .int (j : Int)]) (H := H3) (ne_of_none hk3 hq1)).trans hk3
            refine dget_do d h i kvs' _ (fun Q h => ⟨_, rfl, h⟩) (fun Q h => ⟨_, rfl, _, rfl, (show 2 ≤ sizeLine by decide), h⟩) hk4 hv fun q2 hq2 => ?_
            have hk5 := (upd_ne (o := .tup [.int (h : Int), .int (i : Int)]) (ne_of_none hk4 hq2)).trans hk4
            refine ⟨_, rfl, _, _, ⟨rfl, rfl⟩, by decide, fun q3 hq3 => ⟨_, DPut.t (kvs := kvs') (k := kk i j) (by rw [upd_ne (ne_of_none hk5 hq3)]; exact hk5) upd_same (small (by omega)), ?_⟩⟩
            refine ⟨_, _, max cur (v + 1), .mk, (((s3.new hq1).new hq2).new hq3).upd hd, upd_same, by have := length_putK kvs' (kk i j) (.int (if (v : Int) + 1 > (cur : Int) then (v : Int) + 1 else (cur : Int))); omega, d3.put (fun h => by have := h.2; omega), by rw [valV_put, if_pos rfl, max_nat1], ⟨?_, fun h' m hlt hl hgg => ?_⟩⟩
            · rcases Nat.le_total cur (v + 1) with hle | hle
              · rw [Nat.max_eq_right hle]
                exact .more hv1 hi' (by omega)
              · rw [Nat.max_eq_left hle]
                exact cu.len
            · by_cases e : h' = h
              · subst e
                have := hv2 m hl
                omega
              · have := cu.all h' m (by omega) hl hgg
                omega
        · rintro σ H3 ⟨v6, kvs', cur, ⟨⟩, s3, hk3, hl3, d3, c3, cu⟩
          have e : (i : Int).toNat = i := by omega
          rw [e] at hl3 cu
          simp only [tSeq, tAsg, gName, tVar, tC, tOp, tUn, rI, rI0, rU, rEq, rNe, tTest, tB, tAnd, tOr, tNot, tAndV, tOrV, tNotV, tIf, tIfS, tRet, tRetN, tDrop, tNext, tNil, tCons, tLst, tTup, tCall, tAug, ipI, tCB, tBM, tBM0, gTup, gCons, gNil, tNoPart, tPart, tSl, tChain, L2.start, List.map_cons, List.map_nil, List.replicate_succ, List.replicate_zero, Nat.reduceSub, CDiv, Int.reduceLT,
    List.getElem?_cons_zero, List.getElem?_cons_succ, Option.some.injEq, V.int.injEq, V.bl.injEq, V.ref.injEq, List.cons.injEq, and_true, true_and, exists_eq_left, exists_eq_left', exists_eq_right, exists_eq_right', exists_and_left, List.set_cons_zero, List.set_cons_succ, List.append_nil, List.nil_append, List.cons_append, decide_eq_true_eq, List.length_cons, List.length_nil, Nat.reduceAdd, scal, if_true, if_false, ite_self, Int.natCast_inj, Bool.false_eq_true]
          refine dget_do d i j kvs' _ (fun Q h => ⟨_, rfl, h⟩) (fun Q h => ⟨_, rfl, _, rfl, (show 2 ≤ sizeLine by decide), h⟩) hk3 c3 fun q1 hq1 => ?_
          refine ⟨_, _, ⟨rfl, rfl⟩, ?_⟩
          refine ⟨_, _, kvs', max mo cur, (by rw [← max_nat]; exact .mk), s3.new hq1, by rw [upd_ne (ne_of_none hk3 hq1)]; exact hk3, by omega, fun i' j' h => ?_, ⟨?_, by have := m2.ge; omega, fun i' j' m h hl => ?_⟩⟩
          · by_cases e : i' = i ∧ j' = j
            · obtain ⟨rfl, rfl⟩ := e
              exact ⟨cur, c3, cu.len, cu.done⟩
            · exact d3 i' j' ⟨h.1, by have := h.2; omega⟩
          · rcases Nat.le_total mo cur with hle | hle
            · rw [Nat.max_eq_right hle]
              exact .inr ⟨i, j, hj', cu.len⟩
            · rw [Nat.max_eq_left hle]
              exact m2.is
          · by_cases e : i' = i ∧ j' = j
            · obtain ⟨rfl, rfl⟩ := e
              have := cu.done m hl
              omega
            · have := m2.all i' j' m ⟨h.1, by have := h.2; omega⟩ hl
              omega
      · rintro σ H2 ⟨v5, v6, kvs, mo, ⟨⟩, s2, hk2, hl2, d2, m2⟩
        have e : (j : Int).toNat = j := by omega
        rw [e] at hl2 d2 m2
        refine ⟨_, _, _, kvs, mo, .mk, s2, hk2, by omega, fun i' j' h => d2 i' j' ⟨h.1, by have := h.2; have := h.1; omega⟩, ⟨m2.is, m2.ge, fun i' j' m h => m2.all i' j' m ⟨h.1, by have := h.2; have := h.1; omega⟩⟩⟩
    · rintro σ H1 ⟨v4, v5, v6, kvs, mo, ⟨⟩, s1, hk1, hl1, d1, m1⟩
      have e : (L.length : Int).toNat = L.length := by omega
      rw [e] at m1
      simp only [tSeq, tAsg, gName, tVar, tC, tOp, tUn, rI, rI0, rU, rEq, rNe, tTest, tB, tAnd, tOr, tNot, tAndV, tOrV, tNotV, tIf, tIfS, tRet, tRetN, tDrop, tNext, tNil, tCons, tLst, tTup, tCall, tAug, ipI, tCB, tBM, tBM0, gTup, gCons, gNil, tNoPart, tPart, tSl, tChain, L2.start, List.map_cons, List.map_nil, List.replicate_succ, List.replicate_zero, Nat.reduceSub, CDiv, Int.reduceLT,
    List.getElem?_cons_zero, List.getElem?_cons_succ, Option.some.injEq, V.int.injEq, V.bl.injEq, V.ref.injEq, List.cons.injEq, and_true, true_and, exists_eq_left, exists_eq_left', exists_eq_right, exists_eq_right', exists_and_left, List.set_cons_zero, List.set_cons_succ, List.append_nil, List.nil_append, List.cons_append, decide_eq_true_eq, List.length_cons, List.length_nil, Nat.reduceAdd, scal, if_true, if_false, ite_self, Int.natCast_inj, Bool.false_eq_true]
      have hmo : mo ≤ hp.length := by
        rcases m1.is with h | ⟨i, j, hj, hL⟩
        · omega
        · have := hL.le
          omega
      refine k H1 mo (s0.trans s1) ?_ hmo
      refine Mh.spare_is (g := g) (by rw [hL, ← hlen, ← hg]; exact Mh.pre_getD L) ?_ ?_ ?_
      · rw [← hlen]
        exact m1.is
      · rw [← hlen]
        exact m1.ge
      · intro i j m hj hm
        exact m1.all i j m ⟨hm.lt, by omega⟩ hm
theorem atI_2 {α : Type} (xs : List α) (u v : α) : atI (xs ++ [u, v]) (-2) = some u := by
  have hl : (xs ++ [u, v]).length = xs.length + 2 := by simp
  have e : ixN (xs ++ [u, v]).length (-2) = some xs.length := by
    unfold ixN
    rw [hl, if_neg (by omega), if_pos (by omega)]
    congr 1
    omega
  unfold atI
  rw [e]
  simp
theorem atI_1 {α : Type} (xs : List α) (u v : α) : atI (xs ++ [u, v]) (-1) = some v := by
  have := atI_last (xs ++ [u]) v
  rw [List.append_assoc] at this
  exact this
theorem ixA_do {p : Addr} {xs : List V} {i : Int} {v : V} {H : Hp} {Q : VK} (h : SqL K H p xs) (hv : atI xs i = some v) (k : Q v H) : rIxL K (.ref p) (.int i) H Q := ⟨p, xs, i, v, rfl, rfl, h, hv, k⟩
theorem ixL_mono {x y : V} {H : Hp} {Q Q' : VK} (hQ : ∀ v H1, Q v H1 → Q' v H1) (h : rIxL K x y H Q) : rIxL K x y H Q' :=
  let ⟨p, xs, i, v, e1, e2, h1, h2, q⟩ := h
  ⟨p, xs, i, v, e1, e2, h1, h2, hQ _ _ q⟩
def spLw : Sp := fun vs H Q _ => ∃ n : Nat, vs = [.int n] ∧ 1 ≤ n ∧ n ≤ 1000000 ∧ Gives H Q (nv (Ux05.without n))
def PvW (l : Addr) (H0 : Hp) (n : Nat) : L2.St → Hp → Prop := fun σ H' => ∃ (k f : Nat) (pr : List Nat), Is [some (.int (n : Int)), some (.ref l)] σ ∧ Same H0 H' ∧ H' l = some (.lst (nv pr ++ [.int ((Mh.fb k).1 : Nat), .int ((Mh.fb k).2 : Nat)])) ∧ k + f = 40 ∧ pr.length = k ∧
  Ux05.without n = pr ++ [(Mh.fb k).1, (Mh.fb k).2] ++ Ux05.onward n f (Mh.fb k).1 (Mh.fb k).2
def muW (l : Addr) : L2.St → Hp → Nat := fun _ H' => match H' l with
  | some (.lst xs) => 100 - xs.length
  | _ => 0
theorem sc_lengths_without : FnScope ["n", "lengths"] ["n"] (defScope s_lengths_without) := ⟨rfl, rfl, rfl, by decide +kernel, rfl, by decide +kernel, by decide +kernel⟩
theorem ok_lengths_without {f : Addr} {fd : FuncData} (F : Fun K "lengths_without" "lengths_without" s_lengths_without f fd) (T : Txt mg) : FnOk P w K mg base CX0 1 f fd ["n"] spLw := by
  refine F.ok sc_lengths_without (fun vs H Q E h => ?_) (fun cdv A outer s H vs Q E hr h => ?_)
  · obtain ⟨n, rfl, _⟩ := h
    rfl
  · obtain ⟨n, rfl, hn1, hn2, k⟩ := h
    refine ⟨_, (pss_cons (ps_set (i := 1) sc_lengths_without.nd rfl (Or.inl rfl) (pe_lst (pa_cons pe_int (pa_cons pe_int pa_nil))))
      (pss_cons (ps_while PassesOwn.never (pt_cmpR op_le (pe_op op_add (pe_ix ix_list (pv 1) (pe_un un_neg pe_int) (fun _ _ => rfl)) (pe_ix ix_list (pv 1) (pe_un un_neg pe_int) (fun _ _ => rfl))) (pv 0) (nomark _)) (pss_one (ps_expr (pe_bm PySem.F.plainAttrs_list PySem.F.slot_list_append PySem.F.type_list_append mt_append (pv 1) (pa_cons (pe_op op_add (pe_ix ix_list (pv 1) (pe_un un_neg pe_int) (fun _ _ => rfl)) (pe_ix ix_list (pv 1) (pe_un un_neg pe_int) (fun _ _ => rfl))) pa_nil)))))
      (pss_one (ps_ret (pv 1))))), ?_⟩
    simp only [tSeq, tAsg, gName, tVar, tC, tOp, tUn, rI, rI0, rU, rEq, rNe, tTest, tB, tAnd, tOr, tNot, tAndV, tOrV, tNotV, tIf, tIfS, tRet, tRetN, tDrop, tNext, tNil, tCons, tLst, tTup, tCall, tAug, ipI, tCB, tBM, tBM0, gTup, gCons, gNil, tNoPart, tPart, tSl, tChain, L2.start, List.map_cons, List.map_nil, List.replicate_succ, List.replicate_zero, Nat.reduceSub, CDiv, Int.reduceLT,
    List.getElem?_cons_zero, List.getElem?_cons_succ, Option.some.injEq, V.int.injEq, V.bl.injEq, V.ref.injEq, List.cons.injEq, and_true, true_and, exists_eq_left, exists_eq_left', exists_eq_right, exists_eq_right', exists_and_left, List.set_cons_zero, List.set_cons_succ, List.append_nil, List.nil_append, List.cons_append, decide_eq_true_eq, List.length_cons, List.length_nil, Nat.reduceAdd, scal, if_true, if_false, ite_self, Int.natCast_inj, Bool.false_eq_true]
    refine ⟨by decide, fun l hl => ?_⟩
    refine while_by (PvW l H n) (muW l) ⟨0, 40, [], .mk, (Same.refl H).new hl, upd_same, rfl, rfl, rfl⟩ ?_ ?_
    · rintro σ H1 ⟨kk, f, pr, ⟨⟩, s1, h1, hkf, hpr, hwo⟩
      simp only [tSeq, tAsg, gName, tVar, tC, tOp, tUn, rI, rI0, rU, rEq, rNe, tTest, tB, tAnd, tOr, tNot, tAndV, tOrV, tNotV, tIf, tIfS, tRet, tRetN, tDrop, tNext, tNil, tCons, tLst, tTup, tCall, tAug, ipI, tCB, tBM, tBM0, gTup, gCons, gNil, tNoPart, tPart, tSl, tChain, L2.start, List.map_cons, List.map_nil, List.replicate_succ, List.replicate_zero, Nat.reduceSub, CDiv, Int.reduceLT,
    List.getElem?_cons_zero, List.getElem?_cons_succ, Option.some.injEq, V.int.injEq, V.bl.injEq, V.ref.injEq, List.cons.injEq, and_true, true_and, exists_eq_left, exists_eq_left', exists_eq_right, exists_eq_right', exists_and_left, List.set_cons_zero, List.set_cons_succ, List.append_nil, List.nil_append, List.cons_append, decide_eq_true_eq, List.length_cons, List.length_nil, Nat.reduceAdd, scal, if_true, if_false, ite_self, Int.natCast_inj, Bool.false_eq_true]
      refine ixA_do (SqL.of h1) (atI_2 _ _ _) ?_
      refine ixA_do (SqL.of h1) (atI_1 _ _ _) ?_
      refine ⟨_, rfl, _, rfl, ?_⟩
      have hlen : (nv pr ++ [V.int ((Mh.fb kk).1 : Nat), V.int ((Mh.fb kk).2 : Nat)]).length = kk + 2 := by rw [List.length_append, nv_len, hpr]; rfl
      by_cases hle : (Mh.fb kk).1 + (Mh.fb kk).2 ≤ n
      · rw [if_pos (by omega)]
        refine ⟨.inl ⟨rfl, _, SqL.of h1⟩, ?_⟩
        refine ixA_do (SqL.of h1) (atI_2 _ _ _) ?_
        refine ixA_do (SqL.of h1) (atI_1 _ _ _) ?_
        refine ⟨_, rfl, _, rfl, app_do h1 (by rw [hlen]; exact Nat.lt_of_le_of_lt (show kk + 2 ≤ 42 by omega) (by decide)) ?_⟩
        cases f with
        | zero =>
          exfalso
          have e : kk = 40 := by omega
          rw [e] at hle
          have := Mh.fb_40
          omega
        | succ f' =>
          refine ⟨⟨kk + 1, f', pr ++ [(Mh.fb kk).1], .mk, s1.upd hl, ?_, by omega, by simp; omega, ?_⟩, ?_⟩
          · rw [upd_same]
            simp [nv, Mh.fb]
          · rw [hwo, Mh.onward_step hle]
            simp [Mh.fb]
          · unfold muW
            rw [upd_same, h1]
            simp only [List.length_append, nv_len, hpr, List.length_cons, List.length_nil]
            omega
      · rw [if_neg (by omega)]
        refine k _ l s1 hl ?_
        rw [h1, hwo, Mh.onward_end (by omega), List.append_nil]
        simp [nv]
    · intro σ H Q Q' hQ h
      simp only [tSeq, tAsg, gName, tVar, tC, tOp, tUn, rI, rI0, rU, rEq, rNe, tTest, tB, tAnd, tOr, tNot, tAndV, tOrV, tNotV, tIf, tIfS, tRet, tRetN, tDrop, tNext, tNil, tCons, tLst, tTup, tCall, tAug, ipI, tCB, tBM, tBM0, gTup, gCons, gNil, tNoPart, tPart, tSl, tChain, L2.start, List.map_cons, List.map_nil, List.replicate_succ, List.replicate_zero, Nat.reduceSub, CDiv, Int.reduceLT,
    List.getElem?_cons_zero, List.getElem?_cons_succ, Option.some.injEq, V.int.injEq, V.bl.injEq, V.ref.injEq, List.cons.injEq, and_true, true_and, exists_eq_left, exists_eq_left', exists_eq_right, exists_eq_right', exists_and_left, List.set_cons_zero, List.set_cons_succ, List.append_nil, List.nil_append, List.cons_append, decide_eq_true_eq, List.length_cons, List.length_nil, Nat.reduceAdd, scal, if_true, if_false, ite_self, Int.natCast_inj, Bool.false_eq_true] at h ⊢
      obtain ⟨v, hv, h⟩ := h
      refine ⟨v, hv, ixL_mono (fun x H1 h => ?_) h⟩
      obtain ⟨v, hv, h⟩ := h
      refine ⟨v, hv, ixL_mono (fun y H2 h => ?_) h⟩
      obtain ⟨i, e, x2, e2, v3, hv3, x4, e4, q⟩ := h
      exact ⟨i, e, x2, e2, v3, hv3, x4, e4, hQ _ _ q⟩
end
end Tri
set_option Elab.async false
set_option linter.all false
set_option maxRecDepth 100000
namespace Tri
open PySem PySem.Spec PyProof.Rows L2
open Ux05 (Triangle isTriangle triangles byLongest Desk before perimeter)
def spLen : Sp := fun vs H Q _ => ∃ n : Nat, vs = [.int n] ∧ Q (.bl (Ux05.isStick n)) H
def spWithout : Sp := fun vs H Q _ => ∃ n : Nat, vs = [.int n] ∧ Gives H Q (iv (Ux05.step Ux05.init (.without n)).2)
def spHeap (C : Addr) : Sp := fun vs H Q _ => ∃ (a ls b : Addr) (d : Desk) (l : List Nat), vs = [.ref a, .ref b] ∧ LineAt C H a ls d ∧ H b = some (.lst (nv l)) ∧ l.length ≤ 40 ∧ After C H Q a ls d (.heap l)
def spPut (C : Addr) : Sp := fun vs H Q _ => ∃ (a ls : Addr) (d : Desk) (n : Nat), vs = [.ref a, .int n] ∧ LineAt C H a ls d ∧ Good d ∧ After C H Q a ls d (.put n)
section
variable {P : Program} {w : World} {K : PySem.W.Frag} {mg : Str → Option Value} {base : Heap} {C : Addr}
theorem sc_is_length : FnScope ["length"] ["length"] (defScope s_is_length) := ⟨rfl, rfl, rfl, by decide +kernel, rfl, by decide +kernel, by decide +kernel⟩
theorem ok_is_length {f : Addr} {fd : FuncData} (F : Fun K "is_length" "is_length" s_is_length f fd) (T : Txt mg) : FnOk P w K mg base CX0 1 f fd ["length"] spLen := by
  refine F.ok sc_is_length (fun vs H Q E h => ?_) (fun cdv A outer s H vs Q E hr h => ?_)
  · obtain ⟨n, rfl, _⟩ := h
    rfl
  · obtain ⟨n, rfl, k⟩ := h
    refine ⟨_, (pss_one (ps_ret (pe_and (pe_cmpR op_le pe_int (pv 0) (nomark _)) (pe_one (pe_cmpR op_le (pv 0) (pe_cint (by rfl) T.c_GREATEST_LENGTH) (nomark _)))))), ?_⟩
    have ek : Ux05.isStick n = decide (1 ≤ n ∧ n ≤ 1000) := by
      rw [Bool.eq_iff_iff]
      unfold Ux05.isStick
      simp
    rw [ek] at k
    simp only [tSeq, tAsg, gName, tVar, tC, tOp, tUn, rI, rI0, rU, rEq, rNe, tTest, tB, tAnd, tOr, tNot, tAndV, tOrV, tNotV, tIf, tIfS, tRet, tRetN, tDrop, tNext, tNil, tCons, tLst, tTup, tCall, tAug, ipI, tCB, tBM, tBM0, gTup, gCons, gNil, tNoPart, tPart, tSl, tChain, L2.start, List.map_cons, List.map_nil, List.replicate_succ, List.replicate_zero, Nat.reduceSub, CDiv, Int.reduceLT,
    List.getElem?_cons_zero, List.getElem?_cons_succ, Option.some.injEq, V.int.injEq, V.bl.injEq, V.ref.injEq, List.cons.injEq, and_true, true_and, exists_eq_left, exists_eq_left', exists_eq_right, exists_eq_right', exists_and_left, List.set_cons_zero, List.set_cons_succ, List.append_nil, List.nil_append, List.cons_append, decide_eq_true_eq, List.length_cons, List.length_nil, Nat.reduceAdd, scal, if_true, if_false, ite_self, Int.natCast_inj, Bool.false_eq_true]
    have e1 : ((1 : Int) ≤ n) = (1 ≤ n) := by apply propext; omega
    have e2 : ((n : Int) ≤ 1000) = (n ≤ 1000) := by apply propext; omega
    simp only [e1, e2]
    by_cases h1 : 1 ≤ n
    · simpa only [h1, if_true, true_and] using k
    · simpa only [h1, if_false, false_and, decide_false] using k
theorem sc_without : FnScope ["n", "lengths"] ["n"] (defScope s_without) := ⟨rfl, rfl, rfl, by decide +kernel, rfl, by decide +kernel, by decide +kernel⟩
theorem ok_without {f : Addr} {fd : FuncData} (F : Fun K "without" "without" s_without f fd) (T : Txt mg) (c_lengths_without : Callee P w K mg base "lengths_without" 1 ["n"] spLw) : FnOk P w K mg base CX0 2 f fd ["n"] spWithout := by
  refine F.ok sc_without (fun vs H Q E h => ?_) (fun cdv A outer s H vs Q E hr h => ?_)
  · obtain ⟨n, rfl, _⟩ := h
    rfl
  · obtain ⟨n, rfl, k⟩ := h
    refine ⟨_, (pss_cons (ps_if (pw_or (pt_cmpR op_lt (pv 0) pe_int (nomark _)) (pw_or1 (pt_cmpR op_gt (pv 0) (pe_cint (by rfl) T.c_GREATEST_WITHOUT) (nomark _)))).pt (pss_one (ps_ret (pe_lst (pa_cons (pe_cint (by rfl) T.c_OUT_OF_BOUNDS) pa_nil)))) pss_nil)
      (pss_cons (ps_set (i := 1) sc_without.nd rfl (Or.inl rfl) (pe_own c_lengths_without (hr.mono (by decide)) (by rfl) (pa_cons (pv 0) pa_nil)))
      (pss_one (ps_ret (pe_op op_cat (pe_lst (pa_cons (pe_callB call_len_seq (by rfl) T.nlen PySem.boot_len (pa_cons (pv 1) pa_nil)) pa_nil)) (pv 1)))))), ?_⟩
    have ek : (Ux05.step Ux05.init (.without n)).2 = if n < 1 ∨ 1000000 < n then [-1] else Ux05.counted (Ux05.without n) := rfl
    rw [ek] at k
    simp only [tSeq, tAsg, gName, tVar, tC, tOp, tUn, rI, rI0, rU, rEq, rNe, tTest, tB, tAnd, tOr, tNot, tAndV, tOrV, tNotV, tIf, tIfS, tRet, tRetN, tDrop, tNext, tNil, tCons, tLst, tTup, tCall, tAug, ipI, tCB, tBM, tBM0, gTup, gCons, gNil, tNoPart, tPart, tSl, tChain, L2.start, List.map_cons, List.map_nil, List.replicate_succ, List.replicate_zero, Nat.reduceSub, CDiv, Int.reduceLT,
    List.getElem?_cons_zero, List.getElem?_cons_succ, Option.some.injEq, V.int.injEq, V.bl.injEq, V.ref.injEq, List.cons.injEq, and_true, true_and, exists_eq_left, exists_eq_left', exists_eq_right, exists_eq_right', exists_and_left, List.set_cons_zero, List.set_cons_succ, List.append_nil, List.nil_append, List.cons_append, decide_eq_true_eq, List.length_cons, List.length_nil, Nat.reduceAdd, scal, if_true, if_false, ite_self, Int.natCast_inj, Bool.false_eq_true]
    by_cases h1 : n < 1 ∨ 1000000 < n
    · rw [if_pos h1] at k
      have last : 1 ≤ sizeLine ∧ ∀ p, H p = none → Q (.ref p) (upd H p (.lst [.int (-1)])) := ⟨by decide, fun p hp => k _ p ((Same.refl H).new hp) hp upd_same⟩
      rcases h1 with h1 | h1
      · rw [if_pos (by omega)]; exact last
      · rw [if_neg (by omega), if_pos (by omega)]; exact last
    · rw [if_neg h1] at k
      rw [if_neg (by omega), if_neg (by omega)]
      refine ⟨n, rfl, by omega, by omega, fun H1 q s1 nq hq => ?_⟩
      simp only [tSeq, tAsg, gName, tVar, tC, tOp, tUn, rI, rI0, rU, rEq, rNe, tTest, tB, tAnd, tOr, tNot, tAndV, tOrV, tNotV, tIf, tIfS, tRet, tRetN, tDrop, tNext, tNil, tCons, tLst, tTup, tCall, tAug, ipI, tCB, tBM, tBM0, gTup, gCons, gNil, tNoPart, tPart, tSl, tChain, L2.start, List.map_cons, List.map_nil, List.replicate_succ, List.replicate_zero, Nat.reduceSub, CDiv, Int.reduceLT,
    List.getElem?_cons_zero, List.getElem?_cons_succ, Option.some.injEq, V.int.injEq, V.bl.injEq, V.ref.injEq, List.cons.injEq, and_true, true_and, exists_eq_left, exists_eq_left', exists_eq_right, exists_eq_right', exists_and_left, List.set_cons_zero, List.set_cons_succ, List.append_nil, List.nil_append, List.cons_append, decide_eq_true_eq, List.length_cons, List.length_nil, Nat.reduceAdd, scal, if_true, if_false, ite_self, Int.natCast_inj, Bool.false_eq_true]
      refine ⟨_, .inl (SqL.of hq), by decide, fun r hr' => ?_⟩
      have s2 := s1.new (o := .lst [.int ((nv (Ux05.without n)).length : Nat)]) hr'
      have hlw : (Ux05.without n).length ≤ 42 := by
        have := Mf.onward_len n 40 1 1
        unfold Ux05.without
        simp only [List.length_cons]
        omega
      refine cat_do upd_same (((Same.refl H1).new hr') _ _ hq) (by rw [nv_len]; exact Nat.le_trans (show 1 + (Ux05.without n).length ≤ 43 by omega) (by decide)) fun t ht => ?_
      refine k _ t (s2.new ht) (s2.free ht) ?_
      rw [upd_same, nv_len]
      show some (HO.lst (V.int (Ux05.without n).length :: nv (Ux05.without n))) = some (HO.lst (V.int (Ux05.without n).length :: iv (Ux05.ints (Ux05.without n))))
      rw [iv_ints]
theorem sc_Line_threes : FnScope ["self", "triangles"] ["self"] (defScope s_Line_threes) := ⟨rfl, rfl, rfl, by decide +kernel, rfl, by decide +kernel, by decide +kernel⟩
theorem ok_threes {f : Addr} {fd : FuncData} (F : Fun K "threes" "Line.threes" s_Line_threes f fd) (T : Txt mg) (TC : TxC K C) (c_of_sticks : Callee P w K mg base "of_sticks" 2 ["sticks"] spOfSt)
    (c_count_by_sides : Callee P w K mg base "count_by_sides" 1 ["triangles"] spSides) : FnOk P w K mg base CX0 3 f fd ["self"] (spM0 C .threes) := by
  refine F.ok sc_Line_threes (fun vs H Q E h => ?_) (fun cdv A outer s H vs Q E hr h => ?_)
  · obtain ⟨a, ls, d, rfl, _⟩ := h
    rfl
  · obtain ⟨a, ls, d, rfl, hL, gd, k⟩ := h
    have g := k.gives hL rfl
    obtain ⟨⟨dx, hA⟩, hS⟩ := hL
    refine ⟨_, (pss_cons (ps_set (i := 1) sc_Line_threes.nd rfl (Or.inl rfl) (pe_own c_of_sticks (hr.mono (by decide)) (by rfl) (pa_cons (pe_fld (pv 0) rfl) pa_nil)))
      (pss_one (ps_ret (pe_op op_cat (pe_lst (pa_cons (pe_callB call_len_seq (by rfl) T.nlen PySem.boot_len (pa_cons (pv 1) pa_nil)) pa_nil)) (pe_own c_count_by_sides (hr.mono (by decide)) (by rfl) (pa_cons (pv 1) pa_nil)))))), ?_⟩
    have ek : (Ux05.step d .threes).2 = Ux05.ints ((Ux05.made d.heap).length :: Ux05.kinds Ux05.likes (Ux05.made d.heap)) := rfl
    rw [ek, iv_ints] at g
    simp only [tSeq, tAsg, gName, tVar, tC, tOp, tUn, rI, rI0, rU, rEq, rNe, tTest, tB, tAnd, tOr, tNot, tAndV, tOrV, tNotV, tIf, tIfS, tRet, tRetN, tDrop, tNext, tNil, tCons, tLst, tTup, tCall, tAug, ipI, tCB, tBM, tBM0, gTup, gCons, gNil, tNoPart, tPart, tSl, tChain, L2.start, List.map_cons, List.map_nil, List.replicate_succ, List.replicate_zero, Nat.reduceSub, CDiv, Int.reduceLT,
    List.getElem?_cons_zero, List.getElem?_cons_succ, Option.some.injEq, V.int.injEq, V.bl.injEq, V.ref.injEq, List.cons.injEq, and_true, true_and, exists_eq_left, exists_eq_left', exists_eq_right, exists_eq_right', exists_and_left, List.set_cons_zero, List.set_cons_succ, List.append_nil, List.nil_append, List.cons_append, decide_eq_true_eq, List.length_cons, List.length_nil, Nat.reduceAdd, scal, if_true, if_false, ite_self, Int.natCast_inj, Bool.false_eq_true]
    refine fld_do rfl hA TC.cl TC.nS (lf_s _ _) ?_
    refine ⟨ls, d.heap, rfl, hS, gd.n, fun H1 l ts s1 nl hl hperm _ => ?_⟩
    simp only [tSeq, tAsg, gName, tVar, tC, tOp, tUn, rI, rI0, rU, rEq, rNe, tTest, tB, tAnd, tOr, tNot, tAndV, tOrV, tNotV, tIf, tIfS, tRet, tRetN, tDrop, tNext, tNil, tCons, tLst, tTup, tCall, tAug, ipI, tCB, tBM, tBM0, gTup, gCons, gNil, tNoPart, tPart, tSl, tChain, L2.start, List.map_cons, List.map_nil, List.replicate_succ, List.replicate_zero, Nat.reduceSub, CDiv, Int.reduceLT,
    List.getElem?_cons_zero, List.getElem?_cons_succ, Option.some.injEq, V.int.injEq, V.bl.injEq, V.ref.injEq, List.cons.injEq, and_true, true_and, exists_eq_left, exists_eq_left', exists_eq_right, exists_eq_right', exists_and_left, List.set_cons_zero, List.set_cons_succ, List.append_nil, List.nil_append, List.cons_append, decide_eq_true_eq, List.length_cons, List.length_nil, Nat.reduceAdd, scal, if_true, if_false, ite_self, Int.natCast_inj, Bool.false_eq_true]
    obtain ⟨as, l1, l2, l3⟩ := hl
    refine ⟨_, .inl (SqL.of l1), by decide, fun p hp => ?_⟩
    have s2 : Same H1 (upd H1 p (.lst [.int ((as.map V.ref).length : Nat)])) := (Same.refl H1).new hp
    refine ⟨l, ts, rfl, TriL.same s2 ⟨as, l1, l2, l3⟩, fun H3 q s3 nq hq => ?_⟩
    refine cat_do (s3 _ _ upd_same) hq (by show 1 + 3 ≤ sizeLine; decide) fun r hr' => ?_
    have s13 := (s1.trans s2).trans s3
    refine g _ r (s13.new hr') (s13.free hr') ?_
    rw [upd_same, List.length_map, l2, hperm.length_eq, Mh.kinds_perm hperm]
    rfl
theorem sc_Line_most : FnScope ["self"] ["self"] (defScope s_Line_most) := ⟨rfl, rfl, rfl, by decide +kernel, rfl, by decide +kernel, by decide +kernel⟩
theorem ok_most {f : Addr} {fd : FuncData} (F : Fun K "most" "Line.most" s_Line_most f fd) (T : Txt mg) (TC : TxC K C) (c_of_sticks : Callee P w K mg base "of_sticks" 2 ["sticks"] spOfSt)
    (c_greatest_perimeter : Callee P w K mg base "greatest_perimeter" 1 ["triangles"] spGP) (c_sides_or_refusal : Callee P w K mg base "sides_or_refusal" 1 ["sides"] spSor) : FnOk P w K mg base CX0 3 f fd ["self"] (spM0 C .most) := by
  refine F.ok sc_Line_most (fun vs H Q E h => ?_) (fun cdv A outer s H vs Q E hr h => ?_)
  · obtain ⟨a, ls, d, rfl, _⟩ := h
    rfl
  · obtain ⟨a, ls, d, rfl, hL, gd, k⟩ := h
    have g := k.gives hL rfl
    obtain ⟨⟨dx, hA⟩, hS⟩ := hL
    refine ⟨_, (pss_one (ps_ret (pe_own c_sides_or_refusal (hr.mono (by decide)) (by rfl) (pa_cons (pe_own c_greatest_perimeter (hr.mono (by decide)) (by rfl) (pa_cons (pe_own c_of_sticks (hr.mono (by decide)) (by rfl) (pa_cons (pe_fld (pv 0) rfl) pa_nil)) pa_nil)) pa_nil)))), ?_⟩
    have ek : (Ux05.step d .most).2 = Ux05.sides (Ux05.greatest (Ux05.made d.heap)) := rfl
    rw [ek] at g
    simp only [tSeq, tAsg, gName, tVar, tC, tOp, tUn, rI, rI0, rU, rEq, rNe, tTest, tB, tAnd, tOr, tNot, tAndV, tOrV, tNotV, tIf, tIfS, tRet, tRetN, tDrop, tNext, tNil, tCons, tLst, tTup, tCall, tAug, ipI, tCB, tBM, tBM0, gTup, gCons, gNil, tNoPart, tPart, tSl, tChain, L2.start, List.map_cons, List.map_nil, List.replicate_succ, List.replicate_zero, Nat.reduceSub, CDiv, Int.reduceLT,
    List.getElem?_cons_zero, List.getElem?_cons_succ, Option.some.injEq, V.int.injEq, V.bl.injEq, V.ref.injEq, List.cons.injEq, and_true, true_and, exists_eq_left, exists_eq_left', exists_eq_right, exists_eq_right', exists_and_left, List.set_cons_zero, List.set_cons_succ, List.append_nil, List.nil_append, List.cons_append, decide_eq_true_eq, List.length_cons, List.length_nil, Nat.reduceAdd, scal, if_true, if_false, ite_self, Int.natCast_inj, Bool.false_eq_true]
    refine fld_do rfl hA TC.cl TC.nS (lf_s _ _) ?_
    refine ⟨ls, d.heap, rfl, hS, gd.n, fun H1 l ts s1 nl hl hperm hpw => ?_⟩
    refine ⟨l, ts, Ux05.made d.heap, rfl, hl, hperm, hpw, fun H2 q2 s2 n2 h2 => ?_⟩
    exact sor_do g (s1.trans s2) (s1.free n2) h2
theorem sc_Line_spare : FnScope ["self"] ["self"] (defScope s_Line_spare) := ⟨rfl, rfl, rfl, by decide +kernel, rfl, by decide +kernel, by decide +kernel⟩
theorem ok_spare {f : Addr} {fd : FuncData} (F : Fun K "spare" "Line.spare" s_Line_spare f fd) (T : Txt mg) (TC : TxC K C) (c_most_left : Callee P w K mg base "most_left" 2 ["sticks"] spLeft) : FnOk P w K mg base CX0 3 f fd ["self"] (spM0 C .spare) := by
  refine F.ok sc_Line_spare (fun vs H Q E h => ?_) (fun cdv A outer s H vs Q E hr h => ?_)
  · obtain ⟨a, ls, d, rfl, _⟩ := h
    rfl
  · obtain ⟨a, ls, d, rfl, hL, gd, k⟩ := h
    have g := k.gives hL rfl
    obtain ⟨⟨dx, hA⟩, hS⟩ := hL
    refine ⟨_, (pss_one (ps_ret (pe_lst (pa_cons (pe_op op_sub (pe_callB call_len_seq (by rfl) T.nlen PySem.boot_len (pa_cons (pe_fld (pv 0) rfl) pa_nil)) (pe_own c_most_left (hr.mono (by decide)) (by rfl) (pa_cons (pe_fld (pv 0) rfl) pa_nil))) pa_nil)))), ?_⟩
    have ek : (Ux05.step d .spare).2 = Ux05.ints [Ux05.spare d.heap] := rfl
    rw [ek] at g
    simp only [tSeq, tAsg, gName, tVar, tC, tOp, tUn, rI, rI0, rU, rEq, rNe, tTest, tB, tAnd, tOr, tNot, tAndV, tOrV, tNotV, tIf, tIfS, tRet, tRetN, tDrop, tNext, tNil, tCons, tLst, tTup, tCall, tAug, ipI, tCB, tBM, tBM0, gTup, gCons, gNil, tNoPart, tPart, tSl, tChain, L2.start, List.map_cons, List.map_nil, List.replicate_succ, List.replicate_zero, Nat.reduceSub, CDiv, Int.reduceLT,
    List.getElem?_cons_zero, List.getElem?_cons_succ, Option.some.injEq, V.int.injEq, V.bl.injEq, V.ref.injEq, List.cons.injEq, and_true, true_and, exists_eq_left, exists_eq_left', exists_eq_right, exists_eq_right', exists_and_left, List.set_cons_zero, List.set_cons_succ, List.append_nil, List.nil_append, List.cons_append, decide_eq_true_eq, List.length_cons, List.length_nil, Nat.reduceAdd, scal, if_true, if_false, ite_self, Int.natCast_inj, Bool.false_eq_true]
    refine fld_do rfl hA TC.cl TC.nS (lf_s _ _) ?_
    simp only [tSeq, tAsg, gName, tVar, tC, tOp, tUn, rI, rI0, rU, rEq, rNe, tTest, tB, tAnd, tOr, tNot, tAndV, tOrV, tNotV, tIf, tIfS, tRet, tRetN, tDrop, tNext, tNil, tCons, tLst, tTup, tCall, tAug, ipI, tCB, tBM, tBM0, gTup, gCons, gNil, tNoPart, tPart, tSl, tChain, L2.start, List.map_cons, List.map_nil, List.replicate_succ, List.replicate_zero, Nat.reduceSub, CDiv, Int.reduceLT,
    List.getElem?_cons_zero, List.getElem?_cons_succ, Option.some.injEq, V.int.injEq, V.bl.injEq, V.ref.injEq, List.cons.injEq, and_true, true_and, exists_eq_left, exists_eq_left', exists_eq_right, exists_eq_right', exists_and_left, List.set_cons_zero, List.set_cons_succ, List.append_nil, List.nil_append, List.cons_append, decide_eq_true_eq, List.length_cons, List.length_nil, Nat.reduceAdd, scal, if_true, if_false, ite_self, Int.natCast_inj, Bool.false_eq_true]
    refine ⟨_, .inl (SqL.of hS), ?_⟩
    refine fld_do rfl hA TC.cl TC.nS (lf_s _ _) ?_
    refine ⟨ls, d.heap, rfl, hS, gd.n, fun x hx => (gd.all x hx).1, fun H1 m s1 hsp hm => ?_⟩
    simp only [tSeq, tAsg, gName, tVar, tC, tOp, tUn, rI, rI0, rU, rEq, rNe, tTest, tB, tAnd, tOr, tNot, tAndV, tOrV, tNotV, tIf, tIfS, tRet, tRetN, tDrop, tNext, tNil, tCons, tLst, tTup, tCall, tAug, ipI, tCB, tBM, tBM0, gTup, gCons, gNil, tNoPart, tPart, tSl, tChain, L2.start, List.map_cons, List.map_nil, List.replicate_succ, List.replicate_zero, Nat.reduceSub, CDiv, Int.reduceLT,
    List.getElem?_cons_zero, List.getElem?_cons_succ, Option.some.injEq, V.int.injEq, V.bl.injEq, V.ref.injEq, List.cons.injEq, and_true, true_and, exists_eq_left, exists_eq_left', exists_eq_right, exists_eq_right', exists_and_left, List.set_cons_zero, List.set_cons_succ, List.append_nil, List.nil_append, List.cons_append, decide_eq_true_eq, List.length_cons, List.length_nil, Nat.reduceAdd, scal, if_true, if_false, ite_self, Int.natCast_inj, Bool.false_eq_true]
    refine ⟨by decide, fun r hr' => g _ r (s1.new hr') (s1.free hr') ?_⟩
    rw [upd_same, hsp, nv_len]
    have e : ((d.heap.length : Nat) : Int) - (m : Int) = ((d.heap.length - m : Nat) : Int) := by omega
    rw [e]
    rfl
theorem sc_Line_put : FnScope ["self", "length"] ["self", "length"] (defScope s_Line_put) := ⟨rfl, rfl, rfl, by decide +kernel, rfl, by decide +kernel, by decide +kernel⟩
theorem ok_put {f : Addr} {fd : FuncData} (F : Fun K "put" "Line.put" s_Line_put f fd) (T : Txt mg) (TC : TxC K C) (c_is_length : Callee P w K mg base "is_length" 1 ["length"] spLen) : FnOk P w K mg base CX0 2 f fd ["self", "length"] (spPut C) := by
  refine F.ok sc_Line_put (fun vs H Q E h => ?_) (fun cdv A outer s H vs Q E hr h => ?_)
  · obtain ⟨a, ls, d, n, rfl, _⟩ := h
    rfl
  · obtain ⟨a, ls, d, n, rfl, hL, gd, k⟩ := h
    refine ⟨_, (pss_cons (ps_if (pt_not (pt_val (pe_own c_is_length (hr.mono (by decide)) (by rfl) (pa_cons (pv 1) pa_nil)))) (pss_one (ps_ret (pe_lst (pa_cons (pe_cint (by rfl) T.c_OUT_OF_BOUNDS) pa_nil)))) pss_nil)
      (pss_cons (ps_if (pt_cmpR op_eq (pe_callB call_len_seq (by rfl) T.nlen PySem.boot_len (pa_cons (pe_fld (pv 0) rfl) pa_nil)) (pe_cint (by rfl) T.c_MOST_STICKS) (nomark _)) (pss_one (ps_ret (pe_lst (pa_cons (pe_cint (by rfl) T.c_HEAP_IS_FULL) pa_nil)))) pss_nil)
      (pss_cons (ps_expr (pe_bm PySem.F.plainAttrs_list PySem.F.slot_list_append PySem.F.type_list_append mt_append (pe_fld (pv 0) rfl) (pa_cons (pv 1) pa_nil)))
      (pss_one (ps_ret (pe_lst (pa_cons (pe_callB call_len_seq (by rfl) T.nlen PySem.boot_len (pa_cons (pe_fld (pv 0) rfl) pa_nil)) pa_nil))))))), ?_⟩
    have ek : Ux05.step d (.put n) = if Ux05.isStick n = false then (d, [-1]) else if 16 ≤ d.heap.length then (d, [-5]) else ({ d with heap := d.heap ++ [n] }, Ux05.ints [d.heap.length + 1]) := rfl
    simp only [tSeq, tAsg, gName, tVar, tC, tOp, tUn, rI, rI0, rU, rEq, rNe, tTest, tB, tAnd, tOr, tNot, tAndV, tOrV, tNotV, tIf, tIfS, tRet, tRetN, tDrop, tNext, tNil, tCons, tLst, tTup, tCall, tAug, ipI, tCB, tBM, tBM0, gTup, gCons, gNil, tNoPart, tPart, tSl, tChain, L2.start, List.map_cons, List.map_nil, List.replicate_succ, List.replicate_zero, Nat.reduceSub, CDiv, Int.reduceLT,
    List.getElem?_cons_zero, List.getElem?_cons_succ, Option.some.injEq, V.int.injEq, V.bl.injEq, V.ref.injEq, List.cons.injEq, and_true, true_and, exists_eq_left, exists_eq_left', exists_eq_right, exists_eq_right', exists_and_left, List.set_cons_zero, List.set_cons_succ, List.append_nil, List.nil_append, List.cons_append, decide_eq_true_eq, List.length_cons, List.length_nil, Nat.reduceAdd, scal, if_true, if_false, ite_self, Int.natCast_inj, Bool.false_eq_true]
    refine ⟨n, rfl, _, rfl, ?_⟩
    cases e : Ux05.isStick n with
    | false =>
      rw [e, if_pos rfl] at ek
      have g := k.gives hL (by rw [ek])
      rw [ek] at g
      simp only [Bool.not_false, if_true]
      exact ⟨by decide, fun p hp => g _ p ((Same.refl H).new hp) hp upd_same⟩
    | true =>
      rw [e, if_neg (by simp)] at ek
      simp only [Bool.not_true, Bool.false_eq_true, if_false]
      have hL0 := hL
      obtain ⟨⟨dx, hA⟩, hS⟩ := hL
      refine fld_do rfl hA TC.cl TC.nS (lf_s _ _) ?_
      simp only [tSeq, tAsg, gName, tVar, tC, tOp, tUn, rI, rI0, rU, rEq, rNe, tTest, tB, tAnd, tOr, tNot, tAndV, tOrV, tNotV, tIf, tIfS, tRet, tRetN, tDrop, tNext, tNil, tCons, tLst, tTup, tCall, tAug, ipI, tCB, tBM, tBM0, gTup, gCons, gNil, tNoPart, tPart, tSl, tChain, L2.start, List.map_cons, List.map_nil, List.replicate_succ, List.replicate_zero, Nat.reduceSub, CDiv, Int.reduceLT,
    List.getElem?_cons_zero, List.getElem?_cons_succ, Option.some.injEq, V.int.injEq, V.bl.injEq, V.ref.injEq, List.cons.injEq, and_true, true_and, exists_eq_left, exists_eq_left', exists_eq_right, exists_eq_right', exists_and_left, List.set_cons_zero, List.set_cons_succ, List.append_nil, List.nil_append, List.cons_append, decide_eq_true_eq, List.length_cons, List.length_nil, Nat.reduceAdd, scal, if_true, if_false, ite_self, Int.natCast_inj, Bool.false_eq_true]
      refine ⟨_, .inl (SqL.of hS), ?_⟩
      rw [nv_len]
      by_cases h16 : 16 ≤ d.heap.length
      · rw [if_pos h16] at ek
        have g := k.gives hL0 (by rw [ek])
        rw [ek] at g
        have := gd.n
        rw [if_pos (by omega)]
        exact ⟨by decide, fun p hp => g _ p ((Same.refl H).new hp) hp upd_same⟩
      · rw [if_neg h16] at ek
        unfold After at k
        rw [ek] at k
        rw [if_neg (by omega)]
        have nla : ls ≠ a := fun e => by rw [e, hA] at hS; cases hS
        refine fld_do rfl hA TC.cl TC.nS (lf_s _ _) ?_
        refine ⟨.inl ⟨rfl, _, SqL.of hS⟩, app_do hS (by rw [nv_len]; exact Nat.lt_of_le_of_lt (show d.heap.length ≤ 16 by omega) (by decide)) ?_⟩
        have hA2 : upd H ls (.lst (nv d.heap ++ [.int (n : Int)])) a = some (.ins C dx (lf d.p ls)) := (upd_ne (Ne.symm nla)).trans hA
        refine fld_do rfl hA2 TC.cl TC.nS (lf_s _ _) ?_
        simp only [tSeq, tAsg, gName, tVar, tC, tOp, tUn, rI, rI0, rU, rEq, rNe, tTest, tB, tAnd, tOr, tNot, tAndV, tOrV, tNotV, tIf, tIfS, tRet, tRetN, tDrop, tNext, tNil, tCons, tLst, tTup, tCall, tAug, ipI, tCB, tBM, tBM0, gTup, gCons, gNil, tNoPart, tPart, tSl, tChain, L2.start, List.map_cons, List.map_nil, List.replicate_succ, List.replicate_zero, Nat.reduceSub, CDiv, Int.reduceLT,
    List.getElem?_cons_zero, List.getElem?_cons_succ, Option.some.injEq, V.int.injEq, V.bl.injEq, V.ref.injEq, List.cons.injEq, and_true, true_and, exists_eq_left, exists_eq_left', exists_eq_right, exists_eq_right', exists_and_left, List.set_cons_zero, List.set_cons_succ, List.append_nil, List.nil_append, List.cons_append, decide_eq_true_eq, List.length_cons, List.length_nil, Nat.reduceAdd, scal, if_true, if_false, ite_self, Int.natCast_inj, Bool.false_eq_true]
        refine ⟨_, .inl (SqL.of upd_same), by decide, fun q hq => ?_⟩
        have hq0 : H q = none := by
          by_cases e : q = ls
          · rw [e, upd_same] at hq; cases hq
          · rw [upd_ne e] at hq; exact hq
        have sm := (Same.refl (upd H ls (.lst (nv d.heap ++ [.int (n : Int)])))).new (o := .lst [.int ((nv d.heap ++ [V.int (n : Int)]).length : Nat)]) hq
        refine k _ q ls ⟨⟨dx, sm _ _ hA2⟩, ?_⟩ (.inl rfl) (fun b o hb hba hbl => sm _ _ ((upd_ne hbl).trans hb)) hq0 ?_
        · rw [sm _ _ upd_same]
          simp [nv]
        · rw [upd_same, List.length_append, nv_len]
          rfl
theorem sc_Line_heap : FnScope ["self", "lengths", "length"] ["self", "lengths"] (defScope s_Line_heap) := ⟨rfl, rfl, rfl, by decide +kernel, rfl, by decide +kernel, by decide +kernel⟩
theorem ok_heap {f : Addr} {fd : FuncData} (F : Fun K "heap" "Line.heap" s_Line_heap f fd) (T : Txt mg) (TC : TxC K C) (c_is_length : Callee P w K mg base "is_length" 1 ["length"] spLen) : FnOk P w K mg base CX0 2 f fd ["self", "lengths"] (spHeap C) := by
  refine F.ok sc_Line_heap (fun vs H Q E h => ?_) (fun cdv A outer s H vs Q E hr h => ?_)
  · obtain ⟨a, ls, b, d, l, rfl, _⟩ := h
    rfl
  · obtain ⟨a, ls, b, d, l, rfl, hL, hb, hl40, k⟩ := h
    refine ⟨_, (pss_cons (ps_if (pw_or (pt_cmpR op_gt (pe_callB call_len_seq (by rfl) T.nlen PySem.boot_len (pa_cons (pv 1) pa_nil)) (pe_cint (by rfl) T.c_MOST_STICKS) (nomark _)) (pw_or1 (pt_not (pt_val (pe_callB (cr_all rfl) (by rfl) T.nall boot_all (pa_cons (pe_lc (own := [("length", 2)]) rfl sc_Line_heap.nd (pi_list (pv 1)) (blkOk_by (by rfl)) (fun _ _ _ _ _ => (pg_name (i := 2) sc_Line_heap.nd rfl (Or.inl rfl))) (fun _ _ _ _ _ => pts_nil) (fun _ _ _ _ _ => (pe_own c_is_length (hr.mono (by decide)) (by rfl) (pa_cons (pv 2) pa_nil)))) pa_nil)))))).pt (pss_one (ps_ret (pe_lst (pa_cons (pe_cint (by rfl) T.c_OUT_OF_BOUNDS) pa_nil)))) pss_nil)
      (pss_cons (ps_fld (pv 0) (pe_callTy call_list_of (by rfl) T.nlist boot_list (pa_cons (pv 1) pa_nil)) rfl)
      (pss_one (ps_ret (pe_lst (pa_cons (pe_callB call_len_seq (by rfl) T.nlen PySem.boot_len (pa_cons (pe_fld (pv 0) rfl) pa_nil)) pa_nil)))))), ?_⟩
    have ek : Ux05.step d (.heap l) = if 16 < l.length ∨ l.all Ux05.isStick = false then (d, [-1]) else ({ d with heap := l }, Ux05.ints [l.length]) := rfl
    simp only [tSeq, tAsg, gName, tVar, tC, tOp, tUn, rI, rI0, rU, rEq, rNe, tTest, tB, tAnd, tOr, tNot, tAndV, tOrV, tNotV, tIf, tIfS, tRet, tRetN, tDrop, tNext, tNil, tCons, tLst, tTup, tCall, tAug, ipI, tCB, tBM, tBM0, gTup, gCons, gNil, tNoPart, tPart, tSl, tChain, L2.start, List.map_cons, List.map_nil, List.replicate_succ, List.replicate_zero, Nat.reduceSub, CDiv, Int.reduceLT,
    List.getElem?_cons_zero, List.getElem?_cons_succ, Option.some.injEq, V.int.injEq, V.bl.injEq, V.ref.injEq, List.cons.injEq, and_true, true_and, exists_eq_left, exists_eq_left', exists_eq_right, exists_eq_right', exists_and_left, List.set_cons_zero, List.set_cons_succ, List.append_nil, List.nil_append, List.cons_append, decide_eq_true_eq, List.length_cons, List.length_nil, Nat.reduceAdd, scal, if_true, if_false, ite_self, Int.natCast_inj, Bool.false_eq_true]
    refine ⟨_, .inl (SqL.of hb), ?_⟩
    rw [nv_len]
    by_cases h16 : 16 < l.length
    · rw [if_pos (.inl h16)] at ek
      have g := k.gives hL (by rw [ek])
      rw [ek] at g
      rw [if_pos (by omega)]
      exact ⟨by decide, fun p hp => g _ p ((Same.refl H).new hp) hp upd_same⟩
    · rw [if_neg (by omega)]
      refine ⟨_, rfl, b, rfl, ⟨_, SqL.of hb⟩, fun D hD => ⟨fun i m H' => m = l.length - i ∧ i ≤ l.length ∧ Same H H' ∧ H' D = some (.lst ((l.take i).map fun n => V.bl (Ux05.isStick n))), ⟨_, rfl, Nat.zero_le _, (Same.refl H).new hD, upd_same⟩, ?_⟩⟩
      rintro i m H1 ⟨rfl, hi, s1, hD1⟩
      by_cases hlt : i < l.length
      · refine .inr ?_
        have hx : (nv l)[i]? = some (.int ((l.getD i 0 : Nat) : Int)) := nv_at hlt
        refine ⟨⟨_, _, SqL.of (s1 _ _ hb), hx⟩, fun H' => Same H H' ∧ H' D = some (.lst ((l.take (i + 1)).map fun n => V.bl (Ux05.isStick n))), fun H' h => ⟨_, (show l.length - (i + 1) < l.length - i by omega), rfl, by omega, h.1, h.2⟩, ?_⟩
        rintro x H' ⟨rfl, hy⟩
        have ex := hy _ (SqL.of (s1 _ _ hb))
        rw [hx] at ex
        cases ex
        simp only [tSeq, tAsg, gName, tVar, tC, tOp, tUn, rI, rI0, rU, rEq, rNe, tTest, tB, tAnd, tOr, tNot, tAndV, tOrV, tNotV, tIf, tIfS, tRet, tRetN, tDrop, tNext, tNil, tCons, tLst, tTup, tCall, tAug, ipI, tCB, tBM, tBM0, gTup, gCons, gNil, tNoPart, tPart, tSl, tChain, L2.start, List.map_cons, List.map_nil, List.replicate_succ, List.replicate_zero, Nat.reduceSub, CDiv, Int.reduceLT,
    List.getElem?_cons_zero, List.getElem?_cons_succ, Option.some.injEq, V.int.injEq, V.bl.injEq, V.ref.injEq, List.cons.injEq, and_true, true_and, exists_eq_left, exists_eq_left', exists_eq_right, exists_eq_right', exists_and_left, List.set_cons_zero, List.set_cons_succ, List.append_nil, List.nil_append, List.cons_append, decide_eq_true_eq, List.length_cons, List.length_nil, Nat.reduceAdd, scal, if_true, if_false, ite_self, Int.natCast_inj, Bool.false_eq_true, wipe, tYes]
        refine ⟨l.getD i 0, rfl, _, hD1, ?_, s1.upd hD, ?_⟩
        · rw [List.length_map, List.length_take]
          exact Nat.lt_of_le_of_lt (show min i l.length ≤ 40 by omega) (by decide)
        · have hi' : l[i]? = some (l.getD i 0) := by
            rw [List.getElem?_eq_getElem hlt]
            simp [hlt]
          rw [upd_same, take_snoc hi', List.map_append]
          rfl
      · refine .inl ⟨⟨_, SqL.of (s1 _ _ hb), by rw [nv_len]; omega⟩, ?_⟩
        have ei : i = l.length := by omega
        subst ei
        rw [List.take_length] at hD1
        refine ⟨D, l.map Ux05.isStick, rfl, SqL.of (by rw [List.map_map]; exact hD1), _, rfl, ?_⟩
        have ea : (l.map Ux05.isStick).all id = l.all Ux05.isStick := by rw [List.all_map]; rfl
        rw [ea]
        cases e : l.all Ux05.isStick with
        | false =>
          rw [if_pos (.inr e)] at ek
          have g := k.gives hL (by rw [ek])
          rw [ek] at g
          simp only [Bool.not_false, if_true]
          exact ⟨by decide, fun p hp => g _ p (s1.new hp) (s1.free hp) upd_same⟩
        | true =>
          rw [if_neg (by rw [e]; simp; omega)] at ek
          unfold After at k
          rw [ek] at k
          simp only [Bool.not_true, Bool.false_eq_true, if_false]
          obtain ⟨⟨dx, hA⟩, hS⟩ := hL
          simp only [tSeq, tAsg, gName, tVar, tC, tOp, tUn, rI, rI0, rU, rEq, rNe, tTest, tB, tAnd, tOr, tNot, tAndV, tOrV, tNotV, tIf, tIfS, tRet, tRetN, tDrop, tNext, tNil, tCons, tLst, tTup, tCall, tAug, ipI, tCB, tBM, tBM0, gTup, gCons, gNil, tNoPart, tPart, tSl, tChain, L2.start, List.map_cons, List.map_nil, List.replicate_succ, List.replicate_zero, Nat.reduceSub, CDiv, Int.reduceLT,
    List.getElem?_cons_zero, List.getElem?_cons_succ, Option.some.injEq, V.int.injEq, V.bl.injEq, V.ref.injEq, List.cons.injEq, and_true, true_and, exists_eq_left, exists_eq_left', exists_eq_right, exists_eq_right', exists_and_left, List.set_cons_zero, List.set_cons_succ, List.append_nil, List.nil_append, List.cons_append, decide_eq_true_eq, List.length_cons, List.length_nil, Nat.reduceAdd, scal, if_true, if_false, ite_self, Int.natCast_inj, Bool.false_eq_true, sFld]
          refine ⟨_, .inl (SqL.of (s1 _ _ hb)), fun l2 hl2 => ?_⟩
          have hA1 := s1 _ _ hA
          have nal : a ≠ l2 := ne_of_none hA1 hl2
          refine ⟨_, _, _, (upd_ne nal).trans hA1, TC.cl, TC.nS, (by rw [lf_eq]; show 2 < 1000; decide), ?_⟩
          rw [lf_putS]
          refine fld_do rfl upd_same TC.cl TC.nS (lf_s _ _) ?_
          have h2 : (upd (upd H1 l2 (.lst (nv l))) a (.ins C dx (lf d.p l2))) l2 = some (.lst (nv l)) := (upd_ne (Ne.symm nal)).trans upd_same
          refine ⟨_, rfl, _, .inl (SqL.of h2), by decide, fun q hq => ?_⟩
          have hqa : q ≠ a := fun e => by rw [e, upd_same] at hq; cases hq
          have hq1 : (upd H1 l2 (.lst (nv l))) q = none := by rw [upd_ne hqa] at hq; exact hq
          have hq0 : H q = none := (s1.new (o := .lst (nv l)) hl2).free hq1
          have sm := (Same.refl (upd (upd H1 l2 (.lst (nv l))) a (.ins C dx (lf d.p l2)))).new (o := .lst [.int ((nv l).length : Nat)]) hq
          refine k _ q l2 ⟨⟨dx, sm _ _ upd_same⟩, sm _ _ h2⟩ (.inr (s1.free hl2)) (fun b o hb hba hbl => sm _ _ ((upd_ne hba).trans ((upd_ne (ne_of_none (s1 _ _ hb) hl2)).trans (s1 _ _ hb)))) hq0 ?_
          rw [upd_same, nv_len]
          rfl
end
end Tri
set_option Elab.async false
set_option linter.all false
set_option maxRecDepth 100000
namespace Tri
open PySem PySem.Spec PyProof.Rows L2
open Ux05 (Triangle isTriangle triangles byLongest Desk before perimeter)
theorem After.bigger {C : Addr} {H H2 : Hp} {Q : VK} {a ls : Addr} {d : Desk} {c : Ux05.Call} (k : After C H Q a ls d c) (s : Same H H2) : After C H2 Q a ls d c := fun H' q ls' hL hls fr nq hq =>
  k H' q ls' hL (hls.imp id s.free) (fun b o hb h1 h2 => fr b o (s _ _ hb) h1 h2) (s.free nq) hq
theorem cut1 (x : V) (xs : List V) : cutV (x :: xs) (some 1) none = xs := by
  unfold cutV
  have e : HT.sIx (x :: xs).length 0 (some 1) = 1 := by
    have := HT.sIx_nat (x :: xs).length 0 1
    rw [show ((1 : Nat) : Int) = 1 from rfl] at this
    rw [this]
    simp
  rw [e, HT.sIx_none]
  simp
theorem cast_v (l : List Nat) : (Mf.cast l).map V.int = nv l := by
  unfold Mf.cast nv
  rw [List.map_map]
  rfl
/-- one call: the line, the call's number, the numbers behind it -/
def spAns (C : Addr) (low high : Int) : Sp := fun vs H Q _ => ∃ (a ls b : Addr) (d : Desk) (m : Int) (us : List Int) (c : Ux05.Call), vs = [.ref a, .int m, .ref b] ∧ low ≤ m ∧ m ≤ high ∧ LineAt C H a ls d ∧ Good d ∧ Mf.One (m :: us) c ∧ H b = some (.lst (us.map V.int)) ∧ After C H Q a ls d c
section
variable {P : Program} {w : World} {K : PySem.W.Frag} {mg : Str → Option Value} {base : Heap} {C : Addr}
theorem sc_answer_of_triangles : FnScope ["line", "call", "given"] ["line", "call", "given"] (defScope s_answer_of_triangles) := ⟨rfl, rfl, rfl, by decide +kernel, rfl, by decide +kernel, by decide +kernel⟩
theorem ok_answer_of_triangles {f : Addr} {fd : FuncData} (F : Fun K "answer_of_triangles" "answer_of_triangles" s_answer_of_triangles f fd) (T : Txt mg)
    (c_Line_about : Method P w K mg base C "about" 3 ["self", "p"] (spAbout C)) (c_Line_shows : Method P w K mg base C "shows" 1 ["self"] (spM0 C .shows)) (c_Line_one : Method P w K mg base C "one" 3 ["self", "i"] (spOne C))
    (c_place : Callee P w K mg base "place" 3 ["a", "b", "c"] spPlace) (c_Line_kinds : Method P w K mg base C "kinds" 3 ["self"] (spM0 C .kinds)) (c_longest : Callee P w K mg base "longest" 3 ["c"] spLongest)
    (c_area : Callee P w K mg base "area" 3 ["a", "b", "c"] spArea) (c_Line_greatest : Method P w K mg base C "greatest" 5 ["self"] (spM0 C .greatest)) (c_Line_least : Method P w K mg base C "least" 5 ["self"] (spM0 C .least)) :
    FnOk P w K mg base CX0 6 f fd ["line", "call", "given"] (spAns C 0 8) := by
  refine F.ok sc_answer_of_triangles (fun vs H Q E h => ?_) (fun cdv A outer s H vs Q E hr h => ?_)
  · obtain ⟨a, ls, b, d, m, us, c, rfl, _⟩ := h
    rfl
  · obtain ⟨a, ls, b, d, m, us, c, rfl, hm0, hm, hL, gd, ho, hb, k⟩ := h
    refine ⟨_, (pss_cons (ps_if (pt_cmpR op_eq (pv 1) (pe_cint (by rfl) T.c_ABOUT) (nomark _)) (pss_one (ps_ret (pe_mt (pv 0) c_Line_about (hr.mono (by decide)) (pa_cons (pe_ix ix_list (pv 2) pe_int (fun _ _ => rfl)) pa_nil)))) pss_nil)
      (pss_cons (ps_if (pt_cmpR op_eq (pv 1) (pe_cint (by rfl) T.c_SHOWS) (nomark _)) (pss_one (ps_ret (pe_mt0 (pv 0) c_Line_shows (hr.mono (by decide))))) pss_nil)
      (pss_cons (ps_if (pt_cmpR op_eq (pv 1) (pe_cint (by rfl) T.c_ONE) (nomark _)) (pss_one (ps_ret (pe_mt (pv 0) c_Line_one (hr.mono (by decide)) (pa_cons (pe_ix ix_list (pv 2) pe_int (fun _ _ => rfl)) pa_nil)))) pss_nil)
      (pss_cons (ps_if (pt_cmpR op_eq (pv 1) (pe_cint (by rfl) T.c_PLACE) (nomark _)) (pss_one (ps_ret (pe_own c_place (hr.mono (by decide)) (by rfl) (pa_cons (pe_ix ix_list (pv 2) pe_int (fun _ _ => rfl)) (pa_cons (pe_ix ix_list (pv 2) pe_int (fun _ _ => rfl)) (pa_cons (pe_ix ix_list (pv 2) pe_int (fun _ _ => rfl)) pa_nil)))))) pss_nil)
      (pss_cons (ps_if (pt_cmpR op_eq (pv 1) (pe_cint (by rfl) T.c_KINDS) (nomark _)) (pss_one (ps_ret (pe_mt0 (pv 0) c_Line_kinds (hr.mono (by decide))))) pss_nil)
      (pss_cons (ps_if (pt_cmpR op_eq (pv 1) (pe_cint (by rfl) T.c_LONGEST) (nomark _)) (pss_one (ps_ret (pe_own c_longest (hr.mono (by decide)) (by rfl) (pa_cons (pe_ix ix_list (pv 2) pe_int (fun _ _ => rfl)) pa_nil)))) pss_nil)
      (pss_cons (ps_if (pt_cmpR op_eq (pv 1) (pe_cint (by rfl) T.c_AREA) (nomark _)) (pss_one (ps_ret (pe_own c_area (hr.mono (by decide)) (by rfl) (pa_cons (pe_ix ix_list (pv 2) pe_int (fun _ _ => rfl)) (pa_cons (pe_ix ix_list (pv 2) pe_int (fun _ _ => rfl)) (pa_cons (pe_ix ix_list (pv 2) pe_int (fun _ _ => rfl)) pa_nil)))))) pss_nil)
      (pss_cons (ps_if (pt_cmpR op_eq (pv 1) (pe_cint (by rfl) T.c_GREATEST) (nomark _)) (pss_one (ps_ret (pe_mt0 (pv 0) c_Line_greatest (hr.mono (by decide))))) pss_nil)
      (pss_one (ps_ret (pe_mt0 (pv 0) c_Line_least (hr.mono (by decide))))))))))))), ?_⟩
    simp only [tSeq, tAsg, gName, tVar, tC, tOp, tUn, rI, rI0, rU, rEq, rNe, tTest, tB, tAnd, tOr, tNot, tAndV, tOrV, tNotV, tIf, tIfS, tRet, tRetN, tDrop, tNext, tNil, tCons, tLst, tTup, tCall, tAug, ipI, tCB, tBM, tBM0, gTup, gCons, gNil, tNoPart, tPart, tSl, tChain, L2.start, List.map_cons, List.map_nil, List.replicate_succ, List.replicate_zero, Nat.reduceSub, CDiv, Int.reduceLT,
    List.getElem?_cons_zero, List.getElem?_cons_succ, Option.some.injEq, V.int.injEq, V.bl.injEq, V.ref.injEq, List.cons.injEq, and_true, true_and, exists_eq_left, exists_eq_left', exists_eq_right, exists_eq_right', exists_and_left, List.set_cons_zero, List.set_cons_succ, List.append_nil, List.nil_append, List.cons_append, decide_eq_true_eq, List.length_cons, List.length_nil, Nat.reduceAdd, scal, if_true, if_false, ite_self, Int.natCast_inj, Bool.false_eq_true]
    have hL0 := hL
    obtain ⟨⟨dx, hA⟩, hS⟩ := hL0
    have no : ∀ {x : Str}, ¬ x = "sticks" → ¬ x = "perimeter" → (lf d.p ls).lookup x = none := fun h1 h2 => lf_no _ _ h1 h2
    cases ho with
    | about p =>
      rw [if_pos rfl]
      refine meth_do rfl hA (no (by decide +kernel) (by decide +kernel)) ?_
      simp only [tSeq, tAsg, gName, tVar, tC, tOp, tUn, rI, rI0, rU, rEq, rNe, tTest, tB, tAnd, tOr, tNot, tAndV, tOrV, tNotV, tIf, tIfS, tRet, tRetN, tDrop, tNext, tNil, tCons, tLst, tTup, tCall, tAug, ipI, tCB, tBM, tBM0, gTup, gCons, gNil, tNoPart, tPart, tSl, tChain, L2.start, List.map_cons, List.map_nil, List.replicate_succ, List.replicate_zero, Nat.reduceSub, CDiv, Int.reduceLT,
    List.getElem?_cons_zero, List.getElem?_cons_succ, Option.some.injEq, V.int.injEq, V.bl.injEq, V.ref.injEq, List.cons.injEq, and_true, true_and, exists_eq_left, exists_eq_left', exists_eq_right, exists_eq_right', exists_and_left, List.set_cons_zero, List.set_cons_succ, List.append_nil, List.nil_append, List.cons_append, decide_eq_true_eq, List.length_cons, List.length_nil, Nat.reduceAdd, scal, if_true, if_false, ite_self, Int.natCast_inj, Bool.false_eq_true]
      refine ixL_do (j := 0) (SqL.of hb) rfl rfl ?_
      exact ⟨a, ls, d, p, rfl, hL, k⟩
    | shows =>
      rw [if_neg (by decide), if_pos rfl]
      exact meth_do rfl hA (no (by decide +kernel) (by decide +kernel)) ⟨a, ls, d, rfl, hL, gd, k⟩
    | one i =>
      rw [if_neg (by decide), if_neg (by decide), if_pos rfl]
      refine meth_do rfl hA (no (by decide +kernel) (by decide +kernel)) ?_
      simp only [tSeq, tAsg, gName, tVar, tC, tOp, tUn, rI, rI0, rU, rEq, rNe, tTest, tB, tAnd, tOr, tNot, tAndV, tOrV, tNotV, tIf, tIfS, tRet, tRetN, tDrop, tNext, tNil, tCons, tLst, tTup, tCall, tAug, ipI, tCB, tBM, tBM0, gTup, gCons, gNil, tNoPart, tPart, tSl, tChain, L2.start, List.map_cons, List.map_nil, List.replicate_succ, List.replicate_zero, Nat.reduceSub, CDiv, Int.reduceLT,
    List.getElem?_cons_zero, List.getElem?_cons_succ, Option.some.injEq, V.int.injEq, V.bl.injEq, V.ref.injEq, List.cons.injEq, and_true, true_and, exists_eq_left, exists_eq_left', exists_eq_right, exists_eq_right', exists_and_left, List.set_cons_zero, List.set_cons_succ, List.append_nil, List.nil_append, List.cons_append, decide_eq_true_eq, List.length_cons, List.length_nil, Nat.reduceAdd, scal, if_true, if_false, ite_self, Int.natCast_inj, Bool.false_eq_true]
      refine ixL_do (j := 0) (SqL.of hb) rfl rfl ?_
      exact ⟨a, ls, d, i, rfl, hL, gd, k⟩
    | place x y z =>
      rw [if_neg (by decide), if_neg (by decide), if_neg (by decide), if_pos rfl]
      refine ixL_do (j := 0) (SqL.of hb) rfl rfl ?_
      refine ixL_do (j := 1) (SqL.of hb) rfl rfl ?_
      refine ixL_do (j := 2) (SqL.of hb) rfl rfl ?_
      exact ⟨x, y, z, rfl, k.gives hL rfl⟩
    | kinds =>
      rw [if_neg (by decide), if_neg (by decide), if_neg (by decide), if_neg (by decide), if_pos rfl]
      exact meth_do rfl hA (no (by decide +kernel) (by decide +kernel)) ⟨a, ls, d, rfl, hL, gd, k⟩
    | longest z =>
      rw [if_neg (by decide), if_neg (by decide), if_neg (by decide), if_neg (by decide), if_neg (by decide), if_pos rfl]
      refine ixL_do (j := 0) (SqL.of hb) rfl rfl ?_
      exact ⟨z, rfl, k.gives hL rfl⟩
    | area x y z =>
      rw [if_neg (by decide), if_neg (by decide), if_neg (by decide), if_neg (by decide), if_neg (by decide), if_neg (by decide), if_pos rfl]
      refine ixL_do (j := 0) (SqL.of hb) rfl rfl ?_
      refine ixL_do (j := 1) (SqL.of hb) rfl rfl ?_
      refine ixL_do (j := 2) (SqL.of hb) rfl rfl ?_
      exact ⟨x, y, z, rfl, k.gives hL rfl⟩
    | greatest =>
      rw [if_neg (by decide), if_neg (by decide), if_neg (by decide), if_neg (by decide), if_neg (by decide), if_neg (by decide), if_neg (by decide), if_pos rfl]
      exact meth_do rfl hA (no (by decide +kernel) (by decide +kernel)) ⟨a, ls, d, rfl, hL, gd, k⟩
    | least =>
      rw [if_neg (by decide), if_neg (by decide), if_neg (by decide), if_neg (by decide), if_neg (by decide), if_neg (by decide), if_neg (by decide), if_neg (by decide)]
      exact meth_do rfl hA (no (by decide +kernel) (by decide +kernel)) ⟨a, ls, d, rfl, hL, gd, k⟩
    | heap l hl => exact absurd hm (by decide)
    | put x => exact absurd hm (by decide)
    | threes => exact absurd hm (by decide)
    | most => exact absurd hm (by decide)
    | spare => exact absurd hm (by decide)
    | without n => exact absurd hm (by decide)
theorem sc_answer_of_sticks : FnScope ["line", "call", "given"] ["line", "call", "given"] (defScope s_answer_of_sticks) := ⟨rfl, rfl, rfl, by decide +kernel, rfl, by decide +kernel, by decide +kernel⟩
theorem ok_answer_of_sticks {f : Addr} {fd : FuncData} (F : Fun K "answer_of_sticks" "answer_of_sticks" s_answer_of_sticks f fd) (T : Txt mg)
    (c_Line_heap : Method P w K mg base C "heap" 2 ["self", "lengths"] (spHeap C)) (c_Line_put : Method P w K mg base C "put" 2 ["self", "length"] (spPut C)) (c_Line_threes : Method P w K mg base C "threes" 3 ["self"] (spM0 C .threes))
    (c_Line_most : Method P w K mg base C "most" 3 ["self"] (spM0 C .most)) (c_Line_spare : Method P w K mg base C "spare" 3 ["self"] (spM0 C .spare)) (c_without : Callee P w K mg base "without" 2 ["n"] spWithout) :
    FnOk P w K mg base CX0 6 f fd ["line", "call", "given"] (spAns C 9 14) := by
  refine F.ok sc_answer_of_sticks (fun vs H Q E h => ?_) (fun cdv A outer s H vs Q E hr h => ?_)
  · obtain ⟨a, ls, b, d, m, us, c, rfl, _⟩ := h
    rfl
  · obtain ⟨a, ls, b, d, m, us, c, rfl, hm0, hm, hL, gd, ho, hb, k⟩ := h
    refine ⟨_, (pss_cons (ps_if (pt_cmpR op_eq (pv 1) (pe_cint (by rfl) T.c_HEAP) (nomark _)) (pss_one (ps_ret (pe_mt (pv 0) c_Line_heap (hr.mono (by decide)) (pa_cons (pe_slice sl_list (pv 2) (po_some pe_int) po_none) pa_nil)))) pss_nil)
      (pss_cons (ps_if (pt_cmpR op_eq (pv 1) (pe_cint (by rfl) T.c_PUT) (nomark _)) (pss_one (ps_ret (pe_mt (pv 0) c_Line_put (hr.mono (by decide)) (pa_cons (pe_ix ix_list (pv 2) pe_int (fun _ _ => rfl)) pa_nil)))) pss_nil)
      (pss_cons (ps_if (pt_cmpR op_eq (pv 1) (pe_cint (by rfl) T.c_THREES) (nomark _)) (pss_one (ps_ret (pe_mt0 (pv 0) c_Line_threes (hr.mono (by decide))))) pss_nil)
      (pss_cons (ps_if (pt_cmpR op_eq (pv 1) (pe_cint (by rfl) T.c_MOST) (nomark _)) (pss_one (ps_ret (pe_mt0 (pv 0) c_Line_most (hr.mono (by decide))))) pss_nil)
      (pss_cons (ps_if (pt_cmpR op_eq (pv 1) (pe_cint (by rfl) T.c_SPARE) (nomark _)) (pss_one (ps_ret (pe_mt0 (pv 0) c_Line_spare (hr.mono (by decide))))) pss_nil)
      (pss_one (ps_ret (pe_own c_without (hr.mono (by decide)) (by rfl) (pa_cons (pe_ix ix_list (pv 2) pe_int (fun _ _ => rfl)) pa_nil))))))))), ?_⟩
    simp only [tSeq, tAsg, gName, tVar, tC, tOp, tUn, rI, rI0, rU, rEq, rNe, tTest, tB, tAnd, tOr, tNot, tAndV, tOrV, tNotV, tIf, tIfS, tRet, tRetN, tDrop, tNext, tNil, tCons, tLst, tTup, tCall, tAug, ipI, tCB, tBM, tBM0, gTup, gCons, gNil, tNoPart, tPart, tSl, tChain, L2.start, List.map_cons, List.map_nil, List.replicate_succ, List.replicate_zero, Nat.reduceSub, CDiv, Int.reduceLT,
    List.getElem?_cons_zero, List.getElem?_cons_succ, Option.some.injEq, V.int.injEq, V.bl.injEq, V.ref.injEq, List.cons.injEq, and_true, true_and, exists_eq_left, exists_eq_left', exists_eq_right, exists_eq_right', exists_and_left, List.set_cons_zero, List.set_cons_succ, List.append_nil, List.nil_append, List.cons_append, decide_eq_true_eq, List.length_cons, List.length_nil, Nat.reduceAdd, scal, if_true, if_false, ite_self, Int.natCast_inj, Bool.false_eq_true]
    have hL0 := hL
    obtain ⟨⟨dx, hA⟩, hS⟩ := hL0
    have no : ∀ {x : Str}, ¬ x = "sticks" → ¬ x = "perimeter" → (lf d.p ls).lookup x = none := fun h1 h2 => lf_no _ _ h1 h2
    cases ho with
    | heap l hl =>
      rw [if_pos rfl]
      refine meth_do rfl hA (no (by decide +kernel) (by decide +kernel)) ?_
      simp only [tSeq, tAsg, gName, tVar, tC, tOp, tUn, rI, rI0, rU, rEq, rNe, tTest, tB, tAnd, tOr, tNot, tAndV, tOrV, tNotV, tIf, tIfS, tRet, tRetN, tDrop, tNext, tNil, tCons, tLst, tTup, tCall, tAug, ipI, tCB, tBM, tBM0, gTup, gCons, gNil, tNoPart, tPart, tSl, tChain, L2.start, List.map_cons, List.map_nil, List.replicate_succ, List.replicate_zero, Nat.reduceSub, CDiv, Int.reduceLT,
    List.getElem?_cons_zero, List.getElem?_cons_succ, Option.some.injEq, V.int.injEq, V.bl.injEq, V.ref.injEq, List.cons.injEq, and_true, true_and, exists_eq_left, exists_eq_left', exists_eq_right, exists_eq_right', exists_and_left, List.set_cons_zero, List.set_cons_succ, List.append_nil, List.nil_append, List.cons_append, decide_eq_true_eq, List.length_cons, List.length_nil, Nat.reduceAdd, scal, if_true, if_false, ite_self, Int.natCast_inj, Bool.false_eq_true]
      refine ⟨b, _, rfl, SqL.of hb, fun p hp => ?_⟩
      have s1 : Same H (upd H p (.lst (nv l))) := (Same.refl H).new hp
      have e : cutV ((((l.length : Int) :: Mf.cast l)).map V.int) (some 1) none = nv l := by
        rw [List.map_cons, cut1, cast_v]
      rw [e]
      exact ⟨a, ls, p, d, l, rfl, hL.same s1, upd_same, hl, k.bigger s1⟩
    | put x =>
      rw [if_neg (by decide), if_pos rfl]
      refine meth_do rfl hA (no (by decide +kernel) (by decide +kernel)) ?_
      simp only [tSeq, tAsg, gName, tVar, tC, tOp, tUn, rI, rI0, rU, rEq, rNe, tTest, tB, tAnd, tOr, tNot, tAndV, tOrV, tNotV, tIf, tIfS, tRet, tRetN, tDrop, tNext, tNil, tCons, tLst, tTup, tCall, tAug, ipI, tCB, tBM, tBM0, gTup, gCons, gNil, tNoPart, tPart, tSl, tChain, L2.start, List.map_cons, List.map_nil, List.replicate_succ, List.replicate_zero, Nat.reduceSub, CDiv, Int.reduceLT,
    List.getElem?_cons_zero, List.getElem?_cons_succ, Option.some.injEq, V.int.injEq, V.bl.injEq, V.ref.injEq, List.cons.injEq, and_true, true_and, exists_eq_left, exists_eq_left', exists_eq_right, exists_eq_right', exists_and_left, List.set_cons_zero, List.set_cons_succ, List.append_nil, List.nil_append, List.cons_append, decide_eq_true_eq, List.length_cons, List.length_nil, Nat.reduceAdd, scal, if_true, if_false, ite_self, Int.natCast_inj, Bool.false_eq_true]
      refine ixL_do (j := 0) (SqL.of hb) rfl rfl ?_
      exact ⟨a, ls, d, x, rfl, hL, gd, k⟩
    | threes =>
      rw [if_neg (by decide), if_neg (by decide), if_pos rfl]
      exact meth_do rfl hA (no (by decide +kernel) (by decide +kernel)) ⟨a, ls, d, rfl, hL, gd, k⟩
    | most =>
      rw [if_neg (by decide), if_neg (by decide), if_neg (by decide), if_pos rfl]
      exact meth_do rfl hA (no (by decide +kernel) (by decide +kernel)) ⟨a, ls, d, rfl, hL, gd, k⟩
    | spare =>
      rw [if_neg (by decide), if_neg (by decide), if_neg (by decide), if_neg (by decide), if_pos rfl]
      exact meth_do rfl hA (no (by decide +kernel) (by decide +kernel)) ⟨a, ls, d, rfl, hL, gd, k⟩
    | without n =>
      rw [if_neg (by decide), if_neg (by decide), if_neg (by decide), if_neg (by decide), if_neg (by decide)]
      refine ixL_do (j := 0) (SqL.of hb) rfl rfl ?_
      exact ⟨n, rfl, k.gives hL rfl⟩
    | about p => exact absurd hm0 (by decide)
    | shows => exact absurd hm0 (by decide)
    | one i => exact absurd hm0 (by decide)
    | place x y z => exact absurd hm0 (by decide)
    | kinds => exact absurd hm0 (by decide)
    | longest z => exact absurd hm0 (by decide)
    | area x y z => exact absurd hm0 (by decide)
    | greatest => exact absurd hm0 (by decide)
    | least => exact absurd hm0 (by decide)
theorem one_bounds {m : Int} {us : List Int} {c : Ux05.Call} (h : Mf.One (m :: us) c) : 0 ≤ m ∧ m ≤ 14 := by
  cases h <;> decide
theorem sc_answer : FnScope ["line", "call", "given"] ["line", "call", "given"] (defScope s_answer) := ⟨rfl, rfl, rfl, by decide +kernel, rfl, by decide +kernel, by decide +kernel⟩
theorem ok_answer {f : Addr} {fd : FuncData} (F : Fun K "answer" "answer" s_answer f fd) (T : Txt mg) (c_answer_of_triangles : Callee P w K mg base "answer_of_triangles" 6 ["line", "call", "given"] (spAns C 0 8))
    (c_answer_of_sticks : Callee P w K mg base "answer_of_sticks" 6 ["line", "call", "given"] (spAns C 9 14)) : FnOk P w K mg base CX0 7 f fd ["line", "call", "given"] (spAns C 0 14) := by
  refine F.ok sc_answer (fun vs H Q E h => ?_) (fun cdv A outer s H vs Q E hr h => ?_)
  · obtain ⟨a, ls, b, d, m, us, c, rfl, _⟩ := h
    rfl
  · obtain ⟨a, ls, b, d, m, us, c, rfl, hm0, hm, hL, gd, ho, hb, k⟩ := h
    refine ⟨_, (pss_cons (ps_if (pt_cmpR op_le (pv 1) (pe_cint (by rfl) T.c_LEAST) (nomark _)) (pss_one (ps_ret (pe_own c_answer_of_triangles (hr.mono (by decide)) (by rfl) (pa_cons (pv 0) (pa_cons (pv 1) (pa_cons (pv 2) pa_nil)))))) pss_nil)
      (pss_one (ps_ret (pe_own c_answer_of_sticks (hr.mono (by decide)) (by rfl) (pa_cons (pv 0) (pa_cons (pv 1) (pa_cons (pv 2) pa_nil))))))), ?_⟩
    simp only [tSeq, tAsg, gName, tVar, tC, tOp, tUn, rI, rI0, rU, rEq, rNe, tTest, tB, tAnd, tOr, tNot, tAndV, tOrV, tNotV, tIf, tIfS, tRet, tRetN, tDrop, tNext, tNil, tCons, tLst, tTup, tCall, tAug, ipI, tCB, tBM, tBM0, gTup, gCons, gNil, tNoPart, tPart, tSl, tChain, L2.start, List.map_cons, List.map_nil, List.replicate_succ, List.replicate_zero, Nat.reduceSub, CDiv, Int.reduceLT,
    List.getElem?_cons_zero, List.getElem?_cons_succ, Option.some.injEq, V.int.injEq, V.bl.injEq, V.ref.injEq, List.cons.injEq, and_true, true_and, exists_eq_left, exists_eq_left', exists_eq_right, exists_eq_right', exists_and_left, List.set_cons_zero, List.set_cons_succ, List.append_nil, List.nil_append, List.cons_append, decide_eq_true_eq, List.length_cons, List.length_nil, Nat.reduceAdd, scal, if_true, if_false, ite_self, Int.natCast_inj, Bool.false_eq_true]
    by_cases h8 : m ≤ 8
    · rw [if_pos h8]
      exact ⟨a, ls, b, d, m, us, c, rfl, hm0, h8, hL, gd, ho, hb, k⟩
    · rw [if_neg h8]
      exact ⟨a, ls, b, d, m, us, c, rfl, by omega, hm, hL, gd, ho, hb, k⟩
/-! ### where a call ends -/
def nbV : List V := [.int 1, .int 0, .int 1, .int 3, .int 0, .int 1, .int 3, .int 0, .int 0, .int 1, .int 1, .int 0, .int 0, .int 0, .int 1]
theorem one_shape {u : List Int} {c : Ux05.Call} (h : Mf.One u c) : ∃ (m : Nat) (us : List Int) (z : Nat), u = (m : Int) :: us ∧ nbV[m]? = some (.int (z : Int)) ∧ ((m ≠ 9 ∧ us.length = z) ∨ (m = 9 ∧ z = 1 ∧ ∃ (l : Nat) (us' : List Int), us = (l : Int) :: us' ∧ us'.length = l)) := by
  cases h with
  | about p => exact ⟨0, _, 1, rfl, rfl, .inl ⟨by decide, rfl⟩⟩
  | shows => exact ⟨1, _, 0, rfl, rfl, .inl ⟨by decide, rfl⟩⟩
  | one p => exact ⟨2, _, 1, rfl, rfl, .inl ⟨by decide, rfl⟩⟩
  | place a b c => exact ⟨3, _, 3, rfl, rfl, .inl ⟨by decide, rfl⟩⟩
  | kinds => exact ⟨4, _, 0, rfl, rfl, .inl ⟨by decide, rfl⟩⟩
  | longest p => exact ⟨5, _, 1, rfl, rfl, .inl ⟨by decide, rfl⟩⟩
  | area a b c => exact ⟨6, _, 3, rfl, rfl, .inl ⟨by decide, rfl⟩⟩
  | greatest => exact ⟨7, _, 0, rfl, rfl, .inl ⟨by decide, rfl⟩⟩
  | least => exact ⟨8, _, 0, rfl, rfl, .inl ⟨by decide, rfl⟩⟩
  | heap l hl => exact ⟨9, _, 1, rfl, rfl, .inr ⟨rfl, rfl, l.length, Mf.cast l, rfl, Mf.cast_len l⟩⟩
  | put p => exact ⟨10, _, 1, rfl, rfl, .inl ⟨by decide, rfl⟩⟩
  | threes => exact ⟨11, _, 0, rfl, rfl, .inl ⟨by decide, rfl⟩⟩
  | most => exact ⟨12, _, 0, rfl, rfl, .inl ⟨by decide, rfl⟩⟩
  | spare => exact ⟨13, _, 0, rfl, rfl, .inl ⟨by decide, rfl⟩⟩
  | without n => exact ⟨14, _, 1, rfl, rfl, .inl ⟨by decide, rfl⟩⟩
theorem mapV_at {pr r : List Int} {x : Int} (j : Nat) (h : j = pr.length) : ((pr ++ x :: r).map V.int)[j]? = some (.int x) := by
  subst h
  rw [List.getElem?_map, List.getElem?_append_right (Nat.le_refl _)]
  simp
def spEnd (K : PySem.W.Frag) : Sp := fun vs H Q _ => ∃ (b : Addr) (pr u r : List Int) (c : Ux05.Call), vs = [.ref b, .int ((pr.length : Nat) : Int)] ∧ SqL K H b ((pr ++ (u ++ r)).map V.int) ∧ Mf.One u c ∧ Q (.int ((pr.length + u.length : Nat) : Int)) H
/-- the table of the module -/
def NbAt (K : PySem.W.Frag) (mg : Str → Option Value) : Prop := ∃ p : Addr, mg "NUMBERS_BEHIND" = some (.ref p) ∧ ∀ H : Hp, SqT K H p nbV
theorem sc_end_of_call : FnScope ["calls", "start", "call", "end"] ["calls", "start"] (defScope s_end_of_call) := ⟨rfl, rfl, rfl, by decide +kernel, rfl, by decide +kernel, by decide +kernel⟩
theorem ok_end_of_call {f : Addr} {fd : FuncData} (F : Fun K "end_of_call" "end_of_call" s_end_of_call f fd) (T : Txt mg) (nb : NbAt K mg) : FnOk P w K mg base CX0 1 f fd ["calls", "start"] (spEnd K) := by
  obtain ⟨pnb, h_NUMBERS_BEHIND, hnb⟩ := nb
  refine F.ok sc_end_of_call (fun vs H Q E h => ?_) (fun cdv A outer s H vs Q E hr h => ?_)
  · obtain ⟨b, pr, u, r, c, rfl, _⟩ := h
    rfl
  · obtain ⟨b, pr, u, r, c, rfl, hs, ho, k⟩ := h
    refine ⟨_, (pss_cons (ps_set (i := 2) sc_end_of_call.nd rfl (Or.inl rfl) (pe_ix ix_list (pv 0) (pv 1) (fun _ _ => rfl)))
      (pss_cons (ps_set (i := 3) sc_end_of_call.nd rfl (Or.inl rfl) (pe_op op_add (pe_op op_add (pv 1) pe_int) (pe_ix ix_tup (pe_cref (by rfl) h_NUMBERS_BEHIND) (pv 2) (fun _ _ => rfl))))
      (pss_cons (ps_if (pt_cmpR op_eq (pv 2) (pe_cint (by rfl) T.c_HEAP) (nomark _)) (pss_one (ps_aug (i := 3) sc_end_of_call.nd rfl (Or.inl rfl) (pe_ix ix_list (pv 0) (pe_op op_add (pv 1) pe_int) (fun _ _ => rfl)) ip_add)) pss_nil)
      (pss_one (ps_ret (pv 3)))))), ?_⟩
    simp only [tSeq, tAsg, gName, tVar, tC, tOp, tUn, rI, rI0, rU, rEq, rNe, tTest, tB, tAnd, tOr, tNot, tAndV, tOrV, tNotV, tIf, tIfS, tRet, tRetN, tDrop, tNext, tNil, tCons, tLst, tTup, tCall, tAug, ipI, tCB, tBM, tBM0, gTup, gCons, gNil, tNoPart, tPart, tSl, tChain, L2.start, List.map_cons, List.map_nil, List.replicate_succ, List.replicate_zero, Nat.reduceSub, CDiv, Int.reduceLT,
    List.getElem?_cons_zero, List.getElem?_cons_succ, Option.some.injEq, V.int.injEq, V.bl.injEq, V.ref.injEq, List.cons.injEq, and_true, true_and, exists_eq_left, exists_eq_left', exists_eq_right, exists_eq_right', exists_and_left, List.set_cons_zero, List.set_cons_succ, List.append_nil, List.nil_append, List.cons_append, decide_eq_true_eq, List.length_cons, List.length_nil, Nat.reduceAdd, scal, if_true, if_false, ite_self, Int.natCast_inj, Bool.false_eq_true]
    obtain ⟨m, us, z, eu, ez, hc⟩ := one_shape ho
    subst eu
    refine ixL_do (j := pr.length) hs rfl (mapV_at (r := us ++ r) _ rfl) ?_
    refine ixT_do (j := m) (hnb H) rfl ez ?_
    refine ⟨_, rfl, rfl, ?_⟩
    rcases hc with ⟨hm9, hl⟩ | ⟨rfl, rfl, l, us', rfl, hl⟩
    · rw [if_neg (by intro e; injection e with e; omega)]
      have e : (pr.length : Int) + 1 + z = ((pr.length + ((m : Int) :: us).length : Nat) : Int) := by rw [List.length_cons, hl]; omega
      rw [e]
      exact k
    · rw [if_pos (show V.int ((9 : Nat) : Int) = V.int 9 from rfl)]
      have el : pr ++ ((((9 : Nat) : Int) :: (l : Int) :: us') ++ r) = (pr ++ [((9 : Nat) : Int)]) ++ (l : Int) :: (us' ++ r) := by simp
      refine ixL_do (j := pr.length + 1) hs (by omega) (by rw [el]; exact mapV_at _ (by simp)) ?_
      refine ⟨_, rfl, ?_⟩
      have e : (pr.length : Int) + 1 + ((1 : Nat) : Int) + l = ((pr.length + (((9 : Nat) : Int) :: (l : Int) :: us').length : Nat) : Int) := by
        rw [List.length_cons, List.length_cons, hl]
        omega
      rw [e]
      exact k
end
end Tri
set_option Elab.async false
set_option linter.all false
set_option maxRecDepth 100000
namespace Tri
open PySem PySem.Spec PyProof.Rows L2
open Ux05 (Triangle isTriangle triangles byLongest Desk before perimeter)
def spAnswers (K : PySem.W.Frag) : Sp := fun vs H Q _ => ∃ (a : Addr) (ns : List Int), vs = [.ref a] ∧ SqL K H a (ns.map V.int) ∧ PyUx05.answers_asked ns = true ∧ ∀ (H' : Hp) (p : Addr), H' p = some (.lst (iv (PyUx05.answers ns))) → Q (.ref p) H'
theorem good_of {d : Desk} (g : Mf.Good d) : Good d := ⟨g.p1, g.p2, g.n, g.all⟩
theorem of_good {d : Desk} (g : Good d) : Mf.Good d := ⟨g.p1, g.p2, g.n, g.all⟩
/-- the list that was handed in: not the object, not its sticks, not what is told; or one of the module -/
def ClAt (K : PySem.W.Frag) (H : Hp) (cl a ls tl : Addr) (xs : List V) : Prop := (Rd H cl (.lst xs) ∧ cl ≠ a ∧ cl ≠ ls ∧ cl ≠ tl) ∨ ∀ H' : Hp, SqL K H' cl xs
theorem ClAt.sq {K : PySem.W.Frag} {H : Hp} {cl a ls tl : Addr} {xs : List V} (h : ClAt K H cl a ls tl xs) : SqL K H cl xs := by
  rcases h with ⟨h, _⟩ | h
  · exact .inl h
  · exact h H
theorem rd_some {H : Hp} {a : Addr} {u : HO} (h : Rd H a u) : ∃ o, H a = some o := by
  rcases h with h | ⟨o, h⟩
  · exact ⟨_, h⟩
  · exact ⟨_, h⟩
theorem rd_keep {H H' : Hp} {a : Addr} {u : HO} (h : Rd H a u) (k : ∀ o, H a = some o → H' a = some o) : Rd H' a u := by
  rcases h with h | ⟨o, h⟩
  · exact .inl (k _ h)
  · exact .inr ⟨o, k _ h⟩
theorem ClAt.same {K : PySem.W.Frag} {H H' : Hp} {cl a ls tl : Addr} {xs : List V} (h : ClAt K H cl a ls tl xs) (s : Same H H') : ClAt K H' cl a ls tl xs := by
  rcases h with ⟨h, h1, h2, h3⟩ | h
  · exact .inl ⟨rd_keep h fun o e => s _ _ e, h1, h2, h3⟩
  · exact .inr h
theorem ClAt.next {K : PySem.W.Frag} {H H' : Hp} {cl a ls ls' tl : Addr} {xs : List V} (h : ClAt K H cl a ls tl xs) (fr : ∀ b o, H b = some o → b ≠ a → b ≠ ls → H' b = some o) (hl : ls' = ls ∨ H ls' = none) : ClAt K H' cl a ls' tl xs := by
  rcases h with ⟨h, h1, h2, h3⟩ | h
  · refine .inl ⟨rd_keep h fun o e => fr _ _ e h1 h2, h1, ?_, h3⟩
    rcases hl with rfl | hl
    · exact h2
    · obtain ⟨o, e⟩ := rd_some h
      exact ne_of_none e hl
  · exact .inr h
theorem ClAt.told {K : PySem.W.Frag} {H : Hp} {cl a ls tl : Addr} {xs : List V} {o : HO} (h : ClAt K H cl a ls tl xs) : ClAt K (upd H tl o) cl a ls tl xs := by
  rcases h with ⟨h, h1, h2, h3⟩ | h
  · exact .inl ⟨rd_keep h fun o e => (upd_ne h3).trans e, h1, h2, h3⟩
  · exact .inr h
def PvA (K : PySem.W.Frag) (C cl a tl : Addr) (ns due : List Int) : L2.St → Hp → Prop := fun σ H' => ∃ (v4 v5 : Option V) (pr r td : List Int) (cs : List Ux05.Call) (d : Desk) (ls : Addr), Is [some (.ref cl), some (.ref a), some (.ref tl), some (.int ((pr.length : Nat) : Int)), v4, v5] σ ∧
  ns = pr ++ r ∧ Mf.Lines r cs ∧ ClAt K H' cl a ls tl (ns.map V.int) ∧ LineAt C H' a ls d ∧ Good d ∧ H' tl = some (.lst (iv td)) ∧ tl ≠ ls ∧ td ++ Mf.run d cs = due ∧ td.length + cs.length * 51 ≤ 2040
def muA (n : Nat) : L2.St → Hp → Nat := fun (σ : List (Option V)) _ => match σ[3]? with
  | some (some (V.int i)) => n - i.toNat
  | _ => 0
theorem lines_nil {cs : List Ux05.Call} (h : Mf.Lines [] cs) : cs = [] := by
  generalize e : ([] : List Int) = r at h
  cases h with
  | nil => rfl
  | cons ho hl =>
    obtain ⟨m, us, z, eu, _⟩ := one_shape ho
    rw [eu] at e
    cases e
theorem lines_cons {r : List Int} {cs : List Ux05.Call} (h : Mf.Lines r cs) (hr : r ≠ []) : ∃ (m : Nat) (us t : List Int) (c : Ux05.Call) (cs' : List Ux05.Call), r = ((m : Int) :: us) ++ t ∧ cs = c :: cs' ∧ Mf.One ((m : Int) :: us) c ∧ Mf.Lines t cs' := by
  cases h with
  | nil => exact absurd rfl hr
  | cons ho hl =>
    obtain ⟨m, us, z, eu, _⟩ := one_shape ho
    subst eu
    exact ⟨m, us, _, _, _, rfl, rfl, ho, hl⟩
theorem cut_mid (pr us t : List Int) (m : Int) : cutV ((pr ++ ((m :: us) ++ t)).map V.int) (some ((pr.length : Nat) + 1 : Int)) (some ((pr.length + (m :: us).length : Nat) : Int)) = us.map V.int := by
  unfold cutV
  have e1 : ((pr.length : Nat) : Int) + 1 = ((pr.length + 1 : Nat) : Int) := by omega
  rw [e1, HT.sIx_nat, HT.sIx_nat]
  have hl : ((pr ++ ((m :: us) ++ t)).map V.int).length = pr.length + 1 + us.length + t.length := by simp; omega
  rw [hl]
  have e2 : min (pr.length + 1) (pr.length + 1 + us.length + t.length) = pr.length + 1 := by omega
  have e3 : min (pr.length + (m :: us).length) (pr.length + 1 + us.length + t.length) = pr.length + 1 + us.length := by rw [List.length_cons]; omega
  rw [e2, e3]
  have e4 : pr ++ ((m :: us) ++ t) = (pr ++ [m]) ++ (us ++ t) := by simp
  rw [e4, List.map_append, List.drop_left' (by simp), List.map_append, List.take_left' (by simp)]
section
variable {P : Program} {w : World} {K : PySem.W.Frag} {mg : Str → Option Value} {base : Heap} {C : Addr}
theorem sc_answers : FnScope ["calls", "line", "told", "start", "end", "answered"] ["calls"] (defScope s_answers) := ⟨rfl, rfl, rfl, by decide +kernel, rfl, by decide +kernel, by decide +kernel⟩
theorem ok_answers {f : Addr} {fd : FuncData} (F : Fun K "answers" "answers" s_answers f fd) (T : Txt mg) (TC : TxC K C) (c_Line : Maker P w K mg base "Line" C 1 ["self"] (spInit C))
    (c_end_of_call : Callee P w K mg base "end_of_call" 1 ["calls", "start"] (spEnd K)) (c_answer : Callee P w K mg base "answer" 7 ["line", "call", "given"] (spAns C 0 14)) : FnOk P w K mg base CX0 8 f fd ["calls"] (spAnswers K) := by
  refine F.ok sc_answers (fun vs H Q E h => ?_) (fun cdv A outer s H vs Q E hr h => ?_)
  · obtain ⟨a, ns, rfl, _⟩ := h
    rfl
  · obtain ⟨cl, ns, rfl, hs, hask, k⟩ := h
    obtain ⟨cs, hcs, hlen, hdue⟩ := Mf.asked_calls hask
    rw [hdue] at k
    refine ⟨_, (pss_cons (ps_set (i := 1) sc_answers.nd rfl (Or.inl rfl) (pe_new0 c_Line (hr.mono (by decide)) (by rfl)))
      (pss_cons (ps_set (i := 2) sc_answers.nd rfl (Or.inl rfl) (pe_lst pa_nil))
      (pss_cons (ps_set (i := 3) sc_answers.nd rfl (Or.inl rfl) pe_int)
      (pss_cons (ps_while PassesOwn.never (pt_cmpR op_lt (pv 3) (pe_callB call_len_seq (by rfl) T.nlen PySem.boot_len (pa_cons (pv 0) pa_nil)) (nomark _)) (pss_cons (ps_set (i := 4) sc_answers.nd rfl (Or.inl rfl) (pe_own c_end_of_call (hr.mono (by decide)) (by rfl) (pa_cons (pv 0) (pa_cons (pv 3) pa_nil))))
      (pss_cons (ps_set (i := 5) sc_answers.nd rfl (Or.inl rfl) (pe_own c_answer (hr.mono (by decide)) (by rfl) (pa_cons (pv 1) (pa_cons (pe_ix ix_list (pv 0) (pv 3) (fun _ _ => rfl)) (pa_cons (pe_slice sl_list (pv 0) (po_some (pe_op op_add (pv 3) pe_int)) (po_some (pv 4))) pa_nil)))))
      (pss_cons (ps_expr (pe_bm PySem.F.plainAttrs_list PySem.F.slot_list_append PySem.F.type_list_append mt_append (pv 2) (pa_cons (pe_callB call_len_seq (by rfl) T.nlen PySem.boot_len (pa_cons (pv 5) pa_nil)) pa_nil)))
      (pss_cons (ps_expr (pe_bm PySem.F.plainAttrs_list PySem.F.slot_list_extend PySem.F.type_list_extend mt_extend (pv 2) (pa_cons (pv 5) pa_nil)))
      (pss_one (ps_set (i := 3) sc_answers.nd rfl (Or.inl rfl) (pv 4))))))))
      (pss_one (ps_ret (pv 2))))))), ?_⟩
    simp only [tSeq, tAsg, gName, tVar, tC, tOp, tUn, rI, rI0, rU, rEq, rNe, tTest, tB, tAnd, tOr, tNot, tAndV, tOrV, tNotV, tIf, tIfS, tRet, tRetN, tDrop, tNext, tNil, tCons, tLst, tTup, tCall, tAug, ipI, tCB, tBM, tBM0, gTup, gCons, gNil, tNoPart, tPart, tSl, tChain, L2.start, List.map_cons, List.map_nil, List.replicate_succ, List.replicate_zero, Nat.reduceSub, CDiv, Int.reduceLT,
    List.getElem?_cons_zero, List.getElem?_cons_succ, Option.some.injEq, V.int.injEq, V.bl.injEq, V.ref.injEq, List.cons.injEq, and_true, true_and, exists_eq_left, exists_eq_left', exists_eq_right, exists_eq_right', exists_and_left, List.set_cons_zero, List.set_cons_succ, List.append_nil, List.nil_append, List.cons_append, decide_eq_true_eq, List.length_cons, List.length_nil, Nat.reduceAdd, scal, if_true, if_false, ite_self, Int.natCast_inj, Bool.false_eq_true]
    intro a dx ha hdx hne
    have s0 : ∀ b o, H b = some o → upd (upd H dx (.own a)) a (.ins C dx []) b = some o := fun b o e => by
      rw [upd_ne (ne_of_none e ha), upd_ne (ne_of_none e hdx)]
      exact e
    refine ⟨a, dx, rfl, upd_same, fun H1 ls hL1 hls1 fr1 => ⟨rfl, ?_⟩⟩
    have sH1 : Same H H1 := fun b o e => fr1 b o (s0 b o e) (ne_of_none e ha)
    have hlsH : H ls = none := by
      have e1 : ls ≠ a := fun e => by rw [e, upd_same] at hls1; cases hls1
      rw [upd_ne e1] at hls1
      have e2 : ls ≠ dx := fun e => by rw [e, upd_same] at hls1; cases hls1
      rw [upd_ne e2] at hls1
      exact hls1
    refine ⟨by decide, fun tl htl => ?_⟩
    have s2 : Same H1 (upd H1 tl (.lst [])) := (Same.refl H1).new htl
    refine while_by (PvA K C cl a tl ns (Mf.run Ux05.init cs)) (muA ns.length) ⟨_, _, [], ns, [], cs, Ux05.init, ls, .mk, rfl, hcs, ?_, hL1.same s2, good_of Mf.good_init, upd_same, (ne_of_none hL1.2 htl).symm, rfl, by simp; omega⟩ ?_ ?_
    · rcases hs with hs | hs
      · obtain ⟨o, e⟩ := rd_some hs
        exact .inl ⟨rd_keep hs fun o e => s2 _ _ (sH1 _ _ e), ne_of_none e ha, ne_of_none e hlsH, ne_of_none (sH1 _ _ e) htl⟩
      · exact .inr fun H' => .inr hs
    · rintro σ H2 ⟨v4, v5, pr, r, td, cs2, d, ls2, ⟨⟩, hns, hLi, hcl, hLn, gd, htl2, hne2, hrun, hbd⟩
      simp only [tSeq, tAsg, gName, tVar, tC, tOp, tUn, rI, rI0, rU, rEq, rNe, tTest, tB, tAnd, tOr, tNot, tAndV, tOrV, tNotV, tIf, tIfS, tRet, tRetN, tDrop, tNext, tNil, tCons, tLst, tTup, tCall, tAug, ipI, tCB, tBM, tBM0, gTup, gCons, gNil, tNoPart, tPart, tSl, tChain, L2.start, List.map_cons, List.map_nil, List.replicate_succ, List.replicate_zero, Nat.reduceSub, CDiv, Int.reduceLT,
    List.getElem?_cons_zero, List.getElem?_cons_succ, Option.some.injEq, V.int.injEq, V.bl.injEq, V.ref.injEq, List.cons.injEq, and_true, true_and, exists_eq_left, exists_eq_left', exists_eq_right, exists_eq_right', exists_and_left, List.set_cons_zero, List.set_cons_succ, List.append_nil, List.nil_append, List.cons_append, decide_eq_true_eq, List.length_cons, List.length_nil, Nat.reduceAdd, scal, if_true, if_false, ite_self, Int.natCast_inj, Bool.false_eq_true]
      refine ⟨_, .inl hcl.sq, ?_⟩
      rw [List.length_map]
      by_cases hr' : r = []
      · subst hr'
        have ec := lines_nil hLi
        subst ec
        rw [if_neg (by rw [hns]; simp)]
        refine k _ tl ?_
        rw [htl2, ← hrun]
        simp [Mf.run]
      · obtain ⟨m, us, t, c, cs', er, ec, ho, hLi'⟩ := lines_cons hLi hr'
        subst er ec
        rw [if_pos (by rw [hns]; simp; omega)]
        refine ⟨cl, pr, (m : Int) :: us, t, c, rfl, by rw [← hns]; exact hcl.sq, ho, ?_⟩
        refine ixL_do (j := pr.length) hcl.sq rfl (by rw [hns]; exact mapV_at _ rfl) ?_
        have ecut : cutV (ns.map V.int) (some ((pr.length : Nat) + 1 : Int)) (some ((pr.length + ((m : Int) :: us).length : Nat) : Int)) = us.map V.int := by rw [hns]; exact cut_mid _ _ _ _
        refine ⟨_, rfl, cl, _, rfl, hcl.sq, fun p hp => ?_⟩
        rw [ecut]
        have s3 : Same H2 (upd H2 p (.lst (us.map V.int))) := (Same.refl H2).new hp
        obtain ⟨b0, b1⟩ := one_bounds ho
        refine ⟨a, ls2, p, d, m, us, c, rfl, b0, b1, hLn.same s3, gd, ho, upd_same, fun H3 q ls3 hL3 hls3 fr3 nq hq => ?_⟩
        have htl3 : H3 tl = some (.lst (iv td)) := fr3 _ _ (s3 _ _ htl2) (fun e => by
          obtain ⟨⟨dx', hA'⟩, _⟩ := hLn
          rw [e, hA'] at htl2
          cases htl2) hne2
        have nqt : q ≠ tl := (ne_of_none (s3 _ _ htl2) nq).symm
        have nlt : ls3 ≠ tl := by
          rcases hls3 with e | e
          · rw [e]; exact hne2.symm
          · exact (ne_of_none (s3 _ _ htl2) e).symm
        have nat : a ≠ tl := fun e => by
          obtain ⟨⟨dx', hA'⟩, _⟩ := hL3
          rw [e, htl3] at hA'
          cases hA'
        have hans := Mf.step_len (of_good gd) c
        have lenI : ∀ l : List Int, (iv l).length = l.length := fun l => by unfold iv; rw [List.length_map]
        have small : ∀ {n : Nat}, n ≤ 5000 → n < sizeLine := fun h => Nat.lt_of_le_of_lt h (by decide)
        rw [List.length_cons] at hbd
        refine ⟨.inl ⟨rfl, _, SqL.of htl3⟩, q, rfl, _, .inl (SqL.of hq), app_do htl3 (small (by rw [lenI]; omega)) ⟨.inl ⟨rfl, _, SqL.of upd_same⟩, ext_do upd_same ((upd_ne nqt).trans hq) (Nat.le_of_lt (small (by rw [List.length_append, lenI, lenI]; simp only [List.length_cons, List.length_nil]; omega))) ?_⟩⟩
        refine ⟨⟨_, _, pr ++ ((m : Int) :: us), t, td ++ (((Ux05.step d c).2.length : Int) :: (Ux05.step d c).2), cs', (Ux05.step d c).1, ls3, (by rw [List.length_append]; exact .mk), by rw [hns, List.append_assoc], hLi', (((hcl.same s3).next fr3 hls3).told).told, ?_, good_of (Mf.good_step (of_good gd) c), ?_, nlt.symm, ?_, ?_⟩, ?_⟩
        · obtain ⟨⟨dx', hA'⟩, hS'⟩ := hL3
          exact ⟨⟨dx', (upd_ne nat).trans ((upd_ne nat).trans hA')⟩, (upd_ne nlt).trans ((upd_ne nlt).trans hS')⟩
        · rw [upd_same, lenI]
          simp [iv]
        · rw [← hrun]
          simp [Mf.run]
        · rw [List.length_append, List.length_cons]
          omega
        · simp only [muA, List.getElem?_cons_succ, List.getElem?_cons_zero]
          have : ns.length = pr.length + (((m : Int) :: us).length + t.length) := by rw [hns, List.length_append, List.length_append]
          rw [List.length_cons] at this
          rw [List.length_cons]
          omega
    · intro σ H Q Q' hQ h
      simp only [tSeq, tAsg, gName, tVar, tC, tOp, tUn, rI, rI0, rU, rEq, rNe, tTest, tB, tAnd, tOr, tNot, tAndV, tOrV, tNotV, tIf, tIfS, tRet, tRetN, tDrop, tNext, tNil, tCons, tLst, tTup, tCall, tAug, ipI, tCB, tBM, tBM0, gTup, gCons, gNil, tNoPart, tPart, tSl, tChain, L2.start, List.map_cons, List.map_nil, List.replicate_succ, List.replicate_zero, Nat.reduceSub, CDiv, Int.reduceLT,
    List.getElem?_cons_zero, List.getElem?_cons_succ, Option.some.injEq, V.int.injEq, V.bl.injEq, V.ref.injEq, List.cons.injEq, and_true, true_and, exists_eq_left, exists_eq_left', exists_eq_right, exists_eq_right', exists_and_left, List.set_cons_zero, List.set_cons_succ, List.append_nil, List.nil_append, List.cons_append, decide_eq_true_eq, List.length_cons, List.length_nil, Nat.reduceAdd, scal, if_true, if_false, ite_self, Int.natCast_inj, Bool.false_eq_true] at h ⊢
      obtain ⟨v, hv, v1, hv1, p, e, x, hx, i, ei, q⟩ := h
      exact ⟨v, hv, v1, hv1, p, e, x, hx, i, ei, hQ _ _ q⟩
end
end Tri
set_option Elab.async false
set_option linter.all false
set_option maxRecDepth 100000
namespace Tri
open PySem PySem.Spec PyProof.Rows L2
open PySem.W (Codec)
open Ux05 (Triangle isTriangle triangles byLongest Desk)
theorem pack {P : Program} {w : World} {K : PySem.W.Frag} {mg : Str → Option Value} {fa : Addr} {fd : FuncData} (_F : Fun K "answers" "answers" s_answers fa fd) (hb : ∀ (s : Shared) (us : List Value), us.length = (["calls"] : List Str).length → BindsTo s fd ⟨us, []⟩ ((["calls"] : List Str).zip us))
    (h : ∀ base : Heap, FnOk P w K mg base CX0 8 fa fd ["calls"] (spAnswers K)) :
    ∃ fd : FuncData, (∀ (s : Shared) (us : List Value), us.length = (["calls"] : List Str).length → BindsTo s fd ⟨us, []⟩ ((["calls"] : List Str).zip us)) ∧ ∀ base : Heap, K.In base → base.Ns mainGlobals mg → FnOk P w K mg base CX0 8 fa fd ["calls"] (spAnswers K) := ⟨fd, hb, fun base _ _ => h base⟩
set_option maxHeartbeats 4000000 in
theorem all_mk {P : Program} {w : World} {K : PySem.W.Frag} {h : Heap} {mg : Str → Option Value} {fa : Addr} (X : K.In h) (G : h.Ns mainGlobals mg) (hfa : mg "answers" = some (.ref fa))
    {C_Line : Addr}
    (aC_Line : PySem.W.nsIn K mainGlobals "Line" = some (some (.ref C_Line)))
    {f_is_triangle : Addr} {od_is_triangle an_is_triangle : Option Addr} {sl_is_triangle : Array (Option Value)} {oc_is_triangle kV_is_triangle dc_is_triangle pm_is_triangle cd_is_triangle ct_is_triangle : Value}
    (a_is_triangle : PySem.W.nsIn K mainGlobals "is_triangle" = some (some (.ref f_is_triangle)))
    (l_is_triangle : K.lookup f_is_triangle = some ⟨oc_is_triangle, od_is_triangle, .func (PySem.W.fnOf "is_triangle" "is_triangle" (defArgs s_is_triangle) (defBody s_is_triangle) (defScope s_is_triangle) .none kV_is_triangle dc_is_triangle pm_is_triangle an_is_triangle cd_is_triangle ct_is_triangle), sl_is_triangle⟩)
    (c_is_triangle : PySem.W.codeIn K cd_is_triangle "is_triangle" = true)
    (k_is_triangle : PySem.W.keepIn K (.ref f_is_triangle) = true)
    {f_of_perimeter : Addr} {od_of_perimeter an_of_perimeter : Option Addr} {sl_of_perimeter : Array (Option Value)} {oc_of_perimeter kV_of_perimeter dc_of_perimeter pm_of_perimeter cd_of_perimeter ct_of_perimeter : Value}
    (a_of_perimeter : PySem.W.nsIn K mainGlobals "of_perimeter" = some (some (.ref f_of_perimeter)))
    (l_of_perimeter : K.lookup f_of_perimeter = some ⟨oc_of_perimeter, od_of_perimeter, .func (PySem.W.fnOf "of_perimeter" "of_perimeter" (defArgs s_of_perimeter) (defBody s_of_perimeter) (defScope s_of_perimeter) .none kV_of_perimeter dc_of_perimeter pm_of_perimeter an_of_perimeter cd_of_perimeter ct_of_perimeter), sl_of_perimeter⟩)
    (c_of_perimeter : PySem.W.codeIn K cd_of_perimeter "of_perimeter" = true)
    (k_of_perimeter : PySem.W.keepIn K (.ref f_of_perimeter) = true)
    {f_of_longest : Addr} {od_of_longest an_of_longest : Option Addr} {sl_of_longest : Array (Option Value)} {oc_of_longest kV_of_longest dc_of_longest pm_of_longest cd_of_longest ct_of_longest : Value}
    (a_of_longest : PySem.W.nsIn K mainGlobals "of_longest" = some (some (.ref f_of_longest)))
    (l_of_longest : K.lookup f_of_longest = some ⟨oc_of_longest, od_of_longest, .func (PySem.W.fnOf "of_longest" "of_longest" (defArgs s_of_longest) (defBody s_of_longest) (defScope s_of_longest) .none kV_of_longest dc_of_longest pm_of_longest an_of_longest cd_of_longest ct_of_longest), sl_of_longest⟩)
    (c_of_longest : PySem.W.codeIn K cd_of_longest "of_longest" = true)
    (k_of_longest : PySem.W.keepIn K (.ref f_of_longest) = true)
    {f_count_by_sides : Addr} {od_count_by_sides an_count_by_sides : Option Addr} {sl_count_by_sides : Array (Option Value)} {oc_count_by_sides kV_count_by_sides dc_count_by_sides pm_count_by_sides cd_count_by_sides ct_count_by_sides : Value}
    (a_count_by_sides : PySem.W.nsIn K mainGlobals "count_by_sides" = some (some (.ref f_count_by_sides)))
    (l_count_by_sides : K.lookup f_count_by_sides = some ⟨oc_count_by_sides, od_count_by_sides, .func (PySem.W.fnOf "count_by_sides" "count_by_sides" (defArgs s_count_by_sides) (defBody s_count_by_sides) (defScope s_count_by_sides) .none kV_count_by_sides dc_count_by_sides pm_count_by_sides an_count_by_sides cd_count_by_sides ct_count_by_sides), sl_count_by_sides⟩)
    (c_count_by_sides : PySem.W.codeIn K cd_count_by_sides "count_by_sides" = true)
    (k_count_by_sides : PySem.W.keepIn K (.ref f_count_by_sides) = true)
    {f_count_by_angle : Addr} {od_count_by_angle an_count_by_angle : Option Addr} {sl_count_by_angle : Array (Option Value)} {oc_count_by_angle kV_count_by_angle dc_count_by_angle pm_count_by_angle cd_count_by_angle ct_count_by_angle : Value}
    (a_count_by_angle : PySem.W.nsIn K mainGlobals "count_by_angle" = some (some (.ref f_count_by_angle)))
    (l_count_by_angle : K.lookup f_count_by_angle = some ⟨oc_count_by_angle, od_count_by_angle, .func (PySem.W.fnOf "count_by_angle" "count_by_angle" (defArgs s_count_by_angle) (defBody s_count_by_angle) (defScope s_count_by_angle) .none kV_count_by_angle dc_count_by_angle pm_count_by_angle an_count_by_angle cd_count_by_angle ct_count_by_angle), sl_count_by_angle⟩)
    (c_count_by_angle : PySem.W.codeIn K cd_count_by_angle "count_by_angle" = true)
    (k_count_by_angle : PySem.W.keepIn K (.ref f_count_by_angle) = true)
    {f_sixteen_squares : Addr} {od_sixteen_squares an_sixteen_squares : Option Addr} {sl_sixteen_squares : Array (Option Value)} {oc_sixteen_squares kV_sixteen_squares dc_sixteen_squares pm_sixteen_squares cd_sixteen_squares ct_sixteen_squares : Value}
    (a_sixteen_squares : PySem.W.nsIn K mainGlobals "sixteen_squares" = some (some (.ref f_sixteen_squares)))
    (l_sixteen_squares : K.lookup f_sixteen_squares = some ⟨oc_sixteen_squares, od_sixteen_squares, .func (PySem.W.fnOf "sixteen_squares" "sixteen_squares" (defArgs s_sixteen_squares) (defBody s_sixteen_squares) (defScope s_sixteen_squares) .none kV_sixteen_squares dc_sixteen_squares pm_sixteen_squares an_sixteen_squares cd_sixteen_squares ct_sixteen_squares), sl_sixteen_squares⟩)
    (c_sixteen_squares : PySem.W.codeIn K cd_sixteen_squares "sixteen_squares" = true)
    (k_sixteen_squares : PySem.W.keepIn K (.ref f_sixteen_squares) = true)
    {f_squares_of : Addr} {od_squares_of an_squares_of : Option Addr} {sl_squares_of : Array (Option Value)} {oc_squares_of kV_squares_of dc_squares_of pm_squares_of cd_squares_of ct_squares_of : Value}
    (a_squares_of : PySem.W.nsIn K mainGlobals "squares_of" = some (some (.ref f_squares_of)))
    (l_squares_of : K.lookup f_squares_of = some ⟨oc_squares_of, od_squares_of, .func (PySem.W.fnOf "squares_of" "squares_of" (defArgs s_squares_of) (defBody s_squares_of) (defScope s_squares_of) .none kV_squares_of dc_squares_of pm_squares_of an_squares_of cd_squares_of ct_squares_of), sl_squares_of⟩)
    (c_squares_of : PySem.W.codeIn K cd_squares_of "squares_of" = true)
    (k_squares_of : PySem.W.keepIn K (.ref f_squares_of) = true)
    {f_greatest_area : Addr} {od_greatest_area an_greatest_area : Option Addr} {sl_greatest_area : Array (Option Value)} {oc_greatest_area kV_greatest_area dc_greatest_area pm_greatest_area cd_greatest_area ct_greatest_area : Value}
    (a_greatest_area : PySem.W.nsIn K mainGlobals "greatest_area" = some (some (.ref f_greatest_area)))
    (l_greatest_area : K.lookup f_greatest_area = some ⟨oc_greatest_area, od_greatest_area, .func (PySem.W.fnOf "greatest_area" "greatest_area" (defArgs s_greatest_area) (defBody s_greatest_area) (defScope s_greatest_area) .none kV_greatest_area dc_greatest_area pm_greatest_area an_greatest_area cd_greatest_area ct_greatest_area), sl_greatest_area⟩)
    (c_greatest_area : PySem.W.codeIn K cd_greatest_area "greatest_area" = true)
    (k_greatest_area : PySem.W.keepIn K (.ref f_greatest_area) = true)
    {f_least_area : Addr} {od_least_area an_least_area : Option Addr} {sl_least_area : Array (Option Value)} {oc_least_area kV_least_area dc_least_area pm_least_area cd_least_area ct_least_area : Value}
    (a_least_area : PySem.W.nsIn K mainGlobals "least_area" = some (some (.ref f_least_area)))
    (l_least_area : K.lookup f_least_area = some ⟨oc_least_area, od_least_area, .func (PySem.W.fnOf "least_area" "least_area" (defArgs s_least_area) (defBody s_least_area) (defScope s_least_area) .none kV_least_area dc_least_area pm_least_area an_least_area cd_least_area ct_least_area), sl_least_area⟩)
    (c_least_area : PySem.W.codeIn K cd_least_area "least_area" = true)
    (k_least_area : PySem.W.keepIn K (.ref f_least_area) = true)
    {f_greatest_perimeter : Addr} {od_greatest_perimeter an_greatest_perimeter : Option Addr} {sl_greatest_perimeter : Array (Option Value)} {oc_greatest_perimeter kV_greatest_perimeter dc_greatest_perimeter pm_greatest_perimeter cd_greatest_perimeter ct_greatest_perimeter : Value}
    (a_greatest_perimeter : PySem.W.nsIn K mainGlobals "greatest_perimeter" = some (some (.ref f_greatest_perimeter)))
    (l_greatest_perimeter : K.lookup f_greatest_perimeter = some ⟨oc_greatest_perimeter, od_greatest_perimeter, .func (PySem.W.fnOf "greatest_perimeter" "greatest_perimeter" (defArgs s_greatest_perimeter) (defBody s_greatest_perimeter) (defScope s_greatest_perimeter) .none kV_greatest_perimeter dc_greatest_perimeter pm_greatest_perimeter an_greatest_perimeter cd_greatest_perimeter ct_greatest_perimeter), sl_greatest_perimeter⟩)
    (c_greatest_perimeter : PySem.W.codeIn K cd_greatest_perimeter "greatest_perimeter" = true)
    (k_greatest_perimeter : PySem.W.keepIn K (.ref f_greatest_perimeter) = true)
    {f_of_sticks : Addr} {od_of_sticks an_of_sticks : Option Addr} {sl_of_sticks : Array (Option Value)} {oc_of_sticks kV_of_sticks dc_of_sticks pm_of_sticks cd_of_sticks ct_of_sticks : Value}
    (a_of_sticks : PySem.W.nsIn K mainGlobals "of_sticks" = some (some (.ref f_of_sticks)))
    (l_of_sticks : K.lookup f_of_sticks = some ⟨oc_of_sticks, od_of_sticks, .func (PySem.W.fnOf "of_sticks" "of_sticks" (defArgs s_of_sticks) (defBody s_of_sticks) (defScope s_of_sticks) .none kV_of_sticks dc_of_sticks pm_of_sticks an_of_sticks cd_of_sticks ct_of_sticks), sl_of_sticks⟩)
    (c_of_sticks : PySem.W.codeIn K cd_of_sticks "of_sticks" = true)
    (k_of_sticks : PySem.W.keepIn K (.ref f_of_sticks) = true)
    {f_most_left : Addr} {od_most_left an_most_left : Option Addr} {sl_most_left : Array (Option Value)} {oc_most_left kV_most_left dc_most_left pm_most_left cd_most_left ct_most_left : Value}
    (a_most_left : PySem.W.nsIn K mainGlobals "most_left" = some (some (.ref f_most_left)))
    (l_most_left : K.lookup f_most_left = some ⟨oc_most_left, od_most_left, .func (PySem.W.fnOf "most_left" "most_left" (defArgs s_most_left) (defBody s_most_left) (defScope s_most_left) .none kV_most_left dc_most_left pm_most_left an_most_left cd_most_left ct_most_left), sl_most_left⟩)
    (c_most_left : PySem.W.codeIn K cd_most_left "most_left" = true)
    (k_most_left : PySem.W.keepIn K (.ref f_most_left) = true)
    {f_lengths_without : Addr} {od_lengths_without an_lengths_without : Option Addr} {sl_lengths_without : Array (Option Value)} {oc_lengths_without kV_lengths_without dc_lengths_without pm_lengths_without cd_lengths_without ct_lengths_without : Value}
    (a_lengths_without : PySem.W.nsIn K mainGlobals "lengths_without" = some (some (.ref f_lengths_without)))
    (l_lengths_without : K.lookup f_lengths_without = some ⟨oc_lengths_without, od_lengths_without, .func (PySem.W.fnOf "lengths_without" "lengths_without" (defArgs s_lengths_without) (defBody s_lengths_without) (defScope s_lengths_without) .none kV_lengths_without dc_lengths_without pm_lengths_without an_lengths_without cd_lengths_without ct_lengths_without), sl_lengths_without⟩)
    (c_lengths_without : PySem.W.codeIn K cd_lengths_without "lengths_without" = true)
    (k_lengths_without : PySem.W.keepIn K (.ref f_lengths_without) = true)
    {f_Line___init__ : Addr} {od_Line___init__ an_Line___init__ : Option Addr} {sl_Line___init__ : Array (Option Value)} {oc_Line___init__ kV_Line___init__ dc_Line___init__ pm_Line___init__ cd_Line___init__ ct_Line___init__ : Value}
    (a_Line___init__ : PySem.W.findIn K (.ref C_Line) "__init__" = some (some (.ref f_Line___init__)))
    (i_Line___init__ : PySem.W.isFn K (.ref f_Line___init__) = true)
    (l_Line___init__ : K.lookup f_Line___init__ = some ⟨oc_Line___init__, od_Line___init__, .func (PySem.W.fnOf "__init__" "Line.__init__" (defArgs s_Line___init__) (defBody s_Line___init__) (defScope s_Line___init__) .none kV_Line___init__ dc_Line___init__ pm_Line___init__ an_Line___init__ cd_Line___init__ ct_Line___init__), sl_Line___init__⟩)
    (c_Line___init__ : PySem.W.codeIn K cd_Line___init__ "Line.__init__" = true)
    (k_Line___init__ : PySem.W.keepIn K (.ref f_Line___init__) = true)
    {f_Line_about : Addr} {od_Line_about an_Line_about : Option Addr} {sl_Line_about : Array (Option Value)} {oc_Line_about kV_Line_about dc_Line_about pm_Line_about cd_Line_about ct_Line_about : Value}
    (a_Line_about : PySem.W.findIn K (.ref C_Line) "about" = some (some (.ref f_Line_about)))
    (i_Line_about : PySem.W.isFn K (.ref f_Line_about) = true)
    (l_Line_about : K.lookup f_Line_about = some ⟨oc_Line_about, od_Line_about, .func (PySem.W.fnOf "about" "Line.about" (defArgs s_Line_about) (defBody s_Line_about) (defScope s_Line_about) .none kV_Line_about dc_Line_about pm_Line_about an_Line_about cd_Line_about ct_Line_about), sl_Line_about⟩)
    (c_Line_about : PySem.W.codeIn K cd_Line_about "Line.about" = true)
    (k_Line_about : PySem.W.keepIn K (.ref f_Line_about) = true)
    {f_Line_shows : Addr} {od_Line_shows an_Line_shows : Option Addr} {sl_Line_shows : Array (Option Value)} {oc_Line_shows kV_Line_shows dc_Line_shows pm_Line_shows cd_Line_shows ct_Line_shows : Value}
    (a_Line_shows : PySem.W.findIn K (.ref C_Line) "shows" = some (some (.ref f_Line_shows)))
    (i_Line_shows : PySem.W.isFn K (.ref f_Line_shows) = true)
    (l_Line_shows : K.lookup f_Line_shows = some ⟨oc_Line_shows, od_Line_shows, .func (PySem.W.fnOf "shows" "Line.shows" (defArgs s_Line_shows) (defBody s_Line_shows) (defScope s_Line_shows) .none kV_Line_shows dc_Line_shows pm_Line_shows an_Line_shows cd_Line_shows ct_Line_shows), sl_Line_shows⟩)
    (c_Line_shows : PySem.W.codeIn K cd_Line_shows "Line.shows" = true)
    (k_Line_shows : PySem.W.keepIn K (.ref f_Line_shows) = true)
    {f_Line_one : Addr} {od_Line_one an_Line_one : Option Addr} {sl_Line_one : Array (Option Value)} {oc_Line_one kV_Line_one dc_Line_one pm_Line_one cd_Line_one ct_Line_one : Value}
    (a_Line_one : PySem.W.findIn K (.ref C_Line) "one" = some (some (.ref f_Line_one)))
    (i_Line_one : PySem.W.isFn K (.ref f_Line_one) = true)
    (l_Line_one : K.lookup f_Line_one = some ⟨oc_Line_one, od_Line_one, .func (PySem.W.fnOf "one" "Line.one" (defArgs s_Line_one) (defBody s_Line_one) (defScope s_Line_one) .none kV_Line_one dc_Line_one pm_Line_one an_Line_one cd_Line_one ct_Line_one), sl_Line_one⟩)
    (c_Line_one : PySem.W.codeIn K cd_Line_one "Line.one" = true)
    (k_Line_one : PySem.W.keepIn K (.ref f_Line_one) = true)
    {f_Line_kinds : Addr} {od_Line_kinds an_Line_kinds : Option Addr} {sl_Line_kinds : Array (Option Value)} {oc_Line_kinds kV_Line_kinds dc_Line_kinds pm_Line_kinds cd_Line_kinds ct_Line_kinds : Value}
    (a_Line_kinds : PySem.W.findIn K (.ref C_Line) "kinds" = some (some (.ref f_Line_kinds)))
    (i_Line_kinds : PySem.W.isFn K (.ref f_Line_kinds) = true)
    (l_Line_kinds : K.lookup f_Line_kinds = some ⟨oc_Line_kinds, od_Line_kinds, .func (PySem.W.fnOf "kinds" "Line.kinds" (defArgs s_Line_kinds) (defBody s_Line_kinds) (defScope s_Line_kinds) .none kV_Line_kinds dc_Line_kinds pm_Line_kinds an_Line_kinds cd_Line_kinds ct_Line_kinds), sl_Line_kinds⟩)
    (c_Line_kinds : PySem.W.codeIn K cd_Line_kinds "Line.kinds" = true)
    (k_Line_kinds : PySem.W.keepIn K (.ref f_Line_kinds) = true)
    {f_Line_greatest : Addr} {od_Line_greatest an_Line_greatest : Option Addr} {sl_Line_greatest : Array (Option Value)} {oc_Line_greatest kV_Line_greatest dc_Line_greatest pm_Line_greatest cd_Line_greatest ct_Line_greatest : Value}
    (a_Line_greatest : PySem.W.findIn K (.ref C_Line) "greatest" = some (some (.ref f_Line_greatest)))
    (i_Line_greatest : PySem.W.isFn K (.ref f_Line_greatest) = true)
    (l_Line_greatest : K.lookup f_Line_greatest = some ⟨oc_Line_greatest, od_Line_greatest, .func (PySem.W.fnOf "greatest" "Line.greatest" (defArgs s_Line_greatest) (defBody s_Line_greatest) (defScope s_Line_greatest) .none kV_Line_greatest dc_Line_greatest pm_Line_greatest an_Line_greatest cd_Line_greatest ct_Line_greatest), sl_Line_greatest⟩)
    (c_Line_greatest : PySem.W.codeIn K cd_Line_greatest "Line.greatest" = true)
    (k_Line_greatest : PySem.W.keepIn K (.ref f_Line_greatest) = true)
    {f_Line_least : Addr} {od_Line_least an_Line_least : Option Addr} {sl_Line_least : Array (Option Value)} {oc_Line_least kV_Line_least dc_Line_least pm_Line_least cd_Line_least ct_Line_least : Value}
    (a_Line_least : PySem.W.findIn K (.ref C_Line) "least" = some (some (.ref f_Line_least)))
    (i_Line_least : PySem.W.isFn K (.ref f_Line_least) = true)
    (l_Line_least : K.lookup f_Line_least = some ⟨oc_Line_least, od_Line_least, .func (PySem.W.fnOf "least" "Line.least" (defArgs s_Line_least) (defBody s_Line_least) (defScope s_Line_least) .none kV_Line_least dc_Line_least pm_Line_least an_Line_least cd_Line_least ct_Line_least), sl_Line_least⟩)
    (c_Line_least : PySem.W.codeIn K cd_Line_least "Line.least" = true)
    (k_Line_least : PySem.W.keepIn K (.ref f_Line_least) = true)
    {f_Line_heap : Addr} {od_Line_heap an_Line_heap : Option Addr} {sl_Line_heap : Array (Option Value)} {oc_Line_heap kV_Line_heap dc_Line_heap pm_Line_heap cd_Line_heap ct_Line_heap : Value}
    (a_Line_heap : PySem.W.findIn K (.ref C_Line) "heap" = some (some (.ref f_Line_heap)))
    (i_Line_heap : PySem.W.isFn K (.ref f_Line_heap) = true)
    (l_Line_heap : K.lookup f_Line_heap = some ⟨oc_Line_heap, od_Line_heap, .func (PySem.W.fnOf "heap" "Line.heap" (defArgs s_Line_heap) (defBody s_Line_heap) (defScope s_Line_heap) .none kV_Line_heap dc_Line_heap pm_Line_heap an_Line_heap cd_Line_heap ct_Line_heap), sl_Line_heap⟩)
    (c_Line_heap : PySem.W.codeIn K cd_Line_heap "Line.heap" = true)
    (k_Line_heap : PySem.W.keepIn K (.ref f_Line_heap) = true)
    {f_Line_put : Addr} {od_Line_put an_Line_put : Option Addr} {sl_Line_put : Array (Option Value)} {oc_Line_put kV_Line_put dc_Line_put pm_Line_put cd_Line_put ct_Line_put : Value}
    (a_Line_put : PySem.W.findIn K (.ref C_Line) "put" = some (some (.ref f_Line_put)))
    (i_Line_put : PySem.W.isFn K (.ref f_Line_put) = true)
    (l_Line_put : K.lookup f_Line_put = some ⟨oc_Line_put, od_Line_put, .func (PySem.W.fnOf "put" "Line.put" (defArgs s_Line_put) (defBody s_Line_put) (defScope s_Line_put) .none kV_Line_put dc_Line_put pm_Line_put an_Line_put cd_Line_put ct_Line_put), sl_Line_put⟩)
    (c_Line_put : PySem.W.codeIn K cd_Line_put "Line.put" = true)
    (k_Line_put : PySem.W.keepIn K (.ref f_Line_put) = true)
    {f_Line_threes : Addr} {od_Line_threes an_Line_threes : Option Addr} {sl_Line_threes : Array (Option Value)} {oc_Line_threes kV_Line_threes dc_Line_threes pm_Line_threes cd_Line_threes ct_Line_threes : Value}
    (a_Line_threes : PySem.W.findIn K (.ref C_Line) "threes" = some (some (.ref f_Line_threes)))
    (i_Line_threes : PySem.W.isFn K (.ref f_Line_threes) = true)
    (l_Line_threes : K.lookup f_Line_threes = some ⟨oc_Line_threes, od_Line_threes, .func (PySem.W.fnOf "threes" "Line.threes" (defArgs s_Line_threes) (defBody s_Line_threes) (defScope s_Line_threes) .none kV_Line_threes dc_Line_threes pm_Line_threes an_Line_threes cd_Line_threes ct_Line_threes), sl_Line_threes⟩)
    (c_Line_threes : PySem.W.codeIn K cd_Line_threes "Line.threes" = true)
    (k_Line_threes : PySem.W.keepIn K (.ref f_Line_threes) = true)
    {f_Line_most : Addr} {od_Line_most an_Line_most : Option Addr} {sl_Line_most : Array (Option Value)} {oc_Line_most kV_Line_most dc_Line_most pm_Line_most cd_Line_most ct_Line_most : Value}
    (a_Line_most : PySem.W.findIn K (.ref C_Line) "most" = some (some (.ref f_Line_most)))
    (i_Line_most : PySem.W.isFn K (.ref f_Line_most) = true)
    (l_Line_most : K.lookup f_Line_most = some ⟨oc_Line_most, od_Line_most, .func (PySem.W.fnOf "most" "Line.most" (defArgs s_Line_most) (defBody s_Line_most) (defScope s_Line_most) .none kV_Line_most dc_Line_most pm_Line_most an_Line_most cd_Line_most ct_Line_most), sl_Line_most⟩)
    (c_Line_most : PySem.W.codeIn K cd_Line_most "Line.most" = true)
    (k_Line_most : PySem.W.keepIn K (.ref f_Line_most) = true)
    {f_Line_spare : Addr} {od_Line_spare an_Line_spare : Option Addr} {sl_Line_spare : Array (Option Value)} {oc_Line_spare kV_Line_spare dc_Line_spare pm_Line_spare cd_Line_spare ct_Line_spare : Value}
    (a_Line_spare : PySem.W.findIn K (.ref C_Line) "spare" = some (some (.ref f_Line_spare)))
    (i_Line_spare : PySem.W.isFn K (.ref f_Line_spare) = true)
    (l_Line_spare : K.lookup f_Line_spare = some ⟨oc_Line_spare, od_Line_spare, .func (PySem.W.fnOf "spare" "Line.spare" (defArgs s_Line_spare) (defBody s_Line_spare) (defScope s_Line_spare) .none kV_Line_spare dc_Line_spare pm_Line_spare an_Line_spare cd_Line_spare ct_Line_spare), sl_Line_spare⟩)
    (c_Line_spare : PySem.W.codeIn K cd_Line_spare "Line.spare" = true)
    (k_Line_spare : PySem.W.keepIn K (.ref f_Line_spare) = true)
    {f_sides_or_refusal : Addr} {od_sides_or_refusal an_sides_or_refusal : Option Addr} {sl_sides_or_refusal : Array (Option Value)} {oc_sides_or_refusal kV_sides_or_refusal dc_sides_or_refusal pm_sides_or_refusal cd_sides_or_refusal ct_sides_or_refusal : Value}
    (a_sides_or_refusal : PySem.W.nsIn K mainGlobals "sides_or_refusal" = some (some (.ref f_sides_or_refusal)))
    (l_sides_or_refusal : K.lookup f_sides_or_refusal = some ⟨oc_sides_or_refusal, od_sides_or_refusal, .func (PySem.W.fnOf "sides_or_refusal" "sides_or_refusal" (defArgs s_sides_or_refusal) (defBody s_sides_or_refusal) (defScope s_sides_or_refusal) .none kV_sides_or_refusal dc_sides_or_refusal pm_sides_or_refusal an_sides_or_refusal cd_sides_or_refusal ct_sides_or_refusal), sl_sides_or_refusal⟩)
    (c_sides_or_refusal : PySem.W.codeIn K cd_sides_or_refusal "sides_or_refusal" = true)
    (k_sides_or_refusal : PySem.W.keepIn K (.ref f_sides_or_refusal) = true)
    {f_is_side : Addr} {od_is_side an_is_side : Option Addr} {sl_is_side : Array (Option Value)} {oc_is_side kV_is_side dc_is_side pm_is_side cd_is_side ct_is_side : Value}
    (a_is_side : PySem.W.nsIn K mainGlobals "is_side" = some (some (.ref f_is_side)))
    (l_is_side : K.lookup f_is_side = some ⟨oc_is_side, od_is_side, .func (PySem.W.fnOf "is_side" "is_side" (defArgs s_is_side) (defBody s_is_side) (defScope s_is_side) .none kV_is_side dc_is_side pm_is_side an_is_side cd_is_side ct_is_side), sl_is_side⟩)
    (c_is_side : PySem.W.codeIn K cd_is_side "is_side" = true)
    (k_is_side : PySem.W.keepIn K (.ref f_is_side) = true)
    {f_is_length : Addr} {od_is_length an_is_length : Option Addr} {sl_is_length : Array (Option Value)} {oc_is_length kV_is_length dc_is_length pm_is_length cd_is_length ct_is_length : Value}
    (a_is_length : PySem.W.nsIn K mainGlobals "is_length" = some (some (.ref f_is_length)))
    (l_is_length : K.lookup f_is_length = some ⟨oc_is_length, od_is_length, .func (PySem.W.fnOf "is_length" "is_length" (defArgs s_is_length) (defBody s_is_length) (defScope s_is_length) .none kV_is_length dc_is_length pm_is_length an_is_length cd_is_length ct_is_length), sl_is_length⟩)
    (c_is_length : PySem.W.codeIn K cd_is_length "is_length" = true)
    (k_is_length : PySem.W.keepIn K (.ref f_is_length) = true)
    {f_refused_sides : Addr} {od_refused_sides an_refused_sides : Option Addr} {sl_refused_sides : Array (Option Value)} {oc_refused_sides kV_refused_sides dc_refused_sides pm_refused_sides cd_refused_sides ct_refused_sides : Value}
    (a_refused_sides : PySem.W.nsIn K mainGlobals "refused_sides" = some (some (.ref f_refused_sides)))
    (l_refused_sides : K.lookup f_refused_sides = some ⟨oc_refused_sides, od_refused_sides, .func (PySem.W.fnOf "refused_sides" "refused_sides" (defArgs s_refused_sides) (defBody s_refused_sides) (defScope s_refused_sides) .none kV_refused_sides dc_refused_sides pm_refused_sides an_refused_sides cd_refused_sides ct_refused_sides), sl_refused_sides⟩)
    (c_refused_sides : PySem.W.codeIn K cd_refused_sides "refused_sides" = true)
    (k_refused_sides : PySem.W.keepIn K (.ref f_refused_sides) = true)
    {f_place : Addr} {od_place an_place : Option Addr} {sl_place : Array (Option Value)} {oc_place kV_place dc_place pm_place cd_place ct_place : Value}
    (a_place : PySem.W.nsIn K mainGlobals "place" = some (some (.ref f_place)))
    (l_place : K.lookup f_place = some ⟨oc_place, od_place, .func (PySem.W.fnOf "place" "place" (defArgs s_place) (defBody s_place) (defScope s_place) .none kV_place dc_place pm_place an_place cd_place ct_place), sl_place⟩)
    (c_place : PySem.W.codeIn K cd_place "place" = true)
    (k_place : PySem.W.keepIn K (.ref f_place) = true)
    {f_longest : Addr} {od_longest an_longest : Option Addr} {sl_longest : Array (Option Value)} {oc_longest kV_longest dc_longest pm_longest cd_longest ct_longest : Value}
    (a_longest : PySem.W.nsIn K mainGlobals "longest" = some (some (.ref f_longest)))
    (l_longest : K.lookup f_longest = some ⟨oc_longest, od_longest, .func (PySem.W.fnOf "longest" "longest" (defArgs s_longest) (defBody s_longest) (defScope s_longest) .none kV_longest dc_longest pm_longest an_longest cd_longest ct_longest), sl_longest⟩)
    (c_longest : PySem.W.codeIn K cd_longest "longest" = true)
    (k_longest : PySem.W.keepIn K (.ref f_longest) = true)
    {f_area : Addr} {od_area an_area : Option Addr} {sl_area : Array (Option Value)} {oc_area kV_area dc_area pm_area cd_area ct_area : Value}
    (a_area : PySem.W.nsIn K mainGlobals "area" = some (some (.ref f_area)))
    (l_area : K.lookup f_area = some ⟨oc_area, od_area, .func (PySem.W.fnOf "area" "area" (defArgs s_area) (defBody s_area) (defScope s_area) .none kV_area dc_area pm_area an_area cd_area ct_area), sl_area⟩)
    (c_area : PySem.W.codeIn K cd_area "area" = true)
    (k_area : PySem.W.keepIn K (.ref f_area) = true)
    {f_without : Addr} {od_without an_without : Option Addr} {sl_without : Array (Option Value)} {oc_without kV_without dc_without pm_without cd_without ct_without : Value}
    (a_without : PySem.W.nsIn K mainGlobals "without" = some (some (.ref f_without)))
    (l_without : K.lookup f_without = some ⟨oc_without, od_without, .func (PySem.W.fnOf "without" "without" (defArgs s_without) (defBody s_without) (defScope s_without) .none kV_without dc_without pm_without an_without cd_without ct_without), sl_without⟩)
    (c_without : PySem.W.codeIn K cd_without "without" = true)
    (k_without : PySem.W.keepIn K (.ref f_without) = true)
    {f_answer_of_triangles : Addr} {od_answer_of_triangles an_answer_of_triangles : Option Addr} {sl_answer_of_triangles : Array (Option Value)} {oc_answer_of_triangles kV_answer_of_triangles dc_answer_of_triangles pm_answer_of_triangles cd_answer_of_triangles ct_answer_of_triangles : Value}
    (a_answer_of_triangles : PySem.W.nsIn K mainGlobals "answer_of_triangles" = some (some (.ref f_answer_of_triangles)))
    (l_answer_of_triangles : K.lookup f_answer_of_triangles = some ⟨oc_answer_of_triangles, od_answer_of_triangles, .func (PySem.W.fnOf "answer_of_triangles" "answer_of_triangles" (defArgs s_answer_of_triangles) (defBody s_answer_of_triangles) (defScope s_answer_of_triangles) .none kV_answer_of_triangles dc_answer_of_triangles pm_answer_of_triangles an_answer_of_triangles cd_answer_of_triangles ct_answer_of_triangles), sl_answer_of_triangles⟩)
    (c_answer_of_triangles : PySem.W.codeIn K cd_answer_of_triangles "answer_of_triangles" = true)
    (k_answer_of_triangles : PySem.W.keepIn K (.ref f_answer_of_triangles) = true)
    {f_answer_of_sticks : Addr} {od_answer_of_sticks an_answer_of_sticks : Option Addr} {sl_answer_of_sticks : Array (Option Value)} {oc_answer_of_sticks kV_answer_of_sticks dc_answer_of_sticks pm_answer_of_sticks cd_answer_of_sticks ct_answer_of_sticks : Value}
    (a_answer_of_sticks : PySem.W.nsIn K mainGlobals "answer_of_sticks" = some (some (.ref f_answer_of_sticks)))
    (l_answer_of_sticks : K.lookup f_answer_of_sticks = some ⟨oc_answer_of_sticks, od_answer_of_sticks, .func (PySem.W.fnOf "answer_of_sticks" "answer_of_sticks" (defArgs s_answer_of_sticks) (defBody s_answer_of_sticks) (defScope s_answer_of_sticks) .none kV_answer_of_sticks dc_answer_of_sticks pm_answer_of_sticks an_answer_of_sticks cd_answer_of_sticks ct_answer_of_sticks), sl_answer_of_sticks⟩)
    (c_answer_of_sticks : PySem.W.codeIn K cd_answer_of_sticks "answer_of_sticks" = true)
    (k_answer_of_sticks : PySem.W.keepIn K (.ref f_answer_of_sticks) = true)
    {f_answer : Addr} {od_answer an_answer : Option Addr} {sl_answer : Array (Option Value)} {oc_answer kV_answer dc_answer pm_answer cd_answer ct_answer : Value}
    (a_answer : PySem.W.nsIn K mainGlobals "answer" = some (some (.ref f_answer)))
    (l_answer : K.lookup f_answer = some ⟨oc_answer, od_answer, .func (PySem.W.fnOf "answer" "answer" (defArgs s_answer) (defBody s_answer) (defScope s_answer) .none kV_answer dc_answer pm_answer an_answer cd_answer ct_answer), sl_answer⟩)
    (c_answer : PySem.W.codeIn K cd_answer "answer" = true)
    (k_answer : PySem.W.keepIn K (.ref f_answer) = true)
    {f_end_of_call : Addr} {od_end_of_call an_end_of_call : Option Addr} {sl_end_of_call : Array (Option Value)} {oc_end_of_call kV_end_of_call dc_end_of_call pm_end_of_call cd_end_of_call ct_end_of_call : Value}
    (a_end_of_call : PySem.W.nsIn K mainGlobals "end_of_call" = some (some (.ref f_end_of_call)))
    (l_end_of_call : K.lookup f_end_of_call = some ⟨oc_end_of_call, od_end_of_call, .func (PySem.W.fnOf "end_of_call" "end_of_call" (defArgs s_end_of_call) (defBody s_end_of_call) (defScope s_end_of_call) .none kV_end_of_call dc_end_of_call pm_end_of_call an_end_of_call cd_end_of_call ct_end_of_call), sl_end_of_call⟩)
    (c_end_of_call : PySem.W.codeIn K cd_end_of_call "end_of_call" = true)
    (k_end_of_call : PySem.W.keepIn K (.ref f_end_of_call) = true)
    {f_answers : Addr} {od_answers an_answers : Option Addr} {sl_answers : Array (Option Value)} {oc_answers kV_answers dc_answers pm_answers cd_answers ct_answers : Value}
    (a_answers : PySem.W.nsIn K mainGlobals "answers" = some (some (.ref f_answers)))
    (l_answers : K.lookup f_answers = some ⟨oc_answers, od_answers, .func (PySem.W.fnOf "answers" "answers" (defArgs s_answers) (defBody s_answers) (defScope s_answers) .none kV_answers dc_answers pm_answers an_answers cd_answers ct_answers), sl_answers⟩)
    (c_answers : PySem.W.codeIn K cd_answers "answers" = true)
    (k_answers : PySem.W.keepIn K (.ref f_answers) = true)
    (pg_Line : PySem.W.plainGet K C_Line Str.empty = true)
    (hd_Line : PySem.W.hasDictIn K C_Line = true)
    (po_Line : PySem.W.plainOver K C_Line = true)
    (sa_Line : PySem.W.findIn K (.ref C_Line) "__setattr__" = some (some (.builtin "object.__setattr__")))
    (mk_Line : PySem.W.makesIn K C_Line = true)
    (kc_Line : PySem.W.keepIn K (.ref C_Line) = true)
    (n_Line_sticks : PySem.W.findIn K (.ref C_Line) "sticks" = some none)
    (n_Line_perimeter : PySem.W.findIn K (.ref C_Line) "perimeter" = some none)
    {t_FIRST_PERIMETER : Tok}
    (e_FIRST_PERIMETER : PySem.W.nsIn K mainGlobals "FIRST_PERIMETER" = some (some (.int 12 t_FIRST_PERIMETER)))
    {t_GREATEST_PERIMETER : Tok}
    (e_GREATEST_PERIMETER : PySem.W.nsIn K mainGlobals "GREATEST_PERIMETER" = some (some (.int 200 t_GREATEST_PERIMETER)))
    {t_GREATEST_SIDE : Tok}
    (e_GREATEST_SIDE : PySem.W.nsIn K mainGlobals "GREATEST_SIDE" = some (some (.int 100 t_GREATEST_SIDE)))
    {t_GREATEST_LENGTH : Tok}
    (e_GREATEST_LENGTH : PySem.W.nsIn K mainGlobals "GREATEST_LENGTH" = some (some (.int 1000 t_GREATEST_LENGTH)))
    {t_MOST_STICKS : Tok}
    (e_MOST_STICKS : PySem.W.nsIn K mainGlobals "MOST_STICKS" = some (some (.int 16 t_MOST_STICKS)))
    {t_GREATEST_WITHOUT : Tok}
    (e_GREATEST_WITHOUT : PySem.W.nsIn K mainGlobals "GREATEST_WITHOUT" = some (some (.int 1000000 t_GREATEST_WITHOUT)))
    {t_OUT_OF_BOUNDS : Tok}
    (e_OUT_OF_BOUNDS : PySem.W.nsIn K mainGlobals "OUT_OF_BOUNDS" = some (some (.int (-1) t_OUT_OF_BOUNDS)))
    {t_NOT_A_TRIANGLE : Tok}
    (e_NOT_A_TRIANGLE : PySem.W.nsIn K mainGlobals "NOT_A_TRIANGLE" = some (some (.int (-2) t_NOT_A_TRIANGLE)))
    {t_NOT_THERE : Tok}
    (e_NOT_THERE : PySem.W.nsIn K mainGlobals "NOT_THERE" = some (some (.int (-3) t_NOT_THERE)))
    {t_HEAP_IS_FULL : Tok}
    (e_HEAP_IS_FULL : PySem.W.nsIn K mainGlobals "HEAP_IS_FULL" = some (some (.int (-5) t_HEAP_IS_FULL)))
    {t_NO_TRIANGLE : Tok}
    (e_NO_TRIANGLE : PySem.W.nsIn K mainGlobals "NO_TRIANGLE" = some (some (.int (-6) t_NO_TRIANGLE)))
    {t_ABOUT : Tok}
    (e_ABOUT : PySem.W.nsIn K mainGlobals "ABOUT" = some (some (.int 0 t_ABOUT)))
    {t_SHOWS : Tok}
    (e_SHOWS : PySem.W.nsIn K mainGlobals "SHOWS" = some (some (.int 1 t_SHOWS)))
    {t_ONE : Tok}
    (e_ONE : PySem.W.nsIn K mainGlobals "ONE" = some (some (.int 2 t_ONE)))
    {t_PLACE : Tok}
    (e_PLACE : PySem.W.nsIn K mainGlobals "PLACE" = some (some (.int 3 t_PLACE)))
    {t_KINDS : Tok}
    (e_KINDS : PySem.W.nsIn K mainGlobals "KINDS" = some (some (.int 4 t_KINDS)))
    {t_LONGEST : Tok}
    (e_LONGEST : PySem.W.nsIn K mainGlobals "LONGEST" = some (some (.int 5 t_LONGEST)))
    {t_AREA : Tok}
    (e_AREA : PySem.W.nsIn K mainGlobals "AREA" = some (some (.int 6 t_AREA)))
    {t_GREATEST : Tok}
    (e_GREATEST : PySem.W.nsIn K mainGlobals "GREATEST" = some (some (.int 7 t_GREATEST)))
    {t_LEAST : Tok}
    (e_LEAST : PySem.W.nsIn K mainGlobals "LEAST" = some (some (.int 8 t_LEAST)))
    {t_HEAP : Tok}
    (e_HEAP : PySem.W.nsIn K mainGlobals "HEAP" = some (some (.int 9 t_HEAP)))
    {t_PUT : Tok}
    (e_PUT : PySem.W.nsIn K mainGlobals "PUT" = some (some (.int 10 t_PUT)))
    {t_THREES : Tok}
    (e_THREES : PySem.W.nsIn K mainGlobals "THREES" = some (some (.int 11 t_THREES)))
    {t_MOST : Tok}
    (e_MOST : PySem.W.nsIn K mainGlobals "MOST" = some (some (.int 12 t_MOST)))
    {t_SPARE : Tok}
    (e_SPARE : PySem.W.nsIn K mainGlobals "SPARE" = some (some (.int 13 t_SPARE)))
    {p_NUMBERS_BEHIND : Addr} {o_NUMBERS_BEHIND : Obj} {its_NUMBERS_BEHIND : Array Value} {m_NUMBERS_BEHIND : Nat}
    (e_NUMBERS_BEHIND : PySem.W.nsIn K mainGlobals "NUMBERS_BEHIND" = some (some (.ref p_NUMBERS_BEHIND)))
    (lk_NUMBERS_BEHIND : K.lookup p_NUMBERS_BEHIND = some o_NUMBERS_BEHIND)
    (tc_NUMBERS_BEHIND : o_NUMBERS_BEHIND.cls = .type "tuple")
    (td_NUMBERS_BEHIND : o_NUMBERS_BEHIND.data = .seq its_NUMBERS_BEHIND m_NUMBERS_BEHIND)
    {t0_NUMBERS_BEHIND t1_NUMBERS_BEHIND t2_NUMBERS_BEHIND t3_NUMBERS_BEHIND t4_NUMBERS_BEHIND t5_NUMBERS_BEHIND t6_NUMBERS_BEHIND t7_NUMBERS_BEHIND t8_NUMBERS_BEHIND t9_NUMBERS_BEHIND t10_NUMBERS_BEHIND t11_NUMBERS_BEHIND t12_NUMBERS_BEHIND t13_NUMBERS_BEHIND t14_NUMBERS_BEHIND : Tok}
    (ti_NUMBERS_BEHIND : its_NUMBERS_BEHIND = #[.int 1 t0_NUMBERS_BEHIND, .int 0 t1_NUMBERS_BEHIND, .int 1 t2_NUMBERS_BEHIND, .int 3 t3_NUMBERS_BEHIND, .int 0 t4_NUMBERS_BEHIND, .int 1 t5_NUMBERS_BEHIND, .int 3 t6_NUMBERS_BEHIND, .int 0 t7_NUMBERS_BEHIND, .int 0 t8_NUMBERS_BEHIND, .int 1 t9_NUMBERS_BEHIND, .int 1 t10_NUMBERS_BEHIND, .int 0 t11_NUMBERS_BEHIND, .int 0 t12_NUMBERS_BEHIND, .int 0 t13_NUMBERS_BEHIND, .int 1 t14_NUMBERS_BEHIND])
    (z_range : PySem.W.nsIn K mainGlobals "range" = some none)
    (z_len : PySem.W.nsIn K mainGlobals "len" = some none)
    (z_list : PySem.W.nsIn K mainGlobals "list" = some none)
    (z_sorted : PySem.W.nsIn K mainGlobals "sorted" = some none)
    (z_max : PySem.W.nsIn K mainGlobals "max" = some none)
    (z_min : PySem.W.nsIn K mainGlobals "min" = some none)
    (z_sum : PySem.W.nsIn K mainGlobals "sum" = some none)
    (z_all : PySem.W.nsIn K mainGlobals "all" = some none) :
    ∃ fd : FuncData, (∀ (s : Shared) (us : List Value), us.length = (["calls"] : List Str).length → BindsTo s fd ⟨us, []⟩ ((["calls"] : List Str).zip us)) ∧ ∀ base : Heap, K.In base → base.Ns mainGlobals mg → FnOk P w K mg base CX0 8 fa fd ["calls"] (spAnswers K) := by
  have e := hfa.symm.trans (PySem.W.mg_of X G a_answers)
  cases e
  have F_is_triangle := fun_mk (st := s_is_triangle) l_is_triangle c_is_triangle k_is_triangle
  have b_is_triangle := F_is_triangle.binds (ps := ["a", "b", "c"]) fun _ _ _ _ _ _ us hl => match us, hl with | [_, _, _], _ => rfl
  have F_of_perimeter := fun_mk (st := s_of_perimeter) l_of_perimeter c_of_perimeter k_of_perimeter
  have b_of_perimeter := F_of_perimeter.binds (ps := ["p"]) fun _ _ _ _ _ _ us hl => match us, hl with | [_], _ => rfl
  have F_of_longest := fun_mk (st := s_of_longest) l_of_longest c_of_longest k_of_longest
  have b_of_longest := F_of_longest.binds (ps := ["c"]) fun _ _ _ _ _ _ us hl => match us, hl with | [_], _ => rfl
  have F_count_by_sides := fun_mk (st := s_count_by_sides) l_count_by_sides c_count_by_sides k_count_by_sides
  have b_count_by_sides := F_count_by_sides.binds (ps := ["triangles"]) fun _ _ _ _ _ _ us hl => match us, hl with | [_], _ => rfl
  have F_count_by_angle := fun_mk (st := s_count_by_angle) l_count_by_angle c_count_by_angle k_count_by_angle
  have b_count_by_angle := F_count_by_angle.binds (ps := ["triangles"]) fun _ _ _ _ _ _ us hl => match us, hl with | [_], _ => rfl
  have F_sixteen_squares := fun_mk (st := s_sixteen_squares) l_sixteen_squares c_sixteen_squares k_sixteen_squares
  have b_sixteen_squares := F_sixteen_squares.binds (ps := ["a", "b", "c"]) fun _ _ _ _ _ _ us hl => match us, hl with | [_, _, _], _ => rfl
  have F_squares_of := fun_mk (st := s_squares_of) l_squares_of c_squares_of k_squares_of
  have b_squares_of := F_squares_of.binds (ps := ["triangle"]) fun _ _ _ _ _ _ us hl => match us, hl with | [_], _ => rfl
  have F_greatest_area := fun_mk (st := s_greatest_area) l_greatest_area c_greatest_area k_greatest_area
  have b_greatest_area := F_greatest_area.binds (ps := ["triangles"]) fun _ _ _ _ _ _ us hl => match us, hl with | [_], _ => rfl
  have F_least_area := fun_mk (st := s_least_area) l_least_area c_least_area k_least_area
  have b_least_area := F_least_area.binds (ps := ["triangles"]) fun _ _ _ _ _ _ us hl => match us, hl with | [_], _ => rfl
  have F_greatest_perimeter := fun_mk (st := s_greatest_perimeter) l_greatest_perimeter c_greatest_perimeter k_greatest_perimeter
  have b_greatest_perimeter := F_greatest_perimeter.binds (ps := ["triangles"]) fun _ _ _ _ _ _ us hl => match us, hl with | [_], _ => rfl
  have F_of_sticks := fun_mk (st := s_of_sticks) l_of_sticks c_of_sticks k_of_sticks
  have b_of_sticks := F_of_sticks.binds (ps := ["sticks"]) fun _ _ _ _ _ _ us hl => match us, hl with | [_], _ => rfl
  have F_most_left := fun_mk (st := s_most_left) l_most_left c_most_left k_most_left
  have b_most_left := F_most_left.binds (ps := ["sticks"]) fun _ _ _ _ _ _ us hl => match us, hl with | [_], _ => rfl
  have F_lengths_without := fun_mk (st := s_lengths_without) l_lengths_without c_lengths_without k_lengths_without
  have b_lengths_without := F_lengths_without.binds (ps := ["n"]) fun _ _ _ _ _ _ us hl => match us, hl with | [_], _ => rfl
  have F_Line___init__ := fun_mk (st := s_Line___init__) l_Line___init__ c_Line___init__ k_Line___init__
  have b_Line___init__ := F_Line___init__.binds (ps := ["self"]) fun _ _ _ _ _ _ us hl => match us, hl with | [_], _ => rfl
  have F_Line_about := fun_mk (st := s_Line_about) l_Line_about c_Line_about k_Line_about
  have b_Line_about := F_Line_about.binds (ps := ["self", "p"]) fun _ _ _ _ _ _ us hl => match us, hl with | [_, _], _ => rfl
  have F_Line_shows := fun_mk (st := s_Line_shows) l_Line_shows c_Line_shows k_Line_shows
  have b_Line_shows := F_Line_shows.binds (ps := ["self"]) fun _ _ _ _ _ _ us hl => match us, hl with | [_], _ => rfl
  have F_Line_one := fun_mk (st := s_Line_one) l_Line_one c_Line_one k_Line_one
  have b_Line_one := F_Line_one.binds (ps := ["self", "i"]) fun _ _ _ _ _ _ us hl => match us, hl with | [_, _], _ => rfl
  have F_Line_kinds := fun_mk (st := s_Line_kinds) l_Line_kinds c_Line_kinds k_Line_kinds
  have b_Line_kinds := F_Line_kinds.binds (ps := ["self"]) fun _ _ _ _ _ _ us hl => match us, hl with | [_], _ => rfl
  have F_Line_greatest := fun_mk (st := s_Line_greatest) l_Line_greatest c_Line_greatest k_Line_greatest
  have b_Line_greatest := F_Line_greatest.binds (ps := ["self"]) fun _ _ _ _ _ _ us hl => match us, hl with | [_], _ => rfl
  have F_Line_least := fun_mk (st := s_Line_least) l_Line_least c_Line_least k_Line_least
  have b_Line_least := F_Line_least.binds (ps := ["self"]) fun _ _ _ _ _ _ us hl => match us, hl with | [_], _ => rfl
  have F_Line_heap := fun_mk (st := s_Line_heap) l_Line_heap c_Line_heap k_Line_heap
  have b_Line_heap := F_Line_heap.binds (ps := ["self", "lengths"]) fun _ _ _ _ _ _ us hl => match us, hl with | [_, _], _ => rfl
  have F_Line_put := fun_mk (st := s_Line_put) l_Line_put c_Line_put k_Line_put
  have b_Line_put := F_Line_put.binds (ps := ["self", "length"]) fun _ _ _ _ _ _ us hl => match us, hl with | [_, _], _ => rfl
  have F_Line_threes := fun_mk (st := s_Line_threes) l_Line_threes c_Line_threes k_Line_threes
  have b_Line_threes := F_Line_threes.binds (ps := ["self"]) fun _ _ _ _ _ _ us hl => match us, hl with | [_], _ => rfl
  have F_Line_most := fun_mk (st := s_Line_most) l_Line_most c_Line_most k_Line_most
  have b_Line_most := F_Line_most.binds (ps := ["self"]) fun _ _ _ _ _ _ us hl => match us, hl with | [_], _ => rfl
  have F_Line_spare := fun_mk (st := s_Line_spare) l_Line_spare c_Line_spare k_Line_spare
  have b_Line_spare := F_Line_spare.binds (ps := ["self"]) fun _ _ _ _ _ _ us hl => match us, hl with | [_], _ => rfl
  have F_sides_or_refusal := fun_mk (st := s_sides_or_refusal) l_sides_or_refusal c_sides_or_refusal k_sides_or_refusal
  have b_sides_or_refusal := F_sides_or_refusal.binds (ps := ["sides"]) fun _ _ _ _ _ _ us hl => match us, hl with | [_], _ => rfl
  have F_is_side := fun_mk (st := s_is_side) l_is_side c_is_side k_is_side
  have b_is_side := F_is_side.binds (ps := ["length"]) fun _ _ _ _ _ _ us hl => match us, hl with | [_], _ => rfl
  have F_is_length := fun_mk (st := s_is_length) l_is_length c_is_length k_is_length
  have b_is_length := F_is_length.binds (ps := ["length"]) fun _ _ _ _ _ _ us hl => match us, hl with | [_], _ => rfl
  have F_refused_sides := fun_mk (st := s_refused_sides) l_refused_sides c_refused_sides k_refused_sides
  have b_refused_sides := F_refused_sides.binds (ps := ["a", "b", "c"]) fun _ _ _ _ _ _ us hl => match us, hl with | [_, _, _], _ => rfl
  have F_place := fun_mk (st := s_place) l_place c_place k_place
  have b_place := F_place.binds (ps := ["a", "b", "c"]) fun _ _ _ _ _ _ us hl => match us, hl with | [_, _, _], _ => rfl
  have F_longest := fun_mk (st := s_longest) l_longest c_longest k_longest
  have b_longest := F_longest.binds (ps := ["c"]) fun _ _ _ _ _ _ us hl => match us, hl with | [_], _ => rfl
  have F_area := fun_mk (st := s_area) l_area c_area k_area
  have b_area := F_area.binds (ps := ["a", "b", "c"]) fun _ _ _ _ _ _ us hl => match us, hl with | [_, _, _], _ => rfl
  have F_without := fun_mk (st := s_without) l_without c_without k_without
  have b_without := F_without.binds (ps := ["n"]) fun _ _ _ _ _ _ us hl => match us, hl with | [_], _ => rfl
  have F_answer_of_triangles := fun_mk (st := s_answer_of_triangles) l_answer_of_triangles c_answer_of_triangles k_answer_of_triangles
  have b_answer_of_triangles := F_answer_of_triangles.binds (ps := ["line", "call", "given"]) fun _ _ _ _ _ _ us hl => match us, hl with | [_, _, _], _ => rfl
  have F_answer_of_sticks := fun_mk (st := s_answer_of_sticks) l_answer_of_sticks c_answer_of_sticks k_answer_of_sticks
  have b_answer_of_sticks := F_answer_of_sticks.binds (ps := ["line", "call", "given"]) fun _ _ _ _ _ _ us hl => match us, hl with | [_, _, _], _ => rfl
  have F_answer := fun_mk (st := s_answer) l_answer c_answer k_answer
  have b_answer := F_answer.binds (ps := ["line", "call", "given"]) fun _ _ _ _ _ _ us hl => match us, hl with | [_, _, _], _ => rfl
  have F_end_of_call := fun_mk (st := s_end_of_call) l_end_of_call c_end_of_call k_end_of_call
  have b_end_of_call := F_end_of_call.binds (ps := ["calls", "start"]) fun _ _ _ _ _ _ us hl => match us, hl with | [_, _], _ => rfl
  have F_answers := fun_mk (st := s_answers) l_answers c_answers k_answers
  have b_answers := F_answers.binds (ps := ["calls"]) fun _ _ _ _ _ _ us hl => match us, hl with | [_], _ => rfl
  have T : Txt mg := ⟨PySem.W.mg_none_of X G z_range, PySem.W.mg_none_of X G z_len, PySem.W.mg_none_of X G z_list, PySem.W.mg_none_of X G z_sorted, PySem.W.mg_none_of X G z_max, PySem.W.mg_none_of X G z_min, PySem.W.mg_none_of X G z_sum, PySem.W.mg_none_of X G z_all, ⟨_, PySem.W.mg_of X G e_FIRST_PERIMETER⟩, ⟨_, PySem.W.mg_of X G e_GREATEST_PERIMETER⟩, ⟨_, PySem.W.mg_of X G e_GREATEST_SIDE⟩, ⟨_, PySem.W.mg_of X G e_GREATEST_LENGTH⟩, ⟨_, PySem.W.mg_of X G e_MOST_STICKS⟩, ⟨_, PySem.W.mg_of X G e_GREATEST_WITHOUT⟩, ⟨_, PySem.W.mg_of X G e_OUT_OF_BOUNDS⟩, ⟨_, PySem.W.mg_of X G e_NOT_A_TRIANGLE⟩, ⟨_, PySem.W.mg_of X G e_NOT_THERE⟩, ⟨_, PySem.W.mg_of X G e_HEAP_IS_FULL⟩, ⟨_, PySem.W.mg_of X G e_NO_TRIANGLE⟩, ⟨_, PySem.W.mg_of X G e_ABOUT⟩, ⟨_, PySem.W.mg_of X G e_SHOWS⟩, ⟨_, PySem.W.mg_of X G e_ONE⟩, ⟨_, PySem.W.mg_of X G e_PLACE⟩, ⟨_, PySem.W.mg_of X G e_KINDS⟩, ⟨_, PySem.W.mg_of X G e_LONGEST⟩, ⟨_, PySem.W.mg_of X G e_AREA⟩, ⟨_, PySem.W.mg_of X G e_GREATEST⟩, ⟨_, PySem.W.mg_of X G e_LEAST⟩, ⟨_, PySem.W.mg_of X G e_HEAP⟩, ⟨_, PySem.W.mg_of X G e_PUT⟩, ⟨_, PySem.W.mg_of X G e_THREES⟩, ⟨_, PySem.W.mg_of X G e_MOST⟩, ⟨_, PySem.W.mg_of X G e_SPARE⟩⟩
  have TC : TxC K C_Line := ⟨⟨pg_Line, hd_Line, po_Line, sa_Line⟩, n_Line_perimeter, n_Line_sticks⟩
  have nb : NbAt K mg := ⟨_, PySem.W.mg_of X G e_NUMBERS_BEHIND, fun H => .inr ⟨_, _, _, lk_NUMBERS_BEHIND, tc_NUMBERS_BEHIND, td_NUMBERS_BEHIND, by rw [ti_NUMBERS_BEHIND]; show 15 ≤ sizeLine; decide, by rw [ti_NUMBERS_BEHIND]; exact .cons ⟨_, rfl⟩ (.cons ⟨_, rfl⟩ (.cons ⟨_, rfl⟩ (.cons ⟨_, rfl⟩ (.cons ⟨_, rfl⟩ (.cons ⟨_, rfl⟩ (.cons ⟨_, rfl⟩ (.cons ⟨_, rfl⟩ (.cons ⟨_, rfl⟩ (.cons ⟨_, rfl⟩ (.cons ⟨_, rfl⟩ (.cons ⟨_, rfl⟩ (.cons ⟨_, rfl⟩ (.cons ⟨_, rfl⟩ (.cons ⟨_, rfl⟩ (.nil)))))))))))))))⟩⟩
  refine pack F_answers (fun s us hu => match us, hu with | [_], _ => .of_eq rfl) fun base => ?_
  have c_is_triangle := Callee.of (P := P) (w := w) (base := base) F_is_triangle (PySem.W.mg_of X G a_is_triangle) b_is_triangle (ok_is_triangle F_is_triangle)
  have c_of_perimeter := Callee.of (P := P) (w := w) (base := base) F_of_perimeter (PySem.W.mg_of X G a_of_perimeter) b_of_perimeter (ok_of_perimeter F_of_perimeter T c_is_triangle)
  have c_of_longest := Callee.of (P := P) (w := w) (base := base) F_of_longest (PySem.W.mg_of X G a_of_longest) b_of_longest (ok_of_longest F_of_longest T c_is_triangle)
  have c_count_by_sides := Callee.of (P := P) (w := w) (base := base) F_count_by_sides (PySem.W.mg_of X G a_count_by_sides) b_count_by_sides (ok_count_by_sides F_count_by_sides)
  have c_count_by_angle := Callee.of (P := P) (w := w) (base := base) F_count_by_angle (PySem.W.mg_of X G a_count_by_angle) b_count_by_angle (ok_count_by_angle F_count_by_angle)
  have c_sixteen_squares := Callee.of (P := P) (w := w) (base := base) F_sixteen_squares (PySem.W.mg_of X G a_sixteen_squares) b_sixteen_squares (ok_sixteen_squares F_sixteen_squares)
  have c_squares_of := Callee.of (P := P) (w := w) (base := base) F_squares_of (PySem.W.mg_of X G a_squares_of) b_squares_of (ok_squares_of F_squares_of c_sixteen_squares)
  have c_greatest_area := Callee.of (P := P) (w := w) (base := base) F_greatest_area (PySem.W.mg_of X G a_greatest_area) b_greatest_area (ok_greatest_area F_greatest_area T c_squares_of)
  have c_least_area := Callee.of (P := P) (w := w) (base := base) F_least_area (PySem.W.mg_of X G a_least_area) b_least_area (ok_least_area F_least_area T c_squares_of)
  have c_greatest_perimeter := Callee.of (P := P) (w := w) (base := base) F_greatest_perimeter (PySem.W.mg_of X G a_greatest_perimeter) b_greatest_perimeter (ok_greatest_perimeter F_greatest_perimeter T)
  have c_of_sticks := Callee.of (P := P) (w := w) (base := base) F_of_sticks (PySem.W.mg_of X G a_of_sticks) b_of_sticks (ok_of_sticks F_of_sticks T c_is_triangle)
  have c_most_left := Callee.of (P := P) (w := w) (base := base) F_most_left (PySem.W.mg_of X G a_most_left) b_most_left (ok_most_left F_most_left T c_is_triangle)
  have c_lengths_without := Callee.of (P := P) (w := w) (base := base) F_lengths_without (PySem.W.mg_of X G a_lengths_without) b_lengths_without (ok_lengths_without F_lengths_without T)
  have c_sides_or_refusal := Callee.of (P := P) (w := w) (base := base) F_sides_or_refusal (PySem.W.mg_of X G a_sides_or_refusal) b_sides_or_refusal (ok_sides_or_refusal F_sides_or_refusal T)
  have c_is_side := Callee.of (P := P) (w := w) (base := base) F_is_side (PySem.W.mg_of X G a_is_side) b_is_side (ok_is_side F_is_side T)
  have c_is_length := Callee.of (P := P) (w := w) (base := base) F_is_length (PySem.W.mg_of X G a_is_length) b_is_length (ok_is_length F_is_length T)
  have c_refused_sides := Callee.of (P := P) (w := w) (base := base) F_refused_sides (PySem.W.mg_of X G a_refused_sides) b_refused_sides (ok_refused_sides F_refused_sides T c_is_side c_is_triangle)
  have c_place := Callee.of (P := P) (w := w) (base := base) F_place (PySem.W.mg_of X G a_place) b_place (ok_place F_place T c_refused_sides c_of_perimeter)
  have c_longest := Callee.of (P := P) (w := w) (base := base) F_longest (PySem.W.mg_of X G a_longest) b_longest (ok_longest F_longest T c_is_side c_of_longest c_count_by_angle)
  have c_area := Callee.of (P := P) (w := w) (base := base) F_area (PySem.W.mg_of X G a_area) b_area (ok_area F_area T c_refused_sides c_sixteen_squares)
  have c_without := Callee.of (P := P) (w := w) (base := base) F_without (PySem.W.mg_of X G a_without) b_without (ok_without F_without T c_lengths_without)
  have c_Line_about : Method P w K mg base C_Line "about" _ _ _ := ⟨TC.cl, _, _, ⟨a_Line_about, i_Line_about, k_Line_about⟩, b_Line_about, ok_about F_Line_about T TC c_of_perimeter⟩
  have c_Line_shows : Method P w K mg base C_Line "shows" _ _ _ := ⟨TC.cl, _, _, ⟨a_Line_shows, i_Line_shows, k_Line_shows⟩, b_Line_shows, ok_shows F_Line_shows T TC⟩
  have c_Line_one : Method P w K mg base C_Line "one" _ _ _ := ⟨TC.cl, _, _, ⟨a_Line_one, i_Line_one, k_Line_one⟩, b_Line_one, ok_one F_Line_one T TC c_of_perimeter⟩
  have c_Line_kinds : Method P w K mg base C_Line "kinds" _ _ _ := ⟨TC.cl, _, _, ⟨a_Line_kinds, i_Line_kinds, k_Line_kinds⟩, b_Line_kinds, ok_kinds F_Line_kinds T TC c_of_perimeter c_count_by_sides c_count_by_angle⟩
  have c_Line_greatest : Method P w K mg base C_Line "greatest" _ _ _ := ⟨TC.cl, _, _, ⟨a_Line_greatest, i_Line_greatest, k_Line_greatest⟩, b_Line_greatest, ok_greatest F_Line_greatest T TC c_of_perimeter c_greatest_area c_sides_or_refusal⟩
  have c_Line_least : Method P w K mg base C_Line "least" _ _ _ := ⟨TC.cl, _, _, ⟨a_Line_least, i_Line_least, k_Line_least⟩, b_Line_least, ok_least F_Line_least T TC c_of_perimeter c_least_area c_sides_or_refusal⟩
  have c_Line_heap : Method P w K mg base C_Line "heap" _ _ _ := ⟨TC.cl, _, _, ⟨a_Line_heap, i_Line_heap, k_Line_heap⟩, b_Line_heap, ok_heap F_Line_heap T TC c_is_length⟩
  have c_Line_put : Method P w K mg base C_Line "put" _ _ _ := ⟨TC.cl, _, _, ⟨a_Line_put, i_Line_put, k_Line_put⟩, b_Line_put, ok_put F_Line_put T TC c_is_length⟩
  have c_Line_threes : Method P w K mg base C_Line "threes" _ _ _ := ⟨TC.cl, _, _, ⟨a_Line_threes, i_Line_threes, k_Line_threes⟩, b_Line_threes, ok_threes F_Line_threes T TC c_of_sticks c_count_by_sides⟩
  have c_Line_most : Method P w K mg base C_Line "most" _ _ _ := ⟨TC.cl, _, _, ⟨a_Line_most, i_Line_most, k_Line_most⟩, b_Line_most, ok_most F_Line_most T TC c_of_sticks c_greatest_perimeter c_sides_or_refusal⟩
  have c_Line_spare : Method P w K mg base C_Line "spare" _ _ _ := ⟨TC.cl, _, _, ⟨a_Line_spare, i_Line_spare, k_Line_spare⟩, b_Line_spare, ok_spare F_Line_spare T TC c_most_left⟩
  have c_Line : Maker P w K mg base "Line" C_Line _ _ _ := ⟨_, _, ⟨mk_Line, a_Line___init__, i_Line___init__, kc_Line⟩, PySem.W.mg_of X G aC_Line, b_Line___init__, ok_init F_Line___init__ T TC⟩
  have c_answer_of_triangles := Callee.of (P := P) (w := w) (base := base) F_answer_of_triangles (PySem.W.mg_of X G a_answer_of_triangles) b_answer_of_triangles (ok_answer_of_triangles F_answer_of_triangles T c_Line_about c_Line_shows c_Line_one c_place c_Line_kinds c_longest c_area c_Line_greatest c_Line_least)
  have c_answer_of_sticks := Callee.of (P := P) (w := w) (base := base) F_answer_of_sticks (PySem.W.mg_of X G a_answer_of_sticks) b_answer_of_sticks (ok_answer_of_sticks F_answer_of_sticks T c_Line_heap c_Line_put c_Line_threes c_Line_most c_Line_spare c_without)
  have c_answer := Callee.of (P := P) (w := w) (base := base) F_answer (PySem.W.mg_of X G a_answer) b_answer (ok_answer F_answer T c_answer_of_triangles c_answer_of_sticks)
  have c_end_of_call := Callee.of (P := P) (w := w) (base := base) F_end_of_call (PySem.W.mg_of X G a_end_of_call) b_end_of_call (ok_end_of_call F_end_of_call T nb)
  exact ok_answers F_answers T TC c_Line c_end_of_call c_answer
end Tri
set_option Elab.async false
set_option linter.all false
set_option maxRecDepth 100000
open PySem PySem.W PyProof.Rows
set_option maxRecDepth 100000 in
set_option maxHeartbeats 0 in
theorem PySem.Challenge.cw_threesticks_s01_answers_holds : PySem.Challenge.rw_threesticks_s01_answers.Holds := by
  w_on; k_headS; (case hw => exact ⟨[.list [.int 1]], by decide +kernel, by decide +kernel⟩)
  k_fillS
  refine L2.walk_specK (r := PySem.Challenge.rw_threesticks_s01_answers) (k := 8) (CX := L2.CX0) (ps := ["calls"]) (sp := Tri.spAnswers) (by decide +kernel) rfl rfl ⟨rfl, by decide, by decide⟩ (fun w h Y => PySem.W.kIn_of Y) ?F ?S (fun _ _ _ _ z => z)
  case F =>
    intro w mg fa h Y KX G hmg
    refine' Tri.all_mk KX G hmg ?aC_Line ?a_is_triangle ?l_is_triangle ?c_is_triangle ?k_is_triangle ?a_of_perimeter ?l_of_perimeter ?c_of_perimeter ?k_of_perimeter ?a_of_longest ?l_of_longest ?c_of_longest ?k_of_longest ?a_count_by_sides ?l_count_by_sides ?c_count_by_sides ?k_count_by_sides ?a_count_by_angle ?l_count_by_angle ?c_count_by_angle ?k_count_by_angle ?a_sixteen_squares ?l_sixteen_squares ?c_sixteen_squares ?k_sixteen_squares ?a_squares_of ?l_squares_of ?c_squares_of ?k_squares_of ?a_greatest_area ?l_greatest_area ?c_greatest_area ?k_greatest_area ?a_least_area ?l_least_area ?c_least_area ?k_least_area ?a_greatest_perimeter ?l_greatest_perimeter ?c_greatest_perimeter ?k_greatest_perimeter ?a_of_sticks ?l_of_sticks ?c_of_sticks ?k_of_sticks ?a_most_left ?l_most_left ?c_most_left ?k_most_left ?a_lengths_without ?l_lengths_without ?c_lengths_without ?k_lengths_without ?a_Line___init__ ?i_Line___init__ ?l_Line___init__ ?c_Line___init__ ?k_Line___init__ ?a_Line_about ?i_Line_about ?l_Line_about ?c_Line_about ?k_Line_about ?a_Line_shows ?i_Line_shows ?l_Line_shows ?c_Line_shows ?k_Line_shows ?a_Line_one ?i_Line_one ?l_Line_one ?c_Line_one ?k_Line_one ?a_Line_kinds ?i_Line_kinds ?l_Line_kinds ?c_Line_kinds ?k_Line_kinds ?a_Line_greatest ?i_Line_greatest ?l_Line_greatest ?c_Line_greatest ?k_Line_greatest ?a_Line_least ?i_Line_least ?l_Line_least ?c_Line_least ?k_Line_least ?a_Line_heap ?i_Line_heap ?l_Line_heap ?c_Line_heap ?k_Line_heap ?a_Line_put ?i_Line_put ?l_Line_put ?c_Line_put ?k_Line_put ?a_Line_threes ?i_Line_threes ?l_Line_threes ?c_Line_threes ?k_Line_threes ?a_Line_most ?i_Line_most ?l_Line_most ?c_Line_most ?k_Line_most ?a_Line_spare ?i_Line_spare ?l_Line_spare ?c_Line_spare ?k_Line_spare ?a_sides_or_refusal ?l_sides_or_refusal ?c_sides_or_refusal ?k_sides_or_refusal ?a_is_side ?l_is_side ?c_is_side ?k_is_side ?a_is_length ?l_is_length ?c_is_length ?k_is_length ?a_refused_sides ?l_refused_sides ?c_refused_sides ?k_refused_sides ?a_place ?l_place ?c_place ?k_place ?a_longest ?l_longest ?c_longest ?k_longest ?a_area ?l_area ?c_area ?k_area ?a_without ?l_without ?c_without ?k_without ?a_answer_of_triangles ?l_answer_of_triangles ?c_answer_of_triangles ?k_answer_of_triangles ?a_answer_of_sticks ?l_answer_of_sticks ?c_answer_of_sticks ?k_answer_of_sticks ?a_answer ?l_answer ?c_answer ?k_answer ?a_end_of_call ?l_end_of_call ?c_end_of_call ?k_end_of_call ?a_answers ?l_answers ?c_answers ?k_answers ?pg_Line ?hd_Line ?po_Line ?sa_Line ?mk_Line ?kc_Line ?n_Line_sticks ?n_Line_perimeter ?e_FIRST_PERIMETER ?e_GREATEST_PERIMETER ?e_GREATEST_SIDE ?e_GREATEST_LENGTH ?e_MOST_STICKS ?e_GREATEST_WITHOUT ?e_OUT_OF_BOUNDS ?e_NOT_A_TRIANGLE ?e_NOT_THERE ?e_HEAP_IS_FULL ?e_NO_TRIANGLE ?e_ABOUT ?e_SHOWS ?e_ONE ?e_PLACE ?e_KINDS ?e_LONGEST ?e_AREA ?e_GREATEST ?e_LEAST ?e_HEAP ?e_PUT ?e_THREES ?e_MOST ?e_SPARE ?e_NUMBERS_BEHIND ?lk_NUMBERS_BEHIND ?tc_NUMBERS_BEHIND ?td_NUMBERS_BEHIND ?ti_NUMBERS_BEHIND ?z_range ?z_len ?z_list ?z_sorted ?z_max ?z_min ?z_sum ?z_all
    (case aC_Line => k_is)
    (case a_is_triangle => k_is)
    (case l_is_triangle => k_is)
    (case c_is_triangle => k_is)
    (case k_is_triangle => k_is)
    (case a_of_perimeter => k_is)
    (case l_of_perimeter => k_is)
    (case c_of_perimeter => k_is)
    (case k_of_perimeter => k_is)
    (case a_of_longest => k_is)
    (case l_of_longest => k_is)
    (case c_of_longest => k_is)
    (case k_of_longest => k_is)
    (case a_count_by_sides => k_is)
    (case l_count_by_sides => k_is)
    (case c_count_by_sides => k_is)
    (case k_count_by_sides => k_is)
    (case a_count_by_angle => k_is)
    (case l_count_by_angle => k_is)
    (case c_count_by_angle => k_is)
    (case k_count_by_angle => k_is)
    (case a_sixteen_squares => k_is)
    (case l_sixteen_squares => k_is)
    (case c_sixteen_squares => k_is)
    (case k_sixteen_squares => k_is)
    (case a_squares_of => k_is)
    (case l_squares_of => k_is)
    (case c_squares_of => k_is)
    (case k_squares_of => k_is)
    (case a_greatest_area => k_is)
    (case l_greatest_area => k_is)
    (case c_greatest_area => k_is)
    (case k_greatest_area => k_is)
    (case a_least_area => k_is)
    (case l_least_area => k_is)
    (case c_least_area => k_is)
    (case k_least_area => k_is)
    (case a_greatest_perimeter => k_is)
    (case l_greatest_perimeter => k_is)
    (case c_greatest_perimeter => k_is)
    (case k_greatest_perimeter => k_is)
    (case a_of_sticks => k_is)
    (case l_of_sticks => k_is)
    (case c_of_sticks => k_is)
    (case k_of_sticks => k_is)
    (case a_most_left => k_is)
    (case l_most_left => k_is)
    (case c_most_left => k_is)
    (case k_most_left => k_is)
    (case a_lengths_without => k_is)
    (case l_lengths_without => k_is)
    (case c_lengths_without => k_is)
    (case k_lengths_without => k_is)
    (case a_Line___init__ => k_is)
    (case i_Line___init__ => k_is)
    (case l_Line___init__ => k_is)
    (case c_Line___init__ => k_is)
    (case k_Line___init__ => k_is)
    (case a_Line_about => k_is)
    (case i_Line_about => k_is)
    (case l_Line_about => k_is)
    (case c_Line_about => k_is)
    (case k_Line_about => k_is)
    (case a_Line_shows => k_is)
    (case i_Line_shows => k_is)
    (case l_Line_shows => k_is)
    (case c_Line_shows => k_is)
    (case k_Line_shows => k_is)
    (case a_Line_one => k_is)
    (case i_Line_one => k_is)
    (case l_Line_one => k_is)
    (case c_Line_one => k_is)
    (case k_Line_one => k_is)
    (case a_Line_kinds => k_is)
    (case i_Line_kinds => k_is)
    (case l_Line_kinds => k_is)
    (case c_Line_kinds => k_is)
    (case k_Line_kinds => k_is)
    (case a_Line_greatest => k_is)
    (case i_Line_greatest => k_is)
    (case l_Line_greatest => k_is)
    (case c_Line_greatest => k_is)
    (case k_Line_greatest => k_is)
    (case a_Line_least => k_is)
    (case i_Line_least => k_is)
    (case l_Line_least => k_is)
    (case c_Line_least => k_is)
    (case k_Line_least => k_is)
    (case a_Line_heap => k_is)
    (case i_Line_heap => k_is)
    (case l_Line_heap => k_is)
    (case c_Line_heap => k_is)
    (case k_Line_heap => k_is)
    (case a_Line_put => k_is)
    (case i_Line_put => k_is)
    (case l_Line_put => k_is)
    (case c_Line_put => k_is)
    (case k_Line_put => k_is)
    (case a_Line_threes => k_is)
    (case i_Line_threes => k_is)
    (case l_Line_threes => k_is)
    (case c_Line_threes => k_is)
    (case k_Line_threes => k_is)
    (case a_Line_most => k_is)
    (case i_Line_most => k_is)
    (case l_Line_most => k_is)
    (case c_Line_most => k_is)
    (case k_Line_most => k_is)
    (case a_Line_spare => k_is)
    (case i_Line_spare => k_is)
    (case l_Line_spare => k_is)
    (case c_Line_spare => k_is)
    (case k_Line_spare => k_is)
    (case a_sides_or_refusal => k_is)
    (case l_sides_or_refusal => k_is)
    (case c_sides_or_refusal => k_is)
    (case k_sides_or_refusal => k_is)
    (case a_is_side => k_is)
    (case l_is_side => k_is)
    (case c_is_side => k_is)
    (case k_is_side => k_is)
    (case a_is_length => k_is)
    (case l_is_length => k_is)
    (case c_is_length => k_is)
    (case k_is_length => k_is)
    (case a_refused_sides => k_is)
    (case l_refused_sides => k_is)
    (case c_refused_sides => k_is)
    (case k_refused_sides => k_is)
    (case a_place => k_is)
    (case l_place => k_is)
    (case c_place => k_is)
    (case k_place => k_is)
    (case a_longest => k_is)
    (case l_longest => k_is)
    (case c_longest => k_is)
    (case k_longest => k_is)
    (case a_area => k_is)
    (case l_area => k_is)
    (case c_area => k_is)
    (case k_area => k_is)
    (case a_without => k_is)
    (case l_without => k_is)
    (case c_without => k_is)
    (case k_without => k_is)
    (case a_answer_of_triangles => k_is)
    (case l_answer_of_triangles => k_is)
    (case c_answer_of_triangles => k_is)
    (case k_answer_of_triangles => k_is)
    (case a_answer_of_sticks => k_is)
    (case l_answer_of_sticks => k_is)
    (case c_answer_of_sticks => k_is)
    (case k_answer_of_sticks => k_is)
    (case a_answer => k_is)
    (case l_answer => k_is)
    (case c_answer => k_is)
    (case k_answer => k_is)
    (case a_end_of_call => k_is)
    (case l_end_of_call => k_is)
    (case c_end_of_call => k_is)
    (case k_end_of_call => k_is)
    (case a_answers => k_is)
    (case l_answers => k_is)
    (case c_answers => k_is)
    (case k_answers => k_is)
    (case pg_Line => k_is)
    (case hd_Line => k_is)
    (case po_Line => k_is)
    (case sa_Line => k_is)
    (case mk_Line => k_is)
    (case kc_Line => k_is)
    (case n_Line_sticks => k_is)
    (case n_Line_perimeter => k_is)
    (case e_FIRST_PERIMETER => k_is)
    (case e_GREATEST_PERIMETER => k_is)
    (case e_GREATEST_SIDE => k_is)
    (case e_GREATEST_LENGTH => k_is)
    (case e_MOST_STICKS => k_is)
    (case e_GREATEST_WITHOUT => k_is)
    (case e_OUT_OF_BOUNDS => k_is)
    (case e_NOT_A_TRIANGLE => k_is)
    (case e_NOT_THERE => k_is)
    (case e_HEAP_IS_FULL => k_is)
    (case e_NO_TRIANGLE => k_is)
    (case e_ABOUT => k_is)
    (case e_SHOWS => k_is)
    (case e_ONE => k_is)
    (case e_PLACE => k_is)
    (case e_KINDS => k_is)
    (case e_LONGEST => k_is)
    (case e_AREA => k_is)
    (case e_GREATEST => k_is)
    (case e_LEAST => k_is)
    (case e_HEAP => k_is)
    (case e_PUT => k_is)
    (case e_THREES => k_is)
    (case e_MOST => k_is)
    (case e_SPARE => k_is)
    (case e_NUMBERS_BEHIND => k_is)
    (case lk_NUMBERS_BEHIND => k_is)
    (case tc_NUMBERS_BEHIND => rfl)
    (case td_NUMBERS_BEHIND => rfl)
    (case ti_NUMBERS_BEHIND => rfl)
    (case z_range => k_is)
    (case z_len => k_is)
    (case z_list => k_is)
    (case z_sorted => k_is)
    (case z_max => k_is)
    (case z_min => k_is)
    (case z_sum => k_is)
    (case z_all => k_is)
  case S =>
    intro K H xs a hO hwi hask hx
    cases hx with
    | cons h1 h2 =>
      cases h2
      cases h1 with
      | lst hs ha =>
        have e := L2.ints_dw a.1 _ ha
        subst e
        exact ⟨_, a.1, rfl, hs, hask, fun H' p hp => .lst (L2.SqL.of hp) (L2.dw_ints _)⟩

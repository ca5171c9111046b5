import PyProof.Rows.All
import Wide.All
import OpenK.AllK
import Wide.FinOn
import PyProof.EqAt
import PyProof.EqKinds
import PyProof.TupleCall
import KE.BitLaws
import KE.OsHead
import KE.SpHead
import KE.OsShapes
import Open.Spec
import Open.SpecLaws
import KE.OsGo
import KE.KMinKey
import PyFlatLaws
import PySem.Challenge.RW_signalboxdesk_s01_answers
set_option Elab.async false
set_option linter.all false
set_option maxRecDepth 100000
set_option maxHeartbeats 2000000
section
namespace L2
open PySem PySem.Spec PyProof.Rows

abbrev Key := Sum Int Str
def keyIs : Key → Value → Bool
  | .inl k, v => Value.isInt k v
  | .inr x, v => Value.isStrOf x v
def keyH (w : World) : Key → Int
  | .inl k => hashInt k
  | .inr x => hashStr w x
theorem keyIs_shape : ∀ {k : Key} {v : Value}, keyIs k v = true → (∃ i t, k = Sum.inl i ∧ v = Value.int i t) ∨ (∃ x t, k = Sum.inr x ∧ v = Value.str x t)
  | .inl i, v, h => by
    obtain ⟨t, e⟩ := Value.isInt_shape (k := i) (v := v) h
    exact .inl ⟨i, t, rfl, e⟩
  | .inr x, v, h => by
    obtain ⟨t, e⟩ := Value.isStrOf_shape (x := x) (v := v) h
    exact .inr ⟨x, t, rfl, e⟩
theorem keyIs_int (i : Int) (t : Tok) : keyIs (.inl i) (.int i t) = true := by simp [keyIs, Value.isInt]
theorem keyIs_str (x : Str) (t : Tok) : keyIs (.inr x) (.str x t) = true := by simp [keyIs, Value.isStrOf]
theorem key_ll (a b : Int) : decide ((Sum.inl a : Key) = Sum.inl b) = (a == b) := by
  by_cases e : a = b
  · subst e; simp
  · have h : ¬ (Sum.inl a : Key) = Sum.inl b := fun q => e (Sum.inl.inj q)
    rw [decide_eq_false h]
    exact (beq_eq_false_iff_ne.mpr e).symm
theorem key_rr (a b : Str) : decide ((Sum.inr a : Key) = Sum.inr b) = decide (a = b) := by
  by_cases e : a = b
  · subst e; simp
  · have h : ¬ (Sum.inr a : Key) = Sum.inr b := fun q => e (Sum.inr.inj q)
    rw [decide_eq_false h, decide_eq_false e]
theorem key_lr (a : Int) (b : Str) : decide ((Sum.inl a : Key) = Sum.inr b) = false := decide_eq_false (fun q => nomatch q)
theorem key_rl (a : Str) (b : Int) : decide ((Sum.inr a : Key) = Sum.inl b) = false := decide_eq_false (fun q => nomatch q)

def mixKind (prog : Program) (w : World) : PySem.KeyKind prog w Key where
  is := keyIs
  hash := keyH w
  inj := fun v a b ha hb => by
    rcases keyIs_shape ha with ⟨i, t, rfl, rfl⟩ | ⟨x, t, rfl, rfl⟩
    · rcases keyIs_shape hb with ⟨j, u, rfl, e⟩ | ⟨y, u, rfl, e⟩
      · injection e with e1 _; rw [e1]
      · exact nomatch e
    · rcases keyIs_shape hb with ⟨j, u, rfl, e⟩ | ⟨y, u, rfl, e⟩
      · exact nomatch e
      · injection e with e1 _; rw [e1]
  byValue := fun k v h => by
    rcases keyIs_shape h with ⟨i, t, rfl, rfl⟩ | ⟨x, t, rfl, rfl⟩ <;> rfl
  pyHash := fun hv h => by
    rcases keyIs_shape hv with ⟨i, t, rfl, rfl⟩ | ⟨x, t, rfl, rfl⟩
    · exact wpAny_pyHash_int h
    · exact wpAny_pyHash_str h
  eqBool := fun hu hv h => by
    rcases keyIs_shape hu with ⟨i, t, rfl, rfl⟩ | ⟨x, t, rfl, rfl⟩
    · rcases keyIs_shape hv with ⟨j, u, rfl, rfl⟩ | ⟨y, u, rfl, rfl⟩
      · rw [key_ll] at h; exact wpAny_eqBool_int h
      · rw [key_lr] at h; exact SeqAt.EqAt.int_str i t y u _ _ _ _ h
    · rcases keyIs_shape hv with ⟨j, u, rfl, rfl⟩ | ⟨y, u, rfl, rfl⟩
      · rw [key_rl] at h; exact SeqAt.EqAt.str_int x t j u _ _ _ _ h
      · rw [key_rr] at h; exact wpAny_eqBool_str h
  «strs» := fun k x t v h => by
    rcases keyIs_shape h with ⟨i, u, rfl, e⟩ | ⟨y, u, rfl, e⟩
    · exact nomatch e
    · injection e with e1 _
      subst e1
      cases v <;> rfl

theorem mixKind_int (prog : Program) (w : World) (i : Int) (t : Tok) : (mixKind prog w).is (.inl i) (.int i t) = true := keyIs_int i t
theorem mixKind_str (prog : Program) (w : World) (x : Str) (t : Tok) : (mixKind prog w).is (.inr x) (.str x t) = true := keyIs_str x t
end L2

namespace L2
open PySem PySem.Spec PyProof.Rows

inductive V where
  | non | bl (b : Bool) | int (i : Int) | str (x : Str) | byt (b : Array UInt8) | flt (b : UInt64) | ref (a : Addr) | ty (n : String)
  deriving DecidableEq

def RelV : V → Value → Prop
  | .non, u => u = Value.none
  | .bl b, u => u = Value.bool b
  | .int i, u => ∃ t, u = Value.int i t
  | .str x, u => ∃ t, u = Value.str x t
  | .byt b, u => ∃ t, u = Value.bytes b t
  | .flt b, u => ∃ t, u = Value.float b t
  | .ref a, u => u = Value.ref a
  | .ty n, u => u = Value.type n

abbrev Vals : List V → List Value → Prop := Paired RelV
theorem Vals.length {xs : List V} {us : List Value} (r : Vals xs us) : xs.length = us.length := Paired.length r
theorem Vals.get : ∀ {xs : List V} {us : List Value} {i : Nat} {x : V}, Vals xs us → xs[i]? = some x → ∃ u, us[i]? = some u ∧ RelV x u
  | _, _, _, _, .nil, e => by simp at e
  | _, _, 0, _, .cons r _, e => by simp at e; subst e; exact ⟨_, rfl, r⟩
  | _, _, i + 1, x, .cons _ t, e => by
    obtain ⟨u, h1, h2⟩ := Vals.get (i := i) (x := x) t (by simpa using e)
    exact ⟨u, by simpa using h1, h2⟩
theorem Vals.set {x : V} {u : Value} (r : RelV x u) : ∀ {xs : List V} {us : List Value} (i : Nat), Vals xs us → Vals (xs.set i x) (us.set i u)
  | _, _, _, .nil => .nil
  | _, _, 0, .cons _ t => .cons r t
  | _, _, i + 1, .cons q t => .cons q (Vals.set r i t)
theorem Vals.append : ∀ {xs ys : List V} {us ws : List Value}, Vals xs us → Vals ys ws → Vals (xs ++ ys) (us ++ ws)
  | _, _, _, _, .nil, s => s
  | _, _, _, _, .cons r t, s => .cons r (Vals.append t s)
theorem Vals.take : ∀ {xs : List V} {us : List Value} (n : Nat), Vals xs us → Vals (xs.take n) (us.take n)
  | _, _, 0, _ => .nil
  | _, _, _ + 1, .nil => .nil
  | _, _, n + 1, .cons r t => .cons r (Vals.take n t)
theorem Vals.drop : ∀ {xs : List V} {us : List Value} (n : Nat), Vals xs us → Vals (xs.drop n) (us.drop n)
  | _, _, 0, r => r
  | _, _, _ + 1, .nil => .nil
  | _, _, n + 1, .cons _ t => Vals.drop n t
def RelO : Option V → Option Value → Prop
  | some v, some u => RelV v u
  | none, none => True
  | _, _ => False
def KV {κ : Type} : List (κ × V) → List (κ × Value) → Prop := Paired fun (p : κ × V) (q : κ × Value) => p.1 = q.1 ∧ RelV p.2 q.2

def kV : Key → V
  | .inl i => .int i
  | .inr x => .str x

inductive HO where
  /-- a list -/
  | lst (xs : List V)
  /-- a tuple (never changes) -/
  | tup (xs : List V)
  /-- a dict whose keys are ints and texts; one whose keys are tuples of ints and texts (the empty one is both) -/
  | dK (kvs : List (Key × V)) | dT (kvs : List (List Key × V))
  /-- a set of ints: its members, its size -/
  | set (S : Int → Bool) (n : Nat)
  /-- an instance of the class at C, its dict at dx, its attributes -/
  | ins (C dx : Addr) (fs : List (Str × V))
  /-- the dict of the instance at x -/
  | own (x : Addr)
  /-- the dict of an exception -/
  | xd (fs : List (Str × V))
  /-- a bound method, f of x -/
  | met (f x : Addr)
  /-- a range object lo, lo + 1, .. below hi -/
  | rng (lo hi : Int)
  /-- a thing that is known to the object (the script; a dict while a loop walks it): read, never written while it is so -/
  | frz (o : Obj) (u : HO)
  /-- a code object's table -/
  | tbl (ps : Array Value)
  /-- any other thing, by what is true of its one object (a def of one's own: SetO a S n := HO.ext fun h => ..) -/
  | ext (φ : Heap → Prop)

abbrev Hp := Addr → Option HO
def upd (H : Hp) (a : Addr) (o : HO) : Hp := fun b => if b = a then some o else H b
theorem upd_same {H : Hp} {a : Addr} {o : HO} : upd H a o a = some o := by unfold upd; rw [if_pos rfl]
theorem upd_ne {H : Hp} {a b : Addr} {o : HO} (h : b ≠ a) : upd H a o b = H b := by unfold upd; rw [if_neg h]
theorem upd_upd {H : Hp} {a : Addr} {o u : HO} : upd (upd H a o) a u = upd H a u := by
  funext b; unfold upd; split <;> rfl
theorem ne_of {H : Hp} {a b : Addr} {o u : HO} (h : H a = some o) (h' : H b = some u) (d : o ≠ u) : a ≠ b := by
  intro e; subst e; rw [h] at h'; exact d (Option.some.inj h')
theorem ne_of_none {H : Hp} {a b : Addr} {o : HO} (h : H a = some o) (h' : H b = none) : a ≠ b := by
  intro e; subst e; rw [h] at h'; cases h'

section
variable (P : Program) (w : World)
def ObjOk (H : Hp) (h : Heap) (a : Addr) : HO → Prop
  | .lst xs => xs.length ≤ sizeLine ∧ ∃ (its : List Value) (n : Nat), Vals xs its ∧ h.get? a = some { cls := .type "list", data := .seq its.toArray n }
  | .tup xs => xs.length ≤ sizeLine ∧ ∃ its : List Value, Vals xs its ∧ IsTup h a its.toArray
  | .dK kvs => kvs.length ≤ sizeLine ∧ (a == sysModules) = false ∧ ∃ vs, KV kvs vs ∧ h.DictOf (mixKind P w) a vs
  | .dT kvs => kvs.length ≤ sizeLine ∧ (a == sysModules) = false ∧ ∃ xs : List (List Key × Addr × Value),
      Paired (fun (p : List Key × V) (q : List Key × Addr × Value) => p.1 = q.1 ∧ H q.2.1 = some (.tup (p.1.map kV)) ∧ RelV p.2 q.2.2) kvs xs ∧
      ∃ o es ep, h.get? a = some o ∧ o.ExactDict ∧ o.data = .dict es ep ∧ es.toList = xs.map (entryOfKey (tupleKind (mixKind P w))) ∧ (xs.map (·.1)).Nodup
  | .set S n => h.SetOf (intKind P w) a S n
  | .ins C dx fs => H dx = some (.own a) ∧ fs.length ≤ 1000 ∧ dx ≠ a ∧ h.get? a = some (PySem.W.instObj C dx) ∧
      ∃ mA, h.Ns1 dx mA ∧ (∀ f, RelO (fs.lookup f) (mA f)) ∧ PySem.Within mA (fs.map (·.1))
  | .own _ => ∃ o, h.get? a = some o
  | .xd fs => ∃ mA, h.Ns1 a mA ∧ ∀ f, RelO (fs.lookup f) (mA f)
  | .rng lo hi => ∃ t u v, h.get? a = some { cls := .type "range", data := .fields #[.int lo t, .int hi u, .int 1 v] }
  | .frz o u => h.get? a = some o ∧ ObjOk H h a u
  | .tbl ps => h.get? a = some { cls := .none, data := .fields ps }
  | .met f x => h.get? a = some (PySem.W.methodObj (.ref f) (.ref x))
  | .ext φ => φ h ∧ (∃ o, h.get? a = some o) ∧ ∀ h1 h2 : Heap, φ h1 → (∀ o, h1.get? a = some o → h2.get? a = some o) → φ h2
def HOk (H : Hp) (h : Heap) : Prop := ∀ a o, H a = some o → ObjOk P w H h a o
end

section
variable {P : Program} {w : World} {H H' : Hp} {h h' : Heap} {a : Addr} {o : HO}
theorem ObjOk.lt (x : ObjOk P w H h a o) : a < h.objs.size := by
  cases o with
  | lst xs => obtain ⟨_, _, _, _, e⟩ := x; exact Heap.lt_size e
  | tup xs => obtain ⟨_, _, _, p⟩ := x; exact p.lt
  | dK kvs => obtain ⟨_, _, _, _, o, _, _, e, _⟩ := x; exact Heap.lt_size e
  | dT kvs => obtain ⟨_, _, _, _, o, _, _, e, _⟩ := x; exact Heap.lt_size e
  | set S n => obtain ⟨o, _, _, _, e, _⟩ := x; exact Heap.lt_size e
  | ins C dx fs => obtain ⟨_, _, _, e, _⟩ := x; exact Heap.lt_size e
  | own y => obtain ⟨_, e⟩ := x; exact Heap.lt_size e
  | xd fs => obtain ⟨_, ⟨_, _, _, e, _⟩, _⟩ := x; exact Heap.lt_size e
  | rng lo hi => obtain ⟨_, _, _, e⟩ := x; exact Heap.lt_size e
  | frz ob u => obtain ⟨e, _⟩ := x; exact Heap.lt_size e
  | tbl ps => exact Heap.lt_size (show h.get? a = some _ from x)
  | met f y => exact Heap.lt_size (show h.get? a = some _ from x)
  | ext φ => obtain ⟨_, ⟨_, e⟩, _⟩ := x; exact Heap.lt_size e
theorem Paired.mapP {α β : Type} {F G : α → β → Prop} : ∀ {l₁ : List α} {l₂ : List β}, Paired F l₁ l₂ → (∀ a b, F a b → G a b) → Paired G l₁ l₂
  | _, _, .nil, _ => .nil
  | _, _, .cons r t, f => .cons (f _ _ r) (Paired.mapP t f)
theorem ObjOk.stay (x : ObjOk P w H h a o) (k : ∀ b u, (b = a ∨ H b = some (.own a)) → h.get? b = some u → h'.get? b = some u)
    (ho : ∀ b, H b = some (.own a) → H' b = some (.own a)) (ht : ∀ b xs, H b = some (.tup xs) → H' b = some (.tup xs)) : ObjOk P w H' h' a o := by
  induction o with
  | lst xs => obtain ⟨z, its, n, r, e⟩ := x; exact ⟨z, its, n, r, k _ _ (.inl rfl) e⟩
  | tup xs => obtain ⟨z, its, r, ob, e, c⟩ := x; exact ⟨z, its, r, ob, k _ _ (.inl rfl) e, c⟩
  | dK kvs => obtain ⟨z, y, vs, r, ob, es, ep, e, c⟩ := x; exact ⟨z, y, vs, r, ob, es, ep, k _ _ (.inl rfl) e, c⟩
  | dT kvs =>
    obtain ⟨z, y, xs, r, ob, es, ep, e, c⟩ := x
    exact ⟨z, y, xs, Paired.mapP r fun p q z => ⟨z.1, ht _ _ z.2.1, z.2.2⟩, ob, es, ep, k _ _ (.inl rfl) e, c⟩
  | set S n => obtain ⟨ob, es, ep, t, e, c⟩ := x; exact ⟨ob, es, ep, t, k _ _ (.inl rfl) e, c⟩
  | ins C dx fs =>
    obtain ⟨d, z, ne, e, mA, ⟨od, es, ep, e2, c⟩, r⟩ := x
    exact ⟨ho _ d, z, ne, k _ _ (.inl rfl) e, mA, ⟨od, es, ep, k _ _ (.inr d) e2, c⟩, r⟩
  | own y => obtain ⟨ob, e⟩ := x; exact ⟨ob, k _ _ (.inl rfl) e⟩
  | xd fs => obtain ⟨mA, ⟨od, es, ep, e, c⟩, r⟩ := x; exact ⟨mA, ⟨od, es, ep, k _ _ (.inl rfl) e, c⟩, r⟩
  | rng lo hi => obtain ⟨t, u, v, e⟩ := x; exact ⟨t, u, v, k _ _ (.inl rfl) e⟩
  | frz ob u ih => obtain ⟨e, q⟩ := x; exact ⟨k _ _ (.inl rfl) e, ih q⟩
  | tbl ps =>
    have e : h.get? a = some { cls := .none, data := .fields ps } := x
    show h'.get? a = some { cls := .none, data := .fields ps }
    exact k a _ (.inl rfl) e
  | met f y =>
    have e : h.get? a = some (PySem.W.methodObj (.ref f) (.ref y)) := x
    show h'.get? a = some (PySem.W.methodObj (.ref f) (.ref y))
    exact k a _ (.inl rfl) e
  | ext φ => obtain ⟨p, ⟨o, e⟩, st⟩ := x; exact ⟨st _ _ p fun o q => k _ _ (.inl rfl) q, ⟨o, k _ _ (.inl rfl) e⟩, st⟩
theorem HOk.lt (x : HOk P w H h) (e : H a = some o) : a < h.objs.size := (x a o e).lt
theorem HOk.fresh (x : HOk P w H h) (e : h.objs.size ≤ a) : H a = none := by
  cases q : H a with
  | none => rfl
  | some u => exact absurd (Nat.lt_of_lt_of_le (x.lt q) e) (Nat.lt_irrefl _)
theorem HOk.kept (x : HOk P w H h) (k : ∀ b u, h.get? b = some u → h'.get? b = some u) : HOk P w H h' := fun a o e =>
  (x a o e).stay (fun b u _ q => k b u q) (fun _ q => q) fun _ _ q => q
theorem HOk.laid (x : HOk P w H h) (k : ∀ b u, h.get? b = some u → h'.get? b = some u) (hp : h.objs.size ≤ a) (new : ObjOk P w (upd H a o) h' a o) : HOk P w (upd H a o) h' := fun b u e => by
  have hn := x.fresh hp
  by_cases hb : b = a
  · subst hb; rw [upd_same] at e; cases e; exact new
  · rw [upd_ne hb] at e
    exact (x b u e).stay (fun c v _ q => k c v q) (fun c q => by rw [upd_ne (ne_of_none q hn)]; exact q) fun c xs q => by rw [upd_ne (ne_of_none q hn)]; exact q
end

def Rd (H : Hp) (a : Addr) (u : HO) : Prop := H a = some u ∨ ∃ o, H a = some (.frz o u)
theorem Rd.ok {P : Program} {w : World} {H : Hp} {h : Heap} {a : Addr} {u : HO} (r : Rd H a u) (x : HOk P w H h) : ObjOk P w H h a u := by
  rcases r with r | ⟨o, r⟩
  · exact x a u r
  · obtain ⟨_, q⟩ := x a _ r
    exact q
def Mut : Option HO → Prop
  | some (.lst _) => True
  | some (.dK _) => True
  | some (.dT _) => True
  | some (.set _ _) => True
  | some (.ins _ _ _) => True
  | some (.ext _) => True
  | _ => False
section
variable {P : Program} {w : World} {H : Hp} {h h' : Heap} {x e : Addr} {o' : HO}
theorem HOk.write (ok : HOk P w H h) (mu : Mut (H x)) (he : e = x ∨ H e = some (.own x)) (k : ∀ b u, b ≠ e → h.get? b = some u → h'.get? b = some u) (heo : ∃ u, h'.get? e = some u)
    (new : ObjOk P w (upd H x o') h' x o') : HOk P w (upd H x o') h' := fun b u q => by
  have nown : ∀ c y, H c = some (.own y) → c ≠ x := fun c y r z => by subst z; rw [r] at mu; exact mu
  have ntup : ∀ c xs, H c = some (.tup xs) → c ≠ x := fun c xs r z => by subst z; rw [r] at mu; exact mu
  by_cases hb : b = x
  · subst hb; rw [upd_same] at q; cases q; exact new
  · rw [upd_ne hb] at q
    by_cases hbe : b = e
    · have q' : H b = some (.own x) := by
        rcases he with z | z
        · exact absurd (hbe.trans z) hb
        · rw [hbe]; exact z
      rw [q] at q'; cases q'
      obtain ⟨v, hv⟩ := heo
      exact ⟨v, by rw [hbe]; exact hv⟩
    · refine (ok b u q).stay (fun c v hc r => k c v ?_ r) (fun c r => by rw [upd_ne (nown c b r)]; exact r) fun c xs r => by rw [upd_ne (ntup c xs r)]; exact r
      rcases hc with rfl | hc
      · exact hbe
      · rintro rfl
        rcases he with z | z
        · exact nown c b hc z
        · rw [hc] at z; cases z; exact hb rfl
end

structure Un (fs ex : List Addr) (H H' : Hp) (h h' : Heap) : Prop where
  keep : ∀ b o, h.get? b = some o → H b = none → b ∉ fs → b ∉ ex → h'.get? b = some o
  slot : ∀ b o, h.get? b = some o → H b = none → b ∈ fs → b ∉ ex → ∃ sl, h'.get? b = some { o with slots := sl }
  free : ∀ b o, h.get? b = some o → H b = none → b ∉ ex → H' b = none
  there : ∀ b o, h.get? b = some o → b ∉ ex → ∃ o', h'.get? b = some o'
  tups : ∀ b xs, H b = some (.tup xs) → H' b = some (.tup xs)
  frzs : ∀ b o u, H b = some (.frz o u) → H' b = some (.frz o u)
  tbls : ∀ b ps, H b = some (.tbl ps) → ∃ more, H' b = some (.tbl (ps ++ more))
section
variable {fs fs' ex ex' : List Addr} {H H1 H2 : Hp} {h h1 h2 h' : Heap} {a x e : Addr} {o : HO}
theorem Un.any (u : Un fs ex H H1 h h1) {b : Addr} {ob : Obj} (q : h.get? b = some ob) (n : H b = none) (hx : b ∉ ex) : ∃ sl, h1.get? b = some { ob with slots := sl } := by
  by_cases hb : b ∈ fs
  · exact u.slot b ob q n hb hx
  · exact ⟨ob.slots, u.keep b ob q n hb hx⟩
theorem Un.kept (k : ∀ b u, h.get? b = some u → h'.get? b = some u) : Un fs ex H H h h' :=
  ⟨fun b ob q _ _ _ => k b ob q, fun b ob q _ _ _ => ⟨ob.slots, k b ob q⟩, fun _ _ _ n _ => n, fun b ob q _ => ⟨ob, k b ob q⟩, fun _ _ q => q, fun _ _ _ q => q, fun _ ps q => ⟨#[], by rw [q]; simp⟩⟩
theorem Un.refl : Un fs ex H H h h := Un.kept fun _ _ q => q
theorem Un.laid (k : ∀ b u, h.get? b = some u → h'.get? b = some u) (hp : h.objs.size ≤ a) (hn : H a = none) : Un fs ex H (upd H a o) h h' where
  keep := fun b u q _ _ _ => k b u q
  slot := fun b u q _ _ _ => ⟨u.slots, k b u q⟩
  free := fun b u q n _ => by rw [upd_ne (Nat.ne_of_lt (Nat.lt_of_lt_of_le (Heap.lt_size q) hp))]; exact n
  there := fun b u q _ => ⟨u, k b u q⟩
  tups := fun b xs q => by rw [upd_ne (ne_of_none q hn)]; exact q
  frzs := fun b u xs q => by rw [upd_ne (ne_of_none q hn)]; exact q
  tbls := fun b ps q => ⟨#[], by rw [upd_ne (ne_of_none q hn), q]; simp⟩
theorem Un.write (mu : Mut (H x)) (he : e = x ∨ H e = some (.own x)) (k : ∀ b u, b ≠ e → h.get? b = some u → h'.get? b = some u) (heo : ∃ u, h'.get? e = some u) : Un fs ex H (upd H x o) h h' := by
  have hx : ∀ b, H b = none → b ≠ x := fun b n z => by subst z; rw [n] at mu; exact mu
  have hb : ∀ b, H b = none → b ≠ e := fun b n z => by
    subst z
    rcases he with r | r
    · exact hx b n r
    · rw [n] at r; cases r
  have hm : ∀ b u, H b = some u → ¬ Mut (some u) → b ≠ x := fun b u q nm z => by subst z; rw [q] at mu; exact nm mu
  refine ⟨fun b u q n _ _ => k b u (hb b n) q, fun b u q n _ _ => ⟨u.slots, k b u (hb b n) q⟩, fun b u q n _ => by rw [upd_ne (hx b n)]; exact n, fun b u q _ => ?_,
    fun b xs q => by rw [upd_ne (hm b _ q fun z => z)]; exact q, fun b u xs q => by rw [upd_ne (hm b _ q fun z => z)]; exact q, fun b ps q => ⟨#[], by rw [upd_ne (hm b _ q fun z => z), q]; simp⟩⟩
  by_cases hbe : b = e
  · subst hbe; exact heo
  · exact ⟨u, k b u hbe q⟩
end

def trk (h : Heap) (H : Hp) : List Addr := (List.range h.objs.size).filter fun a => (H a).isSome
def hidT (h : Heap) (H : Hp) : Heap := PySem.W.hideAll h (trk h H)
theorem hidT_size (h : Heap) (H : Hp) : (hidT h H).objs.size = h.objs.size := PySem.W.hideAll_size _ _
theorem hidT_get {h : Heap} {H : Hp} {b : Addr} {o : Obj} (e : h.get? b = some o) (n : H b = none) : (hidT h H).get? b = some o :=
  PySem.W.hideAll_get _ e fun hm => by
    have q : (H b).isSome = true := (List.mem_filter.mp hm).2
    rw [n] at q; simp at q
theorem of_hidT {h : Heap} {H : Hp} {b : Addr} {o : Obj} (e : (hidT h H).get? b = some o) : h.get? b = some o ∧ H b = none := by
  have e' : h.get? b = some o := PySem.W.of_hideAll (trk h H) e
  refine ⟨e', ?_⟩
  cases q : H b with
  | none => rfl
  | some x =>
    have hm : b ∈ trk h H := List.mem_filter.mpr ⟨List.mem_range.mpr (Heap.lt_size e'), by simp [q]⟩
    have z : (hidT h H).get? b = none := PySem.W.hideAll_none (trk h H) hm
    rw [z] at e; cases e

end L2

namespace L2
open PySem PySem.Spec PyProof.Rows

structure Mod (K : PySem.W.Frag) (mg : Str → Option Value) (base : Heap) : Prop where
  kin : K.In base
  glob : base.Ns mainGlobals mg
  blt : ∃ mb, base.Ns builtinsNs mb ∧ ∀ x : Str, x ≠ "__name__" → mb x = bootBuiltins x
  nolimit : base.NoLimit

structure Cx where
  prog : Program
  w : World
  K : PySem.W.Frag
  mg : Str → Option Value
  base : Heap
  A : Around
  N : List Str
  s_0 : Shared
  H_0 : Hp
  env : Env
  outer : List Env
  stack : List Env
  ex : List Addr
  fn : Str → Bool
  calm : Bool
  pn : List (Addr × Obj)
  xe : Value → Shared → Prop
def frs (l : List Env) : List Addr := l.filterMap (·.frame)
abbrev Cx.fs (X : Cx) : List Addr := frs X.outer

def Vis (sc : Scope) (x : Str) : Prop := sc.names.lookup x = some .local ∨ sc.names.lookup x = some .cell ∨ sc.names.lookup x = some .free
def Loc (sc : Scope) (x : Str) : Prop := sc.names.lookup x = some .local ∨ sc.names.lookup x = some .cell
def Look (env : Env) (h : Heap) (m : Str → Option Value) (x : Str) (u : Value) : Prop :=
  (env.kindOf x = some .local ∧ m x = some u) ∨ ((env.kindOf x = some .cell ∨ env.kindOf x = some .free) ∧ ∃ c, env.cells.lookup x = some c ∧ h.IsCell c (some u))

structure Cx.Ok (X : Cx) : Prop where
  mod : Mod X.K X.mg X.base
  kind : X.env.scope.kind = .function
  glob : X.env.globals = mainGlobals
  blt : X.env.builtins = builtinsNs
  above : X.s_0.heap.objs.size ≤ X.env.locals
  inj : ∀ x y c, X.env.cells.lookup x = some c → X.env.cells.lookup y = some c → x = y
  has : ∀ x, (X.env.kindOf x = some .cell ∨ X.env.kindOf x = some .free) → ∃ c, X.env.cells.lookup x = some c
  cab : ∀ x c, X.fn x = true → X.env.cells.lookup x = some c → X.s_0.heap.objs.size ≤ c
  hd : X.calm = true → X.A.handled = none
  frames : X.A.frames = some X.stack
  stk : X.stack = X.outer ∨ (X.stack = X.env :: X.outer ∧ X.env.frame = some X.env.locals)
  exf : ∀ b ∈ X.ex, b ≠ X.env.locals ∧ ∀ x c, X.env.cells.lookup x = some c → c ≠ b
  bs : ∀ b o, X.base.get? b = some o → X.s_0.heap.get? b = some o ∧ X.H_0 b = none
  bsz : X.base.objs.size ≤ X.s_0.heap.objs.size
  noex : ∀ b o, X.base.get? b = some o → b ∉ X.ex
  exfs : ∀ b ∈ X.ex, b ∉ X.fs
  funs : X.s_0.heap.FunFrames X.base X.outer
  frf : ∀ b ∈ X.fs, X.H_0 b = none

structure Inv (X : Cx) (pins : List (Addr × Obj)) (σ : List (Option V)) (H : Hp) (s : Shared) : Prop where
  ok : X.Ok
  os : s.os = X.s_0.os
  bare : AllBare s.gens
  base : Un X.fs X.ex X.H_0 H X.s_0.heap s.heap
  loc : ∃ m, s.heap.Ns X.env.locals m ∧ ∀ (i : Nat) (x : Str) (v : V), X.N[i]? = some x → σ[i]? = some (some v) → Vis X.env.scope x → ∃ u, RelV v u ∧ Look X.env s.heap m x u
  cell : ∀ x c, X.env.cells.lookup x = some c → ∃ v, s.heap.IsCell c v
  free : H X.env.locals = none
  freeC : ∀ x c, X.env.cells.lookup x = some c → H c = none
  pin : ∀ p ∈ X.pn ++ pins, s.heap.get? p.1 = some p.2 ∧ H p.1 = none ∧ p.1 ≠ X.env.locals ∧ p.1 ∉ X.fs ∧ ∀ v, p.2.data ≠ .cell v
  hok : HOk X.prog X.w H s.heap
  len : σ.length = X.N.length

section
variable {X : Cx} {pins : List (Addr × Obj)} {σ : List (Option V)} {H H' : Hp} {s : Shared} {h' : Heap}

theorem Cx.Ok.nofr (ok : X.Ok) {b : Addr} {o : Obj} (e : X.base.get? b = some o) : b ∉ X.fs := fun hb => by
  have := (ok.funs.mem hb).1
  rw [e] at this; cases this
theorem Inv.bs (I : Inv X pins σ H s) : ∀ b o, X.base.get? b = some o → s.heap.get? b = some o ∧ H b = none := fun b o e =>
  ⟨I.base.keep b o (I.ok.bs b o e).1 (I.ok.bs b o e).2 (I.ok.nofr e) (I.ok.noex b o e), I.base.free b o (I.ok.bs b o e).1 (I.ok.bs b o e).2 (I.ok.noex b o e)⟩
theorem Inv.bk (I : Inv X pins σ H s) : ∀ b o, X.base.get? b = some o → s.heap.get? b = some o := fun b o e => (I.bs b o e).1
theorem Inv.mod (I : Inv X pins σ H s) : Mod X.K X.mg X.base := I.ok.mod
theorem Inv.kIn (I : Inv X pins σ H s) : X.K.In s.heap := I.ok.mod.kin.keeps I.bk
theorem Inv.lt (I : Inv X pins σ H s) : X.env.locals < s.heap.objs.size := let ⟨_, hn, _⟩ := I.loc; hn.lt
theorem Inv.sz (I : Inv X pins σ H s) : X.s_0.heap.objs.size ≤ s.heap.objs.size := Nat.le_trans I.ok.above (Nat.le_of_lt I.lt)
theorem Inv.nofs (I : Inv X pins σ H s) {a : Addr} (h : s.heap.objs.size ≤ a) : a ∉ X.fs := fun hb => by
  obtain ⟨_, o, ho, _⟩ := I.ok.funs.mem hb
  exact absurd (Nat.lt_of_lt_of_le (Heap.lt_size ho) (Nat.le_trans I.sz h)) (Nat.lt_irrefl _)
theorem Inv.cne (I : Inv X pins σ H s) : ∀ x c, X.env.cells.lookup x = some c → c ≠ X.env.locals := fun x c e z => by
  obtain ⟨v, o, ho, hd⟩ := I.cell x c e
  obtain ⟨m, ⟨o', es, ep, ho', hd', _⟩, _⟩ := I.loc
  rw [z, ho'] at ho; cases ho; rw [hd'] at hd; cases hd
theorem Inv.funs (I : Inv X pins σ H s) : s.heap.FunFrames X.base X.outer := by
  have all : ∀ (l : List Env), (∀ b ∈ frs l, b ∈ X.fs) → X.s_0.heap.FunFrames X.base l → s.heap.FunFrames X.base l := by
    intro l
    induction l with
    | nil => intro _ _; trivial
    | cons env r ih =>
      intro hs hl
      obtain ⟨hk, ⟨L, o, hf, hn, ho, hd⟩, hr⟩ := hl
      have hL : L ∈ X.fs := hs L (by unfold frs; rw [List.filterMap_cons, hf]; exact List.mem_cons_self)
      obtain ⟨sl, e⟩ := I.base.slot L o ho (I.ok.frf L hL) hL fun z => I.ok.exfs L z hL
      exact ⟨hk, ⟨L, _, hf, hn, e, hd⟩, ih (fun b hb => hs b (by unfold frs; rw [List.filterMap_cons, hf]; exact List.mem_cons_of_mem _ hb)) hr⟩
  exact all X.outer (fun _ hb => hb) I.ok.funs

theorem Inv.stack (I : Inv X pins σ H s) : s.heap.FunFrames X.base X.stack := by
  rcases I.ok.stk with e | ⟨e, hf⟩
  · rw [e]; exact I.funs
  · rw [e]
    obtain ⟨m, hn, _⟩ := I.loc
    refine .cons (by rw [I.ok.kind]; decide) hf hn ?_ I.funs
    exact Heap.get?_none_of_le (Nat.le_trans I.ok.bsz I.ok.above)
theorem Inv.stkSub (I : Inv X pins σ H s) : ∀ b ∈ frs X.stack, b ∈ X.env.locals :: X.fs := fun b hb => by
  rcases I.ok.stk with e | ⟨e, hf⟩
  · rw [e] at hb; exact List.mem_cons_of_mem _ hb
  · rw [e] at hb
    unfold frs at hb
    rw [List.filterMap_cons, hf] at hb
    exact hb
theorem Inv.stkFree (I : Inv X pins σ H s) : ∀ b ∈ frs X.stack, H b = none := fun b hb => by
  rcases List.mem_cons.mp (I.stkSub b hb) with e | hb
  · rw [e]; exact I.free
  · obtain ⟨_, o, ho, _⟩ := I.ok.funs.mem hb
    exact I.base.free b o ho (I.ok.frf b hb) fun z => I.ok.exfs b z hb

theorem Inv.step {g' : Array GenState} {t' : Nat} {d' : Drawn} {ch : List Addr} (I : Inv X pins σ H s)
    (hch : ∀ b ∈ ch, (b ∈ X.ex ∨ X.s_0.heap.objs.size ≤ b) ∧ b ≠ X.env.locals ∧ (∀ x c, X.env.cells.lookup x = some c → c ≠ b) ∧ ∀ p ∈ X.pn ++ pins, p.1 ≠ b)
    (keep : ∀ b o, b ≠ X.env.locals → b ∉ X.fs → b ∉ ch → s.heap.get? b = some o → H b = none → h'.get? b = some o)
    (slot : ∀ b o, b ≠ X.env.locals → b ∈ X.fs → b ∉ ch → s.heap.get? b = some o → H b = none → ∃ sl, h'.get? b = some { o with slots := sl }) (free : ∀ b o, b ∉ ch → s.heap.get? b = some o → H b = none → H' b = none)
    (there : ∀ b o, b ∉ ch → s.heap.get? b = some o → ∃ o', h'.get? b = some o')
    (tups : ∀ b xs, H b = some (.tup xs) → H' b = some (.tup xs)) (frzs : ∀ b o u, H b = some (.frz o u) → H' b = some (.frz o u)) (tbls : ∀ b ps, H b = some (.tbl ps) → ∃ more, H' b = some (.tbl (ps ++ more)))
    (ns : ∀ m, s.heap.Ns X.env.locals m → h'.Ns X.env.locals m) (hok : HOk X.prog X.w H' h') (hg : AllBare g') :
    Inv X pins σ H' { s with heap := h', gens := g', drawn := d', toks := t' } := by
  have neL : ∀ b o, X.s_0.heap.get? b = some o → b ≠ X.env.locals := fun b o e => Nat.ne_of_lt (Nat.lt_of_lt_of_le (Heap.lt_size e) I.ok.above)
  have neC : ∀ b o, X.s_0.heap.get? b = some o → b ∉ X.ex → b ∉ ch := fun b o e hx hb => by
    rcases (hch b hb).1 with z | z
    · exact hx z
    · exact absurd (Nat.lt_of_lt_of_le (Heap.lt_size e) z) (Nat.lt_irrefl _)
  have cellK : ∀ x c, X.env.cells.lookup x = some c → ∀ v, s.heap.IsCell c v → h'.IsCell c v := fun x c e v ⟨o, ho, hd⟩ => by
    have nch : c ∉ ch := fun z => (hch c z).2.2.1 x c e rfl
    by_cases hc : c ∈ X.fs
    · obtain ⟨sl, q⟩ := slot c o (I.cne x c e) hc nch ho (I.freeC x c e)
      exact ⟨_, q, hd⟩
    · exact ⟨o, keep c o (I.cne x c e) hc nch ho (I.freeC x c e), hd⟩
  refine ⟨I.ok, I.os, hg, ⟨fun b o e n hb hx => ?_, fun b o e n hb hx => ?_, fun b o e n hx => ?_, fun b o e hx => ?_, fun b xs e => tups b xs (I.base.tups b xs e), fun b o xs e => frzs b o xs (I.base.frzs b o xs e), fun b ps e => ?_⟩, ?_, fun x c e => ?_, ?_, fun x c e => ?_, fun p hp => ?_, hok, I.len⟩
  · exact keep b o (neL b o e) hb (neC b o e hx) (I.base.keep b o e n hb hx) (I.base.free b o e n hx)
  · obtain ⟨sl, e1⟩ := I.base.slot b o e n hb hx
    obtain ⟨sl', e2⟩ := slot b _ (neL b o e) hb (neC b o e hx) e1 (I.base.free b o e n hx)
    exact ⟨sl', e2⟩
  · obtain ⟨o', e1⟩ := I.base.there b o e hx
    exact free b o' (neC b o e hx) e1 (I.base.free b o e n hx)
  · obtain ⟨o', e1⟩ := I.base.there b o e hx
    exact there b o' (neC b o e hx) e1
  · obtain ⟨m1, e1⟩ := I.base.tbls b ps e
    obtain ⟨m2, e2⟩ := tbls b _ e1
    exact ⟨m1 ++ m2, by rw [e2, Array.append_assoc]⟩
  · obtain ⟨m, hn, hl⟩ := I.loc
    refine ⟨m, ns m hn, fun i x v e1 e2 e3 => ?_⟩
    obtain ⟨u, r, l⟩ := hl i x v e1 e2 e3
    refine ⟨u, r, ?_⟩
    rcases l with l | ⟨k, c, e, z⟩
    · exact .inl l
    · exact .inr ⟨k, c, e, cellK x c e _ z⟩
  · obtain ⟨v, z⟩ := I.cell x c e
    exact ⟨v, cellK x c e v z⟩
  · obtain ⟨m, ⟨o, _, _, ho, _⟩, _⟩ := I.loc
    exact free _ o (fun z => (hch _ z).2.1 rfl) ho I.free
  · obtain ⟨v, o, ho, hd⟩ := I.cell x c e
    exact free c o (fun z => (hch c z).2.2.1 x c e rfl) ho (I.freeC x c e)
  · obtain ⟨e, n, ne, nf, d⟩ := I.pin p hp
    have nch : p.1 ∉ ch := fun z => (hch p.1 z).2.2.2 p hp rfl
    exact ⟨keep p.1 p.2 ne nf nch e n, free p.1 p.2 nch e n, ne, nf, d⟩
theorem Inv.un {t' : Nat} (I : Inv X pins σ H s) (u : Un X.fs [] H H' s.heap h') (hok : HOk X.prog X.w H' h') : Inv X pins σ H' { s with heap := h', toks := t' } := by
  obtain ⟨m, ⟨o, es, ep, ho, r⟩, _⟩ := id I.loc
  obtain ⟨sl, hL⟩ := u.any ho I.free (by simp)
  exact I.step (g' := s.gens) (d' := s.drawn) (ch := []) (fun _ z => nomatch z) (fun b o _ hb _ e n => u.keep b o e n hb (by simp)) (fun b o _ hb _ e n => u.slot b o e n hb (by simp)) (fun b o _ e n => u.free b o e n (by simp)) (fun b o _ e => u.there b o e (by simp)) u.tups u.frzs u.tbls (fun m' hm => by
    obtain ⟨o', es', ep', ho', r'⟩ := hm
    rw [ho] at ho'; cases ho'
    exact ⟨_, es', ep', hL, r'⟩) hok I.bare
theorem Inv.call {g' : Array GenState} {t' : Nat} {d' : Drawn} {ch : List Addr} (I : Inv X pins σ H s) (u : Un (frs X.stack) ch H H' s.heap h') (hok : HOk X.prog X.w H' h') (hg : AllBare g')
    (hch : ∀ b ∈ ch, (b ∈ X.ex ∨ X.s_0.heap.objs.size ≤ b) ∧ b ≠ X.env.locals ∧ (∀ x c, X.env.cells.lookup x = some c → c ≠ b) ∧ ∀ p ∈ X.pn ++ pins, p.1 ≠ b) :
    Inv X pins σ H' { s with heap := h', gens := g', drawn := d', toks := t' } := by
  obtain ⟨m, ⟨o, es, ep, ho, r⟩, _⟩ := id I.loc
  obtain ⟨sl, hL⟩ := u.any ho I.free fun z => (hch _ z).2.1 rfl
  exact I.step (ch := ch) hch (fun b o hL hb hc e n => u.keep b o e n (fun z => (List.mem_cons.mp (I.stkSub b z)).elim hL hb) hc) (fun b o _ _ hc e n => u.any e n hc) (fun b o hc e n => u.free b o e n hc) (fun b o hc e => u.there b o e hc) u.tups u.frzs u.tbls (fun m' hm => by
    obtain ⟨o', es', ep', ho', r'⟩ := hm
    rw [ho] at ho'; cases ho'
    exact ⟨_, es', ep', hL, r'⟩) hok hg
theorem Inv.turned {t' : Nat} {it : Addr} (I : Inv X pins σ H s) (k : ∀ b o, b ≠ it → s.heap.get? b = some o → h'.get? b = some o) (hn : H it = none) (hL : it ≠ X.env.locals)
    (h1 : it ∈ X.ex ∨ X.s_0.heap.objs.size ≤ it) (h2 : ∀ x c, X.env.cells.lookup x = some c → c ≠ it) (h3 : ∀ p ∈ X.pn ++ pins, p.1 ≠ it) : Inv X pins σ H { s with heap := h', toks := t' } := by
  have nit : ∀ b u, H b = some u → b ≠ it := fun b u e z => by rw [z, hn] at e; cases e
  refine I.step (g' := s.gens) (d' := s.drawn) (ch := [it]) (fun b hb => ?_) (fun b o _ _ hc e _ => k b o (fun z => hc (by simp [z])) e) (fun b o _ _ hc e _ => ⟨o.slots, k b o (fun z => hc (by simp [z])) e⟩) (fun _ _ _ _ n => n)
    (fun b o hc e => ⟨o, k b o (fun z => hc (by simp [z])) e⟩) (fun _ _ e => e) (fun _ _ _ e => e) (fun b ps e => ⟨#[], by rw [e]; simp⟩) (fun m hm => ?_) (fun b u e => ?_) I.bare
  · have e : b = it := by simpa using hb
    subst e
    exact ⟨h1, hL, h2, h3⟩
  · obtain ⟨o, es, ep, ho, r⟩ := hm
    exact ⟨o, es, ep, k _ o (Ne.symm hL) ho, r⟩
  · refine (I.hok b u e).stay (fun c v hc q => k c v ?_ q) (fun _ q => q) fun _ _ q => q
    rcases hc with z | z
    · rw [z]; exact nit b u e
    · exact nit c _ z
theorem Inv.tok (I : Inv X pins σ H s) (t : Nat) : Inv X pins σ H { s with toks := t } := I.un (h' := s.heap) (t' := t) Un.refl I.hok
theorem Inv.kept {t' : Nat} (I : Inv X pins σ H s) (k : ∀ b u, s.heap.get? b = some u → h'.get? b = some u) : Inv X pins σ H { s with heap := h', toks := t' } := I.un (Un.kept k) (I.hok.kept k)
theorem Inv.laid {a : Addr} {o : HO} {t' : Nat} (I : Inv X pins σ H s) (k : ∀ b u, s.heap.get? b = some u → h'.get? b = some u) (hp : s.heap.objs.size ≤ a) (new : ObjOk X.prog X.w (upd H a o) h' a o) :
    Inv X pins σ (upd H a o) { s with heap := h', toks := t' } := I.un (Un.laid k hp (I.hok.fresh hp)) (I.hok.laid k hp new)
theorem Inv.write {x e : Addr} {o : HO} {t' : Nat} (I : Inv X pins σ H s) (mu : Mut (H x)) (he : e = x ∨ H e = some (.own x)) (k : ∀ b u, b ≠ e → s.heap.get? b = some u → h'.get? b = some u) (heo : ∃ u, h'.get? e = some u)
    (new : ObjOk X.prog X.w (upd H x o) h' x o) : Inv X pins σ (upd H x o) { s with heap := h', toks := t' } := I.un (Un.write mu he k heo) (I.hok.write mu he k heo new)
theorem Inv.weak {σ' : List (Option V)} (I : Inv X pins σ H s) (hl : σ'.length = σ.length) (w : ∀ (i : Nat) v, σ'[i]? = some (some v) → σ[i]? = some (some v)) : Inv X pins σ' H s :=
  ⟨I.ok, I.os, I.bare, I.base, let ⟨m, hn, hl'⟩ := I.loc; ⟨m, hn, fun i x v e1 e2 e3 => hl' i x v e1 (w i v e2) e3⟩, I.cell, I.free, I.freeC, I.pin, I.hok, hl.trans I.len⟩
theorem Inv.pins_of {pins' : List (Addr × Obj)} (I : Inv X pins σ H s) (h : ∀ p ∈ pins', s.heap.get? p.1 = some p.2 ∧ H p.1 = none ∧ p.1 ≠ X.env.locals ∧ p.1 ∉ X.fs ∧ ∀ v, p.2.data ≠ .cell v) : Inv X pins' σ H s :=
  ⟨I.ok, I.os, I.bare, I.base, I.loc, I.cell, I.free, I.freeC, fun p hp => (List.mem_append.mp hp).elim (fun z => I.pin p (List.mem_append_left _ z)) (h p), I.hok, I.len⟩

theorem nodup_ix {N : List Str} (hN : N.Nodup) {i j : Nat} {x : Str} (a : N[i]? = some x) (b : N[j]? = some x) : i = j := by
  obtain ⟨h1, e1⟩ := List.getElem?_eq_some_iff.mp a
  obtain ⟨h2, e2⟩ := List.getElem?_eq_some_iff.mp b
  exact (List.getElem_inj hN).mp (e1.trans e2.symm)

theorem store_ok2 {M : Model} {A : Around} {E : Value → Shared → Prop} {i : Nat} {x : Str} {v : V} {u : Value} {Q : Unit → Shared → Prop} (I : Inv X pins σ H s) (hN : X.N.Nodup) (hi : X.N[i]? = some x) (hx : Loc X.env.scope x) (r : RelV v u)
    (h : ∀ s', Inv X pins (σ.set i (some v)) H s' → (∃ a, Heap.SameBut a s.heap s'.heap ∧ (a = X.env.locals ∨ X.env.cells.lookup x = some a)) → Q () s') (hf : X.fn x = true ∨ X.env.scope.names.lookup x = some .local := by first | exact .inl rfl | exact .inr rfl | assumption) : wpAny M A (storeName X.env x u) Q E s := by
  obtain ⟨m, hn, hl⟩ := id I.loc
  have hcls : (X.env.scope.kind == .class || (X.env.scope.kind == .module && X.env.locals != X.env.globals)) = false := by rw [I.ok.kind]; rfl
  have hiσ : i < σ.length := by rw [I.len]; exact (List.getElem?_eq_some_iff.mp hi).1
  have cne := I.cne
  have tracked : ∀ {a : Addr} {h' : Heap}, (∃ o, s.heap.get? a = some o ∧ H a = none) → Heap.SameBut a s.heap h' → HOk X.prog X.w H h' := fun {a h'} ha hs b ob e => by
    obtain ⟨_, _, hfree⟩ := ha
    refine (I.hok b ob e).stay (fun c w' hc q => (hs.2 c ?_).trans q) (fun _ q => q) fun _ _ q => q
    rintro rfl
    rcases hc with rfl | hc
    · rw [hfree] at e; cases e
    · rw [hfree] at hc; cases hc
  rcases hx with hk | hk
  · refine wpAny_storeName_local hk hn (fun h' hn' hs => ?_) hcls
    obtain ⟨oL, _, _, hoL, _⟩ := id hn
    refine h _ ⟨I.ok, I.os, I.bare, ⟨fun b o e n hb hx => ?_, fun b o e n hb hx => ?_, I.base.free, fun b o e hx => ?_, I.base.tups, I.base.frzs, I.base.tbls⟩, ⟨_, hn', fun j y v' e1 e2 e3 => ?_⟩, fun y c e => ?_, I.free, I.freeC, fun p hp => ?_, tracked ⟨oL, hoL, I.free⟩ hs, by simpa using I.len⟩ ⟨_, hs, .inl rfl⟩
    · exact (hs.2 b (Nat.ne_of_lt (Nat.lt_of_lt_of_le (Heap.lt_size e) I.ok.above))).trans (I.base.keep b o e n hb hx)
    · obtain ⟨sl, e1⟩ := I.base.slot b o e n hb hx
      exact ⟨sl, (hs.2 b (Nat.ne_of_lt (Nat.lt_of_lt_of_le (Heap.lt_size e) I.ok.above))).trans e1⟩
    · obtain ⟨o', e1⟩ := I.base.there b o e hx
      exact ⟨o', (hs.2 b (Nat.ne_of_lt (Nat.lt_of_lt_of_le (Heap.lt_size e) I.ok.above))).trans e1⟩
    · by_cases hj : j = i
      · subst hj
        rw [hi] at e1; cases e1
        rw [List.getElem?_set_self hiσ] at e2
        cases e2
        exact ⟨u, r, .inl ⟨hk, by simp⟩⟩
      · rw [List.getElem?_set_ne (Ne.symm hj)] at e2
        obtain ⟨u', r', q⟩ := hl j y v' e1 e2 e3
        refine ⟨u', r', ?_⟩
        rcases q with ⟨k, e⟩ | ⟨k, c, e, z⟩
        · refine .inl ⟨k, ?_⟩
          have : y ≠ x := fun e => hj (nodup_ix hN e1 (e ▸ hi))
          simp [this, e]
        · exact .inr ⟨k, c, e, z.sameBut hs (cne y c e)⟩
    · obtain ⟨w', z⟩ := I.cell y c e
      exact ⟨w', z.sameBut hs (cne y c e)⟩
    · obtain ⟨e, n, ne, nf, d⟩ := I.pin p hp
      exact ⟨(hs.2 p.1 ne).trans e, n, ne, nf, d⟩
  · have hfn : X.fn x = true := by
      rcases hf with z | z
      · exact z
      · rw [z] at hk; cases hk
    obtain ⟨c, hc⟩ := I.ok.has x (.inl hk)
    obtain ⟨w', z⟩ := I.cell x c hc
    refine wpAny_storeName_cell I.ok.kind hk hc z (fun h' hc' hs => ?_)
    obtain ⟨oc, hoc, hocd⟩ := id z
    refine h { s with heap := h' } ⟨I.ok, I.os, I.bare, ⟨fun b o e n hb hx => ?_, fun b o e n hb hx => ?_, I.base.free, fun b o e hx => ?_, I.base.tups, I.base.frzs, I.base.tbls⟩, ⟨m, hn.sameBut hs (Ne.symm (cne x c hc)), fun j y v' e1 e2 e3 => ?_⟩, fun y c' e => ?_, I.free, I.freeC, fun p hp => ?_, tracked ⟨oc, hoc, I.freeC x c hc⟩ hs, by simpa using I.len⟩ ⟨c, hs, .inr hc⟩
    · exact (hs.2 b (Nat.ne_of_lt (Nat.lt_of_lt_of_le (Heap.lt_size e) (I.ok.cab x c hfn hc)))).trans (I.base.keep b o e n hb hx)
    · obtain ⟨sl, e1⟩ := I.base.slot b o e n hb hx
      exact ⟨sl, (hs.2 b (Nat.ne_of_lt (Nat.lt_of_lt_of_le (Heap.lt_size e) (I.ok.cab x c hfn hc)))).trans e1⟩
    · obtain ⟨o', e1⟩ := I.base.there b o e hx
      exact ⟨o', (hs.2 b (Nat.ne_of_lt (Nat.lt_of_lt_of_le (Heap.lt_size e) (I.ok.cab x c hfn hc)))).trans e1⟩
    · by_cases hj : j = i
      · subst hj
        rw [hi] at e1; cases e1
        rw [List.getElem?_set_self hiσ] at e2
        cases e2
        exact ⟨u, r, .inr ⟨.inl hk, c, hc, hc'⟩⟩
      · rw [List.getElem?_set_ne (Ne.symm hj)] at e2
        obtain ⟨u', r', q⟩ := hl j y v' e1 e2 e3
        refine ⟨u', r', ?_⟩
        rcases q with q | ⟨k, c', e, z'⟩
        · exact .inl q
        · refine .inr ⟨k, c', e, z'.sameBut hs ?_⟩
          rintro rfl
          exact hj (nodup_ix hN e1 (I.ok.inj _ _ _ e hc ▸ hi))
    · by_cases hcc : c' = c
      · subst hcc; exact ⟨_, hc'⟩
      · obtain ⟨w2, z2⟩ := I.cell y c' e
        exact ⟨w2, z2.sameBut hs hcc⟩
    · obtain ⟨e, n, ne, nf, d⟩ := I.pin p hp
      refine ⟨(hs.2 p.1 ?_).trans e, n, ne, nf, d⟩
      intro q
      rw [q, hoc] at e
      have q' : oc = p.2 := Option.some.inj e
      exact d w' (by rw [← q']; exact hocd)
theorem store_ok {M : Model} {A : Around} {E : Value → Shared → Prop} {i : Nat} {x : Str} {v : V} {u : Value} {Q : Unit → Shared → Prop} (I : Inv X pins σ H s) (hN : X.N.Nodup) (hi : X.N[i]? = some x) (hx : Loc X.env.scope x) (r : RelV v u)
    (h : ∀ s', Inv X pins (σ.set i (some v)) H s' → Q () s') (hf : X.fn x = true ∨ X.env.scope.names.lookup x = some .local := by first | exact .inl rfl | exact .inr rfl | assumption) : wpAny M A (storeName X.env x u) Q E s :=
  store_ok2 I hN hi hx r (fun s' I' _ => h s' I') hf
theorem Inv.call' {s' : Shared} {ch : List Addr} (I : Inv X pins σ H s) (ho : s'.os = s.os) (u : Un (frs X.stack) ch H H' s.heap s'.heap) (hok : HOk X.prog X.w H' s'.heap) (hg : AllBare s'.gens)
    (hch : ∀ b ∈ ch, (b ∈ X.ex ∨ X.s_0.heap.objs.size ≤ b) ∧ b ≠ X.env.locals ∧ (∀ x c, X.env.cells.lookup x = some c → c ≠ b) ∧ ∀ p ∈ X.pn ++ pins, p.1 ≠ b) : Inv X pins σ H' s' := by
  obtain ⟨h', g', d', t', o'⟩ := s'
  have e : o' = s.os := ho
  subst e
  exact I.call (g' := g') (t' := t') (d' := d') u hok hg hch
end

abbrev XK := Value → Option Addr → Hp → Prop
abbrev St := List (Option V)
abbrev VK := V → Hp → Prop
abbrev TE := St → Hp → VK → Prop
abbrev TT := St → Hp → (Bool → Hp → Prop) → Prop
abbrev TA := St → Hp → (List V → Hp → Prop) → Prop
structure Ends where
  nx : St → Hp → Prop
  rt : VK
  bk : St → Hp → Prop := fun _ _ => False
  ct : St → Hp → Prop := fun _ _ => False
abbrev TS := Ends → St → Hp → Prop

def EP (X : Cx) (pins : List (Addr × Obj)) (σ : St) (Q : VK) (u : Value) (s' : Shared) : Prop := ∃ v H', Inv X pins σ H' s' ∧ RelV v u ∧ Q v H'
def TP (X : Cx) (pins : List (Addr × Obj)) (σ : St) (Q : Bool → Hp → Prop) (b : Bool) (s' : Shared) : Prop := ∃ H', Inv X pins σ H' s' ∧ Q b H'
def AP (X : Cx) (pins : List (Addr × Obj)) (σ : St) (Q : List V → Hp → Prop) (us : List Value) (s' : Shared) : Prop := ∃ vs H', Inv X pins σ H' s' ∧ Vals vs us ∧ Q vs H'
def SP (X : Cx) (pins : List (Addr × Obj)) (D : Ends) (f : Flow) (s' : Shared) : Prop :=
  match f with
  | .next => ∃ σ' H', Inv X pins σ' H' s' ∧ D.nx σ' H'
  | .brk => ∃ σ' H', Inv X pins σ' H' s' ∧ D.bk σ' H'
  | .cont => ∃ σ' H', Inv X pins σ' H' s' ∧ D.ct σ' H'
  | .ret u => ∃ v σ' H', Inv X pins σ' H' s' ∧ RelV v u ∧ D.rt v H'

def PE (X : Cx) (e : Expr) (t : TE) : Prop :=
  ∀ (pins : List (Addr × Obj)) (s : Shared) (σ : St) (H : Hp) (Q : VK), Inv X pins σ H s → t σ H Q → wpAny (model X.prog X.w) X.A (eval e X.env) (EP X pins σ Q) X.xe s
def PT (X : Cx) (e : Expr) (t : TT) : Prop :=
  ∀ (pins : List (Addr × Obj)) (s : Shared) (σ : St) (H : Hp) (Q : Bool → Hp → Prop), Inv X pins σ H s → t σ H Q → wpAny (model X.prog X.w) X.A (isTrue e X.env (eval e X.env)) (TP X pins σ Q) X.xe s
def PW (X : Cx) (e : Expr) (t : TT) : Prop :=
  ∀ (whole : Sem Value) (pins : List (Addr × Obj)) (s : Shared) (σ : St) (H : Hp) (Q : Bool → Hp → Prop), Inv X pins σ H s → t σ H Q → wpAny (model X.prog X.w) X.A (isTrue e X.env whole) (TP X pins σ Q) X.xe s
theorem PW.pt {X : Cx} {e : Expr} {t : TT} (h : PW X e t) : PT X e t := h _
def PA (X : Cx) (es : List Expr) (t : TA) : Prop :=
  ∀ (pos : Pos) (pins : List (Addr × Obj)) (s : Shared) (σ : St) (H : Hp) (Q : List V → Hp → Prop), Inv X pins σ H s → t σ H Q → wpAny (model X.prog X.w) X.A (spliced (backTo pos (starEach es X.env))) (AP X pins σ Q) X.xe s
def PS (X : Cx) (st : Stmt) (t : TS) : Prop :=
  ∀ (pins : List (Addr × Obj)) (s : Shared) (σ : St) (H : Hp) (D : Ends), Inv X pins σ H s → t D σ H → wpAny (model X.prog X.w) X.A (exec st X.env) (SP X pins D) X.xe s
def PSs (X : Cx) (st : List Stmt) (t : TS) : Prop :=
  ∀ (pins : List (Addr × Obj)) (s : Shared) (σ : St) (H : Hp) (D : Ends), Inv X pins σ H s → t D σ H → wpAny (model X.prog X.w) X.A (execs st X.env) (SP X pins D) X.xe s
theorem thn {α : Type} {t : Sem α} {Q Q' : α → Shared → Prop} {M : Model} {A : Around} {E : Value → Shared → Prop} {s : Shared} (h : wpAny M A t Q E s) (hQ : ∀ a s, Q a s → Q' a s) : wpAny M A t Q' E s := wpAny_mono h hQ fun _ _ x => x
end L2

namespace L2
open PySem PySem.Spec PyProof.Rows
section
variable {X : Cx}

def tVar (i : Nat) : TE := fun σ H Q => ∃ v, σ[i]? = some (some v) ∧ Q v H
def tC (v : V) : TE := fun _ H Q => Q v H
theorem pe_var {i : Nat} {x : Str} {pos : Pos} (hN : X.N[i]? = some x) (hv : Vis X.env.scope x) (hd : (x == ("__debug__" : Str)) = false := by decide) (hcd : (x == ("__classdict__" : Str)) = false := by decide) : PE X (.Name x pos) (tVar i) := by
  intro pins s σ H Q I h
  obtain ⟨v, e, h⟩ := h
  obtain ⟨m, hn, hl⟩ := I.loc
  obtain ⟨u, r, l⟩ := hl i x v hN e hv
  have fin : EP X pins σ Q u s := ⟨v, H, I, r, h⟩
  rcases l with ⟨hk, hm⟩ | ⟨hk, c, hc, hcell⟩
  · exact wpAny_Name (wpAny_loadName_local I.ok.kind hk hn hm fin) hd
  · rcases hk with hk | hk
    · exact wpAny_Name (wpAny_loadName_cell I.ok.kind hk hc hcell fin) hd
    · exact wpAny_Name (wpAny_loadName_free I.ok.kind hk hc hcell fin hcd) hd
theorem pe_int {i j pos} : PE X (.Constant (.int i) j pos) (tC (.int i)) := fun _ _ _ H _ I h => wpAny_Constant_int ⟨.int i, H, I.tok _, ⟨_, rfl⟩, h⟩
theorem pe_bl {b j pos} : PE X (.Constant (.bool b) j pos) (tC (.bl b)) := fun _ _ _ H _ I h => Constant_bool ⟨.bl b, H, I, rfl, h⟩
theorem pe_non {j pos} : PE X (.Constant .none j pos) (tC .non) := fun _ _ _ H _ I h => Constant_none ⟨.non, H, I, rfl, h⟩
def Gl (X : Cx) (x : Str) : Prop := X.env.kindOf x = some .globalImplicit
theorem ld_glob {E : Value → Shared → Prop} {pins : List (Addr × Obj)} {s : Shared} {σ : St} {H : Hp} {x : Str} {u : Value} {pos : Pos} {Q : Value → Shared → Prop} (I : Inv X pins σ H s) (hg : Gl X x) (hm : X.mg x = some u) (h : Q u s)
    (hd : (x == ("__debug__" : Str)) = false := by decide) : wpAny (model X.prog X.w) X.A (eval (.Name x pos) X.env) Q E s :=
  Calls.Name_function_global I.ok.kind hg (Calls.loadGlobal_global (by rw [I.ok.glob]; exact I.mod.glob.keeps I.bk) hm h) hd
theorem ld_blt {E : Value → Shared → Prop} {pins : List (Addr × Obj)} {s : Shared} {σ : St} {H : Hp} {x : Str} {u : Value} {pos : Pos} {Q : Value → Shared → Prop} (I : Inv X pins σ H s) (hg : Gl X x) (hm : X.mg x = none) (hv : bootBuiltins x = some u) (h : Q u s)
    (hn : x ≠ "__name__" := by decide) (hd : (x == ("__debug__" : Str)) = false := by decide) : wpAny (model X.prog X.w) X.A (eval (.Name x pos) X.env) Q E s := by
  obtain ⟨mb, h1, h2⟩ := I.mod.blt
  exact Calls.Name_function_global I.ok.kind hg (Calls.loadGlobal_builtin (by rw [I.ok.glob]; exact I.mod.glob.keeps I.bk) hm (by rw [I.ok.blt]; exact h1.keeps I.bk) ((h2 x hn).trans hv) h) hd
theorem pe_glob {x : Str} {v : V} {u : Value} {pos : Pos} (hg : Gl X x) (hm : X.mg x = some u) (r : RelV v u) (hd : (x == ("__debug__" : Str)) = false := by decide) : PE X (.Name x pos) (tC v) :=
  fun _ _ _ H _ I h => ld_glob I hg hm ⟨v, H, I, r, h⟩ hd
variable {a b : Expr} {ta tb : TE} {pos : Pos}
def PC (X : Cx) (op : CmpOp) (a b : Expr) (t : TE) : Prop :=
  ∀ (pins : List (Addr × Obj)) (s : Shared) (σ : St) (H : Hp) (Q : VK), Inv X pins σ H s → t σ H Q →
    wpAny (model X.prog X.w) X.A (eval a X.env) (fun v s₁ => wpAny (model X.prog X.w) X.A (eval b X.env) (fun u s₂ => wpAny (model X.prog X.w) X.A (compareOp op v u) (EP X pins σ Q) X.xe s₂) X.xe s₁) X.xe s
theorem nobehind (b : Expr) {op : CmpOp} (h : op ≠ .In) (h2 : op ≠ .NotIn) : behindInMarks op b = false := by
  have e1 : (op == CmpOp.In) = false := by cases op <;> first | rfl | exact absurd rfl h
  have e2 : (op == CmpOp.NotIn) = false := by cases op <;> first | rfl | exact absurd rfl h2
  cases b <;> simp [behindInMarks, e1, e2]
def tIsN (ta : TE) : TE := fun σ H Q => ta σ H fun x H1 => Q (.bl (decide (x = .non))) H1
def tNotN (ta : TE) : TE := fun σ H Q => ta σ H fun x H1 => Q (.bl (!decide (x = .non))) H1
theorem RelV.none_iff {x : V} {v : Value} (r : RelV x v) : (v == Value.none) = decide (x = .non) := by
  cases x with
  | non => cases r; rfl
  | bl _ => cases r; rfl
  | int _ => obtain ⟨t, rfl⟩ := r; rfl
  | str _ => obtain ⟨t, rfl⟩ := r; rfl
  | byt _ => obtain ⟨t, rfl⟩ := r; rfl
  | flt _ => obtain ⟨t, rfl⟩ := r; rfl
  | ref _ => cases r; rfl
  | ty _ => cases r; rfl
theorem pc_isN {j pos'} (ha : PE X a ta) : PC X .Is a (.Constant .none j pos') (tIsN ta) := by
  intro pins s σ H Q I h
  refine thn (ha pins s σ H _ I h) fun v s1 ⟨x, H1, I1, r1, q1⟩ => ?_
  exact Constant_none (is_none_gen ⟨.bl _, H1, I1, by rw [r1.none_iff]; rfl, q1⟩)
theorem pc_notN {j pos'} (ha : PE X a ta) : PC X .IsNot a (.Constant .none j pos') (tNotN ta) := by
  intro pins s σ H Q I h
  refine thn (ha pins s σ H _ I h) fun v s1 ⟨x, H1, I1, r1, q1⟩ => ?_
  exact Constant_none (isnot_none_gen ⟨.bl _, H1, I1, by rw [r1.none_iff]; rfl, q1⟩)
def tB (t : TE) : TT := fun σ H Q => t σ H fun x H1 => ∃ c, x = .bl c ∧ Q c H1
theorem pt_cmp {op : CmpOp} {t : TE} (h : PC X op a b t) (h1 : behindInMarks op b = false := by first | exact nobehind _ (by decide) (by decide) | rfl) : PT X (.Compare a [op] [b] pos) (tB t) := by
  intro pins s σ H Q I hw
  refine wpAny_isTrue_Compare1 (thn (h pins s σ H _ I hw) fun v s1 h1 => thn h1 fun u s2 h2 => thn h2 fun c s3 ⟨x, H1, I1, r1, q1⟩ => ?_) h1
  obtain ⟨d, rfl, q⟩ := q1
  cases r1
  exact wpAny_truthy_bool ⟨H1, I1, q⟩
theorem pt_val {e : Expr} {t : TE} (h : PE X e t) (he : ∀ whole, isTrue e X.env whole = (do let v ← whole; standAt e.pos; holding [v] (truthy v)) := by intro _; rfl) : PT X e (tB t) := by
  intro pins s σ H Q I hw
  refine isTrue_plain (thn (h pins s σ H _ I hw) fun v s1 ⟨x, H1, I1, r1, q1⟩ => ?_) (he _)
  obtain ⟨d, rfl, q⟩ := q1
  cases r1
  exact wpAny_truthy_bool ⟨H1, I1, q⟩

variable {tA tB' : TT} {rest : List Expr}
def tAnd (t u : TT) : TT := fun σ H Q => t σ H fun c H1 => if c = true then u σ H1 Q else Q false H1
def tOr (t u : TT) : TT := fun σ H Q => t σ H fun c H1 => if c = true then Q true H1 else u σ H1 Q
def tNot (t : TT) : TT := fun σ H Q => t σ H fun c H1 => Q (!c) H1
theorem pw_and1 (ha : PT X a tA) : PW X (.BoolOp .And [a] pos) tA := by
  intro wh pins s σ H Q I h
  refine isTrue_and (thn (ha pins s σ H Q I h) fun c s1 e => ?_)
  cases c with
  | true => exact isTrue_and_nil e
  | false => exact e
theorem pw_or1 (ha : PT X a tA) : PW X (.BoolOp .Or [a] pos) tA := by
  intro wh pins s σ H Q I h
  refine isTrue_or (thn (ha pins s σ H Q I h) fun c s1 e => ?_)
  cases c with
  | false => exact isTrue_or_nil e
  | true => exact e
theorem pw_and (ha : PT X a tA) (hb : PW X (.BoolOp .And (b :: rest) pos) tB') : PW X (.BoolOp .And (a :: b :: rest) pos) (tAnd tA tB') := by
  intro wh pins s σ H Q I h
  refine isTrue_and (thn (ha pins s σ H _ I h) fun c s1 ⟨H1, I1, q1⟩ => ?_)
  cases c with
  | true => exact hb wh pins s1 σ H1 Q I1 q1
  | false => exact ⟨H1, I1, q1⟩
theorem pw_or (ha : PT X a tA) (hb : PW X (.BoolOp .Or (b :: rest) pos) tB') : PW X (.BoolOp .Or (a :: b :: rest) pos) (tOr tA tB') := by
  intro wh pins s σ H Q I h
  refine isTrue_or (thn (ha pins s σ H _ I h) fun c s1 ⟨H1, I1, q1⟩ => ?_)
  cases c with
  | true => exact ⟨H1, I1, q1⟩
  | false => exact hb wh pins s1 σ H1 Q I1 q1
theorem pt_not (ha : PT X a tA) : PT X (.UnaryOp .Not a pos) (tNot tA) := by
  intro pins s σ H Q I h
  exact isTrue_not (ha pins s σ H (fun c H1 => Q (!c) H1) I h)
def tAndV (ta tb : TE) : TE := fun σ H Q => ta σ H fun x H1 => ∃ c, x = .bl c ∧ if c = true then tb σ H1 Q else Q (.bl false) H1
def tOrV (ta tb : TE) : TE := fun σ H Q => ta σ H fun x H1 => ∃ c, x = .bl c ∧ if c = true then Q (.bl true) H1 else tb σ H1 Q
def tNotV (ta : TE) : TE := fun σ H Q => ta σ H fun x H1 => ∃ c, x = .bl c ∧ Q (.bl (!c)) H1
theorem pe_one {op} {t : TE} (h : PE X a t) : PE X (.BoolOp op [a] pos) t := fun pins s σ H Q I hw => BoolOp_one (h pins s σ H Q I hw)
theorem pe_and (ha : PE X a ta) (hb : PE X (.BoolOp .And (b :: rest) pos) tb) : PE X (.BoolOp .And (a :: b :: rest) pos) (tAndV ta tb) := by
  intro pins s σ H Q I h
  refine BoolOp_and (thn (ha pins s σ H _ I h) fun v s1 ⟨x, H1, I1, r1, q1⟩ => ?_)
  obtain ⟨c, rfl, q1⟩ := q1
  cases r1
  refine wpAny_truthy_bool ?_
  cases c with
  | true => exact hb pins s1 σ H1 Q I1 q1
  | false => exact ⟨.bl false, H1, I1, rfl, q1⟩
def tIf (t : TT) (ta tb : TE) : TE := fun σ H Q => t σ H fun c H1 => if c = true then ta σ H1 Q else tb σ H1 Q
theorem pe_ifExp {c : Expr} (hc : PT X c tA) (ha : PE X a ta) (hb : PE X b tb) : PE X (.IfExp c a b pos) (tIf tA ta tb) := by
  intro pins s σ H Q I h
  refine wpAny_IfExp (thn (hc pins s σ H _ I h) fun d s1 ⟨H1, I1, q1⟩ => ?_)
  cases d with
  | true => exact ha pins s1 σ H1 Q I1 q1
  | false => exact hb pins s1 σ H1 Q I1 q1
end
end L2

namespace L2
open PySem PySem.Spec PyProof.Rows

def SqL (K : PySem.W.Frag) (H : Hp) (a : Addr) (xs : List V) : Prop :=
  Rd H a (.lst xs) ∨
    ∃ (o : Obj) (its : Array Value) (n : Nat), K.lookup a = some o ∧ o.cls = .type "list" ∧ o.dict = none ∧ o.data = .seq its n ∧ its.size ≤ sizeLine ∧ Vals xs its.toList
def SqT (K : PySem.W.Frag) (H : Hp) (a : Addr) (xs : List V) : Prop :=
  Rd H a (.tup xs) ∨
    ∃ (o : Obj) (its : Array Value) (n : Nat), K.lookup a = some o ∧ o.cls = .type "tuple" ∧ o.data = .seq its n ∧ its.size ≤ sizeLine ∧ Vals xs its.toList
def absV : Value → Option V
  | .none => some .non
  | .bool b => some (.bl b)
  | .int i _ => some (.int i)
  | .str x _ => some (.str x)
  | .bytes b _ => some (.byt b)
  | .float b _ => some (.flt b)
  | .ref a => some (.ref a)
  | .type n => some (.ty n)
  | _ => none
theorem RelV.abs {x : V} {u : Value} (r : RelV x u) : absV u = some x := by
  cases x with
  | non => cases r; rfl
  | bl _ => cases r; rfl
  | int _ => obtain ⟨t, rfl⟩ := r; rfl
  | str _ => obtain ⟨t, rfl⟩ := r; rfl
  | byt _ => obtain ⟨t, rfl⟩ := r; rfl
  | flt _ => obtain ⟨t, rfl⟩ := r; rfl
  | ref _ => cases r; rfl
  | ty _ => cases r; rfl
theorem RelV.inj {x y : V} {u : Value} (r : RelV x u) (q : RelV y u) : x = y := Option.some.inj (r.abs.symm.trans q.abs)
theorem Vals.inj : ∀ {xs ys : List V} {us : List Value}, Vals xs us → Vals ys us → xs = ys
  | _, _, _, .nil, .nil => rfl
  | _, _, _, .cons r t, .cons r' t' => by rw [r.inj r', Vals.inj t t']
section
variable {X : Cx} {pins : List (Addr × Obj)} {σ : St} {H : Hp} {s : Shared} {a : Addr} {xs ys : List V}
theorem SqL.of {K : PySem.W.Frag} (h : H a = some (.lst xs)) : SqL K H a xs := .inl (.inl h)
theorem SqT.of {K : PySem.W.Frag} (h : H a = some (.tup xs)) : SqT K H a xs := .inl (.inl h)
theorem Inv.list (I : Inv X pins σ H s) (h : SqL X.K H a xs) : ∃ its : List Value, Vals xs its ∧ PlainL s.heap a its.toArray ∧ xs.length ≤ sizeLine := by
  rcases h with h | ⟨o, its, n, hk, hc, hd, hs, hz, r⟩
  · obtain ⟨z, its, n, r, e⟩ := h.ok I.hok
    exact ⟨its, r, ⟨_, n, e, rfl, rfl, rfl⟩, z⟩
  · refine ⟨its.toList, r, ⟨o, n, I.kIn a o hk, hc, hd, by simpa using hs⟩, ?_⟩
    have e := r.length
    simp only [Array.length_toList] at e
    omega
theorem Inv.tuple (I : Inv X pins σ H s) (h : SqT X.K H a xs) : ∃ its : List Value, Vals xs its ∧ IsTup s.heap a its.toArray ∧ xs.length ≤ sizeLine := by
  rcases h with h | ⟨o, its, n, hk, hc, hs, hz, r⟩
  · obtain ⟨z, its, r, p⟩ := h.ok I.hok
    exact ⟨its, r, p, z⟩
  · refine ⟨its.toList, r, ⟨o, I.kIn a o hk, hc, n, by simpa using hs⟩, ?_⟩
    have e := r.length
    simp only [Array.length_toList] at e
    omega
theorem Inv.list_inj (I : Inv X pins σ H s) (h : SqL X.K H a xs) (h' : SqL X.K H a ys) : xs = ys := by
  obtain ⟨its, r, ⟨o, n, e, _, _, d⟩, _⟩ := I.list h
  obtain ⟨its', r', ⟨o', n', e', _, _, d'⟩, _⟩ := I.list h'
  rw [e] at e'; cases e'
  rw [d] at d'
  injection d' with d1 _
  have : its = its' := by simpa using congrArg Array.toList d1
  subst this
  exact r.inj r'
end

abbrev Cx.wish (X : Cx) (E : Value → Shared → Prop) : Cx := { X with xe := E }
abbrev Cx.nox (X : Cx) : Cx := X.wish fun _ _ => False
theorem Cx.Ok.wish {X : Cx} (ok : X.Ok) (E : Value → Shared → Prop) : (X.wish E).Ok :=
  ⟨ok.mod, ok.kind, ok.glob, ok.blt, ok.above, ok.inj, ok.has, ok.cab, ok.hd, ok.frames, ok.stk, ok.exf, ok.bs, ok.bsz, ok.noex, ok.exfs, ok.funs, ok.frf⟩
theorem Cx.Ok.unwish {X : Cx} {E : Value → Shared → Prop} (ok : (X.wish E).Ok) : X.Ok :=
  ⟨ok.mod, ok.kind, ok.glob, ok.blt, ok.above, ok.inj, ok.has, ok.cab, ok.hd, ok.frames, ok.stk, ok.exf, ok.bs, ok.bsz, ok.noex, ok.exfs, ok.funs, ok.frf⟩
section
variable {X : Cx} {pins : List (Addr × Obj)} {σ : St} {H : Hp} {s : Shared} {E : Value → Shared → Prop}
theorem Inv.wish (I : Inv X pins σ H s) (E : Value → Shared → Prop) : Inv (X.wish E) pins σ H s := ⟨I.ok.wish E, I.os, I.bare, I.base, I.loc, I.cell, I.free, I.freeC, I.pin, I.hok, I.len⟩
theorem Inv.unwish (I : Inv (X.wish E) pins σ H s) : Inv X pins σ H s := ⟨I.ok.unwish, I.os, I.bare, I.base, I.loc, I.cell, I.free, I.freeC, I.pin, I.hok, I.len⟩
theorem SP.unwish {D : Ends} {f : Flow} {s' : Shared} (h : SP (X.wish E) pins D f s') : SP X pins D f s' := by
  cases f with
  | next => obtain ⟨σ', H', I, q⟩ := h; exact ⟨σ', H', I.unwish, q⟩
  | brk => obtain ⟨σ', H', I, q⟩ := h; exact ⟨σ', H', I.unwish, q⟩
  | cont => obtain ⟨σ', H', I, q⟩ := h; exact ⟨σ', H', I.unwish, q⟩
  | ret u => obtain ⟨v, σ', H', I, r, q⟩ := h; exact ⟨v, σ', H', I.unwish, r, q⟩
theorem PSs.nox {st : List Stmt} {t : TS} (h : PSs X.nox st t) : PSs X st t := fun pins s σ H D I hw =>
  wpAny_mono (h pins s σ H D (I.wish _) hw) (fun _ _ q => q.unwish) fun _ _ z => False.elim z
end

section
variable {X : Cx} {st : Stmt} {rest : List Stmt} {t u : TS} {e : Expr} {te : TE} {pos : Pos}
def tNext : TS := fun D σ H => D.nx σ H
def tSeq (t u : TS) : TS := fun D σ H => t { D with nx := u D } σ H
theorem pss_nil : PSs X [] tNext := fun _ _ σ H _ I h => wpAny_execs_nil ⟨σ, H, I, h⟩
theorem pss_cons (h1 : PS X st t) (h2 : PSs X rest u) : PSs X (st :: rest) (tSeq t u) := by
  intro pins s σ H D I h
  refine wpAny_execs_cons (thn (h1 pins s σ H { D with nx := u D } I h) fun f s1 q => ?_)
  cases f with
  | next =>
    obtain ⟨σ', H', I', q⟩ := q
    exact h2 pins s1 σ' H' D I' q
  | ret v => exact q
  | brk => exact q
  | cont => exact q
theorem pss_one (h1 : PS X st t) : PSs X [st] t := by
  intro pins s σ H D I h
  refine wpAny_execs_cons (thn (h1 pins s σ H D I h) fun f s1 q => ?_)
  cases f with
  | next => exact wpAny_execs_nil q
  | ret v => exact q
  | brk => exact q
  | cont => exact q
theorem Inv.quiet {pins : List (Addr × Obj)} {σ : St} {H : Hp} {s : Shared} (I : Inv X pins σ H s) : interactive X.env = false := by simp [interactive, I.ok.kind]
def tDrop (te : TE) : TS := fun D σ H => te σ H fun _ H1 => D.nx σ H1
theorem ps_expr (he : PE X e te) (hs : swapsWith e none pos.line X.env = pure false := by rfl) : PS X (.Expr e pos) (tDrop te) := by
  intro pins s σ H D I h
  exact wpAny_Expr_any (thn (he pins s σ H _ I h) fun v s1 ⟨x, H1, I1, r1, q1⟩ => ⟨σ, H1, I1, q1⟩) I.quiet hs
def tRet (te : TE) : TS := fun D σ H => te σ H D.rt
theorem ps_ret (he : PE X e te) : PS X (.Return (some e) pos) (tRet te) := by
  intro pins s σ H D I h
  exact wpAny_Return_some (thn (he pins s σ H _ I h) fun v s1 ⟨x, H1, I1, r1, q1⟩ => ⟨x, σ, H1, I1, r1, q1⟩)
def tRetN : TS := fun D _ H => D.rt .non H
def tIfS (c : TT) (t u : TS) : TS := fun D σ H => c σ H fun b H1 => if b = true then t D σ H1 else u D σ H1
theorem ps_if {c : Expr} {a b : List Stmt} {tc : TT} (hc : PT X c tc) (ha : PSs X a t) (hb : PSs X b u) : PS X (.If c a b pos) (tIfS tc t u) := by
  intro pins s σ H D I h
  refine wpAny_If (thn (hc pins s σ H _ I h) fun d s1 ⟨H1, I1, q1⟩ => ?_)
  cases d with
  | true => exact ha pins s1 σ H1 D I1 q1
  | false => exact hb pins s1 σ H1 D I1 q1
end

abbrev TG := V → St → Hp → (St → Hp → Prop) → Prop
abbrev TGs := List V → St → Hp → (St → Hp → Prop) → Prop
def PG (X : Cx) (target : Expr) (t : TG) : Prop :=
  ∀ (pins : List (Addr × Obj)) (s : Shared) (σ : St) (H : Hp) (v : V) (u : Value) (Q : St → Hp → Prop), Inv X pins σ H s → RelV v u → t v σ H Q →
    wpAny (model X.prog X.w) X.A (assign target X.env u) (fun _ s' => ∃ σ' H', Inv X pins σ' H' s' ∧ Q σ' H') X.xe s
def PGs (X : Cx) (ts : List Expr) (t : TGs) : Prop :=
  ∀ (pins : List (Addr × Obj)) (s : Shared) (σ : St) (H : Hp) (vs : List V) (us : List Value) (Q : St → Hp → Prop), Inv X pins σ H s → Vals vs us → t vs σ H Q →
    wpAny (model X.prog X.w) X.A (assignInOrder ((assignEach ts X.env).map (·.2)) us) (fun _ s' => ∃ σ' H', Inv X pins σ' H' s' ∧ Q σ' H') X.xe s
abbrev TSet := V → V → V → Hp → (Hp → Prop) → Prop
def PSet (X : Cx) (t : TSet) : Prop :=
  ∀ (pins : List (Addr × Obj)) (s : Shared) (σ : St) (H : Hp) (o i v : V) (ov iv u : Value) (Q : Hp → Prop), Inv X pins σ H s → RelV o ov → RelV i iv → RelV v u → t o i v H Q →
    wpAny (model X.prog X.w) X.A (setItem ov iv u) (fun _ s' => ∃ H', Inv X pins σ H' s' ∧ Q H') X.xe s
abbrev TIp := V → V → Hp → VK → Prop
def PIp (X : Cx) (op : Operator) (t : TIp) : Prop :=
  ∀ (pins : List (Addr × Obj)) (s : Shared) (σ : St) (H : Hp) (x y : V) (v u : Value) (Q : VK), Inv X pins σ H s → RelV x v → RelV y u → t x y H Q →
    wpAny (model X.prog X.w) X.A (inplaceOp op v u) (EP X pins σ Q) X.xe s
section
variable {X : Cx} {pos : Pos}
def gName (i : Nat) : TG := fun v σ H Q => Q (σ.set i (some v)) H
theorem pg_name {i : Nat} {x : Str} (hN : X.N.Nodup) (hi : X.N[i]? = some x) (hx : Loc X.env.scope x) (hf : X.fn x = true ∨ X.env.scope.names.lookup x = some .local := by first | exact .inl rfl | exact .inr rfl | assumption) : PG X (.Name x pos) (gName i) := by
  intro pins s σ H v u Q I r h
  exact wpAny_assign_Name (store_ok I hN hi hx r (fun s' I' => ⟨_, H, I', h⟩) hf)
def gNil : TGs := fun vs σ H Q => vs = [] ∧ Q σ H
def gCons (t : TG) (u : TGs) : TGs := fun vs σ H Q => ∃ v r, vs = v :: r ∧ t v σ H fun σ' H' => u r σ' H' Q
theorem pgs_nil : PGs X [] gNil := by
  intro pins s σ H vs us Q I r h
  obtain ⟨e, h⟩ := h
  subst e
  cases r
  exact assignInOrder_nil ⟨σ, H, I, h⟩
theorem pgs_cons {e : Expr} {es : List Expr} {t : TG} {u : TGs} (h1 : PG X e t) (h2 : PGs X es u)
    (hs : (assignEach (e :: es) X.env).map (·.2) = assign e X.env :: (assignEach es X.env).map (·.2) := by rfl) : PGs X (e :: es) (gCons t u) := by
  intro pins s σ H vs us Q I r h
  obtain ⟨v, vr, e1, h⟩ := h
  subst e1
  cases r with
  | cons r rr =>
    rw [hs]
    refine assignInOrder_cons (thn (h1 pins s σ H _ _ _ I r h) fun _ s1 ⟨σ1, H1, I1, q1⟩ => ?_)
    exact h2 pins s1 σ1 H1 _ _ Q I1 rr q1
def gTup (K : PySem.W.Frag) (n : Nat) (t : TGs) : TG := fun v σ H Q => ∃ a xs, v = .ref a ∧ SqT K H a xs ∧ xs.length = n ∧ t xs σ H Q
theorem pg_tup {es : List Expr} {k : Nat} {t : TGs} {n : Nat} (hc : X.calm = true) (h : PGs X es t)
    (hn : (assignEach es X.env).length = n := by rfl) (hst : (assignEach es X.env).findIdx? (·.1) = none := by rfl) : PG X (.Tuple es k pos) (gTup X.K n t) := by
  intro pins s σ H v u Q I r hw
  obtain ⟨a, xs, e1, hq, hl, hw⟩ := hw
  subst e1
  cases r
  obtain ⟨its, rv, ht, hz⟩ := I.tuple hq
  refine assign_Tuple_tuple (I.ok.hd hc) ht (by simp [hn, ← hl, rv.length]) hst fun h' hx => ?_
  have I1 : Inv X pins σ H { s with heap := h' } := I.kept (t' := s.toks) fun b o e => hx b o (Nat.ne_of_lt (Heap.lt_size e)) e
  exact h pins _ σ H xs _ Q I1 (by simpa using rv) hw
def gSub (to ti : TE) (t : TSet) : TG := fun v σ H Q => to σ H fun o H1 => ti σ H1 fun i H2 => t o i v H2 fun H3 => Q σ H3
theorem pg_sub {o i : Expr} {to ti : TE} {t : TSet} (ho : PE X o to) (hi : PE X i ti) (hs : PSet X t)
    (ha : ∀ v, assign (.Subscript o i pos) X.env v = (do
      let ov ← holding [v] (eval o X.env)
      let iv ← holding [v, ov] (eval i X.env)
      standAt pos
      holding [v, ov, iv] (setItem ov iv v)
      release [v, ov, iv] []) := by intro _; rfl) : PG X (.Subscript o i pos) (gSub to ti t) := by
  intro pins s σ H v u Q I r h
  rw [ha]
  refine wpAny_bind (wpAny_holding (thn (ho pins s σ H _ I h) fun ov s1 ⟨x, H1, I1, r1, q1⟩ => ?_))
  refine wpAny_bind (wpAny_holding (thn (hi pins s1 σ H1 _ I1 q1) fun iv s2 ⟨y, H2, I2, r2, q2⟩ => ?_))
  refine wpAny_bind (wpAny_standAt (wpAny_bind (wpAny_holding (thn (hs pins s2 σ H2 x y v ov iv u _ I2 r1 r2 r q2) fun _ s3 ⟨H3, I3, q3⟩ => ?_))))
  exact wpAny_release ⟨σ, H3, I3, q3⟩
def tAsg (te : TE) (g : TG) : TS := fun D σ H => te σ H fun x H1 => g x σ H1 D.nx
theorem ps_asg {tg e : Expr} {te : TE} {g : TG} (he : PE X e te) (hg : PG X tg g) (hs : swapsWithSole [tg] e pos.line X.env = pure false := by rfl) (hw : swappedStores [tg] e X.env = pure none := by rfl)
    (h1 : (assignEach [tg] X.env).map (·.2) = [assign tg X.env] := by rfl) : PS X (.Assign [tg] e pos) (tAsg te g) := by
  intro pins s σ H D I h
  refine wpAny_Assign_stores (thn (he pins s σ H _ I h) fun v s1 ⟨x, H1, I1, r1, q1⟩ => ?_) hs hw
  rw [h1]
  exact thn (hg pins s1 σ H1 x v _ I1 r1 q1) fun _ s2 q => q
theorem ps_set {i : Nat} {x : Str} {e : Expr} {te : TE} {pos' : Pos} (hN : X.N.Nodup) (hi : X.N[i]? = some x) (hx : Loc X.env.scope x) (he : PE X e te) (hs : swapsWith e (some (.Name x pos')) pos.line X.env = pure false := by rfl) (hf : X.fn x = true ∨ X.env.scope.names.lookup x = some .local := by first | exact .inl rfl | exact .inr rfl | assumption) :
    PS X (.Assign [.Name x pos'] e pos) (tAsg te (gName i)) := by
  intro pins s σ H D I h
  refine wpAny_Assign_Name (thn (he pins s σ H _ I h) fun v s1 ⟨y, H1, I1, r1, q1⟩ => ?_) hs
  exact store_ok I1 hN hi hx r1 (fun s2 I2 => ⟨_, H1, I2, q1⟩) hf
def tAug (i : Nat) (te : TE) (ti : TIp) : TS := fun D σ H => ∃ x, σ[i]? = some (some x) ∧ te σ H fun y H1 => ti x y H1 fun z H2 => D.nx (σ.set i (some z)) H2
theorem ps_aug {i : Nat} {x : Str} {e : Expr} {te : TE} {op : Operator} {ti : TIp} {pos' : Pos} (hN : X.N.Nodup) (hi : X.N[i]? = some x) (hx : Loc X.env.scope x) (he : PE X e te) (ho : PIp X op ti) (hf : X.fn x = true ∨ X.env.scope.names.lookup x = some .local := by first | exact .inl rfl | exact .inr rfl | assumption) :
    PS X (.AugAssign (.Name x pos') op e pos) (tAug i te ti) := by
  intro pins s σ H D I h
  obtain ⟨v, e1, h⟩ := h
  obtain ⟨m, hn, hl⟩ := I.loc
  have vis : Vis X.env.scope x := by rcases hx with k | k; exact .inl k; exact .inr (.inl k)
  obtain ⟨u, r, l⟩ := hl i x v hi e1 vis
  refine wpAny_AugAssign_Name ?_
  have go : wpAny (model X.prog X.w) X.A (eval e X.env) (fun w s₂ => wpAny (model X.prog X.w) X.A (inplaceOp op u w) (fun r s₃ => wpAny (model X.prog X.w) X.A (storeName X.env x r) (fun _ => SP X pins D .next) X.xe s₃) X.xe s₂) X.xe s := by
    refine thn (he pins s σ H _ I h) fun w s1 ⟨y, H1, I1, r1, q1⟩ => ?_
    refine thn (ho pins s1 σ H1 v y u w _ I1 r r1 q1) fun z s2 ⟨zv, H2, I2, r2, q2⟩ => ?_
    exact store_ok I2 hN hi hx r2 (fun s3 I3 => ⟨_, H2, I3, q2⟩) hf
  rcases l with ⟨hk, hm⟩ | ⟨hk, c, hc, hcell⟩
  · exact wpAny_loadName_local I.ok.kind hk hn hm go
  · rcases hk with hk | hk
    · exact wpAny_loadName_cell I.ok.kind hk hc hcell go
    · rcases hx with k | k
      · have : X.env.scope.names.lookup x = some .free := hk
        rw [k] at this; cases this
      · have : X.env.scope.names.lookup x = some .free := hk
        rw [k] at this; cases this
def ipI (f : Int → Int → Int) : TIp := fun x y H Q => ∃ i j, x = .int i ∧ y = .int j ∧ Q (.int (f i j)) H
theorem ip_add : PIp X .Add (ipI fun i j => i + j) := by
  intro pins s σ H x y v u Q I r1 r2 h
  obtain ⟨i, j, e1, e2, q⟩ := h
  subst e1; subst e2
  obtain ⟨t, rfl⟩ := r1
  obtain ⟨t', rfl⟩ := r2
  exact iadd_int ⟨.int _, H, I.tok _, ⟨_, rfl⟩, q⟩
end

section
variable {X : Cx} {pos : Pos}
def tWhile (c : TT) (tb : TS) : TS := fun D σ H => ∃ W : Nat → St → Hp → Prop, (∃ m, W m σ H) ∧ ∀ m σ H, W m σ H →
  c σ H fun b H1 => if b = true then ∃ N : St → Hp → Prop, (∀ σ' H', N σ' H' → ∃ m', m' < m ∧ W m' σ' H') ∧ tb { D with nx := N, ct := N, bk := D.nx } σ H1 else D.nx σ H1
theorem ps_while {c : Expr} {body : List Stmt} {tc : TT} {tb : TS} (hp : PassesOwn (model X.prog X.w) X.A X.env X.xe) (hc : PT X c tc) (hb : PSs X body tb) : PS X (.While c body [] pos) (tWhile tc tb) := by
  intro pins s σ H D I h
  obtain ⟨W, ⟨m0, w0⟩, turn⟩ := h
  refine wpAny_While (codeAny_whileLoop (fun n s' => ∃ σ' H', Inv X pins σ' H' s' ∧ W n σ' H') ?_ m0 ⟨σ, H, I, w0⟩)
  rintro n s1 ⟨σ1, H1, I1, w1⟩
  refine wpAny_passesOwn hp (thn (hc pins s1 σ1 H1 _ I1 (turn n σ1 H1 w1)) fun b s2 ⟨H2, I2, q2⟩ => ?_)
  cases b with
  | true =>
    obtain ⟨N, hN, q2⟩ := q2
    rw [if_pos rfl]
    refine wpAny_passesOwn hp (thn (hb pins s2 σ1 H2 _ I2 q2) fun f s3 q3 => ?_)
    cases f with
    | next =>
      obtain ⟨σ3, H3, I3, n3⟩ := q3
      obtain ⟨m', hm, w3⟩ := hN σ3 H3 n3
      exact ⟨m', hm, σ3, H3, I3, w3⟩
    | cont =>
      obtain ⟨σ3, H3, I3, n3⟩ := q3
      obtain ⟨m', hm, w3⟩ := hN σ3 H3 n3
      exact ⟨m', hm, σ3, H3, I3, w3⟩
    | brk => exact q3
    | ret v => exact q3
  | false =>
    rw [if_neg Bool.false_ne_true]
    exact wpAny_execs_nil ⟨σ1, H2, I2, q2⟩
end

structure It where
  go : Nat → Hp → Prop
  yld : Nat → Hp → V → Hp → Prop
  stop : Nat → Hp → Prop
def FpOk (X : Cx) (pins : List (Addr × Obj)) (H : Hp) (b : Addr) : Prop :=
  H b = none ∧ b ≠ X.env.locals ∧ b ∉ X.fs ∧ (b ∈ X.ex ∨ X.s_0.heap.objs.size ≤ b) ∧ (∀ x c, X.env.cells.lookup x = some c → c ≠ b) ∧ ∀ p ∈ X.pn ++ pins, p.1 ≠ b
theorem Inv.fpOk {X : Cx} {pins : List (Addr × Obj)} {σ : St} {H H' : Hp} {s : Shared} {b : Addr} (I : Inv X pins σ H s) (hb : s.heap.objs.size ≤ b) (hn : H' b = none) : FpOk X pins H' b := by
  refine ⟨hn, Nat.ne_of_gt (Nat.lt_of_lt_of_le I.lt hb), I.nofs hb, .inr (Nat.le_trans I.sz hb), fun x c e z => ?_, fun p hp z => ?_⟩
  · obtain ⟨v, q⟩ := I.cell x c e
    exact absurd (Nat.lt_of_lt_of_le q.lt (by rw [z]; exact hb)) (Nat.lt_irrefl _)
  · exact absurd (Nat.lt_of_lt_of_le (Heap.lt_size (I.pin p hp).1) (by rw [z]; exact hb)) (Nat.lt_irrefl _)
structure Turn (P : Program) (w : World) (K : PySem.W.Frag) (tg : Expr) (J : It) (fp : List Addr) (it : Addr) (tn : Nat → Heap → Prop) : Prop where
  mem : it ∈ fp
  obj : ∀ i h, tn i h → ∀ b ∈ fp, ∃ o, h.get? b = some o ∧ ∀ v, o.data ≠ .cell v
  keep : ∀ i h h', tn i h → (∀ b ∈ fp, ∀ o, h.get? b = some o → h'.get? b = some o) → tn i h'
  item : ∀ (X : Cx), X.prog = P → X.w = w → X.K = K → X.calm = true → ∀ (i : Nat) (pins : List (Addr × Obj)) (s : Shared) (σ : St) (H : Hp) (E : Value → Shared → Prop), Inv X pins σ H s → (∀ b ∈ fp, FpOk X pins H b) → tn i s.heap → J.go i H →
    wpAny (model P w) X.A (pyNext (.ref it)) (fun r s1 => ∃ u, r = some u ∧
      wpAny (model P w) X.A (letOwnedTupleGo tg (.ref it) u) (fun _ s2 => ∃ x H', Inv X pins σ H' s2 ∧ RelV x u ∧ J.yld i H x H' ∧ tn (i + 1) s2.heap ∧ ∀ b ∈ fp, H' b = none) E s1) E s
  done : ∀ (X : Cx), X.prog = P → X.w = w → X.K = K → X.calm = true → ∀ (i : Nat) (pins : List (Addr × Obj)) (s : Shared) (σ : St) (H : Hp) (E : Value → Shared → Prop), Inv X pins σ H s → (∀ b ∈ fp, FpOk X pins H b) → tn i s.heap → J.stop i H →
    wpAny (model P w) X.A (pyNext (.ref it)) (fun r s1 => r = none ∧ Inv X pins σ H s1) E s
  self : ∀ (A : Around) (i : Nat) (s : Shared) (Q : Value → Shared → Prop) (E : Value → Shared → Prop), tn i s.heap → Q (.ref it) s → wpAny (model P w) A (pyIter (.ref it)) Q E s
abbrev TI := St → Hp → (It → Hp → Prop) → Prop
def PIE (X : Cx) (pins : List (Addr × Obj)) (σ : St) (tg : Expr) (R : It → Hp → Prop) (itv : Value) (s2 : Shared) : Prop :=
  ∃ (it : Addr) (fp : List Addr) (tn : Nat → Heap → Prop) (J : It) (H' : Hp), itv = .ref it ∧ Inv X pins σ H' s2 ∧ Turn X.prog X.w X.K tg J fp it tn ∧ tn 0 s2.heap ∧ (∀ b ∈ fp, FpOk X pins H' b) ∧ R J H'
def PI (X : Cx) (tg iter : Expr) (wi : TI) : Prop :=
  ∀ (pins : List (Addr × Obj)) (s : Shared) (σ : St) (H : Hp) (R : It → Hp → Prop), Inv X pins σ H s → wi σ H R →
    wpAny (model X.prog X.w) X.A (eval iter X.env) (fun v s1 => wpAny (model X.prog X.w) X.A (pyIter v) (PIE X pins σ tg R) X.xe s1) X.xe s

theorem go_of {M : Model} {A : Around} {E : Value → Shared → Prop} {s : Shared} {tg : Expr} {it : Addr} {u : Value} {o : Obj} {n : String} {vs : Array Value} {Q : Unit → Shared → Prop} (ho : s.heap.get? it = some o) (hc : o.cls = .type n) (hd : o.data = .fields vs)
    (hn : ["enumerate", "zip", "dict_itemiterator", "dict_reverseitemiterator", "odict_iterator", "itertools.zip_longest", "itertools.pairwise"].contains n = false) (hQ : Q () s) : wpAny M A (letOwnedTupleGo tg (.ref it) u) Q E s := by
  unfold letOwnedTupleGo
  cases tg <;> first
    | exact wpAny_pure hQ
    | (cases u <;> first
        | exact wpAny_pure hQ
        | (refine wpAny_bind (wpAny_load ho ?_)
           rw [hc, hd]
           show wpAny M A (if (["enumerate", "zip", "dict_itemiterator", "dict_reverseitemiterator", "odict_iterator", "itertools.zip_longest", "itertools.pairwise"].contains n && vs[0]? == some (rawInt _)) = true then _ else _) Q E s
           rw [if_neg (by intro h; rw [hn, Bool.false_and] at h; cases h)]
           exact wpAny_pure hQ))

def Itl (K : PySem.W.Frag) (a : Addr) : It :=
  ⟨fun i H => ∃ xs x, SqL K H a xs ∧ xs[i]? = some x, fun i H x H' => H' = H ∧ ∀ xs, SqL K H a xs → xs[i]? = some x, fun i H => ∃ xs, SqL K H a xs ∧ xs.length ≤ i⟩
def Itt (K : PySem.W.Frag) (a : Addr) : It :=
  ⟨fun i H => ∃ xs x, SqT K H a xs ∧ xs[i]? = some x, fun i H x H' => H' = H ∧ ∀ xs, SqT K H a xs → xs[i]? = some x, fun i H => ∃ xs, SqT K H a xs ∧ xs.length ≤ i⟩
def Itr (lo : Int) (n : Nat) : It := ⟨fun i _ => i < n, fun i H x H' => H' = H ∧ x = .int (lo + i), fun i _ => n ≤ i⟩
theorem turn_list {P : Program} {w : World} {K : PySem.W.Frag} {tg : Expr} (a it : Addr) : Turn P w K tg (Itl K a) [it] it (fun i h => h.IsListIter it a i) where
  mem := by simp
  obj := fun i h st b hb => by
    have e : b = it := by simpa using hb
    subst e
    obtain ⟨o, e, c, d⟩ := st
    exact ⟨o, e, fun v z => by rw [d] at z; cases z⟩
  keep := fun i h h' st k => st.at fun o e => k it (by simp) o e
  item := by
    intro X hP hw hK hc i pins s σ H E I hf st hg
    subst hP hw hK
    obtain ⟨xs, x, hq, hx⟩ := hg
    obtain ⟨its, rv, p, hz⟩ := I.list hq
    obtain ⟨u, hu, ru⟩ := rv.get hx
    obtain ⟨f0, f1, f2, f3, f4, f5⟩ := hf it (by simp)
    refine wpAny_pyNext_list_item st p.isList (x := u) (by simpa using hu) fun h' st' sb => ?_
    have I1 : Inv X pins σ H { s with heap := h' } := I.turned (t' := s.toks) (fun b o hb e => (sb.2 b hb).trans e) f0 f1 f3 f4 f5
    obtain ⟨o, e, c, d⟩ := id st'
    exact ⟨u, rfl, go_of (s := { s with heap := h' }) e c d (by decide) ⟨x, H, I1, ru, ⟨rfl, fun ys hy => by rw [I.list_inj hy hq]; exact hx⟩, st', fun b hb => (hf b hb).1⟩⟩
  done := by
    intro X hP hw hK hc i pins s σ H E I hf st hg
    subst hP hw hK
    obtain ⟨xs, hq, hx⟩ := hg
    obtain ⟨its, rv, p, hz⟩ := I.list hq
    obtain ⟨f0, f1, f2, f3, f4, f5⟩ := hf it (by simp)
    have hl := rv.length
    exact wpAny_pyNext_list_end (I.ok.hd hc) st p.isList (by simp; omega) fun h' eb => ⟨rfl, I.turned (t' := s.toks) (fun b o hb e => eb b o hb e) f0 f1 f3 f4 f5⟩
  self := fun _ _ _ _ _ st h => wpAny_pyIter_listiter st h
theorem turn_range {P : Program} {w : World} {K : PySem.W.Frag} {tg : Expr} (it : Addr) (lo : Int) (n : Nat) : Turn P w K tg (Itr lo n) [it] it (fun i h => IsRangeIter h it (lo + (i : Nat) * 1) ((n : Int) - (i : Nat)) 1) where
  mem := by simp
  obj := fun i h st b hb => by
    have e : b = it := by simpa using hb
    subst e
    exact ⟨_, st, fun v z => by
      have z' : Data.fields _ = Data.cell v := z
      cases z'⟩
  keep := fun i h h' st k => k it (by simp) _ st
  item := by
    intro X hP hw hK hc i pins s σ H E I hf st hg
    subst hP hw hK
    obtain ⟨f0, f1, f2, f3, f4, f5⟩ := hf it (by simp)
    have W := Walks.range (prog := X.prog) (w := X.w) (I.ok.hd hc) it lo 1 n
    refine W.item i s _ _ hg st fun v h' tk hv st' kk => ?_
    obtain ⟨t, rfl⟩ := hv
    have I1 : Inv X pins σ H { s with heap := h', toks := tk } := I.turned (fun b o hb e => kk b o (by simpa using hb) e) f0 f1 f3 f4 f5
    refine ⟨_, rfl, go_of (s := { s with heap := h', toks := tk }) (n := "range_iterator") st' rfl rfl (by decide) ⟨.int (lo + i), H, I1, ⟨t, ?_⟩, ⟨rfl, rfl⟩, st', fun b hb => (hf b hb).1⟩⟩
    rw [Int.mul_one]
  done := by
    intro X hP hw hK hc i pins s σ H E I hf st hg
    subst hP hw hK
    obtain ⟨f0, f1, f2, f3, f4, f5⟩ := hf it (by simp)
    exact wpAny_pyNext_range_end (I.ok.hd hc) st (by have : n ≤ i := hg; omega) fun h' eb => ⟨rfl, I.turned (t' := s.toks) (fun b o hb e => eb b o hb e) f0 f1 f3 f4 f5⟩
  self := fun _ _ _ _ _ st h => wpAny_pyIter_rangeiter st h
end L2

namespace L2
open PySem PySem.Spec PyProof.Rows
section
variable {X : Cx} {tg : Expr}
def iList (K : PySem.W.Frag) (tl : TE) : TI := fun σ H R => tl σ H fun x H1 => ∃ a, x = .ref a ∧ (∃ xs, SqL K H1 a xs) ∧ R (Itl K a) H1
def iTup (K : PySem.W.Frag) (tl : TE) : TI := fun σ H R => tl σ H fun x H1 => ∃ a, x = .ref a ∧ (∃ xs, SqT K H1 a xs) ∧ R (Itt K a) H1
theorem pi_list {l : Expr} {tl : TE} (hl : PE X l tl) : PI X tg l (iList X.K tl) := by
  intro pins s σ H R I h
  refine thn (hl pins s σ H _ I h) fun v s1 ⟨x, H1, I1, r1, q1⟩ => ?_
  obtain ⟨a, e, ⟨xs, hq⟩, q⟩ := q1
  subst e
  cases r1
  obtain ⟨its, rv, p, hz⟩ := I1.list hq
  refine wpAny_pyIter_list p.isList ?_
  refine ⟨s1.heap.objs.size, [s1.heap.objs.size], _, _, H1, rfl, I1.kept (t' := s1.toks) fun b o e => Heap.get?_push_of_some _ e, turn_list a _, ⟨_, Heap.get?_push_size _ rfl, rfl, rfl⟩, fun b hb => ?_, q⟩
  have e : b = s1.heap.objs.size := by simpa using hb
  subst e
  exact I1.fpOk (Nat.le_refl _) (I1.hok.fresh (Nat.le_refl _))
theorem range_it {pins : List (Addr × Obj)} {σ : St} {H : Hp} {s : Shared} {R : It → Hp → Prop} {E : Value → Shared → Prop} {lo hi : Int} {t u v : Tok} {tk : Nat} (I : Inv X pins σ H s) (h1 : -(2 ^ 62) ≤ lo) (h2 : lo < 2 ^ 62) (h3 : -(2 ^ 62) ≤ hi) (h4 : hi < 2 ^ 62)
    (q : R (Itr lo (hi - lo).toNat) H) : wpAny (model X.prog X.w) X.A (pyIter (.ref s.heap.objs.size)) (PIE X pins σ tg R) E { s with heap := s.heap.push { cls := .type "range", data := .fields #[.int lo t, .int hi u, .int 1 v] }, toks := tk } := by
  refine wpAny_pyIter_range (IsRange.new ..) (small_one h1 h2 h3 h4) ?_
  have I1 : Inv X pins σ H { s with heap := s.heap.push { cls := .type "range", data := .fields #[.int lo t, .int hi u, .int 1 v] }, toks := tk } := I.kept fun b o e => Heap.get?_push_of_some _ e
  refine ⟨(s.heap.push { cls := .type "range", data := .fields #[.int lo t, .int hi u, .int 1 v] }).objs.size, [(s.heap.push { cls := .type "range", data := .fields #[.int lo t, .int hi u, .int 1 v] }).objs.size], _, _, H, rfl,
    I1.kept (t' := tk) fun b o e => Heap.get?_push_of_some _ e, turn_range _ lo (hi - lo).toNat, ?_, fun b hb => ?_, q⟩
  · have e1 : lo + ((0 : Nat) : Int) * 1 = lo := by simp
    have e2 : (((hi - lo).toNat : Nat) : Int) - ((0 : Nat) : Int) = Builtin.Range.rangeSize lo hi 1 := by rw [rangeSize_one]; split <;> omega
    show IsRangeIter _ _ (lo + ((0 : Nat) : Int) * 1) ((((hi - lo).toNat : Nat) : Int) - ((0 : Nat) : Int)) 1
    rw [e1, e2]
    exact Heap.get?_push_size _ rfl
  · have e : b = (s.heap.push { cls := .type "range", data := .fields #[.int lo t, .int hi u, .int 1 v] }).objs.size := by simpa using hb
    subst e
    exact I1.fpOk (Nat.le_refl _) (I1.hok.fresh (Nat.le_refl _))
def iRng1 (ta : TA) : TI := fun σ H R => ta σ H fun vs H1 => ∃ j : Int, vs = [.int j] ∧ -(2 ^ 62) ≤ j ∧ j < 2 ^ 62 ∧ R (Itr 0 j.toNat) H1
def iRng2 (ta : TA) : TI := fun σ H R => ta σ H fun vs H1 => ∃ i j : Int, vs = [.int i, .int j] ∧ (-(2 ^ 62) ≤ i ∧ i < 2 ^ 62 ∧ -(2 ^ 62) ≤ j ∧ j < 2 ^ 62) ∧ R (Itr i (j - i).toNat) H1
theorem pi_range1 {a : Expr} {ta : TA} {p pos : Pos} (hg : Gl X "range") (hm : X.mg "range" = none) (ha : PA X [a] ta) (hs : starEach [a] X.env = [(false, eval a X.env)] := by rfl) : PI X tg (.Call (.Name "range" p) [a] [] pos) (iRng1 ta) := by
  intro pins s σ H R I h
  refine Call_ (ld_blt I hg hm boot_range (PyProof.Rows.callWith_type1 (thn (ha pos pins s σ H _ I h) fun us s1 ⟨vs, H1, I1, r1, q1⟩ => ?_) hs rfl))
  obtain ⟨j, e, q1, q2, q⟩ := q1
  subst e
  cases r1 with
  | cons r rr =>
    cases rr
    obtain ⟨t, rfl⟩ := r
    exact call_range_1 (range_it I1 (by omega) (by omega) q1 q2 (by simpa using q))
def tFor (wi : TI) (g : TG) (tb : TS) : TS := fun D σ H => wi σ H fun J H1 => ∃ W : Nat → Nat → St → Hp → Prop, (∃ m, W 0 m σ H1) ∧ ∀ i m σ H, W i m σ H →
  (J.stop i H ∧ D.nx σ H) ∨ (J.go i H ∧ ∃ N : St → Hp → Prop, (∀ σ' H', N σ' H' → ∃ m', m' < m ∧ W (i + 1) m' σ' H') ∧ ∀ x H', J.yld i H x H' → g x σ H' fun σ2 H2 => tb { D with nx := N, ct := N, bk := D.nx } σ2 H2)
def pinsAt (fp : List Addr) (h : Heap) : List (Addr × Obj) := fp.filterMap fun b => (h.get? b).map fun o => (b, o)
theorem mem_pinsAt {fp : List Addr} {h : Heap} {b : Addr} {o : Obj} (hb : b ∈ fp) (e : h.get? b = some o) : (b, o) ∈ pinsAt fp h := List.mem_filterMap.mpr ⟨b, hb, by rw [e]; rfl⟩
theorem of_pinsAt {fp : List Addr} {h : Heap} {p : Addr × Obj} (hp : p ∈ pinsAt fp h) : p.1 ∈ fp ∧ h.get? p.1 = some p.2 := by
  obtain ⟨b, hb, e⟩ := List.mem_filterMap.mp hp
  cases q : h.get? b with
  | none => rw [q] at e; cases e
  | some o =>
    rw [q] at e
    have e' : (b, o) = p := Option.some.inj e
    subst e'
    exact ⟨hb, q⟩
theorem Inv.pinned {pins : List (Addr × Obj)} {σ : St} {H : Hp} {s : Shared} {fp : List Addr} (I : Inv X pins σ H s) (hf : ∀ b ∈ fp, FpOk X pins H b) (ho : ∀ b ∈ fp, ∃ o, s.heap.get? b = some o ∧ ∀ v, o.data ≠ .cell v) : Inv X (pins ++ pinsAt fp s.heap) σ H s :=
  I.pins_of fun p hp => (List.mem_append.mp hp).elim (fun z => I.pin p (List.mem_append_right _ z)) fun z => by
    obtain ⟨hb, e⟩ := of_pinsAt z
    obtain ⟨f0, f1, f2, _⟩ := hf p.1 hb
    obtain ⟨o, e', d⟩ := ho p.1 hb
    rw [e] at e'; cases e'
    exact ⟨e, f0, f1, f2, d⟩
theorem Inv.unpinned {pins pl : List (Addr × Obj)} {σ : St} {H : Hp} {s : Shared} (I : Inv X (pins ++ pl) σ H s) : Inv X pins σ H s := I.pins_of fun p hp => I.pin p (List.mem_append_right _ (List.mem_append_left _ hp))
theorem ps_for {iter : Expr} {body : List Stmt} {wi : TI} {g : TG} {tb : TS} {pos : Pos} (hp : PassesOwn (model X.prog X.w) X.A X.env X.xe) (hc : X.calm = true) (hi : PI X tg iter wi) (hg : PG X tg g) (hb : PSs X body tb)
    (hs : ∀ x, foldedSetIterable iter X.env x = pure x := by intro _; rfl) : PS X (.For tg iter body [] pos) (tFor wi g tb) := by
  intro pins s σ H D I h
  refine wpAny_For (thn (hi pins s σ H _ I h) fun v s1 h1 => thn h1 fun itv s2 h2 => ?_) hs
  obtain ⟨it, fp, tn, J, H2, e, I2, T, st2, f2, W, ⟨m0, w0⟩, turn⟩ := h2
  subst e
  -- what stays true of the iterator's objects through the loop
  have stat : ∀ {H' : Hp}, (∀ b ∈ fp, H' b = none) → ∀ b ∈ fp, FpOk X pins H' b := fun hn b hb => ⟨hn b hb, (f2 b hb).2⟩
  refine codeAny_forLoop_any (fun n s' => ∃ i σ' H', Inv X pins σ' H' s' ∧ tn i s'.heap ∧ (∀ b ∈ fp, H' b = none) ∧ W i n σ' H') ?_ m0 ⟨0, σ, H2, I2, st2, fun b hb => (f2 b hb).1, w0⟩
  rintro n s3 ⟨i, σ3, H3, I3, st3, fr3, w3⟩
  rcases turn i n σ3 H3 w3 with ⟨stop, qn⟩ | ⟨go, N, hN, step⟩
  · refine wpAny_passesOwn hp (thn (T.done X rfl rfl rfl hc i pins s3 σ3 H3 X.xe I3 (stat fr3) st3 stop) fun r s4 ⟨hr, I4⟩ => ?_)
    subst hr
    exact wpAny_execs_nil ⟨σ3, H3, I4, qn⟩
  · refine wpAny_passesOwn hp (thn (T.item X rfl rfl rfl hc i pins s3 σ3 H3 X.xe I3 (stat fr3) st3 go) fun r s4 ⟨u, hr, h4⟩ => ?_)
    subst hr
    refine wpAny_passesOwn hp (thn h4 fun _ s5 ⟨x, H5, I5, r5, y5, st5, fr5⟩ => ?_)
    have I5' := I5.pinned (stat fr5) (T.obj _ _ st5)
    refine wpAny_passesOwn hp (thn (hg _ s5 σ3 H5 x u _ I5' r5 (step x H5 y5)) fun _ s6 ⟨σ6, H6, I6, q6⟩ => ?_)
    refine wpAny_passesOwn hp (thn (hb _ s6 σ6 H6 _ I6 q6) fun f s7 q7 => ?_)
    have again : ∀ {σ7 : St} {H7 : Hp}, Inv X (pins ++ pinsAt fp s5.heap) σ7 H7 s7 → N σ7 H7 → ∃ m, m < n ∧ ∃ i σ' H', Inv X pins σ' H' s7 ∧ tn i s7.heap ∧ (∀ b ∈ fp, H' b = none) ∧ W i m σ' H' := fun {σ7 H7} I7 n7 => by
      obtain ⟨m', hm, w7⟩ := hN σ7 H7 n7
      refine ⟨m', hm, i + 1, σ7, H7, I7.unpinned, T.keep _ _ _ st5 fun b hb o e => (I7.pin (b, o) (List.mem_append_right _ (List.mem_append_right _ (mem_pinsAt hb e)))).1, fun b hb => ?_, w7⟩
      obtain ⟨o, e, d⟩ := T.obj _ _ st5 b hb
      exact (I7.pin (b, o) (List.mem_append_right _ (List.mem_append_right _ (mem_pinsAt hb e)))).2.1
    cases f with
    | next => obtain ⟨σ7, H7, I7, n7⟩ := q7; exact again I7 n7
    | cont => obtain ⟨σ7, H7, I7, n7⟩ := q7; exact again I7 n7
    | brk => obtain ⟨σ7, H7, I7, q7⟩ := q7; exact ⟨σ7, H7, I7.unpinned, q7⟩
    | ret v => obtain ⟨x7, σ7, H7, I7, r7, q7⟩ := q7; exact ⟨x7, σ7, H7, I7.unpinned, r7, q7⟩
end

theorem for_list {K : PySem.W.Frag} {a : Addr} {xs : List V} {g : TG} {tb : TS} {D : Ends} {σ : St} {H : Hp} (Pv : Nat → St → Hp → Prop) (h0 : Pv 0 σ H) (hl : ∀ i σ H, i ≤ xs.length → Pv i σ H → SqL K H a xs)
    (hs : ∀ i x σ H, xs[i]? = some x → Pv i σ H → g x σ H fun σ2 H2 => tb { D with nx := Pv (i + 1), ct := Pv (i + 1), bk := D.nx } σ2 H2) (hd : ∀ σ H, Pv xs.length σ H → D.nx σ H) :
    ∃ W : Nat → Nat → St → Hp → Prop, (∃ m, W 0 m σ H) ∧ ∀ i m σ H, W i m σ H →
      ((Itl K a).stop i H ∧ D.nx σ H) ∨ ((Itl K a).go i H ∧ ∃ N : St → Hp → Prop, (∀ σ' H', N σ' H' → ∃ m', m' < m ∧ W (i + 1) m' σ' H') ∧ ∀ x H', (Itl K a).yld i H x H' → g x σ H' fun σ2 H2 => tb { D with nx := N, ct := N, bk := D.nx } σ2 H2) := by
  refine ⟨fun i m σ H => m = xs.length - i ∧ i ≤ xs.length ∧ Pv i σ H, ⟨xs.length, by simp, Nat.zero_le _, h0⟩, ?_⟩
  rintro i m σ H ⟨rfl, hi, p⟩
  have q := hl i σ H hi p
  by_cases hlt : i < xs.length
  · refine .inr ⟨⟨xs, xs[i], q, by simp [hlt]⟩, Pv (i + 1), fun σ' H' p' => ⟨xs.length - (i + 1), by omega, rfl, hlt, p'⟩, fun x H' y => ?_⟩
    obtain ⟨e, y⟩ := y
    subst e
    exact hs i x σ _ (y xs q) p
  · have e : i = xs.length := by omega
    subst e
    exact .inl ⟨⟨xs, q, Nat.le_refl _⟩, hd σ H p⟩
end L2

namespace L2
open PySem PySem.Spec PyProof.Rows

abbrev R2 := V → V → Hp → VK → Prop
def OpR (X : Cx) (f : Value → Value → Sem Value) (r : R2) : Prop :=
  ∀ (pins : List (Addr × Obj)) (s : Shared) (σ : St) (H : Hp) (x y : V) (v u : Value) (Q : VK), Inv X pins σ H s → RelV x v → RelV y u → r x y H Q →
    wpAny (model X.prog X.w) X.A (f v u) (EP X pins σ Q) X.xe s
def CallR (X : Cx) (f : Value) (r : List V → Hp → VK → Prop) : Prop :=
  ∀ (pins : List (Addr × Obj)) (s : Shared) (σ : St) (H : Hp) (xs : List V) (us : List Value) (Q : VK), Inv X pins σ H s → Vals xs us → r xs H Q →
    wpAny (model X.prog X.w) X.A (call f us) (EP X pins σ Q) X.xe s
def tOp (r : R2) (ta tb : TE) : TE := fun σ H Q => ta σ H fun x H1 => tb σ H1 fun y H2 => r x y H2 Q
def tUn (r : V → Hp → VK → Prop) (ta : TE) : TE := fun σ H Q => ta σ H fun x H1 => r x H1 Q
def rI (C : Int → Int → Prop) (g : Int → Int → V) : R2 := fun x y H Q => ∃ i j, x = .int i ∧ y = .int j ∧ C i j ∧ Q (g i j) H
def rI0 (g : Int → Int → V) : R2 := fun x y H Q => ∃ i j, x = .int i ∧ y = .int j ∧ Q (g i j) H
section
variable {X : Cx} {a b c : Expr} {ta tb tc : TE} {pos : Pos}

theorem binT (ha : PE X a ta) (hb : PE X b tb) {pins : List (Addr × Obj)} {s : Shared} {σ : St} {H : Hp} {R : V → V → Hp → Prop} (I : Inv X pins σ H s)
    (h : ta σ H fun x H1 => tb σ H1 fun y H2 => R x y H2) {Q : Value → Shared → Prop} {f : Value → Value → Sem Value}
    (hf : ∀ v u s2 x y H2, Inv X pins σ H2 s2 → RelV x v → RelV y u → R x y H2 → wpAny (model X.prog X.w) X.A (f v u) Q X.xe s2) :
    wpAny (model X.prog X.w) X.A (eval a X.env) (fun v s₁ => wpAny (model X.prog X.w) X.A (eval b X.env) (fun u s₂ => wpAny (model X.prog X.w) X.A (f v u) Q X.xe s₂) X.xe s₁) X.xe s := by
  refine thn (ha pins s σ H _ I h) fun v s1 ⟨x, H1, I1, r1, q1⟩ => ?_
  refine thn (hb pins s1 σ H1 _ I1 q1) fun u s2 ⟨y, H2, I2, r2, q2⟩ => ?_
  exact hf v u s2 x y H2 I2 r1 r2 q2

theorem pe_op {op : Operator} {r : R2} (ho : OpR X (binaryOp op) r) (ha : PE X a ta) (hb : PE X b tb) : PE X (.BinOp a op b pos) (tOp r ta tb) := by
  intro pins s σ H Q I h
  exact wpAny_BinOp (binT ha hb I h fun v u s2 x y H2 I2 rx ry q => ho pins s2 σ H2 x y v u Q I2 rx ry q)
theorem opI {f : Value → Value → Sem Value} {C : Int → Int → Prop} {g : Int → Int → Int}
    (rule : ∀ (i j : Int) (t u : Tok) (s : Shared) (Q : Value → Shared → Prop) (E : Value → Shared → Prop), C i j → Q (.int (g i j) s.toks) { s with toks := s.toks + 1 } → wpAny (model X.prog X.w) X.A (f (.int i t) (.int j u)) Q E s) :
    OpR X f (rI C fun i j => .int (g i j)) := by
  intro pins s σ H x y v u Q I rx ry h
  obtain ⟨i, j, rfl, rfl, hc, q⟩ := h
  obtain ⟨t, rfl⟩ := rx
  obtain ⟨t', rfl⟩ := ry
  exact rule i j t t' s _ _ hc ⟨.int (g i j), H, I.tok _, ⟨_, rfl⟩, q⟩
theorem opI0 {f : Value → Value → Sem Value} {g : Int → Int → Int}
    (rule : ∀ (i j : Int) (t u : Tok) (s : Shared) (Q : Value → Shared → Prop) (E : Value → Shared → Prop), Q (.int (g i j) s.toks) { s with toks := s.toks + 1 } → wpAny (model X.prog X.w) X.A (f (.int i t) (.int j u)) Q E s) :
    OpR X f (rI0 fun i j => .int (g i j)) := by
  intro pins s σ H x y v u Q I rx ry h
  obtain ⟨i, j, rfl, rfl, q⟩ := h
  obtain ⟨t, rfl⟩ := rx
  obtain ⟨t', rfl⟩ := ry
  exact rule i j t t' s _ _ ⟨.int (g i j), H, I.tok _, ⟨_, rfl⟩, q⟩
theorem opB0 {f : Value → Value → Sem Value} {g : Int → Int → Bool}
    (rule : ∀ (i j : Int) (t u : Tok) (s : Shared) (Q : Value → Shared → Prop) (E : Value → Shared → Prop), Q (.bool (g i j)) s → wpAny (model X.prog X.w) X.A (f (.int i t) (.int j u)) Q E s) :
    OpR X f (rI0 fun i j => .bl (g i j)) := by
  intro pins s σ H x y v u Q I rx ry h
  obtain ⟨i, j, rfl, rfl, q⟩ := h
  obtain ⟨t, rfl⟩ := rx
  obtain ⟨t', rfl⟩ := ry
  exact rule i j t t' s _ _ ⟨.bl (g i j), H, I, rfl, q⟩

def CMul (i j : Int) : Prop := (-(2 ^ 64) < i ∧ i < 2 ^ 64) ∨ (-(2 ^ 64) < j ∧ j < 2 ^ 64)
theorem CMul.ok {i j : Int} (h : CMul i j) : IntMulOk i j := by
  rcases h with ⟨h1, h2⟩ | ⟨h1, h2⟩
  · exact .of_left (intBits_le_64 h1 h2)
  · exact .of_right (intBits_le_64 h1 h2)
theorem op_add : OpR X (binaryOp .Add) (rI0 fun i j => .int (i + j)) := opI0 fun _ _ _ _ _ _ _ q => add_int q
theorem op_sub : OpR X (binaryOp .Sub) (rI0 fun i j => .int (i - j)) := opI0 fun _ _ _ _ _ _ _ q => sub_int q
theorem op_mul : OpR X (binaryOp .Mult) (rI CMul fun i j => .int (i * j)) := opI fun _ _ _ _ _ _ _ hc q => mul_int q hc.ok
theorem op_mod : OpR X (binaryOp .Mod) (rI (fun _ j => 0 < j) fun i j => .int (i % j)) := opI fun i j _ _ _ _ _ hc q => by
  have h1 : (0 : Int) < j := hc
  exact mod_int' (by omega) (by rw [Int.fmod_eq_emod_of_nonneg i (by omega)]; exact q)
end

def scal : V → V → Bool
  | .non, .non => true | .non, .int _ => true | .int _, .non => true | .non, .bl _ => true | .bl _, .non => true | .non, .str _ => true | .str _, .non => true
  | .int _, .int _ => true | .bl _, .bl _ => true | .str _, .str _ => true | .byt _, .byt _ => true
  | .int _, .str _ => true | .str _, .int _ => true | .bl _, .str _ => true | .str _, .bl _ => true
  | _, _ => false
def rEq : R2 := fun x y H Q => scal x y = true ∧ Q (.bl (decide (x = y))) H
def rNe : R2 := fun x y H Q => scal x y = true ∧ Q (.bl (!decide (x = y))) H

theorem dec_int {i j : Int} : decide (V.int i = V.int j) = (i == j) := by
  rw [Bool.eq_iff_iff]
  simp
theorem dec_bl {i j : Bool} : decide (V.bl i = V.bl j) = (i == j) := by
  rw [Bool.eq_iff_iff]
  simp
theorem dec_str {i j : Str} : decide (V.str i = V.str j) = (i == j) := by
  rw [Bool.eq_iff_iff]
  simp
theorem dec_byt {i j : Array UInt8} : decide (V.byt i = V.byt j) = (i.toList == j.toList) := by
  rw [Bool.eq_iff_iff]
  cases i
  cases j
  simp

section
variable {X : Cx} {a b c : Expr} {ta tb tc : TE} {pos : Pos}
theorem fin_bl {pins : List (Addr × Obj)} {σ : St} {H : Hp} {s : Shared} {Q : VK} {k k' : Bool} (I : Inv X pins σ H s) (q : Q (.bl k) H) (e : k = k') : EP X pins σ Q (.bool k') s := by
  subst e
  exact ⟨.bl k, H, I, rfl, q⟩
theorem op_eq : OpR X (compareOp .Eq) rEq := by
  intro pins s σ H x y v u Q I rx ry h
  obtain ⟨hs, q⟩ := h
  cases x with
  | non =>
    cases rx
    cases y with
    | non => cases ry; exact PySem.EqNone.eq_none_none (fin_bl I q (by simp))
    | bl j => cases ry; exact PySem.EqNone.eq_none_bool (fin_bl I q (by simp))
    | int j => obtain ⟨t', rfl⟩ := ry; exact PySem.EqNone.eq_none_int (fin_bl I q (by simp))
    | str j => obtain ⟨t', rfl⟩ := ry; exact PySem.EqNone.eq_none_str (fin_bl I q (by simp))
    | _ => exact absurd (show false = true from hs) Bool.false_ne_true
  | bl i =>
    cases rx
    cases y with
    | non => cases ry; exact PySem.EqNone.eq_bool_none (fin_bl I q (by simp))
    | bl j => cases ry; exact eq_bool (fin_bl I q dec_bl)
    | str j => obtain ⟨t', rfl⟩ := ry; exact PySem.EqMixed.eq_bool_str (fin_bl I q (by simp))
    | _ => exact absurd (show false = true from hs) Bool.false_ne_true
  | int i =>
    obtain ⟨t, rfl⟩ := rx
    cases y with
    | non => cases ry; exact PySem.EqNone.eq_int_none (fin_bl I q (by simp))
    | int j => obtain ⟨t', rfl⟩ := ry; exact eq_int (fin_bl I q dec_int)
    | str j => obtain ⟨t', rfl⟩ := ry; exact PySem.EqMixed.eq_int_str (fin_bl I q (by simp))
    | _ => exact absurd (show false = true from hs) Bool.false_ne_true
  | str i =>
    obtain ⟨t, rfl⟩ := rx
    cases y with
    | non => cases ry; exact PySem.EqNone.eq_str_none (fin_bl I q (by simp))
    | bl j => cases ry; exact PySem.EqMixed.eq_str_bool (fin_bl I q (by simp))
    | int j => obtain ⟨t', rfl⟩ := ry; exact PySem.EqMixed.eq_str_int (fin_bl I q (by simp))
    | str j => obtain ⟨t', rfl⟩ := ry; exact eq_str (fin_bl I q dec_str)
    | _ => exact absurd (show false = true from hs) Bool.false_ne_true
  | byt i =>
    obtain ⟨t, rfl⟩ := rx
    cases y with
    | byt j => obtain ⟨t', rfl⟩ := ry; exact PySem.W.eq_bytes (fin_bl I q dec_byt)
    | _ => exact absurd (show false = true from hs) Bool.false_ne_true
  | _ => cases y <;> exact absurd (show false = true from hs) Bool.false_ne_true
theorem op_ne : OpR X (compareOp .NotEq) rNe := by
  intro pins s σ H x y v u Q I rx ry h
  obtain ⟨hs, q⟩ := h
  cases x with
  | non =>
    cases rx
    cases y with
    | non => cases ry; exact PySem.EqNone.ne_none_none (fin_bl I q (by simp))
    | bl j => cases ry; exact PySem.EqNone.ne_none_bool (fin_bl I q (by simp))
    | int j => obtain ⟨t', rfl⟩ := ry; exact PySem.EqNone.ne_none_int (fin_bl I q (by simp))
    | str j => obtain ⟨t', rfl⟩ := ry; exact PySem.EqNone.ne_none_str (fin_bl I q (by simp))
    | _ => exact absurd (show false = true from hs) Bool.false_ne_true
  | bl i =>
    cases rx
    cases y with
    | non => cases ry; exact PySem.EqNone.ne_bool_none (fin_bl I q (by simp))
    | bl j => cases ry; exact ne_bool (fin_bl I q (congrArg not dec_bl))
    | str j => obtain ⟨t', rfl⟩ := ry; exact PySem.EqMixed.ne_bool_str (fin_bl I q (by simp))
    | _ => exact absurd (show false = true from hs) Bool.false_ne_true
  | int i =>
    obtain ⟨t, rfl⟩ := rx
    cases y with
    | non => cases ry; exact PySem.EqNone.ne_int_none (fin_bl I q (by simp))
    | int j => obtain ⟨t', rfl⟩ := ry; exact ne_int (fin_bl I q (congrArg not dec_int))
    | str j => obtain ⟨t', rfl⟩ := ry; exact PySem.EqMixed.ne_int_str (fin_bl I q (by simp))
    | _ => exact absurd (show false = true from hs) Bool.false_ne_true
  | str i =>
    obtain ⟨t, rfl⟩ := rx
    cases y with
    | non => cases ry; exact PySem.EqNone.ne_str_none (fin_bl I q (by simp))
    | bl j => cases ry; exact PySem.EqMixed.ne_str_bool (fin_bl I q (by simp))
    | int j => obtain ⟨t', rfl⟩ := ry; exact PySem.EqMixed.ne_str_int (fin_bl I q (by simp))
    | str j => obtain ⟨t', rfl⟩ := ry; exact ne_str (fin_bl I q (congrArg not dec_str))
    | _ => exact absurd (show false = true from hs) Bool.false_ne_true
  | byt i =>
    obtain ⟨t, rfl⟩ := rx
    cases y with
    | byt j => obtain ⟨t', rfl⟩ := ry; exact PySem.W.ne_bytes (fin_bl I q (congrArg not dec_byt))
    | _ => exact absurd (show false = true from hs) Bool.false_ne_true
  | _ => cases y <;> exact absurd (show false = true from hs) Bool.false_ne_true

theorem op_lt : OpR X (compareOp .Lt) (rI0 fun i j => .bl (decide (i < j))) := opB0 fun _ _ _ _ _ _ _ q => lt_int q
theorem op_le : OpR X (compareOp .LtE) (rI0 fun i j => .bl (decide (i ≤ j))) := opB0 fun _ _ _ _ _ _ _ q => le_int q
theorem op_gt : OpR X (compareOp .Gt) (rI0 fun i j => .bl (decide (j < i))) := opB0 fun _ _ _ _ _ _ _ q => gt_int q
theorem op_ge : OpR X (compareOp .GtE) (rI0 fun i j => .bl (decide (j ≤ i))) := opB0 fun _ _ _ _ _ _ _ q => ge_int q
theorem nomark (b : Expr) {op : CmpOp} (h : op ≠ .In := by decide) (h2 : op ≠ .NotIn := by decide) : behindInMarks op b = false := by
  have e1 : (op == CmpOp.In) = false := by cases op <;> first | rfl | exact absurd rfl h
  have e2 : (op == CmpOp.NotIn) = false := by cases op <;> first | rfl | exact absurd rfl h2
  cases b <;> simp [behindInMarks, e1, e2]
theorem pe_cmpR {op : CmpOp} {r : R2} (ho : OpR X (compareOp op) r) (ha : PE X a ta) (hb : PE X b tb) (hm : behindInMarks op b = false) : PE X (.Compare a [op] [b] pos) (tOp r ta tb) := by
  intro pins s σ H Q I h
  exact wpAny_Compare1 (binT ha hb I h fun v u s2 x y H2 I2 rx ry q => ho pins s2 σ H2 x y v u Q I2 rx ry q) hm
def tTest (t : TE) : TT := fun σ H Q => t σ H fun x H' => ∃ k, x = .bl k ∧ Q k H'
theorem pt_cmpR {op : CmpOp} {r : R2} (ho : OpR X (compareOp op) r) (ha : PE X a ta) (hb : PE X b tb) (hm : behindInMarks op b = false) : PT X (.Compare a [op] [b] pos) (tTest (tOp r ta tb)) := by
  intro pins s σ H Q I h
  refine wpAny_isTrue_Compare1 (thn (ha pins s σ H _ I h) fun v s1 ⟨x, H1, I1, r1, q1⟩ => thn (hb pins s1 σ H1 _ I1 q1) fun u s2 ⟨y, H2, I2, r2, q2⟩ =>
    thn (ho pins s2 σ H2 x y v u _ I2 r1 r2 q2) fun c s3 ⟨z, H3, I3, r3, k, e, q3⟩ => ?_) hm
  subst e
  cases r3
  exact wpAny_truthy_bool ⟨H3, I3, q3⟩
def tChain (r r' : R2) (ta tb tc : TE) : TE := fun σ H Q => ta σ H fun x H1 => tb σ H1 fun y H2 => r x y H2 fun z H3 => ∃ k, z = .bl k ∧
  (if k = true then tc σ H3 fun w' H4 => r' y w' H4 Q else Q (.bl false) H3)
theorem pe_chain {op op' : CmpOp} {r r' : R2} (ho : OpR X (compareOp op) r) (ho' : OpR X (compareOp op') r') (ha : PE X a ta) (hb : PE X b tb) (hc : PE X c tc)
    (hm : lastMarks [op, op'] [b, c] = false := by with_unfolding_all rfl) : PE X (.Compare a [op, op'] [b, c] pos) (tChain r r' ta tb tc) := by
  intro pins s σ H Q I h
  refine Compare_chain (thn (ha pins s σ H _ I h) fun v s1 ⟨x, H1, I1, r1, q1⟩ => chain_link (thn (hb pins s1 σ H1 _ I1 q1) fun u s2 ⟨y, H2, I2, r2, q2⟩ =>
    thn (ho pins s2 σ H2 x y v u _ I2 r1 r2 q2) fun d s3 ⟨z, H3, I3, r3, k, e, q3⟩ => ?_)) hm
  subst e
  cases r3
  refine wpAny_truthy_bool ?_
  cases k with
  | false => exact ite_ff ⟨.bl false, H3, I3, rfl, q3⟩
  | true => exact ite_tt (chain_last (thn (hc pins s3 σ H3 _ I3 q3) fun w' s4 ⟨z', H4, I4, r4, q4⟩ => ho' pins s4 σ H4 y z' u w' Q I4 r2 r4 q4))
theorem line63 : (sizeLine : Nat) < 2 ^ 63 := by rw [sizeLine_eq]; decide
theorem vals1 {x : V} {us : List Value} (r : Vals [x] us) : ∃ u, us = [u] ∧ RelV x u := by
  cases r with
  | cons r1 r2 => cases r2; exact ⟨_, rfl, r1⟩
end
end L2

namespace L2
open PySem PySem.Spec PyProof.Rows

structure ObjM (h : Heap) (x dx C : Addr) (mA : Str → Option Value) : Prop where
  obj : h.get? x = some (PySem.W.instObj C dx)
  ns : h.Ns1 dx mA
  ne : dx ≠ x

theorem lookIn_ns {h : Heap} {dx : Addr} {mA : Str → Option Value} (n : h.Ns1 dx mA) : ∃ od, h.get? dx = some od ∧ ∀ name, PySem.W.lookIn name od = some (mA name) := by
  obtain ⟨o, es, ep, ho, hd, hk, _, hm⟩ := n
  refine ⟨o, ho, fun name => ?_⟩
  have e := hm name
  unfold nsFind findBy at e
  rw [← Array.find?_toList] at e
  unfold PySem.W.lookIn
  rw [hd]
  dsimp only
  split
  · rename_i y q
    rw [q] at e
    exact congrArg some e
  · rename_i q
    rw [q] at e
    have a : es.toList.any (·.refKey) = false := by
      rw [List.any_eq_false]
      intro y hy
      obtain ⟨z, t, hkey⟩ := hk y (Array.mem_toList_iff.mp hy)
      simp [DictEntry.refKey, hkey]
    have a' : ¬ es.toList.any (·.refKey) = true := by rw [a]; exact Bool.false_ne_true
    rw [if_neg a']
    exact congrArg some e

theorem ObjM.look {h : Heap} {x dx C : Addr} {mA : Str → Option Value} (I : ObjM h x dx C mA) : ∃ od, PySem.W.InstAt h x (PySem.W.instObj C dx) C (some od) ∧ ∀ name, PySem.W.lookIn name od = some (mA name) :=
  let ⟨od, ho, hl⟩ := lookIn_ns I.ns
  ⟨od, ⟨I.obj, rfl, rfl, ho⟩, hl⟩

section
variable {prog : Program} {w : World} {A : Around} {E : Value → Shared → Prop} {s : Shared} {K : PySem.W.Frag} {x dx C f : Addr} {mA : Str → Option Value} {name : Str} {v : Value}

theorem get_map {expr : Bool} {Q : Value → Shared → Prop} (X : K.In s.heap) (I : ObjM s.heap x dx C mA) (hg : PySem.W.plainGet K C name = true) (hh : PySem.W.hasDictIn K C = true)
    (ha : PySem.W.findIn K (.ref C) name = some none) (hv : mA name = some v) (hv' : PySem.W.handedIn v = true) (h : Q v { s with toks := s.toks + 1 }) :
    wpAny (model prog w) A (getAttr (.ref x) name expr) Q E s := by
  obtain ⟨od, J, hl⟩ := I.look
  exact PySem.W.get_value X J (PySem.W.plainGet_of hg).1 (PySem.W.findObj_own hh ha rfl (by rw [hl, hv])) hv' h

theorem get_meth {pl : Sem Bool} {Q : Value × List Value → Shared → Prop} (X : K.In s.heap) (I : ObjM s.heap x dx C mA) (hg : PySem.W.plainGet K C name = true)
    (hf : PySem.W.findIn K (.ref C) name = some (some (.ref f))) (ht : PySem.W.isFn K (.ref f) = true) (hv : mA name = none) (h : Q (.ref f, [.ref x]) s) :
    wpAny (model prog w) A (getMethod (.ref x) name pl) Q E s := by
  obtain ⟨od, J, hl⟩ := I.look
  exact PySem.W.method_fn X J (PySem.W.plainGet_of hg).1 (PySem.W.plainGet_of hg).2 hf (beq_iff_eq.mp ht) (by show (PySem.W.lookIn name od).map (·.isSome) = some false; rw [hl, hv]; rfl) h

theorem set_map {ns : List Str} {Q : Unit → Shared → Prop} (X : K.In s.heap) (I : ObjM s.heap x dx C mA)
    (hs : PySem.W.findIn K (.ref C) "__setattr__" = some (some (.builtin "object.__setattr__"))) (hp : PySem.W.plainOver K C = true) (ht : PySem.W.takerIn K C name = some none) (hh : PySem.W.hasDictIn K C = true)
    (hw : PySem.Within mA ns) (hsz : ns.length ≤ sizeLine)
    (h : ∀ h', ObjM h' x dx C (fun y => if y = name then some v else mA y) → Heap.SameBut dx s.heap h' → Q () { s with heap := h', toks := s.toks + 2 }) :
    wpAny (model prog w) A (setAttr (.ref x) name v) Q E s := by
  obtain ⟨od, J, hl⟩ := I.look
  refine PySem.W.set_plain X J hs (PySem.W.osa_open (s := { s with toks := s.toks + 1 }) (r := none) X J hp ht fun b => ?_)
  obtain ⟨cd, hc, hd'⟩ := PySem.W.any_some hh
  have hx : s.heap.get? x = some ⟨.ref C, some dx, .plain, #[]⟩ := I.obj
  refine wpAny_bind (wpAny_pure (wpAny_bind (wpAny_bind (wpAny_loadPart hx (wpAny_bind (PySem.W.Looks.here (s := { s with toks := s.toks + 1 }) (PySem.W.looks_clsIn X hc) ?_))))))
  rw [hd']
  refine wpAny_pure (a := some dx) (wpAny_bind (wpAny_pure (wpAny_bind ?_)))
  refine wpAny_nsSet1 (s := { s with toks := s.toks + 1 }) I.ns fun h' hn2 hs2 => ?_
  obtain ⟨oD, esD, epD, hoD, hdD, hcD⟩ := hn2.count (PySem.Within.cons name v hw)
  refine wpAny_bind (wpAny_lookBehind hoD (by rw [hdD]; exact pastItsLine_dict (Nat.le_trans hcD (by rw [List.length_cons]; omega))) ?_)
  exact wpAny_pure (h _ ⟨(hs2.2 _ (Ne.symm I.ne)).trans I.obj, hn2, I.ne⟩ hs2)

theorem make_map {R : Result → Shared → Prop} {vs : List Value} {kw : List (Str × Value)} (X : K.In s.heap) (hm : PySem.W.makesIn K C = true)
    (hi : PySem.W.findIn K (.ref C) "__init__" = some (some (.ref f))) (hf : PySem.W.typeIn K (.ref f) = some (.type "function"))
    (h : codeAny (model prog w) (A.under (.builtin "type.__call__" ⟨.ref C :: vs, kw⟩)) (.call (.ref f) ⟨.ref (s.heap.objs.size + 1) :: vs, kw⟩) (PySem.W.InitBack (s.heap.objs.size + 1) R)
      { s with heap := (s.heap.push PySem.W.emptyDict).push (PySem.W.instObj C s.heap.objs.size) }) :
    codeAny (model prog w) A (.call (.ref C) ⟨vs, kw⟩) R s := by
  obtain ⟨hh, g, d, t, os⟩ := s
  exact PySem.W.make_core (PySem.W.makes_of X hm) (PySem.W.looks_findIn X hi) (fun self => PySem.W.bind_fn X self hf) (.inl rfl) h
end

def putF (f : Str) (v : V) : List (Str × V) → List (Str × V)
  | [] => [(f, v)]
  | (g, x) :: r => if g = f then (g, v) :: r else (g, x) :: putF f v r
theorem lookup_putF (f g : Str) (v : V) : ∀ fs : List (Str × V), (putF f v fs).lookup g = if g = f then some v else fs.lookup g
  | [] => by
    show List.lookup g [(f, v)] = _
    by_cases h : g = f
    · have hb : (g == f) = true := beq_iff_eq.mpr h
      simp only [List.lookup, hb, if_pos h]
    · have hb : (g == f) = false := beq_eq_false_iff_ne.mpr h
      simp only [List.lookup, hb, if_neg h]
  | (k, x) :: r => by
    have ih := lookup_putF f g v r
    rw [show putF f v ((k, x) :: r) = (if k = f then (k, v) :: r else (k, x) :: putF f v r) from rfl]
    by_cases hk : k = f
    · rw [if_pos hk]
      by_cases h : g = k
      · have hb : (g == k) = true := beq_iff_eq.mpr h
        simp only [List.lookup, hb, if_pos (h.trans hk)]
      · have hb : (g == k) = false := beq_eq_false_iff_ne.mpr h
        simp only [List.lookup, hb, if_neg (fun e : g = f => h (e.trans hk.symm))]
    · rw [if_neg hk]
      by_cases h : g = k
      · have hb : (g == k) = true := beq_iff_eq.mpr h
        simp only [List.lookup, hb, if_neg (fun e : g = f => hk (h.symm.trans e))]
      · have hb : (g == k) = false := beq_eq_false_iff_ne.mpr h
        simp only [List.lookup, hb]
        exact ih
theorem keys_putF (f : Str) (v : V) : ∀ fs : List (Str × V), f ∈ (putF f v fs).map (·.1) ∧ ∀ g, g ∈ fs.map (·.1) → g ∈ (putF f v fs).map (·.1)
  | [] => ⟨by simp [putF], fun g h => by simp at h⟩
  | (k, x) :: r => by
    obtain ⟨i1, i2⟩ := keys_putF f v r
    rw [show putF f v ((k, x) :: r) = (if k = f then (k, v) :: r else (k, x) :: putF f v r) from rfl]
    by_cases hk : k = f
    · rw [if_pos hk]
      subst hk
      exact ⟨by simp, fun g h => by simpa using h⟩
    · rw [if_neg hk]
      refine ⟨?_, fun g h => ?_⟩
      · rw [List.map_cons]
        exact List.mem_cons_of_mem _ i1
      · rw [List.map_cons] at h ⊢
        rcases List.mem_cons.mp h with e | e
        · exact List.mem_cons.mpr (.inl e)
        · exact List.mem_cons_of_mem _ (i2 g e)
theorem length_putF (f : Str) (v : V) : ∀ fs : List (Str × V), (putF f v fs).length ≤ fs.length + 1
  | [] => by simp [putF]
  | (k, x) :: r => by
    have ih := length_putF f v r
    rw [show putF f v ((k, x) :: r) = (if k = f then (k, v) :: r else (k, x) :: putF f v r) from rfl]
    by_cases hk : k = f
    · rw [if_pos hk, List.length_cons, List.length_cons]; omega
    · rw [if_neg hk, List.length_cons, List.length_cons]; omega

theorem RelO.some_of {v : V} {o : Option Value} (r : RelO (some v) o) : ∃ u, o = some u ∧ RelV v u := by
  cases o with
  | none => exact (show False from r).elim
  | some u => exact ⟨u, rfl, r⟩
theorem RelO.none_of {o : Option Value} (r : RelO none o) : o = none := by
  cases o with
  | none => rfl
  | some u => exact (show False from r).elim
theorem handed_of {v : V} {u : Value} (r : RelV v u) : PySem.W.handedIn u = true := by
  cases v with
  | non => cases (show u = Value.none from r); rfl
  | bl b => cases (show u = Value.bool b from r); rfl
  | int i => obtain ⟨t, e⟩ := (show ∃ t, u = Value.int i t from r); cases e; rfl
  | str x => obtain ⟨t, e⟩ := (show ∃ t, u = Value.str x t from r); cases e; rfl
  | byt b => obtain ⟨t, e⟩ := (show ∃ t, u = Value.bytes b t from r); cases e; rfl
  | flt b => obtain ⟨t, e⟩ := (show ∃ t, u = Value.float b t from r); cases e; rfl
  | ref a => cases (show u = Value.ref a from r); rfl
  | ty n => cases (show u = Value.type n from r); rfl

section
variable {P : Program} {w : World} {H H' : Hp} {h h' : Heap} {a C dx : Addr} {fs fs' : List (Str × V)}
theorem ins_get (hok : HOk P w H h) (e : H a = some (.ins C dx fs)) : ∃ mA, ObjM h a dx C mA ∧ (∀ f, RelO (fs.lookup f) (mA f)) ∧ PySem.Within mA (fs.map (·.1)) ∧ fs.length ≤ 1000 ∧ H dx = some (.own a) := by
  obtain ⟨d, z, ne, ob, mA, n, r, q⟩ := (show ObjOk P w H h a (.ins C dx fs) from hok a _ e)
  exact ⟨mA, ⟨ob, n, ne⟩, r, q, z, d⟩
end

structure Cls (K : PySem.W.Frag) (C : Addr) : Prop where
  pg : PySem.W.plainGet K C Str.empty = true
  hd : PySem.W.hasDictIn K C = true
  po : PySem.W.plainOver K C = true
  sa : PySem.W.findIn K (.ref C) "__setattr__" = some (some (.builtin "object.__setattr__"))
theorem Cls.get {K : PySem.W.Frag} {C : Addr} (c : Cls K C) (f : Str) : PySem.W.plainGet K C f = true := c.pg
def NoAttr (K : PySem.W.Frag) (C : Addr) (f : Str) : Prop := PySem.W.findIn K (.ref C) f = some none
theorem NoAttr.taker {K : PySem.W.Frag} {C : Addr} {f : Str} (n : NoAttr K C f) : PySem.W.takerIn K C f = some none := by
  unfold PySem.W.takerIn
  rw [show PySem.W.findIn K (.ref C) f = some none from n]
  rfl
structure Con (K : PySem.W.Frag) (C : Addr) (f : Str) (v : V) (u : Value) : Prop where
  at_ : PySem.W.findIn K (.ref C) f = some (some u)
  rel : RelV v u
  get : PySem.W.specialIn K u "__get__" = some none
  cp : PySem.W.copiedNames.contains f = false
structure Meth (K : PySem.W.Frag) (C : Addr) (m : Str) (f : Addr) : Prop where
  at_ : PySem.W.findIn K (.ref C) m = some (some (.ref f))
  fn : PySem.W.isFn K (.ref f) = true
  kp : PySem.W.keepIn K (.ref f) = true

section
variable {X : Cx} {pins : List (Addr × Obj)} {σ : St} {H : Hp} {s : Shared} {a C dx : Addr} {fs : List (Str × V)} {f : Str} {v : V} {A : Around} {E : Value → Shared → Prop}

theorem getattr_ok {b : Bool} {Q : Value → Shared → Prop} (I : Inv X pins σ H s) (e : H a = some (.ins C dx fs)) (c : Cls X.K C) (n : NoAttr X.K C f) (l : fs.lookup f = some v)
    (h : ∀ u s', Inv X pins σ H s' → RelV v u → Q u s') : wpAny (model X.prog X.w) A (getAttr (.ref a) f b) Q E s := by
  obtain ⟨mA, O, r, _, _, _⟩ := ins_get I.hok e
  obtain ⟨u, hu, ru⟩ := RelO.some_of (v := v) (o := mA f) (by rw [← l]; exact r f)
  exact get_map I.kIn O (c.get f) c.hd n hu (handed_of ru) (h u _ (I.tok _) ru)

theorem getmeth_ok {m : Str} {g : Addr} {pl : Sem Bool} {Q : Value × List Value → Shared → Prop} (I : Inv X pins σ H s) (e : H a = some (.ins C dx fs)) (c : Cls X.K C) (k : Meth X.K C m g) (l : fs.lookup m = none)
    (h : Q (.ref g, [.ref a]) s) : wpAny (model X.prog X.w) A (getMethod (.ref a) m pl) Q E s := by
  obtain ⟨mA, O, r, _, _, _⟩ := ins_get I.hok e
  have hn : mA m = none := RelO.none_of (by rw [← l]; exact r m)
  exact get_meth I.kIn O (c.get m) k.at_ k.fn hn h

theorem setattr_ok {y : V} {u : Value} {Q : Unit → Shared → Prop} (I : Inv X pins σ H s) (e : H a = some (.ins C dx fs)) (c : Cls X.K C) (n : NoAttr X.K C f) (hl : fs.length < 1000) (ry : RelV y u)
    (h : ∀ s', Inv X pins σ (upd H a (.ins C dx (putF f y fs))) s' → Q () s') : wpAny (model X.prog X.w) A (setAttr (.ref a) f u) Q E s := by
  obtain ⟨mA, O, r, wi, _, ho⟩ := ins_get I.hok e
  have hz : (fs.map (·.1)).length ≤ sizeLine := by rw [List.length_map, sizeLine_eq]; omega
  refine set_map I.kIn O c.sa c.po n.taker c.hd wi hz fun h' O' sb => h _ ?_
  have hd : ∃ o, h'.get? dx = some o := let ⟨o, _, _, e', _⟩ := O'.ns; ⟨o, e'⟩
  refine I.write (x := a) (e := dx) (by rw [e]; exact True.intro) (.inr ho) (fun b q hb z => (sb.2 b hb).trans z) hd ?_
  refine ⟨by rw [upd_ne O.ne]; exact ho, ?_, O.ne, O'.obj, _, O'.ns, fun g => ?_, fun g hg => ?_⟩
  · have := length_putF f y fs; omega
  · show RelO ((putF f y fs).lookup g) (if g = f then some u else mA g)
    rw [lookup_putF]
    by_cases q : g = f
    · rw [if_pos q, if_pos q]; exact ry
    · rw [if_neg q, if_neg q]; exact r g
  · by_cases q : g = f
    · rw [q]; exact (keys_putF f y fs).1
    · refine (keys_putF f y fs).2 g (wi g fun z => hg ?_)
      show (if g = f then some u else mA g) = none
      rw [if_neg q]; exact z

theorem Inv.made (I : Inv X pins σ H s) : Inv X pins σ (upd (upd H s.heap.objs.size (.own (s.heap.objs.size + 1))) (s.heap.objs.size + 1) (.ins C s.heap.objs.size []))
    { s with heap := (s.heap.push PySem.W.emptyDict).push (PySem.W.instObj C s.heap.objs.size) } := by
  have e1 : (s.heap.push PySem.W.emptyDict).get? s.heap.objs.size = some PySem.W.emptyDict := Heap.get?_push_size s.heap rfl
  have e2 : ((s.heap.push PySem.W.emptyDict).push (PySem.W.instObj C s.heap.objs.size)).get? (s.heap.objs.size + 1) = some (PySem.W.instObj C s.heap.objs.size) := by
    have := Heap.get?_push_size (s.heap.push PySem.W.emptyDict) (o := PySem.W.instObj C s.heap.objs.size) rfl
    rwa [Heap.size_push] at this
  have e3 : (s.heap.push PySem.W.emptyDict).Ns s.heap.objs.size (fun _ => none) := ⟨PySem.W.emptyDict, #[], _, e1, rfl, (fun e he => absurd he (by simp)), fun _ => rfl⟩
  have I1 := I.laid (a := s.heap.objs.size) (o := .own (s.heap.objs.size + 1)) (h' := s.heap.push PySem.W.emptyDict) (t' := s.toks) (fun b u q => Heap.get?_push_of_some _ q) (Nat.le_refl _) ⟨_, e1⟩
  refine I1.laid (a := s.heap.objs.size + 1) (o := .ins C s.heap.objs.size []) (t' := s.toks) (fun b u q => Heap.get?_push_of_some _ q) (Nat.le_of_eq (Heap.size_push _ _)) ?_
  have ne : s.heap.objs.size ≠ s.heap.objs.size + 1 := Nat.ne_of_lt (Nat.lt_succ_self _)
  refine ⟨by rw [upd_ne ne, upd_same], Nat.zero_le _, ne, e2, fun _ => none, (Heap.Ns1.of_empty e3).at fun o q => Heap.get?_push_of_some _ q, fun _ => True.intro, fun y hy => absurd rfl hy⟩

theorem attr_of {prog : Program} {w : World} {env : Env} {e : Expr} {f : Str} {pos : Pos} {s : Shared} {Q : Value → Shared → Prop} (hb : attributeBase e f env (eval e env) = eval e env)
    (h : wpAny (model prog w) A (eval e env) (fun o s₁ => wpAny (model prog w) A (getAttr o f true) Q E s₁) E s) : wpAny (model prog w) A (eval (.Attribute e f pos) env) Q E s :=
  Attribute_any_ h (by rw [arm_eval_Attribute, hb])
end

def tFld (K : PySem.W.Frag) (ta : TE) (f : Str) : TE := fun σ H Q => ta σ H fun x H1 => ∃ a C dx fs v, x = .ref a ∧ H1 a = some (.ins C dx fs) ∧ Cls K C ∧ NoAttr K C f ∧ fs.lookup f = some v ∧ Q v H1
def sFld (K : PySem.W.Frag) (ta tv : TE) (f : Str) : TS := fun D σ H => tv σ H fun y H1 => ta σ H1 fun x H2 => ∃ a C dx fs, x = .ref a ∧ H2 a = some (.ins C dx fs) ∧ Cls K C ∧ NoAttr K C f ∧ fs.length < 1000 ∧
  D.nx σ (upd H2 a (.ins C dx (putF f y fs)))
def InOp (X : Cx) (op : Operator) (rd : V → V → Hp → VK → Prop) : Prop :=
  ∀ (pins : List (Addr × Obj)) (s : Shared) (σ : St) (H : Hp) (x y : V) (u v : Value) (Q : VK), Inv X pins σ H s → RelV x u → RelV y v → rd x y H Q → wpAny (model X.prog X.w) X.A (inplaceOp op u v) (EP X pins σ Q) X.xe s
def sFldAug (K : PySem.W.Frag) (ta tv : TE) (rd : V → V → Hp → VK → Prop) (f : Str) : TS := fun D σ H => ta σ H fun x H1 => ∃ a C dx fs v, x = .ref a ∧ H1 a = some (.ins C dx fs) ∧ Cls K C ∧ NoAttr K C f ∧ fs.lookup f = some v ∧
  tv σ H1 fun y H2 => rd v y H2 fun z H3 => ∃ dx' fs', H3 a = some (.ins C dx' fs') ∧ fs'.length < 1000 ∧ D.nx σ (upd H3 a (.ins C dx' (putF f z fs')))

section
variable {X : Cx} {o e value : Expr} {f : Str} {pos pos' tpos : Pos} {ta tv : TE}
theorem pe_fld (he : PE X e ta) (hb : attributeBase e f X.env (eval e X.env) = eval e X.env) : PE X (.Attribute e f pos) (tFld X.K ta f) := by
  intro pins s σ H Q I h
  refine attr_of hb (thn (he pins s σ H _ I h) fun u s1 ⟨x, H1, I1, rx, a, C, dx, fs, v, ex, ea, c, n, l, q⟩ => ?_)
  subst ex
  obtain rfl : u = Value.ref a := rx
  exact getattr_ok I1 ea c n l fun u' s2 I2 ru => ⟨v, H1, I2, ru, q⟩
theorem ps_fld (ha : PE X o ta) (hv : PE X value tv) (hs : swapsWith value (some (.Attribute o f pos')) pos.line X.env = pure false) : PS X (.Assign [.Attribute o f pos'] value pos) (sFld X.K ta tv f) := by
  intro pins s σ H D I h
  refine plainObj_wpAny_Assign_Attribute (thn (hv pins s σ H _ I h) fun u s1 ⟨y, H1, I1, ry, q⟩ => thn (ha pins s1 σ H1 _ I1 q) fun ov s2 ⟨x, H2, I2, rx, a, C, dx, fs, ex, ea, c, n, l, q2⟩ => ?_) hs
  subst ex
  obtain rfl : ov = Value.ref a := rx
  exact setattr_ok I2 ea c n l ry fun s3 I3 => ⟨σ, _, I3, q2⟩
theorem ps_fldaug {op : Operator} {rd : V → V → Hp → VK → Prop} (ha : PE X o ta) (hv : PE X value tv) (hop : InOp X op rd) : PS X (.AugAssign (.Attribute o f tpos) op value pos) (sFldAug X.K ta tv rd f) := by
  intro pins s σ H D I h
  refine wpAny_AugAssign_AttributeAny (thn (ha pins s σ H _ I h) fun ov s1 ⟨x, H1, I1, rx, a, C, dx, fs, v, ex, ea, c, n, l, q⟩ => ?_)
  subst ex
  obtain rfl : ov = Value.ref a := rx
  refine getattr_ok I1 ea c n l fun u s2 I2 ru => thn (hv pins s2 σ H1 _ I2 q) fun w3 s3 ⟨y, H2, I3, ry, q3⟩ => thn (hop pins s3 σ H2 v y u w3 _ I3 ru ry q3) fun w4 s4 ⟨z, H3, I4, rz, dx', fs', ea', l', q4⟩ => ?_
  exact setattr_ok I4 ea' c n l' rz fun s5 I5 => ⟨σ, _, I5, q4⟩
def rAdd : V → V → Hp → VK → Prop := fun x y H Q => ∃ i j, x = .int i ∧ y = .int j ∧ Q (.int (i + j)) H
theorem in_add : InOp X .Add rAdd := by
  rintro pins s σ H x y u v Q I rx ry ⟨i, j, rfl, rfl, q⟩
  obtain ⟨t, rfl⟩ := (show ∃ t, u = Value.int i t from rx)
  obtain ⟨t', rfl⟩ := (show ∃ t', v = Value.int j t' from ry)
  exact PyProof.Rows.iadd_int ⟨.int (i + j), H, I.tok _, ⟨_, rfl⟩, q⟩
end

section
variable {X : Cx} {pins : List (Addr × Obj)} {σ : St} {H : Hp} {s : Shared} {A : Around} {E : Value → Shared → Prop} {Q : Value → Shared → Prop} {c : Value} {b : Bool}
inductive TyOf (K : PySem.W.Frag) (H : Hp) : V → Value → Prop where
  | non : TyOf K H .non (.type "NoneType")
  | bl (x : Bool) : TyOf K H (.bl x) (.type "bool")
  | int (i : Int) : TyOf K H (.int i) (.type "int")
  | str (x : Str) : TyOf K H (.str x) (.type "str")
  | flt (x : UInt64) : TyOf K H (.flt x) (.type "float")
  | lst {a : Addr} {xs : List V} (e : H a = some (.lst xs)) : TyOf K H (.ref a) (.type "list")
  | frz {a : Addr} {o : Obj} {xs : List V} (e : H a = some (.frz o (.lst xs))) : TyOf K H (.ref a) (.type "list")
  | tup {a : Addr} {xs : List V} (e : H a = some (.tup xs)) : TyOf K H (.ref a) (.type "tuple")
  | dK {a : Addr} {kvs : List (Key × V)} (e : H a = some (.dK kvs)) : TyOf K H (.ref a) (.type "dict")
  | dT {a : Addr} {kvs : List (List Key × V)} (e : H a = some (.dT kvs)) : TyOf K H (.ref a) (.type "dict")
  | ins {a C dx : Addr} {fs : List (Str × V)} (e : H a = some (.ins C dx fs)) (cl : Cls K C) (ha : PySem.W.findIn K (.ref C) "__class__" = some (some (.builtin "object.__class__")))
      (hn : PySem.W.specialIn K (.builtin "object.__class__") "__get__" = some (some (.builtin "getset_descriptor.__get__"))) (htk : PySem.W.takesIn K (.builtin "object.__class__") = some true)
      (hm : PySem.W.mroIn K C (.type "object") = some true) : TyOf K H (.ref a) (.ref C)
end
end L2

namespace L2
open PySem PySem.Spec PyProof.Rows

structure Room (k : Nat) (A : Around) : Prop where
  hd : A.handled = none
  dp : A.depth + 3 * k + 5 < recursionLimit
  un : A.units + 16 * k + 200 < cLine
theorem Room.mono {j k : Nat} {A : Around} (r : Room k A) (h : j ≤ k) : Room j A := ⟨r.hd, by have := r.dp; omega, by have := r.un; omega⟩
theorem Room.deeper {k : Nat} {A : Around} (r : Room (k + 1) A) (env : Env) : Room k (A.deeper env) :=
  ⟨r.hd, by have := r.dp; show A.depth + 1 + 3 * k + 5 < _; omega, by have := r.un; show A.units + 3 + 16 * k + 200 < _; omega⟩
theorem make_depth {A : Around} {C : Addr} {us : List Value} {kw : List (Str × Value)} : (A.under (.builtin "type.__call__" ⟨.ref C :: us, kw⟩)).depth = A.depth + 1 := by
  first | rfl | simp [Around.under, Code.weight, Code.isCreation, Code.isGuard, Code.isCaller, Code.frames, Code.isFrame, guardIds]
theorem make_units {A : Around} {C : Addr} {us : List Value} {kw : List (Str × Value)} : (A.under (.builtin "type.__call__" ⟨.ref C :: us, kw⟩)).units = A.units + 1 := by
  first | rfl | simp [Around.under, Code.cUnits, Code.frames, Code.isFrame]
theorem Room.make {k : Nat} {A : Around} (r : Room (k + 1) A) (C : Addr) (us : List Value) (kw : List (Str × Value)) : Room k (A.under (.builtin "type.__call__" ⟨.ref C :: us, kw⟩)) :=
  ⟨r.hd, by have := r.dp; rw [make_depth]; omega, by have := r.un; rw [make_units]; omega⟩
theorem Room.depth {k : Nat} {A : Around} (r : Room k A) : A.depth < recursionLimit := by have := r.dp; omega
theorem Room.units {k : Nat} {A : Around} (r : Room k A) : A.units + 64 < cLine := by have := r.un; omega
def tNil : TA := fun _ H Q => Q [] H
def tCons (ta : TE) (tr : TA) : TA := fun σ H Q => ta σ H fun x H1 => tr σ H1 fun xs H2 => Q (x :: xs) H2
section
variable {X : Cx} {e : Expr} {es : List Expr} {te : TE} {t : TA} {pos : Pos}
theorem pa_nil : PA X [] tNil := fun _ _ _ _ H Q I h => Calls.spliced_nil ⟨[], H, I, .nil, h⟩
theorem pa_cons (ha : PE X e te) (hr : PA X es t) (hs : starEach (e :: es) X.env = (false, eval e X.env) :: starEach es X.env := by rfl) : PA X (e :: es) (tCons te t) := by
  intro pos pins s σ H Q I h
  rw [hs]
  show wpAny _ _ (spliced ((false, eval e X.env) :: backTo pos (starEach es X.env))) _ _ s
  refine Calls.spliced_cons (thn (ha pins s σ H _ I h) fun u s1 ⟨x, H1, I1, r1, q1⟩ => ?_)
  exact thn (hr pos pins s1 σ H1 _ I1 q1) fun us s2 ⟨xs, H2, I2, r2, q2⟩ => ⟨x :: xs, H2, I2, .cons r1 r2, q2⟩

def tTup (t : TA) : TE := fun σ H Q => t σ H fun xs H1 => xs.length ≤ sizeLine ∧ ∀ p, H1 p = none → Q (.ref p) (upd H1 p (.tup xs))
def tLst (t : TA) : TE := fun σ H Q => t σ H fun xs H1 => xs.length ≤ sizeLine ∧ ∀ p, H1 p = none → Q (.ref p) (upd H1 p (.lst xs))
theorem pe_tup {x1} (h : PA X es t) : PE X (.Tuple es x1 pos) (tTup t) := by
  intro pins s σ H Q I hq
  refine wpAny_Tuple_spliced (thn (h pos pins s σ H _ I hq) fun us s1 ⟨xs, H1, I1, r, z, q⟩ => ⟨by rw [← r.length]; exact z, ?_⟩)
  have hf : H1 s1.heap.objs.size = none := I1.hok.fresh (Nat.le_refl _)
  refine ⟨.ref s1.heap.objs.size, upd H1 s1.heap.objs.size (.tup xs), I1.laid (t' := s1.toks) (fun b u e => Heap.get?_push_of_some _ e) (Nat.le_refl _) ?_, rfl, q _ hf⟩
  exact ⟨z, us, r, ⟨_, Heap.get?_push_size _ rfl, rfl, _, rfl⟩⟩
theorem pe_lst (h : PA X es t) : PE X (.List es pos) (tLst t) := by
  intro pins s σ H Q I hq
  refine wpAny_List_spliced (thn (h pos pins s σ H _ I hq) fun us s1 ⟨xs, H1, I1, r, z, q⟩ => ⟨by rw [← r.length]; exact z, ?_⟩)
  have hf : H1 s1.heap.objs.size = none := I1.hok.fresh (Nat.le_refl _)
  refine ⟨.ref s1.heap.objs.size, upd H1 s1.heap.objs.size (.lst xs), I1.laid (t' := s1.toks) (fun b u e => Heap.get?_push_of_some _ e) (Nat.le_refl _) ?_, rfl, q _ hf⟩
  exact ⟨z, us, 0, r, Heap.get?_push_size _ rfl⟩
end

abbrev Sp := List V → Hp → VK → XK → Prop
abbrev CXT := List Env → Hp → Shared → XK → Value → Shared → Prop

structure Env0 (P : Program) (w : World) (K : PySem.W.Frag) (mg : Str → Option Value) (base : Heap) (A : Around) (outer : List Env) (s : Shared) (H : Hp) : Prop where
  frames : A.frames = some outer
  mod : Mod K mg base
  bs : ∀ b o, base.get? b = some o → s.heap.get? b = some o ∧ H b = none
  bsz : base.objs.size ≤ s.heap.objs.size
  funs : s.heap.FunFrames base outer
  frf : ∀ b ∈ frs outer, H b = none
  hok : HOk P w H s.heap
  bare : AllBare s.gens
def CE (outer : List Env) (P : Program) (w : World) (H : Hp) (s : Shared) (Q : VK) (u : Value) (s' : Shared) : Prop :=
  ∃ v H', s'.os = s.os ∧ AllBare s'.gens ∧ Un (frs outer) [] H H' s.heap s'.heap ∧ HOk P w H' s'.heap ∧ RelV v u ∧ Q v H'
def CR (CX : CXT) (outer : List Env) (P : Program) (w : World) (H : Hp) (s : Shared) (Q : VK) (E : XK) (r : Result) (s' : Shared) : Prop :=
  match r with
  | .ok (.ret u) => CE outer P w H s Q u s'
  | .ok _ => False
  | .error e => CX outer H s E e s'
structure FnOk (P : Program) (w : World) (K : PySem.W.Frag) (mg : Str → Option Value) (base : Heap) (CX : CXT) (k : Nat) (f : Addr) (fd : FuncData) (ps : List Str) (sp : Sp) : Prop where
  len : ∀ vs H Q E, sp vs H Q E → vs.length = ps.length
  run : ∀ (A : Around) (outer : List Env) (s : Shared) (H : Hp) (args : Args) (us : List Value) (vs : List V) (Q : VK) (E : XK), Room k A → Env0 P w K mg base A outer s H → BindsTo s fd args (ps.zip us) → Vals vs us → sp vs H Q E →
    codeAny (model P w) A (.call (.ref f) args) (CR CX outer P w H s Q E) s
theorem Env0.make {P : Program} {w : World} {K : PySem.W.Frag} {mg : Str → Option Value} {base : Heap} {A : Around} {outer : List Env} {s : Shared} {H : Hp} (e : Env0 P w K mg base A outer s H) (C : Addr) (us : List Value) (kw : List (Str × Value)) :
    Env0 P w K mg base (A.under (.builtin "type.__call__" ⟨.ref C :: us, kw⟩)) outer s H := ⟨by first | exact e.frames | (simpa [Around.under, Code.envs, Code.isFrame, pushEnvs] using e.frames), e.mod, e.bs, e.bsz, e.funs, e.frf, e.hok, e.bare⟩
section
variable {X : Cx} {pins : List (Addr × Obj)} {σ : St} {H : Hp} {s s' : Shared}
theorem Inv.env0 (I : Inv X pins σ H s) : Env0 X.prog X.w X.K X.mg X.base X.A X.stack s H :=
  ⟨I.ok.frames, I.ok.mod, I.bs, Nat.le_trans I.ok.bsz I.sz, I.stack, I.stkFree, I.hok, I.bare⟩
theorem Inv.after {Q : VK} {u : Value} (I : Inv X pins σ H s) (h : CE X.stack X.prog X.w H s Q u s') : EP X pins σ Q u s' := by
  obtain ⟨v, H', os, bare, un, hok, r, q⟩ := h
  obtain ⟨hh, g, d, t, os'⟩ := s'
  obtain rfl : os' = s.os := os
  exact ⟨v, H', I.call (h' := hh) (g' := g) (d' := d) (t' := t) (ch := []) un hok bare (fun b z => absurd z (by simp)), r, q⟩
end

def tCall (sp : Sp) (dvs : List V) (E : XK) (t : TA) : TE := fun σ H Q => t σ H fun vs H1 => sp (vs ++ dvs) H1 Q E
def tMeth (C : Addr) (m : Str) (sp : Sp) (dvs : List V) (E : XK) (ta : TE) (t : TA) : TE := fun σ H Q => ta σ H fun x H1 => ∃ a dx fs, x = .ref a ∧ H1 a = some (.ins C dx fs) ∧ fs.lookup m = none ∧
  t σ H1 fun vs H2 => sp (x :: (vs ++ dvs)) H2 Q E
def tMake (C : Addr) (sp : Sp) (dvs : List V) (E : XK) (t : TA) : TE := fun σ H Q => t σ H fun vs H1 => ∀ x dx, H1 x = none → H1 dx = none → dx ≠ x →
  sp (.ref x :: (vs ++ dvs)) (upd (upd H1 dx (.own x)) x (.ins C dx [])) (fun v H2 => v = .non ∧ Q (.ref x) H2) E

def Binds (K : PySem.W.Frag) (fd : FuncData) (ps : List Str) (ds : List Value) : Prop :=
  ∀ (s : Shared) (us : List Value), K.In s.heap → (us ++ ds).length = ps.length → BindsTo s fd ⟨us, []⟩ (ps.zip (us ++ ds))
theorem Binds.all {K : PySem.W.Frag} {fd : FuncData} {ps : List Str} (h : ∀ us : List Value, us.length = ps.length → bindArgs fd ⟨us, []⟩ = pure (ps.zip us)) : Binds K fd ps [] := fun s us _ hl => by
  rw [List.append_nil] at hl ⊢
  exact .of_eq (h us hl)

def Passes (CX : CXT) (X : Cx) (E : XK) : Prop := ∀ (pins : List (Addr × Obj)) (σ : St) (H : Hp) (s : Shared) (e : Value) (s' : Shared), Inv X pins σ H s → CX X.stack H s E e s' → X.xe e s'

section
variable {X : Cx} {CX : CXT} {k : Nat} {f C : Addr} {fd : FuncData} {ps : List Str} {sp : Sp} {dvs : List V} {ds : List Value} {E : XK} {x m : Str} {p pos apos : Pos} {e o : Expr} {es : List Expr} {ta : TE} {t : TA}

theorem run_fn {pins : List (Addr × Obj)} {σ : St} {H : Hp} {s : Shared} {Q : VK} {us : List Value} {vs : List V} (F : FnOk X.prog X.w X.K X.mg X.base CX k f fd ps sp) (hr : Room k X.A) (hb : Binds X.K fd ps ds) (hd : Vals dvs ds) (hx : Passes CX X E)
    (I : Inv X pins σ H s) (r : Vals vs us) (h : sp (vs ++ dvs) H Q E) : wpAny (model X.prog X.w) X.A (call (.ref f) us) (EP X pins σ Q) X.xe s := by
  have r2 : Vals (vs ++ dvs) (us ++ ds) := r.append hd
  have hl : (us ++ ds).length = ps.length := by rw [← r2.length]; exact F.len _ _ _ _ h
  refine wpAny_call (codeAny_mono (F.run X.A X.stack s H ⟨us, []⟩ (us ++ ds) (vs ++ dvs) Q E hr I.env0 (hb s us I.kIn hl) r2 h) fun r s' hq => ?_)
  cases r with
  | error e => exact hx pins σ H s e s' I hq
  | ok fl =>
    cases fl with
    | ret u => exact I.after hq
    | next => exact False.elim hq
    | brk => exact False.elim hq
    | cont => exact False.elim hq

theorem pe_call (F : FnOk X.prog X.w X.K X.mg X.base CX k f fd ps sp) (hr : Room k X.A) (hg : Gl X x) (hm : X.mg x = some (.ref f)) (hk : PySem.W.keepIn X.K (.ref f) = true) (hb : Binds X.K fd ps ds) (hd : Vals dvs ds) (hx : Passes CX X E)
    (ha : PA X (e :: es) t) (hdb : (x == ("__debug__" : Str)) = false := by decide) (he : starEach (e :: es) X.env = (false, eval e X.env) :: starEach es X.env := by rfl) (hpl : (backTo pos (starEach es X.env)).any (·.1) = false := by rfl) :
    PE X (.Call (.Name x p) (e :: es) [] pos) (tCall sp dvs E t) := by
  intro pins s σ H Q I h
  refine wpAny_Call_Name_kw (ld_glob I hg hm ?_ hdb)
  refine PySem.W.callWith_K (h₀ := X.base) I.ok.mod.kin hk (thn (ha pos pins s σ H _ I h) fun us s1 ⟨vs, H1, I1, r, q⟩ => ⟨I1.kIn, ?_⟩) he hpl
  exact run_fn F hr hb hd hx I1 r q
theorem pe_meth {pl : Sem Bool} (he : PE X o ta) (c : Cls X.K C) (hm : Meth X.K C m f) (F : FnOk X.prog X.w X.K X.mg X.base CX k f fd ps sp) (hr : Room k X.A) (hb : Binds X.K fd ps ds) (hd : Vals dvs ds) (hx : Passes CX X E) (ha : PA X (e :: es) t)
    (hst : starEach (e :: es) X.env = (false, eval e X.env) :: starEach es X.env := by rfl) (hpl : (backTo pos (starEach es X.env)).any (·.1) = false := by rfl)
    (ht : eval (.Call (.Attribute o m apos) (e :: es) [] pos) X.env = (do
      let ov ← eval o X.env
      standAt apos.atName
      let (f, first) ← holding [ov] (getMethod ov m pl)
      callWith pos f first (backTo pos (starEach (e :: es) X.env)) (backToKw pos (keywordEach [] X.env))) := by rfl) :
    PE X (.Call (.Attribute o m apos) (e :: es) [] pos) (tMeth C m sp dvs E ta t) := by
  intro pins s σ H Q I h
  refine PySem.W.methodCall_KW (pl := pl) (thn (he pins s σ H _ I h) fun u s1 ⟨x, H1, I1, rx, a, dx, fs, ex, ea, l, q⟩ => ?_) ht
  subst ex
  obtain rfl : u = Value.ref a := rx
  refine getmeth_ok I1 ea c hm l ?_
  refine PySem.W.callWith_K (first := [.ref a]) (h₀ := X.base) I.ok.mod.kin hm.kp (thn (ha pos pins s1 σ H1 _ I1 q) fun us s2 ⟨vs, H2, I2, r, q2⟩ => ⟨I2.kIn, ?_⟩) hst hpl
  exact run_fn (us := .ref a :: us) (vs := .ref a :: vs) F hr hb hd hx I2 (.cons rfl r) q2
theorem pe_meth0 {pl : Sem Bool} (he : PE X o ta) (c : Cls X.K C) (hm : Meth X.K C m f) (F : FnOk X.prog X.w X.K X.mg X.base CX k f fd ps sp) (hr : Room k X.A) (hb : Binds X.K fd ps ds) (hd : Vals dvs ds) (hx : Passes CX X E)
    (ht : eval (.Call (.Attribute o m apos) [] [] pos) X.env = (do
      let ov ← eval o X.env
      standAt apos.atName
      let (f, first) ← holding [ov] (getMethod ov m pl)
      callWith pos f first (backTo pos (starEach [] X.env)) (backToKw pos (keywordEach [] X.env))) := by rfl) :
    PE X (.Call (.Attribute o m apos) [] [] pos) (tMeth C m sp dvs E ta tNil) := by
  intro pins s σ H Q I h
  refine PySem.W.methodCall_KW (pl := pl) (thn (he pins s σ H _ I h) fun u s1 ⟨x, H1, I1, rx, a, dx, fs, ex, ea, l, q⟩ => ?_) ht
  subst ex
  obtain rfl : u = Value.ref a := rx
  refine getmeth_ok I1 ea c hm l ?_
  exact PySem.W.callWith_K0 (first := [.ref a]) I1.kIn hm.kp (run_fn (us := [.ref a]) (vs := [.ref a]) F hr hb hd hx I1 (.cons rfl .nil) q)

structure Mk (K : PySem.W.Frag) (C f : Addr) : Prop where
  makes : PySem.W.makesIn K C = true
  init : PySem.W.findIn K (.ref C) "__init__" = some (some (.ref f))
  fn : PySem.W.isFn K (.ref f) = true
  kp : PySem.W.keepIn K (.ref C) = true

theorem run_make {pins : List (Addr × Obj)} {σ : St} {H : Hp} {s : Shared} {Q : VK} {us : List Value} {vs : List V} (M : Mk X.K C f) (F : FnOk X.prog X.w X.K X.mg X.base CX k f fd ps sp) (hr : Room (k + 1) X.A) (hb : Binds X.K fd ps ds) (hd : Vals dvs ds)
    (hx : Passes CX X E) (I : Inv X pins σ H s) (r : Vals vs us)
    (h : ∀ x dx, H x = none → H dx = none → dx ≠ x → sp (.ref x :: (vs ++ dvs)) (upd (upd H dx (.own x)) x (.ins C dx [])) (fun v H2 => v = .non ∧ Q (.ref x) H2) E) :
    wpAny (model X.prog X.w) X.A (call (.ref C) us) (EP X pins σ Q) X.xe s := by
  have hq := h (s.heap.objs.size + 1) s.heap.objs.size (I.hok.fresh (Nat.le_succ _)) (I.hok.fresh (Nat.le_refl _)) (Nat.ne_of_lt (Nat.lt_succ_self _))
  have I2 := Inv.made (C := C) I
  have r2 : Vals (V.ref (s.heap.objs.size + 1) :: (vs ++ dvs)) (Value.ref (s.heap.objs.size + 1) :: (us ++ ds)) := .cons rfl (r.append hd)
  have hl : (Value.ref (s.heap.objs.size + 1) :: us ++ ds).length = ps.length := by
    have e := r2.length
    rw [F.len _ _ _ _ hq] at e
    exact e.symm
  refine wpAny_call (make_map (f := f) I.kIn M.makes M.init (beq_iff_eq.mp M.fn) (codeAny_mono (F.run _ X.stack _ _ ⟨Value.ref (s.heap.objs.size + 1) :: us, []⟩ (Value.ref (s.heap.objs.size + 1) :: (us ++ ds)) _ _ E (hr.make C us [])
    (I2.env0.make C us []) (hb _ (Value.ref (s.heap.objs.size + 1) :: us) I2.kIn hl) r2 hq) fun r s' hq' => ?_))
  cases r with
  | error e => exact hx pins σ _ _ e s' I2 hq'
  | ok fl =>
    cases fl with
    | ret u =>
      obtain ⟨v, H', I3, rv, ev, q3⟩ := I2.after hq'
      subst ev
      exact ⟨rv, ⟨V.ref (s.heap.objs.size + 1), H', I3, rfl, q3⟩⟩
    | next => exact False.elim hq'
    | brk => exact False.elim hq'
    | cont => exact False.elim hq'
theorem pe_make (M : Mk X.K C f) (F : FnOk X.prog X.w X.K X.mg X.base CX k f fd ps sp) (hr : Room (k + 1) X.A) (hg : Gl X x) (hm : X.mg x = some (.ref C)) (hb : Binds X.K fd ps ds) (hd : Vals dvs ds) (hx : Passes CX X E)
    (ha : PA X (e :: es) t) (hdb : (x == ("__debug__" : Str)) = false := by decide) (he : starEach (e :: es) X.env = (false, eval e X.env) :: starEach es X.env := by rfl) (hpl : (backTo pos (starEach es X.env)).any (·.1) = false := by rfl) :
    PE X (.Call (.Name x p) (e :: es) [] pos) (tMake C sp dvs E t) := by
  intro pins s σ H Q I h
  refine wpAny_Call_Name_kw (ld_glob I hg hm ?_ hdb)
  refine PySem.W.callWith_K (h₀ := X.base) I.ok.mod.kin M.kp (thn (ha pos pins s σ H _ I h) fun us s1 ⟨vs, H1, I1, r, q⟩ => ⟨I1.kIn, ?_⟩) he hpl
  exact run_make M F hr hb hd hx I1 r q
theorem pe_make0 (M : Mk X.K C f) (F : FnOk X.prog X.w X.K X.mg X.base CX k f fd ps sp) (hr : Room (k + 1) X.A) (hg : Gl X x) (hm : X.mg x = some (.ref C)) (hb : Binds X.K fd ps ds) (hd : Vals dvs ds) (hx : Passes CX X E)
    (hdb : (x == ("__debug__" : Str)) = false := by decide) : PE X (.Call (.Name x p) [] [] pos) (tMake C sp dvs E tNil) := by
  intro pins s σ H Q I h
  refine wpAny_Call_Name_kw (ld_glob I hg hm ?_ hdb)
  exact PySem.W.callWith_K0 I.kIn M.kp (run_make (us := []) M F hr hb hd hx I .nil h)
end

def PK (X : Cx) (kws : List Keyword) (t : TA) : Prop :=
  ∀ (pos : Pos) (pins : List (Addr × Obj)) (s : Shared) (σ : St) (H : Hp) (Q : List V → Hp → Prop), Inv X pins σ H s → t σ H Q → wpAny (model X.prog X.w) X.A (evalAll ((backToKw pos (keywordEach kws X.env)).map (·.2))) (AP X pins σ Q) X.xe s
section
variable {X : Cx} {CX : CXT} {k : Nat} {f C : Addr} {fd : FuncData} {ps ks : List Str} {sp : Sp} {E : XK} {x m : Str} {p pos apos kpos : Pos} {e o : Expr} {es : List Expr} {kws : List Keyword} {te ta : TE} {t tk : TA} {nm : Option Str}
theorem pk_nil : PK X [] tNil := fun _ _ _ _ H Q I h => wpAny_evalAll_nil ⟨[], H, I, .nil, h⟩
theorem pk_cons (ha : PE X e te) (hr : PK X kws t) : PK X (⟨nm, e, kpos⟩ :: kws) (tCons te t) := by
  intro pos pins s σ H Q I h
  show wpAny _ _ (evalAll ((do let v ← eval e X.env; standAt pos; pure v) :: (backToKw pos (keywordEach kws X.env)).map (·.2))) _ _ s
  refine wpAny_evalAll_cons (wpAny_bind (thn (ha pins s σ H _ I h) fun u s1 ⟨x, H1, I1, r1, q1⟩ => wpAny_bind (wpAny_standAt (wpAny_pure ?_))))
  exact thn (hr pos pins s1 σ H1 _ I1 q1) fun us s2 ⟨xs, H2, I2, r2, q2⟩ => ⟨x :: xs, H2, I2, .cons r1 r2, q2⟩

structure KBinds (K : PySem.W.Frag) (fd : FuncData) (ps ks : List Str) (g : List Value → List Value → List Value) (gV : List V → List V → List V) : Prop where
  to : ∀ (s : Shared) (us ws : List Value), K.In s.heap → (g us ws).length = ps.length → BindsTo s fd ⟨us, ks.zip ws⟩ (ps.zip (g us ws))
  rel : ∀ {vs : List V} {us : List Value} {zs : List V} {ws : List Value}, Vals vs us → Vals zs ws → Vals (gV vs zs) (g us ws)
variable {g : List Value → List Value → List Value} {gV : List V → List V → List V}
end

structure FnScope (N P : List Str) (sc : Scope) : Prop where
  kind : sc.kind = .function
  co : sc.isCoroutine = false
  gen : sc.isGenerator = false
  nd : N.Nodup
  pre : N.take P.length = P
  par : ∀ x ∈ P, sc.names.lookup x = some .local ∨ sc.names.lookup x = some .cell
  nofree : ∀ y ∈ sc.names, y.2 ≠ .free

theorem bindL_out {kindOf : Str → Option NameKind} {x : Str} : ∀ {binds : List (Str × Value)} {m : Str → Option Value}, (∀ v, (x, v) ∉ binds) → bindL kindOf binds m x = m x
  | [], _, _ => rfl
  | (n, v) :: r, m, h => by
    unfold bindL
    rw [bindL_out fun w hw => h w (List.mem_cons_of_mem _ hw)]
    split
    · have : x ≠ n := by rintro rfl; exact h v List.mem_cons_self
      simp [this]
    · rfl
theorem bindC_out {kindOf : Str → Option NameKind} {x : Str} : ∀ {binds : List (Str × Value)} {m : Str → Option Value}, (∀ v, (x, v) ∉ binds) → bindC kindOf binds m x = m x
  | [], _, _ => rfl
  | (n, v) :: r, m, h => by
    unfold bindC
    rw [bindC_out fun w hw => h w (List.mem_cons_of_mem _ hw)]
    split
    · rfl
    · have : x ≠ n := by rintro rfl; exact h v List.mem_cons_self
      simp [this]
theorem bindL_get {kindOf : Str → Option NameKind} {x : Str} {v : Value} : ∀ {P : List Str} {vs : List Value} {i : Nat} {m : Str → Option Value}, P.Nodup → P[i]? = some x → vs[i]? = some v → kindOf x = some .local →
    bindL kindOf (P.zip vs) m x = some v
  | [], _, _, _, _, h, _, _ => by simp at h
  | _ :: _, [], _, _, _, _, h, _ => by simp at h
  | p :: P, w :: vs, 0, m, nd, h1, h2, hk => by
    simp at h1 h2; subst h1; subst h2
    show bindL kindOf ((p, w) :: P.zip vs) m p = _
    unfold bindL
    rw [bindL_out fun v hv => (List.nodup_cons.mp nd).1 (List.of_mem_zip hv).1, if_pos hk]
    simp
  | p :: P, w :: vs, i + 1, m, nd, h1, h2, hk => by
    show bindL kindOf ((p, w) :: P.zip vs) m x = _
    unfold bindL
    exact bindL_get (i := i) (List.nodup_cons.mp nd).2 (by simpa using h1) (by simpa using h2) hk
theorem bindC_get {kindOf : Str → Option NameKind} {x : Str} {v : Value} : ∀ {P : List Str} {vs : List Value} {i : Nat} {m : Str → Option Value}, P.Nodup → P[i]? = some x → vs[i]? = some v → kindOf x ≠ some .local →
    bindC kindOf (P.zip vs) m x = some v
  | [], _, _, _, _, h, _, _ => by simp at h
  | _ :: _, [], _, _, _, _, h, _ => by simp at h
  | p :: P, w :: vs, 0, m, nd, h1, h2, hk => by
    simp at h1 h2; subst h1; subst h2
    show bindC kindOf ((p, w) :: P.zip vs) m p = _
    unfold bindC
    rw [bindC_out fun v hv => (List.nodup_cons.mp nd).1 (List.of_mem_zip hv).1, if_neg hk]
    simp
  | p :: P, w :: vs, i + 1, m, nd, h1, h2, hk => by
    show bindC kindOf ((p, w) :: P.zip vs) m x = _
    unfold bindC
    exact bindC_get (i := i) (List.nodup_cons.mp nd).2 (by simpa using h1) (by simpa using h2) hk

def start (N : List Str) (vs : List V) : St := vs.map some ++ List.replicate (N.length - vs.length) none

def cxOf (CX : CXT) (P : Program) (w : World) (K : PySem.W.Frag) (mg : Str → Option Value) (base : Heap) (N : List Str) (qual : Str) (scope : Scope) (f : Addr) (cd : Value) (A : Around) (outer : List Env) (s : Shared) (H : Hp) (E : XK) : Cx where
  prog := P
  w := w
  K := K
  mg := mg
  base := base
  A := A.deeper (envOfC qual scope s.heap.objs.size f cd)
  N := N
  s_0 := s
  H_0 := H
  env := envOfC qual scope s.heap.objs.size f cd
  outer := outer
  stack := envOfC qual scope s.heap.objs.size f cd :: outer
  ex := []
  calm := true
  fn := fun _ => true
  pn := []
  xe := fun e s' => wpAny (model P w) (A.deeper (envOfC qual scope s.heap.objs.size f cd)) (leaving (envOfC qual scope s.heap.objs.size f cd) e) (fun _ s'' => CX outer H s E e s'') (fun e' s'' => CX outer H s E e' s'') s'

theorem cell_has {sc : Scope} {n : Nat} {x : Str} (h : sc.names.lookup x = some .cell) : ∃ c, (cellsFrom n sc.names []).lookup x = some c := by
  have q := PySem.W.cellsFrom_some sc.names n [] (.inl h)
  exact Option.isSome_iff_exists.mp q

theorem inv_start {CX : CXT} {P : Program} {w : World} {K : PySem.W.Frag} {mg : Str → Option Value} {base : Heap} {N ps : List Str} {qual : Str} {scope : Scope} {f : Addr} {cd : Value} {A : Around} {outer : List Env} {s s1 : Shared} {H : Hp} {E : XK} {us : List Value} {vs : List V}
    (S : FnScope N ps scope) (hd : A.handled = none) (e0 : Env0 P w K mg base A outer s H) (hl : vs.length = ps.length) (r : Vals vs us)
    (x : InCallC s s.heap.objs.size (bindL (envOfC qual scope s.heap.objs.size f cd).kindOf (ps.zip us) fun _ => none) (cellsFrom (s.heap.objs.size + 1) scope.names []) (bindC (envOfC qual scope s.heap.objs.size f cd).kindOf (ps.zip us) fun _ => none) s1) :
    Inv (cxOf CX P w K mg base N qual scope f cd A outer s H E) [] (start N vs) H s1 := by
  have hpl : ps.length ≤ N.length := by have := congrArg List.length S.pre; rw [List.length_take] at this; omega
  obtain ⟨h1, tk, rfl, hk⟩ := x.done
  have noA : ∀ b : Addr, b ∉ (cxOf CX P w K mg base N qual scope f cd A outer s H E).ex := fun b z => absurd (show b ∈ ([] : List Addr) from z) (by simp)
  refine ⟨⟨e0.mod, S.kind, rfl, rfl, Nat.le_refl _, fun y z c h1 h2 => ?_, fun y hy => ?_, fun y c _ h => ?_, fun _ => hd, Around.frames_deeper e0.frames, .inr ⟨rfl, rfl⟩, fun b z => absurd z (noA b), e0.bs, e0.bsz, fun b _ _ => noA b, fun b z => absurd z (noA b), e0.funs, e0.frf⟩,
    rfl, e0.bare, Un.kept hk, ⟨_, x.toInCall.ns, fun i y v h1 h2 h3 => ?_⟩, fun y c h => ⟨_, x.cell y c h⟩, e0.hok.fresh (Nat.le_refl _), fun y c h => ?_, fun p hp => absurd (show p ∈ ([] : List (Addr × Obj)) from hp) (by simp), e0.hok.kept hk, ?_⟩
  · exact name_of_addr x.apart (PySem.mem_of_lookup h1) (PySem.mem_of_lookup h2)
  · have hy : scope.names.lookup y = some .cell ∨ scope.names.lookup y = some .free := hy
    rcases hy with hy | hy
    · exact cell_has hy
    · exact absurd rfl (S.nofree _ (PySem.mem_of_lookup hy))
  · exact Nat.le_of_lt (x.above y c (PySem.mem_of_lookup h))
  · have hi : i < vs.length := by
      unfold start at h2
      by_cases hi : i < vs.length
      · exact hi
      · rw [List.getElem?_append_right (by simpa using hi)] at h2
        rw [List.getElem?_replicate] at h2
        split at h2 <;> cases h2
    have ha : vs[i]? = some v := by
      unfold start at h2
      rw [List.getElem?_append_left (by simpa using hi), List.getElem?_map] at h2
      cases e : vs[i]? with
      | none => rw [e] at h2; cases h2
      | some a => rw [e] at h2; cases h2; rfl
    obtain ⟨u, hu, rv⟩ := r.get ha
    have hp : ps[i]? = some y := by
      rw [← S.pre, List.getElem?_take_of_lt (by omega)]; exact h1
    have ndP : ps.Nodup := by rw [← S.pre]; exact S.nd.sublist (List.take_sublist _ _)
    refine ⟨u, rv, ?_⟩
    rcases S.par y (List.mem_of_getElem? hp) with k | k
    · exact .inl ⟨k, bindL_get ndP hp hu k⟩
    · obtain ⟨c, e⟩ := cell_has (n := s.heap.objs.size + 1) k
      refine .inr ⟨.inl k, c, e, ?_⟩
      have q := x.cell y c e
      rw [bindC_get ndP hp hu (by show scope.names.lookup y ≠ _; rw [k]; decide)] at q
      exact q
  · exact e0.hok.fresh (Nat.le_of_lt (x.above y c (PySem.mem_of_lookup h)))
  · unfold start
    show _ = N.length
    rw [List.length_append, List.length_map, List.length_replicate]
    omega

theorem fn_of {CX : CXT} {P : Program} {w : World} {K : PySem.W.Frag} {mg : Str → Option Value} {base : Heap} {k : Nat} {f : Addr} {name qual : Str} {params : Arguments} {body : List Stmt} {scope : Scope} {dV kV doc pm cdv ct oc : Value} {an od : Option Addr}
    {osl : Array (Option Value)} {N ps : List Str} {sp : Sp} (lk : K.lookup f = some ⟨oc, od, .func (PySem.W.fnOf name qual params body scope dV kV doc pm an cdv ct), osl⟩) (hcd : PySem.W.codeIn K cdv qual = true) (S : FnScope N ps scope)
    (len : ∀ vs H Q E, sp vs H Q E → vs.length = ps.length)
    (hbody : ∀ (A : Around) (outer : List Env) (s : Shared) (H : Hp) (vs : List V) (Q : VK) (E : XK), Room k (A.deeper (envOfC qual scope s.heap.objs.size f cdv)) → sp vs H Q E →
      ∃ t, PSs (cxOf CX P w K mg base N qual scope f cdv A outer s H E) body t ∧ t { nx := fun _ H' => Q .non H', rt := Q } (start N vs) H) :
    FnOk P w K mg base CX (k + 1) f (PySem.W.fnOf name qual params body scope dV kV doc pm an cdv ct) ps sp := by
  refine ⟨len, fun A outer s H args us vs Q E hr e0 hb r hsp => ?_⟩
  have hl := len _ _ _ _ hsp
  have KX : K.In s.heap := e0.mod.kin.keeps fun b o e => (e0.bs b o e).1
  have lim : s.heap.NoLimit := e0.mod.nolimit.keeps fun b o e => (e0.bs b o e).1
  have hkind : ∀ y ∈ ps.zip us, scope.names.lookup y.1 = some .local ∨ (scope.names.lookup y.1 = some .cell ∧ ((cellsFrom (s.heap.objs.size + 1) scope.names []).lookup y.1).isSome = true) := fun ⟨n, v⟩ hy => by
    rcases S.par n (List.of_mem_zip hy).1 with q | q
    · exact .inl q
    · exact .inr ⟨q, PySem.W.cellsFrom_some _ _ _ (.inl q)⟩
  refine codeAny_call_function hr.depth (KX _ _ lk) rfl S.co S.gen rfl (PySem.W.codeRec_of KX hcd) (hb _ _ _ _ ?_)
  refine wpAny_newFunctionEnv_cells S.kind hkind fun env he s1 x => ?_
  subst he
  refine ⟨lim.keeps x.toInCall.keep, codeAny_func ?_⟩
  obtain ⟨t, ht, hq⟩ := hbody A outer s H vs Q E (hr.deeper _) hsp
  have I : Inv (cxOf CX P w K mg base N qual scope f cdv A outer s H E) [] (start N vs) H s1 := inv_start S hr.hd e0 hl r x
  refine wpAny_mono (ht [] s1 (start N vs) H _ I hq) (fun fl s' hs => ?_) fun e s' hs => hs
  have fin : ∀ {σ' : St} {H' : Hp} {v : V} {u : Value}, Inv (cxOf CX P w K mg base N qual scope f cdv A outer s H E) [] σ' H' s' → RelV v u → Q v H' → CE outer P w H s Q u s' :=
    fun {σ' H' v u} J rv q => ⟨v, H', J.os, J.bare, J.base, J.hok, rv, q⟩
  cases fl with
  | ret u =>
    obtain ⟨v, σ', H', J, rv, q⟩ := hs
    exact fin J rv q
  | next =>
    obtain ⟨σ', H', J, q⟩ := hs
    exact fin (v := V.non) (u := Value.none) J rfl q
  | brk =>
    obtain ⟨_, _, _, q⟩ := hs
    exact False.elim q
  | cont =>
    obtain ⟨_, _, _, q⟩ := hs
    exact False.elim q
end L2

namespace L2
open PySem PySem.Spec PyProof.Rows
section
variable {X : Cx} {x : Str} {p pos : Pos} {e : Expr} {es : List Expr} {t : TA} {id T : String} {r : List V → Hp → VK → Prop}

def tCB (r : List V → Hp → VK → Prop) (t : TA) : TE := fun σ H Q => t σ H fun vs H1 => r vs H1 Q
theorem pe_callB (hc : CallR X (.builtin id) r) (hg : Gl X x) (hm : X.mg x = none) (hv : bootBuiltins x = some (.builtin id)) (ha : PA X (e :: es) t) (hn : x ≠ "__name__" := by decide) (hdb : (x == ("__debug__" : Str)) = false := by decide)
    (he : starEach (e :: es) X.env = (false, eval e X.env) :: starEach es X.env := by rfl) (hpl : (backTo pos (starEach es X.env)).any (·.1) = false := by rfl) : PE X (.Call (.Name x p) (e :: es) [] pos) (tCB r t) := by
  intro pins s σ H Q I h
  refine wpAny_Call_Name_kw (ld_blt I hg hm hv ?_ hn hdb)
  exact PyProof.Rows.callWith_builtin1 (thn (ha pos pins s σ H _ I h) fun us s1 ⟨vs, H1, I1, r1, q1⟩ => hc pins s1 σ H1 vs us Q I1 r1 q1) he hpl
end
end L2

namespace HT
open PySem PyProof.Rows

section
open PySem.SeqAt
open PySem.AutoSeq1 (wpAny_loadPart')
open PySem.MeetsSeq PySem.MeetsSeq2 PySem.MeetsSeq3

end

section
variable {prog : Program} {w : World} {A : Around} {E : Value → Shared → Prop} {s : Shared}

def sIx (n d : Nat) : Option Int → Nat
  | none => d
  | some v => if v < 0 then (v + (n : Int)).toNat else min v.toNat n
theorem sIx_nat (n d k : Nat) : sIx n d (some (k : Int)) = min k n := by
  show (if (k : Int) < 0 then ((k : Int) + (n : Int)).toNat else min (k : Int).toNat n) = min k n
  rw [if_neg (by omega), Int.toNat_natCast]
end
end HT

namespace L2
open PySem PySem.Spec PyProof.Rows

abbrev TO := St → Hp → (Option Int → Hp → Prop) → Prop
def PO (X : Cx) (e : Option Expr) (t : TO) : Prop :=
  ∀ (pins : List (Addr × Obj)) (s : Shared) (σ : St) (H : Hp) (Q : Option Int → Hp → Prop), Inv X pins σ H s → t σ H Q →
    wpAny (model X.prog X.w) X.A (evalPart e X.env) (fun u s' => ∃ o H', Inv X pins σ H' s' ∧ IsPart u o ∧ Q o H') X.xe s
def tNoPart : TO := fun _ H Q => Q none H
def tPart (t : TE) : TO := fun σ H Q => t σ H fun x H1 => ∃ i, x = .int i ∧ Q (some i) H1

section
variable {X : Cx} {e : Expr} {te : TE} {lo hi : Option Expr} {tl th : TO} {pos p2 : Pos}

theorem po_some (h : PE X e te) : PO X (some e) (tPart te) := by
  intro pins s σ H Q I hw
  rw [evalPart_some]
  refine thn (h pins s σ H _ I hw) fun u s1 ⟨x, H1, I1, r1, q1⟩ => ?_
  obtain ⟨i, rfl, q⟩ := q1
  obtain ⟨t, rfl⟩ := r1
  exact ⟨some i, H1, I1, .int i t, q⟩

def SlR (X : Cx) (r : V → Option Int → Option Int → Hp → VK → Prop) : Prop :=
  ∀ (pins : List (Addr × Obj)) (s : Shared) (σ : St) (H : Hp) (x : V) (v vl vu : Value) (lo hi : Option Int) (sl : Addr) (Q : VK), Inv X pins σ H s → RelV x v → s.heap.IsSliceOf sl vl vu .none → IsPart vl lo → IsPart vu hi → r x lo hi H Q →
    ∃ T id, typeLookup (.type T) "__getitem__" = pure (some (.builtin id)) ∧ s.TypeIs v T ∧ wpAny (model X.prog X.w) X.A (getItem v (.ref sl)) (EP X pins σ Q) X.xe s
def tSl (r : V → Option Int → Option Int → Hp → VK → Prop) (te : TE) (tl th : TO) : TE := fun σ H Q => te σ H fun x H1 => tl σ H1 fun l H2 => th σ H2 fun u H3 => r x l u H3 Q
theorem pe_slice {r : V → Option Int → Option Int → Hp → VK → Prop} (hr : SlR X r) (he : PE X e te) (hl : PO X lo tl) (hu : PO X hi th) : PE X (.Subscript e (.Slice lo hi none p2) pos) (tSl r te tl th) := by
  intro pins s σ H Q I h
  refine Subscript_ (thn (he pins s σ H _ I h) fun v s1 ⟨x, H1, I1, r1, q1⟩ => ?_)
  refine wpAny_Slice (thn (hl pins s1 σ H1 _ I1 q1) fun vl s2 ⟨l, H2, I2, pl, q2⟩ => thn (hu pins s2 σ H2 _ I2 q2) fun vu s3 ⟨u, H3, I3, pu, q3⟩ => ?_)
  rw [evalPart_none]
  refine wpAny_pure ?_
  have I4 : Inv X pins σ H3 { s3 with heap := s3.heap.push { cls := .type "slice", data := .fields #[vl, vu, .none] } } := I3.kept (t' := s3.toks) fun b ob q => Heap.get?_push_of_some _ q
  obtain ⟨T, id, hT, ht, hg⟩ := hr pins { s3 with heap := s3.heap.push { cls := .type "slice", data := .fields #[vl, vu, .none] } } σ H3 x v vl vu l u s3.heap.objs.size Q I4 r1 (Heap.IsSliceOf.new ..) pl pu q3
  show wpAny (model X.prog X.w) X.A (subscriptTail e (.Slice lo hi none p2) v (.ref s3.heap.objs.size)) (EP X pins σ Q) X.xe { s3 with heap := s3.heap.push { cls := .type "slice", data := .fields #[vl, vu, .none] } }
  exact tail_any (ops := [.ref s3.heap.objs.size, v]) ht hT hg (by with_unfolding_all rfl)

def cutV (xs : List V) (lo hi : Option Int) : List V := (xs.drop (HT.sIx xs.length 0 lo)).take (HT.sIx xs.length xs.length hi - HT.sIx xs.length 0 lo)
theorem cutV_length (xs : List V) (lo hi : Option Int) : (cutV xs lo hi).length ≤ xs.length := by
  unfold cutV
  rw [List.length_take, List.length_drop]
  omega
end
end L2

namespace L2
open PySem PySem.Spec PyProof.Rows

def ixN (n : Nat) (i : Int) : Option Nat := if 0 ≤ i then (if i < n then some i.toNat else none) else if -(n : Int) ≤ i then some (i + n).toNat else none
def atI {α : Type} (xs : List α) (i : Int) : Option α := (ixN xs.length i).bind fun j => xs[j]?
theorem ixN_seq {n : Nat} {i : Int} {j : Nat} (h : ixN n i = some j) : seqIndex? i n = some j ∧ j < n ∧ -(n : Int) ≤ i ∧ i < n := by
  unfold ixN at h
  by_cases h0 : 0 ≤ i
  · rw [if_pos h0] at h
    by_cases h1 : i < n
    · rw [if_pos h1] at h
      have e : i.toNat = j := Option.some.inj h
      exact ⟨by rw [seqIndex_of h0 h1, e], by omega, by omega, h1⟩
    · rw [if_neg h1] at h; cases h
  · rw [if_neg h0] at h
    by_cases h1 : -(n : Int) ≤ i
    · rw [if_pos h1] at h
      have e : (i + n).toNat = j := Option.some.inj h
      exact ⟨by rw [seqIndex_neg (by omega) h1, e], by omega, h1, by omega⟩
    · rw [if_neg h1] at h; cases h
theorem atI_get {α : Type} {xs : List α} {i : Int} {v : α} (h : atI xs i = some v) : ∃ j, seqIndex? i xs.length = some j ∧ xs[j]? = some v ∧ j < xs.length ∧ -(xs.length : Int) ≤ i ∧ i < xs.length := by
  unfold atI at h
  cases e : ixN xs.length i with
  | none => rw [e] at h; cases h
  | some j =>
    rw [e] at h
    obtain ⟨h1, h2, h3, h4⟩ := ixN_seq e
    exact ⟨j, h1, h, h2, h3, h4⟩
theorem atI_nat {α : Type} {xs : List α} {j : Nat} {v : α} (h : xs[j]? = some v) : atI xs (j : Int) = some v := by
  have hj : j < xs.length := (List.getElem?_eq_some_iff.mp h).1
  have e : ixN xs.length (j : Int) = some j := by
    unfold ixN
    rw [if_pos (by omega), if_pos (by omega)]; simp
  unfold atI; rw [e]; exact h
def PlainIx (b : Expr) : Prop := ∀ o i, subscripted b false o i = operate [o, i] (getItem o i)
def IxR (X : Cx) (r : R2) : Prop :=
  ∀ (value slice : Expr) (pins : List (Addr × Obj)) (s : Shared) (σ : St) (H : Hp) (x y : V) (v u : Value) (Q : VK), Inv X pins σ H s → RelV x v → RelV y u → r x y H Q →
    subscripted slice false v u = operate [v, u] (getItem v u) → wpAny (model X.prog X.w) X.A (subscriptTail value slice v u) (EP X pins σ Q) X.xe s
def MtR (X : Cx) (id : String) (r : V → List V → Hp → VK → Prop) : Prop :=
  ∀ (pins : List (Addr × Obj)) (s : Shared) (σ : St) (H : Hp) (x : V) (xs : List V) (v : Value) (us : List Value) (Q : VK), Inv X pins σ H s → RelV x v → Vals xs us → r x xs H Q →
    wpAny (model X.prog X.w) X.A (call (.builtin id) (v :: us)) (EP X pins σ Q) X.xe s
section
variable {X : Cx} {a b : Expr} {ta tb : TE} {pos : Pos}
theorem pe_ix {r : R2} (hr : IxR X r) (ha : PE X a ta) (hb : PE X b tb) (hs : PlainIx b) : PE X (.Subscript a b pos) (tOp r ta tb) := by
  intro pins s σ H Q I h
  exact Subscript_ (binT ha hb I h fun v u s2 x y H2 I2 rx ry q => hr a b pins s2 σ H2 x y v u Q I2 rx ry q (hs _ _))

def rIxL (K : PySem.W.Frag) : R2 := fun x y H Q => ∃ p xs i v, x = .ref p ∧ y = .int i ∧ SqL K H p xs ∧ atI xs i = some v ∧ Q v H
def rIxT (K : PySem.W.Frag) : R2 := fun x y H Q => ∃ p xs i v, x = .ref p ∧ y = .int i ∧ SqT K H p xs ∧ atI xs i = some v ∧ Q v H
theorem ix_list : IxR X (rIxL X.K) := by
  intro value slice pins s σ H x y v u Q I rx ry h hs
  obtain ⟨p, xs, i, z, rfl, rfl, hq, he, q⟩ := h
  cases rx
  obtain ⟨t, rfl⟩ := ry
  obtain ⟨its, r, pl, hz⟩ := I.list hq
  obtain ⟨j, h1, h2, h3, h4, h5⟩ := atI_get he
  obtain ⟨w, ew, rw'⟩ := r.get h2
  have hl := r.length
  have hn := line63
  have fin : EP X pins σ Q w s := ⟨z, H, I, rw', q⟩
  by_cases h0 : 0 ≤ i
  · have hj : i.toNat = j := by
      rw [seqIndex_of h0 h5] at h1
      exact Option.some.inj h1
    exact item_listR pl.isList h0 (by omega) (by rw [hj]; simpa using ew) fin hs
  · have hj : (i + (its.toArray.size : Int)).toNat = j := by
      rw [seqIndex_neg (by omega) h4] at h1
      rw [List.size_toArray, ← hl]
      exact Option.some.inj h1
    exact subscriptTail_builtinR (x := w) pl.isList.typeIs slot_list_getitem.lookup
      (wpAny_getItem_list_neg (Q := fun r s' => r = w ∧ EP X pins σ Q r s') pl.isList (by omega) (by rw [List.size_toArray] <;> omega) (by omega) (by rw [hj]; simpa using ew) ⟨rfl, fin⟩) hs
theorem ix_tup : IxR X (rIxT X.K) := by
  intro value slice pins s σ H x y v u Q I rx ry h hs
  obtain ⟨p, xs, i, z, rfl, rfl, hq, he, q⟩ := h
  cases rx
  obtain ⟨t, rfl⟩ := ry
  obtain ⟨its, r, pl, hz⟩ := I.tuple hq
  obtain ⟨j, h1, h2, h3, h4, h5⟩ := atI_get he
  obtain ⟨w, ew, rw'⟩ := r.get h2
  have hl := r.length
  have hn := line63
  have fin : EP X pins σ Q w s := ⟨z, H, I, rw', q⟩
  exact subscriptTail_builtinR (x := w) pl.typeIs slot_tuple_getitem.lookup
    (getItem_tuple (j := j) (Q := fun r s' => r = w ∧ EP X pins σ Q r s') pl (by omega) (by omega) (by rw [List.size_toArray, ← hl]; exact h1) (by simpa using ew) ⟨rfl, fin⟩) hs
theorem mapSeq_set (its : List Value) (n j : Nat) (u : Value) : Obj.mapSeq (·.setIfInBounds j u) { cls := .type "list", data := .seq its.toArray n } = { cls := .type "list", data := .seq (its.set j u).toArray n } := by
  simp [Obj.mapSeq]
theorem Inv.lst {pins : List (Addr × Obj)} {σ : St} {H : Hp} {s : Shared} {p : Addr} {xs : List V} (I : Inv X pins σ H s) (h : H p = some (.lst xs)) :
    ∃ (its : List Value) (n : Nat), Vals xs its ∧ s.heap.get? p = some { cls := .type "list", data := .seq its.toArray n } ∧ xs.length ≤ sizeLine := by
  obtain ⟨z, its, n, r, e⟩ := I.hok p _ h
  exact ⟨its, n, r, e, z⟩
theorem Inv.lstUpd {pins : List (Addr × Obj)} {σ : St} {H : Hp} {s : Shared} {p : Addr} {xs ys : List V} {its its' : List Value} {n n' : Nat} {f : Obj → Obj} (I : Inv X pins σ H s) (h : H p = some (.lst xs))
    (ho : s.heap.get? p = some { cls := .type "list", data := .seq its.toArray n }) (hf : f { cls := .type "list", data := .seq its.toArray n } = { cls := .type "list", data := .seq its'.toArray n' }) (r : Vals ys its') (hz : ys.length ≤ sizeLine) (t : Nat) :
    Inv X pins σ (upd H p (.lst ys)) { s with heap := s.heap.update p f, toks := t } := by
  have e : (s.heap.update p f).get? p = some { cls := .type "list", data := .seq its'.toArray n' } := by
    rw [Heap.get?_update_self f ho (by rw [hf] <;> rfl), hf]
  refine I.write (x := p) (e := p) (by rw [h]; trivial) (.inl rfl) (fun b u hb q => (Heap.get?_update_other _ _ (Ne.symm hb)).trans q) ⟨_, e⟩ ?_
  exact ⟨hz, its', n', r, e⟩
def rSetL : V → V → V → Hp → (Hp → Prop) → Prop := fun o i v H Q => ∃ p xs k j, o = .ref p ∧ i = .int k ∧ H p = some (.lst xs) ∧ ixN xs.length k = some j ∧ Q (upd H p (.lst (xs.set j v)))
theorem set_list : PSet X rSetL := by
  intro pins s σ H o i v ov iv u Q I ro ri rv h
  obtain ⟨p, xs, k, j, rfl, rfl, hp, hj, q⟩ := h
  cases ro
  obtain ⟨t, rfl⟩ := ri
  obtain ⟨its, n, r, ho, hz⟩ := I.lst hp
  obtain ⟨h1, h2, h3, h4⟩ := ixN_seq hj
  have hl := r.length
  have hn := line63
  have I' : Inv X pins σ (upd H p (.lst (xs.set j v))) { s with heap := s.heap.update p (Obj.mapSeq (·.setIfInBounds j u)) } :=
    I.lstUpd hp ho (mapSeq_set its n j u) (r.set rv j) (by rw [List.length_set]; exact hz) s.toks
  by_cases h0 : 0 ≤ k
  · have hk : k.toNat = j := by
      rw [seqIndex_of h0 h4] at h1
      exact Option.some.inj h1
    exact PySem.W.ki_setAt ho h0 (by omega) (by rw [List.size_toArray, ← hl]; exact h4) (by rw [hk]; exact ⟨_, I', q⟩)
  · have hk : (k + (its.toArray.size : Int)).toNat = j := by
      rw [seqIndex_neg (by omega) h3] at h1
      rw [List.size_toArray, ← hl]
      exact Option.some.inj h1
    exact PySem.W.ki_setBack ho (by omega) (by rw [List.size_toArray, ← hl]; exact h3) (by omega) (by rw [hk]; exact ⟨_, I', q⟩)

theorem slice_bounds (lo hi : Option Int) (n : Nat) : (sliceBounds lo hi none n).1 = ((HT.sIx n 0 lo : Nat) : Int) ∧ (sliceBounds lo hi none n).2.1 = ((HT.sIx n n hi : Nat) : Int) ∧ (sliceBounds lo hi none n).2.2 = 1 := by
  refine ⟨?_, ?_, rfl⟩
  · cases lo with
    | none => simp [sliceBounds, HT.sIx]
    | some i =>
      simp only [sliceBounds, HT.sIx, Option.getD_none, show (1 : Int) > 0 by decide, if_true]
      by_cases h : i < 0
      · simp only [h, if_true] <;> omega
      · simp only [h, if_false] <;> omega
  · cases hi with
    | none => simp [sliceBounds, HT.sIx]
    | some i =>
      simp only [sliceBounds, HT.sIx, Option.getD_none, show (1 : Int) > 0 by decide, if_true]
      by_cases h : i < 0
      · simp only [h, if_true] <;> omega
      · simp only [h, if_false] <;> omega
theorem slicePick_cut (its : List Value) (lo hi : Option Int) : slicePick its.toArray lo hi none = ((its.drop (HT.sIx its.length 0 lo)).take (HT.sIx its.length its.length hi - HT.sIx its.length 0 lo)).toArray := by
  obtain ⟨h1, h2, h3⟩ := slice_bounds lo hi its.toArray.size
  unfold slicePick
  rw [h1, h2, h3]
  simp only [sliceRange_one, pick_run, List.size_toArray] <;> rfl
def rSlL (K : PySem.W.Frag) : V → Option Int → Option Int → Hp → VK → Prop := fun x lo hi H Q => ∃ a xs, x = .ref a ∧ SqL K H a xs ∧ ∀ p, H p = none → Q (.ref p) (upd H p (.lst (cutV xs lo hi)))
theorem sl_list : SlR X (rSlL X.K) := by
  intro pins s σ H x v vl vu lo hi sl Q I rx hs pl pu h
  obtain ⟨a, xs, rfl, hx, q⟩ := h
  cases rx
  obtain ⟨its, r, ht, hz⟩ := I.list hx
  have hlen := r.length
  refine ⟨"list", _, slot_list_getitem.lookup, ht.isList.typeIs, ?_⟩
  refine wpAny_getItem_list_slice ht.isList hs pl pu .none (by simp) ?_ (by rw [List.size_toArray] <;> omega)
  rw [slicePick_cut, ← hlen]
  refine ⟨.ref s.heap.objs.size, _, I.laid (t' := s.toks) (o := .lst (cutV xs lo hi)) (fun b ob q => Heap.get?_push_of_some _ q) (Nat.le_refl _) ?_, rfl, q _ (I.hok.fresh (Nat.le_refl _))⟩
  exact ⟨Nat.le_trans (cutV_length xs lo hi) hz, _, 0, (r.drop (HT.sIx xs.length 0 lo)).take (HT.sIx xs.length xs.length hi - HT.sIx xs.length 0 lo), Heap.get?_push_size _ rfl⟩

def flatV : V → Bool
  | .non => true
  | .bl _ => true
  | .int _ => true
  | .str _ => true
  | _ => false
def eqV : V → V → Bool
  | .non, .non => true
  | .bl a, .bl b => a == b
  | .bl a, .int b => (if a then 1 else 0) == b
  | .int a, .bl b => a == (if b then 1 else 0)
  | .int a, .int b => a == b
  | .str a, .str b => a == b
  | _, _ => false
theorem eqAt_V {A : Around} {s : Shared} {y x : V} {u v : Value} (ry : RelV y u) (rx : RelV x v) (fy : flatV y = true) (fx : flatV x = true) : SeqAt.EqAt A s u v (eqV y x) := by
  cases y with
  | non =>
    cases ry
    cases x with
    | non => cases rx; exact SeqAt.EqAt.same _
    | bl b => cases rx; exact SeqAt.EqAt.none_bool b
    | int b => obtain ⟨t, rfl⟩ := rx; exact SeqAt.EqAt.none_int b t
    | str b => obtain ⟨t, rfl⟩ := rx; exact SeqAt.EqAt.none_str b t
    | _ => exact absurd (show false = true from fx) Bool.false_ne_true
  | bl a =>
    cases ry
    cases x with
    | non => cases rx; exact SeqAt.EqAt.bool_none a
    | bl b => cases rx; exact SeqAt.EqAt.bool_bool a b
    | int b => obtain ⟨t, rfl⟩ := rx; exact SeqAt.EqAt.bool_int a b t
    | str b => obtain ⟨t, rfl⟩ := rx; exact SeqAt.EqAt.bool_str a b t
    | _ => exact absurd (show false = true from fx) Bool.false_ne_true
  | int a =>
    obtain ⟨t', rfl⟩ := ry
    cases x with
    | non => cases rx; exact SeqAt.EqAt.int_none a t'
    | bl b => cases rx; exact SeqAt.EqAt.int_bool a t' b
    | int b => obtain ⟨t, rfl⟩ := rx; exact SeqAt.EqAt.int_int a t' b t
    | str b => obtain ⟨t, rfl⟩ := rx; exact SeqAt.EqAt.int_str a t' b t
    | _ => exact absurd (show false = true from fx) Bool.false_ne_true
  | str a =>
    obtain ⟨t', rfl⟩ := ry
    cases x with
    | non => cases rx; exact SeqAt.EqAt.str_none a t'
    | bl b => cases rx; exact SeqAt.EqAt.str_bool a t' b
    | int b => obtain ⟨t, rfl⟩ := rx; exact SeqAt.EqAt.str_int a t' b t
    | str b => obtain ⟨t, rfl⟩ := rx; exact SeqAt.EqAt.str_str a t' b t
    | _ => exact absurd (show false = true from fx) Bool.false_ne_true
  | _ => exact absurd (show false = true from fy) Bool.false_ne_true
def eqU (x : V) (u : Value) : Bool := match u with
  | .none => eqV .non x
  | .bool b => eqV (.bl b) x
  | .int i _ => eqV (.int i) x
  | .str z _ => eqV (.str z) x
  | _ => false
theorem eqU_of {x y : V} {u : Value} (r : RelV y u) (f : flatV y = true) : eqU x u = eqV y x := by
  cases y with
  | non => cases r; rfl
  | bl b => cases r; rfl
  | int i => obtain ⟨t, rfl⟩ := r; rfl
  | str z => obtain ⟨t, rfl⟩ := r; rfl
  | _ => exact absurd (show false = true from f) Bool.false_ne_true
theorem any_eqU {x : V} : ∀ {xs : List V} {us : List Value}, Vals xs us → xs.all flatV = true → us.any (eqU x) = xs.any fun y => eqV y x
  | _, _, .nil, _ => rfl
  | y :: xs, u :: us, .cons r t, f => by
    rw [List.all_cons, Bool.and_eq_true] at f
    rw [List.any_cons, List.any_cons, eqU_of r f.1, any_eqU t f.2]
theorem mem_eqAt {A : Around} {s : Shared} {x : V} {v : Value} (rx : RelV x v) (fx : flatV x = true) : ∀ {xs : List V} {us : List Value}, Vals xs us → xs.all flatV = true → ∀ u ∈ us, SeqAt.EqAt A s u v (eqU x u)
  | _, _, .nil, _ => fun u hu => by cases hu
  | y :: xs, u :: us, .cons r t, f => fun u' hu => by
    rw [List.all_cons, Bool.and_eq_true] at f
    rcases List.mem_cons.mp hu with rfl | hu
    · rw [eqU_of r f.1]; exact eqAt_V r rx f.1 fx
    · exact mem_eqAt rx fx t f.2 u' hu
def inV (x : V) (xs : List V) : Bool := xs.any fun y => eqV y x
def rIn (K : PySem.W.Frag) (neg : Bool) : R2 := fun x y H Q => ∃ p xs, y = .ref p ∧ (SqL K H p xs ∨ SqT K H p xs) ∧ flatV x = true ∧ xs.all flatV = true ∧ Q (.bl (if neg then !inV x xs else inV x xs)) H
theorem op_in_seq : OpR X (compareOp .In) (rIn X.K false) := by
  intro pins s σ H x y v u Q I rx ry h
  obtain ⟨p, xs, rfl, hq, fx, fs, q⟩ := h
  cases ry
  rcases hq with hq | hq
  · obtain ⟨its, r, pl, hz⟩ := I.list hq
    refine SeqAt.in_listAt (eqU x) pl.isList (fun w hw => mem_eqAt rx fx r fs w (by simpa using hw)) ⟨.bl _, H, I, rfl, ?_⟩
    rw [show its.toArray.any (eqU x) = its.any (eqU x) by simp, any_eqU r fs]
    exact q
  · obtain ⟨its, r, pl, hz⟩ := I.tuple hq
    refine SeqAt.in_tupleAt (eqU x) pl (fun w hw => mem_eqAt rx fx r fs w (by simpa using hw)) ⟨.bl _, H, I, rfl, ?_⟩
    rw [show its.toArray.any (eqU x) = its.any (eqU x) by simp, any_eqU r fs]
    exact q
theorem call_len_seq : CallR X (.builtin "len") (fun xs H Q => ∃ p ys, xs = [.ref p] ∧ (SqL X.K H p ys ∨ SqT X.K H p ys) ∧ Q (.int ys.length) H) := by
  intro pins s σ H xs us Q I r h
  obtain ⟨p, ys, rfl, hq, q⟩ := h
  obtain ⟨u, rfl, rx⟩ := vals1 r
  cases rx
  have hn := line63
  rcases hq with hq | hq
  · obtain ⟨its, r', pl, hz⟩ := I.list hq
    have hlen := r'.length
    exact Calls.call_len_list pl.isList (by simp only [List.size_toArray] <;> omega) ⟨.int ys.length, H, I.tok _, ⟨s.toks + 1, by rw [List.size_toArray, hlen]⟩, q⟩
  · obtain ⟨its, r', pl, hz⟩ := I.tuple hq
    have hlen := r'.length
    exact len_tuple pl (by simp only [List.size_toArray] <;> omega) ⟨.int ys.length, H, I.tok _, ⟨s.toks + 1, by rw [List.size_toArray, hlen]⟩, q⟩
def tyV (K : PySem.W.Frag) (T : String) (x : V) (H : Hp) : Prop := match x with
  | .str _ => T = "str"
  | .int _ => T = "int"
  | .ref p => (T = "list" ∧ ∃ xs, SqL K H p xs) ∨ (T = "tuple" ∧ ∃ o, K.lookup p = some o ∧ o.cls = .type "tuple" ∧ o.dict = none) ∨
      (T = "dict" ∧ ((∃ kvs, H p = some (.dK kvs)) ∨ ∃ kvs, H p = some (.dT kvs))) ∨ (T = "set" ∧ ∃ S n, H p = some (.set S n))
  | _ => False
theorem tyV_is {pins : List (Addr × Obj)} {σ : St} {H : Hp} {s : Shared} {T : String} {x : V} {v : Value} (I : Inv X pins σ H s) (r : RelV x v) (ty : tyV X.K T x H) :
    s.TypeIs v T ∧ ∀ a, v = .ref a → ∃ ob, s.heap.get? a = some ob ∧ ob.dict = none := by
  cases x with
  | str z =>
    obtain ⟨t, rfl⟩ := r
    cases (show T = "str" from ty)
    exact ⟨typeIs_str s z t, fun _ e => nomatch e⟩
  | int i =>
    obtain ⟨t, rfl⟩ := r
    cases (show T = "int" from ty)
    exact ⟨typeIs_int s i t, fun _ e => nomatch e⟩
  | ref p =>
    cases r
    rcases ty with ⟨rfl, xs, hq⟩ | ⟨rfl, o, hk, hc, hd⟩ | ⟨rfl, hk⟩ | ⟨rfl, S, n, hk⟩
    · obtain ⟨its, _, pl, _⟩ := I.list hq
      refine ⟨pl.isList.typeIs, fun a e => ?_⟩
      cases e
      obtain ⟨o, n, e, c, hd, _⟩ := pl
      exact ⟨o, e, hd⟩
    · refine ⟨⟨o, I.kIn p o hk, hc⟩, fun a e => ?_⟩
      cases e
      exact ⟨o, I.kIn _ o hk, hd⟩
    · have z : ∃ o, s.heap.get? p = some o ∧ o.ExactDict := by
        rcases hk with ⟨kvs, hk⟩ | ⟨kvs, hk⟩
        · obtain ⟨_, _, _, _, o, _, _, e, ex, _⟩ := I.hok p _ hk
          exact ⟨o, e, ex⟩
        · obtain ⟨_, _, _, _, o, _, _, e, ex, _⟩ := I.hok p _ hk
          exact ⟨o, e, ex⟩
      obtain ⟨o, e, ex⟩ := z
      refine ⟨⟨o, e, ex.1⟩, fun a e2 => ?_⟩
      cases e2
      exact ⟨o, e, ex.2.1⟩
    · obtain ⟨o, _, _, _, e, ex, _⟩ := I.hok p _ hk
      refine ⟨⟨o, e, ex.1⟩, fun a e2 => ?_⟩
      cases e2
      exact ⟨o, e, ex.2.1⟩
  | _ => exact False.elim ty
def tBM0 (K : PySem.W.Frag) (T : String) (r : V → List V → Hp → VK → Prop) (to : TE) : TE := fun σ H Q => to σ H fun x H1 => tyV K T x H1 ∧ r x [] H1 Q
def tBM (K : PySem.W.Frag) (T : String) (r : V → List V → Hp → VK → Prop) (to : TE) (t : TA) : TE := fun σ H Q => to σ H fun x H1 => tyV K T x H1 ∧ t σ H1 fun xs H2 => r x xs H2 Q
variable {o e : Expr} {es : List Expr} {to : TE} {t : TA} {name : Str} {apos cpos : Pos} {T id : String} {r : V → List V → Hp → VK → Prop}
theorem pe_bm0 (pa : PlainAttrs T) (slot : Slot T name id) (hty : typeOf (.builtin id) = pure (.type "method_descriptor")) (hm : MtR X id r) (ho : PE X o to)
    (hbase : attributeBase o name X.env (eval o X.env) = eval o X.env := by rfl) (hline : (apos.endLine == cpos.line) = true := by rfl) : PE X (.Call (.Attribute o name apos) [] [] cpos) (tBM0 X.K T r to) := by
  intro pins s σ H Q I h
  refine wpAny_Call_method0_late hbase hline (thn (ho pins s σ H _ I h) fun v s1 ⟨x, H1, I1, r1, ty, q1⟩ => ?_)
  obtain ⟨h1, h2⟩ := tyV_is I1 r1 ty
  exact ⟨T, id, pa, slot, hty, h1, h2, Calls.callWith_builtin rfl (PySem.evalArgs_none (hm pins s1 σ H1 x [] v [] Q I1 r1 .nil q1))⟩
theorem pe_bm (pa : PlainAttrs T) (slot : Slot T name id) (hty : typeOf (.builtin id) = pure (.type "method_descriptor")) (hm : MtR X id r) (ho : PE X o to) (ha : PA X (e :: es) t)
    (hbase : attributeBase o name X.env (eval o X.env) = eval o X.env := by rfl)
    (hfew : ((backTo cpos (starEach (e :: es) X.env)).all (fun x => !x.1) && (backToKw cpos (keywordEach [] X.env)).all (fun x => x.1.isSome)
      && decide ((e :: es).length + ([] : List Keyword).length + (if ([] : List Keyword).isEmpty then 0 else 1) < 30)) = true := by rfl)
    (hline : (apos.endLine == cpos.line) = true := by rfl) (hs : starEach (e :: es) X.env = (false, eval e X.env) :: starEach es X.env := by rfl) (hplain : (backTo cpos (starEach es X.env)).any (·.1) = false := by rfl) :
    PE X (.Call (.Attribute o name apos) (e :: es) [] cpos) (tBM X.K T r to t) := by
  intro pins s σ H Q I h
  refine wpAny_Call_method_late hbase hfew hline rfl (thn (ho pins s σ H _ I h) fun v s1 ⟨x, H1, I1, r1, ty, q1⟩ => ?_)
  obtain ⟨h1, h2⟩ := tyV_is I1 r1 ty
  refine ⟨T, id, pa, slot, hty, h1, h2, ?_⟩
  have hA := ha cpos pins s1 σ H1 _ I1 q1
  rw [hs] at hA ⊢
  refine Calls.callWith_builtin (by show (false || (backTo cpos (starEach es X.env)).any (·.1)) = false; rw [hplain] <;> rfl) (Calls.evalArgs_plain ?_)
  exact thn hA fun us s2 ⟨vs, H2, I2, r2, q2⟩ => hm pins s2 σ H2 x vs v us Q I2 r1 r2 q2
end
end L2

namespace L2
open PySem PySem.Spec PyProof.Rows

def MtM (X : Cx) (id : String) (r : V → List V → Hp → VK → Prop) : Prop :=
  ∀ (pins : List (Addr × Obj)) (s : Shared) (σ : St) (H : Hp) (x : V) (xs : List V) (v : Value) (us : List Value) (Q : VK), Inv X pins σ H s → RelV x v → Vals xs us → r x xs H Q →
    wpAny (model X.prog X.w) X.A (call (.builtin id) (v :: us)) (EP X pins σ Q) X.xe s

theorem Vals.one : ∀ {x : V} {us : List Value}, Vals [x] us → ∃ u, us = [u] ∧ RelV x u
  | _, _, .cons r .nil => ⟨_, rfl, r⟩
theorem Vals.two : ∀ {x y : V} {us : List Value}, Vals [x, y] us → ∃ u v, us = [u, v] ∧ RelV x u ∧ RelV y v
  | _, _, _, .cons r (.cons q .nil) => ⟨_, _, rfl, r, q⟩
theorem Vals.zero : ∀ {us : List Value}, Vals [] us → us = []
  | _, .nil => rfl
theorem Vals.dropLast {xs : List V} {us : List Value} (h : Vals xs us) : Vals xs.dropLast us.dropLast := by
  induction h with
  | nil => exact .nil
  | cons r t ih =>
    cases t with
    | nil => exact .nil
    | cons q t' => exact .cons r ih
theorem Vals.eraseIdx : ∀ {xs : List V} {us : List Value} (i : Nat), Vals xs us → Vals (xs.eraseIdx i) (us.eraseIdx i)
  | _, _, _, .nil => .nil
  | _, _, 0, .cons _ t => t
  | _, _, i + 1, .cons r t => .cons r (Vals.eraseIdx i t)
theorem erase_last {α : Type} (l : List α) : l.eraseIdx (l.length - 1) = l.dropLast := by
  induction l with
  | nil => rfl
  | cons a r ih =>
    cases r with
    | nil => rfl
    | cons b r =>
      have e : (a :: b :: r).length - 1 = ((b :: r).length - 1) + 1 := by
        have h1 : (a :: b :: r).length = r.length + 2 := rfl
        have h2 : (b :: r).length = r.length + 1 := rfl
        omega
      rw [e, List.eraseIdx_cons_succ, ih]
      all_goals rfl
theorem len_erase {α : Type} : ∀ (l : List α) (i : Nat), (l.eraseIdx i).length ≤ l.length
  | [], _ => Nat.le_refl _
  | _ :: _, 0 => Nat.le_succ _
  | _ :: r, i + 1 => Nat.succ_le_succ (len_erase r i)
section
variable {X : Cx} {pins : List (Addr × Obj)} {σ : St} {H : Hp} {s : Shared} {l b : Addr} {xs ys zs : List V}

theorem Inv.lset {its its' : List Value} {n : Nat} {f : Array Value → Array Value} {t' : Nat} (I : Inv X pins σ H s) (hH : H l = some (.lst xs))
    (e : s.heap.get? l = some { cls := .type "list", data := .seq its.toArray n }) (hf : f its.toArray = its'.toArray) (hv : Vals ys its') (hz : ys.length ≤ sizeLine) :
    Inv X pins σ (upd H l (.lst ys)) { s with heap := s.heap.update l (Obj.mapSeq f), toks := t' } := by
  have q := PySem.IsL.update e f
  rw [hf] at q
  refine I.write (x := l) (e := l) (by rw [hH]; exact trivial) (.inl rfl) (fun b' u hb hu => (Heap.get?_update_other s.heap (Obj.mapSeq f) (Ne.symm hb)).trans hu) ⟨_, q⟩ ?_
  exact ⟨hz, its', _, hv, q⟩
theorem Inv.lnew {its : List Value} {t' : Nat} (I : Inv X pins σ H s) (hv : Vals ys its) (hz : ys.length ≤ sizeLine) :
    Inv X pins σ (upd H s.heap.objs.size (.lst ys)) { s with heap := s.heap.push { cls := .type "list", data := .seq its.toArray }, toks := t' } :=
  I.laid (fun _ _ q => Heap.get?_push_of_some _ q) (Nat.le_refl _) ⟨hz, its, 0, hv, Heap.get?_push_size _ rfl⟩
theorem Inv.fresh (I : Inv X pins σ H s) : H s.heap.objs.size = none := I.hok.fresh (Nat.le_refl _)
theorem Inv.lstM (I : Inv X pins σ H s) (hH : H l = some (.lst xs)) : xs.length ≤ sizeLine ∧ ∃ (its : List Value) (n : Nat), Vals xs its ∧ xs.length = its.length ∧ s.heap.get? l = some { cls := .type "list", data := .seq its.toArray n } := by
  obtain ⟨z, its, n, r, e⟩ := I.hok l _ hH
  exact ⟨z, its, n, r, r.length, e⟩

theorem notLongL {n : Nat} (h : n ≤ sizeLine) : Builtin.List.listTooLong n = false := by
  unfold Builtin.List.listTooLong
  exact decide_eq_false (by omega)
end

section
variable {X : Cx}

def rAppend : V → List V → Hp → VK → Prop := fun x vs H Q => ∃ l xs y, x = .ref l ∧ vs = [y] ∧ H l = some (.lst xs) ∧ xs.length < sizeLine ∧ Q .non (upd H l (.lst (xs ++ [y])))
theorem mt_append : MtM X "list.append" rAppend := by
  intro pins s σ H x vs v us Q I rx rv h
  obtain ⟨l, xs, y, rfl, rfl, hH, hz, q⟩ := h
  cases rx
  obtain ⟨u, rfl, ru⟩ := rv.one
  obtain ⟨z, its, n, r, hl, e⟩ := I.lstM hH
  refine call_meets F.slot_list_append ⟨_, e, rfl⟩ F.entry_list_append (F.args_list_append_2 _ _) (PySem.list_append l its.toArray n u (by rw [List.size_toArray]; omega)) ⟨e, ?_⟩
  refine ⟨.non, _, I.lset (its' := its ++ [u]) hH e (by simp) (r.append (.cons ru .nil)) ?_, rfl, q⟩
  rw [List.length_append, List.length_singleton]
  omega

def rExtend : V → List V → Hp → VK → Prop := fun x vs H Q => ∃ l b xs zs, x = .ref l ∧ vs = [.ref b] ∧ H l = some (.lst xs) ∧ H b = some (.lst zs) ∧ xs.length + zs.length ≤ sizeLine ∧ Q .non (upd H l (.lst (xs ++ zs)))
theorem mt_extend : MtM X "list.extend" rExtend := by
  intro pins s σ H x vs v us Q I rx rv h
  obtain ⟨l, b, xs, zs, rfl, rfl, hH, hB, hz, q⟩ := h
  cases rx
  obtain ⟨u, rfl, ru⟩ := rv.one
  cases ru
  obtain ⟨z, its, n, r, hl, e⟩ := I.lstM hH
  obtain ⟨z2, its2, n2, r2, hl2, e2⟩ := I.lstM hB
  have hsz : its.toArray.size + its2.toArray.size ≤ sizeLine := by rw [List.size_toArray, List.size_toArray]; omega
  have hlong : ¬ (!its.toArray.isEmpty && Builtin.List.listTooLong (its.toArray.size + its2.toArray.size)) = true := by
    rw [notLongL hsz, Bool.and_false]
    exact Bool.false_ne_true
  refine call_meets F.slot_list_extend ⟨_, e, rfl⟩ F.entry_list_extend (F.args_list_extend_2 _ _)
    (AutoSeq1.list_extend_list_list_0 l its.toArray n b its2.toArray n2 hlong (by rw [List.size_toArray]; omega) (by omega)) ⟨e, e2, ?_⟩
  refine ⟨.non, _, I.lset (its' := its ++ its2) hH e (by simp) (r.append r2) ?_, rfl, q⟩
  rw [List.length_append]
  omega

def rPop : V → List V → Hp → VK → Prop := fun x vs H Q => ∃ l xs y, x = .ref l ∧ vs = [] ∧ H l = some (.lst xs) ∧ xs[xs.length - 1]? = some y ∧ Q y (upd H l (.lst xs.dropLast))
theorem mt_pop : MtM X "list.pop" rPop := by
  intro pins s σ H x vs v us Q I rx rv h
  obtain ⟨l, xs, y, rfl, rfl, hH, hy, q⟩ := h
  cases rx
  have hus := rv.zero
  subst hus
  obtain ⟨z, its, n, r, hl, e⟩ := I.lstM hH
  obtain ⟨u, hu, ru⟩ := r.get hy
  have hy' : its.toArray[its.toArray.size - 1]? = some u := by
    show its.toArray[its.length - 1]? = some u
    rw [← Array.getElem?_toList, ← hl]
    exact hu
  refine call_meets F.slot_list_pop ⟨_, e, rfl⟩ F.entry_list_pop (F.args_list_pop_1 _) (MeetsSeq.list_pop_last l its.toArray n u hy' (by rw [List.size_toArray]; omega)) ⟨e, ?_⟩
  refine ⟨y, _, I.lset (its' := its.dropLast) hH e ?_ r.dropLast ?_, ru, q⟩
  · show its.toArray.eraseIdxIfInBounds (its.toArray.size - 1) = its.dropLast.toArray
    rw [List.size_toArray, List.eraseIdxIfInBounds_toArray, erase_last]
  · rw [List.length_dropLast]
    omega

def rPopAt : V → List V → Hp → VK → Prop := fun x vs H Q => ∃ l xs i k y, x = .ref l ∧ vs = [.int i] ∧ H l = some (.lst xs) ∧ -(2 ^ 63) ≤ i ∧ i < 2 ^ 63 ∧ seqIndex? i xs.length = some k ∧ xs[k]? = some y ∧ Q y (upd H l (.lst (xs.eraseIdx k)))
theorem mt_popAt : MtM X "list.pop" rPopAt := by
  intro pins s σ H x vs v us Q I rx rv h
  obtain ⟨l, xs, i, k, y, rfl, rfl, hH, h1, h2, hk, hy, q⟩ := h
  cases rx
  obtain ⟨u, rfl, ru⟩ := rv.one
  obtain ⟨t, rfl⟩ := ru
  obtain ⟨z, its, n, r, hl, e⟩ := I.lstM hH
  obtain ⟨w, hw, rw'⟩ := r.get hy
  refine call_meets F.slot_list_pop ⟨_, e, rfl⟩ F.entry_list_pop (F.args_list_pop_2 _ _)
    (MeetsSeq.list_pop_at l its.toArray n i t k w (fitsIndex_both h1 h2) (by rw [List.size_toArray, ← hl]; exact hk) (by rw [← Array.getElem?_toList]; exact hw) (by rw [List.size_toArray]; omega)) ⟨e, ?_⟩
  refine ⟨y, _, I.lset (its' := its.eraseIdx k) hH e ?_ (r.eraseIdx k) ?_, rw', q⟩
  · show its.toArray.eraseIdxIfInBounds k = (its.eraseIdx k).toArray
    rw [List.eraseIdxIfInBounds_toArray]
  · have := len_erase xs k
    omega

def rCat : R2 := fun x y H Q => ∃ l b xs zs, x = .ref l ∧ y = .ref b ∧ H l = some (.lst xs) ∧ H b = some (.lst zs) ∧ xs.length + zs.length ≤ sizeLine ∧ ∀ p, H p = none → Q (.ref p) (upd H p (.lst (xs ++ zs)))
theorem op_cat : OpR X (binaryOp .Add) rCat := by
  intro pins s σ H x y v u Q I rx ry h
  obtain ⟨l, b, xs, zs, rfl, rfl, hH, hB, hz, q⟩ := h
  cases rx
  cases ry
  obtain ⟨z, its, n, r, hl, e⟩ := I.lstM hH
  obtain ⟨z2, its2, n2, r2, hl2, e2⟩ := I.lstM hB
  refine PySem.P.add_list e e2 ?_ (by rw [List.size_toArray, List.size_toArray]; omega)
  have ea : its.toArray ++ its2.toArray = (its ++ its2).toArray := by simp
  rw [ea]
  exact ⟨.ref _, _, I.lnew (t' := s.toks) (r.append r2) (by rw [List.length_append]; omega), rfl, q _ I.fresh⟩
end

section
variable {prog : Program} {w : World} {A : Around} {E : Value → Shared → Prop} {s : Shared}
end

section
variable {X : Cx}
end
end L2

namespace L2
open PySem PySem.Spec PyProof.Rows

theorem Vals.ints : ∀ {ns : List Int} {us : List Value}, Vals (ns.map V.int) us → IntsAre us ns
  | [], us, h => by
    rw [List.map_nil] at h
    cases h
    exact IntsAre.nil
  | n :: ns, us, h => by
    rw [List.map_cons] at h
    cases h with
    | cons r t =>
      obtain ⟨k, rfl⟩ := r
      exact IntsAre.cons n k (Vals.ints t)
theorem Vals.bls : ∀ {bs : List Bool} {us : List Value}, Vals (bs.map V.bl) us → us = bs.map Value.bool
  | [], us, h => by
    rw [List.map_nil] at h
    cases h
    rfl
  | b :: bs, us, h => by
    rw [List.map_cons] at h
    cases h with
    | cons r t =>
      cases r
      rw [Vals.bls t, List.map_cons]
theorem Vals.ref1 {a : Addr} {us : List Value} (r : Vals [V.ref a] us) : us = [Value.ref a] := by
  cases r with
  | cons r t =>
    cases t
    cases r
    rfl
section
variable {prog : Program} {w : World} {A : Around} {E : Value → Shared → Prop} {s : Shared} {l : Addr} {its : List Value} {ns : List Int} {Q : Value → Shared → Prop}
theorem max_raw (hh : A.handled = none) (hl : s.heap.IsList l its.toArray) (hi : IntsAre its ns) (hne : 0 < ns.length)
    (h : ∀ h' tk M t', (∀ b o, s.heap.get? b = some o → h'.get? b = some o) → M ∈ ns → (∀ a, a ∈ ns → a ≤ M) → Q (.int M t') { s with heap := h', toks := tk }) : wpAny (model prog w) A (call (.builtin "max") [.ref l]) Q E s := by
  obtain ⟨xs, e⟩ := hi.allInts.items
  have hn : numsOf (intItems xs).toList = ns := by rw [← e]; exact hi.numsOf
  rw [nums_intItems] at hn
  subst hn
  rw [e] at hl
  have hsz : 0 < xs.size := by simpa using hne
  refine PySem.max_intList hh hl hsz fun v h' tk hv hk => ?_
  obtain ⟨t, rfl⟩ := intItems_at hv
  obtain ⟨h1, h2⟩ := argBest_gt (numAt xs) (xs.size - 1)
  refine h h' tk _ t hk ?_ fun a ha => ?_
  · rw [numAt_eq]; exact PySem.getD_mem (by rw [List.length_map, Array.length_toList]; omega)
  · obtain ⟨j, hj, rfl⟩ := mem_getD ha
    rw [List.length_map, Array.length_toList] at hj
    rw [← numAt_eq]; exact h2 j (by omega)
end

section
variable {X : Cx}
def rMax (K : PySem.W.Frag) : List V → Hp → VK → Prop := fun vs H Q => ∃ (a : Addr) (ns : List Int), vs = [V.ref a] ∧ SqL K H a (ns.map V.int) ∧ 0 < ns.length ∧ ∀ m, m ∈ ns → (∀ y, y ∈ ns → y ≤ m) → Q (.int m) H
theorem cr_max (hc : X.calm = true) : CallR X (.builtin "max") (rMax X.K) := by
  intro pins s σ H vs us Q I r h
  obtain ⟨a, ns, rfl, hs, hne, q⟩ := h
  obtain ⟨its, rv, hl, _⟩ := I.list hs
  rw [Vals.ref1 r]
  exact max_raw (I.ok.hd hc) hl.isList rv.ints hne fun h' tk m t' hk h1 h2 => ⟨.int _, H, I.kept hk, ⟨_, rfl⟩, q m h1 h2⟩
end

section
variable {X : Cx}
end

section
variable {X : Cx}
end

theorem iter_any {prog : Program} {w : World} {A : Around} {E : Value → Shared → Prop} {s : Shared} {l : Addr} {items : Array Value} {Q : Value → Shared → Prop} (hl : s.heap.IsList l items)
    (h : ∀ s₂ : Shared, s₂ = { s with heap := s.heap.push { cls := .type "list_iterator", data := .fields #[.ref l, .int 0 0] } } →
      (s₂.heap.IsListIter s.heap.objs.size l 0 ∧ s₂.heap.IsList l items) → l ≠ s.heap.objs.size → Q (.ref s.heap.objs.size) s₂) : wpAny (model prog w) A (pyIter (.ref l)) Q E s := by
  have hlt : l < s.heap.objs.size := by obtain ⟨_, e, _⟩ := hl; exact Heap.lt_size e
  exact wpAny_pyIter_list hl (h _ rfl ⟨⟨_, Heap.get?_push_size _ rfl, rfl, rfl⟩, hl.push _⟩ (Nat.ne_of_lt hlt))
theorem truth_bools {prog : Program} {w : World} {A : Around} {bs : List Bool} {its : List Value} (e : its = bs.map Value.bool) :
    TruthOf prog w A (fun i v => its.toArray[i]? = some v) (fun i => bs.getD i false) := fun i v s Q E hv hq => by
  have hv' : its[i]? = some v := by simpa using hv
  rw [e, List.getElem?_map] at hv'
  obtain ⟨b, hb, rfl⟩ := Option.map_eq_some_iff.mp hv'
  have hg : bs.getD i false = b := by rw [List.getD_eq_getElem?_getD, hb] <;> rfl
  have hq' : Q (bs.getD i false) s := hq
  rw [hg] at hq'
  exact wpAny_truthy_bool hq'
theorem any_range : ∀ bs : List Bool, (List.range bs.length).any (fun i => bs.getD i false) = bs.any id
  | [] => rfl
  | b :: bs => by
    rw [List.length_cons, List.range_succ_eq_map, List.any_cons, List.any_map, List.any_cons, ← any_range bs]
    all_goals rfl
section
variable {X : Cx}
def rAny (K : PySem.W.Frag) : List V → Hp → VK → Prop := fun vs H Q => ∃ (a : Addr) (bs : List Bool), vs = [V.ref a] ∧ SqL K H a (bs.map V.bl) ∧ Q (.bl (bs.any id)) H
theorem cr_any (hc : X.calm = true) : CallR X (.builtin "any") (rAny X.K) := by
  intro pins s σ H vs us Q I r h
  obtain ⟨a, bs, rfl, hs, q⟩ := h
  obtain ⟨its, rv, hl, _⟩ := I.list hs
  rw [Vals.ref1 r]
  have hb := rv.bls
  refine call_any_walk (iter_any hl.isList fun s₂ e2 st hne => ?_)
  subst e2
  refine ⟨_, _, _, _, _, _, _, rfl, Walks.list (A := X.A.in1) (I.ok.hd hc) _ a hne its.toArray, st, truth_bools hb, fun h' tk hk => ?_⟩
  refine ⟨.bl _, H, I.kept fun b o eo => hk b o (fun hmem => ?_) (Heap.get?_push_of_some _ eo), ?_, q⟩
  · rcases List.mem_cons.mp hmem with e1 | hmem
    · exact absurd (e1 ▸ Heap.lt_size eo) (Nat.lt_irrefl _)
    · cases hmem
  · show Value.bool _ = Value.bool _
    rw [← any_range, hb, List.size_toArray, List.length_map]
end

mutual
inductive Dp (K : PySem.W.Frag) (H : Hp) : V → PyData → Prop
  | non : Dp K H .non .none
  | bl (b : Bool) : Dp K H (.bl b) (.bool b)
  | int (i : Int) : Dp K H (.int i) (.int i)
  | str (x : Str) : Dp K H (.str x) (.str x)
  | lst {a : Addr} {xs : List V} {ds : List PyData} : SqL K H a xs → DpAll K H xs ds → Dp K H (.ref a) (.list ds)
  | tup {a : Addr} {xs : List V} {ds : List PyData} : SqT K H a xs → DpAll K H xs ds → Dp K H (.ref a) (.tuple ds)
inductive DpAll (K : PySem.W.Frag) (H : Hp) : List V → List PyData → Prop
  | nil : DpAll K H [] []
  | cons {v : V} {vs : List V} {d : PyData} {ds : List PyData} : Dp K H v d → DpAll K H vs ds → DpAll K H (v :: vs) (d :: ds)
end
section
variable {X : Cx} {pins : List (Addr × Obj)} {σ : St} {H : Hp} {s : Shared}
mutual
theorem Dp.reads (I : Inv X pins σ H s) : ∀ (d : PyData) (v : V) (u : Value), Dp X.K H v d → RelV v u → ∃ as, Reads s.heap u d as
  | .none, _, _, h, r => by
    cases h
    cases r
    exact ⟨_, Reads.none⟩
  | .bool b, _, _, h, r => by
    cases h
    cases r
    exact ⟨_, Reads.bool b⟩
  | .int i, _, _, h, r => by
    cases h
    obtain ⟨t, rfl⟩ := r
    exact ⟨_, Reads.int i t⟩
  | .str x, _, _, h, r => by
    cases h
    obtain ⟨t, rfl⟩ := r
    exact ⟨_, Reads.str x t⟩
  | .list ds, _, _, h, r => by
    cases h with
    | lst hs ha =>
      cases r
      obtain ⟨its, rv, ⟨o, n, ho, hc, _, hd⟩, _⟩ := I.list hs
      obtain ⟨as, hr⟩ := Dp.readsAll I ds _ its ha rv
      exact ⟨_, Reads.list ho hc hd hr⟩
  | .tuple ds, _, _, h, r => by
    cases h with
    | tup hs ha =>
      cases r
      obtain ⟨its, rv, ⟨o, ho, hc, n, hd⟩, _⟩ := I.tuple hs
      obtain ⟨as, hr⟩ := Dp.readsAll I ds _ its ha rv
      exact ⟨_, Reads.tuple ho hc hd hr⟩
  | .dict _, _, _, h, _ => by cases h
theorem Dp.readsAll (I : Inv X pins σ H s) : ∀ (ds : List PyData) (vs : List V) (us : List Value), DpAll X.K H vs ds → Vals vs us → ∃ as, ReadsAll s.heap us ds as
  | [], _, _, h, r => by
    cases h
    cases r
    exact ⟨_, ReadsAll.nil⟩
  | d :: ds, _, _, h, r => by
    cases h with
    | cons h1 h2 =>
      cases r with
      | cons r1 r2 =>
        obtain ⟨as, q1⟩ := Dp.reads I d _ _ h1 r1
        obtain ⟨bs, q2⟩ := Dp.readsAll I ds _ _ h2 r2
        exact ⟨_, ReadsAll.cons q1 q2⟩
end
end
section
variable {X : Cx}
end
end L2

namespace L2
open PySem PySem.Spec PyProof.Rows
abbrev CellAt (h : Heap) (c : Addr) (v : Option Value) : Prop := h.IsCell c v
def relS (scope sc : Scope) : Scope :=
  { scope with names := scope.names.map fun (n, k) => if (k == .free && sc.kind == .function && sc.names.lookup n == some .cell) then (n, .cell) else (n, k) }

def cloFrom (cells : List (Str × Addr)) : List (Str × NameKind) → List (Str × Addr) → List (Str × Addr)
  | [], acc => acc
  | (n, k) :: r, acc => if k == .free then cloFrom cells r ((n, (cells.lookup n).getD 0) :: acc) else cloFrom cells r acc

theorem closure_loop (env : Env) (f : Str × NameKind → List (Str × Addr) → Sem (ForInStep (List (Str × Addr))))
    (hf : ∀ n k c, f (n, k) c = if k == .free then (do let a ← cellOf env n; pure (.yield ((n, a) :: c))) else pure (.yield c)) :
    ∀ (names : List (Str × NameKind)) (acc : List (Str × Addr)), (∀ y ∈ names, y.2 = .free → ∃ c, env.cells.lookup y.1 = some c) → forIn names acc f = pure (cloFrom env.cells names acc)
  | [], acc, _ => by rw [List.forIn_nil]; rfl
  | (n, k) :: r, acc, h => by
    rw [List.forIn_cons, hf]
    have ih := fun acc => closure_loop env f hf r acc fun y hy => h y (List.mem_cons_of_mem _ hy)
    unfold cloFrom
    by_cases hk : (k == NameKind.free) = true
    · rw [if_pos hk, if_pos hk]
      obtain ⟨c, hc⟩ := h (n, k) List.mem_cons_self (by simpa using hk)
      have e : cellOf env n = pure c := by unfold cellOf; rw [hc]
      rw [e]
      have e2 : (env.cells.lookup n).getD 0 = c := by rw [hc]; rfl
      rw [e2]
      exact ih _
    · rw [if_neg hk, if_neg hk]
      exact ih _
theorem closure_ok {scope : Scope} {env : Env} (h : ∀ y ∈ scope.names, y.2 = .free → ∃ c, env.cells.lookup y.1 = some c) : closureFor scope env = pure (cloFrom env.cells scope.names []) := by
  simp only [closureFor]
  rw [closure_loop env _ (fun n k c => rfl) scope.names [] h]
  rfl

theorem mem_lookup {α : Type} : ∀ {l : List (Str × α)} {n : Str} {c : α}, (n, c) ∈ l → ∃ c', l.lookup n = some c'
  | (k, v) :: r, n, c, h => by
    rw [List.lookup_cons]
    cases hb : n == k with
    | true => exact ⟨_, rfl⟩
    | false =>
      rcases List.mem_cons.mp h with e | h
      · cases e; simp at hb
      · exact mem_lookup h

theorem cloFrom_mem {cells : List (Str × Addr)} : ∀ {names : List (Str × NameKind)} {acc : List (Str × Addr)} {n : Str} {c : Addr}, (n, c) ∈ cloFrom cells names acc → (n, c) ∈ acc ∨ ((n, .free) ∈ names ∧ c = (cells.lookup n).getD 0)
  | [], _, _, _, h => .inl h
  | (m, k) :: r, acc, n, c, h => by
    unfold cloFrom at h
    split at h
    · rename_i hk
      have hk : k = .free := by simpa using hk
      rcases cloFrom_mem h with h | ⟨h1, h2⟩
      · rcases List.mem_cons.mp h with e | h
        · cases e; exact .inr ⟨hk ▸ List.mem_cons_self, rfl⟩
        · exact .inl h
      · exact .inr ⟨List.mem_cons_of_mem _ h1, h2⟩
    · rcases cloFrom_mem h with h | ⟨h1, h2⟩
      · exact .inl h
      · exact .inr ⟨List.mem_cons_of_mem _ h1, h2⟩
theorem cloFrom_acc {cells : List (Str × Addr)} : ∀ {names : List (Str × NameKind)} {acc : List (Str × Addr)} {p : Str × Addr}, p ∈ acc → p ∈ cloFrom cells names acc
  | [], _, _, h => h
  | (m, k) :: r, acc, p, h => by
    unfold cloFrom
    split
    · exact cloFrom_acc (List.mem_cons_of_mem _ h)
    · exact cloFrom_acc h
theorem cloFrom_has {cells : List (Str × Addr)} : ∀ {names : List (Str × NameKind)} {acc : List (Str × Addr)} {n : Str}, (n, .free) ∈ names → (n, (cells.lookup n).getD 0) ∈ cloFrom cells names acc
  | (m, k) :: r, acc, n, h => by
    unfold cloFrom
    rcases List.mem_cons.mp h with e | h
    · cases e
      exact cloFrom_acc List.mem_cons_self
    · split
      · exact cloFrom_has h
      · exact cloFrom_has h

theorem cells_mem : ∀ {names : List (Str × NameKind)} {h : Heap} {acc : List (Str × Addr)} {x : Str} {c : Addr}, (x, c) ∈ cellsFrom h.objs.size names acc →
    (x, c) ∈ acc ∨ ((x, .cell) ∈ names ∧ h.objs.size ≤ c ∧ CellAt (pushCells h names) c none)
  | [], _, _, _, _, h => .inl h
  | (n, k) :: r, h, acc, x, c, hm => by
    unfold cellsFrom at hm
    unfold pushCells
    split at hm
    · rename_i hk
      rw [if_pos hk]
      have hk : k = .cell := by simpa using hk
      rw [← Heap.size_push h { cls := .type "cell", data := .cell none }] at hm
      rcases cells_mem hm with hm | ⟨h1, h2, h3⟩
      · rcases List.mem_cons.mp hm with e | hm
        · cases e
          exact .inr ⟨hk ▸ List.mem_cons_self, Nat.le_refl _, _, pushCells_keeps r _ _ _ (Heap.get?_push_size _ rfl), rfl⟩
        · exact .inl hm
      · rw [Heap.size_push] at h2
        exact .inr ⟨List.mem_cons_of_mem _ h1, Nat.le_of_succ_le h2, h3⟩
    · rename_i hk
      rw [if_neg hk]
      rcases cells_mem hm with hm | ⟨h1, h2, h3⟩
      · exact .inl hm
      · exact .inr ⟨List.mem_cons_of_mem _ h1, h2, h3⟩
theorem cells_acc : ∀ {names : List (Str × NameKind)} {n : Nat} {acc : List (Str × Addr)} {p : Str × Addr}, p ∈ acc → p ∈ cellsFrom n names acc
  | [], _, _, _, h => h
  | (m, k) :: r, n, acc, p, h => by
    unfold cellsFrom
    split
    · exact cells_acc (List.mem_cons_of_mem _ h)
    · exact cells_acc h
theorem cells_has : ∀ {names : List (Str × NameKind)} {n : Nat} {acc : List (Str × Addr)} {x : Str}, (x, .cell) ∈ names → ∃ c, (x, c) ∈ cellsFrom n names acc
  | (m, k) :: r, n, acc, x, h => by
    unfold cellsFrom
    rcases List.mem_cons.mp h with e | h
    · cases e
      exact ⟨n, cells_acc List.mem_cons_self⟩
    · split
      · exact cells_has h
      · exact cells_has h
theorem cells_inj : ∀ {names : List (Str × NameKind)} {h : Heap} {acc : List (Str × Addr)} {x y : Str} {c : Addr}, (∀ p ∈ acc, p.2 < h.objs.size) → (∀ x y c, (x, c) ∈ acc → (y, c) ∈ acc → x = y) →
    (x, c) ∈ cellsFrom h.objs.size names acc → (y, c) ∈ cellsFrom h.objs.size names acc → x = y
  | [], _, _, _, _, _, _, hi, h1, h2 => hi _ _ _ h1 h2
  | (n, k) :: r, h, acc, x, y, c, hl, hi, h1, h2 => by
    unfold cellsFrom at h1 h2
    split at h1
    · rename_i hk
      rw [if_pos hk] at h2
      rw [← Heap.size_push h { cls := .type "cell", data := .cell none }] at h1 h2
      refine cells_inj (h := h.push _) (fun p hp => ?_) (fun x y c a b => ?_) h1 h2
      · rw [Heap.size_push]
        rcases List.mem_cons.mp hp with rfl | hp
        · exact Nat.lt_succ_self _
        · exact Nat.lt_succ_of_lt (hl p hp)
      · rcases List.mem_cons.mp a with e | a <;> rcases List.mem_cons.mp b with e' | b
        · cases e; cases e'; rfl
        · cases e; exact absurd (hl _ b) (Nat.lt_irrefl _)
        · cases e'; exact absurd (hl _ a) (Nat.lt_irrefl _)
        · exact hi _ _ _ a b
    · rename_i hk
      rw [if_neg hk] at h2
      exact cells_inj hl hi h1 h2

theorem newEnv_comp {M : Model} {A : Around} {E : Value → Shared → Prop} {s : Shared} {scope : Scope} {globals : Addr} {closure : List (Str × Addr)} {qual : Str} {func : Option Addr} {code : Value} {around : Env} {builtins : Addr} {Q : Env → Shared → Prop}
    (h : Q (newEnv scope s.heap.objs.size globals (cellsFrom (s.heap.objs.size + 1) scope.names closure) qual func code (some around) builtins)
      { s with heap := pushCells (s.heap.push { cls := .type "dict", data := .dict #[] }) scope.names }) :
    wpAny M A (newFunctionEnv scope globals closure [] qual func code (some around) builtins) Q E s := by
  simp only [newFunctionEnv, Option.isSome_some, if_true]
  refine wpAny_bind (wpAny_alloc ?_)
  refine wpAny_bind (wpAny_layCells _ (fun n k c => rfl) scope.names closure _ _ ?_)
  rw [show ({ s with heap := s.heap.push { cls := .type "dict", data := .dict #[] } } : Shared).heap.objs.size = s.heap.objs.size + 1 from Heap.size_push ..]
  rw [List.forIn_nil]
  exact wpAny_bind (wpAny_pure (wpAny_pure h))

theorem lookup_relS {sc : Scope} : ∀ {names : List (Str × NameKind)} {x : Str} {k : NameKind},
    (names.map fun (n, k) => if (k == NameKind.free && sc.kind == .function && sc.names.lookup n == some .cell) then (n, NameKind.cell) else (n, k)).lookup x = some k →
    ∃ k', names.lookup x = some k' ∧ (k = k' ∨ (k' = .free ∧ k = .cell))
  | [], _, _, h => by simp at h
  | (n, k₀) :: r, x, k, h => by
    have ih := @lookup_relS sc r x k
    have h' : List.lookup x ((if (k₀ == NameKind.free && sc.kind == .function && sc.names.lookup n == some .cell) = true then (n, NameKind.cell) else (n, k₀)) :: (r.map _)) = some k := h
    cases hx : x == n with
    | true =>
      simp only [List.lookup_cons, hx]
      by_cases hc : (k₀ == NameKind.free && sc.kind == .function && sc.names.lookup n == some .cell) = true
      · rw [if_pos hc] at h'
        simp only [List.lookup_cons, hx] at h'
        cases h'
        simp only [Bool.and_eq_true, beq_iff_eq] at hc
        exact ⟨k₀, rfl, .inr ⟨hc.1.1, rfl⟩⟩
      · rw [if_neg hc] at h'
        simp only [List.lookup_cons, hx] at h'
        cases h'
        exact ⟨_, rfl, .inl rfl⟩
    | false =>
      simp only [List.lookup_cons, hx]
      by_cases hc : (k₀ == NameKind.free && sc.kind == .function && sc.names.lookup n == some .cell) = true
      · rw [if_pos hc] at h'
        simp only [List.lookup_cons, hx] at h'
        exact ih h'
      · rw [if_neg hc] at h'
        simp only [List.lookup_cons, hx] at h'
        exact ih h'
structure BlkOk (N : List Str) (sc scope : Scope) (own : List (Str × Nat)) : Prop where
  kind : scope.kind = .function
  uniq : ∀ y ∈ scope.names, scope.names.lookup y.1 = some y.2
  ix : ∀ p ∈ own, N[p.2]? = some p.1
  free : ∀ y ∈ scope.names, y.2 = .free → sc.names.lookup y.1 = some .cell ∨ sc.names.lookup y.1 = some .free
  own : ∀ y ∈ scope.names, y.2 = .local ∨ y.2 = .cell → y.1 ∈ own.map (·.1) ∨ y.1 ∉ N
def wipe (σ : St) : List Nat → St
  | [] => σ
  | v :: vs => (wipe σ vs).set v none
theorem wipe_length (σ : St) : ∀ vs : List Nat, (wipe σ vs).length = σ.length
  | [] => rfl
  | v :: vs => by unfold wipe; rw [List.length_set, wipe_length σ vs]
theorem wipe_some {σ : St} {i : Nat} {x : V} : ∀ {vs : List Nat}, (wipe σ vs)[i]? = some (some x) → σ[i]? = some (some x) ∧ i ∉ vs
  | [], h => ⟨h, by simp⟩
  | v :: vs, h => by
    unfold wipe at h
    by_cases hi : v = i
    · subst hi
      by_cases hv : v < (wipe σ vs).length
      · rw [List.getElem?_set_self hv] at h; cases h
      · rw [List.getElem?_eq_none (by simpa using hv)] at h; cases h
    · rw [List.getElem?_set_ne hi] at h
      obtain ⟨h1, h2⟩ := wipe_some h
      exact ⟨h1, by simp only [List.mem_cons, not_or]; exact ⟨fun e => hi e.symm, h2⟩⟩

abbrev Cx.blk (X : Cx) (s : Shared) (H : Hp) (scope : Scope) (cenv : Env) (fp : List Addr) : Cx := { X with s_0 := s, H_0 := H, env := cenv, outer := X.stack, ex := fp, fn := fun x => scope.names.lookup x == some .cell, pn := [], xe := fun _ _ => False }
section
variable {X : Cx} {pins : List (Addr × Obj)} {σ : St} {H : Hp} {s : Shared}
theorem block_start {scope : Scope} {own : List (Str × Nat)} {fp : List Addr} (I : Inv X pins σ H s) (ok : BlkOk X.N X.env.scope scope own) (hN : X.N.Nodup) (hfp : ∀ b ∈ fp, FpOk X pins H b ∧ b < s.heap.objs.size) :
    Inv (X.blk s H scope (compEnvC scope (cellsFrom (s.heap.objs.size + 1) scope.names (cloFrom X.env.cells scope.names [])) s.heap.objs.size X.env) fp) [] (wipe σ (own.map (·.2))) H { s with heap := pushCells (s.heap.push { cls := .type "dict", data := .dict #[] }) scope.names } := by
  have hfree : ∀ y ∈ scope.names, y.2 = .free → ∃ c, X.env.cells.lookup y.1 = some c := fun y hy e => by
    rcases ok.free y hy e with k | k
    · exact I.ok.has _ (.inl k)
    · exact I.ok.has _ (.inr k)
  generalize hcenv : compEnvC scope (cellsFrom (s.heap.objs.size + 1) scope.names (cloFrom X.env.cells scope.names [])) s.heap.objs.size X.env = cenv
  have kp : ∀ b o, s.heap.get? b = some o → (pushCells (s.heap.push { cls := .type "dict", data := .dict #[] }) scope.names).get? b = some o := fun b o e => pushCells_keeps _ _ _ _ (Heap.get?_push_of_some _ e)
  have hL : cenv.locals = s.heap.objs.size := by rw [← hcenv]; rfl
  have hcl : cenv.cells = cellsFrom (s.heap.objs.size + 1) scope.names (cloFrom X.env.cells scope.names []) := by rw [← hcenv]; rfl
  have hsc : cenv.scope = relS scope X.env.scope := by rw [← hcenv]; rfl
  rw [← Heap.size_push s.heap { cls := .type "dict", data := .dict #[] }] at hcl
  have cm : ∀ {y c}, (y, c) ∈ cloFrom X.env.cells scope.names [] → X.env.cells.lookup y = some c ∧ c < s.heap.objs.size := fun {y c} hm => by
    rcases cloFrom_mem hm with hm | ⟨h1, rfl⟩
    · cases hm
    · obtain ⟨c, hc⟩ := hfree _ h1 rfl
      rw [hc]
      obtain ⟨w, z⟩ := I.cell _ _ hc
      exact ⟨rfl, z.lt⟩
  have mem : ∀ {y c}, cenv.cells.lookup y = some c → (X.env.cells.lookup y = some c ∧ c < s.heap.objs.size) ∨ (s.heap.objs.size + 1 ≤ c ∧ CellAt (pushCells (s.heap.push { cls := .type "dict", data := .dict #[] }) scope.names) c none) := fun {y c} e => by
    rw [hcl] at e
    rcases cells_mem (PySem.mem_of_lookup e) with hm | ⟨_, h2, h3⟩
    · exact .inl (cm hm)
    · rw [Heap.size_push] at h2; exact .inr ⟨h2, h3⟩
  have look : ∀ {y}, scope.names.lookup y = some .free → ∃ c, cenv.cells.lookup y = some c ∧ X.env.cells.lookup y = some c := fun {y} hl => by
    have hy : (y, NameKind.free) ∈ scope.names := PySem.mem_of_lookup hl
    obtain ⟨c', e'⟩ := mem_lookup (cells_acc (names := scope.names) (n := (s.heap.push { cls := .type "dict", data := .dict #[] }).objs.size) (cloFrom_has (cells := X.env.cells) (acc := []) hy))
    rw [← hcl] at e'
    refine ⟨c', e', ?_⟩
    rw [hcl] at e'
    rcases cells_mem (PySem.mem_of_lookup e') with hm | ⟨h1, _, _⟩
    · exact (cm hm).1
    · have := ok.uniq _ h1
      rw [hl] at this; cases this
  have okB : (X.blk s H scope cenv fp).Ok := by
    refine ⟨I.ok.mod, by show cenv.scope.kind = _; rw [hsc]; exact ok.kind, by show cenv.globals = _; rw [← hcenv]; exact I.ok.glob, by show cenv.builtins = _; rw [← hcenv]; exact I.ok.blt, by show s.heap.objs.size ≤ cenv.locals; rw [hL]; exact Nat.le_refl _,
      fun y z c e1 e2 => ?_, fun y hy => ?_, fun y c z e => ?_, I.ok.hd, I.ok.frames, .inl rfl, fun b hb => ⟨?_, fun y c e z => ?_⟩, I.bs, Nat.le_trans I.ok.bsz I.sz, fun b o e hb => ?_, fun b hb z => ?_, I.stack, I.stkFree⟩
    · have e1 : cenv.cells.lookup y = some c := e1
      have e2 : cenv.cells.lookup z = some c := e2
      rw [hcl] at e1 e2
      refine cells_inj (fun p hp => ?_) (fun y z c a b => I.ok.inj y z c (cm a).1 (cm b).1) (PySem.mem_of_lookup e1) (PySem.mem_of_lookup e2)
      rw [Heap.size_push]
      exact Nat.lt_succ_of_lt (cm (y := p.1) (c := p.2) hp).2
    · show ∃ c, cenv.cells.lookup y = some c
      have key : ∀ k, cenv.kindOf y = some k → (k = .cell ∨ k = .free) → ∃ c, cenv.cells.lookup y = some c := fun k hk hk' => by
        unfold Env.kindOf at hk
        rw [hsc] at hk
        obtain ⟨k', e, r⟩ := lookup_relS hk
        have : k' = .cell ∨ k' = .free := by
          rcases r with rfl | ⟨rfl, _⟩
          · exact hk'
          · exact .inr rfl
        rcases this with rfl | rfl
        · obtain ⟨c, hm⟩ := cells_has (n := (s.heap.push { cls := .type "dict", data := .dict #[] }).objs.size) (acc := cloFrom X.env.cells scope.names []) (PySem.mem_of_lookup e)
          obtain ⟨c', e'⟩ := mem_lookup hm
          exact ⟨c', by rw [hcl]; exact e'⟩
        · obtain ⟨c, h1, _⟩ := look e
          exact ⟨c, h1⟩
      rcases hy with hy | hy
      · exact key _ hy (.inl rfl)
      · exact key _ hy (.inr rfl)
    · have z : (scope.names.lookup y == some NameKind.cell) = true := z
      have z : scope.names.lookup y = some .cell := by simpa using z
      have e : cenv.cells.lookup y = some c := e
      rw [hcl] at e
      rcases cells_mem (PySem.mem_of_lookup e) with hm | ⟨_, h2, _⟩
      · rcases cloFrom_mem hm with hm | ⟨h1, _⟩
        · cases hm
        · have q := ok.uniq _ h1
          rw [z] at q; cases q
      · rw [Heap.size_push] at h2
        exact Nat.le_of_succ_le h2
    · show b ≠ cenv.locals
      rw [hL]; exact Nat.ne_of_lt (hfp b hb).2
    · have e : cenv.cells.lookup y = some c := e
      rcases mem e with ⟨h1, _⟩ | ⟨h1, _⟩
      · exact (hfp b hb).1.2.2.2.2.1 y c h1 z
      · have h2 : s.heap.objs.size + 1 ≤ b := by rw [← z]; exact h1
        exact absurd (Nat.lt_of_lt_of_le (hfp b hb).2 (Nat.le_of_succ_le h2)) (Nat.lt_irrefl _)
    · rcases (hfp b hb).1.2.2.2.1 with z | z
      · exact I.ok.noex b o e z
      · exact absurd (Nat.lt_of_lt_of_le (Heap.lt_size e) (Nat.le_trans I.ok.bsz z)) (Nat.lt_irrefl _)
    · rcases List.mem_cons.mp (I.stkSub b z) with z | z
      · exact (hfp b hb).1.2.1 z
      · exact (hfp b hb).1.2.2.1 z
  refine ⟨okB, rfl, I.bare, Un.kept kp, ⟨fun _ => none, ?_, fun i y av e1 e2 e3 => ?_⟩, fun y c e => ?_, ?_, fun y c e => ?_, fun p hp => ?_, I.hok.kept kp, by rw [wipe_length]; exact I.len⟩
  · show Heap.Ns _ cenv.locals _
    rw [hL]
    exact Heap.Ns.keeps (Heap.Ns.new ..) fun b o e => pushCells_keeps _ _ _ _ e
  · obtain ⟨e2, hne⟩ := wipe_some e2
    have hfr : scope.names.lookup y = some .free ∧ (cenv.kindOf y = some .cell ∨ cenv.kindOf y = some .free) := by
      have key : ∀ k, cenv.scope.names.lookup y = some k → k = .local ∨ k = .cell ∨ k = .free → scope.names.lookup y = some .free ∧ (cenv.kindOf y = some .cell ∨ cenv.kindOf y = some .free) := fun k hk hk' => by
        have hk0 := hk
        rw [hsc] at hk
        obtain ⟨k', e, r⟩ := lookup_relS hk
        have no : ¬ (k' = .local ∨ k' = .cell) := fun hh => by
          rcases ok.own _ (PySem.mem_of_lookup e) hh with e' | e'
          · obtain ⟨p, hp, hpy⟩ := List.mem_map.mp e'
            have e3 := ok.ix p hp
            have : p.1 = y := hpy
            rw [this] at e3
            exact hne (List.mem_map.mpr ⟨p, hp, nodup_ix hN e3 e1⟩)
          · exact e' (List.mem_of_getElem? e1)
        rcases r with rfl | ⟨rfl, rfl⟩
        · rcases hk' with rfl | rfl | rfl
          · exact absurd (.inl rfl) no
          · exact absurd (.inr rfl) no
          · exact ⟨e, .inr hk0⟩
        · exact ⟨e, .inl hk0⟩
      have e3 : Vis cenv.scope y := e3
      rcases e3 with e3 | e3 | e3
      · exact key _ e3 (.inl rfl)
      · exact key _ e3 (.inr (.inl rfl))
      · exact key _ e3 (.inr (.inr rfl))
    obtain ⟨m, hn, hl⟩ := I.loc
    have hvis : Vis X.env.scope y := (ok.free _ (PySem.mem_of_lookup hfr.1) rfl).elim (fun k => .inr (.inl k)) (fun k => .inr (.inr k))
    obtain ⟨w, r, q⟩ := hl i y av e1 e2 hvis
    refine ⟨w, r, .inr ⟨hfr.2, ?_⟩⟩
    obtain ⟨c, h1, h2⟩ := look hfr.1
    rcases q with ⟨k, _⟩ | ⟨_, c', e', z⟩
    · have k : X.env.scope.names.lookup y = some .local := k
      rcases ok.free _ (PySem.mem_of_lookup hfr.1) rfl with k' | k' <;> rw [show X.env.scope.names.lookup y = _ from k'] at k <;> cases k
    · rw [h2] at e'; cases e'
      exact ⟨c, h1, z.keeps kp⟩
  · have e : cenv.cells.lookup y = some c := e
    rcases mem e with ⟨h1, _⟩ | ⟨_, z⟩
    · obtain ⟨w, z⟩ := I.cell y c h1
      exact ⟨w, z.keeps kp⟩
    · exact ⟨_, z⟩
  · show H cenv.locals = none
    rw [hL]; exact I.hok.fresh (Nat.le_refl _)
  · have e : cenv.cells.lookup y = some c := e
    rcases mem e with ⟨h1, _⟩ | ⟨h1, _⟩
    · exact I.freeC y c h1
    · exact I.hok.fresh (Nat.le_of_succ_le h1)
  · exact absurd (show p ∈ ([] : List (Addr × Obj)) ++ [] from hp) (by simp)

theorem app_ok {E : Value → Shared → Prop} {D : Addr} {xs : List V} {y : V} {v : Value} {Q : Value → Shared → Prop} (I : Inv X pins σ H s) (hD : H D = some (.lst xs)) (hz : xs.length < sizeLine) (r : RelV y v)
    (h : ∀ s', Inv X pins σ (upd H D (.lst (xs ++ [y]))) s' → Q .none s') : wpAny (model X.prog X.w) X.A (call (.builtin "list.append") [.ref D, v]) Q E s := by
  obtain ⟨hz', its, n, ri, e⟩ := I.hok D _ hD
  have hl := ri.length
  refine append_at (hsz := by rw [List.size_toArray]; omega) e fun h' sb ho' => ?_
  refine h { s with heap := h' } (I.write (t' := s.toks) (by rw [hD]; trivial) (.inl rfl) (fun b u hb q => (sb.2 b hb).trans q) ⟨_, ho'⟩ ⟨by rw [List.length_append]; exact hz, its ++ [v], n + 1, ri.append (.cons r .nil), ?_⟩)
  rw [ho']
  simp

def PTs (X : Cx) (ifs : List Expr) (t : TT) : Prop :=
  ∀ (pins : List (Addr × Obj)) (s : Shared) (σ : St) (H : Hp) (Q : Bool → Hp → Prop), Inv X pins σ H s → t σ H Q →
    wpAny (model X.prog X.w) X.A (forIn ifs true fun c r => if r = true then do let ok ← isTrue c X.env (eval c X.env); pure (ForInStep.yield ok) else pure (ForInStep.yield r)) (TP X pins σ Q) X.xe s
def tYes : TT := fun _ H Q => Q true H
theorem pts_nil : PTs X [] tYes := fun _ _ _ H _ I h => wpAny_tests_nil ⟨H, I, h⟩
theorem pts_one {c : Expr} {t : TT} (h : PT X c t) : PTs X [c] t := fun pins s σ H Q I hw => wpAny_tests_one (h pins s σ H Q I hw)
end

theorem thnF {α : Type} {t : Sem α} {Q Q' : α → Shared → Prop} {M : Model} {A : Around} {E : Value → Shared → Prop} {s : Shared} (h : wpAny M A t Q (fun _ _ => False) s) (hQ : ∀ a s, Q a s → Q' a s) : wpAny M A t Q' E s := wpAny_mono h hQ fun _ _ z => False.elim z

theorem compLoop_any {prog : Program} {w : World} {A : Around} {R : Result → Shared → Prop} {s : Shared} {elt target iter : Expr} {ifs : List Expr} {scope : Scope} {pos : Pos} {it acc : Value} {env : Env} (I : Nat → Shared → Prop)
    (turn : ∀ n s, I n s → wpAny (model prog w) A (pyNext it) (fun r s₁ => match r with
      | none => R (.ok .next) s₁
      | some v => wpAny (model prog w) A (letOwnedTupleGo target it v) (fun _ s₁' => wpAny (model prog w) A (assign target env v) (fun _ s₂ =>
          wpAny (model prog w) A (forIn ifs true fun c r => if r = true then do let ok ← isTrue c env (eval c env); pure (ForInStep.yield ok) else pure (ForInStep.yield r)) (fun ok s₃ =>
            if ok = true then wpAny (model prog w) A (eval elt env) (fun x s₄ =>
              wpAny (model prog w) A (call (.builtin "list.append") [acc, x]) (fun _ s₅ => ∃ m, m < n ∧ I m s₅) (notedBy (model prog w) A env fun e s' => R (.error e) s') s₄) (notedBy (model prog w) A env fun e s' => R (.error e) s') s₃
            else ∃ m, m < n ∧ I m s₃) (notedBy (model prog w) A env fun e s' => R (.error e) s') s₂) (notedBy (model prog w) A env fun e s' => R (.error e) s') s₁') (notedBy (model prog w) A env fun e s' => R (.error e) s') s₁) (notedBy (model prog w) A env fun e s' => R (.error e) s') s)
    (n : Nat) (h : I n s) :
    codeAny (model prog w) A (.compLoop (.ListComp elt [⟨target, iter, ifs, 0⟩] scope pos) 0 it acc env) R s := by
  refine codeAny_loop rfl I (fun n s hI => ?_) n h
  show wpAny _ A ((compTurn (.ListComp elt [⟨target, iter, ifs, 0⟩] scope pos) 0 it acc env).onRaise (fun x => do noteFrame x env; theTreesLotGoes x)) _ _ s
  refine wpAny_noted ?_
  rw [compTurn_list]
  refine wpAny_bind (wpAny_standAt (wpAny_bind (wpAny_mono (turn n s hI) (fun r s₁ h₁ => ?_) fun _ _ h' => h')))
  cases r with
  | none => exact wpAny_pure h₁
  | some v =>
    refine wpAny_bind (wpAny_mono h₁ (fun _ s₁' h₁' => ?_) fun _ _ h' => h')
    refine wpAny_bind (wpAny_mono h₁' (fun _ s₂ h₂ => wpAny_bind (wpAny_mono h₂ (fun ok s₃ h₃ => ?_) fun _ _ h' => h')) fun _ _ h' => h')
    cases ok with
    | false => exact wpAny_pure ⟨rfl, h₃⟩
    | true =>
      exact wpAny_bind (wpAny_bind (wpAny_mono h₃ (fun x s₄ h₄ => wpAny_bind (wpAny_mono h₄ (fun _ s₅ h₅ => wpAny_pure (wpAny_pure ⟨rfl, h₅⟩)) fun _ _ h' => h')) fun _ _ h' => h'))

section
variable {X : Cx}
def tLc (wi : TI) (g : TG) (tt : TT) (te : TE) (vs : List Nat) : TE := fun σ H Q => wi σ H fun J H1 => ∀ D, H1 D = none → ∃ W : Nat → Nat → Hp → Prop, (∃ m, W 0 m (upd H1 D (.lst []))) ∧ ∀ i m H, W i m H →
  (J.stop i H ∧ Q (.ref D) H) ∨ (J.go i H ∧ ∃ Nx : Hp → Prop, (∀ H', Nx H' → ∃ m', m' < m ∧ W (i + 1) m' H') ∧ ∀ x H', J.yld i H x H' → g x (wipe σ vs) H' fun σ2 H2 => wipe σ2 vs = wipe σ vs ∧ tt σ2 H2 fun b H3 =>
    if b = true then te σ2 H3 fun y H4 => ∃ acc, H4 D = some (.lst acc) ∧ acc.length < sizeLine ∧ Nx (upd H4 D (.lst (acc ++ [y]))) else Nx H3)
theorem lc_core {pins : List (Addr × Obj)} {s : Shared} {σ : St} {H : Hp} {Q : VK} {elt tg iter : Expr} {ifs : List Expr} {scope : Scope} {own : List (Str × Nat)} {pos pos' : Pos} {wi : TI} {g : TG} {tt : TT} {te : TE} {use : Option (Value → Sem Unit)} {Qf : Value → Shared → Prop}
    (hc : X.calm = true) (hN : X.N.Nodup) (I : Inv X pins σ H s) (hi : PI X tg iter wi) (ok : BlkOk X.N X.env.scope scope own)
    (hg : ∀ (s : Shared) (H : Hp) (C : Addr) (cl : List (Str × Addr)) (fp : List Addr), PG (X.blk s H scope (compEnvC scope cl C X.env) fp) tg g) (ht : ∀ (s : Shared) (H : Hp) (C : Addr) (cl : List (Str × Addr)) (fp : List Addr), PTs (X.blk s H scope (compEnvC scope cl C X.env) fp) ifs tt)
    (he : ∀ (s : Shared) (H : Hp) (C : Addr) (cl : List (Str × Addr)) (fp : List Addr), PE (X.blk s H scope (compEnvC scope cl C X.env) fp) elt te) (hs : ∀ x, foldedSetIterable iter X.env x = pure x)
    (h : tLc wi g tt te (own.map (·.2)) σ H Q)
    (hRR : ∀ D C s' m H', Inv X pins σ H' s' → Q (.ref D) H' → s'.heap.Ns C m → FpOk X pins H' C → compPost (model X.prog X.w) X.A X.xe use Qf (.ref D) C (.ok .next) s') :
    wpAny (model X.prog X.w) X.A (comprehension (.ListComp elt [⟨tg, iter, ifs, 0⟩] scope pos) scope X.env pos' (newList []) false (eval iter X.env) use) Qf X.xe s := by
  have hfree : ∀ y ∈ scope.names, y.2 = .free → ∃ c, X.env.cells.lookup y.1 = some c := fun y hy e => by
    rcases ok.free y hy e with k | k
    · exact I.ok.has _ (.inl k)
    · exact I.ok.has _ (.inr k)
  refine wpAny_comprehension_free (use := use) rfl hs (closure_ok hfree) ok.kind (fun y hy e => by rw [ok.uniq y hy, e])
    (thn (hi pins s σ H _ I h) fun xv s1 hx => thn hx fun itv s2 h2 => ?_)
  obtain ⟨it, fp, tn, J, H2, e, I2, T, st2, f2, q⟩ := h2
  subst e
  refine wpAny_newObj_type (newEnv_comp ?_) (by show 0 ≤ sizeLine; decide)
  generalize hD : s2.heap.objs.size = D
  have hDn : H2 D = none := I2.hok.fresh (Nat.le_of_eq hD)
  obtain ⟨W, ⟨m0, w0⟩, turn⟩ := q D hDn
  -- the new list
  generalize hs3 : ({ s2 with heap := s2.heap.push { cls := .type "list", data := .seq ([] : List Value).toArray } } : Shared) = s3
  have I3 : Inv X pins σ (upd H2 D (.lst [])) s3 := by
    rw [← hs3]
    refine I2.laid (t' := s2.toks) (fun b o e => Heap.get?_push_of_some _ e) (Nat.le_of_eq hD) ⟨Nat.zero_le _, [], 0, .nil, ?_⟩
    rw [← hD]
    exact Heap.get?_push_size _ rfl
  have h3 : s3.heap = s2.heap.push { cls := .type "list", data := .seq ([] : List Value).toArray } := by rw [← hs3]
  have sz : ∀ b ∈ fp, b < s2.heap.objs.size := fun b hb => by
    obtain ⟨o, e, _⟩ := T.obj _ _ st2 b hb
    exact Heap.lt_size e
  have f3 : ∀ b ∈ fp, FpOk X pins (upd H2 D (.lst [])) b ∧ b < s3.heap.objs.size := fun b hb => by
    have hlt := sz b hb
    refine ⟨⟨?_, (f2 b hb).2⟩, by rw [h3, Heap.size_push]; exact Nat.lt_succ_of_lt hlt⟩
    rw [upd_ne (by rw [← hD]; exact Nat.ne_of_lt hlt)]
    exact (f2 b hb).1
  have st3 : tn 0 s3.heap := T.keep _ _ _ st2 fun b _ o e => by rw [h3]; exact Heap.get?_push_of_some _ e
  have I4 := block_start I3 ok hN f3
  have pg := hg s3 (upd H2 D (.lst [])) s3.heap.objs.size (cellsFrom (s3.heap.objs.size + 1) scope.names (cloFrom X.env.cells scope.names [])) fp
  have pt := ht s3 (upd H2 D (.lst [])) s3.heap.objs.size (cellsFrom (s3.heap.objs.size + 1) scope.names (cloFrom X.env.cells scope.names [])) fp
  have pe := he s3 (upd H2 D (.lst [])) s3.heap.objs.size (cellsFrom (s3.heap.objs.size + 1) scope.names (cloFrom X.env.cells scope.names [])) fp
  show codeAny _ _ (.compStart (.ListComp elt [⟨tg, iter, ifs, 0⟩] scope pos) 0 (.ref it) (.ref D) (compEnvC scope (cellsFrom (s3.heap.objs.size + 1) scope.names (cloFrom X.env.cells scope.names [])) s3.heap.objs.size X.env)) (compPost (model X.prog X.w) X.A X.xe use Qf (.ref D) s3.heap.objs.size) { s3 with heap := pushCells (s3.heap.push { cls := .type "dict", data := .dict #[] }) scope.names }
  have nfp : ∀ b ∈ fp, (upd H2 D (.lst [])) b = none := fun b hb => (f3 b hb).1.1
  generalize hce : compEnvC scope (cellsFrom (s3.heap.objs.size + 1) scope.names (cloFrom X.env.cells scope.names [])) s3.heap.objs.size X.env = ce at I4 pg pt pe ⊢
  have cL : ce.locals = s3.heap.objs.size := by subst hce; rfl
  generalize hH3 : upd H2 D (.lst []) = H3 at I3 I4 pg pt pe w0 nfp f3
  generalize hs4 : ({ s3 with heap := pushCells (s3.heap.push { cls := .type "dict", data := .dict #[] }) scope.names } : Shared) = s4 at I4 ⊢
  have st4 : tn 0 s4.heap := T.keep _ _ _ st3 fun b _ o e => by rw [← hs4]; exact pushCells_keeps _ _ _ _ (Heap.get?_push_of_some _ e)
  have stat : ∀ {σ' : St} {H' : Hp} {s' : Shared}, Inv (X.blk s3 H3 scope ce fp) [] σ' H' s' → (∀ b ∈ fp, H' b = none) → ∀ b ∈ fp, FpOk (X.blk s3 H3 scope ce fp) [] H' b := fun {σ' H' s'} I' hn b hb =>
    ⟨hn b hb, (I'.ok.exf b hb).1, I'.ok.exfs b hb, .inl hb, fun x c e => (I'.ok.exf b hb).2 x c e, fun p hp => absurd (show p ∈ ([] : List (Addr × Obj)) ++ [] from hp) (by simp)⟩
  have loop : codeAny (model X.prog X.w) X.A (.compLoop (.ListComp elt [⟨tg, iter, ifs, 0⟩] scope pos) 0 (.ref it) (.ref D) ce) (compPost (model X.prog X.w) X.A X.xe use Qf (.ref D) s3.heap.objs.size) s4 := by
    refine compLoop_any (fun n s' => ∃ i H', Inv (X.blk s3 H3 scope ce fp) [] (wipe σ (own.map (·.2))) H' s' ∧ tn i s'.heap ∧ (∀ b ∈ fp, H' b = none) ∧ W i n H') ?_ m0 ⟨0, H3, I4, st4, nfp, w0⟩
    rintro n s5 ⟨i, H5, I5, st5, n5, w5⟩
    rcases turn i n H5 w5 with ⟨stop, qq⟩ | ⟨go, Nx, hNx, step⟩
    · have td := T.done (X.blk s3 H3 scope ce fp) rfl rfl rfl hc i [] s5 _ H5 (fun _ _ => False) I5 (stat I5 n5) st5 stop
      refine thnF td fun r s6 ⟨hr, I6⟩ => ?_
      subst hr
      -- back in the def's context
      have I7 : Inv X pins σ H5 s6 := I3.call' (ch := fp) I6.os I6.base I6.hok I6.bare fun b hb => ⟨(f3 b hb).1.2.2.2.1, (f3 b hb).1.2.1, (f3 b hb).1.2.2.2.2.1, (f3 b hb).1.2.2.2.2.2⟩
      have nC : H5 s3.heap.objs.size = none := by
        have z : H5 ce.locals = none := I6.free
        rw [cL] at z
        exact z
      obtain ⟨m, hn, _⟩ := I6.loc
      have hn : s6.heap.Ns ce.locals m := hn
      rw [cL] at hn
      exact hRR D s3.heap.objs.size s6 m H5 I7 qq hn (I3.fpOk (Nat.le_refl _) nC)
    · have ti := T.item (X.blk s3 H3 scope ce fp) rfl rfl rfl hc i [] s5 _ H5 (fun _ _ => False) I5 (stat I5 n5) st5 go
      refine thnF ti fun r s6 ⟨u, hr, h6⟩ => ?_
      subst hr
      refine thnF h6 fun _ s7 ⟨x, H7, I7, r7, y7, st7, n7⟩ => ?_
      have I7' := I7.pinned (stat I7 n7) (T.obj _ _ st7)
      refine thnF (pg _ s7 _ H7 x u _ I7' r7 (step x H7 y7)) fun _ s8 ⟨σ8, H8, I8, hw8, q8⟩ => ?_
      refine thnF (pt _ s8 σ8 H8 _ I8 q8) fun b s9 ⟨H9, I9, q9⟩ => ?_
      -- the turn's end
      have fin : ∀ {s' : Shared} {H' : Hp}, Inv (X.blk s3 H3 scope ce fp) ([] ++ pinsAt fp s7.heap) σ8 H' s' → Nx H' → ∃ m, m < n ∧ ∃ i H', Inv (X.blk s3 H3 scope ce fp) [] (wipe σ (own.map (·.2))) H' s' ∧ tn i s'.heap ∧ (∀ b ∈ fp, H' b = none) ∧ W i m H' := fun {s' H'} I' nx => by
        obtain ⟨m', hm, w'⟩ := hNx H' nx
        have pin' : ∀ b ∈ fp, ∀ o, s7.heap.get? b = some o → s'.heap.get? b = some o ∧ H' b = none := fun b hb o e =>
          let z := I'.pin (b, o) (List.mem_append_right _ (List.mem_append_right _ (mem_pinsAt hb e)))
          ⟨z.1, z.2.1⟩
        have hl : (wipe σ (own.map (·.2))).length = σ8.length := by rw [← hw8, wipe_length]
        refine ⟨m', hm, i + 1, H', (I'.unpinned (pins := [])).weak hl (fun j v e => ?_), T.keep _ _ _ st7 fun b hb o e => (pin' b hb o e).1, fun b hb => ?_, w'⟩
        · rw [← hw8] at e
          exact (wipe_some e).1
        · obtain ⟨o, e, _⟩ := T.obj _ _ st7 b hb
          exact (pin' b hb o e).2
      cases b with
      | false =>
        simp only [Bool.false_eq_true, if_false] at q9 ⊢
        exact fin I9 q9
      | true =>
        simp only [if_true] at q9 ⊢
        refine thnF (pe _ s9 σ8 H9 _ I9 q9) fun z s10 ⟨yv, H10, I10, r10, acc, hD10, hz10, nx⟩ => ?_
        exact app_ok (X := X.blk s3 H3 scope ce fp) I10 hD10 hz10 r10 fun s11 I11 => fin I11 nx
  exact codeAny_compStart_list loop (T.self X.A 0 _ _ _ st4 loop)
theorem pe_lc {elt tg iter : Expr} {ifs : List Expr} {scope : Scope} {own : List (Str × Nat)} {pos : Pos} {wi : TI} {g : TG} {tt : TT} {te : TE} (hc : X.calm = true) (hN : X.N.Nodup) (hi : PI X tg iter wi) (ok : BlkOk X.N X.env.scope scope own)
    (hg : ∀ (s : Shared) (H : Hp) (C : Addr) (cl : List (Str × Addr)) (fp : List Addr), PG (X.blk s H scope (compEnvC scope cl C X.env) fp) tg g) (ht : ∀ (s : Shared) (H : Hp) (C : Addr) (cl : List (Str × Addr)) (fp : List Addr), PTs (X.blk s H scope (compEnvC scope cl C X.env) fp) ifs tt)
    (he : ∀ (s : Shared) (H : Hp) (C : Addr) (cl : List (Str × Addr)) (fp : List Addr), PE (X.blk s H scope (compEnvC scope cl C X.env) fp) elt te) (hs : ∀ x, foldedSetIterable iter X.env x = pure x := by intro _; rfl) :
    PE X (.ListComp elt [⟨tg, iter, ifs, 0⟩] scope pos) (tLc wi g tt te (own.map (·.2))) := by
  intro pins s σ H Q I h
  rw [eval_ListComp]
  refine lc_core hc hN I hi ok hg ht he hs h fun D C s' m H' I' q hn f => ⟨m, hn, fun h'' sb => ?_⟩
  obtain ⟨f0, f1, f2, f3, f4, f5⟩ := f
  exact ⟨.ref D, H', I'.turned (t' := s'.toks) (fun b o hb e => (sb.2 b hb).trans e) f0 f1 f3 f4 f5, rfl, q⟩
theorem ps_setLc {i : Nat} {y : Str} {py : Pos} {elt tg iter : Expr} {ifs : List Expr} {scope : Scope} {own : List (Str × Nat)} {pos spos : Pos} {wi : TI} {g : TG} {tt : TT} {te : TE} (hc : X.calm = true) (hN : X.N.Nodup) (hy : X.N[i]? = some y) (hyl : X.env.scope.names.lookup y = some .local)
    (hsw : swapsWith (.ListComp elt [⟨tg, iter, ifs, 0⟩] scope pos) (some (.Name y py)) spos.line X.env = pure true) (hi : PI X tg iter wi) (ok : BlkOk X.N X.env.scope scope own)
    (hg : ∀ (s : Shared) (H : Hp) (C : Addr) (cl : List (Str × Addr)) (fp : List Addr), PG (X.blk s H scope (compEnvC scope cl C X.env) fp) tg g) (ht : ∀ (s : Shared) (H : Hp) (C : Addr) (cl : List (Str × Addr)) (fp : List Addr), PTs (X.blk s H scope (compEnvC scope cl C X.env) fp) ifs tt)
    (he : ∀ (s : Shared) (H : Hp) (C : Addr) (cl : List (Str × Addr)) (fp : List Addr), PE (X.blk s H scope (compEnvC scope cl C X.env) fp) elt te) (hs : ∀ x, foldedSetIterable iter X.env x = pure x := by intro _; rfl) :
    PS X (.Assign [.Name y py] (.ListComp elt [⟨tg, iter, ifs, 0⟩] scope pos) spos) (tAsg (tLc wi g tt te (own.map (·.2))) (gName i)) := by
  intro pins s σ H D I h
  rw [exec_Assign_Name_used _ _ _ _ hsw]
  refine wpAny_bind (wpAny_standAt (wpAny_bind ?_))
  show wpAny _ X.A (do let _ ← comprehension (.ListComp elt [⟨tg, iter, ifs, 0⟩] scope pos) scope X.env (firstIterPos [⟨tg, iter, ifs, 0⟩] pos) (newList []) false (eval iter X.env) (some (assign (.Name y py) X.env))) _ _ s
  have h : tLc wi g tt te (own.map (·.2)) σ H (fun x H1 => gName i x σ H1 D.nx) := h
  refine wpAny_bind (thn (lc_core (Qf := fun _ s' => SP X pins D .next s') hc hN I hi ok hg ht he hs h fun L C s' m H' I' q hn f => ?_) fun _ s' hq => wpAny_pure (wpAny_pure hq))
  show wpAny _ _ (assign (.Name y py) X.env (.ref L)) _ _ _
  refine wpAny_assign_Name (store_ok2 (v := V.ref L) I' hN hy (.inl hyl) rfl (fun s2 I2 ⟨a, sb, ha⟩ => ?_) (.inr hyl))
  obtain ⟨f0, f1, f2, f3, f4, f5⟩ := f
  have haC : C ≠ a := by
    rcases ha with z | z
    · rw [z]; exact f1
    · exact fun e => f4 y a z e.symm
  refine ⟨m, hn.sameBut sb haC, fun h3 sb3 => ?_⟩
  exact ⟨_, H', I2.turned (t' := s2.toks) (fun b o hb e => (sb3.2 b hb).trans e) f0 f1 f3 f4 f5, q⟩
theorem sw_true {elt : Expr} {gs : List Comprehension} {scope : Scope} {pos py : Pos} {y : Str} {l : Nat} {env : Env} (hk : env.scope.kind = .function) (hy : env.scope.names.lookup y = some .local) (hl : (py.line == pos.line) = true)
    (ha : (scope.names.any fun (n, k) => n == y && (k == .local || k == .cell)) = false) : swapsWith (.ListComp elt gs scope pos) (some (.Name y py)) l env = pure true := by
  have ky : env.kindOf y = some .local := hy
  have hb : env.blockKind = .function := by unfold Env.blockKind; rw [hk]; rfl
  unfold swapsWith
  simp only [hb, ky, ha, Expr.pos, hl]
  rfl
end

theorem lc_list {K : PySem.W.Frag} {a : Addr} {xs : List V} {g : TG} {tt : TT} {te : TE} {vs : List Nat} {σ : St} {H1 : Hp} {D : Addr} {Qd : Hp → Prop} (Pv : Nat → Hp → Prop) (h0 : Pv 0 (upd H1 D (.lst []))) (hl : ∀ i H, i ≤ xs.length → Pv i H → SqL K H a xs)
    (hs : ∀ i x H, xs[i]? = some x → Pv i H → g x (wipe σ vs) H fun σ2 H2 => wipe σ2 vs = wipe σ vs ∧ tt σ2 H2 fun b H3 =>
      if b = true then te σ2 H3 fun y H4 => ∃ acc, H4 D = some (.lst acc) ∧ acc.length < sizeLine ∧ Pv (i + 1) (upd H4 D (.lst (acc ++ [y]))) else Pv (i + 1) H3) (hd : ∀ H, Pv xs.length H → Qd H) :
    ∃ W : Nat → Nat → Hp → Prop, (∃ m, W 0 m (upd H1 D (.lst []))) ∧ ∀ i m H, W i m H →
      ((Itl K a).stop i H ∧ Qd H) ∨ ((Itl K a).go i H ∧ ∃ Nx : Hp → Prop, (∀ H', Nx H' → ∃ m', m' < m ∧ W (i + 1) m' H') ∧ ∀ x H', (Itl K a).yld i H x H' → g x (wipe σ vs) H' fun σ2 H2 => wipe σ2 vs = wipe σ vs ∧ tt σ2 H2 fun b H3 =>
        if b = true then te σ2 H3 fun y H4 => ∃ acc, H4 D = some (.lst acc) ∧ acc.length < sizeLine ∧ Nx (upd H4 D (.lst (acc ++ [y]))) else Nx H3) := by
  refine ⟨fun i m H => m = xs.length - i ∧ i ≤ xs.length ∧ Pv i H, ⟨xs.length, by simp, Nat.zero_le _, h0⟩, ?_⟩
  rintro i m H ⟨rfl, hi, p⟩
  have q := hl i H hi p
  by_cases hlt : i < xs.length
  · refine .inr ⟨⟨xs, xs[i], q, by simp [hlt]⟩, Pv (i + 1), fun H' p' => ⟨xs.length - (i + 1), by omega, rfl, hlt, p'⟩, fun x H' y => ?_⟩
    obtain ⟨e, y⟩ := y
    subst e
    exact hs i x _ (y xs q) p
  · have e : i = xs.length := by omega
    subst e
    exact .inl ⟨⟨xs, q, Nat.le_refl _⟩, hd H p⟩
def blkC (N : List Str) (sc scope : Scope) (own : List (Str × Nat)) : Bool :=
  (match scope.kind with | .function => true | _ => false) && (scope.names.all fun y => decide (scope.names.lookup y.1 = some y.2)) && (own.all fun p => decide (N[p.2]? = some p.1)) &&
    (scope.names.all fun y => match y.2 with
      | .free => (match sc.names.lookup y.1 with | some .cell => true | some .free => true | _ => false)
      | .local => decide (y.1 ∈ own.map (·.1)) || decide (y.1 ∉ N)
      | .cell => decide (y.1 ∈ own.map (·.1)) || decide (y.1 ∉ N)
      | _ => true)
theorem blkOk_by {N : List Str} {sc scope : Scope} {own : List (Str × Nat)} (h : blkC N sc scope own = true) : BlkOk N sc scope own := by
  unfold blkC at h
  simp only [Bool.and_eq_true, List.all_eq_true, decide_eq_true_eq] at h
  obtain ⟨⟨⟨h1, h2⟩, h3⟩, h4⟩ := h
  refine ⟨?_, h2, h3, fun y hy e => ?_, fun y hy e => ?_⟩
  · split at h1
    · assumption
    · cases h1
  · have q := h4 y hy
    simp only [e] at q
    split at q <;> first | exact .inl (by assumption) | exact .inr (by assumption) | cases q
  · have q := h4 y hy
    rcases e with e | e <;> (simp only [e, Bool.or_eq_true, decide_eq_true_eq] at q; exact q)
end L2

namespace L2
open PySem PySem.Spec PyProof.Rows

section
variable {prog : Program} {w : World} {A : Around} {R : Result → Shared → Prop} {s : Shared} {elt t0 i0 t1 i1 : Expr} {ifs0 ifs1 : List Expr} {scope : Scope} {pos : Pos} {it acc : Value} {env : Env}
end

section
variable {X : Cx}
end
end L2

namespace L2
open PySem PySem.Spec PyProof.Rows

section
variable {κ : Type} [DecidableEq κ]
def valV (kvs : List (κ × V)) (k : κ) : Option V := (kvs.find? fun kv => decide (kv.1 = k)).map (·.2)
def putK (kvs : List (κ × V)) (k : κ) (v : V) : List (κ × V) :=
  if (kvs.any fun kv => decide (kv.1 = k)) = true then kvs.map (fun kv => if kv.1 = k then (kv.1, v) else kv) else kvs ++ [(k, v)]
def dropK (kvs : List (κ × V)) (k : κ) : List (κ × V) := kvs.filter fun kv => decide (kv.1 ≠ k)

theorem valV_pos {p : κ × V} {r : List (κ × V)} {k : κ} (e : p.1 = k) : valV (p :: r) k = some p.2 := by simp [valV, List.find?_cons, e]
theorem valV_neg {p : κ × V} {r : List (κ × V)} {k : κ} (e : ¬ p.1 = k) : valV (p :: r) k = valV r k := by simp [valV, List.find?_cons, e]
theorem valV_any (k : κ) : ∀ kvs : List (κ × V), (kvs.any fun kv => decide (kv.1 = k)) = (valV kvs k).isSome
  | [] => rfl
  | p :: r => by
    rw [List.any_cons]
    by_cases e : p.1 = k
    · simp only [valV_pos e, decide_eq_true e, Bool.true_or, Option.isSome_some]
    · rw [valV_neg e, decide_eq_false e, Bool.false_or]; exact valV_any k r
theorem valV_map (k j : κ) (y : V) : ∀ kvs : List (κ × V), valV (kvs.map fun kv => if kv.1 = k then (kv.1, y) else kv) j = (valV kvs j).map fun x => if j = k then y else x
  | [] => rfl
  | p :: r => by
    have ih := valV_map k j y r
    rw [List.map_cons]
    by_cases h : p.1 = k
    · rw [if_pos h]
      by_cases e : p.1 = j
      · rw [valV_pos (p := (p.1, y)) e, valV_pos e, Option.map_some, if_pos (e.symm.trans h)]
      · rw [valV_neg (p := (p.1, y)) e, valV_neg e, ih]
    · rw [if_neg h]
      by_cases e : p.1 = j
      · rw [valV_pos (p := p) e, valV_pos e, Option.map_some, if_neg (fun z => h (e.trans z))]
      · rw [valV_neg (p := p) e, valV_neg e, ih]
theorem valV_snoc (k j : κ) (y : V) : ∀ kvs : List (κ × V), valV kvs k = none → valV (kvs ++ [(k, y)]) j = if j = k then some y else valV kvs j
  | [], _ => by
    by_cases e : k = j
    · rw [if_pos e.symm]; exact valV_pos (p := (k, y)) e
    · rw [if_neg (fun z => e z.symm)]; exact valV_neg (p := (k, y)) e
  | p :: r, hn => by
    rw [List.cons_append]
    have hk : ¬ p.1 = k := fun z => by rw [valV_pos z] at hn; cases hn
    rw [valV_neg hk] at hn
    have ih := valV_snoc k j y r hn
    by_cases e : p.1 = j
    · rw [valV_pos e, valV_pos e, if_neg (fun z => hk (e.trans z))]
    · rw [valV_neg e, valV_neg e, ih]
theorem valV_put (kvs : List (κ × V)) (k j : κ) (y : V) : valV (putK kvs k y) j = if j = k then some y else valV kvs j := by
  unfold putK
  by_cases a : (kvs.any fun kv => decide (kv.1 = k)) = true
  · rw [if_pos a, valV_map]
    rw [valV_any] at a
    by_cases e : j = k
    · obtain ⟨x, hx⟩ := Option.isSome_iff_exists.mp a
      rw [if_pos e, e, hx, Option.map_some, if_pos rfl]
    · rw [if_neg e]
      cases valV kvs j with
      | none => rfl
      | some x => rw [Option.map_some, if_neg e]
  · rw [if_neg a]
    refine valV_snoc k j y kvs ?_
    rw [valV_any] at a
    cases q : valV kvs k with
    | none => rfl
    | some x => rw [q] at a; exact (a rfl).elim
theorem length_putK (kvs : List (κ × V)) (k : κ) (v : V) : (putK kvs k v).length ≤ kvs.length + 1 := by
  unfold putK
  split
  · rw [List.length_map]; omega
  · rw [List.length_append, List.length_cons, List.length_nil]; omega
theorem putK_new {kvs : List (κ × V)} {k : κ} (v : V) (h : valV kvs k = none) : putK kvs k v = kvs ++ [(k, v)] := by
  unfold putK
  rw [valV_any, h]
  exact if_neg (by decide)

theorem RelO.isSome_eq {o : Option V} {u : Option Value} (r : RelO o u) : o.isSome = u.isSome := by
  cases o with
  | none => cases u with
    | none => rfl
    | some _ => exact (show False from r).elim
  | some _ => cases u with
    | none => exact (show False from r).elim
    | some _ => rfl
theorem RelO.getD {o : Option V} {u : Option Value} {d : V} {d' : Value} (r : RelO o u) (rd : RelV d d') : RelV (o.getD d) (u.getD d') := by
  cases o with
  | none => cases u with
    | none => exact rd
    | some _ => exact (show False from r).elim
  | some _ => cases u with
    | none => exact (show False from r).elim
    | some _ => exact r

theorem KV.val {kvs : List (κ × V)} {vs : List (κ × Value)} (r : KV kvs vs) (k : κ) : RelO (valV kvs k) (valueAt vs k) := by
  unfold KV at r
  induction r with
  | nil => exact True.intro
  | @cons p q ps qs h t ih =>
    obtain ⟨h1, h2⟩ := h
    by_cases e : p.1 = k
    · have e' : q.1 = k := h1.symm.trans e
      have b : valueAt (q :: qs) k = some q.2 := by simp [valueAt, List.find?_cons, e']
      rw [valV_pos e, b]; exact h2
    · have e' : ¬ q.1 = k := fun z => e (h1.trans z)
      have b : valueAt (q :: qs) k = valueAt qs k := by simp [valueAt, List.find?_cons, e']
      rw [valV_neg e, b]; exact ih
theorem KV.any {kvs : List (κ × V)} {vs : List (κ × Value)} (r : KV kvs vs) (k : κ) : (kvs.any fun kv => decide (kv.1 = k)) = vs.any fun kv => decide (kv.1 = k) := by
  unfold KV at r
  induction r with
  | nil => rfl
  | cons h t ih => rw [List.any_cons, List.any_cons, ih, h.1]
theorem KV.repl {kvs : List (κ × V)} {vs : List (κ × Value)} (r : KV kvs vs) (k : κ) {y : V} {u : Value} (ry : RelV y u) :
    KV (kvs.map fun kv => if kv.1 = k then (kv.1, y) else kv) (vs.map fun kv => if kv.1 = k then (kv.1, u) else kv) := by
  unfold KV at r ⊢
  induction r with
  | nil => exact .nil
  | @cons p q ps qs h t ih =>
    rw [List.map_cons, List.map_cons]
    refine .cons ?_ ih
    obtain ⟨h1, h2⟩ := h
    by_cases e : p.1 = k
    · rw [if_pos e, if_pos (h1.symm.trans e)]; exact ⟨h1, ry⟩
    · rw [if_neg e, if_neg (fun z => e (h1.trans z))]; exact ⟨h1, h2⟩
theorem KV.put {kvs : List (κ × V)} {vs : List (κ × Value)} (r : KV kvs vs) (k : κ) {y : V} {u : Value} (ry : RelV y u) : KV (putK kvs k y) (stored vs k u) := by
  unfold putK stored
  rw [r.any k]
  by_cases e : (vs.any fun kv => decide (kv.1 = k)) = true
  · rw [if_pos e, if_pos e]; exact r.repl k ry
  · rw [if_neg e, if_neg e]; exact Paired.snoc r ⟨rfl, ry⟩
theorem KV.drop {kvs : List (κ × V)} {vs : List (κ × Value)} (r : KV kvs vs) (k : κ) : KV (dropK kvs k) (without vs k) := by
  unfold KV at r ⊢
  unfold dropK without
  induction r with
  | nil => exact .nil
  | @cons p q ps qs h t ih =>
    obtain ⟨h1, h2⟩ := h
    rw [List.filter_cons, List.filter_cons]
    by_cases e : p.1 = k
    · have a : ¬ decide (p.1 ≠ k) = true := by simp [e]
      have b : ¬ decide (q.1 ≠ k) = true := by simp [h1.symm.trans e]
      rw [if_neg a, if_neg b]; exact ih
    · have e' : ¬ q.1 = k := fun z => e (h1.trans z)
      have a : decide (p.1 ≠ k) = true := by simp [e]
      have b : decide (q.1 ≠ k) = true := by simp [e']
      rw [if_pos a, if_pos b]; exact .cons ⟨h1, h2⟩ ih
theorem KV.length {kvs : List (κ × V)} {vs : List (κ × Value)} (r : KV kvs vs) : kvs.length = vs.length := Paired.length r
theorem dropK_le (kvs : List (κ × V)) (k : κ) : (dropK kvs k).length ≤ kvs.length := List.length_filter_le _ _
end


theorem kV_is {P : Program} {w : World} {k : Key} {u : Value} (r : RelV (kV k) u) : (mixKind P w).is k u = true := by
  cases k with
  | inl i => obtain ⟨t, e⟩ := (show ∃ t, u = Value.int i t from r); subst e; exact mixKind_int P w i t
  | inr x => obtain ⟨t, e⟩ := (show ∃ t, u = Value.str x t from r); subst e; exact mixKind_str P w x t
theorem items_are {P : Program} {w : World} : ∀ {ks : List Key} {us : List Value}, Vals (ks.map kV) us → ItemsAre (mixKind P w) ks us
  | [], _, r => by rw [List.map_nil] at r; cases r; exact .nil
  | k :: ks, _, r => by
    rw [List.map_cons] at r
    cases r with
    | cons h t => exact .cons (kV_is h) (items_are t)

abbrev KT (H : Hp) : List (List Key × V) → List (List Key × Addr × Value) → Prop := Paired fun p q => p.1 = q.1 ∧ H q.2.1 = some (.tup (p.1.map kV)) ∧ RelV p.2 q.2.2
theorem KT.val {H : Hp} {kvs : List (List Key × V)} {xs : List (List Key × Addr × Value)} (r : KT H kvs xs) (k : List Key) : RelO (valV kvs k) ((atKey xs k).map (·.2)) := by
  induction r with
  | nil => exact True.intro
  | @cons p q ps qs h t ih =>
    obtain ⟨h1, _, h2⟩ := h
    by_cases e : p.1 = k
    · have e' : q.1 = k := h1.symm.trans e
      have b : atKey (q :: qs) k = some q.2 := by simp [atKey, List.find?_cons, e']
      rw [valV_pos e, b]; exact h2
    · have e' : ¬ q.1 = k := fun z => e (h1.trans z)
      have b : atKey (q :: qs) k = atKey qs k := by simp [atKey, List.find?_cons, e']
      rw [valV_neg e, b]; exact ih
theorem KT.repl {H : Hp} {kvs : List (List Key × V)} {xs : List (List Key × Addr × Value)} (r : KT H kvs xs) (k : List Key) {y : V} {u : Value} (ry : RelV y u) :
    KT H (kvs.map fun kv => if kv.1 = k then (kv.1, y) else kv) (xs.map (putAt k u)) := by
  induction r with
  | nil => exact .nil
  | @cons p q ps qs h t ih =>
    rw [List.map_cons, List.map_cons]
    refine .cons ?_ ih
    obtain ⟨h1, h2, h3⟩ := h
    unfold putAt
    by_cases e : p.1 = k
    · rw [if_pos e, if_pos (h1.symm.trans e)]; exact ⟨h1, h2, ry⟩
    · rw [if_neg e, if_neg (fun z => e (h1.trans z))]; exact ⟨h1, h2, h3⟩
theorem KT.put {H : Hp} {kvs : List (List Key × V)} {xs : List (List Key × Addr × Value)} (r : KT H kvs xs) (k : List Key) {b : Addr} {y : V} {u : Value} (hb : H b = some (.tup (k.map kV))) (ry : RelV y u) :
    KT H (putK kvs k y) (storedH xs k b u) := by
  have e : (kvs.any fun kv => decide (kv.1 = k)) = (atKey xs k).isSome := by
    rw [valV_any, (r.val k).isSome_eq, Option.isSome_map]
  unfold putK storedH
  rw [e]
  by_cases q : (atKey xs k).isSome = true
  · rw [if_pos q, if_pos q]; exact r.repl k ry
  · rw [if_neg q, if_neg q]; exact Paired.snoc r ⟨rfl, hb, ry⟩
theorem KT.keeps {H H' : Hp} {kvs : List (List Key × V)} {xs : List (List Key × Addr × Value)} (r : KT H kvs xs) (ht : ∀ b ys, H b = some (.tup ys) → H' b = some (.tup ys)) : KT H' kvs xs :=
  Paired.mapP r fun _ _ z => ⟨z.1, ht _ _ z.2.1, z.2.2⟩

section
variable {P : Program} {w : World} {H : Hp} {h : Heap} {a : Addr}
theorem rd_of {u : HO} (ok : HOk P w H h) (e : Rd H a u) : ObjOk P w H h a u := e.ok ok
theorem dk_rd {kvs : List (Key × V)} (ok : HOk P w H h) (e : Rd H a (.dK kvs)) : kvs.length ≤ sizeLine ∧ (a == sysModules) = false ∧ ∃ vs, KV kvs vs ∧ h.DictOf (mixKind P w) a vs :=
  show ObjOk P w H h a (.dK kvs) from rd_of ok e
theorem dk_of {kvs : List (Key × V)} (ok : HOk P w H h) (e : H a = some (.dK kvs)) : kvs.length ≤ sizeLine ∧ (a == sysModules) = false ∧ ∃ vs, KV kvs vs ∧ h.DictOf (mixKind P w) a vs := dk_rd ok (.inl e)
theorem key_of {ks : List Key} (ok : HOk P w H h) (e : H a = some (.tup (ks.map kV))) : (tupleKind (mixKind P w)).is h ks a := by
  obtain ⟨_, its, r, o, h1, h2, n, h3⟩ := (show ObjOk P w H h a (.tup (ks.map kV)) from ok a _ e)
  exact ⟨o, its.toArray, n, h1, h2, h3, by simpa using items_are r⟩
theorem dt_rd {kvs : List (List Key × V)} (ok : HOk P w H h) (e : Rd H a (.dT kvs)) : kvs.length ≤ sizeLine ∧ (a == sysModules) = false ∧
    ∃ xs, KT H kvs xs ∧ h.DictOfH (tupleKind (mixKind P w)) a xs := by
  obtain ⟨z, y, xs, r, o, es, ep, h1, h2, h3, h4, h5⟩ := (show ObjOk P w H h a (.dT kvs) from rd_of ok e)
  refine ⟨z, y, xs, r, o, es, ep, h1, h2, h3, h4, fun x hx => ?_, h5⟩
  have all : ∀ {l : List (List Key × V)} {m : List (List Key × Addr × Value)}, KT H l m → ∀ x ∈ m, (tupleKind (mixKind P w)).is h x.1 x.2.1 := by
    intro l m q
    induction q with
    | nil => intro x hx; exact nomatch hx
    | @cons p q ps qs hq t ih =>
      intro x hx
      rcases List.mem_cons.mp hx with e | hx
      · subst e
        exact key_of ok (by rw [← hq.1]; exact hq.2.1)
      · exact ih x hx
  exact all r x hx
theorem dt_of {kvs : List (List Key × V)} (ok : HOk P w H h) (e : H a = some (.dT kvs)) : kvs.length ≤ sizeLine ∧ (a == sysModules) = false ∧
    ∃ xs, KT H kvs xs ∧ h.DictOfH (tupleKind (mixKind P w)) a xs := dt_rd ok (.inl e)
end

def DGet (H : Hp) (a : Addr) (y : V) (r : Option V) : Prop :=
  (∃ kvs k, Rd H a (.dK kvs) ∧ y = kV k ∧ r = valV kvs k) ∨ ∃ kvs k b, Rd H a (.dT kvs) ∧ y = .ref b ∧ H b = some (.tup (k.map kV)) ∧ r = valV kvs k
def DPut (H : Hp) (a : Addr) (y v : V) (H' : Hp) : Prop :=
  (∃ kvs k, H a = some (.dK kvs) ∧ y = kV k ∧ kvs.length < sizeLine ∧ H' = upd H a (.dK (putK kvs k v))) ∨
  ∃ kvs k b, H a = some (.dT kvs) ∧ y = .ref b ∧ H b = some (.tup (k.map kV)) ∧ kvs.length < sizeLine ∧ H' = upd H a (.dT (putK kvs k v))
theorem DGet.k {H : Hp} {a : Addr} {kvs : List (Key × V)} {k : Key} (e : H a = some (.dK kvs)) : DGet H a (kV k) (valV kvs k) := .inl ⟨kvs, k, .inl e, rfl, rfl⟩
theorem DGet.t {H : Hp} {a b : Addr} {kvs : List (List Key × V)} {k : List Key} (e : H a = some (.dT kvs)) (eb : H b = some (.tup (k.map kV))) : DGet H a (.ref b) (valV kvs k) := .inr ⟨kvs, k, b, .inl e, rfl, eb, rfl⟩
theorem DPut.k {H : Hp} {a : Addr} {kvs : List (Key × V)} {k : Key} {v : V} (e : H a = some (.dK kvs)) (hl : kvs.length < sizeLine) : DPut H a (kV k) v (upd H a (.dK (putK kvs k v))) := .inl ⟨kvs, k, e, rfl, hl, rfl⟩
theorem DPut.t {H : Hp} {a b : Addr} {kvs : List (List Key × V)} {k : List Key} {v : V} (e : H a = some (.dT kvs)) (eb : H b = some (.tup (k.map kV))) (hl : kvs.length < sizeLine) :
    DPut H a (.ref b) v (upd H a (.dT (putK kvs k v))) := .inr ⟨kvs, k, b, e, rfl, eb, hl, rfl⟩


section
variable {X : Cx} {pins : List (Addr × Obj)} {σ : St} {H : Hp} {s : Shared} {a : Addr} {y v : V} {u r : Value} {o : Option V} {A : Around} {E : Value → Shared → Prop}

theorem Inv.big (I : Inv X pins σ H s) : sysModules < s.heap.objs.size := by
  have h : mainGlobals < s.heap.objs.size := (I.mod.glob.keeps I.bk).lt
  exact Nat.lt_trans (by decide) h

theorem d_getItem {Q : Value → Shared → Prop} (hu : A.units + 1 < cLine) (I : Inv X pins σ H s) (g : DGet H a y (some v)) (ry : RelV y u) (h : ∀ w' s', Inv X pins σ H s' → RelV v w' → Q w' s') :
    wpAny (model X.prog X.w) A (getItem (.ref a) u) Q E s := by
  rcases g with ⟨kvs, k, e, ey, l⟩ | ⟨kvs, k, b, e, ey, eb, l⟩
  · subst ey
    obtain ⟨z, hd, vs, rel, dd⟩ := dk_rd I.hok e
    obtain ⟨w', hw, rw'⟩ := RelO.some_of (v := v) (o := valueAt vs k) (by rw [l]; exact rel.val k)
    exact wpAny_getItem_of (kV_is ry) dd.mapOf hw (h w' _ (I.tok _) rw')
  · subst ey
    cases (show u = Value.ref b from ry)
    obtain ⟨z, hd, xs, rel, dd⟩ := dt_rd I.hok e
    obtain ⟨w', hw, rw'⟩ := RelO.some_of (v := v) (o := (atKey xs k).map (·.2)) (by rw [l]; exact rel.val k)
    obtain ⟨p, hp, hp2⟩ := Option.map_eq_some_iff.mp hw
    refine wpAny_getItem_heap (tupleKind_room_in1 hu) (key_of I.hok eb) dd hp ?_
    rw [hp2]
    exact h w' _ (I.tok _) rw'
theorem d_in {Q : Value → Shared → Prop} (hu : A.units + 1 < cLine) (I : Inv X pins σ H s) (g : DGet H a y o) (ry : RelV y u) (h : ∀ s', Inv X pins σ H s' → Q (.bool o.isSome) s') :
    wpAny (model X.prog X.w) A (compareOp .In u (.ref a)) Q E s := by
  rcases g with ⟨kvs, k, e, ey, l⟩ | ⟨kvs, k, b, e, ey, eb, l⟩
  · subst ey
    obtain ⟨z, hd, vs, rel, dd⟩ := dk_rd I.hok e
    refine wpAny_in_of (kV_is ry) hd dd.mapOf ?_
    rw [← (rel.val k).isSome_eq, ← l]
    exact h _ (I.tok _)
  · subst ey
    cases (show u = Value.ref b from ry)
    obtain ⟨z, hd, xs, rel, dd⟩ := dt_rd I.hok e
    refine wpAny_in_heap (tupleKind_room_in1 hu) (key_of I.hok eb) hd dd ?_
    have q := (rel.val k).isSome_eq
    rw [Option.isSome_map] at q
    rw [← q, ← l]
    exact h _ (I.tok _)
theorem d_notIn {Q : Value → Shared → Prop} (hu : A.units + 1 < cLine) (I : Inv X pins σ H s) (g : DGet H a y o) (ry : RelV y u) (h : ∀ s', Inv X pins σ H s' → Q (.bool (!o.isSome)) s') :
    wpAny (model X.prog X.w) A (compareOp .NotIn u (.ref a)) Q E s := by
  rcases g with ⟨kvs, k, e, ey, l⟩ | ⟨kvs, k, b, e, ey, eb, l⟩
  · subst ey
    obtain ⟨z, hd, vs, rel, dd⟩ := dk_rd I.hok e
    refine wpAny_notIn_of (kV_is ry) hd dd.mapOf ?_
    rw [← (rel.val k).isSome_eq, ← l]
    exact h _ (I.tok _)
  · subst ey
    cases (show u = Value.ref b from ry)
    obtain ⟨z, hd, xs, rel, dd⟩ := dt_rd I.hok e
    refine wpAny_notIn_heap (tupleKind_room_in1 hu) (key_of I.hok eb) hd dd ?_
    have q := (rel.val k).isSome_eq
    rw [Option.isSome_map] at q
    rw [← q, ← l]
    exact h _ (I.tok _)
theorem d_write {h' : Heap} {t' : Nat} {ob : HO} (I : Inv X pins σ H s) (mu : Mut (H a)) (hs : Heap.SameBut a s.heap h') (he : ∃ q, h'.get? a = some q) (new : ObjOk X.prog X.w (upd H a ob) h' a ob) :
    Inv X pins σ (upd H a ob) { s with heap := h', toks := t' } :=
  I.write (x := a) (e := a) mu (.inl rfl) (fun b q hb z => (hs.2 b hb).trans z) he new
theorem dk_new {P : Program} {w : World} {H' : Hp} {h' : Heap} {kvs : List (Key × V)} {vs : List (Key × Value)} (z : kvs.length ≤ sizeLine) (hd : (a == sysModules) = false) (rel : KV kvs vs) (dd : h'.DictOf (mixKind P w) a vs) :
    ObjOk P w H' h' a (.dK kvs) := ⟨z, hd, vs, rel, dd⟩
theorem d_setItem {H' : Hp} {Q : Unit → Shared → Prop} (hu : A.units + 1 < cLine) (I : Inv X pins σ H s) (g : DPut H a y v H') (ry : RelV y u) (rv : RelV v r) (h : ∀ s', Inv X pins σ H' s' → Q () s') :
    wpAny (model X.prog X.w) A (setItem (.ref a) u r) Q E s := by
  rcases g with ⟨kvs, k, e, ey, l, eH⟩ | ⟨kvs, k, b, e, ey, eb, l, eH⟩
  · subst ey eH
    obtain ⟨z, hd, vs, rel, dd⟩ := dk_of I.hok e
    have hz : vs.length ≤ sizeLine := by rw [← rel.length]; exact z
    have hl : (putK kvs k v).length ≤ sizeLine := by have := length_putK kvs k v; omega
    refine wpAny_setItem_pairs (hsz := hz) (kV_is ry) dd fun h' dd' hs => h _ ?_
    have he : ∃ q, h'.get? a = some q := let ⟨q, _, _, hq, _⟩ := dd'; ⟨q, hq⟩
    exact d_write I (by rw [e]; exact True.intro) hs he (dk_new hl hd (rel.put k rv) dd')
  · subst ey eH
    cases (show u = Value.ref b from ry)
    obtain ⟨z, hd, xs, rel, dd⟩ := dt_of I.hok e
    have hz : xs.length ≤ sizeLine := by rw [← Paired.length rel]; exact z
    have hl : (putK kvs k v).length ≤ sizeLine := by have := length_putK kvs k v; omega
    refine wpAny_setItem_heap (hsz := hz) (tupleKind_room_in1 hu) (key_of I.hok eb) dd fun h' dd' hs => h _ ?_
    obtain ⟨q, es, ep, hq, h2, h3, h4, _, h5⟩ := dd'
    refine d_write I (by rw [e]; exact True.intro) hs ⟨q, hq⟩ ⟨hl, hd, _, (rel.put k eb rv).keeps fun c ys ec => ?_, q, es, ep, hq, h2, h3, h4, h5⟩
    rw [upd_ne (ne_of ec e (fun z => nomatch z))]
    exact ec
end

section
variable {X : Cx} {pins : List (Addr × Obj)} {σ : St} {H : Hp} {s : Shared} {a : Addr} {kvs : List (Key × V)} {k : Key} {u : Value} {A : Around} {E : Value → Shared → Prop}
theorem d_pop {v : V} {more : List Value} {Q : Value → Shared → Prop} (I : Inv X pins σ H s) (e : H a = some (.dK kvs)) (ry : RelV (kV k) u) (l : valV kvs k = some v) (hm : more = [] ∨ ∃ x, more = [x])
    (h : ∀ w' s', Inv X pins σ (upd H a (.dK (dropK kvs k))) s' → RelV v w' → Q w' s') : wpAny (model X.prog X.w) A (call (.builtin "dict.pop") (.ref a :: u :: more)) Q E s := by
  obtain ⟨z, hd, vs, rel, dd⟩ := dk_of I.hok e
  obtain ⟨w', hw, rw'⟩ := RelO.some_of (v := v) (o := valueAt vs k) (by rw [← l]; exact rel.val k)
  have hp : (keyPart u).isSome = true := by
    cases k with
    | inl i => obtain ⟨t, q⟩ := (show ∃ t, u = Value.int i t from ry); subst q; rfl
    | inr x => obtain ⟨t, q⟩ := (show ∃ t, u = Value.str x t from ry); subst q; rfl
  have ha : argsOk "dict.pop" ⟨.ref a :: u :: more, []⟩ := by
    rcases hm with q | ⟨x, q⟩
    · subst q; exact PySem.F.args_dict_pop_2 _ _
    · subst q; exact PySem.F.args_dict_pop_3 _ _ _
  refine call_meetsIn PySem.F.slot_dict_pop dd.typeIs PySem.F.entry_dict_pop ha (meets_dict_pop_there (mixKind X.prog X.w) a (kV_is ry) more hm hp)
    ⟨vs, w', dd, by rw [← rel.length]; exact z, hw, fun h' dd' hs => h w' _ ?_ rw'⟩
  have he : ∃ q, h'.get? a = some q := let ⟨q, _, _, hq, _⟩ := dd'; ⟨q, hq⟩
  exact d_write I (by rw [e]; exact True.intro) hs he (dk_new (Nat.le_trans (dropK_le kvs k) z) hd (rel.drop k) dd')
theorem d_len {Q : Value → Shared → Prop} (I : Inv X pins σ H s) (e : Rd H a (.dK kvs)) (h : ∀ t s', Inv X pins σ H s' → Q (.int kvs.length t) s') : wpAny (model X.prog X.w) A (call (.builtin "len") [.ref a]) Q E s := by
  obtain ⟨z, hd, vs, rel, dd⟩ := dk_rd I.hok e
  refine call_len_dict hd dd (by rw [← rel.length]; rw [sizeLine_eq] at z; omega) ?_
  rw [← rel.length]
  exact h _ _ (I.tok _)
end


def NoSl (i : Expr) : Prop := ∀ ov iv, subscripted i false ov iv = operate [ov, iv] (getItem ov iv)
theorem subD_of {prog : Program} {w : World} {A : Around} {E : Value → Shared → Prop} {s : Shared} {env : Env} {value slice : Expr} {pos : Pos} {T id : String} {Q : Value → Shared → Prop}
    (hl : typeLookup (.type T) "__getitem__" = pure (some (.builtin id))) (hs : NoSl slice)
    (h : wpAny (model prog w) A (eval value env) (fun o s₁ => wpAny (model prog w) A (eval slice env) (fun i s₂ => s₂.TypeIs o T ∧ wpAny (model prog w) A (getItem o i) Q E s₂) E s₁) E s) :
    wpAny (model prog w) A (eval (.Subscript value slice pos) env) Q E s := by
  refine Subscript_ (wpAny_mono h (fun o s₁ h₁ => wpAny_mono h₁ (fun i s₂ h₂ => ?_) fun _ _ x => x) fun _ _ x => x)
  obtain ⟨hT, h₂⟩ := h₂
  unfold subscriptTail
  refine wpAny_bind ?_
  rw [getitemInPython_of_ne hT.not_modules]
  refine wpAny_bind (wpAny_specialOf hT hl ?_)
  have fin : wpAny (model prog w) A (subscripted slice false o i) (fun r s₃ => wpAny (model prog w) A (letTemporaryGo value o r >>= fun _ => pure r) Q E s₃) E s₂ := by
    rw [hs o i]
    exact wpAny_operating (wpAny_mono h₂ (fun r s₃ h₃ => wpAny_bind (wpAny_letTemporaryGo (wpAny_pure h₃))) fun _ _ x => x)
  first
    | exact wpAny_pure (wpAny_bind fin)
    | exact wpAny_bind (wpAny_pure (wpAny_bind fin))
    | exact wpAny_bind fin

theorem dict_typeIs {X : Cx} {pins : List (Addr × Obj)} {σ : St} {H : Hp} {s : Shared} {a : Addr} {y : V} {o : Option V} (I : Inv X pins σ H s) (g : DGet H a y o) : s.TypeIs (.ref a) "dict" := by
  rcases g with ⟨kvs, k, e, _, _⟩ | ⟨kvs, k, b, e, _, _, _⟩
  · obtain ⟨_, _, vs, _, dd⟩ := dk_rd I.hok e
    exact dd.typeIs
  · obtain ⟨_, _, xs, _, dd⟩ := dt_rd I.hok e
    exact dd.typeIs
def tDGet (td ty : TE) : TE := fun σ H Q => td σ H fun x H1 => ty σ H1 fun y H2 => ∃ a v, x = .ref a ∧ DGet H2 a y (some v) ∧ Q v H2
def tDIn (ty td : TE) : TE := fun σ H Q => ty σ H fun y H1 => td σ H1 fun x H2 => ∃ a o, x = .ref a ∧ DGet H2 a y o ∧ Q (.bl o.isSome) H2
def tDNotIn (ty td : TE) : TE := fun σ H Q => ty σ H fun y H1 => td σ H1 fun x H2 => ∃ a o, x = .ref a ∧ DGet H2 a y o ∧ Q (.bl (!o.isSome)) H2
def sDPut (td ty tv : TE) : TS := fun D σ H => tv σ H fun v H1 => td σ H1 fun x H2 => ty σ H2 fun y H3 => ∃ a H4, x = .ref a ∧ DPut H3 a y v H4 ∧ D.nx σ H4
section
variable {X : Cx} {o i e value : Expr} {pos pos' tpos : Pos} {td ty tv : TE}
theorem pe_dget (hu : X.A.units + 1 < cLine) (ho : PE X o td) (hi : PE X i ty) (hs : NoSl i) : PE X (.Subscript o i pos) (tDGet td ty) := by
  intro pins s σ H Q I h
  refine subD_of PySem.F.slot_dict_getitem.lookup hs (thn (ho pins s σ H _ I h) fun u s1 ⟨x, H1, I1, rx, q1⟩ => thn (hi pins s1 σ H1 _ I1 q1) fun iv s2 ⟨y, H2, I2, ry, a, v, ex, g, q2⟩ => ?_)
  subst ex
  obtain rfl : u = Value.ref a := rx
  exact ⟨dict_typeIs I2 g, d_getItem hu I2 g ry fun w' s3 I3 rw' => ⟨v, H2, I3, rw', q2⟩⟩
theorem pc_din (hu : X.A.units + 1 < cLine) (hi : PE X i ty) (ho : PE X o td) : PC X .In i o (tDIn ty td) := by
  intro pins s σ H Q I h
  refine thn (hi pins s σ H _ I h) fun iv s1 ⟨y, H1, I1, ry, q1⟩ => thn (ho pins s1 σ H1 _ I1 q1) fun u s2 ⟨x, H2, I2, rx, a, ov, ex, g, q2⟩ => ?_
  subst ex
  obtain rfl : u = Value.ref a := rx
  exact d_in hu I2 g ry fun s3 I3 => ⟨.bl ov.isSome, H2, I3, rfl, q2⟩
theorem pc_dnotin (hu : X.A.units + 1 < cLine) (hi : PE X i ty) (ho : PE X o td) : PC X .NotIn i o (tDNotIn ty td) := by
  intro pins s σ H Q I h
  refine thn (hi pins s σ H _ I h) fun iv s1 ⟨y, H1, I1, ry, q1⟩ => thn (ho pins s1 σ H1 _ I1 q1) fun u s2 ⟨x, H2, I2, rx, a, ov, ex, g, q2⟩ => ?_
  subst ex
  obtain rfl : u = Value.ref a := rx
  exact d_notIn hu I2 g ry fun s3 I3 => ⟨.bl (!ov.isSome), H2, I3, rfl, q2⟩
theorem ps_dput (hu : X.A.units + 1 < cLine) (ho : PE X o td) (hi : PE X i ty) (hv : PE X value tv) (hs : swapsWith value (some (.Subscript o i pos')) pos.line X.env = pure false) :
    PS X (.Assign [.Subscript o i pos'] value pos) (sDPut td ty tv) := by
  intro pins s σ H D I h
  refine wpAny_Assign_Subscript (thn (hv pins s σ H _ I h) fun r s1 ⟨v, H1, I1, rv, q1⟩ => thn (ho pins s1 σ H1 _ I1 q1) fun u s2 ⟨x, H2, I2, rx, q2⟩ => thn (hi pins s2 σ H2 _ I2 q2) fun iv s3 ⟨y, H3, I3, ry, a, H4, ex, g, q3⟩ => ?_) hs
  subst ex
  obtain rfl : u = Value.ref a := rx
  exact d_setItem hu I3 g ry rv fun s4 I4 => ⟨σ, H4, I4, q3⟩
end


theorem dk_empty {P : Program} {w : World} {H : Hp} (h : Heap) (hb : sysModules < h.objs.size) : ObjOk P w H (h.push { cls := .type "dict", data := .dict #[] }) h.objs.size (.dK []) :=
  ⟨Nat.zero_le _, beq_eq_false_iff_ne.mpr (Ne.symm (Nat.ne_of_lt hb)), [], .nil, Heap.DictOf.new h⟩
theorem dt_empty {P : Program} {w : World} {H : Hp} (h : Heap) (hb : sysModules < h.objs.size) : ObjOk P w H (h.push { cls := .type "dict", data := .dict #[] }) h.objs.size (.dT []) :=
  ⟨Nat.zero_le _, beq_eq_false_iff_ne.mpr (Ne.symm (Nat.ne_of_lt hb)), [], .nil, _, #[], 0, Heap.get?_push_size _ rfl, ⟨rfl, rfl, rfl⟩, rfl, rfl, List.nodup_nil⟩
def tDNewK : TE := fun _ H Q => ∀ p, H p = none → Q (.ref p) (upd H p (.dK []))
def tDNewT : TE := fun _ H Q => ∀ p, H p = none → Q (.ref p) (upd H p (.dT []))
section
variable {X : Cx} {pos : Pos}
theorem pe_dnewK : PE X (.Dict [] [] pos) tDNewK := fun pins s σ H Q I h =>
  wpAny_Dict_empty ⟨.ref s.heap.objs.size, _, I.laid (a := s.heap.objs.size) (o := .dK []) (t' := s.toks) (fun _ _ q => Heap.get?_push_of_some _ q) (Nat.le_refl _) (dk_empty s.heap I.big), rfl, h _ (I.hok.fresh (Nat.le_refl _))⟩
theorem pe_dnewT : PE X (.Dict [] [] pos) tDNewT := fun pins s σ H Q I h =>
  wpAny_Dict_empty ⟨.ref s.heap.objs.size, _, I.laid (a := s.heap.objs.size) (o := .dT []) (t' := s.toks) (fun _ _ q => Heap.get?_push_of_some _ q) (Nat.le_refl _) (dt_empty s.heap I.big), rfl, h _ (I.hok.fresh (Nat.le_refl _))⟩
end

structure M1 (X : Cx) (o : Expr) (m : Str) (apos : Pos) (e : Expr) (cpos : Pos) : Prop where
  base : attributeBase o m X.env (eval o X.env) = eval o X.env
  few : ((backTo cpos (starEach [e] X.env)).all (fun x => !x.1) && (backToKw cpos (keywordEach [] X.env)).all (fun x => x.1.isSome)
    && decide (([e] : List Expr).length + ([] : List Keyword).length + (if ([] : List Keyword).isEmpty then 0 else 1) < 30)) = true
  line : (apos.endLine == cpos.line) = true
  trees : backTo cpos (starEach [e] X.env) = [(false, eval e X.env)]
structure M2 (X : Cx) (o : Expr) (m : Str) (apos : Pos) (e f : Expr) (cpos : Pos) : Prop where
  base : attributeBase o m X.env (eval o X.env) = eval o X.env
  few : ((backTo cpos (starEach [e, f] X.env)).all (fun x => !x.1) && (backToKw cpos (keywordEach [] X.env)).all (fun x => x.1.isSome)
    && decide (([e, f] : List Expr).length + ([] : List Keyword).length + (if ([] : List Keyword).isEmpty then 0 else 1) < 30)) = true
  line : (apos.endLine == cpos.line) = true
  trees : backTo cpos (starEach [e, f] X.env) = [(false, eval e X.env), (false, eval f X.env)]

def IsD (H : Hp) (a : Addr) : Prop := (∃ kvs, Rd H a (.dK kvs)) ∨ ∃ kvs, Rd H a (.dT kvs)
theorem isD_at {X : Cx} {pins : List (Addr × Obj)} {σ : St} {H : Hp} {s : Shared} {a : Addr} (I : Inv X pins σ H s) (d : IsD H a) :
    s.TypeIs (.ref a) "dict" ∧ (∀ b, Value.ref a = .ref b → ∃ ob, s.heap.get? b = some ob ∧ ob.dict = none) ∧ (a == sysModules) = false := by
  rcases d with ⟨kvs, e⟩ | ⟨kvs, e⟩
  · obtain ⟨_, hd, vs, _, dd⟩ := dk_rd I.hok e
    refine ⟨dd.typeIs, fun b q => ?_, hd⟩
    cases q
    obtain ⟨ob, _, _, h1, h2, _⟩ := dd
    exact ⟨ob, h1, h2.2.1⟩
  · obtain ⟨_, hd, xs, _, dd⟩ := dt_rd I.hok e
    refine ⟨dd.typeIs, fun b q => ?_, hd⟩
    cases q
    obtain ⟨ob, _, _, h1, h2, _⟩ := dd
    exact ⟨ob, h1, h2.2.1⟩

section
variable {X : Cx} {pins : List (Addr × Obj)} {σ : St} {H : Hp} {s : Shared} {a : Addr} {y d : V} {u r : Value} {o : Option V} {A : Around} {E : Value → Shared → Prop}
theorem d_get1 {Q : Value → Shared → Prop} (hu : A.units + 1 < cLine) (I : Inv X pins σ H s) (g : DGet H a y o) (ry : RelV y u) (h : ∀ w' s', Inv X pins σ H s' → RelV (o.getD .non) w' → Q w' s') :
    wpAny (model X.prog X.w) A (call (.builtin "dict.get") [.ref a, u]) Q E s := by
  rcases g with ⟨kvs, k, e, ey, l⟩ | ⟨kvs, k, b, e, ey, eb, l⟩
  · subst ey
    obtain ⟨z, hd, vs, rel, dd⟩ := dk_rd I.hok e
    refine call_meetsIn PySem.F.slot_dict_get dd.typeIs PySem.F.entry_dict_get (PySem.F.args_dict_get_2 _ _) (meets_dict_get (mixKind X.prog X.w) a (kV_is ry) hd) ⟨_, dd.mapOf, h _ _ (I.tok _) ?_⟩
    rw [l]
    exact (rel.val k).getD rfl
  · subst ey
    cases (show u = Value.ref b from ry)
    obtain ⟨z, hd, xs, rel, dd⟩ := dt_rd I.hok e
    refine call_meetsIn PySem.F.slot_dict_get dd.typeIs PySem.F.entry_dict_get (PySem.F.args_dict_get_2 _ _) (meetsH_dict_get (tupleKind (mixKind X.prog X.w)) a b hd) ⟨tupleKind_room_in1 hu, k, xs, key_of I.hok eb, dd, h _ _ (I.tok _) ?_⟩
    rw [l]
    exact (rel.val k).getD rfl
end

def tDGet1 (td ty : TE) : TE := fun σ H Q => td σ H fun x H1 => ∃ a, x = .ref a ∧ IsD H1 a ∧ ty σ H1 fun y H2 => ∃ o, DGet H2 a y o ∧ Q (o.getD .non) H2
def tDPop1 (td ty : TE) : TE := fun σ H Q => td σ H fun x H1 => ∃ a, x = .ref a ∧ IsD H1 a ∧ ty σ H1 fun y H2 => ∃ kvs k v, H2 a = some (.dK kvs) ∧ y = kV k ∧ valV kvs k = some v ∧ Q v (upd H2 a (.dK (dropK kvs k)))
section
variable {X : Cx} {o e f : Expr} {apos cpos : Pos} {td ty tx : TE}
theorem pe_dget1 (hu : X.A.units + 1 < cLine) (ho : PE X o td) (he : PE X e ty) (m : M1 X o "get" apos e cpos) : PE X (.Call (.Attribute o "get" apos) [e] [] cpos) (tDGet1 td ty) := by
  intro pins s σ H Q I h
  refine wpAny_Call_method m.base m.few m.line PySem.F.plainAttrs_dict PySem.F.slot_dict_get PySem.F.type_dict_get (thn (ho pins s σ H _ I h) fun u s1 ⟨x, H1, I1, rx, a, ex, d, q1⟩ => ?_)
  subst ex
  obtain rfl : u = Value.ref a := rx
  obtain ⟨t1, t2, _⟩ := isD_at I1 d
  refine ⟨t1, t2, ?_⟩
  rw [m.trees]
  refine Calls.callWith_builtin rfl (Calls.evalArgs_plain (Calls.spliced_cons (thn (he pins s1 σ H1 _ I1 q1) fun iv s2 ⟨y, H2, I2, ry, ov, g, q2⟩ => Calls.spliced_nil ?_)))
  exact d_get1 hu I2 g ry fun w' s3 I3 rw' => ⟨_, H2, I3, rw', q2⟩
theorem pe_dpop1 (ho : PE X o td) (he : PE X e ty) (m : M1 X o "pop" apos e cpos) : PE X (.Call (.Attribute o "pop" apos) [e] [] cpos) (tDPop1 td ty) := by
  intro pins s σ H Q I h
  refine wpAny_Call_method m.base m.few m.line PySem.F.plainAttrs_dict PySem.F.slot_dict_pop PySem.F.type_dict_pop (thn (ho pins s σ H _ I h) fun u s1 ⟨x, H1, I1, rx, a, ex, d, q1⟩ => ?_)
  subst ex
  obtain rfl : u = Value.ref a := rx
  obtain ⟨t1, t2, _⟩ := isD_at I1 d
  refine ⟨t1, t2, ?_⟩
  rw [m.trees]
  refine Calls.callWith_builtin rfl (Calls.evalArgs_plain (Calls.spliced_cons (thn (he pins s1 σ H1 _ I1 q1) fun iv s2 ⟨y, H2, I2, ry, kvs, k, v, ea, ey, l, q2⟩ => Calls.spliced_nil ?_)))
  subst ey
  exact d_pop I2 ea ry l (.inl rfl) fun w' s3 I3 rw' => ⟨v, _, I3, rw', q2⟩
end

section
variable {X : Cx} {pins : List (Addr × Obj)} {σ : St} {H : Hp} {s : Shared} {a : Addr} {kvs : List (Key × V)} {A : Around} {E : Value → Shared → Prop}
end


section
variable {X : Cx} {pins : List (Addr × Obj)} {σ : St} {H : Hp} {s : Shared} {a : Addr} {y : V} {u : Value} {A : Around} {E : Value → Shared → Prop}
end
end L2

namespace L2
open PySem PySem.Spec PyProof.Rows

section
variable {prog : Program} {w : World} {A : Around} {E : Value → Shared → Prop}
end

section
variable {X : Cx}
end
end L2

namespace L2
open PySem PySem.Spec PyProof.Rows

theorem boot_reversed5 : bootBuiltins "reversed" = some (.type "reversed") := by decide +kernel

section
variable {X : Cx} {pins : List (Addr × Obj)} {σ : St} {H : Hp} {s : Shared} {h' : Heap}
theorem Inv.turnedNew {t' : Nat} {ch : List Addr} {T : Addr} {ob : HO} (I : Inv X pins σ H s) (k : ∀ b o, b ∉ ch → s.heap.get? b = some o → h'.get? b = some o) (hf : ∀ b ∈ ch, FpOk X pins H b) (hT : s.heap.objs.size ≤ T)
    (new : ObjOk X.prog X.w (upd H T ob) h' T ob) : Inv X pins σ (upd H T ob) { s with heap := h', toks := t' } := by
  have hn : H T = none := I.hok.fresh hT
  have nit : ∀ b u, H b = some u → b ∉ ch := fun b u e z => by
    have q := (hf b z).1
    rw [q] at e; cases e
  refine I.step (g' := s.gens) (d' := s.drawn) (ch := ch) (fun b hb => ⟨(hf b hb).2.2.2.1, (hf b hb).2.1, (hf b hb).2.2.2.2.1, (hf b hb).2.2.2.2.2⟩) (fun b o _ _ hc e _ => k b o hc e) (fun b o _ _ hc e _ => ⟨o.slots, k b o hc e⟩)
    (fun b o _ e n => ?_) (fun b o hc e => ⟨o, k b o hc e⟩) (fun b xs e => ?_) (fun b o u e => ?_) (fun b ps e => ⟨#[], ?_⟩) (fun m hm => ?_) (fun b u e => ?_) I.bare
  · rw [upd_ne (Nat.ne_of_lt (Nat.lt_of_lt_of_le (Heap.lt_size e) hT))]; exact n
  · rw [upd_ne (ne_of_none e hn)]; exact e
  · rw [upd_ne (ne_of_none e hn)]; exact e
  · rw [upd_ne (ne_of_none e hn), e]; simp
  · obtain ⟨o, es, ep, ho, r⟩ := hm
    exact ⟨o, es, ep, k _ o (fun z => (hf _ z).2.1 rfl) ho, r⟩
  · by_cases hb : b = T
    · subst hb
      rw [upd_same] at e
      cases e
      exact new
    · rw [upd_ne hb] at e
      refine (I.hok b u e).stay (fun c v hc q => k c v ?_ q) (fun c q => by rw [upd_ne (ne_of_none q hn)]; exact q) fun c xs q => by rw [upd_ne (ne_of_none q hn)]; exact q
      rcases hc with z | z
      · rw [z]; exact nit b u e
      · exact nit c _ z

theorem Inv.lock {d : Addr} {u : HO} (I : Inv X pins σ H s) (h : H d = some u) (mu : Mut (some u)) : ∃ od, Inv X pins σ (upd H d (.frz od u)) s := by
  have x := I.hok d u h
  have ex : ∃ od, s.heap.get? d = some od := by
    cases u with
    | lst xs => obtain ⟨_, _, _, _, e⟩ := x; exact ⟨_, e⟩
    | dK kvs => obtain ⟨_, _, _, _, o, _, _, e, _⟩ := x; exact ⟨o, e⟩
    | dT kvs => obtain ⟨_, _, _, _, o, _, _, e, _⟩ := x; exact ⟨o, e⟩
    | set S n => obtain ⟨o, _, _, _, e, _⟩ := x; exact ⟨o, e⟩
    | ins C dx fs => obtain ⟨_, _, _, e, _⟩ := x; exact ⟨_, e⟩
    | ext φ => obtain ⟨_, ⟨_, e⟩, _⟩ := x; exact ⟨_, e⟩
    | _ => exact False.elim mu
  obtain ⟨od, e⟩ := ex
  have new : ObjOk X.prog X.w (upd H d (.frz od u)) s.heap d (.frz od u) := by
    refine ⟨e, x.stay (fun b v _ q => q) (fun b q => ?_) fun b xs q => ?_⟩
    · rw [upd_ne (fun z => by rw [z, h] at q; cases q; exact mu)]; exact q
    · rw [upd_ne (fun z => by rw [z, h] at q; cases q; exact mu)]; exact q
  exact ⟨od, I.write (x := d) (e := d) (t' := s.toks) (h' := s.heap) (by rw [h]; exact mu) (.inl rfl) (fun b v _ q => q) ⟨od, e⟩ new⟩
theorem Inv.nofrz {d : Addr} {u : HO} (I : Inv X pins σ H s) (h : H d = some u) (mu : Mut (some u)) : ∀ o' u', X.H_0 d ≠ some (.frz o' u') := fun o' u' e => by
  have q := I.base.frzs d o' u' e
  rw [h] at q
  cases q
  exact mu
theorem Inv.unlock {d : Addr} {od : Obj} {u : HO} (I : Inv X pins σ H s) (h : H d = some (.frz od u)) (hn : ∀ o' u', X.H_0 d ≠ some (.frz o' u')) : Inv X pins σ (upd H d u) s := by
  have neH : ∀ b o, H b = some o → (∀ o' u', o ≠ .frz o' u') → b ≠ d := fun b o e hne z => by
    rw [z, h] at e
    cases e
    exact hne _ _ rfl
  have neN : ∀ b, H b = none → b ≠ d := fun b e z => by rw [z, h] at e; cases e
  refine ⟨I.ok, I.os, I.bare, ⟨I.base.keep, I.base.slot, fun b o e n hx => ?_, I.base.there, fun b xs e => ?_, fun b o x e => ?_, fun b ps e => ?_⟩, I.loc, I.cell, ?_, fun x c e => ?_, fun p hp => ?_, fun b o e => ?_, I.len⟩
  · rw [upd_ne (neN b (I.base.free b o e n hx))]; exact I.base.free b o e n hx
  · have q := I.base.tups b xs e
    rw [upd_ne (neH b _ q (fun _ _ z => nomatch z))]; exact q
  · have q := I.base.frzs b o x e
    rw [upd_ne (fun z => by rw [z] at e; exact hn _ _ e)]; exact q
  · obtain ⟨m, q⟩ := I.base.tbls b ps e
    exact ⟨m, by rw [upd_ne (neH b _ q (fun _ _ z => nomatch z))]; exact q⟩
  · rw [upd_ne (neN _ I.free)]; exact I.free
  · rw [upd_ne (neN c (I.freeC x c e))]; exact I.freeC x c e
  · obtain ⟨e, n, r⟩ := I.pin p hp
    exact ⟨e, by rw [upd_ne (neN _ n)]; exact n, r⟩
  · by_cases hb : b = d
    · rw [hb, upd_same] at e
      cases e
      rw [hb]
      obtain ⟨_, x⟩ := I.hok d _ h
      exact x.stay (fun c v _ q => q) (fun c q => by rw [upd_ne (neH c _ q (fun _ _ z => nomatch z))]; exact q) fun c xs q => by rw [upd_ne (neH c _ q (fun _ _ z => nomatch z))]; exact q
    · rw [upd_ne hb] at e
      exact (I.hok b o e).stay (fun c v _ q => q) (fun c q => by rw [upd_ne (neH c _ q (fun _ _ z => nomatch z))]; exact q) fun c xs q => by rw [upd_ne (neH c _ q (fun _ _ z => nomatch z))]; exact q
end
def tLock (t : TS) : TS := fun D σ H => ∃ d u, H d = some u ∧ Mut (some u) ∧ ∀ od, t ⟨fun σ' H' => H' d = some (.frz od u) ∧ D.nx σ' (upd H' d u), fun v H' => H' d = some (.frz od u) ∧ D.rt v (upd H' d u), fun σ' H' => H' d = some (.frz od u) ∧ D.bk σ' (upd H' d u), fun σ' H' => H' d = some (.frz od u) ∧ D.ct σ' (upd H' d u)⟩ σ (upd H d (.frz od u))
def tLockE (t : TE) : TE := fun σ H Q => ∃ d u, H d = some u ∧ Mut (some u) ∧ ∀ od, t σ (upd H d (.frz od u)) fun v H' => H' d = some (.frz od u) ∧ Q v (upd H' d u)
section
variable {X : Cx}
theorem ps_lock {st : Stmt} {t : TS} (h : PS X st t) : PS X st (tLock t) := by
  intro pins s σ H D I hw
  obtain ⟨d, u, hd, mu, hw⟩ := hw
  obtain ⟨od, I1⟩ := I.lock hd mu
  refine thn (h pins s σ _ _ I1 (hw od)) fun f s1 q => ?_
  cases f with
  | next => obtain ⟨σ', H', I2, e, q⟩ := q; exact ⟨σ', _, I2.unlock e (I.nofrz hd mu), q⟩
  | brk => obtain ⟨σ', H', I2, e, q⟩ := q; exact ⟨σ', _, I2.unlock e (I.nofrz hd mu), q⟩
  | cont => obtain ⟨σ', H', I2, e, q⟩ := q; exact ⟨σ', _, I2.unlock e (I.nofrz hd mu), q⟩
  | ret v => obtain ⟨x, σ', H', I2, r, e, q⟩ := q; exact ⟨x, σ', _, I2.unlock e (I.nofrz hd mu), r, q⟩
theorem pi_one {tg : Expr} {pins : List (Addr × Obj)} {σ : St} {H : Hp} {s : Shared} {R : It → Hp → Prop} {J : It} {tn : Nat → Heap → Prop} {tk : Nat} (I : Inv X pins σ H s) (o : Obj)
    (T : Turn X.prog X.w X.K tg J [s.heap.objs.size] s.heap.objs.size tn) (st : tn 0 (s.heap.push o)) (q : R J H) : PIE X pins σ tg R (.ref s.heap.objs.size) { s with heap := s.heap.push o, toks := tk } := by
  refine ⟨s.heap.objs.size, [s.heap.objs.size], tn, J, H, rfl, I.kept fun b ob e => Heap.get?_push_of_some _ e, T, st, fun b hb => ?_, q⟩
  have e : b = s.heap.objs.size := by simpa using hb
  subst e
  exact I.fpOk (Nat.le_refl _) (I.hok.fresh (Nat.le_refl _))
end

def Itc (lo c : Int) (n : Nat) : It := ⟨fun i _ => i < n, fun i H x H' => H' = H ∧ x = .int (lo + (i : Nat) * c), fun i _ => n ≤ i⟩
theorem turn_rangeC {P : Program} {w : World} {K : PySem.W.Frag} {tg : Expr} (it : Addr) (lo c : Int) (n : Nat) : Turn P w K tg (Itc lo c n) [it] it (fun i h => IsRangeIter h it (lo + (i : Nat) * c) ((n : Int) - (i : Nat)) c) where
  mem := by simp
  obj := fun i h st b hb => by
    have e : b = it := by simpa using hb
    subst e
    exact ⟨_, st, fun v z => nomatch z⟩
  keep := fun i h h' st k => k it (by simp) _ st
  item := by
    intro X hP hw hK hc i pins s σ H E I hf st hg
    subst hP hw hK
    obtain ⟨f0, f1, f2, f3, f4, f5⟩ := hf it (by simp)
    have W := Walks.range (prog := X.prog) (w := X.w) (I.ok.hd hc) it lo c n
    refine W.item i s _ _ hg st fun v h' tk hv st' kk => ?_
    obtain ⟨t, rfl⟩ := hv
    have I1 : Inv X pins σ H { s with heap := h', toks := tk } := I.turned (fun b o hb e => kk b o (by simpa using hb) e) f0 f1 f3 f4 f5
    exact ⟨_, rfl, go_of (s := { s with heap := h', toks := tk }) (n := "range_iterator") st' rfl rfl (by decide) ⟨.int (lo + (i : Nat) * c), H, I1, ⟨t, rfl⟩, ⟨rfl, rfl⟩, st', fun b hb => (hf b hb).1⟩⟩
  done := by
    intro X hP hw hK hc i pins s σ H E I hf st hg
    subst hP hw hK
    obtain ⟨f0, f1, f2, f3, f4, f5⟩ := hf it (by simp)
    exact wpAny_pyNext_range_end (I.ok.hd hc) st (by have : n ≤ i := hg; omega) fun h' eb => ⟨rfl, I.turned (t' := s.toks) (fun b o hb e => eb b o hb e) f0 f1 f3 f4 f5⟩
  self := fun A i s Q E st h => wpAny_pyIter_rangeiter st h
def RgC (i j c : Int) (n : Nat) : Prop := c ≠ 0 ∧ c.natAbs < 1073741824 ∧ Builtin.Range.small i j c = true ∧ Builtin.Range.rangeSize i j c = n
def iRng3 (ta : TA) : TI := fun σ H R => ta σ H fun vs H1 => ∃ (i j c : Int) (n : Nat), vs = [.int i, .int j, .int c] ∧ RgC i j c n ∧ R (Itc i c n) H1
section
variable {X : Cx} {tg : Expr}
theorem pi_range3 {a b c : Expr} {ta : TA} {p pos : Pos} (hg : Gl X "range") (hm : X.mg "range" = none) (ha : PA X [a, b, c] ta)
    (hs : starEach [a, b, c] X.env = (false, eval a X.env) :: starEach [b, c] X.env := by rfl) (hpl : (backTo pos (starEach [b, c] X.env)).any (·.1) = false := by rfl) :
    PI X tg (.Call (.Name "range" p) [a, b, c] [] pos) (iRng3 ta) := by
  intro pins s σ H R I h
  refine Call_ (ld_blt I hg hm boot_range (PyProof.Rows.callWith_type1 (thn (ha pos pins s σ H _ I h) fun us s1 ⟨vs, H1, I1, r1, q1⟩ => ?_) hs hpl))
  obtain ⟨i, j, k, n, e, ⟨c0, c1, c2, c3⟩, q⟩ := q1
  subst e
  cases r1 with
  | cons r rr =>
    cases rr with
    | cons r' rr =>
      cases rr with
      | cons r'' rr =>
        cases rr
        obtain ⟨t, rfl⟩ := r
        obtain ⟨t', rfl⟩ := r'
        obtain ⟨t'', rfl⟩ := r''
        refine call_range_3 c0 ?_ (.inl (PyProof.noPylong_small c1))
        refine wpAny_pyIter_range (IsRange.new ..) c2 ?_
        have I2 : Inv X pins σ H1 { s1 with heap := s1.heap.push { cls := .type "range", data := .fields #[.int i t, .int j t', .int k t''] } } := I1.kept (t' := s1.toks) fun b o e => Heap.get?_push_of_some _ e
        refine pi_one (tk := s1.toks) I2 _ (turn_rangeC _ i k n) ?_ q
        have e1 : i + ((0 : Nat) : Int) * k = i := by simp
        have e2 : (n : Int) - ((0 : Nat) : Int) = Builtin.Range.rangeSize i j k := by rw [c3]; simp
        show IsRangeIter _ _ (i + ((0 : Nat) : Int) * k) ((n : Int) - ((0 : Nat) : Int)) k
        rw [e1, e2]
        exact Heap.get?_push_size _ rfl
end
theorem for_rangeC {lo c : Int} {n : Nat} {g : TG} {tb : TS} {D : Ends} {σ : St} {H : Hp} (Pv : Nat → St → Hp → Prop) (h0 : Pv 0 σ H)
    (hs : ∀ i σ H, i < n → Pv i σ H → g (.int (lo + (i : Nat) * c)) σ H fun σ2 H2 => tb { D with nx := Pv (i + 1), ct := Pv (i + 1), bk := D.nx } σ2 H2) (hd : ∀ σ H, Pv n σ H → D.nx σ H) :
    ∃ W : Nat → Nat → St → Hp → Prop, (∃ m, W 0 m σ H) ∧ ∀ i m σ H, W i m σ H →
      ((Itc lo c n).stop i H ∧ D.nx σ H) ∨ ((Itc lo c n).go i H ∧ ∃ N : St → Hp → Prop, (∀ σ' H', N σ' H' → ∃ m', m' < m ∧ W (i + 1) m' σ' H') ∧ ∀ x H', (Itc lo c n).yld i H x H' → g x σ H' fun σ2 H2 => tb { D with nx := N, ct := N, bk := D.nx } σ2 H2) := by
  refine ⟨fun i m σ H => m = n - i ∧ i ≤ n ∧ Pv i σ H, ⟨n, by simp, Nat.zero_le _, h0⟩, ?_⟩
  rintro i m σ H ⟨rfl, hi, p⟩
  by_cases hlt : i < n
  · refine .inr ⟨hlt, Pv (i + 1), fun σ' H' p' => ⟨n - (i + 1), by omega, rfl, hlt, p'⟩, fun x H' y => ?_⟩
    obtain ⟨e, y⟩ := y
    subst e y
    exact hs i σ _ hlt p
  · have e : i = n := by omega
    subst e
    exact .inl ⟨Nat.le_refl _, hd σ H p⟩

def Itv (K : PySem.W.Frag) (a : Addr) (n : Nat) : It :=
  ⟨fun i H => i < n ∧ ∃ (xs : List V) (x : V), SqL K H a xs ∧ xs[n - 1 - i]? = some x, fun i H x H' => H' = H ∧ ∀ xs, SqL K H a xs → xs[n - 1 - i]? = some x, fun i _ => n ≤ i⟩
theorem turn_rev {P : Program} {w : World} {K : PySem.W.Frag} {tg : Expr} (a it : Addr) (n : Nat) : Turn P w K tg (Itv K a n) [it] it (fun i h => i ≤ n ∧ h.IsRevIter it a ((n : Int) - 1 - (i : Nat))) where
  mem := by simp
  obj := fun i h st b hb => by
    have e : b = it := by simpa using hb
    subst e
    obtain ⟨_, o, e, c, d⟩ := st
    exact ⟨o, e, fun v z => by rw [d] at z; cases z⟩
  keep := fun i h h' st k => ⟨st.1, st.2.at fun o e => k it (by simp) o e⟩
  item := by
    intro X hP hw hK hc i pins s σ H E I hf st hg
    subst hP hw hK
    obtain ⟨hin, xs, x, hq, hx⟩ := hg
    obtain ⟨its, rv, p, hz⟩ := I.list hq
    obtain ⟨u, hu, ru⟩ := rv.get hx
    obtain ⟨f0, f1, f2, f3, f4, f5⟩ := hf it (by simp)
    obtain ⟨_, hit⟩ := st
    have e1 : (n : Int) - 1 - ((i : Nat) : Int) = ((n - 1 - i : Nat) : Int) := by omega
    rw [e1] at hit
    refine wpAny_pyNext_rev_item hit p.isList (x := u) (by simpa using hu) fun h' st' sb => ?_
    have e2 : ((n - 1 - i : Nat) : Int) - 1 = (n : Int) - 1 - ((i + 1 : Nat) : Int) := by omega
    rw [e2] at st'
    have I1 : Inv X pins σ H { s with heap := h' } := I.turned (t' := s.toks) (fun b o hb e => (sb.2 b hb).trans e) f0 f1 f3 f4 f5
    obtain ⟨o, e, c, d⟩ := id st'
    exact ⟨u, rfl, go_of (s := { s with heap := h' }) e c d (by decide) ⟨x, H, I1, ru, ⟨rfl, fun ys hy => by rw [I.list_inj hy hq]; exact hx⟩, ⟨hin, st'⟩, fun b hb => (hf b hb).1⟩⟩
  done := by
    intro X hP hw hK hc i pins s σ H E I hf st hg
    subst hP hw hK
    obtain ⟨f0, f1, f2, f3, f4, f5⟩ := hf it (by simp)
    obtain ⟨hin, hit⟩ := st
    have hge : n ≤ i := hg
    have e1 : (n : Int) - 1 - ((i : Nat) : Int) = -1 := by omega
    rw [e1] at hit
    exact wpAny_pyNext_rev_end (I.ok.hd hc) hit fun h' eb => ⟨rfl, I.turned (t' := s.toks) (fun b o hb e => eb b o hb e) f0 f1 f3 f4 f5⟩
  self := fun A i s Q E st h => wpAny_pyIter_revIter st.2 h
def iRev (K : PySem.W.Frag) (ta : TA) : TI := fun σ H R => ta σ H fun vs H1 => ∃ (a : Addr) (xs : List V), vs = [.ref a] ∧ SqL K H1 a xs ∧ R (Itv K a xs.length) H1
section
variable {X : Cx} {tg : Expr}
theorem pi_reversed {e : Expr} {ta : TA} {p pos : Pos} (hg : Gl X "reversed") (hm : X.mg "reversed" = none) (ha : PA X [e] ta) (hs : starEach [e] X.env = [(false, eval e X.env)] := by rfl) : PI X tg (.Call (.Name "reversed" p) [e] [] pos) (iRev X.K ta) := by
  intro pins s σ H R I h
  refine Call_ (ld_blt I hg hm boot_reversed5 (PyProof.Rows.callWith_type1 (thn (ha pos pins s σ H _ I h) fun us s1 ⟨vs, H1, I1, r1, q1⟩ => ?_) hs rfl))
  obtain ⟨a, xs, e, hq, q⟩ := q1
  subst e
  cases r1 with
  | cons r rr =>
    cases rr
    cases r
    obtain ⟨its, rv, p', hz⟩ := I1.list hq
    have hl := rv.length
    have e1 : ((its.toArray.size : Nat) : Int) - 1 = (xs.length : Int) - 1 - ((0 : Nat) : Int) := by simp only [List.size_toArray]; omega
    refine call_reversed_list p'.isList (wpAny_pyIter_revIter (l := a) (i := ((its.toArray.size : Nat) : Int) - 1) ⟨_, Heap.get?_push_size _ rfl, rfl, rfl⟩ ?_)
    refine pi_one (tk := s1.toks) I1 _ (turn_rev a _ xs.length) ⟨Nat.zero_le _, ?_⟩ q
    rw [← e1]
    exact ⟨_, Heap.get?_push_size _ rfl, rfl, rfl⟩
end

section
variable {prog : Program} {w : World} {A : Around} {E : Value → Shared → Prop} {s : Shared}
end

theorem kv_get {κ : Type} {kvs : List (κ × V)} {vs : List (κ × Value)} (h : KV kvs vs) : ∀ {i : Nat} {k : κ} {v : V}, kvs[i]? = some (k, v) → ∃ u, vs[i]? = some (k, u) ∧ RelV v u := by
  unfold KV at h
  induction h with
  | nil => intro i k v e; simp at e
  | @cons a b l₁ l₂ r t ih =>
    intro i k v e
    cases i with
    | zero =>
      simp only [List.getElem?_cons_zero, Option.some.injEq] at e
      subst e
      refine ⟨b.2, ?_, r.2⟩
      simp only [List.getElem?_cons_zero]
      exact congrArg some (Prod.ext r.1.symm rfl)
    | succ j =>
      simp only [List.getElem?_cons_succ] at e ⊢
      exact ih e
theorem paired_get {α β : Type} {G : α → β → Prop} {l₁ : List α} {l₂ : List β} (h : Paired G l₁ l₂) : ∀ {i : Nat} {a : α}, l₁[i]? = some a → ∃ b, l₂[i]? = some b ∧ G a b := by
  induction h with
  | nil => intro i a e; simp at e
  | @cons a b l₁ l₂ r t ih =>
    intro i a' e
    cases i with
    | zero =>
      simp only [List.getElem?_cons_zero, Option.some.injEq] at e
      subst e
      exact ⟨b, rfl, r⟩
    | succ j =>
      simp only [List.getElem?_cons_succ] at e ⊢
      exact ih e
theorem relV_key {k : Key} {u : Value} (h : keyIs k u = true) : RelV (kV k) u := by
  rcases keyIs_shape h with ⟨i, t, rfl, rfl⟩ | ⟨x, t, rfl, rfl⟩
  · exact ⟨t, rfl⟩
  · exact ⟨t, rfl⟩
section
variable {X : Cx} {pins : List (Addr × Obj)} {σ : St} {H : Hp} {s : Shared} {d : Addr} {o : Obj}
theorem Inv.frzK {kvs : List (Key × V)} (I : Inv X pins σ H s) (h : H d = some (.frz o (.dK kvs))) :
    (d == sysModules) = false ∧ s.heap.get? d = some o ∧ o.ExactDict ∧ ∃ (es : Array DictEntry) (ep : Nat) (vs : List (Key × Value)), o.data = .dict es ep ∧ es.size = kvs.length ∧ KV kvs vs ∧ s.heap.DictAt (mixKind X.prog X.w) d vs ep := by
  obtain ⟨hd, z, hs, vs, kv, o', es, ep, ho, hx, hdt, r⟩ := I.hok d _ h
  rw [hd] at ho
  cases ho
  refine ⟨hs, hd, hx, es, ep, vs, hdt, ?_, kv, o, es, hd, hx, hdt, r⟩
  have l1 := r.2.1.length
  have l2 : kvs.length = vs.length := Paired.length kv
  rw [Array.length_toList] at l1
  omega
end

def Itd (d : Addr) (o : Obj) (kvs : List (Key × V)) : It :=
  ⟨fun i H => H d = some (.frz o (.dK kvs)) ∧ i < kvs.length, fun i H x H' => H' = H ∧ ∃ k, kvs[i]? = some (k, x), fun i H => H d = some (.frz o (.dK kvs)) ∧ kvs.length ≤ i⟩
def Iti (d : Addr) (o : Obj) (kvs : List (Key × V)) : It :=
  ⟨fun i H => H d = some (.frz o (.dK kvs)) ∧ i < kvs.length, fun i H x H' => ∃ T k v, kvs[i]? = some (k, v) ∧ x = .ref T ∧ H T = none ∧ H' = upd H T (.tup [kV k, v]), fun i H => H d = some (.frz o (.dK kvs)) ∧ kvs.length ≤ i⟩
theorem dict_ep {o : Obj} {es es' : Array DictEntry} {ep ep' : Nat} (h : o.data = .dict es ep) (h' : o.data = .dict es' ep') : es' = es ∧ ep' = ep := by
  rw [h] at h'
  cases h'
  exact ⟨rfl, rfl⟩
section
variable {P : Program} {w : World} {K : PySem.W.Frag} {tg : Expr} {d : Addr} {o : Obj} {es : Array DictEntry} {ep : Nat}
theorem turn_items {kvs : List (Key × V)} {elts : List Expr} {kk : Nat} {tpos : Pos} (it : Addr) (hod : o.data = .dict es ep) :
    Turn P w K (.Tuple elts kk tpos) (Iti d o kvs) [it] it (fun i h => ∃ ok ov, IsItemIter h it d i kvs.length ep ok ov) where
  mem := by simp
  obj := fun i h st b hb => by
    have e : b = it := by simpa using hb
    subst e
    obtain ⟨ok, ov, e⟩ := st
    exact ⟨_, e, fun v z => nomatch z⟩
  keep := fun i h h' st k => let ⟨ok, ov, e⟩ := st; ⟨ok, ov, k it (by simp) _ e⟩
  item := by
    intro X hP hw hK hc i pins s σ H E I hf st hg
    subst hP hw hK
    obtain ⟨hd, hi⟩ := hg
    obtain ⟨hs, hgd, hx, es', ep', vs, hdt, hsz, kv, hm⟩ := I.frzK hd
    obtain ⟨rfl, rfl⟩ := dict_ep hod hdt
    obtain ⟨⟨k, v⟩, hkv⟩ : ∃ p, kvs[i]? = some p := ⟨kvs[i], List.getElem?_eq_getElem hi⟩
    obtain ⟨u, hu, ru⟩ := kv_get kv hkv
    have hl : kvs.length = vs.length := Paired.length kv
    obtain ⟨ok, ov, he⟩ := st
    rw [hl] at he
    have hlt : it < s.heap.objs.size := Heap.lt_size he
    refine wpAny_pyNext_items_item he hm hu fun key h' hkey ho hT hz hk => ?_
    refine ⟨_, rfl, wpAny_letOwnedTupleGo_items (s := { s with heap := h' }) ho fun h'' he' sb => ?_⟩
    have hT2 : h''.get? s.heap.objs.size = some { cls := .type "tuple", data := .seq #[key, u] } := (sb.2 _ (Nat.ne_of_gt hlt)).trans hT
    have new : ObjOk X.prog X.w (upd H s.heap.objs.size (.tup [kV k, v])) h'' s.heap.objs.size (.tup [kV k, v]) :=
      ⟨by show 2 ≤ sizeLine; decide, [key, u], .cons (relV_key (show keyIs k key = true from hkey)) (.cons ru .nil), ⟨_, hT2, rfl, _, rfl⟩⟩
    have I1 : Inv X pins σ (upd H s.heap.objs.size (.tup [kV k, v])) { s with heap := h'' } :=
      I.turnedNew (t' := s.toks) (ch := [it]) (fun b ob hb e => (sb.2 b (by simpa using hb)).trans (hk b ob (by simpa using hb) e)) hf (Nat.le_refl _) new
    refine ⟨.ref s.heap.objs.size, _, I1, rfl, ⟨_, k, v, hkv, rfl, I.hok.fresh (Nat.le_refl _), rfl⟩, ⟨key, u, ?_⟩, fun b hb => ?_⟩
    · rw [hl]; exact he'
    · have e : b = it := by simpa using hb
      rw [e, upd_ne (Nat.ne_of_lt hlt)]
      exact (hf it (by simp)).1
  done := by
    intro X hP hw hK hc i pins s σ H E I hf st hg
    subst hP hw hK
    obtain ⟨hd, hi⟩ := hg
    obtain ⟨f0, f1, f2, f3, f4, f5⟩ := hf it (by simp)
    obtain ⟨hs, hgd, hx, es', ep', vs, hdt, hsz, kv, hm⟩ := I.frzK hd
    obtain ⟨rfl, rfl⟩ := dict_ep hod hdt
    have hl : kvs.length = vs.length := Paired.length kv
    obtain ⟨ok, ov, he⟩ := st
    rw [hl] at he
    exact wpAny_pyNext_items_end (I.ok.hd hc) he hm (List.getElem?_eq_none (by omega)) fun h' eb => ⟨rfl, I.turned (t' := s.toks) (fun b ob hb e => eb b ob hb e) f0 f1 f3 f4 f5⟩
  self := fun A i s Q E st h => let ⟨_, _, e⟩ := st; PySem.W.kcp_self e h
end

def iVals (td : TE) : TI := fun σ H R => td σ H fun x H1 => ∃ d o kvs, x = .ref d ∧ H1 d = some (.frz o (.dK kvs)) ∧ R (Itd d o kvs) H1
def iItems (td : TE) : TI := fun σ H R => td σ H fun x H1 => ∃ d o kvs, x = .ref d ∧ H1 d = some (.frz o (.dK kvs)) ∧ R (Iti d o kvs) H1
section
variable {X : Cx} {tg e : Expr} {td : TE} {apos cpos : Pos}
theorem pi_items {elts : List Expr} {kk : Nat} {tpos : Pos} (he : PE X e td) (hbase : attributeBase e "items" X.env (eval e X.env) = eval e X.env := by rfl) (hline : (apos.endLine == cpos.line) = true := by rfl) :
    PI X (.Tuple elts kk tpos) (.Call (.Attribute e "items" apos) [] [] cpos) (iItems td) := by
  intro pins s σ H R I h
  refine wpAny_Call_method (T := "dict") (id := "dict.items") hbase rfl hline F.plainAttrs_dict F.slot_dict_items F.type_dict_items (thn (he pins s σ H _ I h) fun u s1 ⟨x, H1, I1, rx, d, o, kvs, ex, hd, q⟩ => ?_)
  subst ex
  obtain rfl : u = Value.ref d := rx
  obtain ⟨hs, hgd, hx, es, ep, vs, hdt, hsz, kv, hm⟩ := I1.frzK hd
  have hl : kvs.length = vs.length := Paired.length kv
  refine ⟨hm.dictOf.typeIs, hm.dictOf.mapOf.noDict, ?_⟩
  have I2 : Inv X pins σ H1 { s1 with heap := s1.heap.push { cls := .type "dict_items", data := .fields #[.ref d] } } := I1.kept (t' := s1.toks) fun b ob q => Heap.get?_push_of_some _ q
  have fin : wpAny (model X.prog X.w) X.A (pyIter (.ref s1.heap.objs.size)) (PIE X pins σ (.Tuple elts kk tpos) R) X.xe { s1 with heap := s1.heap.push { cls := .type "dict_items", data := .fields #[.ref d] } } := by
    refine wpAny_pyIter_items (d := d) (knd := mixKind X.prog X.w) ⟨_, Heap.get?_push_size _ rfl, rfl, rfl⟩ (hm.push _) (pi_one (tk := s1.toks) I2 _ (turn_items _ hdt) ⟨.none, .none, ?_⟩ q)
    rw [hl]
    exact Heap.get?_push_size _ rfl
  show wpAny _ _ (callWith cpos (.builtin "dict.items") [.ref d] [] []) _ X.xe s1
  exact method_meetsIn F.slot_dict_items F.entry_dict_items rfl (PySem.evalArgs_none ⟨rfl, hm.dictOf.typeIs, F.args_dict_items_1 _, _, meets_dict_items (mixKind X.prog X.w) d hs, ⟨vs, hm.dictOf⟩, fin⟩)
end

def Ite (K : PySem.W.Frag) (a : Addr) : It :=
  ⟨fun i H => ∃ (xs : List V) (x : V), SqL K H a xs ∧ xs[i]? = some x, fun i H v H' => ∃ T x, v = .ref T ∧ H T = none ∧ H' = upd H T (.tup [.int (i : Nat), x]) ∧ ∀ xs, SqL K H a xs → xs[i]? = some x, fun i H => ∃ xs : List V, SqL K H a xs ∧ xs.length ≤ i⟩
theorem turn_enum {P : Program} {w : World} {K : PySem.W.Frag} {elts : List Expr} {kk : Nat} {tpos : Pos} (a e it : Addr) :
    Turn P w K (.Tuple elts kk tpos) (Ite K a) [e, it] e (fun i h => (∃ old, IsEnum h e it ((i : Nat) : Int) old) ∧ h.IsListIter it a i ∧ e ≠ it) where
  mem := by simp
  obj := fun i h st b hb => by
    obtain ⟨⟨old, he⟩, ⟨o, ho, hc, hd⟩, _⟩ := st
    have e' : b = e ∨ b = it := by simpa using hb
    rcases e' with z | z
    · rw [z]; exact ⟨_, he, fun v q => nomatch q⟩
    · rw [z]; exact ⟨o, ho, fun v q => by rw [hd] at q; cases q⟩
  keep := fun i h h' st k => let ⟨⟨old, he⟩, hi, hne⟩ := st; ⟨⟨old, k e (by simp) _ he⟩, hi.at fun o q => k it (by simp) o q, hne⟩
  item := by
    intro X hP hw hK hc i pins s σ H E I hf st hg
    subst hP hw hK
    obtain ⟨⟨old, he⟩, hit, hne⟩ := st
    obtain ⟨xs, x, hq, hx⟩ := hg
    obtain ⟨its, rv, p, hz⟩ := I.list hq
    obtain ⟨u, hu, ru⟩ := rv.get hx
    have hel : e < s.heap.objs.size := Heap.lt_size he
    have hil : it < s.heap.objs.size := by obtain ⟨_, q, _⟩ := hit; exact Heap.lt_size q
    refine wpAny_pyNext_enum_item he hit p.isList (x := u) (by simpa using hu) hne fun h' ho hit' hT hsz hk => ?_
    refine ⟨_, rfl, wpAny_letOwnedTupleGo_enum (s := { s with heap := h', toks := s.toks + 1 }) ho fun h'' he' sb => ?_⟩
    have hT2 : h''.get? s.heap.objs.size = some { cls := .type "tuple", data := .seq #[.int i s.toks, u] } := (sb.2 _ (Nat.ne_of_gt hel)).trans hT
    have new : ObjOk X.prog X.w (upd H s.heap.objs.size (.tup [.int (i : Nat), x])) h'' s.heap.objs.size (.tup [.int (i : Nat), x]) :=
      ⟨by show 2 ≤ sizeLine; decide, [.int i s.toks, u], .cons ⟨_, rfl⟩ (.cons ru .nil), ⟨_, hT2, rfl, _, rfl⟩⟩
    have I1 : Inv X pins σ (upd H s.heap.objs.size (.tup [.int (i : Nat), x])) { s with heap := h'', toks := s.toks + 1 } :=
      I.turnedNew (ch := [e, it]) (fun b ob hb q => (sb.2 b (fun z => hb (by simp [z]))).trans (hk b ob (fun z => hb (by simp [z])) (fun z => hb (by simp [z])) q)) hf (Nat.le_refl _) new
    refine ⟨.ref s.heap.objs.size, _, I1, rfl, ⟨_, x, rfl, I.hok.fresh (Nat.le_refl _), rfl, fun ys hy => by rw [I.list_inj hy hq]; exact hx⟩, ⟨⟨u, ?_⟩, hit'.at fun o q => (sb.2 it (Ne.symm hne)).trans q, hne⟩, fun b hb => ?_⟩
    · have e1 : ((i + 1 : Nat) : Int) = (i : Int) + 1 := by omega
      rw [e1]; exact he'
    · have hb' : b < s.heap.objs.size := by
        have e' : b = e ∨ b = it := by simpa using hb
        rcases e' with z | z
        · rw [z]; exact hel
        · rw [z]; exact hil
      rw [upd_ne (Nat.ne_of_lt hb')]
      exact (hf b hb).1
  done := by
    intro X hP hw hK hc i pins s σ H E I hf st hg
    subst hP hw hK
    obtain ⟨⟨old, he⟩, hit, hne⟩ := st
    obtain ⟨xs, hq, hx⟩ := hg
    obtain ⟨its, rv, p, hz⟩ := I.list hq
    obtain ⟨f0, f1, f2, f3, f4, f5⟩ := hf it (by simp)
    have hl := rv.length
    exact wpAny_pyNext_enum_end (I.ok.hd hc) he hit p.isList (by simp; omega) fun h' eb => ⟨rfl, I.turned (t' := s.toks) (fun b o hb q => eb b o hb q) f0 f1 f3 f4 f5⟩
  self := fun A i s Q E st h => let ⟨⟨_, he⟩, _⟩ := st; wpAny_pyIter_enum he h
def iEnum (K : PySem.W.Frag) (ta : TA) : TI := fun σ H R => ta σ H fun vs H1 => ∃ a xs, vs = [.ref a] ∧ SqL K H1 a xs ∧ R (Ite K a) H1
theorem pi_enum {X : Cx} {e : Expr} {ta : TA} {p pos tpos : Pos} {elts : List Expr} {kk : Nat} (hg : Gl X "enumerate") (hm : X.mg "enumerate" = none) (ha : PA X [e] ta) (hs : starEach [e] X.env = [(false, eval e X.env)] := by rfl) :
    PI X (.Tuple elts kk tpos) (.Call (.Name "enumerate" p) [e] [] pos) (iEnum X.K ta) := by
  intro pins s σ H R I h
  refine Call_ (ld_blt I hg hm boot_enumerate (PyProof.Rows.callWith_type1 (thn (ha pos pins s σ H _ I h) fun us s1 ⟨vs, H1, I1, r1, q1⟩ => ?_) hs rfl))
  obtain ⟨a, xs, ex, hq, q⟩ := q1
  subst ex
  cases r1 with
  | cons r rr =>
    cases rr
    cases r
    obtain ⟨its, rv, p', hz⟩ := I1.list hq
    refine call_enumerate_list p'.isList fun h' he hit hsz hk => wpAny_pyIter_enum he ?_
    have I2 : Inv X pins σ H1 { s1 with heap := h' } := I1.kept (t' := s1.toks) hk
    refine ⟨s1.heap.objs.size + 1, [s1.heap.objs.size + 1, s1.heap.objs.size], _, _, H1, rfl, I2, turn_enum a (s1.heap.objs.size + 1) s1.heap.objs.size, ⟨⟨.none, he⟩, hit, Nat.succ_ne_self _⟩, fun b hb => ?_, q⟩
    have e' : b = s1.heap.objs.size + 1 ∨ b = s1.heap.objs.size := by simpa using hb
    have hle : s1.heap.objs.size ≤ b := by
      rcases e' with z | z
      · rw [z]; exact Nat.le_add_right _ _
      · rw [z]; exact Nat.le_refl _
    exact I1.fpOk hle (I1.hok.fresh hle)
end L2

section 
namespace Bits
open PySem PyProof.Rows

end Bits
end 

section 
namespace TL
open PySem PySem.Builtin PySem.Builtin.Str PySem.StrLaws

end TL
end 

namespace L2
open PySem PySem.Spec PyProof.Rows

section
variable {X : Cx} {pins : List (Addr × Obj)} {σ : St} {H : Hp} {s : Shared} {Q : VK}
end

section
variable {X : Cx}

end

section
variable {X : Cx} {o e : Expr} {to te : TE}
end
end L2

namespace L2
open PySem PySem.Spec PyProof.Rows

section
variable {X : Cx}
end

end L2

namespace Att
open PySem PySem.W PySem.Calls PyProof.Rows

section
variable {prog : Program} {w : World} {A : Around} {E : Value → Shared → Prop} {s : Shared} {K : Frag}

end
end Att

namespace L2
open PySem PySem.Spec PyProof.Rows

end L2

namespace L2
open PySem PySem.Spec PyProof.Rows

end L2

namespace L2
open PySem PySem.Spec PyProof.Rows

def inClass (s : Stmt) (j : Nat) : Stmt := match s with
  | .ClassDef _ _ _ body _ _ _ _ _ _ _ => body.getD j (.Pass ⟨0, 0, 0, 0⟩)
  | _ => .Pass ⟨0, 0, 0, 0⟩
def defArgs (s : Stmt) : Arguments := match s with
  | .FunctionDef _ a _ _ _ _ _ _ _ _ => a
  | _ => { posonlyargs := [], args := [], vararg := none, kwonlyargs := [], kw_defaults := [], kwarg := none, defaults := [] }
def defBody (s : Stmt) : List Stmt := match s with
  | .FunctionDef _ _ b _ _ _ _ _ _ _ => b
  | _ => []
def defScope (s : Stmt) : Scope := match s with
  | .FunctionDef _ _ _ _ _ _ sc _ _ _ => sc
  | _ => { kind := .function, names := [], isGenerator := false, isCoroutine := false }

abbrev CX0 : CXT := fun _ _ _ _ _ _ => False
abbrev E0 : XK := fun _ _ _ => False
theorem pass0 {X : Cx} : Passes CX0 X E0 := fun _ _ _ _ _ _ _ h => h.elim

structure Fun (K : PySem.W.Frag) (x qual : Str) (st : Stmt) (f : Addr) (fd : FuncData) : Prop where
  ex : ∃ (oc : Value) (od : Option Addr) (kV doc pm : Value) (an : Option Addr) (cdv ct : Value) (osl : Array (Option Value)),
    fd = PySem.W.fnOf x qual (defArgs st) (defBody st) (defScope st) .none kV doc pm an cdv ct ∧ K.lookup f = some ⟨oc, od, .func fd, osl⟩ ∧ PySem.W.codeIn K cdv qual = true
  kp : PySem.W.keepIn K (.ref f) = true
section
variable {P : Program} {w : World} {K : PySem.W.Frag} {mg : Str → Option Value} {base : Heap}
theorem Fun.ok {x qual : Str} {st : Stmt} {f : Addr} {fd : FuncData} {N ps : List Str} {k : Nat} {sp : Sp} (F : Fun K x qual st f fd) (S : FnScope N ps (defScope st)) (len : ∀ vs H Q E, sp vs H Q E → vs.length = ps.length)
    (hbody : ∀ (cdv : Value) (A : Around) (outer : List Env) (s : Shared) (H : Hp) (vs : List V) (Q : VK) (E : XK), Room k (A.deeper (envOfC qual (defScope st) s.heap.objs.size f cdv)) → sp vs H Q E →
      ∃ t, PSs (cxOf CX0 P w K mg base N qual (defScope st) f cdv A outer s H E).nox (defBody st) t ∧ t { nx := fun _ H' => Q .non H', rt := Q } (start N vs) H) : FnOk P w K mg base CX0 (k + 1) f fd ps sp := by
  obtain ⟨oc, od, kV, doc, pm, an, cdv, ct, osl, rfl, lk, hcd⟩ := F.ex
  refine fn_of lk hcd S len fun A outer s H vs Q E hr hsp => ?_
  obtain ⟨t, h, q⟩ := hbody cdv A outer s H vs Q E hr hsp
  exact ⟨t, h.nox, q⟩
theorem Fun.binds {x qual : Str} {st : Stmt} {f : Addr} {fd : FuncData} {ps : List Str} (F : Fun K x qual st f fd)
    (h : ∀ (kV doc pm : Value) (an : Option Addr) (cdv ct : Value) (us : List Value), us.length = ps.length → bindArgs (PySem.W.fnOf x qual (defArgs st) (defBody st) (defScope st) .none kV doc pm an cdv ct) ⟨us, []⟩ = pure (ps.zip us)) : Binds K fd ps [] := by
  obtain ⟨oc, od, kV, doc, pm, an, cdv, ct, osl, rfl, lk, hcd⟩ := F.ex
  exact .all (h kV doc pm an cdv ct)
theorem fun_mk {x qual : Str} {st : Stmt} {f : Addr} {oc : Value} {od an : Option Addr} {osl : Array (Option Value)} {kV doc pm cdv ct : Value} (l : K.lookup f = some ⟨oc, od, .func (PySem.W.fnOf x qual (defArgs st) (defBody st) (defScope st) .none kV doc pm an cdv ct), osl⟩)
    (c : PySem.W.codeIn K cdv qual = true) (k : PySem.W.keepIn K (.ref f) = true) : Fun K x qual st f (PySem.W.fnOf x qual (defArgs st) (defBody st) (defScope st) .none kV doc pm an cdv ct) := ⟨⟨oc, od, kV, doc, pm, an, cdv, ct, osl, rfl, l, c⟩, k⟩
end
theorem hu_of {A : Around} {k : Nat} (hr : Room k A) : A.units + 1 < cLine := Nat.lt_of_le_of_lt (Nat.add_le_add_left (by decide : 1 ≤ 64) _) hr.units
section
variable {X : Cx}
theorem pv (i : Nat) {x : Str} {pos : Pos} (hN : X.N[i]? = some x := by rfl) (hv : Vis X.env.scope x := by first | exact Or.inl rfl | exact Or.inr (Or.inl rfl) | exact Or.inr (Or.inr rfl)) (hd : (x == ("__debug__" : Str)) = false := by decide)
    (hcd : (x == ("__classdict__" : Str)) = false := by decide) : PE X (.Name x pos) (tVar i) := pe_var hN hv hd hcd
theorem call_lenD : CallR X (.builtin "len") (fun xs H Q => ∃ a kvs, xs = [V.ref a] ∧ H a = some (.dK kvs) ∧ Q (.int kvs.length) H) := by
  intro pins s σ H xs us Q I r h
  obtain ⟨a, kvs, rfl, ha, q⟩ := h
  obtain ⟨u, rfl, ru⟩ := vals1 r
  cases ru
  exact d_len I (.inl ha) fun t s' I' => ⟨.int kvs.length, H, I', ⟨t, rfl⟩, q⟩
end

def Same (H H' : Hp) : Prop := ∀ b o, H b = some o → H' b = some o
theorem Same.refl (H : Hp) : Same H H := fun _ _ h => h
theorem Same.trans {H H1 H2 : Hp} (a : Same H H1) (b : Same H1 H2) : Same H H2 := fun c o h => b c o (a c o h)
theorem Same.free {H H' : Hp} (e : Same H H') {l : Addr} (h : H' l = Option.none) : H l = Option.none := by
  cases q : H l with
  | none => rfl
  | some o =>
    rw [e l o q] at h
    cases h
theorem Same.seq {K : PySem.W.Frag} {H H' : Hp} {a : Addr} {xs : List V} (e : Same H H') (h : SqL K H a xs) : SqL K H' a xs := by
  rcases h with (h | ⟨o, h⟩) | h
  · exact .inl (.inl (e _ _ h))
  · exact .inl (.inr ⟨o, e _ _ h⟩)
  · exact .inr h

section
variable {κ : Type} [DecidableEq κ]
theorem valV_not {kvs : List (κ × V)} {k : κ} (h : valV kvs k = none) : ¬ k ∈ kvs.map (·.1) := by
  intro m
  obtain ⟨p, hp, e⟩ := List.mem_map.mp m
  have q : (kvs.any fun kv => decide (kv.1 = k)) = true := List.any_eq_true.mpr ⟨p, hp, decide_eq_true e⟩
  rw [valV_any, h] at q
  exact absurd q (by simp)
theorem nd_snoc : ∀ {l : List κ} {k : κ}, l.Nodup → ¬ k ∈ l → (l ++ [k]).Nodup
  | [], k, _, _ => by simp
  | a :: r, k, h, hk => by
    obtain ⟨h1, h2⟩ := List.nodup_cons.mp h
    show (a :: (r ++ [k])).Nodup
    refine List.nodup_cons.mpr ⟨fun m => ?_, nd_snoc h2 fun m => hk (List.mem_cons.mpr (Or.inr m))⟩
    rcases List.mem_append.mp m with q | q
    · exact h1 q
    · exact hk (List.mem_cons.mpr (Or.inl (List.mem_singleton.mp q).symm))
theorem dropK_pos {p : κ × V} {r : List (κ × V)} {k : κ} (e : p.1 = k) : dropK (p :: r) k = dropK r k := by
  unfold dropK
  rw [List.filter_cons, if_neg (by simp [e])]
theorem dropK_neg {p : κ × V} {r : List (κ × V)} {k : κ} (e : ¬ p.1 = k) : dropK (p :: r) k = p :: dropK r k := by
  unfold dropK
  rw [List.filter_cons, if_pos (by simp [e])]
theorem dropK_mem {kvs : List (κ × V)} {k : κ} {p : κ × V} (h : p ∈ dropK kvs k) : p ∈ kvs := (List.mem_filter.mp h).1
theorem nd_dropK : ∀ {kvs : List (κ × V)} {k : κ}, (kvs.map (·.1)).Nodup → ((dropK kvs k).map (·.1)).Nodup
  | [], _, _ => List.nodup_nil
  | p :: r, k, h => by
    have h : (p.1 :: r.map (·.1)).Nodup := h
    obtain ⟨h1, h2⟩ := List.nodup_cons.mp h
    by_cases e : p.1 = k
    · rw [dropK_pos e]
      exact nd_dropK h2
    · rw [dropK_neg e]
      show (p.1 :: (dropK r k).map (·.1)).Nodup
      refine List.nodup_cons.mpr ⟨fun m => h1 ?_, nd_dropK h2⟩
      obtain ⟨q, hq, eq⟩ := List.mem_map.mp m
      exact List.mem_map.mpr ⟨q, dropK_mem hq, eq⟩
end
theorem Same.made {H H1 : Hp} {x dx C : Addr} (nx : H x = Option.none) (nd : H dx = Option.none) (k : ∀ b o, (upd (upd H dx (.own x)) x (.ins C dx [])) b = some o → b ≠ x → H1 b = some o) : Same H H1 := fun b o e =>
  k b o (by rw [upd_ne (ne_of_none e nx), upd_ne (ne_of_none e nd)]; exact e) (ne_of_none e nx)
end L2
end
section
section
namespace L2
open PySem PySem.Spec PyProof.Rows
open PySem.W (WData Codec OpenSpec Well WellAll ReadsW ReadsAllW)
/-! ### an answer as data -/
mutual
/-- x stands for the datum d, lists and tuples all the way -/
inductive Dw (K : PySem.W.Frag) (H : Hp) : V → WData → Prop
  | non : Dw K H .non .none
  | bl (b : Bool) : Dw K H (.bl b) (.bool b)
  | int (i : Int) : Dw K H (.int i) (.int i)
  | str (x : Str) : Dw K H (.str x) (.str x)
  | byt (b : Array UInt8) : Dw K H (.byt b) (.bytes b.toList)
  | lst {a : Addr} {xs : List V} {ds : List WData} : SqL K H a xs → DwAll K H xs ds → Dw K H (.ref a) (.list ds)
  | tup {a : Addr} {xs : List V} {ds : List WData} : SqT K H a xs → DwAll K H xs ds → Dw K H (.ref a) (.tuple ds)
inductive DwAll (K : PySem.W.Frag) (H : Hp) : List V → List WData → Prop
  | nil : DwAll K H [] []
  | cons {v : V} {vs : List V} {d : WData} {ds : List WData} : Dw K H v d → DwAll K H vs ds → DwAll K H (v :: vs) (d :: ds)
end
theorem dw_ints {K : PySem.W.Frag} {H : Hp} : ∀ ns : List Int, DwAll K H (ns.map V.int) (ns.map WData.int)
  | [] => .nil
  | n :: r => .cons (.int n) (dw_ints r)
theorem ints_dw {K : PySem.W.Frag} {H : Hp} : ∀ (ns : List Int) (xs : List V), DwAll K H xs (ns.map WData.int) → xs = ns.map V.int
  | [], xs, h => by
    cases h
    rfl
  | n :: r, xs, h => by
    cases h with
    | cons h1 h2 =>
      cases h1
      rw [ints_dw r _ h2] <;> rfl
section
variable {P : Program} {w : World} {K : PySem.W.Frag} {H : Hp} {h : Heap} {R : PySem.W.WRecords} {cl : Str → Option Addr}
theorem sqL_at {a : Addr} {xs : List V} (hok : HOk P w H h) (KX : K.In h) (q : SqL K H a xs) : ∃ (its : List Value) (o : Obj) (n : Nat), Vals xs its ∧ h.get? a = some o ∧ o.cls = .type "list" ∧ o.data = .seq its.toArray n := by
  rcases q with q | ⟨o, its, n, e, hc, _, hd, _, hv⟩
  · obtain ⟨_, its, n, hv, e⟩ := (show ObjOk P w H h a (.lst xs) from q.ok hok)
    exact ⟨its, _, n, hv, e, rfl, rfl⟩
  · exact ⟨its.toList, o, n, hv, KX _ _ e, hc, by simp [hd]⟩
theorem sqT_at {a : Addr} {xs : List V} (hok : HOk P w H h) (KX : K.In h) (q : SqT K H a xs) : ∃ (its : List Value) (o : Obj) (n : Nat), Vals xs its ∧ h.get? a = some o ∧ o.cls = .type "tuple" ∧ o.data = .seq its.toArray n := by
  rcases q with q | ⟨o, its, n, e, hc, hd, _, hv⟩
  · obtain ⟨_, its, hv, o, e, hc, n, hd⟩ := (show ObjOk P w H h a (.tup xs) from q.ok hok)
    exact ⟨its, o, n, hv, e, hc, hd⟩
  · exact ⟨its.toList, o, n, hv, KX _ _ e, hc, by simp [hd]⟩
mutual
theorem Dw.reads (hok : HOk P w H h) (KX : K.In h) : ∀ (d : WData) (v : V) (u : Value), Dw K H v d → RelV v u → ∃ as, ReadsW R cl h u d as
  | .none, _, _, x, r => by
    cases x
    cases r
    exact ⟨_, ReadsW.none⟩
  | .bool b, _, _, x, r => by
    cases x
    cases r
    exact ⟨_, ReadsW.bool b⟩
  | .int i, _, _, x, r => by
    cases x
    obtain ⟨t, rfl⟩ := r
    exact ⟨_, ReadsW.int i t⟩
  | .str s, _, _, x, r => by
    cases x
    obtain ⟨t, rfl⟩ := r
    exact ⟨_, ReadsW.str s t⟩
  | .bytes b, _, _, x, r => by
    cases x
    obtain ⟨t, rfl⟩ := r
    exact ⟨_, ReadsW.bytes _ t⟩
  | .list ds, _, _, x, r => by
    cases x with
    | lst hs ha =>
      cases r
      obtain ⟨its, o, n, rv, ho, hc, hd⟩ := sqL_at hok KX hs
      obtain ⟨as, hr⟩ := Dw.readsAll hok KX ds _ its ha rv
      exact ⟨_, ReadsW.list ho hc hd hr⟩
  | .tuple ds, _, _, x, r => by
    cases x with
    | tup hs ha =>
      cases r
      obtain ⟨its, o, n, rv, ho, hc, hd⟩ := sqT_at hok KX hs
      obtain ⟨as, hr⟩ := Dw.readsAll hok KX ds _ its ha rv
      exact ⟨_, ReadsW.tuple ho hc hd hr⟩
  | .float _, _, _, x, _ => by cases x
  | .dict _, _, _, x, _ => by cases x
  | .bytearray _, _, _, x, _ => by cases x
  | .set _, _, _, x, _ => by cases x
  | .frozenset _, _, _, x, _ => by cases x
  | .obj _ _, _, _, x, _ => by cases x
theorem Dw.readsAll (hok : HOk P w H h) (KX : K.In h) : ∀ (ds : List WData) (vs : List V) (us : List Value), DwAll K H vs ds → Vals vs us → ∃ as, ReadsAllW R cl h us ds as
  | [], _, _, x, r => by
    cases x
    cases r
    exact ⟨_, ReadsAllW.nil⟩
  | d :: ds, _, _, x, r => by
    cases x with
    | cons h1 h2 =>
      cases r with
      | cons r1 r2 =>
        obtain ⟨as, q1⟩ := Dw.reads hok KX d _ _ h1 r1
        obtain ⟨bs, q2⟩ := Dw.readsAll hok KX ds _ _ h2 r2
        exact ⟨_, ReadsAllW.cons q1 q2⟩
end
end
/-! ### the arguments -/
mutual
/-- data that a codec tells -/
def plW : WData → Bool
  | .none => true
  | .bool _ => true
  | .int _ => true
  | .str _ => true
  | .bytes _ => true
  | .list xs => plWs xs
  | .tuple xs => plWs xs
  | _ => false
def plWs : List WData → Bool
  | [] => true
  | x :: r => plW x && plWs r
end
theorem plWs_map {α : Type} {f : α → WData} (h : ∀ a, plW (f a) = true) : ∀ l : List α, plWs (l.map f) = true
  | [] => rfl
  | x :: r => by
    show (plW (f x) && plWs (r.map f)) = true
    rw [h x, plWs_map h r] <;> rfl
theorem pl_enc : ∀ (c : Codec) (a : c.denote), plW (c.enc a) = true
  | .unit, _ => rfl
  | .bool, _ => rfl
  | .int _ _, _ => rfl
  | .nat _ _, _ => rfl
  | .u8, _ => rfl
  | .bytes _ _, _ => rfl
  | .text _ _ _ _, _ => rfl
  | .list _ _ c, a => plWs_map (fun x => pl_enc c x) a
  | .pair c d, a => by
    show (plW (c.enc a.1) && (plW (d.enc a.2) && true)) = true
    rw [pl_enc c a.1, pl_enc d a.2] <;> rfl
  | .triple c d e, a => by
    show (plW (c.enc a.1) && (plW (d.enc a.2.1) && (plW (e.enc a.2.2) && true))) = true
    rw [pl_enc c a.1, pl_enc d a.2.1, pl_enc e a.2.2] <;> rfl
  | .option c, none => rfl
  | .option c, some x => pl_enc c x
theorem pl_encAll : ∀ (cs : List Codec) (a : Codec.denoteAll cs), plWs (Codec.encAll cs a) = true
  | [], _ => rfl
  | c :: cs, a => by
    show (plW (c.enc a.1) && plWs (Codec.encAll cs a.2)) = true
    rw [pl_enc c a.1, pl_encAll cs a.2] <;> rfl
theorem weight_mem : ∀ {xs : List WData} {d : WData}, d ∈ xs → d.weight ≤ WData.weightAll xs
  | [], d, h => absurd h (by simp)
  | x :: r, d, h => by
    show d.weight ≤ x.weight + 1 + WData.weightAll r
    rcases List.mem_cons.mp h with e | m
    · rw [e]
      omega
    · have z := weight_mem m
      omega
def toV : Value → V
  | .none => .non
  | .bool b => .bl b
  | .int i _ => .int i
  | .str x _ => .str x
  | .bytes b _ => .byt b
  | .ref a => .ref a
  | _ => .non
/-- a value of the arguments, its objects among A -/
def OkU (A : List Addr) : Value → Prop
  | .none => True
  | .bool _ => True
  | .int _ _ => True
  | .str _ _ => True
  | .bytes _ _ => True
  | .ref a => a ∈ A
  | _ => False
theorem OkU.mono {A B : List Addr} (h : ∀ a ∈ A, a ∈ B) : ∀ {u : Value}, OkU A u → OkU B u := fun {u} x => by
  cases u with
  | ref a => exact h a x
  | none => trivial
  | bool b => trivial
  | int i t => trivial
  | str s t => trivial
  | bytes b t => trivial
  | _ => exact False.elim x
theorem relV_toV {A : List Addr} {u : Value} (x : OkU A u) : RelV (toV u) u := by
  cases u with
  | ref a => rfl
  | none => rfl
  | bool b => rfl
  | int i t => exact ⟨t, rfl⟩
  | str s t => exact ⟨t, rfl⟩
  | bytes b t => exact ⟨t, rfl⟩
  | _ => exact False.elim x
theorem vals_toV {A : List Addr} : ∀ {vs : List Value}, (∀ u ∈ vs, OkU A u) → Vals (vs.map toV) vs
  | [], _ => .nil
  | u :: r, h => .cons (relV_toV (h u (List.mem_cons_self ..))) (vals_toV fun x hx => h x (List.mem_cons_of_mem _ hx))
/-- an object of the arguments -/
def ArgOb (h : Heap) (A : List Addr) (a : Addr) : Prop := ∃ vs : List Value, vs.length ≤ sizeLine ∧ (∀ u ∈ vs, OkU A u) ∧
  (h.get? a = some { cls := .type "list", data := .seq vs.toArray } ∨ h.get? a = some { cls := .type "tuple", data := .seq vs.toArray })
theorem ArgOb.mono {h : Heap} {A B : List Addr} {a : Addr} (k : ∀ a ∈ A, a ∈ B) (x : ArgOb h A a) : ArgOb h B a := by
  obtain ⟨vs, h1, h2, h3⟩ := x
  exact ⟨vs, h1, fun u hu => (h2 u hu).mono k, h3⟩
theorem wellAll_len {P : Params} {h : Heap} : ∀ {vs : List Value} {ds : List WData}, WellAll P h vs ds → vs.length = ds.length
  | _, _, .nil => rfl
  | _, _, .cons _ b => by
    show _ + 1 = _ + 1
    rw [wellAll_len b]
theorem well_list {P : Params} {h : Heap} {v : Value} {ds : List WData} (x : Well P h v (.list ds)) : ∃ (a : Addr) (vs : List Value), v = .ref a ∧ h.get? a = some { cls := .type "list", data := .seq vs.toArray } ∧ WellAll P h vs ds := by
  cases x with
  | list ho hall => exact ⟨_, _, rfl, ho, hall⟩
theorem well_tuple {P : Params} {h : Heap} {v : Value} {ds : List WData} (x : Well P h v (.tuple ds)) : ∃ (a : Addr) (vs : List Value), v = .ref a ∧ h.get? a = some { cls := .type "tuple", data := .seq vs.toArray } ∧ WellAll P h vs ds := by
  cases x with
  | tuple ho hall => exact ⟨_, _, rfl, ho, hall⟩
theorem well_cons {P : Params} {h : Heap} {us : List Value} {d : WData} {ds : List WData} (x : WellAll P h us (d :: ds)) : ∃ (v : Value) (vs : List Value), us = v :: vs ∧ Well P h v d ∧ WellAll P h vs ds := by
  cases x with
  | cons a b => exact ⟨_, _, rfl, a, b⟩
theorem line_of {n : Nat} (h : n ≤ 1048576) : n ≤ sizeLine := Nat.le_trans h (by decide)
section
variable {P : Params} {h : Heap}
mutual
theorem area_one : ∀ (d : WData) (v : Value), Well P h v d → plW d = true → d.weight ≤ 1048576 → ∃ A : List Addr, OkU A v ∧ ∀ a ∈ A, ArgOb h A a
  | .none, _, x, _, _ => by
    cases x
    exact ⟨[], trivial, fun a m => absurd m (by simp)⟩
  | .bool b, _, x, _, _ => by
    cases x
    exact ⟨[], trivial, fun a m => absurd m (by simp)⟩
  | .int i, _, x, _, _ => by
    cases x
    exact ⟨[], trivial, fun a m => absurd m (by simp)⟩
  | .str s, _, x, _, _ => by
    cases x
    exact ⟨[], trivial, fun a m => absurd m (by simp)⟩
  | .bytes b, _, x, _, _ => by
    cases x
    exact ⟨[], trivial, fun a m => absurd m (by simp)⟩
  | .list ds, _, x, p, z => by
    obtain ⟨a, vs, rfl, ho, hall⟩ := well_list x
    have z2 : WData.weightAll ds ≤ 1048576 := z
    obtain ⟨A, h1, h2⟩ := area_all ds _ hall p fun d hd => Nat.le_trans (weight_mem hd) z2
    have k : ∀ b ∈ A, b ∈ a :: A := fun b hb => List.mem_cons_of_mem _ hb
    refine ⟨a :: A, List.mem_cons_self .., fun b hb => ?_⟩
    rcases List.mem_cons.mp hb with e | m
    · rw [e]
      exact ⟨vs, line_of (by rw [wellAll_len hall]; exact Nat.le_trans (PySem.W.length_le_weightAllW ds) z2), fun u hu => (h1 u hu).mono k, .inl ho⟩
    · exact (h2 b m).mono k
  | .tuple ds, _, x, p, z => by
    obtain ⟨a, vs, rfl, ho, hall⟩ := well_tuple x
    have z2 : WData.weightAll ds ≤ 1048576 := z
    obtain ⟨A, h1, h2⟩ := area_all ds _ hall p fun d hd => Nat.le_trans (weight_mem hd) z2
    have k : ∀ b ∈ A, b ∈ a :: A := fun b hb => List.mem_cons_of_mem _ hb
    refine ⟨a :: A, List.mem_cons_self .., fun b hb => ?_⟩
    rcases List.mem_cons.mp hb with e | m
    · rw [e]
      exact ⟨vs, line_of (by rw [wellAll_len hall]; exact Nat.le_trans (PySem.W.length_le_weightAllW ds) z2), fun u hu => (h1 u hu).mono k, .inr ho⟩
    · exact (h2 b m).mono k
  | .float _, _, _, p, _ => Bool.noConfusion (show false = true from p)
  | .dict _, _, _, p, _ => Bool.noConfusion (show false = true from p)
  | .bytearray _, _, _, p, _ => Bool.noConfusion (show false = true from p)
  | .set _, _, _, p, _ => Bool.noConfusion (show false = true from p)
  | .frozenset _, _, _, p, _ => Bool.noConfusion (show false = true from p)
  | .obj _ _, _, _, p, _ => Bool.noConfusion (show false = true from p)
theorem area_all : ∀ (ds : List WData) (vs : List Value), WellAll P h vs ds → plWs ds = true → (∀ d ∈ ds, d.weight ≤ 1048576) → ∃ A : List Addr, (∀ u ∈ vs, OkU A u) ∧ ∀ a ∈ A, ArgOb h A a
  | [], _, x, _, _ => by
    cases x
    exact ⟨[], fun u m => absurd m (by simp), fun a m => absurd m (by simp)⟩
  | d :: ds, _, x, p, z => by
    obtain ⟨v, vs, rfl, x1, x2⟩ := well_cons x
    have q : plW d = true ∧ plWs ds = true := Bool.and_eq_true_iff.mp p
    obtain ⟨A, a1, a2⟩ := area_one d v x1 q.1 (z d (List.mem_cons_self ..))
    obtain ⟨B, b1, b2⟩ := area_all ds vs x2 q.2 fun e he => z e (List.mem_cons_of_mem _ he)
    have kA : ∀ b ∈ A, b ∈ A ++ B := fun b hb => List.mem_append.mpr (.inl hb)
    have kB : ∀ b ∈ B, b ∈ A ++ B := fun b hb => List.mem_append.mpr (.inr hb)
    refine ⟨A ++ B, fun u hu => ?_, fun b hb => ?_⟩
    · rcases List.mem_cons.mp hu with e | m
      · rw [e]
        exact a1.mono kA
      · exact (b1 u m).mono kB
    · rcases List.mem_append.mp hb with m | m
      · exact (a2 b m).mono kA
      · exact (b2 b m).mono kB
end
end
/-- what is tracked of an argument's object -/
def hoOf (o : Obj) : Option HO := match o.data with
  | .seq vs _ => if (o.cls == Value.type "list") = true then some (.frz o (.lst (vs.toList.map toV))) else some (.frz o (.tup (vs.toList.map toV)))
  | _ => none
def argH (K : PySem.W.Frag) (h : Heap) (A : List Addr) : Hp := fun b => if b ∈ A then (if (K.lookup b).isNone = true then (h.get? b).bind hoOf else none) else none
/-- nothing is tracked but what is known to the object -/
def OnlyF (H : Hp) : Prop := ∀ b, H b = none ∨ ∃ o u, H b = some (.frz o u)
theorem hoOf_lst (vs : List Value) : hoOf { cls := .type "list", data := .seq vs.toArray } = some (.frz { cls := .type "list", data := .seq vs.toArray } (.lst (vs.map toV))) := by
  show (if (Value.type "list" == Value.type "list") = true then some (HO.frz { cls := .type "list", data := .seq vs.toArray } (.lst (vs.toArray.toList.map toV))) else some (HO.frz { cls := .type "list", data := .seq vs.toArray } (.tup (vs.toArray.toList.map toV)))) = _
  rw [if_pos (beq_self_eq_true _)]
theorem hoOf_tup (vs : List Value) : hoOf { cls := .type "tuple", data := .seq vs.toArray } = some (.frz { cls := .type "tuple", data := .seq vs.toArray } (.tup (vs.map toV))) := by
  show (if (Value.type "tuple" == Value.type "list") = true then some (HO.frz { cls := .type "tuple", data := .seq vs.toArray } (.lst (vs.toArray.toList.map toV))) else some (HO.frz { cls := .type "tuple", data := .seq vs.toArray } (.tup (vs.toArray.toList.map toV)))) = _
  rw [if_neg (by decide)]
section
variable {P : Program} {w : World} {K : PySem.W.Frag} {h : Heap} {A : List Addr}
theorem argH_at {b : Addr} {o : Obj} (hb : b ∈ A) (hk : K.lookup b = none) (e : h.get? b = some o) : argH K h A b = hoOf o := by
  unfold argH
  rw [if_pos hb, hk, if_pos (show (none : Option Obj).isNone = true from rfl), e] <;> rfl
theorem of_argH {b : Addr} {u : HO} (q : argH K h A b = some u) : b ∈ A ∧ K.lookup b = none := by
  unfold argH at q
  by_cases hb : b ∈ A
  · rw [if_pos hb] at q
    cases hk : K.lookup b with
    | none => exact ⟨hb, rfl⟩
    | some o =>
      rw [hk, if_neg (by simp)] at q
      cases q
  · rw [if_neg hb] at q
    cases q
/-- what stands tracked -/
theorem argH_is (ar : ∀ a ∈ A, ArgOb h A a) {b : Addr} {u : HO} (q : argH K h A b = some u) : K.lookup b = none ∧ ∃ vs : List Value, vs.length ≤ sizeLine ∧ (∀ u ∈ vs, OkU A u) ∧
    ((h.get? b = some { cls := .type "list", data := .seq vs.toArray } ∧ u = .frz { cls := .type "list", data := .seq vs.toArray } (.lst (vs.map toV))) ∨
     (h.get? b = some { cls := .type "tuple", data := .seq vs.toArray } ∧ u = .frz { cls := .type "tuple", data := .seq vs.toArray } (.tup (vs.map toV)))) := by
  obtain ⟨hb, hk⟩ := of_argH q
  obtain ⟨vs, h1, h2, h3⟩ := ar b hb
  refine ⟨hk, vs, h1, h2, ?_⟩
  rcases h3 with e | e
  · rw [argH_at hb hk e, hoOf_lst] at q
    exact .inl ⟨e, (Option.some.inj q).symm⟩
  · rw [argH_at hb hk e, hoOf_tup] at q
    exact .inr ⟨e, (Option.some.inj q).symm⟩
theorem argH_only (ar : ∀ a ∈ A, ArgOb h A a) : OnlyF (argH K h A) := fun b => by
  cases q : argH K h A b with
  | none => exact .inl rfl
  | some u =>
    obtain ⟨_, vs, _, _, ⟨_, e⟩ | ⟨_, e⟩⟩ := argH_is ar q
    · exact .inr ⟨_, _, by rw [e]⟩
    · exact .inr ⟨_, _, by rw [e]⟩
theorem argH_ok (ar : ∀ a ∈ A, ArgOb h A a) : HOk P w (argH K h A) h := fun b u q => by
  obtain ⟨_, vs, h1, h2, ⟨e, rfl⟩ | ⟨e, rfl⟩⟩ := argH_is ar q
  · exact ⟨e, by rw [List.length_map]; exact h1, vs, _, vals_toV h2, e⟩
  · exact ⟨e, by rw [List.length_map]; exact h1, vs, vals_toV h2, _, e, rfl, _, rfl⟩
theorem seq_inj {c c' : Value} {vs us : List Value} (e : (some { cls := c, data := .seq vs.toArray } : Option Obj) = some { cls := c', data := .seq us.toArray }) : c = c' ∧ vs = us := by
  have e1 := Option.some.inj e
  have e2 : c = c' := congrArg Obj.cls e1
  have e3 : Data.seq vs.toArray = Data.seq us.toArray := congrArg Obj.data e1
  injection e3 with e4
  refine ⟨e2, ?_⟩
  have e5 := congrArg Array.toList e4
  simpa using e5
/-- a list argument -/
theorem argL (KX : K.In h) (ar : ∀ a ∈ A, ArgOb h A a) {a : Addr} {vs : List Value} (ha : a ∈ A) (e : h.get? a = some { cls := .type "list", data := .seq vs.toArray }) : (∀ u ∈ vs, OkU A u) ∧ SqL K (argH K h A) a (vs.map toV) := by
  obtain ⟨us, h1, h2, h3⟩ := ar a ha
  have hu : us = vs := by
    rcases h3 with q | q
    · rw [e] at q
      exact (seq_inj q).2.symm
    · rw [e] at q
      exact absurd (Value.type.inj (seq_inj q).1) (by decide)
  subst hu
  refine ⟨h2, ?_⟩
  cases hk : K.lookup a with
  | none => exact .inl (.inr ⟨_, by rw [argH_at ha hk e, hoOf_lst]⟩)
  | some o =>
    have e2 := KX a o hk
    rw [e] at e2
    obtain rfl := Option.some.inj e2
    exact .inr ⟨_, us.toArray, _, hk, rfl, rfl, rfl, by rw [List.size_toArray]; exact h1, by simpa using vals_toV h2⟩
theorem argT (KX : K.In h) (ar : ∀ a ∈ A, ArgOb h A a) {a : Addr} {vs : List Value} (ha : a ∈ A) (e : h.get? a = some { cls := .type "tuple", data := .seq vs.toArray }) : (∀ u ∈ vs, OkU A u) ∧ SqT K (argH K h A) a (vs.map toV) := by
  obtain ⟨us, h1, h2, h3⟩ := ar a ha
  have hu : us = vs := by
    rcases h3 with q | q
    · rw [e] at q
      exact absurd (Value.type.inj (seq_inj q).1) (by decide)
    · rw [e] at q
      exact (seq_inj q).2.symm
  subst hu
  refine ⟨h2, ?_⟩
  cases hk : K.lookup a with
  | none => exact .inl (.inr ⟨_, by rw [argH_at ha hk e, hoOf_tup]⟩)
  | some o =>
    have e2 := KX a o hk
    rw [e] at e2
    obtain rfl := Option.some.inj e2
    exact .inr ⟨_, us.toArray, _, hk, rfl, rfl, by rw [List.size_toArray]; exact h1, by simpa using vals_toV h2⟩
mutual
theorem dw_one {Pm : Params} (KX : K.In h) (ar : ∀ a ∈ A, ArgOb h A a) : ∀ (d : WData) (v : Value), Well Pm h v d → plW d = true → OkU A v → Dw K (argH K h A) (toV v) d
  | .none, _, x, _, _ => by
    cases x
    exact .non
  | .bool b, _, x, _, _ => by
    cases x
    exact .bl b
  | .int i, _, x, _, _ => by
    cases x
    exact .int i
  | .str s, _, x, _, _ => by
    cases x
    exact .str s
  | .bytes b, _, x, _, _ => by
    cases x
    have z := Dw.byt (K := K) (H := argH K h A) b.toArray
    exact z
  | .list ds, _, x, p, hu => by
    obtain ⟨a, vs, rfl, ho, hall⟩ := well_list x
    obtain ⟨h2, hs⟩ := argL KX ar hu ho
    exact .lst hs (dw_all KX ar ds _ hall p h2)
  | .tuple ds, _, x, p, hu => by
    obtain ⟨a, vs, rfl, ho, hall⟩ := well_tuple x
    obtain ⟨h2, hs⟩ := argT KX ar hu ho
    exact .tup hs (dw_all KX ar ds _ hall p h2)
  | .float _, _, _, p, _ => Bool.noConfusion (show false = true from p)
  | .dict _, _, _, p, _ => Bool.noConfusion (show false = true from p)
  | .bytearray _, _, _, p, _ => Bool.noConfusion (show false = true from p)
  | .set _, _, _, p, _ => Bool.noConfusion (show false = true from p)
  | .frozenset _, _, _, p, _ => Bool.noConfusion (show false = true from p)
  | .obj _ _, _, _, p, _ => Bool.noConfusion (show false = true from p)
theorem dw_all {Pm : Params} (KX : K.In h) (ar : ∀ a ∈ A, ArgOb h A a) : ∀ (ds : List WData) (vs : List Value), WellAll Pm h vs ds → plWs ds = true → (∀ u ∈ vs, OkU A u) → DwAll K (argH K h A) (vs.map toV) ds
  | [], _, x, _, _ => by
    cases x
    exact .nil
  | d :: ds, _, x, p, hu => by
    obtain ⟨v, vs, rfl, x1, x2⟩ := well_cons x
    have q : plW d = true ∧ plWs ds = true := Bool.and_eq_true_iff.mp p
    exact .cons (dw_one KX ar d v x1 q.1 (hu _ (List.mem_cons_self ..))) (dw_all KX ar ds vs x2 q.2 fun u m => hu u (List.mem_cons_of_mem _ m))
end
end
/-! ### the call -/
theorem spec_call {P : Program} {w : World} {K : PySem.W.Frag} {mg mb : Str → Option Value} {CX : CXT} {k : Nat} {fa : Addr} {fd : FuncData} {ps : List Str} {sp : Sp} {s₁ : Shared} {vals : List Value} {ds : List WData} {R : PySem.W.WRecords} {cl : Str → Option Addr} {d0 : WData}
    (KX : K.In s₁.heap) (hns : s₁.heap.Ns mainGlobals mg) (hb : s₁.heap.Ns builtinsNs mb) (hbb : ∀ x : Str, x ≠ "__name__" → mb x = bootBuiltins x) (hlim : s₁.heap.NoLimit) (hg : s₁.gens = #[])
    (hwl : WellAll w.params s₁.heap vals ds) (hpl : plWs ds = true) (hwt : ∀ d ∈ ds, d.weight ≤ 1048576) (hr : Room k callerA)
    (F : ∀ base : Heap, K.In base → base.Ns mainGlobals mg → FnOk P w K mg base CX k fa fd ps sp) (hbind : ∀ (s : Shared) (us : List Value), us.length = ps.length → BindsTo s fd ⟨us, []⟩ (ps.zip us)) (hlen : ds.length = ps.length)
    (hsp : ∀ (H : Hp) (xs : List V), OnlyF H → DwAll K H xs ds → sp xs H (fun v H' => Dw K H' v d0) fun _ _ _ => False)
    (hCX : ∀ H e s', CX [] H s₁ (fun _ _ _ => False) e s' → False) :
    codeAny (model P w) callerA (.call (.ref fa) ⟨vals, []⟩) (fun r s' => ∃ u as, r = .ok (.ret u) ∧ ReadsW R cl s'.heap u d0 as ∧ OldK s₁.heap s'.heap ∧ s'.os = s₁.os ∧ AllBare s'.gens) s₁ := by
  obtain ⟨A, ho, ar⟩ := area_all ds vals hwl hpl hwt
  have hO : OnlyF (argH K s₁.heap A) := argH_only ar
  have hok : HOk P w (argH K s₁.heap A) s₁.heap := argH_ok ar
  have hS := dw_all KX ar ds vals hwl hpl ho
  have hV := vals_toV ho
  have hK : ∀ b u, argH K s₁.heap A b = some u → K.lookup b = none := fun b u q => (argH_is ar q).1
  have noA : ∀ {b : Addr} {o : Obj} {es : Array DictEntry} {ep : Nat}, s₁.heap.get? b = some o → o.data = .dict es ep → argH K s₁.heap A b = none := fun {b o es ep} e d => by
    cases q : argH K s₁.heap A b with
    | none => rfl
    | some u =>
      obtain ⟨_, vs, _, _, ⟨e2, _⟩ | ⟨e2, _⟩⟩ := argH_is ar q
      · rw [e2] at e
        cases e
        have d' : Data.seq vs.toArray _ = Data.dict es ep := d
        cases d'
      · rw [e2] at e
        cases e
        have d' : Data.seq vs.toArray _ = Data.dict es ep := d
        cases d'
  generalize argH K s₁.heap A = H at hO hok hS hK noA
  have base_of : ∀ {b : Addr} {o : Obj}, s₁.heap.get? b = some o → H b = none → (hidT s₁.heap H).get? b = some o := fun e n => hidT_get e n
  have nsK : ∀ {b : Addr} {m : Str → Option Value}, s₁.heap.Ns b m → (hidT s₁.heap H).Ns b m := fun {b m} ⟨o, es, ep, e, d, r⟩ => ⟨o, es, ep, base_of e (noA e d), d, r⟩
  have nK : ∀ b o, K.lookup b = some o → H b = none := fun b o e => by
    cases q : H b with
    | none => rfl
    | some u =>
      rw [hK b u q] at e
      cases e
  have hKb : K.In (hidT s₁.heap H) := fun b o e => base_of (KX b o e) (nK b o e)
  have hM : Mod K mg (hidT s₁.heap H) := ⟨hKb, nsK hns, ⟨mb, nsK hb, hbb⟩, let ⟨mc, h1, h2⟩ := hlim; ⟨mc, nsK h1, h2⟩⟩
  have e0 : Env0 P w K mg (hidT s₁.heap H) callerA [] s₁ H := ⟨rfl, hM, fun b o e => of_hidT e, Nat.le_of_eq (hidT_size _ _), trivial, fun b hb => absurd (show b ∈ ([] : List Addr) from hb) (by simp), hok, .of_eq hg⟩
  have hl : vals.length = ps.length := by rw [wellAll_len hwl]; exact hlen
  refine codeAny_mono ((F _ hKb (nsK hns)).run callerA [] s₁ H ⟨vals, []⟩ vals (vals.map toV) _ _ hr e0 (hbind s₁ vals hl) hV (hsp H _ hO hS)) fun r s' x => ?_
  cases r with
  | error e => exact (hCX H e s' x).elim
  | ok fl =>
    cases fl with
    | next => exact False.elim x
    | brk => exact False.elim x
    | cont => exact False.elim x
    | ret u =>
      obtain ⟨v, H', os, bare, un, hok', r', q⟩ := x
      have kept : ∀ b o, s₁.heap.get? b = some o → s'.heap.get? b = some o := fun b o e => by
        cases q2 : H b with
        | none => exact un.keep b o e q2 (by intro z; exact absurd (show b ∈ ([] : List Addr) from z) (by simp)) (by simp)
        | some u2 =>
          rcases hO b with z | ⟨ob, u3, z⟩
          · rw [q2] at z
            cases z
          · have z2 := un.frzs b ob _ z
            obtain ⟨e1, _⟩ := hok b _ z
            obtain ⟨e2, _⟩ := hok' b _ z2
            rw [e] at e1
            cases e1
            exact e2
      have KX' : K.In s'.heap := fun b o e => kept b o (KX b o e)
      obtain ⟨as, hrd⟩ := Dw.reads (R := R) (cl := cl) hok' KX' d0 v u q r'
      exact ⟨u, as, rfl, hrd, OldK.of_keep kept, os, bare⟩
/-! ### the row -/
theorem layable_weight {ds : List WData} (h : WData.layableAll ds = true) : ∀ d ∈ ds, d.weight ≤ 1048576 := fun d hd =>
  (PySem.W.layableW_iff.mp (List.all_eq_true.mp h d hd)).2.2
theorem encAll_len : ∀ (cs : List Codec) (a : Codec.denoteAll cs), (Codec.encAll cs a).length = cs.length
  | [], _ => rfl
  | c :: cs, a => by
    show (Codec.encAll cs a.2).length + 1 = cs.length + 1
    rw [encAll_len cs a.2]
/-- the goal that k_headS leaves (case hc), from the promise of the row's def: whatever the arguments that the codecs let and the row asks for, the def gives what stands for enc (f ..) -/
theorem walk_spec {r : OpenSpec} {k : Nat} {q : Program} {loose : List Str} {XP : (Str → Option Value) → Heap → Prop} {YP : World → Heap → Prop} {d : DefRec} {K : Params → PySem.W.Frag} {CX : World → CXT} {ps : List Str} {sp : World → Sp}
    (hwell : r.wellSaid = true) (hdf : d.params.defaults = []) (hlen : r.args.length = ps.length) (hr : Room k callerA)
    (hY : ∀ (w : World) (h : Heap), YP w h → (K w.params).In h)
    (F : ∀ (w : World) (mg : Str → Option Value) (fa : Addr) (h : Heap), YP w h → (K w.params).In h → h.Ns mainGlobals mg → mg d.name = some (.ref fa) →
      ∃ fd : FuncData, (∀ (s : Shared) (us : List Value), us.length = ps.length → BindsTo s fd ⟨us, []⟩ (ps.zip us)) ∧
        ∀ base : Heap, (K w.params).In base → base.Ns mainGlobals mg → FnOk r.prog w (K w.params) mg base (CX w) k fa fd ps (sp w))
    (hsp : ∀ (w : World) (H : Hp) (xs : List V) (a : Codec.denoteAll r.args), OnlyF H → Codec.withinAll r.args a = true → Codec.app r.args r.asked a = true → DwAll (K w.params) H xs (Codec.encAll r.args a) →
      sp w xs H (fun v H' => Dw (K w.params) H' v (r.ret.enc (Codec.app r.args r.f a))) fun _ _ _ => False)
    (hCX : ∀ (w : World) (H : Hp) (s : Shared) (e : Value) (s' : Shared), CX w [] H s (fun _ _ _ => False) e s' → False) :
    PySem.W.WalkOS q loose XP YP r d [] (fun f vs => PySem.call f vs) := by
  intro w s_0 s₁ mg mb G Y fa o pm cd doc dV kV ho hd hcd hD hmg hg args vals as hpre hlay hrd hwl hlo
  obtain ⟨a, e1, e2⟩ := PySem.W.os_pre_some hpre
  obtain ⟨e3, hwi⟩ := Codec.encAll_of_decAll r.args args a e1
  subst e3
  have KX := hY w _ Y
  obtain ⟨fd, hb, hF⟩ := F w mg fa _ Y KX G.T.g hmg
  refine PySem.W.enter_call (codeAny_mono (spec_call (R := []) (cl := classAt s_0.heap) (d0 := r.ret.enc (Codec.app r.args r.f a)) KX G.T.g G.T.b G.T.builtins G.T.nolimit hg hwl (pl_encAll _ _) (layable_weight hlay) hr hF hb (by rw [encAll_len]; exact hlen)
    (fun H xs hO hS => hsp w H xs a hO hwi e2 hS) fun H e s' => hCX w H s₁ e s') fun r' s' hq => ?_)
  obtain ⟨u, as', rfl, h1, h2, h3, h4⟩ := hq
  exact ⟨.inl ⟨u, _, as', rfl, fun _ => rfl, h1, (OpenSpec.post_iff hwell hwi _ _).mpr rfl, fun z => Bool.noConfusion (show false = true from z)⟩, h2, h3, h4⟩
/-- the same where the promise hangs on the written part alone -/
theorem walk_specK {r : OpenSpec} {k : Nat} {q : Program} {loose : List Str} {XP : (Str → Option Value) → Heap → Prop} {YP : World → Heap → Prop} {d : DefRec} {K : Params → PySem.W.Frag} {CX : CXT} {ps : List Str} {sp : PySem.W.Frag → Sp}
    (hwell : r.wellSaid = true) (hdf : d.params.defaults = []) (hlen : r.args.length = ps.length) (hr : Room k callerA)
    (hY : ∀ (w : World) (h : Heap), YP w h → (K w.params).In h)
    (F : ∀ (w : World) (mg : Str → Option Value) (fa : Addr) (h : Heap), YP w h → (K w.params).In h → h.Ns mainGlobals mg → mg d.name = some (.ref fa) →
      ∃ fd : FuncData, (∀ (s : Shared) (us : List Value), us.length = ps.length → BindsTo s fd ⟨us, []⟩ (ps.zip us)) ∧
        ∀ base : Heap, (K w.params).In base → base.Ns mainGlobals mg → FnOk r.prog w (K w.params) mg base CX k fa fd ps (sp (K w.params)))
    (hsp : ∀ (K : PySem.W.Frag) (H : Hp) (xs : List V) (a : Codec.denoteAll r.args), OnlyF H → Codec.withinAll r.args a = true → Codec.app r.args r.asked a = true → DwAll K H xs (Codec.encAll r.args a) →
      sp K xs H (fun v H' => Dw K H' v (r.ret.enc (Codec.app r.args r.f a))) fun _ _ _ => False)
    (hCX : ∀ (H : Hp) (s : Shared) (e : Value) (s' : Shared), CX [] H s (fun _ _ _ => False) e s' → False) :
    PySem.W.WalkOS q loose XP YP r d [] (fun f vs => PySem.call f vs) :=
  walk_spec (K := K) (CX := fun _ => CX) (sp := fun w => sp (K w.params)) hwell hdf hlen hr hY F (fun w H xs a h1 h2 h3 h4 => hsp (K w.params) H xs a h1 h2 h3 h4) fun _ H s e s' => hCX H s e s'
end L2
end
end
section
/-! ### max(xs, default=d) -/
namespace PySem
open PySem.AutoSeq1 in
theorem ext_tup (l : Addr) (items : Array Value) (n : Nat) (b : Addr) (items2 : Array Value) (n2 : Nat) (dd : Option Addr) (sl : Array (Option Value)) (hs0 : ¬(!items.isEmpty && Builtin.List.listTooLong (items.size + items2.size)) = true) (hs1 : items.size ≤ sizeLine) (hs2 : items.size + items2.size ≤ sizeLine + 1) :
    Meets (Builtin.«list.extend» ⟨[.ref l, .ref b], []⟩) (fun _ R s => s.heap.get? l = some { cls := .type "list", dict := none, data := .seq items n, slots := #[] } ∧ s.heap.get? b = some { cls := .type "tuple", dict := dd, data := .seq items2 n2, slots := sl } ∧ R (.ok (.ret Value.none)) { s with heap := s.heap.update l (Obj.mapSeq fun x => x ++ items2), toks := s.toks }) :=
  .of_wp fun prog w A R s h => by
    obtain ⟨hp, g, d, tk, os⟩ := s; obtain ⟨hl, hb, h⟩ := h; have f1 := idx_int; have f2 := sub_tuple_tuple; have f3 := sub_list_list; have f4 := sub_tuple_list; have f5 := sub_list_tuple;
    have hz' : (items ++ items2).size ≤ sizeLine + 1 := by rw [Array.size_append]; exact hs2
    wp_walk using (wpAny_updateSeq hl rfl (hz := hs1) (_hz' := hz')), wpAny_loadPart' hl, wpAny_loadPart' hb; exact ⟨_, rfl, h⟩
open Sem (wp)
section
variable {prog : Program} {w : World} {A : Around} {R : Result → Shared → Prop} {I : Addr} {fp wr : List Addr} {n : Nat} {P : Nat → Value → Prop} {St : Nat → Heap → Prop}
theorem mx_turns (kw : List (Str × Value)) (W : Walks prog w A.in1 I fp wr n P St) (bt : Nat → Nat → Bool) (hcmp : CmpOf prog w A.in1 .Gt P bt) (S : Addr) (hSf : S ∉ fp) :
    ∀ (k j : Nat) (s : Shared) (vb : Value) (c : Nat), n - (j + 1) = k → j + 1 ≤ n → St (j + 1) s.heap → P (argBest bt j) vb →
    s.heap.get? S = some { cls := .type "list", dict := none, data := .seq #[vb, vb] c, slots := #[] } →
    (∀ v h' tk, P (argBest bt (n - 1)) v → (∀ b o, b ∉ wr → b ≠ S → s.heap.get? b = some o → h'.get? b = some o) → R (.ok (.ret v)) { s with heap := h', toks := tk }) →
    codeAny (model prog w) A (.builtin "max.loop" ⟨[.ref I, .none, .ref S], kw⟩) R s := by
  have hSw : S ∉ wr := fun h => hSf (W.sub _ h)
  have hname : (toString "max" ++ toString ".loop" : String) = "max.loop" := by decide
  intro k
  induction k with
  | zero =>
    intro j s vb c hk hj hst hPb hS hR
    have hin : j + 1 = n := by omega
    refine codeAny_builtin F.entry_max_loop ?_
    rw [Around.under_plainId F.plain_max_loop _]
    show wpAny _ A.in1 (seqItems? (.ref S) >>= _) _ _ s
    refine wpAny_bind (wpAny_seqItems hS rfl ?_)
    show wpAny _ A.in1 (tryCatch (pyNext (.ref I)) _ >>= _) _ _ s
    refine wpAny_bind (wpAny_tryCatch (W.done s _ _ (hin ▸ hst) fun h' tk hk' => ?_))
    have hS' := hk' S _ hSw hS
    show wpAny _ A.in1 (updateSeq S (fun _ => #[]) >>= _) _ _ _
    refine wpAny_bind ?_
    refine wpAny_updateSeq hS' rfl (wpAny_bind (wpAny_letGo (wpAny_pure ?_)))
    refine hR vb _ tk (by rw [← hin]; exact hPb) fun b o hbw hbS e => (Heap.get?_update_other _ _ (Ne.symm hbS)).trans (hk' b o hbw e)
  | succ k ih =>
    intro j s vb c hk hj hst hPb hS hR
    have hlt : j + 1 < n := by omega
    refine codeAny_builtin F.entry_max_loop ?_
    rw [Around.under_plainId F.plain_max_loop _]
    show wpAny _ A.in1 (seqItems? (.ref S) >>= _) _ _ s
    refine wpAny_bind (wpAny_seqItems hS rfl ?_)
    show wpAny _ A.in1 (tryCatch (pyNext (.ref I)) _ >>= _) _ _ s
    refine wpAny_bind (wpAny_tryCatch (W.item (j + 1) s _ _ hlt hst fun v h' tk hP hst' hk' => ?_))
    have hS' := hk' S _ hSw hS
    show wpAny _ A.in1 (tryCatch (holding [v, v] (richCompare .Gt v vb >>= _)) _ >>= _) _ _ _
    refine wpAny_bind (wpAny_tryCatch (wpAny_holding (wpAny_bind (hcmp (j + 1) (argBest bt j) v vb _ _ _ hP hPb ?_))))
    refine wpAny_bind (wpAny_holding (wpAny_truthy_bool ?_))
    refine wpAny_bind (wpAny_letGo (wpAny_pure ?_))
    cases hb : bt (j + 1) (argBest bt j) with
    | true =>
      simp only [if_true]
      refine wpAny_bind ?_
      refine wpAny_updateSeq hS' rfl (wpAny_bind (wpAny_letGo ?_))
      rw [hname]
      refine wpAny_pure ⟨plainId_quiet F.plain_max_loop _, ih (j + 1) _ v _ (by omega) hlt (W.frame _ _ _ hst' fun b hbf o e => ?_) (by simp only [argBest, hb, if_true]; exact hP) (Heap.get?_update_self _ hS' rfl)
        fun v' h'' tk'' hP' hk'' => ?_⟩
      · exact (Heap.get?_update_other _ _ (fun h : S = b => hSf (by rw [h]; exact hbf))).trans e
      · exact hR v' h'' tk'' hP' fun b o hbw hbS e => hk'' b o hbw hbS ((Heap.get?_update_other _ _ (Ne.symm hbS)).trans (hk' b o hbw e))
    | false =>
      simp only [Bool.false_eq_true, if_false]
      refine wpAny_bind (wpAny_letGo ?_)
      rw [hname]
      refine wpAny_pure ⟨plainId_quiet F.plain_max_loop _, ih (j + 1) _ vb c (by omega) hlt hst' (by simp only [argBest, hb, Bool.false_eq_true, if_false]; exact hPb) hS' fun v' h'' tk'' hP' hk'' => ?_⟩
      exact hR v' h'' tk'' hP' fun b o hbw hbS e => hk'' b o hbw hbS (hk' b o hbw e)
theorem mx_first (kw : List (Str × Value)) (W : Walks prog w A.in1 I fp wr n P St) (bt : Nat → Nat → Bool) (hcmp : CmpOf prog w A.in1 .Gt P bt) (S : Addr) (hSf : S ∉ fp) (hn : 0 < n) {s : Shared} {c : Nat} (hst : St 0 s.heap)
    (hS : s.heap.get? S = some { cls := .type "list", dict := none, data := .seq #[] c, slots := #[] })
    (hR : ∀ v h' tk, P (argBest bt (n - 1)) v → (∀ b o, b ∉ wr → b ≠ S → s.heap.get? b = some o → h'.get? b = some o) → R (.ok (.ret v)) { s with heap := h', toks := tk }) :
    codeAny (model prog w) A (.builtin "max.loop" ⟨[.ref I, .none, .ref S], kw⟩) R s := by
  have hSw : S ∉ wr := fun h => hSf (W.sub _ h)
  have hname : (toString "max" ++ toString ".loop" : String) = "max.loop" := by decide
  refine codeAny_builtin F.entry_max_loop ?_
  rw [Around.under_plainId F.plain_max_loop _]
  show wpAny _ A.in1 (seqItems? (.ref S) >>= _) _ _ s
  refine wpAny_bind (wpAny_seqItems hS rfl ?_)
  show wpAny _ A.in1 (tryCatch (pyNext (.ref I)) _ >>= _) _ _ s
  refine wpAny_bind (wpAny_tryCatch (W.item 0 s _ _ hn hst fun v h' tk hP hst' hk' => ?_))
  have hS' := hk' S _ hSw hS
  show wpAny _ A.in1 (updateSeq S (fun _ => #[v, v]) >>= _) _ _ _
  refine wpAny_bind ?_
  refine wpAny_updateSeq hS' rfl ?_
  rw [hname]
  refine wpAny_pure ⟨plainId_quiet F.plain_max_loop _, mx_turns kw W bt hcmp S hSf _ 0 _ v _ rfl hn (W.frame _ _ _ hst' fun b hbf o e => ?_) hP (Heap.get?_update_self _ hS' rfl) fun v' h'' tk'' hP' hk'' => ?_⟩
  · exact (Heap.get?_update_other _ _ (fun h : S = b => hSf (by rw [h]; exact hbf))).trans e
  · exact hR v' h'' tk'' hP' fun b o hbw hbS e => hk'' b o hbw hbS ((Heap.get?_update_other _ _ (Ne.symm hbS)).trans (hk' b o hbw e))
theorem mx_none {d : Value} {nm : Str} (W : Walks prog w A.in1 I fp wr n P St) (S : Addr) (hSf : S ∉ fp) (hn : n = 0) {s : Shared} {c : Nat} (hst : St 0 s.heap)
    (hS : s.heap.get? S = some { cls := .type "list", dict := none, data := .seq #[] c, slots := #[] })
    (hR : ∀ h' tk, (∀ b o, b ∉ wr → b ≠ S → s.heap.get? b = some o → h'.get? b = some o) → R (.ok (.ret d)) { s with heap := h', toks := tk }) :
    codeAny (model prog w) A (.builtin "max.loop" ⟨[.ref I, .none, .ref S], [(nm, d)]⟩) R s := by
  refine codeAny_builtin F.entry_max_loop ?_
  rw [Around.under_plainId F.plain_max_loop _]
  show wpAny _ A.in1 (seqItems? (.ref S) >>= _) _ _ s
  refine wpAny_bind (wpAny_seqItems hS rfl ?_)
  show wpAny _ A.in1 (tryCatch (pyNext (.ref I)) _ >>= _) _ _ s
  refine wpAny_bind (wpAny_tryCatch (W.done s _ _ (hn ▸ hst) fun h' tk hk' => ?_))
  show wpAny _ A.in1 (rule _ >>= _) _ _ _
  refine wpAny_bind (wpAny_rule (wpAny_pure ?_))
  exact hR h' tk fun b o hbw hbS e => hk' b o hbw e
end
section
variable {prog : Program} {w : World} {A : Around} {E : Value → Shared → Prop} {s : Shared}
theorem mx_args (a v : Value) : argsOk "max" ⟨[a], [(Str.ofString "default", v)]⟩ := by unfold argsOk; kernel_rfl
theorem mx_call {l : Addr} {xs : Array (Int × Tok)} {d : Value} {Q : Value → Shared → Prop} (hh : A.handled = none) (hl : s.heap.IsList l (intItems xs))
    (h0 : xs.size = 0 → ∀ h' tk, (∀ b o, s.heap.get? b = some o → h'.get? b = some o) → Q d { s with heap := h', toks := tk })
    (h1 : 0 < xs.size → ∀ v h' tk, (intItems xs)[argBest (fun i j => decide (numAt xs i > numAt xs j)) (xs.size - 1)]? = some v → (∀ b o, s.heap.get? b = some o → h'.get? b = some o) → Q v { s with heap := h', toks := tk }) :
    wpAny (model prog w) A (call (.builtin "max") [.ref l] [(Str.ofString "default", d)]) Q E s := by
  have hname : (toString "max" ++ toString ".loop" : String) = "max.loop" := by decide
  refine PyProof.Rows.kmk_tree F.kind_max F.plain_max F.entry_max (mx_args _ _) ?_
  show wpAny _ A.in1 (Builtin.Builtins.bindParams "max" ["key", "default"] 0 ⟨[], [(Str.ofString "default", d)]⟩ >>= _) _ _ s
  refine wpAny_bind (wpAny_of_eq (show Builtin.Builtins.bindParams "max" ["key", "default"] 0 ⟨[], [(Str.ofString "default", d)]⟩ = pure [none, some d] from rfl) ?_)
  refine wpAny_bind (wpAny_pure ?_)
  refine wpAny_bind (iter_intList hl fun s2 e st hfp hlI => ?_)
  subst e
  refine wpAny_bind (wpAny_newObj_type ?_)
  have hsz : (intItems xs).size = xs.size := by simp [intItems]
  have W := Walks.list (prog := prog) (w := w) (A := A.in1) hh s.heap.objs.size l hlI (intItems xs)
  rw [hname]
  have hSf : ∀ b ∈ [s.heap.objs.size, l], (s.heap.push { cls := .type "list_iterator", data := .fields #[.ref l, .int 0 0] }).objs.size ≠ b := fun b hb q => Nat.lt_irrefl _ (q ▸ hfp b hb)
  have hst2 := W.frame 0 _ ((s.heap.push { cls := .type "list_iterator", data := .fields #[.ref l, .int 0 0] }).push { cls := .type "list", data := .seq #[] }) st fun b _ o e => Heap.get?_push_of_some _ e
  have drop : ∀ {h' : Heap}, (∀ b o, b ∉ [s.heap.objs.size] → b ≠ (s.heap.push { cls := .type "list_iterator", data := .fields #[.ref l, .int 0 0] }).objs.size → ((s.heap.push { cls := .type "list_iterator", data := .fields #[.ref l, .int 0 0] }).push { cls := .type "list", data := .seq #[] }).get? b = some o → h'.get? b = some o) →
      ∀ b o, s.heap.get? b = some o → h'.get? b = some o := fun hk b o e => by
    have hb := Heap.lt_size e
    refine hk b o (fun m => ?_) (fun q => ?_) (Heap.get?_push_of_some _ (Heap.get?_push_of_some _ e))
    · rw [List.mem_singleton.mp m] at hb
      exact Nat.lt_irrefl _ hb
    · have hb2 : b = s.heap.objs.size + 1 := q.trans (Heap.size_push ..)
      rw [hb2] at hb
      exact absurd hb (Nat.not_lt.mpr (Nat.le_succ _))
  refine wpAny_pure ⟨plainId_quiet F.plain_max_loop _, ?_⟩
  by_cases hz : xs.size = 0
  · refine mx_none W _ (fun m => hSf _ m rfl) (hsz.trans hz) hst2 (Heap.get?_push_size _ rfl) fun h' tk hk => ?_
    exact h0 hz h' tk (drop hk)
  · refine mx_first _ W _ (CmpOf.ints_gt (numAt xs) (fun _ _ => intItems_at)) _ (fun m => hSf _ m rfl) (by omega) hst2 (Heap.get?_push_size _ rfl) fun v h' tk hP hk => ?_
    exact h1 (by omega) v h' tk (by simpa [intItems] using hP) (drop hk)
end
end PySem
namespace L2
open PySem PySem.Spec PyProof.Rows
section
variable {X : Cx}
theorem mx_raw {prog : Program} {w : World} {A : Around} {E : Value → Shared → Prop} {s : Shared} {l : Addr} {its : List Value} {ns : List Int} {d : Value} {Q : Value → Shared → Prop} (hh : A.handled = none) (hl : s.heap.IsList l its.toArray) (hi : IntsAre its ns)
    (h0 : ns = [] → ∀ h' tk, (∀ b o, s.heap.get? b = some o → h'.get? b = some o) → Q d { s with heap := h', toks := tk })
    (h : ∀ h' tk M t', (∀ b o, s.heap.get? b = some o → h'.get? b = some o) → M ∈ ns → (∀ a, a ∈ ns → a ≤ M) → Q (.int M t') { s with heap := h', toks := tk }) : wpAny (model prog w) A (call (.builtin "max") [.ref l] [(Str.ofString "default", d)]) Q E s := by
  obtain ⟨xs, e⟩ := hi.allInts.items
  have hn : numsOf (intItems xs).toList = ns := by rw [← e]; exact hi.numsOf
  rw [nums_intItems] at hn
  subst hn
  rw [e] at hl
  refine PySem.mx_call hh hl (fun hz h' tk hk => h0 (by simpa using hz) h' tk hk) (fun hz v h' tk hv hk => ?_)
  obtain ⟨t, rfl⟩ := intItems_at hv
  obtain ⟨g1, g2⟩ := argBest_gt (numAt xs) (xs.size - 1)
  refine h h' tk _ t hk ?_ fun a ha => ?_
  · rw [numAt_eq]; exact PySem.getD_mem (by rw [List.length_map, Array.length_toList]; omega)
  · obtain ⟨j, hj, rfl⟩ := mem_getD ha
    rw [List.length_map, Array.length_toList] at hj
    rw [← numAt_eq]; exact g2 j (by omega)
/-- max(xs, default=d): xs a list of ints, d an int -/
def tMaxD (K : PySem.W.Frag) (t tk : TA) : TE := fun σ H Q => t σ H fun vs H1 => tk σ H1 fun zs H2 => ∃ (a : Addr) (ns : List Int) (d : Int), vs = [.ref a] ∧ zs = [.int d] ∧ SqL K H2 a (ns.map V.int) ∧ (ns = [] → Q (.int d) H2) ∧ ∀ m, m ∈ ns → (∀ y, y ∈ ns → y ≤ m) → Q (.int m) H2
theorem pe_maxD {e d : Expr} {t tk : TA} {p pos kp : Pos} (hc : X.calm = true) (hg : Gl X "max") (hm : X.mg "max" = none) (ha : PA X [e] t) (hkw : PK X [⟨some "default", d, kp⟩] tk)
    (he : backTo pos (starEach [e] X.env) = (false, eval e X.env) :: backTo pos (starEach [] X.env) := by rfl) (hpl : (backTo pos (starEach [e] X.env)).any (·.1) = false := by rfl) :
    PE X (.Call (.Name "max" p) [e] [⟨some "default", d, kp⟩] pos) (tMaxD X.K t tk) := by
  intro pins s σ H Q I h
  refine wpAny_Call_Name_kw (ld_blt I hg hm (u := .builtin "max") (by decide +kernel) ?_ (by decide) (by decide))
  refine PyProof.Rows.callWith_kw (thn (ha pos pins s σ H _ I h) fun us s1 ⟨vs, H1, I1, r1, q1⟩ => ?_) he hpl
  refine thn (hkw pos pins s1 σ H1 _ I1 q1) fun ws s2 ⟨zs, H2, I2, r2, q2⟩ => ?_
  obtain ⟨a, ns, d, rfl, rfl, hs, h0, h1⟩ := q2
  obtain ⟨its, rv, hl, _⟩ := I2.list hs
  obtain ⟨u, rfl, ru⟩ := vals1 r2
  rw [Vals.ref1 r1]
  refine mx_raw (I2.ok.hd hc) hl.isList rv.ints (fun hz h' tk hk => ⟨.int d, H2, I2.kept hk, ru, h0 hz⟩) fun h' tk m t' hk g1 g2 => ⟨.int _, H2, I2.kept hk, ⟨_, rfl⟩, h1 m g1 g2⟩

/-! ### xs.insert(0, v); xs.extend(t), t a tuple -/
def rInsert0 : V → List V → Hp → VK → Prop := fun x vs H Q => ∃ l xs y, x = .ref l ∧ vs = [.int 0, y] ∧ H l = some (.lst xs) ∧ xs.length < sizeLine ∧ Q .non (upd H l (.lst (y :: xs)))
theorem mt_insert0 : MtM X "list.insert" rInsert0 := by
  intro pins s σ H x vs v us Q I rx rv h
  obtain ⟨l, xs, y, rfl, rfl, hH, hz, q⟩ := h
  cases rx
  obtain ⟨u, u2, rfl, ru, ru2⟩ := rv.two
  obtain ⟨t, rfl⟩ := ru
  obtain ⟨z, its, n, r, hl, e⟩ := I.lstM hH
  refine call_meets F.slot_list_insert ⟨_, e, rfl⟩ F.entry_list_insert (F.args_list_insert_3 _ _ _) (AutoListH.list_insert_list_int_val_1 l its.toArray n 0 t u2 (by decide) (by rw [List.size_toArray]; omega)) ⟨e, ?_⟩
  refine ⟨.non, _, I.lset (its' := u2 :: its) hH e ?_ (.cons ru2 r) ?_, rfl, q⟩
  · simp
  · rw [List.length_cons]
    omega
def rExtendT (K : PySem.W.Frag) : V → List V → Hp → VK → Prop := fun x vs H Q => ∃ l b xs zs, x = .ref l ∧ vs = [.ref b] ∧ H l = some (.lst xs) ∧ SqT K H b zs ∧ xs.length + zs.length ≤ sizeLine ∧ Q .non (upd H l (.lst (xs ++ zs)))
theorem mt_extendT : MtM X "list.extend" (rExtendT X.K) := by
  intro pins s σ H x vs v us Q I rx rv h
  obtain ⟨l, b, xs, zs, rfl, rfl, hH, hB, hz, q⟩ := h
  cases rx
  obtain ⟨u, rfl, ru⟩ := rv.one
  cases ru
  obtain ⟨z, its, n, r, hl, e⟩ := I.lstM hH
  obtain ⟨its2, r2, ⟨⟨cl, dd, da, sl⟩, eT, hc, n2, hd⟩, z2⟩ := I.tuple hB
  have hc : cl = .type "tuple" := hc
  have hd : da = .seq its2.toArray n2 := hd
  subst hc hd
  have hl2 := r2.length
  have hsz : its.toArray.size + its2.toArray.size ≤ sizeLine := by rw [List.size_toArray, List.size_toArray]; omega
  have hlong : ¬ (!its.toArray.isEmpty && Builtin.List.listTooLong (its.toArray.size + its2.toArray.size)) = true := by
    rw [notLongL hsz, Bool.and_false]
    exact Bool.false_ne_true
  refine call_meets F.slot_list_extend ⟨_, e, rfl⟩ F.entry_list_extend (F.args_list_extend_2 _ _)
    (PySem.ext_tup l its.toArray n b its2.toArray n2 dd sl hlong (by rw [List.size_toArray]; omega) (by omega)) ⟨e, eT, ?_⟩
  refine ⟨.non, _, I.lset (its' := its ++ its2) hH e (by simp) (r.append r2) ?_, rfl, q⟩
  rw [List.length_append]
  omega
end
end L2
end
namespace Sb
open PySem PySem.Spec PyProof.Rows L2
def top (i : Nat) : Stmt := PySem.Challenge.pw_signalboxdesk_s01_answers.main.body.getD i (.Pass ⟨0, 0, 0, 0⟩)
abbrev s_Track_init : Stmt := inClass (top 17) 0
abbrev n_Track_init : List Str := ["self", "kinds", "joined", "signals", "number", "spot"]
theorem sc_Track_init : FnScope n_Track_init ["self", "kinds", "joined", "signals"] (defScope s_Track_init) := ⟨rfl, rfl, rfl, by decide +kernel, rfl, by decide +kernel, by decide +kernel⟩
abbrev s_has_end : Stmt := top 18
abbrev n_has_end : List Str := ["kinds", "section", "end"]
theorem sc_has_end : FnScope n_has_end ["kinds", "section", "end"] (defScope s_has_end) := ⟨rfl, rfl, rfl, by decide +kernel, rfl, by decide +kernel, by decide +kernel⟩
abbrev s_is_points : Stmt := top 19
abbrev n_is_points : List Str := ["track", "section"]
theorem sc_is_points : FnScope n_is_points ["track", "section"] (defScope s_is_points) := ⟨rfl, rfl, rfl, by decide +kernel, rfl, by decide +kernel, by decide +kernel⟩
abbrev s_other_end : Stmt := top 20
abbrev n_other_end : List Str := ["track", "section", "end", "stance"]
theorem sc_other_end : FnScope n_other_end ["track", "section", "end", "stance"] (defScope s_other_end) := ⟨rfl, rfl, rfl, by decide +kernel, rfl, by decide +kernel, by decide +kernel⟩
abbrev s_stance_needed : Stmt := top 21
abbrev n_stance_needed : List Str := ["step"]
theorem sc_stance_needed : FnScope n_stance_needed ["step"] (defScope s_stance_needed) := ⟨rfl, rfl, rfl, by decide +kernel, rfl, by decide +kernel, by decide +kernel⟩
abbrev s_kinds_fit : Stmt := top 22
abbrev n_kinds_fit : List Str := ["kinds"]
theorem sc_kinds_fit : FnScope n_kinds_fit ["kinds"] (defScope s_kinds_fit) := ⟨rfl, rfl, rfl, by decide +kernel, rfl, by decide +kernel, by decide +kernel⟩
abbrev s_pair_up : Stmt := top 23
abbrev n_pair_up : List Str := ["numbers", "k"]
theorem sc_pair_up : FnScope n_pair_up ["numbers"] (defScope s_pair_up) := ⟨rfl, rfl, rfl, by decide +kernel, rfl, by decide +kernel, by decide +kernel⟩
abbrev s_spots_fit : Stmt := top 24
abbrev n_spots_fit : List Str := ["kinds", "spots", "seen", "spot"]
theorem sc_spots_fit : FnScope n_spots_fit ["kinds", "spots"] (defScope s_spots_fit) := ⟨rfl, rfl, rfl, by decide +kernel, rfl, by decide +kernel, by decide +kernel⟩
abbrev s_join_spots : Stmt := top 25
abbrev n_join_spots : List Str := ["spots", "joined", "k"]
theorem sc_join_spots : FnScope n_join_spots ["spots"] (defScope s_join_spots) := ⟨rfl, rfl, rfl, by decide +kernel, rfl, by decide +kernel, by decide +kernel⟩
abbrev s_draw_track : Stmt := top 26
abbrev n_draw_track : List Str := ["kinds", "joints", "posts", "spots", "signals"]
theorem sc_draw_track : FnScope n_draw_track ["kinds", "joints", "posts"] (defScope s_draw_track) := ⟨rfl, rfl, rfl, by decide +kernel, rfl, by decide +kernel, by decide +kernel⟩
abbrev s_Train_init : Stmt := inClass (top 32) 0
abbrev n_Train_init : List Str := ["self", "step"]
theorem sc_Train_init : FnScope n_Train_init ["self", "step"] (defScope s_Train_init) := ⟨rfl, rfl, rfl, by decide +kernel, rfl, by decide +kernel, by decide +kernel⟩
abbrev s_Box_init : Stmt := inClass (top 33) 0
abbrev n_Box_init : List Str := ["self"]
theorem sc_Box_init : FnScope n_Box_init ["self"] (defScope s_Box_init) := ⟨rfl, rfl, rfl, by decide +kernel, rfl, by decide +kernel, by decide +kernel⟩
abbrev s_start_anew : Stmt := top 34
abbrev n_start_anew : List Str := ["box", "track", "kind"]
theorem sc_start_anew : FnScope n_start_anew ["box", "track"] (defScope s_start_anew) := ⟨rfl, rfl, rfl, by decide +kernel, rfl, by decide +kernel, by decide +kernel⟩
abbrev s_passes : Stmt := top 35
abbrev n_passes : List Str := ["steps", "section", "step"]
theorem sc_passes : FnScope n_passes ["steps", "section"] (defScope s_passes) := ⟨rfl, rfl, rfl, by decide +kernel, rfl, by decide +kernel, by decide +kernel⟩
abbrev s_who_has : Stmt := top 36
abbrev n_who_has : List Str := ["box", "section", "number", "train", "signal", "steps"]
theorem sc_who_has : FnScope n_who_has ["box", "section"] (defScope s_who_has) := ⟨rfl, rfl, rfl, by decide +kernel, rfl, by decide +kernel, by decide +kernel⟩
abbrev s_is_free : Stmt := top 37
abbrev n_is_free : List Str := ["box", "section"]
theorem sc_is_free : FnScope n_is_free ["box", "section"] (defScope s_is_free) := ⟨rfl, rfl, rfl, by decide +kernel, rfl, by decide +kernel, by decide +kernel⟩
abbrev s_stands_for : Stmt := top 38
abbrev n_stands_for : List Str := ["box", "section", "end"]
theorem sc_stands_for : FnScope n_stands_for ["box", "section", "end"] (defScope s_stands_for) := ⟨rfl, rfl, rfl, by decide +kernel, rfl, by decide +kernel, by decide +kernel⟩
abbrev s_lay_points : Stmt := top 39
abbrev n_lay_points : List Str := ["box", "steps", "step"]
theorem sc_lay_points : FnScope n_lay_points ["box", "steps"] (defScope s_lay_points) := ⟨rfl, rfl, rfl, by decide +kernel, rfl, by decide +kernel, by decide +kernel⟩
abbrev s_turned_about : Stmt := top 40
abbrev n_turned_about : List Str := ["steps", "step"]
theorem sc_turned_about : FnScope n_turned_about ["steps"] (defScope s_turned_about) := ⟨rfl, rfl, rfl, by decide +kernel, rfl, by decide +kernel, by decide +kernel⟩
abbrev s_least_unused : Stmt := top 41
abbrev n_least_unused : List Str := ["numbered", "number"]
theorem sc_least_unused : FnScope n_least_unused ["numbered"] (defScope s_least_unused) := ⟨rfl, rfl, rfl, by decide +kernel, rfl, by decide +kernel, by decide +kernel⟩
abbrev s_spot_behind : Stmt := top 44
abbrev n_spot_behind : List Str := ["track", "spot"]
theorem sc_spot_behind : FnScope n_spot_behind ["track", "spot"] (defScope s_spot_behind) := ⟨rfl, rfl, rfl, by decide +kernel, rfl, by decide +kernel, by decide +kernel⟩
abbrev s_follow : Stmt := top 45
abbrev n_follow : List Str := ["track", "start", "choices", "steps", "seen", "used", "spot", "section", "stance", "end_out"]
theorem sc_follow : FnScope n_follow ["track", "start", "choices"] (defScope s_follow) := ⟨rfl, rfl, rfl, by decide +kernel, rfl, by decide +kernel, by decide +kernel⟩
abbrev s_way_from : Stmt := top 46
abbrev n_way_from : List Str := ["track", "signal", "choices"]
theorem sc_way_from : FnScope n_way_from ["track", "signal", "choices"] (defScope s_way_from) := ⟨rfl, rfl, rfl, by decide +kernel, rfl, by decide +kernel, by decide +kernel⟩
abbrev s_lay : Stmt := top 49
abbrev n_lay : List Str := ["box", "kinds", "joints", "posts", "track"]
theorem sc_lay : FnScope n_lay ["box", "kinds", "joints", "posts"] (defScope s_lay) := ⟨rfl, rfl, rfl, by decide +kernel, rfl, by decide +kernel, by decide +kernel⟩
abbrev s_put : Stmt := top 50
abbrev n_put : List Str := ["box", "section", "end", "number", "end_in"]
theorem sc_put : FnScope n_put ["box", "section", "end"] (defScope s_put) := ⟨rfl, rfl, rfl, by decide +kernel, rfl, by decide +kernel, by decide +kernel⟩
abbrev s_take : Stmt := top 51
abbrev n_take : List Str := ["box", "number", "train"]
theorem sc_take : FnScope n_take ["box", "number"] (defScope s_take) := ⟨rfl, rfl, rfl, by decide +kernel, rfl, by decide +kernel, by decide +kernel⟩
abbrev s_route : Stmt := top 52
abbrev n_route : List Str := ["box", "signal", "choices", "found", "steps", "step"]
theorem sc_route : FnScope n_route ["box", "signal", "choices"] (defScope s_route) := ⟨rfl, rfl, rfl, by decide +kernel, rfl, by decide +kernel, by decide +kernel⟩
abbrev s_cancel : Stmt := top 53
abbrev n_cancel : List Str := ["box", "signal", "steps"]
theorem sc_cancel : FnScope n_cancel ["box", "signal"] (defScope s_cancel) := ⟨rfl, rfl, rfl, by decide +kernel, rfl, by decide +kernel, by decide +kernel⟩
abbrev s_front : Stmt := top 54
abbrev n_front : List Str := ["box", "number", "train", "spot", "signal", "step"]
theorem sc_front : FnScope n_front ["box", "number"] (defScope s_front) := ⟨rfl, rfl, rfl, by decide +kernel, rfl, by decide +kernel, by decide +kernel⟩
abbrev s_rear : Stmt := top 55
abbrev n_rear : List Str := ["box", "number", "train"]
theorem sc_rear : FnScope n_rear ["box", "number"] (defScope s_rear) := ⟨rfl, rfl, rfl, by decide +kernel, rfl, by decide +kernel, by decide +kernel⟩
abbrev s_back : Stmt := top 56
abbrev n_back : List Str := ["box", "number", "train"]
theorem sc_back : FnScope n_back ["box", "number"] (defScope s_back) := ⟨rfl, rfl, rfl, by decide +kernel, rfl, by decide +kernel, by decide +kernel⟩
abbrev s_turn_points : Stmt := top 57
abbrev n_turn_points : List Str := ["box", "section", "stance"]
theorem sc_turn_points : FnScope n_turn_points ["box", "section", "stance"] (defScope s_turn_points) := ⟨rfl, rfl, rfl, by decide +kernel, rfl, by decide +kernel, by decide +kernel⟩
abbrev s_told_steps : Stmt := top 59
abbrev n_told_steps : List Str := ["steps", "told", "step"]
theorem sc_told_steps : FnScope n_told_steps ["steps"] (defScope s_told_steps) := ⟨rfl, rfl, rfl, by decide +kernel, rfl, by decide +kernel, by decide +kernel⟩
abbrev s_show_way : Stmt := top 60
abbrev n_show_way : List Str := ["box", "signal", "choices", "found"]
theorem sc_show_way : FnScope n_show_way ["box", "signal", "choices"] (defScope s_show_way) := ⟨rfl, rfl, rfl, by decide +kernel, rfl, by decide +kernel, by decide +kernel⟩
abbrev s_show_section : Stmt := top 61
abbrev n_show_section : List Str := ["box", "section", "holder"]
theorem sc_show_section : FnScope n_show_section ["box", "section"] (defScope s_show_section) := ⟨rfl, rfl, rfl, by decide +kernel, rfl, by decide +kernel, by decide +kernel⟩
abbrev s_show_signal : Stmt := top 62
abbrev n_show_signal : List Str := ["box", "signal"]
theorem sc_show_signal : FnScope n_show_signal ["box", "signal"] (defScope s_show_signal) := ⟨rfl, rfl, rfl, by decide +kernel, rfl, by decide +kernel, by decide +kernel⟩
abbrev s_show_train : Stmt := top 63
abbrev n_show_train : List Str := ["box", "number", "train"]
theorem sc_show_train : FnScope n_show_train ["box", "number"] (defScope s_show_train) := ⟨rfl, rfl, rfl, by decide +kernel, rfl, by decide +kernel, by decide +kernel⟩
abbrev s_show_counts : Stmt := top 64
abbrev n_show_counts : List Str := ["box", "free", "section"]
theorem sc_show_counts : FnScope n_show_counts ["box"] (defScope s_show_counts) := ⟨rfl, rfl, rfl, by decide +kernel, rfl, by decide +kernel, by decide +kernel⟩
abbrev s_Reader_init : Stmt := inClass (top 80) 0
abbrev n_Reader_init : List Str := ["self", "calls"]
theorem sc_Reader_init : FnScope n_Reader_init ["self", "calls"] (defScope s_Reader_init) := ⟨rfl, rfl, rfl, by decide +kernel, rfl, by decide +kernel, by decide +kernel⟩
abbrev s_Reader_is_done : Stmt := inClass (top 80) 1
abbrev n_Reader_is_done : List Str := ["self"]
theorem sc_Reader_is_done : FnScope n_Reader_is_done ["self"] (defScope s_Reader_is_done) := ⟨rfl, rfl, rfl, by decide +kernel, rfl, by decide +kernel, by decide +kernel⟩
abbrev s_Reader_read_number : Stmt := inClass (top 80) 2
abbrev n_Reader_read_number : List Str := ["self", "number"]
theorem sc_Reader_read_number : FnScope n_Reader_read_number ["self"] (defScope s_Reader_read_number) := ⟨rfl, rfl, rfl, by decide +kernel, rfl, by decide +kernel, by decide +kernel⟩
abbrev s_Reader_read_row : Stmt := inClass (top 80) 3
abbrev n_Reader_read_row : List Str := ["self", "length", "row"]
theorem sc_Reader_read_row : FnScope n_Reader_read_row ["self"] (defScope s_Reader_read_row) := ⟨rfl, rfl, rfl, by decide +kernel, rfl, by decide +kernel, by decide +kernel⟩
abbrev s_Reader_read_parts : Stmt := inClass (top 80) 4
abbrev n_Reader_read_parts : List Str := ["self", "call", "shape", "parts"]
theorem sc_Reader_read_parts : FnScope n_Reader_read_parts ["self", "call"] (defScope s_Reader_read_parts) := ⟨rfl, rfl, rfl, by decide +kernel, rfl, by decide +kernel, by decide +kernel⟩
abbrev s_change : Stmt := top 81
abbrev n_change : List Str := ["box", "call", "parts"]
theorem sc_change : FnScope n_change ["box", "call", "parts"] (defScope s_change) := ⟨rfl, rfl, rfl, by decide +kernel, rfl, by decide +kernel, by decide +kernel⟩
abbrev s_show : Stmt := top 82
abbrev n_show : List Str := ["box", "call", "parts"]
theorem sc_show : FnScope n_show ["box", "call", "parts"] (defScope s_show) := ⟨rfl, rfl, rfl, by decide +kernel, rfl, by decide +kernel, by decide +kernel⟩
abbrev s_answer_call : Stmt := top 83
abbrev n_answer_call : List Str := ["box", "call", "parts"]
theorem sc_answer_call : FnScope n_answer_call ["box", "call", "parts"] (defScope s_answer_call) := ⟨rfl, rfl, rfl, by decide +kernel, rfl, by decide +kernel, by decide +kernel⟩
abbrev s_answers : Stmt := top 84
abbrev n_answers : List Str := ["calls", "box", "reader", "told", "call", "answer"]
theorem sc_answers : FnScope n_answers ["calls"] (defScope s_answers) := ⟨rfl, rfl, rfl, by decide +kernel, rfl, by decide +kernel, by decide +kernel⟩
end Sb
namespace Sb
open PySem PySem.Spec PyProof.Rows L2
/-! ### small words -/
/-- a number that is not below 0 -/
abbrev vi (n : Nat) : V := .int (n : Int)
theorem cxK {CX : CXT} {P : Program} {w : World} {K : PySem.W.Frag} {mg : Str → Option Value} {base : Heap} {N : List Str} {qual : Str} {scope : Scope} {f : Addr} {cd : Value} {A : Around} {outer : List Env} {s : Shared} {H : Hp} {E : XK} : (cxOf CX P w K mg base N qual scope f cd A outer s H E).K = K := rfl
theorem vi_inj {a b : Nat} : (V.int (a : Int) = V.int (b : Int)) = (a = b) := by
  apply propext
  constructor
  · intro h
    injection h with h
    exact Int.ofNat.inj h
  · intro h
    rw [h]
/-- the same rules where the context is a block within -/
theorem ixL {X : Cx} (K : PySem.W.Frag) (h : X.K = K := by rfl) : IxR X (rIxL K) := by subst h; exact ix_list
theorem ixT {X : Cx} (K : PySem.W.Frag) (h : X.K = K := by rfl) : IxR X (rIxT K) := by subst h; exact ix_tup
/-- a name of the text's top that holds a number -/
def ConI (mg : Str → Option Value) (x : Str) (i : Int) : Prop := ∃ t, mg x = some (.int i t)
theorem pe_con {X : Cx} {x : Str} {i : Int} {pos : Pos} (h : ConI X.mg x i) (hg : Gl X x) (hd : (x == ("__debug__" : Str)) = false := by decide) : PE X (.Name x pos) (tC (.int i)) := by
  obtain ⟨t, e⟩ := h
  exact pe_glob hg e ⟨t, rfl⟩ hd
/-- a def of the text's top that keeps a promise -/
structure Fn (P : Program) (w : World) (K : PySem.W.Frag) (mg : Str → Option Value) (base : Heap) (k : Nat) (x : Str) (ps : List Str) (sp : Sp) : Prop where
  ex : ∃ f fd, mg x = some (.ref f) ∧ PySem.W.keepIn K (.ref f) = true ∧ Binds K fd ps [] ∧ FnOk P w K mg base CX0 k f fd ps sp
theorem pe_fn {X : Cx} {k : Nat} {x : Str} {ps : List Str} {sp : Sp} {p pos : Pos} {e : Expr} {es : List Expr} {t : TA} (F : Fn X.prog X.w X.K X.mg X.base k x ps sp) (hr : Room k X.A) (ha : PA X (e :: es) t) (hg : Gl X x := by rfl)
    (hdb : (x == ("__debug__" : Str)) = false := by decide) (he : starEach (e :: es) X.env = (false, eval e X.env) :: starEach es X.env := by rfl) (hpl : (backTo pos (starEach es X.env)).any (·.1) = false := by rfl) :
    PE X (.Call (.Name x p) (e :: es) [] pos) (tCall sp [] E0 t) := by
  obtain ⟨f, fd, hm, hk, hb, ok⟩ := F.ex
  exact pe_call ok hr hg hm hk hb .nil pass0 ha hdb he hpl
/-! ### loops and comprehensions, closed for a look from outside -/
def Fo (J : It) (g : TG) (tb : TS) (D : Ends) (σ : L2.St) (H1 : Hp) : Prop := ∃ W : Nat → Nat → L2.St → Hp → Prop, (∃ m, W 0 m σ H1) ∧ ∀ i m σ H, W i m σ H →
  (J.stop i H ∧ D.nx σ H) ∨ (J.go i H ∧ ∃ N : L2.St → Hp → Prop, (∀ σ' H', N σ' H' → ∃ m', m' < m ∧ W (i + 1) m' σ' H') ∧ ∀ x H', J.yld i H x H' → g x σ H' fun σ2 H2 => tb { D with nx := N, ct := N, bk := D.nx } σ2 H2)
theorem tFor_rd {wi : TI} {g : TG} {tb : TS} {D : Ends} {σ : L2.St} {H : Hp} : tFor wi g tb D σ H = wi σ H (fun J H1 => Fo J g tb D σ H1) := rfl
def Lc (J : It) (g : TG) (tt : TT) (te : TE) (vs : List Nat) (σ : L2.St) (H1 : Hp) (L : Addr) (Q : Hp → Prop) : Prop := ∃ W : Nat → Nat → Hp → Prop, (∃ m, W 0 m (upd H1 L (.lst []))) ∧ ∀ i m H, W i m H →
  (J.stop i H ∧ Q H) ∨ (J.go i H ∧ ∃ Nx : Hp → Prop, (∀ H', Nx H' → ∃ m', m' < m ∧ W (i + 1) m' H') ∧ ∀ x H', J.yld i H x H' → g x (wipe σ vs) H' fun σ2 H2 => wipe σ2 vs = wipe σ vs ∧ tt σ2 H2 fun b H3 =>
    if b = true then te σ2 H3 fun y H4 => ∃ acc, H4 L = some (.lst acc) ∧ acc.length < sizeLine ∧ Nx (upd H4 L (.lst (acc ++ [y]))) else Nx H3)
theorem tLc_rd {wi : TI} {g : TG} {tt : TT} {te : TE} {vs : List Nat} {σ : L2.St} {H : Hp} {Q : VK} : tLc wi g tt te vs σ H Q = wi σ H (fun J H1 => ∀ L, H1 L = none → Lc J g tt te vs σ H1 L (fun H2 => Q (.ref L) H2)) := rfl
section
variable {J : It} {g : TG} {tb : TS} {D : Ends} {σ : L2.St} {H : Hp} {tt : TT} {te : TE} {vs : List Nat} {L : Addr} {Q : Hp → Prop} {K : PySem.W.Frag} {a : Addr} {xs : List V}
theorem fo_gen (n : Nat) (Pv : Nat → L2.St → Hp → Prop) (h0 : Pv 0 σ H) (hs : ∀ i σ H, i < n → Pv i σ H → J.go i H ∧ ∀ x H', J.yld i H x H' → g x σ H' fun σ2 H2 => tb { D with nx := Pv (i + 1), ct := Pv (i + 1), bk := D.nx } σ2 H2)
    (hd : ∀ σ H, Pv n σ H → J.stop n H ∧ D.nx σ H) : Fo J g tb D σ H := by
  refine ⟨fun i m σ H => m = n - i ∧ i ≤ n ∧ Pv i σ H, ⟨n, by simp, Nat.zero_le _, h0⟩, ?_⟩
  rintro i m σ H ⟨rfl, hi, p⟩
  by_cases hlt : i < n
  · obtain ⟨q1, q2⟩ := hs i σ H hlt p
    exact .inr ⟨q1, Pv (i + 1), fun σ' H' p' => ⟨n - (i + 1), by omega, rfl, hlt, p'⟩, q2⟩
  · have e : i = n := by omega
    subst e
    exact .inl (hd σ H p)
theorem fo_list (Pv : Nat → L2.St → Hp → Prop) (h0 : Pv 0 σ H) (hl : ∀ i σ H, i ≤ xs.length → Pv i σ H → SqL K H a xs)
    (hs : ∀ i x σ H, xs[i]? = some x → Pv i σ H → g x σ H fun σ2 H2 => tb { D with nx := Pv (i + 1), ct := Pv (i + 1), bk := D.nx } σ2 H2) (hd : ∀ σ H, Pv xs.length σ H → D.nx σ H) : Fo (Itl K a) g tb D σ H := for_list Pv h0 hl hs hd
theorem fo_rangeC {lo c : Int} {n : Nat} (Pv : Nat → L2.St → Hp → Prop) (h0 : Pv 0 σ H)
    (hs : ∀ i σ H, i < n → Pv i σ H → g (.int (lo + (i : Nat) * c)) σ H fun σ2 H2 => tb { D with nx := Pv (i + 1), ct := Pv (i + 1), bk := D.nx } σ2 H2) (hd : ∀ σ H, Pv n σ H → D.nx σ H) : Fo (Itc lo c n) g tb D σ H := for_rangeC Pv h0 hs hd
theorem fo_enum (Pv : Nat → L2.St → Hp → Prop) (h0 : Pv 0 σ H) (hl : ∀ i σ H, i ≤ xs.length → Pv i σ H → SqL K H a xs)
    (hs : ∀ i x T σ H, xs[i]? = some x → H T = none → Pv i σ H → g (.ref T) σ (upd H T (.tup [vi i, x])) fun σ2 H2 => tb { D with nx := Pv (i + 1), ct := Pv (i + 1), bk := D.nx } σ2 H2) (hd : ∀ σ H, Pv xs.length σ H → D.nx σ H) : Fo (Ite K a) g tb D σ H := by
  refine fo_gen xs.length Pv h0 (fun i σ H hi p => ?_) fun σ H p => ⟨⟨xs, hl _ _ _ (Nat.le_refl _) p, Nat.le_refl _⟩, hd σ H p⟩
  have q := hl i σ H (Nat.le_of_lt hi) p
  refine ⟨⟨xs, xs[i], q, by simp [hi]⟩, fun x H' y => ?_⟩
  obtain ⟨T, x', rfl, hT, rfl, hx⟩ := y
  exact hs i x' T σ H (hx xs q) hT p
theorem fo_vals {d : Addr} {o : Obj} {kvs : List (Key × V)} (Pv : Nat → L2.St → Hp → Prop) (h0 : Pv 0 σ H) (hl : ∀ i σ H, i ≤ kvs.length → Pv i σ H → H d = some (.frz o (.dK kvs)))
    (hs : ∀ i k x σ H, kvs[i]? = some (k, x) → Pv i σ H → g x σ H fun σ2 H2 => tb { D with nx := Pv (i + 1), ct := Pv (i + 1), bk := D.nx } σ2 H2) (hd : ∀ σ H, Pv kvs.length σ H → D.nx σ H) : Fo (Itd d o kvs) g tb D σ H := by
  refine fo_gen kvs.length Pv h0 (fun i σ H hi p => ?_) fun σ H p => ⟨⟨hl _ _ _ (Nat.le_refl _) p, Nat.le_refl _⟩, hd σ H p⟩
  refine ⟨⟨hl i σ H (Nat.le_of_lt hi) p, hi⟩, fun x H' y => ?_⟩
  obtain ⟨rfl, k, e⟩ := y
  exact hs i k x σ _ e p
theorem fo_items {d : Addr} {o : Obj} {kvs : List (Key × V)} (Pv : Nat → L2.St → Hp → Prop) (h0 : Pv 0 σ H) (hl : ∀ i σ H, i ≤ kvs.length → Pv i σ H → H d = some (.frz o (.dK kvs)))
    (hs : ∀ i k x T σ H, kvs[i]? = some (k, x) → H T = none → Pv i σ H → g (.ref T) σ (upd H T (.tup [kV k, x])) fun σ2 H2 => tb { D with nx := Pv (i + 1), ct := Pv (i + 1), bk := D.nx } σ2 H2) (hd : ∀ σ H, Pv kvs.length σ H → D.nx σ H) : Fo (Iti d o kvs) g tb D σ H := by
  refine fo_gen kvs.length Pv h0 (fun i σ H hi p => ?_) fun σ H p => ⟨⟨hl _ _ _ (Nat.le_refl _) p, Nat.le_refl _⟩, hd σ H p⟩
  refine ⟨⟨hl i σ H (Nat.le_of_lt hi) p, hi⟩, fun x H' y => ?_⟩
  obtain ⟨T, k, v, e, rfl, hT, rfl⟩ := y
  exact hs i k v T σ _ e hT p
theorem lc_gen (n : Nat) (Pv : Nat → Hp → Prop) (h0 : Pv 0 (upd H L (.lst []))) (hs : ∀ i H, i < n → Pv i H → J.go i H ∧ ∀ x H', J.yld i H x H' → g x (wipe σ vs) H' fun σ2 H2 => wipe σ2 vs = wipe σ vs ∧ tt σ2 H2 fun b H3 =>
      if b = true then te σ2 H3 fun y H4 => ∃ acc, H4 L = some (.lst acc) ∧ acc.length < sizeLine ∧ Pv (i + 1) (upd H4 L (.lst (acc ++ [y]))) else Pv (i + 1) H3)
    (hd : ∀ H, Pv n H → J.stop n H ∧ Q H) : Lc J g tt te vs σ H L Q := by
  refine ⟨fun i m H => m = n - i ∧ i ≤ n ∧ Pv i H, ⟨n, by simp, Nat.zero_le _, h0⟩, ?_⟩
  rintro i m H ⟨rfl, hi, p⟩
  by_cases hlt : i < n
  · obtain ⟨q1, q2⟩ := hs i H hlt p
    exact .inr ⟨q1, Pv (i + 1), fun H' p' => ⟨n - (i + 1), by omega, rfl, hlt, p'⟩, q2⟩
  · have e : i = n := by omega
    subst e
    exact .inl (hd H p)
theorem lc_rangeC {lo c : Int} {n : Nat} (Pv : Nat → Hp → Prop) (h0 : Pv 0 (upd H L (.lst [])))
    (hs : ∀ i H, i < n → Pv i H → g (.int (lo + (i : Nat) * c)) (wipe σ vs) H fun σ2 H2 => wipe σ2 vs = wipe σ vs ∧ tt σ2 H2 fun b H3 =>
      if b = true then te σ2 H3 fun y H4 => ∃ acc, H4 L = some (.lst acc) ∧ acc.length < sizeLine ∧ Pv (i + 1) (upd H4 L (.lst (acc ++ [y]))) else Pv (i + 1) H3) (hd : ∀ H, Pv n H → Q H) : Lc (Itc lo c n) g tt te vs σ H L Q :=
  lc_gen n Pv h0 (fun i H hi p => ⟨hi, fun x H' y => by obtain ⟨rfl, rfl⟩ := y; exact hs i _ hi p⟩) fun H p => ⟨Nat.le_refl _, hd H p⟩
theorem lc_rev (Pv : Nat → Hp → Prop) (h0 : Pv 0 (upd H L (.lst []))) (hl : ∀ i H, i < xs.length → Pv i H → SqL K H a xs)
    (hs : ∀ i x H, i < xs.length → xs[xs.length - 1 - i]? = some x → Pv i H → g x (wipe σ vs) H fun σ2 H2 => wipe σ2 vs = wipe σ vs ∧ tt σ2 H2 fun b H3 =>
      if b = true then te σ2 H3 fun y H4 => ∃ acc, H4 L = some (.lst acc) ∧ acc.length < sizeLine ∧ Pv (i + 1) (upd H4 L (.lst (acc ++ [y]))) else Pv (i + 1) H3) (hd : ∀ H, Pv xs.length H → Q H) : Lc (Itv K a xs.length) g tt te vs σ H L Q := by
  refine lc_gen xs.length Pv h0 (fun i H hi p => ?_) fun H p => ⟨Nat.le_refl _, hd H p⟩
  have q := hl i H hi p
  refine ⟨⟨hi, xs, xs[xs.length - 1 - i]'(by omega), q, List.getElem?_eq_getElem (by omega)⟩, fun x H' y => ?_⟩
  obtain ⟨rfl, hx⟩ := y
  exact hs i x _ hi (hx xs q) p
theorem lc_rng {lo : Int} {n : Nat} (Pv : Nat → Hp → Prop) (h0 : Pv 0 (upd H L (.lst [])))
    (hs : ∀ i H, i < n → Pv i H → g (.int (lo + i)) (wipe σ vs) H fun σ2 H2 => wipe σ2 vs = wipe σ vs ∧ tt σ2 H2 fun b H3 =>
      if b = true then te σ2 H3 fun y H4 => ∃ acc, H4 L = some (.lst acc) ∧ acc.length < sizeLine ∧ Pv (i + 1) (upd H4 L (.lst (acc ++ [y]))) else Pv (i + 1) H3) (hd : ∀ H, Pv n H → Q H) : Lc (Itr lo n) g tt te vs σ H L Q :=
  lc_gen n Pv h0 (fun i H hi p => ⟨hi, fun x H' y => by obtain ⟨rfl, rfl⟩ := y; exact hs i _ hi p⟩) fun H p => ⟨Nat.le_refl _, hd H p⟩
theorem lc_lst (Pv : Nat → Hp → Prop) (h0 : Pv 0 (upd H L (.lst []))) (hl : ∀ i H, i ≤ xs.length → Pv i H → SqL K H a xs)
    (hs : ∀ i x H, xs[i]? = some x → Pv i H → g x (wipe σ vs) H fun σ2 H2 => wipe σ2 vs = wipe σ vs ∧ tt σ2 H2 fun b H3 =>
      if b = true then te σ2 H3 fun y H4 => ∃ acc, H4 L = some (.lst acc) ∧ acc.length < sizeLine ∧ Pv (i + 1) (upd H4 L (.lst (acc ++ [y]))) else Pv (i + 1) H3) (hd : ∀ H, Pv xs.length H → Q H) : Lc (Itl K a) g tt te vs σ H L Q := L2.lc_list Pv h0 hl hs hd
theorem lc_vals {d : Addr} {o : Obj} {kvs : List (Key × V)} (Pv : Nat → Hp → Prop) (h0 : Pv 0 (upd H L (.lst []))) (hl : ∀ i H, i ≤ kvs.length → Pv i H → H d = some (.frz o (.dK kvs)))
    (hs : ∀ i k x H, kvs[i]? = some (k, x) → Pv i H → g x (wipe σ vs) H fun σ2 H2 => wipe σ2 vs = wipe σ vs ∧ tt σ2 H2 fun b H3 =>
      if b = true then te σ2 H3 fun y H4 => ∃ acc, H4 L = some (.lst acc) ∧ acc.length < sizeLine ∧ Pv (i + 1) (upd H4 L (.lst (acc ++ [y]))) else Pv (i + 1) H3) (hd : ∀ H, Pv kvs.length H → Q H) : Lc (Itd d o kvs) g tt te vs σ H L Q := by
  refine lc_gen kvs.length Pv h0 (fun i H hi p => ?_) fun H p => ⟨⟨hl _ _ (Nat.le_refl _) p, Nat.le_refl _⟩, hd H p⟩
  refine ⟨⟨hl i H (Nat.le_of_lt hi) p, hi⟩, fun x H' y => ?_⟩
  obtain ⟨rfl, k, e⟩ := y
  exact hs i k x _ e p
end
/-! ### a block cut in two: what holds between -/
def tCut (t u : TS) : TS := fun D σ H => ∃ M : L2.St → Hp → Prop, t { D with nx := M } σ H ∧ ∀ σ' H', M σ' H' → u D σ' H'
theorem pss_cut {X : Cx} {st : Stmt} {rest : List Stmt} {t u : TS} (h1 : PS X st t) (h2 : PSs X rest u) : PSs X (st :: rest) (tCut t u) := by
  intro pins s σ H D I h
  obtain ⟨M, ha, hb⟩ := h
  refine wpAny_execs_cons (thn (h1 pins s σ H { D with nx := M } I ha) fun f s1 q => ?_)
  cases f with
  | next =>
    obtain ⟨σ1, H1, I1, q1⟩ := q
    exact h2 pins s1 σ1 H1 D I1 (hb _ _ q1)
  | brk => exact q
  | cont => exact q
  | ret u => exact q
end Sb
local macro_rules | `(tactic| walk_at "rd") => `(tactic| try simp only [L2.tRet, L2.tRetN, L2.tSeq, L2.tIfS, L2.tNext, L2.tDrop, L2.tAsg, L2.gName, L2.tAndV, L2.tOrV, L2.tNotV, L2.tAnd, L2.tOr, L2.tNot, L2.tIf, L2.tB, L2.tTest, L2.tCB, L2.tOp, L2.tUn, L2.tVar, L2.tC, L2.tCons, L2.tNil, L2.tTup, L2.tLst, L2.tFld, L2.tCall, L2.tIsN, L2.tNotN, L2.tChain, L2.rI0, L2.rI, L2.rIxL, L2.rIxT, L2.rEq, L2.rNe, L2.scal, L2.tDIn, L2.tDNotIn, L2.tDGet, L2.tDGet1, L2.iList, L2.iTup, L2.iRng1, L2.iRng2, L2.iRng3, L2.iVals, L2.iItems, L2.iEnum, L2.iRev, L2.tYes, L2.tLock, L2.tLockE, L2.sDPut, L2.sFld, L2.tMake, L2.tMeth, L2.sFldAug, L2.tAug, L2.tDPop1, L2.tBM, L2.tBM0, L2.tDNewK, L2.tDNewT, L2.rAppend, L2.rExtend, L2.rExtendT, L2.rPopAt, L2.rPop, L2.rCat, L2.rInsert0, L2.gTup, L2.tSl, L2.tPart, L2.tNoPart, L2.rSlL, L2.gSub, L2.rSetL, L2.ipI, L2.rAdd, L2.gCons, L2.gNil, Sb.tFor_rd, Sb.tLc_rd, L2.wipe, List.map_cons, List.map_nil, if_true, Sb.cxK, Sb.vi_inj, List.set_cons_zero, List.set_cons_succ, List.append_nil, List.getElem?_cons_zero, List.getElem?_cons_succ, Option.some.injEq, exists_eq_left', exists_eq_left, L2.V.int.injEq, L2.V.ref.injEq, L2.V.bl.injEq, List.cons.injEq, and_true, true_and, exists_and_left, exists_and_right])
namespace Sb
open PySem PySem.Spec PyProof.Rows L2
/-! ### lists in pairs -/
theorem Paired.get2 {α β : Type} {G : α → β → Prop} : ∀ {l1 : List α} {l2 : List β} {i : Nat} {b : β}, Paired G l1 l2 → l2[i]? = some b → ∃ a, l1[i]? = some a ∧ G a b
  | _, _, _, _, .nil, e => by simp at e
  | _, _, 0, _, .cons r _, e => by simp at e; subst e; exact ⟨_, rfl, r⟩
  | _, _, i + 1, b, .cons _ t, e => by
    obtain ⟨u, h1, h2⟩ := Paired.get2 (i := i) (b := b) t (by simpa using e)
    exact ⟨u, by simpa using h1, h2⟩
theorem Paired.mono {α β : Type} {F G : α → β → Prop} (f : ∀ a b, F a b → G a b) : ∀ {l1 : List α} {l2 : List β}, Paired F l1 l2 → Paired G l1 l2
  | _, _, .nil => .nil
  | _, _, .cons r t => .cons (f _ _ r) (Paired.mono f t)
theorem Paired.mono2 {α β : Type} {F G : α → β → Prop} : ∀ {l1 : List α} {l2 : List β}, Paired F l1 l2 → (∀ a b, a ∈ l1 → F a b → G a b) → Paired G l1 l2
  | _, _, .nil, _ => .nil
  | _, _, .cons r t, f => .cons (f _ _ (List.mem_cons.mpr (Or.inl rfl)) r) (Paired.mono2 t fun a b m => f a b (List.mem_cons.mpr (Or.inr m)))
theorem Paired.len {α β : Type} {F : α → β → Prop} : ∀ {l1 : List α} {l2 : List β}, Paired F l1 l2 → l1.length = l2.length
  | _, _, .nil => rfl
  | _, _, .cons _ t => congrArg (· + 1) (Paired.len t)
theorem Paired.app {α β : Type} {F : α → β → Prop} : ∀ {l1 m1 : List α} {l2 m2 : List β}, Paired F l1 l2 → Paired F m1 m2 → Paired F (l1 ++ m1) (l2 ++ m2)
  | _, _, _, _, .nil, s => s
  | _, _, _, _, .cons r t, s => .cons r (Paired.app t s)
theorem vis_get {p : List Nat} {s n : Nat} (h : p[s]? = some n) : (p.map vi)[s]? = some (vi n) := by rw [List.getElem?_map, h]; rfl
theorem getD_of {α : Type} {l : List α} {i : Nat} {x d : α} (h : l[i]? = some x) : l.getD i d = x := by rw [List.getD_eq_getElem?_getD, h]; rfl
theorem at_lt {α : Type} {l : List α} {i : Nat} (h : i < l.length) (d : α) : l[i]? = some (l.getD i d) := by
  rw [List.getD_eq_getElem?_getD, List.getElem?_eq_getElem h]; rfl
/-! ### spots -/
def SpotAt (H : Hp) (a : Addr) (e : Rail.End) : Prop := H a = some (.tup [vi e.section_, vi e.end_])
def key (e : Rail.End) : List Key := [.inl (e.section_ : Int), .inl (e.end_ : Int)]
theorem key_inj {a b : Rail.End} (h : key a = key b) : a = b := by
  obtain ⟨s, e⟩ := a
  obtain ⟨s', e'⟩ := b
  unfold key at h
  simp only [List.cons.injEq, Sum.inl.injEq, and_true] at h
  obtain ⟨h1, h2⟩ := h
  rw [Int.ofNat.inj h1, Int.ofNat.inj h2]
theorem same_iff {a b : Rail.End} : Rail.sameEnd a b = true ↔ a = b := by
  obtain ⟨s, e⟩ := a
  obtain ⟨s', e'⟩ := b
  unfold Rail.sameEnd
  simp
def SpotsAt (H : Hp) (l : Addr) (es : List Rail.End) : Prop := ∃ as : List Addr, H l = some (.lst (as.map V.ref)) ∧ Paired (SpotAt H) as es
theorem SpotsAt.mono {H H' : Hp} {l : Addr} {es : List Rail.End} (h : SpotsAt H l es) (s : Same H H') : SpotsAt H' l es := by
  obtain ⟨as, h1, h2⟩ := h
  exact ⟨as, s _ _ h1, Paired.mono (fun _ _ q => s _ _ q) h2⟩
theorem same_new {H : Hp} {p : Addr} {o : HO} (h : H p = Option.none) : Same H (upd H p o) := fun b u e => by
  rw [upd_ne (ne_of_none e h)]
  exact e
/-! ### has_end -/
def hasEnd (p : List Nat) (s e : Nat) : Bool := decide (s < p.length) && decide (e < 2 + p.getD s 0)
def spHasEnd (K : PySem.W.Frag) : Sp := fun vs H Q _ => ∃ (a : Addr) (p : List Nat) (s e : Nat), vs = [.ref a, vi s, vi e] ∧ SqL K H a (p.map vi) ∧ Q (.bl (hasEnd p s e)) H
structure TxB (mg : Str → Option Value) : Prop where
  len : mg "len" = none
  max : mg "max" = none
  any : mg "any" = none
  range : mg "range" = none
  enumerate : mg "enumerate" = none
  reversed : mg "reversed" = none
section
variable {P : Program} {w : World} {K : PySem.W.Frag} {mg : Str → Option Value} {base : Heap}
theorem ok_has_end {f : Addr} {fd : FuncData} (F : Fun K "has_end" "has_end" s_has_end f fd) (T : TxB mg) : FnOk P w K mg base CX0 1 f fd ["kinds", "section", "end"] (spHasEnd K) := by
  refine F.ok sc_has_end (fun vs H Q E h => ?_) (fun cdv A outer s0 H vs Q E hr h => ?_)
  · obtain ⟨a, p, s, e, rfl, _⟩ := h
    rfl
  · obtain ⟨a, p, s, e, rfl, hp, k⟩ := h
    refine ⟨_, pss_one (ps_ret (pe_and (pe_cmpR op_lt (pv 1) (pe_callB call_len_seq (by rfl) T.len PySem.boot_len (pa_cons (pv 0) pa_nil)) (nomark _)) (pe_one (pe_cmpR op_lt (pv 2) (pe_op op_add pe_int (pe_ix ix_list (pv 0) (pv 1) (fun _ _ => rfl))) (nomark _))))), ?_⟩
    rw [show L2.start n_has_end [V.ref a, vi s, vi e] = [some (V.ref a), some (vi s), some (vi e)] from rfl]
    walk_at "rd"
    refine ⟨_, .inl hp, ?_⟩
    rw [List.length_map]
    by_cases hs : s < p.length
    · rw [if_pos (decide_eq_true (Int.ofNat_lt.mpr hs))]
      have hg := at_lt hs 0
      refine ⟨_, hp, _, atI_nat (vis_get hg), _, rfl, ?_⟩
      have e1 : hasEnd p s e = decide ((e : Int) < 2 + ((p.getD s 0 : Nat) : Int)) := by
        unfold hasEnd
        rw [decide_eq_true hs, Bool.true_and]
        by_cases q : e < 2 + p.getD s 0
        · rw [decide_eq_true q, decide_eq_true (by omega)]
        · rw [decide_eq_false q, decide_eq_false (by omega)]
      rw [e1] at k
      exact k
    · rw [if_neg (by rw [decide_eq_true_eq]; omega)]
      have e1 : hasEnd p s e = false := by
        unfold hasEnd
        rw [decide_eq_false hs, Bool.false_and]
      rw [e1] at k
      exact k
/-! ### kinds_fit -/
def kindsFit (p : List Nat) : Bool := decide (1 ≤ p.length) && (decide (p.length ≤ 24) && Rail.bits p)
def spKindsFit (K : PySem.W.Frag) : Sp := fun vs H Q _ => ∃ (a : Addr) (p : List Nat), vs = [.ref a] ∧ SqL K H a (p.map vi) ∧ Q (.bl (kindsFit p)) H
theorem ok_kinds_fit {f : Addr} {fd : FuncData} (F : Fun K "kinds_fit" "kinds_fit" s_kinds_fit f fd) (T : TxB mg) (c1 : ConI mg "MOST_SECTIONS" 24) (c2 : ConI mg "POINTS" 1) : FnOk P w K mg base CX0 1 f fd ["kinds"] (spKindsFit K) := by
  refine F.ok sc_kinds_fit (fun vs H Q E h => ?_) (fun cdv A outer s0 H vs Q E hr h => ?_)
  · obtain ⟨a, p, rfl, _⟩ := h
    rfl
  · obtain ⟨a, p, rfl, hp, k⟩ := h
    refine ⟨_, pss_one (ps_ret (pe_and (pe_chain op_le op_le pe_int (pe_callB call_len_seq (by rfl) T.len PySem.boot_len (pa_cons (pv 0) pa_nil)) (pe_con c1 (by rfl))) (pe_one (pe_cmpR op_le (pe_callB (cr_max rfl) (by rfl) T.max (by decide +kernel) (pa_cons (pv 0) pa_nil)) (pe_con c2 (by rfl)) (nomark _))))), ?_⟩
    rw [show L2.start n_kinds_fit [V.ref a] = [some (V.ref a)] from rfl]
    walk_at "rd"
    refine ⟨_, .inl hp, ?_⟩
    rw [List.length_map]
    by_cases h1 : 1 ≤ p.length
    · rw [if_pos (decide_eq_true (by omega))]
      by_cases h2 : p.length ≤ 24
      · rw [if_pos (decide_eq_true (by omega))]
        refine ⟨a, p.map fun (n : Nat) => (n : Int), rfl, ?_, by rw [List.length_map]; omega, fun m hm hle => ⟨_, rfl, ?_⟩⟩
        · rw [List.map_map]
          exact hp
        · have e1 : kindsFit p = decide (m ≤ 1) := by
            unfold kindsFit
            rw [decide_eq_true h1, decide_eq_true h2, Bool.true_and, Bool.true_and]
            by_cases q : m ≤ 1
            · rw [decide_eq_true q]
              refine List.all_eq_true.mpr fun x hx => decide_eq_true ?_
              have := hle (x : Int) (List.mem_map.mpr ⟨x, hx, rfl⟩)
              omega
            · rw [decide_eq_false q]
              cases e : Rail.bits p with
              | false => rfl
              | true =>
                obtain ⟨x, hx, rfl⟩ := List.mem_map.mp hm
                have := of_decide_eq_true (List.all_eq_true.mp e x hx)
                omega
          rw [e1] at k
          exact k
      · rw [if_neg (by rw [decide_eq_true_eq]; omega)]
        have e1 : kindsFit p = false := by
          unfold kindsFit
          rw [decide_eq_false h2, Bool.false_and, Bool.and_false]
        rw [e1] at k
        exact k
    · rw [if_neg (by rw [decide_eq_true_eq]; omega), if_neg Bool.false_ne_true]
      have e1 : kindsFit p = false := by
        unfold kindsFit
        rw [decide_eq_false h1, Bool.false_and]
      rw [e1] at k
      exact k
/-! ### pair_up -/
theorem fits_of {i : Int} (h : -1000000 ≤ i) (h2 : i ≤ 2000000) : Builtin.Range.rangeFitsLong i = true := by
  unfold Builtin.Range.rangeFitsLong
  rw [Bool.and_eq_true]
  exact ⟨decide_eq_true (by omega), decide_eq_true (by omega)⟩
theorem rg2 {n : Nat} (h : n ≤ 1000000) : RgC 0 (n : Int) 2 ((n + 1) / 2) := by
  have e : Builtin.Range.rangeSize 0 (n : Int) 2 = (((n + 1) / 2 : Nat) : Int) := by
    unfold Builtin.Range.rangeSize
    rw [if_pos (by decide)]
    split <;> omega
  refine ⟨by decide, by decide, ?_, e⟩
  unfold Builtin.Range.small
  rw [e]
  have e2 : (n + 1) / 2 ≤ 1000000 := by omega
  generalize (n + 1) / 2 = m at e2
  rw [if_pos (by decide), fits_of (i := 0) (by omega) (by omega), fits_of (i := (n : Int)) (by omega) (by omega), fits_of (i := 2) (by omega) (by omega), fits_of (i := (m : Int)) (by omega) (by omega), fits_of (i := (n : Int) + (2 - 1)) (by omega) (by omega), Bool.or_true]
  rfl
/-- the ends of a row by twos, as far as they go -/
def pairs : List Nat → List Rail.End
  | s :: e :: r => ⟨s, e⟩ :: pairs r
  | _ => []
theorem pairs_len : ∀ l : List Nat, (pairs l).length = l.length / 2
  | [] => by simp [pairs]
  | [_] => by simp [pairs]
  | s :: e :: r => by
    show (pairs r).length + 1 = (r.length + 1 + 1) / 2
    rw [pairs_len r]
    omega
theorem pairs_at : ∀ {l : List Nat} {i s e : Nat}, l[2 * i]? = some s → l[2 * i + 1]? = some e → (pairs l)[i]? = some ⟨s, e⟩
  | [], i, s, e, h, _ => by simp at h
  | [_], 0, s, e, _, h => by simp at h
  | [_], i + 1, s, e, h, _ => by simp [Nat.mul_add] at h
  | a :: b :: r, 0, s, e, h, h2 => by
    simp at h h2
    subst h h2
    rfl
  | a :: b :: r, i + 1, s, e, h, h2 => by
    rw [show 2 * (i + 1) = 2 * i + 1 + 1 by omega, List.getElem?_cons_succ, List.getElem?_cons_succ] at h
    rw [show 2 * (i + 1) + 1 = 2 * i + 1 + 1 + 1 by omega, List.getElem?_cons_succ, List.getElem?_cons_succ] at h2
    exact pairs_at (l := r) (i := i) h h2
theorem take_snoc {α : Type} : ∀ {l : List α} {i : Nat} {x : α}, l[i]? = some x → l.take (i + 1) = l.take i ++ [x]
  | [], i, x, h => by simp at h
  | a :: l, 0, x, h => by
    have e : a = x := Option.some.inj h
    subst e
    rfl
  | a :: l, i + 1, x, h => by
    have ih := take_snoc (l := l) (i := i) (x := x) h
    show a :: l.take (i + 1) = a :: l.take i ++ [x]
    rw [ih]
    rfl
def spPairUp (K : PySem.W.Frag) : Sp := fun vs H Q _ => ∃ (a : Addr) (p : List Nat), vs = [.ref a] ∧ SqL K H a (p.map vi) ∧ p.length ≤ 1000000 ∧ p.length % 2 = 0 ∧ ∀ (H' : Hp) (l : Addr), Same H H' → H l = Option.none → SpotsAt H' l (pairs p) → Q (.ref l) H'
theorem ok_pair_up {f : Addr} {fd : FuncData} (F : Fun K "pair_up" "pair_up" s_pair_up f fd) (T : TxB mg) : FnOk P w K mg base CX0 1 f fd ["numbers"] (spPairUp K) := by
  refine F.ok sc_pair_up (fun vs H Q E h => ?_) (fun cdv A outer s0 H vs Q E hr h => ?_)
  · obtain ⟨a, p, rfl, _⟩ := h
    rfl
  · obtain ⟨a, p, rfl, hp, hlen, heven, k⟩ := h
    refine ⟨_, pss_one (ps_ret (pe_lc rfl sc_pair_up.nd (pi_range3 (by rfl) T.range (pa_cons pe_int (pa_cons (pe_callB call_len_seq (by rfl) T.len PySem.boot_len (pa_cons (pv 0) pa_nil)) (pa_cons pe_int pa_nil)))) (blkOk_by (N := n_pair_up) (sc := defScope s_pair_up) (own := [("k", 1)]) (by decide +kernel))
      (fun s H C cl fp => pg_name (i := 1) sc_pair_up.nd rfl (Or.inl rfl) (Or.inr rfl)) (fun s H C cl fp => pts_nil)
      (fun s H C cl fp => pe_tup (pa_cons (pe_ix (ixL K) (pv 0) (pv 1) (fun _ _ => rfl)) (pa_cons (pe_ix (ixL K) (pv 0) (pe_op op_add (pv 1) pe_int) (fun _ _ => rfl)) pa_nil))))), ?_⟩
    rw [show L2.start n_pair_up [V.ref a] = [some (V.ref a), none] from rfl]
    walk_at "rd"
    refine ⟨_, .inl hp, 0, _, 2, ⟨rfl, rfl, rfl⟩, (p.length + 1) / 2, by rw [List.length_map]; exact rg2 hlen, fun L hL => ?_⟩
    refine lc_rangeC (fun i H' => ∃ as : List Addr, H' L = some (.lst (as.map V.ref)) ∧ Paired (SpotAt H') as ((pairs p).take i) ∧ (∀ b o, H b = some o → H' b = some o) ∧ ∀ b ∈ as, b ≠ L) ?_ ?_ ?_
    · exact ⟨[], upd_same, .nil, same_new hL, fun b hb => by cases hb⟩
    · rintro i H' hi ⟨as, h1, h2, h3, h4⟩
      have s1 : (0 : Int) + (i : Int) * 2 = ((2 * i : Nat) : Int) := by omega
      have g1 := at_lt (show 2 * i < p.length by omega) 0
      have g2 := at_lt (show 2 * i + 1 < p.length by omega) 0
      have hp' : SqL K H' a (p.map vi) := Same.seq h3 hp
      walk_at "rd"
      rw [s1]
      refine ⟨_, hp', _, atI_nat (vis_get g1), _, hp', _, atI_nat (j := 2 * i + 1) (vis_get g2), by show 2 ≤ sizeLine; decide, fun T hT => ?_⟩
      have hLT : L ≠ T := ne_of_none h1 hT
      have e0 := pairs_at g1 g2
      refine ⟨as.map V.ref, by rw [upd_ne hLT]; exact h1, ?_, as ++ [T], ?_, ?_, ?_, ?_⟩
      · have l1 := Paired.len h2
        rw [List.length_take, pairs_len] at l1
        rw [List.length_map, l1, sizeLine_eq]
        omega
      · rw [upd_same, List.map_append]
        rfl
      · rw [take_snoc e0]
        refine Paired.snoc (Paired.mono2 h2 fun b e hb he => ?_) ?_
        · show upd _ _ _ b = _
          rw [upd_ne (h4 b hb), upd_ne (ne_of_none he hT)]
          exact he
        · show upd _ _ _ T = _
          rw [upd_ne hLT.symm, upd_same]
      · intro b o hb
        rw [upd_ne (ne_of_none hb hL), upd_ne (ne_of_none (h3 _ _ hb) hT)]
        exact h3 b o hb
      · intro b hb
        rcases List.mem_append.mp hb with hb | hb
        · exact h4 b hb
        · rw [List.mem_singleton.mp hb]
          exact hLT.symm
    · rintro H' ⟨as, h1, h2, h3, h4⟩
      rw [List.take_of_length_le (by rw [pairs_len]; omega)] at h2
      exact k H' L h3 hL ⟨as, h1, h2⟩
end
end Sb
namespace Sb
open PySem PySem.Spec PyProof.Rows L2
/-! ### spots_fit -/
theorem apart_iff : ∀ {es : List Rail.End}, Rail.apart es = true ↔ es.Nodup
  | [] => by simp [Rail.apart]
  | e :: r => by
    unfold Rail.apart
    rw [Bool.and_eq_true, apart_iff (es := r), List.nodup_cons, List.all_eq_true]
    constructor
    · rintro ⟨h1, h2⟩
      refine ⟨fun m => ?_, h2⟩
      have := h1 e m
      rw [(same_iff (a := e) (b := e)).mpr rfl] at this
      cases this
    · rintro ⟨h1, h2⟩
      refine ⟨fun f hf => ?_, h2⟩
      cases q : Rail.sameEnd e f with
      | false => rfl
      | true =>
        rw [same_iff.mp q] at h1
        exact absurd hf h1
def fit (p : List Nat) (es : List Rail.End) : Bool := es.all (fun e => hasEnd p e.section_ e.end_) && Rail.apart es
theorem nodup_take {α : Type} {l : List α} (i : Nat) (h : l.Nodup) : (l.take i).Nodup := h.sublist (List.take_sublist i l)
def spSpotsFit (K : PySem.W.Frag) : Sp := fun vs H Q _ => ∃ (a l : Addr) (p : List Nat) (es : List Rail.End), vs = [.ref a, .ref l] ∧ SqL K H a (p.map vi) ∧ SpotsAt H l es ∧ es.length ≤ 1000000 ∧ ∀ H' : Hp, Same H H' → Q (.bl (fit p es)) H'
section
variable {P : Program} {w : World} {K : PySem.W.Frag} {mg : Str → Option Value} {base : Heap}
theorem ok_spots_fit {f : Addr} {fd : FuncData} (F : Fun K "spots_fit" "spots_fit" s_spots_fit f fd) (G : Fn P w K mg base 1 "has_end" ["kinds", "section", "end"] (spHasEnd K)) : FnOk P w K mg base CX0 2 f fd ["kinds", "spots"] (spSpotsFit K) := by
  refine F.ok sc_spots_fit (fun vs H Q E h => ?_) (fun cdv A outer s0 H vs Q E hr h => ?_)
  · obtain ⟨a, l, p, es, rfl, _⟩ := h
    rfl
  · obtain ⟨a, l, p, es, rfl, hp, ⟨as, hl, hP⟩, hlen, k⟩ := h
    have nd := sc_spots_fit.nd
    have hu := hu_of hr
    refine ⟨_, pss_cons (ps_set (i := 2) nd rfl (Or.inl rfl) pe_dnewT)
      (pss_cons (ps_for PassesOwn.never rfl (pi_list (pv 1)) (pg_name (i := 3) nd rfl (Or.inl rfl))
        (pss_cons (ps_if (PW.pt (pw_or (pt_cmp (pc_din hu (pv 3) (pv 2))) (pw_or1 (pt_not (pt_val (pe_fn G hr (pa_cons (pv 0) (pa_cons (pe_ix ix_tup (pv 3) pe_int (fun _ _ => rfl)) (pa_cons (pe_ix ix_tup (pv 3) pe_int (fun _ _ => rfl)) pa_nil)))))))))
          (pss_one (ps_ret pe_bl)) pss_nil)
        (pss_one (ps_dput hu (pv 2) (pv 3) pe_bl (by rfl)))))
      (pss_one (ps_ret pe_bl))), ?_⟩
    rw [show L2.start n_spots_fit [V.ref a, V.ref l] = [some (V.ref a), some (V.ref l), none, none] from rfl]
    walk_at "rd"
    intro d hd
    have s1 := same_new (o := .dT []) hd
    refine ⟨⟨_, SqL.of (s1 _ _ hl)⟩, ?_⟩
    obtain ⟨Pv, eP⟩ : ∃ Pv : Nat → L2.St → Hp → Prop, Pv = fun i σ H' => ∃ (v : Option V) (kvs : List (List Key × V)), σ = [some (.ref a), some (.ref l), some (.ref d), v] ∧ Same H H' ∧ H' d = some (.dT kvs) ∧ kvs.length ≤ i ∧
      (∀ e, (valV kvs (key e)).isSome = true ↔ e ∈ es.take i) ∧ (es.take i).Nodup ∧ (es.take i).all (fun e => hasEnd p e.section_ e.end_) = true := ⟨_, rfl⟩
    refine fo_list (xs := as.map V.ref) Pv ?_ ?_ ?_ ?_
    · rw [eP]
      exact ⟨none, [], rfl, s1, upd_same, Nat.le_refl _, fun e => by simp [valV], by simp, by simp⟩
    · intro i σ H' _ z
      rw [eP] at z
      obtain ⟨v, kvs, _, h2, _⟩ := z
      exact SqL.of (h2 _ _ hl)
    · intro i x σ H' hx z
      rw [eP] at z
      obtain ⟨v, kvs, rfl, h2, h3, h4, h5, h6, h7⟩ := z
      rw [List.getElem?_map] at hx
      cases ea : as[i]? with
      | none => rw [ea] at hx; cases hx
      | some b =>
        rw [ea] at hx
        cases hx
        obtain ⟨e, ee, hb⟩ := paired_get hP ea
        have hb : SpotAt H' b e := h2 _ _ hb
        have tk := take_snoc ee
        walk_at "rd"
        refine ⟨_, DGet.t (k := key e) h3 hb, ?_⟩
        by_cases hin : e ∈ es.take i
        · rw [if_pos ((h5 e).mpr hin)]
          have e1 : fit p es = false := by
            unfold fit
            cases q : Rail.apart es with
            | false => rw [Bool.and_false]
            | true =>
              have z := nodup_take (i + 1) (apart_iff.mp q)
              rw [tk] at z
              exact absurd rfl ((List.nodup_append.mp z).2.2 e hin e (List.mem_singleton.mpr rfl))
          rw [e1] at k
          exact k _ h2
        · have e2 : ¬ (valV kvs (key e)).isSome = true := fun z => hin ((h5 e).mp z)
          rw [if_neg e2]
          refine ⟨_, SqT.of hb, _, atI_nat (j := 0) rfl, _, SqT.of hb, _, atI_nat (j := 1) rfl, ?_⟩
          refine ⟨a, p, e.section_, e.end_, rfl, Same.seq h2 hp, _, rfl, ?_⟩
          cases hh : hasEnd p e.section_ e.end_ with
          | false =>
            rw [if_pos (by rfl)]
            have e1 : fit p es = false := by
              unfold fit
              cases q : es.all (fun e => hasEnd p e.section_ e.end_) with
              | false => rw [Bool.false_and]
              | true =>
                have z := List.all_eq_true.mp q e (List.mem_of_getElem? ee)
                rw [hh] at z
                cases z
            rw [e1] at k
            exact k _ h2
          | true =>
            rw [if_neg (by decide)]
            rw [eP]
            refine ⟨_, DPut.t (k := key e) h3 hb (Nat.lt_of_le_of_lt h4 ?_), _, _, rfl, ?_, upd_same, ?_, ?_, ?_, ?_⟩
            · have := (List.getElem?_eq_some_iff.mp ee).1
              rw [sizeLine_eq]
              omega
            · intro c o hc
              rw [upd_ne (ne_of_none hc hd)]
              exact h2 _ _ hc
            · exact Nat.le_trans (length_putK _ _ _) (Nat.succ_le_succ h4)
            · intro e'
              rw [valV_put, tk, List.mem_append, List.mem_singleton]
              by_cases q : e' = e
              · subst q
                rw [if_pos rfl]
                simp
              · rw [if_neg (fun z => q (key_inj z)), h5 e']
                simp [q]
            · rw [tk]
              refine List.nodup_append.mpr ⟨h6, by simp, ?_⟩
              intro x hx y hy z
              rw [List.mem_singleton.mp hy] at z
              exact hin (z ▸ hx)
            · rw [tk, List.all_append, h7]
              simp [hh]
    · intro σ H' z
      rw [eP] at z
      obtain ⟨v, kvs, rfl, h2, h3, h4, h5, h6, h7⟩ := z
      rw [List.length_map, Paired.len hP, List.take_length] at h6 h7
      walk_at "rd"
      have e1 : fit p es = true := by
        unfold fit
        rw [h7, apart_iff.mpr h6]
        rfl
      rw [e1] at k
      exact k _ h2
end
end Sb
namespace Sb
open PySem PySem.Spec PyProof.Rows L2
/-! ### join_spots -/
abbrev flat (js : List (Rail.End × Rail.End)) : List Rail.End := js.flatMap fun j => [j.1, j.2]
instance : DecidableEq Rail.End := fun a b => match h : Rail.sameEnd a b with
  | true => isTrue (same_iff.mp h)
  | false => isFalse fun e => by rw [same_iff.mpr e] at h; cases h
def partFrom (acc : Option Rail.End) (js : List (Rail.End × Rail.End)) (e : Rail.End) : Option Rail.End := js.foldl (fun acc j => if e = j.2 then some j.1 else if e = j.1 then some j.2 else acc) acc
theorem part_snoc (js : List (Rail.End × Rail.End)) (j : Rail.End × Rail.End) (e : Rail.End) : partFrom none (js ++ [j]) e = if e = j.2 then some j.1 else if e = j.1 then some j.2 else partFrom none js e := by
  unfold partFrom
  rw [List.foldl_append]
  rfl
theorem flat_cons (j : Rail.End × Rail.End) (r : List (Rail.End × Rail.End)) : flat (j :: r) = j.1 :: j.2 :: flat r := rfl
theorem flat_at : ∀ {js : List (Rail.End × Rail.End)} {i : Nat} {j : Rail.End × Rail.End}, js[i]? = some j → (flat js)[2 * i]? = some j.1 ∧ (flat js)[2 * i + 1]? = some j.2
  | [], i, j, h => by simp at h
  | a :: r, 0, j, h => by
    simp at h
    subst h
    exact ⟨rfl, rfl⟩
  | a :: r, i + 1, j, h => by
    have ih := flat_at (js := r) (i := i) (j := j) (by simpa using h)
    rw [flat_cons, show 2 * (i + 1) = 2 * i + 1 + 1 by omega, show 2 * i + 1 + 1 + 1 = 2 * i + 1 + 1 + 1 from rfl, List.getElem?_cons_succ, List.getElem?_cons_succ, List.getElem?_cons_succ, List.getElem?_cons_succ]
    exact ih
theorem flat_len : ∀ js : List (Rail.End × Rail.End), (flat js).length = 2 * js.length
  | [] => rfl
  | a :: r => by
    rw [flat_cons, List.length_cons, List.length_cons, flat_len r, List.length_cons]
    omega
theorem part_none {acc : Option Rail.End} {e : Rail.End} : ∀ {js : List (Rail.End × Rail.End)}, e ∉ flat js → partFrom acc js e = acc
  | [], _ => rfl
  | j :: r, h => by
    rw [flat_cons] at h
    simp only [List.mem_cons, not_or] at h
    unfold partFrom
    rw [List.foldl_cons, if_neg h.2.1, if_neg h.1]
    exact part_none h.2.2
/-- the specification's way to the other end of a joint -/
def other (js : List (Rail.End × Rail.End)) (e : Rail.End) : Option Rail.End := match js.find? fun (j : Rail.End × Rail.End) => Rail.sameEnd j.1 e with
  | some j => some j.2
  | none => match js.find? fun (j : Rail.End × Rail.End) => Rail.sameEnd j.2 e with
    | some j => some j.1
    | none => none
theorem beyond_eq (t : Rail.Track) (e : Rail.End) : t.beyond e = other t.joints e := rfl
theorem find_none1 {js : List (Rail.End × Rail.End)} {e : Rail.End} (h : e ∉ flat js) : js.find? (fun j => Rail.sameEnd j.1 e) = none ∧ js.find? (fun j => Rail.sameEnd j.2 e) = none := by
  constructor
  · refine List.find?_eq_none.mpr fun j hj z => h ?_
    rw [← same_iff.mp z]
    exact List.mem_flatMap.mpr ⟨j, hj, by simp⟩
  · refine List.find?_eq_none.mpr fun j hj z => h ?_
    rw [← same_iff.mp z]
    exact List.mem_flatMap.mpr ⟨j, hj, by simp⟩
theorem part_eq {acc : Option Rail.End} {e : Rail.End} : ∀ {js : List (Rail.End × Rail.End)}, (flat js).Nodup → partFrom acc js e = (other js e).or acc
  | [], _ => rfl
  | j :: r, h => by
    rw [flat_cons] at h
    obtain ⟨h1, h2⟩ := List.nodup_cons.mp h
    obtain ⟨h3, h4⟩ := List.nodup_cons.mp h2
    have h12 : j.1 ≠ j.2 := fun z => h1 (List.mem_cons.mpr (Or.inl z))
    have h1r : j.1 ∉ flat r := fun z => h1 (List.mem_cons.mpr (Or.inr z))
    unfold partFrom other
    rw [List.foldl_cons]
    by_cases e2 : e = j.2
    · subst e2
      rw [if_pos rfl]
      have := part_none (acc := some j.1) h3
      unfold partFrom at this
      rw [this]
      obtain ⟨f1, f2⟩ := find_none1 h3
      rw [List.find?_cons_of_neg (by intro z; exact h12 (same_iff.mp z)), f1]
      rw [List.find?_cons_of_pos (by exact same_iff.mpr rfl)]
      rfl
    · rw [if_neg e2]
      by_cases e1 : e = j.1
      · subst e1
        rw [if_pos rfl]
        have := part_none (acc := some j.2) h1r
        unfold partFrom at this
        rw [this, List.find?_cons_of_pos (by exact same_iff.mpr rfl)]
        rfl
      · rw [if_neg e1, List.find?_cons_of_neg (by intro z; exact e1 (same_iff.mp z).symm), List.find?_cons_of_neg (by intro z; exact e2 (same_iff.mp z).symm)]
        exact part_eq h4
/-- a dict's entry at a spot: nothing, or a spot -/
def Jn (H : Hp) (kvs : List (List Key × V)) (e : Rail.End) : Option Rail.End → Prop
  | none => valV kvs (key e) = none
  | some f => ∃ b, valV kvs (key e) = some (.ref b) ∧ SpotAt H b f
theorem Jn.keep {H H' : Hp} {kvs : List (List Key × V)} {e : Rail.End} (s : ∀ b es, SpotAt H b es → SpotAt H' b es) : ∀ {o : Option Rail.End}, Jn H kvs e o → Jn H' kvs e o
  | none, h => h
  | some _, ⟨b, h1, h2⟩ => ⟨b, h1, s _ _ h2⟩
def spJoin : Sp := fun vs H Q _ => ∃ (l : Addr) (js : List (Rail.End × Rail.End)), vs = [.ref l] ∧ SpotsAt H l (flat js) ∧ js.length ≤ 100000 ∧
  ∀ (H' : Hp) (d : Addr) (kvs : List (List Key × V)), Same H H' → H d = Option.none → H' d = some (.dT kvs) → (∀ e, Jn H' kvs e (partFrom none js e)) → Q (.ref d) H'
section
variable {P : Program} {w : World} {K : PySem.W.Frag} {mg : Str → Option Value} {base : Heap}
theorem ok_join_spots {f : Addr} {fd : FuncData} (F : Fun K "join_spots" "join_spots" s_join_spots f fd) (T : TxB mg) : FnOk P w K mg base CX0 1 f fd ["spots"] spJoin := by
  refine F.ok sc_join_spots (fun vs H Q E h => ?_) (fun cdv A outer s0 H vs Q E hr h => ?_)
  · obtain ⟨l, js, rfl, _⟩ := h
    rfl
  · obtain ⟨l, js, rfl, ⟨as, hl, hP⟩, hlen, k⟩ := h
    have nd := sc_join_spots.nd
    have hu := hu_of hr
    refine ⟨_, pss_cons (ps_set (i := 1) nd rfl (Or.inl rfl) pe_dnewT)
      (pss_cons (ps_for PassesOwn.never rfl (pi_range3 (by rfl) T.range (pa_cons pe_int (pa_cons (pe_callB call_len_seq (by rfl) T.len PySem.boot_len (pa_cons (pv 0) pa_nil)) (pa_cons pe_int pa_nil)))) (pg_name (i := 2) nd rfl (Or.inl rfl))
        (pss_cons (ps_dput hu (pv 1) (pe_ix ix_list (pv 0) (pv 2) (fun _ _ => rfl)) (pe_ix ix_list (pv 0) (pe_op op_add (pv 2) pe_int) (fun _ _ => rfl)) (by rfl))
        (pss_one (ps_dput hu (pv 1) (pe_ix ix_list (pv 0) (pe_op op_add (pv 2) pe_int) (fun _ _ => rfl)) (pe_ix ix_list (pv 0) (pv 2) (fun _ _ => rfl)) (by rfl)))))
      (pss_one (ps_ret (pv 1)))), ?_⟩
    rw [show L2.start n_join_spots [V.ref l] = [some (V.ref l), none, none] from rfl]
    walk_at "rd"
    intro d hd
    have s1 := same_new (o := .dT []) hd
    have hal : as.length = 2 * js.length := by rw [Paired.len hP, flat_len]
    refine ⟨_, .inl (SqL.of (s1 _ _ hl)), 0, _, 2, ⟨rfl, rfl, rfl⟩, js.length, ?_, ?_⟩
    · rw [List.length_map, hal]
      have := rg2 (n := 2 * js.length) (by omega)
      rw [show (2 * js.length + 1) / 2 = js.length by omega] at this
      exact this
    obtain ⟨Pv, eP⟩ : ∃ Pv : Nat → L2.St → Hp → Prop, Pv = fun i σ H' => ∃ (v : Option V) (kvs : List (List Key × V)), σ = [some (.ref l), some (.ref d), v] ∧ Same H H' ∧ H' d = some (.dT kvs) ∧ kvs.length ≤ 2 * i ∧ ∀ e, Jn H' kvs e (partFrom none (js.take i) e) := ⟨_, rfl⟩
    refine fo_rangeC Pv ?_ ?_ ?_
    · rw [eP]
      exact ⟨none, [], rfl, s1, upd_same, Nat.le_refl _, fun e => rfl⟩
    · intro i σ H' hi z
      rw [eP] at z
      obtain ⟨v, kvs, rfl, h2, h3, h4, h5⟩ := z
      have ej := List.getElem?_eq_getElem hi
      obtain ⟨g1, g2⟩ := flat_at ej
      obtain ⟨a1, ea1, hs1⟩ := Paired.get2 hP g1
      obtain ⟨a2, ea2, hs2⟩ := Paired.get2 hP g2
      have s2 : (0 : Int) + (i : Int) * 2 = ((2 * i : Nat) : Int) := by omega
      have k1 : (as.map V.ref)[2 * i]? = some (.ref a1) := by rw [List.getElem?_map, ea1]; rfl
      have k2 : (as.map V.ref)[2 * i + 1]? = some (.ref a2) := by rw [List.getElem?_map, ea2]; rfl
      have hlL : SqL K H' l (as.map V.ref) := SqL.of (h2 _ _ hl)
      have nl : l ≠ d := ne_of_none hl hd
      have keep : ∀ (o : HO) b e, SpotAt H b e → SpotAt (upd H' d o) b e := fun o b e hb => by
        show upd H' d o b = _
        rw [upd_ne (ne_of_none hb hd)]
        exact h2 _ _ hb
      have keep2 : ∀ (o : HO) b e, SpotAt H' b e → SpotAt (upd H' d o) b e := fun o b e hb => by
        show upd H' d o b = _
        rw [upd_ne (ne_of hb h3 (by intro z; cases z))]
        exact hb
      walk_at "rd"
      rw [s2]
      refine ⟨_, hlL, _, atI_nat (j := 2 * i + 1) k2, _, hlL, _, atI_nat k1, _, DPut.t (k := key js[i].1) h3 (h2 _ _ hs1) ?_, ?_⟩
      · rw [sizeLine_eq]
        omega
      have hlL2 : SqL K (upd H' d (.dT (putK kvs (key js[i].1) (.ref a2)))) l (as.map V.ref) := SqL.of (by rw [upd_ne nl]; exact h2 _ _ hl)
      refine ⟨_, hlL2, _, atI_nat k1, _, hlL2, _, atI_nat (j := 2 * i + 1) k2, _, DPut.t (k := key js[i].2) upd_same (keep _ _ _ hs2) ?_, ?_⟩
      · have := length_putK kvs (key js[i].1) (V.ref a2)
        rw [sizeLine_eq]
        omega
      rw [eP, upd_upd]
      refine ⟨_, _, rfl, fun b o hb => ?_, upd_same, ?_, fun e => ?_⟩
      · rw [upd_ne (ne_of_none hb hd)]
        exact h2 _ _ hb
      · have q1 := length_putK kvs (key js[i].1) (V.ref a2)
        have q2 := length_putK (putK kvs (key js[i].1) (V.ref a2)) (key js[i].2) (V.ref a1)
        omega
      · rw [take_snoc ej, part_snoc]
        by_cases e2 : e = js[i].2
        · rw [if_pos e2]
          refine ⟨a1, ?_, keep _ _ _ hs1⟩
          rw [valV_put, if_pos (by rw [e2])]
        · rw [if_neg e2]
          by_cases e1 : e = js[i].1
          · rw [if_pos e1]
            refine ⟨a2, ?_, keep _ _ _ hs2⟩
            rw [valV_put, if_neg (fun z => e2 (key_inj z)), valV_put, if_pos (by rw [e1])]
          · rw [if_neg e1]
            have q := Jn.keep (keep2 (HO.dT (putK (putK kvs (key js[i].1) (V.ref a2)) (key js[i].2) (V.ref a1)))) (h5 e)
            revert q
            cases partFrom none (js.take i) e with
            | none =>
              intro q
              show valV _ _ = none
              rw [valV_put, if_neg (fun z => e2 (key_inj z)), valV_put, if_neg (fun z => e1 (key_inj z))]
              exact q
            | some f =>
              rintro ⟨b, q1, q2⟩
              refine ⟨b, ?_, q2⟩
              rw [valV_put, if_neg (fun z => e2 (key_inj z)), valV_put, if_neg (fun z => e1 (key_inj z))]
              exact q1
    · intro σ H' z
      rw [eP] at z
      obtain ⟨v, kvs, rfl, h2, h3, h4, h5⟩ := z
      rw [List.take_length] at h5
      walk_at "rd"
      exact k H' d kvs h2 hd h3 h5
end
end Sb
namespace Sb
open PySem PySem.Spec PyProof.Rows L2
/-! ### classes -/
structure Cn (P : Program) (w : World) (K : PySem.W.Frag) (mg : Str → Option Value) (base : Heap) (k : Nat) (x : Str) (C : Addr) (ps : List Str) (sp : Sp) : Prop where
  ex : ∃ f fd, mg x = some (.ref C) ∧ Mk K C f ∧ Binds K fd ps [] ∧ FnOk P w K mg base CX0 k f fd ps sp
theorem pe_new {X : Cx} {k : Nat} {x : Str} {C : Addr} {ps : List Str} {sp : Sp} {p pos : Pos} {e : Expr} {es : List Expr} {t : TA} (F : Cn X.prog X.w X.K X.mg X.base k x C ps sp) (hr : Room (k + 1) X.A) (ha : PA X (e :: es) t) (hg : Gl X x := by rfl)
    (hdb : (x == ("__debug__" : Str)) = false := by decide) (he : starEach (e :: es) X.env = (false, eval e X.env) :: starEach es X.env := by rfl) (hpl : (backTo pos (starEach es X.env)).any (·.1) = false := by rfl) :
    PE X (.Call (.Name x p) (e :: es) [] pos) (tMake C sp [] E0 t) := by
  obtain ⟨f, fd, hm, hk, hb, ok⟩ := F.ex
  exact pe_make hk ok hr hg hm hb .nil pass0 ha hdb he hpl
theorem pe_new0 {X : Cx} {k : Nat} {x : Str} {C : Addr} {ps : List Str} {sp : Sp} {p pos : Pos} (F : Cn X.prog X.w X.K X.mg X.base k x C ps sp) (hr : Room (k + 1) X.A) (hg : Gl X x := by rfl)
    (hdb : (x == ("__debug__" : Str)) = false := by decide) : PE X (.Call (.Name x p) [] [] pos) (tMake C sp [] E0 tNil) := by
  obtain ⟨f, fd, hm, hk, hb, ok⟩ := F.ex
  exact pe_make0 hk ok hr hg hm hb .nil pass0 hdb
structure Tc (K : PySem.W.Frag) (C : Addr) (fs : List Str) : Prop where
  cl : Cls K C
  na : ∀ f ∈ fs, NoAttr K C f
/-! ### the track -/
abbrev tfs : List Str := ["kinds", "joined", "signals", "signal_at"]
abbrev tf (ak aj as ag : Addr) : List (Str × V) := [("kinds", .ref ak), ("joined", .ref aj), ("signals", .ref as), ("signal_at", .ref ag)]
def spTrackInit (C : Addr) : Sp := fun vs H Q _ => ∃ (x dx ak aj as : Addr) (sg : List Rail.End), vs = [.ref x, .ref ak, .ref aj, .ref as] ∧ H x = some (.ins C dx []) ∧ SpotsAt H as sg ∧ sg.Nodup ∧ sg.length ≤ 1000000 ∧
  ∀ (H' : Hp) (ag : Addr) (ks : List (List Key × V)), H' x = some (.ins C dx (tf ak aj as ag)) → (∀ b o, H b = some o → b ≠ x → H' b = some o) → H' ag = some (.dT ks) → (∀ e, valV ks (key e) = (sg.findIdx? (Rail.sameEnd e)).map vi) → Q .non H'
theorem findIdx_none {sg : List Rail.End} {e : Rail.End} (h : e ∉ sg) : sg.findIdx? (Rail.sameEnd e) = none := by
  refine List.findIdx?_eq_none_iff.mpr fun x hx => ?_
  cases q : Rail.sameEnd e x with
  | false => rfl
  | true =>
    rw [same_iff.mp q] at h
    exact absurd hx h
section
variable {P : Program} {w : World} {K : PySem.W.Frag} {mg : Str → Option Value} {base : Heap}
theorem ok_Track_init {f C : Addr} {fd : FuncData} (F : Fun K "__init__" "Track.__init__" s_Track_init f fd) (T : TxB mg) (c : Tc K C tfs) : FnOk P w K mg base CX0 1 f fd ["self", "kinds", "joined", "signals"] (spTrackInit C) := by
  refine F.ok sc_Track_init (fun vs H Q E h => ?_) (fun cdv A outer s0 H vs Q E hr h => ?_)
  · obtain ⟨x, dx, ak, aj, as, sg, rfl, _⟩ := h
    rfl
  · obtain ⟨x, dx, ak, aj, as, sg, rfl, hx, ⟨bs, hl, hP⟩, hnd, hlen, k⟩ := h
    have nd := sc_Track_init.nd
    have hu := hu_of hr
    refine ⟨_, pss_cons (ps_fld (pv 0) (pv 1) (by rfl)) (pss_cons (ps_fld (pv 0) (pv 2) (by rfl)) (pss_cons (ps_fld (pv 0) (pv 3) (by rfl)) (pss_cons (ps_fld (pv 0) pe_dnewT (by rfl))
      (pss_one (ps_for PassesOwn.never rfl (pi_enum (by rfl) T.enumerate (pa_cons (pv 3) pa_nil)) (pg_tup rfl (pgs_cons (pg_name (i := 4) nd rfl (Or.inl rfl)) (pgs_cons (pg_name (i := 5) nd rfl (Or.inl rfl)) pgs_nil)))
        (pss_one (ps_dput hu (pe_fld (pv 0) (by rfl)) (pv 5) (pv 4) (by rfl)))))))), ?_⟩
    rw [show L2.start n_Track_init [V.ref x, V.ref ak, V.ref aj, V.ref as] = [some (V.ref x), some (V.ref ak), some (V.ref aj), some (V.ref as), none, none] from rfl]
    have n1 := c.na "kinds" (by decide +kernel)
    have n2 := c.na "joined" (by decide +kernel)
    have n3 := c.na "signals" (by decide +kernel)
    have n4 := c.na "signal_at" (by decide +kernel)
    walk_at "rd"
    refine ⟨C, dx, [], hx, c.cl, n1, by decide, C, dx, [("kinds", .ref ak)], upd_same, c.cl, n2, by show 1 < 1000; decide, C, dx, [("kinds", .ref ak), ("joined", .ref aj)], upd_same, c.cl, n3, by show 2 < 1000; decide, ?_⟩
    intro d hd
    have hdx : d ≠ x := fun z => by
      rw [z, upd_same] at hd
      cases hd
    rw [upd_upd, upd_upd] at hd ⊢
    rw [upd_ne hdx] at hd
    refine ⟨C, dx, [("kinds", .ref ak), ("joined", .ref aj), ("signals", .ref as)], by rw [upd_ne hdx.symm]; exact upd_same, c.cl, n4, by show 3 < 1000; decide, ?_⟩
    have e0 : putF "signal_at" (V.ref d) [("kinds", .ref ak), ("joined", .ref aj), ("signals", .ref as)] = tf ak aj as d := rfl
    rw [e0]
    generalize hH1 : upd (upd (upd H x (HO.ins C dx _)) d (HO.dT [])) x (HO.ins C dx (tf ak aj as d)) = H1
    have q1 : H1 x = some (.ins C dx (tf ak aj as d)) := by rw [← hH1]; exact upd_same
    have q2 : H1 d = some (.dT []) := by rw [← hH1, upd_ne hdx]; exact upd_same
    have q3 : ∀ b o, H b = some o → b ≠ x → H1 b = some o := fun b o hb hbx => by
      rw [← hH1, upd_ne hbx, upd_ne (ne_of_none hb hd), upd_ne hbx]
      exact hb
    have hasx : as ≠ x := ne_of hl hx (by intro z; cases z)
    refine ⟨⟨_, SqL.of (q3 _ _ hl hasx)⟩, ?_⟩
    obtain ⟨Pv, eP⟩ : ∃ Pv : Nat → L2.St → Hp → Prop, Pv = fun i σ H' => ∃ (v v' : Option V) (kvs : List (List Key × V)), σ = [some (.ref x), some (.ref ak), some (.ref aj), some (.ref as), v, v'] ∧ H' x = some (.ins C dx (tf ak aj as d)) ∧ (∀ b o, H b = some o → b ≠ x → H' b = some o) ∧
      H' d = some (.dT kvs) ∧ kvs.length ≤ i ∧ ∀ e, valV kvs (key e) = ((sg.take i).findIdx? (Rail.sameEnd e)).map vi := ⟨_, rfl⟩
    refine fo_enum (xs := bs.map V.ref) Pv ?_ ?_ ?_ ?_
    · rw [eP]
      exact ⟨none, none, [], rfl, q1, q3, q2, Nat.le_refl _, fun e => rfl⟩
    · intro i σ H' _ z
      rw [eP] at z
      obtain ⟨v, v', kvs, rfl, h1, h2, h3, h4, h5⟩ := z
      exact SqL.of (h2 _ _ hl hasx)
    · intro i y U σ H' hy hU z
      rw [eP] at z
      obtain ⟨v, v', kvs, rfl, h1, h2, h3, h4, h5⟩ := z
      rw [List.getElem?_map] at hy
      cases ea : bs[i]? with
      | none => rw [ea] at hy; cases hy
      | some b =>
        rw [ea] at hy
        cases hy
        obtain ⟨e, ee, hb⟩ := paired_get hP ea
        have hbx : b ≠ x := ne_of hb hx (by intro z; cases z)
        have hb' : SpotAt (upd H' U (.tup [vi i, V.ref b])) b e := by
          show upd _ _ _ b = _
          rw [upd_ne (ne_of_none (h2 _ _ hb hbx) hU)]
          exact h2 _ _ hb hbx
        have hdU : d ≠ U := ne_of_none h3 hU
        have hi : i < sg.length := (List.getElem?_eq_some_iff.mp ee).1
        walk_at "rd"
        refine ⟨_, SqT.of upd_same, rfl, _, _, rfl, _, _, rfl, rfl, ?_⟩
        refine ⟨C, dx, tf ak aj as d, by rw [upd_ne (ne_of_none h1 hU)]; exact h1, c.cl, n4, V.ref d, rfl, ?_⟩
        walk_at "rd"
        refine ⟨_, DPut.t (k := key e) (by rw [upd_ne hdU]; exact h3) hb' (by rw [sizeLine_eq]; omega), ?_⟩
        rw [eP]
        refine ⟨_, _, _, rfl, ?_, ?_, upd_same, ?_, ?_⟩
        · rw [upd_ne hdx.symm, upd_ne (ne_of_none h1 hU)]
          exact h1
        · intro b' o hb'' hbx'
          rw [upd_ne (ne_of_none hb'' hd), upd_ne (ne_of_none (h2 _ _ hb'' hbx') hU)]
          exact h2 _ _ hb'' hbx'
        · exact Nat.le_trans (length_putK _ _ _) (Nat.succ_le_succ h4)
        · intro e'
          rw [valV_put, take_snoc ee, List.findIdx?_append]
          by_cases q : e' = e
          · subst q
            rw [if_pos rfl]
            have hni : e' ∉ sg.take i := fun m => by
              have z := nodup_take (i + 1) hnd
              rw [take_snoc ee] at z
              exact absurd rfl ((List.nodup_append.mp z).2.2 e' m e' (List.mem_singleton.mpr rfl))
            rw [findIdx_none hni]
            simp [List.findIdx?_cons, same_iff.mpr, List.length_take, Nat.min_eq_left (Nat.le_of_lt hi)]
          · rw [if_neg (fun z => q (key_inj z)), h5 e']
            have : Rail.sameEnd e' e = false := by
              cases z : Rail.sameEnd e' e with
              | false => rfl
              | true => exact absurd (same_iff.mp z) q
            simp [List.findIdx?_cons, this]
    · intro σ H' z
      rw [eP] at z
      obtain ⟨v, v', kvs, rfl, h1, h2, h3, h4, h5⟩ := z
      rw [List.length_map, Paired.len hP, List.take_length] at h5
      exact k H' d kvs h1 h2 h3 h5
end
end Sb
namespace Sb
open PySem PySem.Spec PyProof.Rows L2
/-! ### the track that the lists tell -/
structure TrackAt (C : Addr) (H : Hp) (a ak as : Addr) (t : Rail.Track) : Prop where
  kinds : H ak = some (.lst (t.points.map fun b => vi b.toNat))
  ok : t.right = true
  sig : SpotsAt H as t.signals
  ex : ∃ dx aj ag kj ks, H a = some (.ins C dx (tf ak aj as ag)) ∧ H aj = some (.dT kj) ∧ (∀ e, Jn H kj e (t.beyond e)) ∧ H ag = some (.dT ks) ∧ ∀ e, valV ks (key e) = (t.signalAt e).map vi
theorem TrackAt.mono {C : Addr} {H H' : Hp} {a ak as : Addr} {t : Rail.Track} (h : TrackAt C H a ak as t) (s : Same H H') : TrackAt C H' a ak as t := by
  obtain ⟨dx, aj, ag, kj, ks, h1, h2, h3, h4, h5⟩ := h.ex
  exact ⟨s _ _ h.kinds, h.ok, h.sig.mono s, dx, aj, ag, kj, ks, s _ _ h1, s _ _ h2, fun e => (h3 e).keep fun b es q => s _ _ q, s _ _ h4, h5⟩
theorem ends_even : ∀ {l : List Nat}, l.length % 2 = 0 → Rail.endsIn l = some (pairs l)
  | [], _ => by simp [Rail.endsIn, pairs]
  | [_], h => by simp at h
  | s :: e :: r, h => by
    have ih := ends_even (l := r) (by simp only [List.length_cons] at h; omega)
    simp [Rail.endsIn, pairs, ih]
theorem ends_odd : ∀ {l : List Nat}, ¬ l.length % 2 = 0 → Rail.endsIn l = none
  | [], h => by simp at h
  | [_], h => by simp [Rail.endsIn]
  | s :: e :: r, h => by
    have ih := ends_odd (l := r) (by simp only [List.length_cons] at h; omega)
    simp [Rail.endsIn, ih]
theorem joints_four : ∀ {l : List Nat}, l.length % 4 = 0 → ∃ js, Rail.jointsIn l = some js ∧ flat js = pairs l
  | [], _ => ⟨[], by simp [Rail.jointsIn], by simp [pairs]⟩
  | [_], h => by simp at h
  | [_, _], h => by simp at h
  | [_, _, _], h => by simp at h
  | s :: e :: u :: f :: r, h => by
    obtain ⟨js, h1, h2⟩ := joints_four (l := r) (by simp only [List.length_cons] at h; omega)
    refine ⟨(⟨s, e⟩, ⟨u, f⟩) :: js, by simp [Rail.jointsIn, h1], ?_⟩
    rw [flat_cons, h2]
    simp [pairs]
theorem joints_no : ∀ {l : List Nat}, ¬ l.length % 4 = 0 → Rail.jointsIn l = none
  | [], h => by simp at h
  | [_], h => by simp [Rail.jointsIn]
  | [_, _], h => by simp [Rail.jointsIn]
  | [_, _, _], h => by simp [Rail.jointsIn]
  | s :: e :: u :: f :: r, h => by
    have ih := joints_no (l := r) (by simp only [List.length_cons] at h; omega)
    simp [Rail.jointsIn, ih]
theorem isEnd_eq {p : List Nat} {js : List (Rail.End × Rail.End)} {sg : List Rail.End} (hb : Rail.bits p = true) (e : Rail.End) : Rail.Track.isEnd ⟨p.map fun x => x == 1, js, sg⟩ e = hasEnd p e.section_ e.end_ := by
  unfold Rail.Track.isEnd hasEnd
  show (match (p.map fun x => x == 1)[e.section_]? with | some p => decide (e.end_ < if p = true then 3 else 2) | none => false) = _
  rw [List.getElem?_map]
  by_cases h : e.section_ < p.length
  · have hg := at_lt h 0
    rw [hg, decide_eq_true h, Bool.true_and]
    have hle : p.getD e.section_ 0 ≤ 1 := of_decide_eq_true (List.all_eq_true.mp hb _ (List.mem_of_getElem? hg))
    generalize p.getD e.section_ 0 = x at hle
    show decide (e.end_ < if (x == 1) = true then 3 else 2) = _
    have : x = 0 ∨ x = 1 := by omega
    rcases this with rfl | rfl <;> rfl
  · rw [List.getElem?_eq_none (by omega), decide_eq_false h]
    rfl
theorem toNat_bits : ∀ {p : List Nat}, Rail.bits p = true → (p.map fun x => x == 1).map (fun b => vi b.toNat) = p.map vi
  | [], _ => rfl
  | x :: r, h => by
    unfold Rail.bits at h
    rw [List.all_cons, Bool.and_eq_true] at h
    have hx : x ≤ 1 := of_decide_eq_true h.1
    have ih := toNat_bits (p := r) h.2
    show vi (x == 1).toNat :: (r.map fun x => x == 1).map (fun b => vi b.toNat) = vi x :: r.map vi
    rw [ih]
    have : x = 0 ∨ x = 1 := by omega
    rcases this with rfl | rfl <;> rfl
theorem fit_joints {p : List Nat} {js : List (Rail.End × Rail.End)} {sg : List Rail.End} (hb : Rail.bits p = true) :
    (js.all (fun (j : Rail.End × Rail.End) => Rail.Track.isEnd ⟨p.map fun x => x == 1, js, sg⟩ j.1 && Rail.Track.isEnd ⟨p.map fun x => x == 1, js, sg⟩ j.2) && Rail.apart (flat js)) = fit p (flat js) := by
  unfold fit
  congr 1
  have : ∀ l : List (Rail.End × Rail.End), l.all (fun (j : Rail.End × Rail.End) => Rail.Track.isEnd ⟨p.map fun x => x == 1, js, sg⟩ j.1 && Rail.Track.isEnd ⟨p.map fun x => x == 1, js, sg⟩ j.2) = (flat l).all (fun e => hasEnd p e.section_ e.end_) := by
    intro l
    induction l with
    | nil => rfl
    | cons j r ih => rw [flat_cons, List.all_cons, List.all_cons, List.all_cons, ih, isEnd_eq hb, isEnd_eq hb, Bool.and_assoc]
  exact this js
theorem fit_signals {p : List Nat} {js : List (Rail.End × Rail.End)} {sg : List Rail.End} (hb : Rail.bits p = true) : (sg.all (Rail.Track.isEnd ⟨p.map fun x => x == 1, js, sg⟩) && Rail.apart sg) = fit p sg := by
  unfold fit
  congr 1
  exact congrArg sg.all (funext fun e => isEnd_eq hb e)
theorem track_in {p j s : List Nat} {js : List (Rail.End × Rail.End)} (hj : Rail.jointsIn j = some js) (hs : s.length % 2 = 0) (hk : kindsFit p = true) :
    Rail.trackIn p j s = if (decide ((pairs s).length ≤ 24) && (fit p (flat js) && fit p (pairs s))) = true then some ⟨p.map fun x => x == 1, js, pairs s⟩ else none := by
  unfold kindsFit at hk
  rw [Bool.and_eq_true, Bool.and_eq_true] at hk
  unfold Rail.trackIn
  rw [hk.2.2, if_neg (by decide), hj, ends_even hs]
  dsimp only
  unfold Rail.Track.right
  dsimp only
  rw [List.length_map, hk.1, show decide (p.length ≤ Rail.SECTIONS) = true from hk.2.1, Bool.true_and, Bool.true_and, ← fit_joints (sg := pairs s) hk.2.2, ← fit_signals (js := js) hk.2.2]
  simp only [Bool.and_assoc, Rail.SIGNALS]
  rfl
theorem track_bad {p j s : List Nat} (h : kindsFit p = false ∨ ¬ j.length % 4 = 0 ∨ ¬ s.length % 2 = 0) : Rail.trackIn p j s = none := by
  unfold Rail.trackIn
  by_cases hb : Rail.bits p = false
  · rw [if_pos hb]
  rw [if_neg hb]
  by_cases hj : j.length % 4 = 0
  · obtain ⟨js, ej, _⟩ := joints_four hj
    rw [ej]
    by_cases hs : s.length % 2 = 0
    · rw [ends_even hs]
      dsimp only
      have hk : kindsFit p = false := by
        rcases h with h | h | h
        · exact h
        · exact absurd hj h
        · exact absurd hs h
      rw [if_neg]
      intro z
      unfold Rail.Track.right at z
      rw [Bool.and_eq_true, Bool.and_eq_true] at z
      dsimp only at z
      rw [List.length_map] at z
      unfold kindsFit at hk
      rw [z.1, show decide (p.length ≤ 24) = true from z.2.1, Bool.true_and, Bool.true_and] at hk
      exact hb hk
    · rw [ends_odd hs]
  · rw [joints_no hj]
def spDraw (C : Addr) : Sp := fun vs H Q _ => ∃ (ak al ap : Addr) (p j s : List Nat), vs = [.ref ak, .ref al, .ref ap] ∧ H ak = some (.lst (p.map vi)) ∧ H al = some (.lst (j.map vi)) ∧ H ap = some (.lst (s.map vi)) ∧ j.length ≤ 100000 ∧ s.length ≤ 100000 ∧
  (Rail.trackIn p j s = none → ∀ H', Same H H' → Q .non H') ∧ ∀ t, Rail.trackIn p j s = some t → ∀ (H' : Hp) (a as : Addr), Same H H' → H a = Option.none → H as = Option.none → TrackAt C H' a ak as t → Q (.ref a) H'
theorem pow64 : (-(2 ^ 64) : Int) < 0 := by decide
section
variable {P : Program} {w : World} {K : PySem.W.Frag} {mg : Str → Option Value} {base : Heap}
theorem ok_draw_track {f C : Addr} {fd : FuncData} (F : Fun K "draw_track" "draw_track" s_draw_track f fd) (T : TxB mg) (c1 : ConI mg "MOST_SIGNALS" 24)
    (G1 : Fn P w K mg base 1 "kinds_fit" ["kinds"] (spKindsFit K)) (G2 : Fn P w K mg base 1 "pair_up" ["numbers"] (spPairUp K)) (G3 : Fn P w K mg base 2 "spots_fit" ["kinds", "spots"] (spSpotsFit K)) (G4 : Fn P w K mg base 1 "join_spots" ["spots"] spJoin)
    (G5 : Cn P w K mg base 1 "Track" C ["self", "kinds", "joined", "signals"] (spTrackInit C)) : FnOk P w K mg base CX0 3 f fd ["kinds", "joints", "posts"] (spDraw C) := by
  refine F.ok sc_draw_track (fun vs H Q E h => ?_) (fun cdv A outer s0 H vs Q E hr h => ?_)
  · obtain ⟨ak, al, ap, p, j, s, rfl, _⟩ := h
    rfl
  · obtain ⟨ak, al, ap, p, j, s, rfl, hk, hj, hs, lj, ls, k0, k1⟩ := h
    have nd := sc_draw_track.nd
    have hr1 : Room 1 _ := hr.mono (by decide)
    refine ⟨_, pss_cons (ps_if (PW.pt (pw_or (pt_not (pt_val (pe_fn G1 hr1 (pa_cons (pv 0) pa_nil)))) (pw_or (pt_cmpR op_ne (pe_op op_mod (pe_callB call_len_seq (by rfl) T.len PySem.boot_len (pa_cons (pv 1) pa_nil)) pe_int) pe_int (nomark _))
        (pw_or1 (pt_cmpR op_ne (pe_op op_mod (pe_callB call_len_seq (by rfl) T.len PySem.boot_len (pa_cons (pv 2) pa_nil)) pe_int) pe_int (nomark _)))))) (pss_one (ps_ret pe_non)) pss_nil)
      (pss_cons (ps_set (i := 3) nd rfl (Or.inl rfl) (pe_fn G2 hr1 (pa_cons (pv 1) pa_nil)))
      (pss_cons (ps_set (i := 4) nd rfl (Or.inl rfl) (pe_fn G2 hr1 (pa_cons (pv 2) pa_nil)))
      (pss_cons (ps_if (pt_cmpR op_gt (pe_callB call_len_seq (by rfl) T.len PySem.boot_len (pa_cons (pv 4) pa_nil)) (pe_con c1 (by rfl)) (nomark _)) (pss_one (ps_ret pe_non)) pss_nil)
      (pss_cons (ps_if (PW.pt (pw_or (pt_not (pt_val (pe_fn G3 hr (pa_cons (pv 0) (pa_cons (pv 3) pa_nil))))) (pw_or1 (pt_not (pt_val (pe_fn G3 hr (pa_cons (pv 0) (pa_cons (pv 4) pa_nil)))))))) (pss_one (ps_ret pe_non)) pss_nil)
      (pss_one (ps_ret (pe_new G5 hr (pa_cons (pv 0) (pa_cons (pe_fn G4 hr1 (pa_cons (pv 3) pa_nil)) (pa_cons (pv 4) pa_nil)))))))))), ?_⟩
    rw [show L2.start n_draw_track [V.ref ak, V.ref al, V.ref ap] = [some (V.ref ak), some (V.ref al), some (V.ref ap), none, none] from rfl]
    walk_at "rd"
    refine ⟨ak, p, rfl, SqL.of hk, ?_⟩
    walk_at "rd"
    have same0 := Same.refl H
    cases ek : kindsFit p with
    | false =>
      rw [if_pos (by rfl)]
      exact k0 (track_bad (.inl ek)) H same0
    | true =>
    rw [if_neg (by decide)]
    refine ⟨_, .inl (SqL.of hj), by decide, ?_⟩
    rw [List.length_map]
    by_cases h4 : j.length % 4 = 0
    rotate_left
    · rw [if_pos (by rw [decide_eq_false (by omega)]; rfl)]
      exact k0 (track_bad (.inr (.inl h4))) H same0
    rw [if_neg (by rw [decide_eq_true (by omega)]; decide)]
    refine ⟨_, .inl (SqL.of hs), by decide, ?_⟩
    rw [List.length_map]
    by_cases h2 : s.length % 2 = 0
    rotate_left
    · rw [if_pos (by rw [decide_eq_false (by omega)]; rfl)]
      exact k0 (track_bad (.inr (.inr h2))) H same0
    rw [if_neg (by rw [decide_eq_true (by omega)]; decide)]
    obtain ⟨js, ej, fj⟩ := joints_four h4
    have tin := track_in ej h2 ek
    refine ⟨al, j, rfl, SqL.of hj, by omega, by omega, fun H1 l1 q1 n1 sp1 => ?_⟩
    refine ⟨ap, s, rfl, SqL.of (q1 _ _ hs), by omega, by omega, fun H2 l2 q2 n2 sp2 => ?_⟩
    have sp1 := sp1.mono q2
    have q12 : Same H H2 := q1.trans q2
    have lp := pairs_len s
    have lpj := pairs_len j
    obtain ⟨bs, hbs, hPs⟩ := sp2
    have hbl := Paired.len hPs
    refine ⟨l2, rfl, _, .inl (SqL.of hbs), ?_⟩
    rw [List.length_map, hbl]
    by_cases h24 : (pairs s).length ≤ 24
    rotate_left
    · rw [if_pos (decide_eq_true (by omega))]
      refine k0 ?_ _ q12
      rw [tin, decide_eq_false h24, Bool.false_and, if_neg Bool.false_ne_true]
    rw [if_neg (by rw [decide_eq_true_eq]; omega)]
    refine ⟨ak, l1, p, pairs j, rfl, SqL.of (q12 _ _ hk), sp1, by omega, fun H3 q3 => ⟨_, rfl, ?_⟩⟩
    cases f1 : fit p (pairs j) with
    | false =>
      rw [if_pos (by rfl)]
      refine k0 ?_ _ (q12.trans q3)
      rw [tin, fj, f1, Bool.false_and, Bool.and_false, if_neg Bool.false_ne_true]
    | true =>
    rw [if_neg (by decide)]
    have q13 := q12.trans q3
    refine ⟨ak, l2, p, pairs s, rfl, SqL.of (q13 _ _ hk), SpotsAt.mono ⟨bs, hbs, hPs⟩ q3, by omega, fun H4 q4 => ⟨_, rfl, ?_⟩⟩
    have q14 := q13.trans q4
    cases f2 : fit p (pairs s) with
    | false =>
      rw [if_pos (by rfl)]
      refine k0 ?_ _ q14
      rw [tin, f2, Bool.and_false, Bool.and_false, if_neg Bool.false_ne_true]
    | true =>
    rw [if_neg (by decide)]
    have tin2 : Rail.trackIn p j s = some ⟨p.map fun x => x == 1, js, pairs s⟩ := by
      rw [tin, fj, f1, f2, decide_eq_true h24, if_pos (by rfl)]
    have sp1' := (sp1.mono q3).mono q4
    rw [← fj] at sp1'
    have ljs := flat_len js
    rw [fj, lpj] at ljs
    refine ⟨l1, js, rfl, sp1', by omega, fun H5 d kvs q5 nd5 hd5 jn => ?_⟩
    intro x dx nx ndx hne
    have q15 := q14.trans q5
    have sp2' : SpotsAt H5 l2 (pairs s) := ((SpotsAt.mono ⟨bs, hbs, hPs⟩ q3).mono q4).mono q5
    have snew : Same H5 (upd (upd H5 dx (HO.own x)) x (HO.ins C dx [])) := (same_new ndx).trans (same_new (by rw [upd_ne hne.symm]; exact nx))
    have apn : (pairs s).Nodup := by
      unfold fit at f2
      rw [Bool.and_eq_true] at f2
      exact apart_iff.mp f2.2
    have jpn : (flat js).Nodup := by
      rw [fj]
      unfold fit at f1
      rw [Bool.and_eq_true] at f1
      exact apart_iff.mp f1.2
    refine ⟨x, dx, ak, d, l2, pairs s, rfl, upd_same, sp2'.mono snew, apn, by omega, fun H6 ag ks h1 h2' h3 h4' => ⟨rfl, ?_⟩⟩
    have s56 : Same H5 H6 := fun b o hb => h2' b o (snew _ _ hb) (ne_of_none hb nx)
    have hbits : Rail.bits p = true := by
      unfold kindsFit at ek
      rw [Bool.and_eq_true, Bool.and_eq_true] at ek
      exact ek.2.2
    refine k1 _ tin2 H6 x l2 (q15.trans s56) (q15.free nx) (q1.free n2) ⟨?_, ?_, sp2'.mono s56, dx, d, ag, kvs, ks, h1, s56 _ _ hd5, fun e => ?_, h3, h4'⟩
    · show H6 ak = some (.lst ((p.map fun x => x == 1).map fun b => vi b.toNat))
      rw [toNat_bits hbits]
      exact s56 _ _ (q15 _ _ hk)
    · have tt := tin2
      unfold Rail.trackIn at tt
      rw [hbits, if_neg (by decide), ej, ends_even h2] at tt
      dsimp only at tt
      by_cases z : Rail.Track.right ⟨p.map fun x => x == 1, js, pairs s⟩ = true
      · exact z
      · rw [if_neg z] at tt
        cases tt
    · have z := (jn e).keep fun b es q => s56 _ _ q
      rw [part_eq jpn, Option.or_none] at z
      exact z
end
end Sb
namespace Sb
open PySem PySem.Spec PyProof.Rows L2
/-! ### the smaller defs over a track -/
theorem track_kind {C : Addr} {H : Hp} {a ak as : Addr} {t : Rail.Track} (h : TrackAt C H a ak as t) {s : Nat} (hs : s < t.points.length) : (t.points.map fun b => vi b.toNat)[s]? = some (vi (t.points.getD s false).toNat) := by
  rw [List.getElem?_map, at_lt hs false]
  rfl
def spIsPoints (C : Addr) : Sp := fun vs H Q _ => ∃ (a ak as : Addr) (t : Rail.Track) (s : Nat), vs = [.ref a, vi s] ∧ TrackAt C H a ak as t ∧ s < t.points.length ∧ Q (.bl (t.points.getD s false)) H
def oend (pt : Bool) (e : Nat) (z : Bool) : Nat := if pt = true then (if e = 0 then (if z = true then 2 else 1) else 0) else 1 - e
def spOtherEnd (C : Addr) : Sp := fun vs H Q _ => ∃ (a ak as : Addr) (t : Rail.Track) (s e z : Nat), vs = [.ref a, vi s, vi e, vi z] ∧ TrackAt C H a ak as t ∧ s < t.points.length ∧ (t.points.getD s false = false → e ≤ 1) ∧ Q (vi (oend (t.points.getD s false) e (z == 1))) H
theorem ibeq (a b : Nat) : ((a : Int) == (b : Int)) = (a == b) := by
  by_cases h : a = b
  · subst h
    simp
  · rw [beq_eq_false_iff_ne.mpr h, beq_eq_false_iff_ne.mpr (by omega)]
/-! ### steps -/
def StepAt (H : Hp) (a : Addr) (x : Rail.Step) : Prop := H a = some (.tup [vi x.section_, vi x.in_, vi x.out])
def StepsAt (H : Hp) (l : Addr) (w : List Rail.Step) : Prop := ∃ as : List Addr, H l = some (.lst (as.map V.ref)) ∧ Paired (StepAt H) as w
theorem StepsAt.mono {H H' : Hp} {l : Addr} {w : List Rail.Step} (h : StepsAt H l w) (s : Same H H') : StepsAt H' l w := by
  obtain ⟨as, h1, h2⟩ := h
  exact ⟨as, s _ _ h1, Paired.mono (fun _ _ q => s _ _ q) h2⟩
def through (w : List Rail.Step) (s : Nat) : Bool := w.any fun x => x.section_ == s
def spPasses : Sp := fun vs H Q _ => ∃ (l : Addr) (w : List Rail.Step) (s : Nat), vs = [.ref l, vi s] ∧ StepsAt H l w ∧ w.length ≤ 1000000 ∧ ∀ H', Same H H' → Q (.bl (through w s)) H'
def spStance : Sp := fun vs H Q _ => ∃ (a : Addr) (x : Rail.Step), vs = [.ref a] ∧ StepAt H a x ∧ ∀ H', Same H H' → Q (vi (x.in_ == 2 || x.out == 2).toNat) H'
section
variable {P : Program} {w : World} {K : PySem.W.Frag} {mg : Str → Option Value} {base : Heap}
theorem ok_is_points {f C : Addr} {fd : FuncData} (F : Fun K "is_points" "is_points" s_is_points f fd) (c : Tc K C tfs) (c1 : ConI mg "POINTS" 1) : FnOk P w K mg base CX0 1 f fd ["track", "section"] (spIsPoints C) := by
  refine F.ok sc_is_points (fun vs H Q E h => ?_) (fun cdv A outer s0 H vs Q E hr h => ?_)
  · obtain ⟨a, ak, as, t, s, rfl, _⟩ := h
    rfl
  · obtain ⟨a, ak, as, t, s, rfl, ht, hs, k⟩ := h
    refine ⟨_, pss_one (ps_ret (pe_cmpR op_eq (pe_ix ix_list (pe_fld (pv 0) (by rfl)) (pv 1) (fun _ _ => rfl)) (pe_con c1 (by rfl)) (nomark _))), ?_⟩
    rw [show L2.start n_is_points [V.ref a, vi s] = [some (V.ref a), some (vi s)] from rfl]
    obtain ⟨dx, aj, ag, kj, ks, h1, h2, h3, h4, h5⟩ := ht.ex
    walk_at "rd"
    refine ⟨_, _, _, h1, c.cl, c.na _ (by decide +kernel), _, rfl, ?_⟩
    walk_at "rd"
    refine ⟨_, SqL.of ht.kinds, _, atI_nat (track_kind ht hs), ?_⟩
    generalize t.points.getD s false = b at k
    cases b
    · exact ⟨rfl, k⟩
    · exact ⟨rfl, k⟩
theorem ok_other_end {f C : Addr} {fd : FuncData} (F : Fun K "other_end" "other_end" s_other_end f fd) (G : Fn P w K mg base 1 "is_points" ["track", "section"] (spIsPoints C)) (c1 : ConI mg "TOE" 0) (c2 : ConI mg "STRAIGHT" 1) (c3 : ConI mg "TURNING" 2) : FnOk P w K mg base CX0 2 f fd ["track", "section", "end", "stance"] (spOtherEnd C) := by
  refine F.ok sc_other_end (fun vs H Q E h => ?_) (fun cdv A outer s0 H vs Q E hr h => ?_)
  · obtain ⟨a, ak, as, t, s, e, z, rfl, _⟩ := h
    rfl
  · obtain ⟨a, ak, as, t, s, e, z, rfl, ht, hs, he, k⟩ := h
    refine ⟨_, pss_cons (ps_if (pt_not (pt_val (pe_fn G hr (pa_cons (pv 0) (pa_cons (pv 1) pa_nil))))) (pss_one (ps_ret (pe_op op_sub pe_int (pv 2)))) pss_nil)
      (pss_cons (ps_if (pt_cmpR op_ne (pv 2) (pe_con c1 (by rfl)) (nomark _)) (pss_one (ps_ret (pe_con c1 (by rfl)))) pss_nil)
      (pss_one (ps_ret (pe_ifExp (pt_cmpR op_eq (pv 3) pe_int (nomark _)) (pe_con c3 (by rfl)) (pe_con c2 (by rfl)))))), ?_⟩
    rw [show L2.start n_other_end [V.ref a, vi s, vi e, vi z] = [some (V.ref a), some (vi s), some (vi e), some (vi z)] from rfl]
    walk_at "rd"
    refine ⟨a, ak, as, t, s, rfl, ht, hs, ?_⟩
    walk_at "rd"
    revert k he
    generalize t.points.getD s false = b
    intro he k
    cases b
    · rw [if_pos (by rfl)]
      have := he rfl
      have e1 : oend false e (z == 1) = 1 - e := rfl
      rw [e1] at k
      rw [show (1 : Int) - (e : Int) = ((1 - e : Nat) : Int) by omega]
      exact k
    · rw [if_neg (by decide)]
      by_cases h0 : e = 0
      · subst h0
        rw [if_neg (by decide)]
        by_cases hz : z = 1
        · subst hz
          rw [if_pos (by decide)]
          exact k
        · rw [if_neg (by rw [decide_eq_true_eq]; omega)]
          have e1 : oend true 0 (z == 1) = 1 := by
            unfold oend
            rw [if_pos rfl, if_pos rfl, if_neg (by simpa using hz)]
          rw [e1] at k
          exact k
      · rw [if_pos (by rw [decide_eq_false (by omega)]; rfl)]
        have e1 : oend true e (z == 1) = 0 := by
          unfold oend
          rw [if_pos rfl, if_neg h0]
        rw [e1] at k
        exact k
theorem ok_stance_needed {f : Addr} {fd : FuncData} (F : Fun K "stance_needed" "stance_needed" s_stance_needed f fd) (c3 : ConI mg "TURNING" 2) : FnOk P w K mg base CX0 1 f fd ["step"] spStance := by
  refine F.ok sc_stance_needed (fun vs H Q E h => ?_) (fun cdv A outer s0 H vs Q E hr h => ?_)
  · obtain ⟨a, x, rfl, _⟩ := h
    rfl
  · obtain ⟨a, x, rfl, hx, k⟩ := h
    refine ⟨_, pss_one (ps_ret (pe_ifExp (pt_cmpR op_in_seq (pe_con c3 (by rfl)) (pe_tup (pa_cons (pe_ix ix_tup (pv 0) pe_int (fun _ _ => rfl)) (pa_cons (pe_ix ix_tup (pv 0) pe_int (fun _ _ => rfl)) pa_nil))) (by rfl)) pe_int pe_int)), ?_⟩
    rw [show L2.start n_stance_needed [V.ref a] = [some (V.ref a)] from rfl]
    walk_at "rd"
    refine ⟨_, SqT.of hx, _, atI_nat (j := 1) rfl, _, SqT.of hx, _, atI_nat (j := 2) rfl, by show 2 ≤ sizeLine; decide, fun T hT => ?_⟩
    refine ⟨T, _, rfl, .inr (SqT.of upd_same), rfl, rfl, _, rfl, ?_⟩
    have z := k _ (same_new (o := .tup [vi x.in_, vi x.out]) hT)
    have e : inV (V.int 2) [vi x.in_, vi x.out] = (x.in_ == 2 || x.out == 2) := by
      show (((x.in_ : Int) == ((2 : Nat) : Int)) || (((x.out : Int) == ((2 : Nat) : Int)) || false)) = _
      rw [ibeq, ibeq, Bool.or_false]
    show if inV (V.int 2) [vi x.in_, vi x.out] = true then _ else _
    rw [e]
    revert z
    cases (x.in_ == 2 || x.out == 2)
    · intro z
      rw [if_neg Bool.false_ne_true]
      exact z
    · intro z
      rw [if_pos rfl]
      exact z
theorem ok_passes {f : Addr} {fd : FuncData} (F : Fun K "passes" "passes" s_passes f fd) (T : TxB mg) : FnOk P w K mg base CX0 1 f fd ["steps", "section"] spPasses := by
  refine F.ok sc_passes (fun vs H Q E h => ?_) (fun cdv A outer s0 H vs Q E hr h => ?_)
  · obtain ⟨l, ws, s, rfl, _⟩ := h
    rfl
  · obtain ⟨l, ws, s, rfl, ⟨as, hl, hP⟩, hlen, k⟩ := h
    have nd := sc_passes.nd
    refine ⟨_, pss_one (ps_ret (pe_callB (cr_any rfl) (by rfl) T.any (by decide +kernel) (pa_cons (pe_lc rfl nd (pi_list (pv 0)) (blkOk_by (N := n_passes) (sc := defScope s_passes) (own := [("step", 2)]) (by decide +kernel))
      (fun s H C cl fp => pg_name (i := 2) nd rfl (Or.inl rfl) (Or.inr rfl)) (fun s H C cl fp => pts_nil)
      (fun s H C cl fp => pe_cmpR op_eq (pe_ix (ixT K) (pv 2) pe_int (fun _ _ => rfl)) (pv 1) (nomark _))) pa_nil))), ?_⟩
    rw [show L2.start n_passes [V.ref l, vi s] = [some (V.ref l), some (vi s), none] from rfl]
    walk_at "rd"
    refine ⟨⟨_, SqL.of hl⟩, fun L hL => ?_⟩
    have nl : l ≠ L := ne_of_none hl hL
    have lal := Paired.len hP
    obtain ⟨Pv, eP⟩ : ∃ Pv : Nat → Hp → Prop, Pv = fun i H' => H' = upd H L (.lst (((ws.take i).map fun x => x.section_ == s).map V.bl)) ∧ i ≤ ws.length := ⟨_, rfl⟩
    refine lc_lst (xs := as.map V.ref) Pv ?_ ?_ ?_ ?_
    · rw [eP]
      exact ⟨rfl, Nat.zero_le _⟩
    · intro i H' _ z
      rw [eP] at z
      rw [z.1]
      exact SqL.of (by rw [upd_ne nl]; exact hl)
    · intro i x H' hx z
      rw [eP] at z
      obtain ⟨rfl, hi⟩ := z
      rw [List.getElem?_map] at hx
      cases ea : as[i]? with
      | none => rw [ea] at hx; cases hx
      | some b =>
        rw [ea] at hx
        cases hx
        obtain ⟨e, ee, hb⟩ := paired_get hP ea
        have hb : StepAt (upd H L (.lst (((ws.take i).map fun x => x.section_ == s).map V.bl))) b e := by
          show upd _ _ _ b = _
          rw [upd_ne (ne_of_none hb hL)]
          exact hb
        have hi2 : i < ws.length := (List.getElem?_eq_some_iff.mp ee).1
        walk_at "rd"
        refine ⟨_, SqT.of hb, _, atI_nat (j := 0) rfl, rfl, _, upd_same, ?_, ?_⟩
        · rw [List.length_map, List.length_map, List.length_take, sizeLine_eq]
          omega
        · rw [eP]
          refine ⟨?_, hi2⟩
          rw [upd_upd, take_snoc ee, List.map_append, List.map_append]
          congr 4
          show V.bl (decide (V.int (e.section_ : Int) = V.int (s : Int))) = V.bl (e.section_ == s)
          rw [dec_int, ibeq]
    · intro H' z
      rw [eP] at z
      obtain ⟨rfl, _⟩ := z
      rw [List.length_map, lal, List.take_length]
      refine ⟨L, _, rfl, SqL.of upd_same, ?_⟩
      have e : (ws.map fun x => x.section_ == s).any id = through ws s := by
        unfold through
        rw [List.any_map]
        rfl
      rw [e]
      exact k _ (same_new hL)
end
end Sb
namespace Sb
open PySem PySem.Spec PyProof.Rows L2
/-! ### who owns what -/
structure Ad where
  track : Addr
  train : Addr
  box : Addr
  reader : Addr
inductive Role where
  | box | stances | trains | routes | train (k : Nat) | on (k : Nat) | ahead (k : Nat) | route (i : Nat) | outer
  deriving DecidableEq
abbrev Rho := Addr → Option Role
def KindOk (c : Ad) : Role → HO → Prop
  | .box, o => ∃ dx fs, o = .ins c.box dx fs
  | .train _, o => ∃ dx fs, o = .ins c.train dx fs
  | .trains, o => ∃ kvs, o = .dK kvs
  | .routes, o => ∃ kvs, o = .dK kvs
  | .outer, o => (∃ xs, o = .lst xs) ∨ ∃ C dx fs, o = .ins C dx fs
  | _, o => ∃ xs, o = .lst xs
def Own (c : Ad) (ρ : Rho) (H : Hp) : Prop := ∀ b r, ρ b = some r → ∃ o, H b = some o ∧ KindOk c r o
theorem Own.tup {c : Ad} {ρ : Rho} {H : Hp} (o : Own c ρ H) {b : Addr} {xs : List V} (h : H b = some (.tup xs)) : ρ b = none := by
  cases e : ρ b with
  | none => rfl
  | some r =>
    obtain ⟨u, h1, h2⟩ := o b r e
    rw [h] at h1
    cases h1
    cases r <;> simp [KindOk] at h2
theorem Own.dT {c : Ad} {ρ : Rho} {H : Hp} (o : Own c ρ H) {b : Addr} {xs : List (List Key × V)} (h : H b = some (.dT xs)) : ρ b = none := by
  cases e : ρ b with
  | none => rfl
  | some r =>
    obtain ⟨u, h1, h2⟩ := o b r e
    rw [h] at h1
    cases h1
    cases r <;> simp [KindOk] at h2
theorem Own.new {c : Ad} {ρ : Rho} {H : Hp} (o : Own c ρ H) {b : Addr} (h : H b = none) : ρ b = none := by
  cases e : ρ b with
  | none => rfl
  | some r =>
    obtain ⟨u, h1, h2⟩ := o b r e
    rw [h] at h1
    cases h1
theorem Own.mono {c : Ad} {ρ : Rho} {H H' : Hp} (o : Own c ρ H) (s : Same H H') : Own c ρ H' := fun b r e => by
  obtain ⟨u, h1, h2⟩ := o b r e
  exact ⟨u, s _ _ h1, h2⟩
/-- what is not owned stays -/
def Keep (ρ : Rho) (H H' : Hp) : Prop := ∀ b o, H b = some o → ρ b = none → H' b = some o
theorem Same.keep {ρ : Rho} {H H' : Hp} (s : Same H H') : Keep ρ H H' := fun b o h _ => s b o h
theorem TrackAt.keep {c : Ad} {ρ : Rho} {H H' : Hp} {a ak as : Addr} {t : Rail.Track} (h : TrackAt c.track H a ak as t) (o : Own c ρ H) (k : Keep ρ H H') (na : ρ a = none) (nk : ρ ak = none) (ns : ρ as = none) : TrackAt c.track H' a ak as t := by
  obtain ⟨dx, aj, ag, kj, ks, h1, h2, h3, h4, h5⟩ := h.ex
  obtain ⟨bs, g1, g2⟩ := h.sig
  have ks' : ∀ b e, SpotAt H b e → SpotAt H' b e := fun b e q => k _ _ q (o.tup q)
  exact ⟨k _ _ h.kinds nk, h.ok, ⟨bs, k _ _ g1 ns, Paired.mono ks' g2⟩, dx, aj, ag, kj, ks, k _ _ h1 na, k _ _ h2 (o.dT h2), fun e => (h3 e).keep ks', k _ _ h4 (o.dT h4), h5⟩
/-! ### trains, routes, the box -/
abbrev nfs : List Str := ["stands", "given"]
abbrev nf (ls lg : Addr) : List (Str × V) := [("stands", .ref ls), ("given", .ref lg)]
abbrev bfs : List Str := ["track", "stances", "trains", "routes"]
abbrev bf (tr : V) (sl td rd : Addr) : List (Str × V) := [("track", tr), ("stances", .ref sl), ("trains", .ref td), ("routes", .ref rd)]
structure TrainAt (C : Addr) (ρ : Rho) (H : Hp) (k : Nat) (p : Addr) (t : Rail.Train) : Prop where
  ex : ∃ dx ls lg, H p = some (.ins C dx (nf ls lg)) ∧ ρ p = some (.train k) ∧ ρ ls = some (.on k) ∧ StepsAt H ls t.on ∧ ρ lg = some (.ahead k) ∧ StepsAt H lg t.ahead
structure TrainsAt (C : Addr) (ρ : Rho) (H : Hp) (kt : List (Key × V)) (ts : List (Option Rail.Train)) : Prop where
  nodup : (kt.map (·.1)).Nodup
  keys : ∀ kv ∈ kt, ∃ (k : Nat) (p : Addr) (t : Rail.Train), kv = (.inl (k : Int), .ref p) ∧ ts[k]? = some (some t) ∧ TrainAt C ρ H k p t
  has : ∀ (k : Nat) (t : Rail.Train), ts[k]? = some (some t) → ∃ p : Addr, (Sum.inl (k : Int), V.ref p) ∈ kt
def RouteAt (ρ : Rho) (H : Hp) (kv : Key × V) (r : Rail.Route) : Prop := ∃ l : Addr, kv = (.inl (r.signal : Int), .ref l) ∧ ρ l = some (.route r.signal) ∧ StepsAt H l r.way
/-- what holds of the specification's own state -/
structure Wf (n : Nat) (b : Rail.Box) : Prop where
  stances : b.turned.length = b.track.points.length
  eight : b.trains.length = 8
  steps : ∀ (k : Nat) (t : Rail.Train), b.trains[k]? = some (some t) → t.on ≠ [] ∧ t.on.length + t.ahead.length ≤ n
  ways : ∀ r ∈ b.routes, r.way ≠ [] ∧ r.way.length ≤ 16
  few : b.routes.length ≤ n
structure BoxAt (c : Ad) (n : Nat) (ρ : Rho) (H : Hp) (x : Addr) (b : Rail.Box) : Prop where
  own : Own c ρ H
  wf : Wf n b
  small : n ≤ 1000000
  me : ρ x = some .box
  ex : ∃ dx a ak as sl td rd kt kr, H x = some (.ins c.box dx (bf (.ref a) sl td rd)) ∧ (TrackAt c.track H a ak as b.track ∧ ρ a = none ∧ ρ ak = none ∧ ρ as = none) ∧ (ρ sl = some .stances ∧ H sl = some (.lst (b.turned.map fun z => vi z.toNat))) ∧
    (ρ td = some .trains ∧ H td = some (.dK kt) ∧ TrainsAt c.train ρ H kt b.trains) ∧ (ρ rd = some .routes ∧ H rd = some (.dK kr) ∧ Paired (RouteAt ρ H) kr b.routes)
theorem TrainAt.mono {C : Addr} {ρ : Rho} {H H' : Hp} {k : Nat} {p : Addr} {t : Rail.Train} (h : TrainAt C ρ H k p t) (s : Same H H') : TrainAt C ρ H' k p t := by
  obtain ⟨dx, ls, lg, h1, h2, h3, h4, h5, h6⟩ := h.ex
  exact ⟨dx, ls, lg, s _ _ h1, h2, h3, h4.mono s, h5, h6.mono s⟩
theorem TrainsAt.mono {C : Addr} {ρ : Rho} {H H' : Hp} {kt : List (Key × V)} {ts : List (Option Rail.Train)} (h : TrainsAt C ρ H kt ts) (s : Same H H') : TrainsAt C ρ H' kt ts :=
  ⟨h.nodup, fun kv m => by obtain ⟨k, p, t, e, q1, q2⟩ := h.keys kv m; exact ⟨k, p, t, e, q1, q2.mono s⟩, h.has⟩
theorem RouteAt.mono {ρ : Rho} {H H' : Hp} {kv : Key × V} {r : Rail.Route} (s : Same H H') (h : RouteAt ρ H kv r) : RouteAt ρ H' kv r := by
  obtain ⟨l, e, q1, q2⟩ := h
  exact ⟨l, e, q1, q2.mono s⟩
theorem BoxAt.mono {c : Ad} {n : Nat} {ρ : Rho} {H H' : Hp} {x : Addr} {b : Rail.Box} (h : BoxAt c n ρ H x b) (s : Same H H') : BoxAt c n ρ H' x b := by
  obtain ⟨dx, a, ak, as, sl, td, rd, kt, kr, h1, ⟨h2, h2'⟩, ⟨h3, h3'⟩, ⟨h4, h4', h4''⟩, h5, h5', h5''⟩ := h.ex
  exact ⟨h.own.mono s, h.wf, h.small, h.me, dx, a, ak, as, sl, td, rd, kt, kr, s _ _ h1, ⟨h2.mono s, h2'⟩, ⟨h3, s _ _ h3'⟩, ⟨h4, s _ _ h4', h4''.mono s⟩, h5, s _ _ h5', Paired.mono (fun _ _ q => q.mono s) h5''⟩
/-! ### free sections -/
theorem through_iff {w : List Rail.Step} {s : Nat} : through w s = false ↔ ∀ x ∈ w, (x.section_ != s) = true := by
  unfold through
  rw [List.any_eq_false]
  constructor
  · intro h x hx
    have := h x hx
    simpa [bne] using this
  · intro h x hx
    have := h x hx
    simpa [bne] using this
theorem free_iff {b : Rail.Box} {s : Nat} : b.free s = true ↔ (∀ (k : Nat) (t : Rail.Train), b.trains[k]? = some (some t) → through t.on s = false ∧ through t.ahead s = false) ∧ ∀ r ∈ b.routes, through r.way s = false := by
  unfold Rail.Box.free Rail.Box.taken
  rw [List.all_append, Bool.and_eq_true, List.all_eq_true, List.all_eq_true]
  constructor
  · rintro ⟨h1, h2⟩
    refine ⟨fun k t ht => ?_, fun r hr => through_iff.mpr fun x hx => h2 x (List.mem_flatMap.mpr ⟨r, hr, hx⟩)⟩
    have z : ∀ x ∈ t.on ++ t.ahead, (x.section_ != s) = true := fun x hx => h1 x (List.mem_flatMap.mpr ⟨some t, List.mem_of_getElem? ht, hx⟩)
    exact ⟨through_iff.mpr fun x hx => z x (List.mem_append_left _ hx), through_iff.mpr fun x hx => z x (List.mem_append_right _ hx)⟩
  · rintro ⟨h1, h2⟩
    constructor
    · intro x hx
      obtain ⟨o, ho, hx⟩ := List.mem_flatMap.mp hx
      cases o with
      | none => cases hx
      | some t =>
        obtain ⟨k, hk, e⟩ := List.getElem_of_mem ho
        obtain ⟨q1, q2⟩ := h1 k t (by rw [List.getElem?_eq_getElem hk, e])
        rcases List.mem_append.mp (show x ∈ t.on ++ t.ahead from hx) with m | m
        · exact through_iff.mp q1 x m
        · exact through_iff.mp q2 x m
    · intro x hx
      obtain ⟨r, hr, hx⟩ := List.mem_flatMap.mp hx
      exact through_iff.mp (h2 r hr) x hx
/-- all but the dicts stays -/
def SameL (H H' : Hp) : Prop := ∀ b o, H b = some o → (∀ kvs, o ≠ HO.dK kvs) → H' b = some o
theorem SameL.steps {H H' : Hp} (s : SameL H H') {l : Addr} {w : List Rail.Step} (h : StepsAt H l w) : StepsAt H' l w := by
  obtain ⟨as, h1, h2⟩ := h
  exact ⟨as, s _ _ h1 (by intro k z; cases z), Paired.mono (fun _ _ q => s _ _ q (by intro k z; cases z)) h2⟩
theorem lock_l {H : Hp} {d : Addr} {kvs : List (Key × V)} {o : HO} (h : H d = some (.dK kvs)) : SameL H (upd H d o) := fun b u hb nk => by
  rw [upd_ne (ne_of hb h (nk kvs))]
  exact hb
theorem unlock {H H' : Hp} {d : Addr} {u o : HO} (h : H d = some u) (s : Same (upd H d o) H') : Same H (upd H' d u) := fun b v hb => by
  by_cases e : b = d
  · subst e
    rw [h] at hb
    rw [upd_same]
    exact hb
  · rw [upd_ne e]
    exact s b v (by rw [upd_ne e]; exact hb)
theorem unlock_new {H H' : Hp} {d q : Addr} {u o v : HO} (h : H d = some u) (s : Same (upd H d o) H') (hq : H' q = none) : upd H' q v d = some o ∧ Same H (upd (upd H' q v) d u) ∧ H q = none ∧ upd (upd H' q v) d u q = some v := by
  have hd := s _ _ (upd_same (a := d) (o := o))
  have nq : d ≠ q := ne_of_none hd hq
  refine ⟨by rw [upd_ne nq]; exact hd, unlock h (s.trans (same_new hq)), ?_, by rw [upd_ne nq.symm]; exact upd_same⟩
  have := s.free hq
  rw [upd_ne nq.symm] at this
  exact this
/-- how a section is had, and by whom -/
inductive Has (b : Rail.Box) (s : Nat) : Nat → Nat → Prop
  | free : b.free s = true → Has b s 0 0
  | on (k : Nat) (t : Rail.Train) : b.trains[k]? = some (some t) → through t.on s = true → Has b s 1 k
  | ahead (k : Nat) (t : Rail.Train) : b.trains[k]? = some (some t) → through t.on s = false → through t.ahead s = true → Has b s 2 k
  | route (r : Rail.Route) : r ∈ b.routes → through r.way s = true → Has b s 3 r.signal
theorem Has.is_free {b : Rail.Box} {s h m : Nat} (q : Has b s h m) : b.free s = decide (h = 0) := by
  have no : ¬ b.free s = true → b.free s = false := fun z => by
    cases e : b.free s with
    | false => rfl
    | true => exact absurd e z
  cases q with
  | free e => rw [e]; rfl
  | on k t ht e =>
    exact no fun z => by
      have := ((free_iff.mp z).1 m t ht).1
      rw [e] at this
      cases this
  | ahead k t ht e1 e =>
    exact no fun z => by
      have := ((free_iff.mp z).1 m t ht).2
      rw [e] at this
      cases this
  | route r hr e =>
    exact no fun z => by
      have := (free_iff.mp z).2 r hr
      rw [e] at this
      cases this
def spWho (c : Ad) : Sp := fun vs H Q _ => ∃ (x : Addr) (n : Nat) (ρ : Rho) (b : Rail.Box) (s : Nat), vs = [.ref x, vi s] ∧ BoxAt c n ρ H x b ∧ ∀ (H' : Hp) (q : Addr) (h m : Nat), Same H H' → H q = none → H' q = some (.tup [vi h, vi m]) → Has b s h m → Q (.ref q) H'
def spIsFree (c : Ad) : Sp := fun vs H Q _ => ∃ (x : Addr) (n : Nat) (ρ : Rho) (b : Rail.Box) (s : Nat), vs = [.ref x, vi s] ∧ BoxAt c n ρ H x b ∧ ∀ H', Same H H' → Q (.bl (b.free s)) H'
section
variable {P : Program} {w : World} {K : PySem.W.Frag} {mg : Str → Option Value} {base : Heap}
theorem ok_who_has {f : Addr} {fd : FuncData} {c : Ad} (F : Fun K "who_has" "who_has" s_who_has f fd) (c0 : ConI mg "FREE" 0) (c1 : ConI mg "STOOD_ON" 1) (c2 : ConI mg "GIVEN" 2) (c3 : ConI mg "IN_ROUTE" 3) (cb : Tc K c.box bfs) (cn : Tc K c.train nfs) (G : Fn P w K mg base 1 "passes" ["steps", "section"] spPasses) : FnOk P w K mg base CX0 2 f fd ["box", "section"] (spWho c) := by
  refine F.ok sc_who_has (fun vs H Q E h => ?_) (fun cdv A outer s0 H vs Q E hr h => ?_)
  · obtain ⟨x, n, ρ, b, s, rfl, _⟩ := h
    rfl
  · obtain ⟨x, n, ρ, b, s, rfl, hB, k⟩ := h
    have nd := sc_who_has.nd
    refine ⟨_, pss_cons (ps_lock (ps_for PassesOwn.never rfl (pi_items (pe_fld (pv 0) (by rfl))) (pg_tup rfl (pgs_cons (pg_name (i := 2) nd rfl (Or.inl rfl)) (pgs_cons (pg_name (i := 3) nd rfl (Or.inl rfl)) pgs_nil)))
        (pss_cons (ps_if (pt_val (pe_fn G hr (pa_cons (pe_fld (pv 3) (by rfl)) (pa_cons (pv 1) pa_nil)))) (pss_one (ps_ret (pe_tup (pa_cons (pe_con c1 (by rfl)) (pa_cons (pv 2) pa_nil))))) pss_nil)
        (pss_one (ps_if (pt_val (pe_fn G hr (pa_cons (pe_fld (pv 3) (by rfl)) (pa_cons (pv 1) pa_nil)))) (pss_one (ps_ret (pe_tup (pa_cons (pe_con c2 (by rfl)) (pa_cons (pv 2) pa_nil))))) pss_nil)))))
      (pss_cons (ps_lock (ps_for PassesOwn.never rfl (pi_items (pe_fld (pv 0) (by rfl))) (pg_tup rfl (pgs_cons (pg_name (i := 4) nd rfl (Or.inl rfl)) (pgs_cons (pg_name (i := 5) nd rfl (Or.inl rfl)) pgs_nil)))
        (pss_one (ps_if (pt_val (pe_fn G hr (pa_cons (pv 5) (pa_cons (pv 1) pa_nil)))) (pss_one (ps_ret (pe_tup (pa_cons (pe_con c3 (by rfl)) (pa_cons (pv 4) pa_nil))))) pss_nil))))
      (pss_one (ps_ret (pe_tup (pa_cons (pe_con c0 (by rfl)) (pa_cons pe_int pa_nil)))))), ?_⟩
    rw [show L2.start n_who_has [V.ref x, vi s] = [some (V.ref x), some (vi s), none, none, none, none] from rfl]
    obtain ⟨dx, a, ak, as, sl, td, rd, kt, kr, h1, _, _, ⟨h4, h4', h4''⟩, h5, h5', h5''⟩ := hB.ex
    walk_at "rd"
    refine ⟨td, _, h4', trivial, fun od => ?_⟩
    have L1 : SameL H (upd H td (.frz od (.dK kt))) := lock_l h4'
    have nB : ∀ kvs, HO.ins c.box dx (bf (V.ref a) sl td rd) ≠ .dK kvs := by intro k z; cases z
    refine ⟨_, _, _, L1 _ _ h1 nB, cb.cl, cb.na _ (by decide +kernel), _, rfl, td, rfl, od, kt, upd_same, ?_⟩
    obtain ⟨Pv, eP⟩ : ∃ Pv : Nat → L2.St → Hp → Prop, Pv = fun i σ H' => ∃ v v' : Option V, σ = [some (.ref x), some (vi s), v, v', none, none] ∧ Same (upd H td (.frz od (.dK kt))) H' ∧
      ∀ (j : Nat) (k' : Nat) (p : Addr) (t : Rail.Train), j < i → kt[j]? = some (.inl (k' : Int), .ref p) → b.trains[k']? = some (some t) → through t.on s = false ∧ through t.ahead s = false := ⟨_, rfl⟩
    refine fo_items Pv ?_ ?_ ?_ ?_
    · rw [eP]
      exact ⟨none, none, rfl, Same.refl _, fun j k' p t hj => by omega⟩
    · intro i σ H' _ z
      rw [eP] at z
      obtain ⟨v, v', rfl, q1, q2⟩ := z
      exact q1 _ _ upd_same
    · intro i k' y U σ H0 hk hU z
      rw [eP] at z
      obtain ⟨v, v', rfl, q1, q2⟩ := z
      obtain ⟨m, p, t, e, ht, hT⟩ := h4''.keys _ (List.mem_of_getElem? hk)
      cases e
      obtain ⟨dp, ls, lg, g1, g2, g3, g4, g5, g6⟩ := hT.ex
      obtain ⟨_, wl⟩ := hB.wf.steps m t ht
      have sm := hB.small
      have hU2 : upd H0 U (.tup [kV (Sum.inl (m : Int)), V.ref p]) U = some (.tup [vi m, V.ref p]) := upd_same
      have q1 := q1.trans (same_new (o := .tup [kV (Sum.inl (m : Int)), V.ref p]) hU)
      generalize upd H0 U (.tup [kV (Sum.inl (m : Int)), V.ref p]) = H' at q1 hU2 ⊢
      have L2' : SameL H H' := fun b o hb nk => q1 _ _ (L1 b o hb nk)
      walk_at "rd"
      refine ⟨_, SqT.of hU2, rfl, _, _, rfl, _, _, rfl, rfl, ?_⟩
      walk_at "rd"
      refine ⟨_, _, _, L2' _ _ g1 (by intro k z; cases z), cn.cl, cn.na _ (by decide +kernel), _, rfl, ?_⟩
      refine ⟨ls, t.on, s, rfl, L2'.steps g4, by omega, fun H2 r2 => ⟨_, rfl, ?_⟩⟩
      cases e1 : through t.on s with
      | true =>
        rw [if_pos rfl]
        refine ⟨by show 2 ≤ sizeLine; decide, fun q hq => ?_⟩
        obtain ⟨u1, u2, u3, u4⟩ := unlock_new (v := .tup [vi 1, vi m]) h4' (q1.trans r2) hq
        exact ⟨u1, k _ q 1 m u2 u3 u4 (.on m t ht e1)⟩
      | false =>
        rw [if_neg Bool.false_ne_true]
        refine ⟨_, _, _, r2 _ _ (L2' _ _ g1 (by intro k z; cases z)), cn.cl, cn.na _ (by decide +kernel), _, rfl, ?_⟩
        refine ⟨lg, t.ahead, s, rfl, (L2'.steps g6).mono r2, by omega, fun H3 r3 => ⟨_, rfl, ?_⟩⟩
        cases e3 : through t.ahead s with
        | true =>
          rw [if_pos rfl]
          refine ⟨by show 2 ≤ sizeLine; decide, fun q hq => ?_⟩
          obtain ⟨u1, u2, u3, u4⟩ := unlock_new (v := .tup [vi 2, vi m]) h4' ((q1.trans r2).trans r3) hq
          exact ⟨u1, k _ q 2 m u2 u3 u4 (.ahead m t ht e1 e3)⟩
        | false =>
          rw [if_neg Bool.false_ne_true, eP]
          refine ⟨_, _, rfl, (q1.trans r2).trans r3, fun j k2 p2 t2 hj hk2 ht2 => ?_⟩
          by_cases hji : j = i
          · subst hji
            rw [hk] at hk2
            have ek : m = k2 := by
              have := congrArg Prod.fst (Option.some.inj hk2)
              exact Int.ofNat.inj (Sum.inl.inj this)
            subst ek
            rw [ht] at ht2
            have et : t = t2 := Option.some.inj (Option.some.inj ht2)
            subst et
            exact ⟨e1, e3⟩
          · exact q2 j k2 p2 t2 (by omega) hk2 ht2
    · intro σ H' z
      rw [eP] at z
      obtain ⟨v, v', rfl, q1, q2⟩ := z
      have s1 : Same H (upd H' td (.dK kt)) := unlock h4' q1
      refine ⟨q1 _ _ upd_same, ?_⟩
      have h5q := s1 _ _ h5'
      generalize upd H' td (.dK kt) = H2 at s1 h5q ⊢
      walk_at "rd"
      refine ⟨rd, _, h5q, trivial, fun od2 => ?_⟩
      have L3 : SameL H2 (upd H2 rd (.frz od2 (.dK kr))) := lock_l h5q
      refine ⟨_, _, _, L3 _ _ (s1 _ _ h1) nB, cb.cl, cb.na _ (by decide +kernel), _, rfl, rd, rfl, od2, kr, upd_same, ?_⟩
      have lkr := Paired.len h5''
      obtain ⟨Pw, eW⟩ : ∃ Pw : Nat → L2.St → Hp → Prop, Pw = fun i σ H' => ∃ w w' : Option V, σ = [some (.ref x), some (vi s), v, v', w, w'] ∧ Same (upd H2 rd (.frz od2 (.dK kr))) H' ∧ ∀ r ∈ b.routes.take i, through r.way s = false := ⟨_, rfl⟩
      refine fo_items Pw ?_ ?_ ?_ ?_
      · rw [eW]
        exact ⟨none, none, rfl, Same.refl _, fun r hr => by cases hr⟩
      · intro i σ H' _ z
        rw [eW] at z
        obtain ⟨w1, w2, _, z1, _⟩ := z
        exact z1 _ _ upd_same
      · intro i k' y U σ H0 hk hU z
        rw [eW] at z
        obtain ⟨w1, w2, rfl, z1, z2⟩ := z
        obtain ⟨r, er, l, el, hl1, hl2⟩ := paired_get h5'' hk
        cases el
        have hw := (hB.wf.ways r (List.mem_of_getElem? er)).2
        have hU2 : upd H0 U (.tup [kV (Sum.inl (r.signal : Int)), V.ref l]) U = some (.tup [vi r.signal, V.ref l]) := upd_same
        have z1 := z1.trans (same_new (o := .tup [kV (Sum.inl (r.signal : Int)), V.ref l]) hU)
        generalize upd H0 U (.tup [kV (Sum.inl (r.signal : Int)), V.ref l]) = H' at z1 hU2 ⊢
        have L4 : SameL H2 H' := fun b o hb nk => z1 _ _ (L3 b o hb nk)
        walk_at "rd"
        refine ⟨_, SqT.of hU2, rfl, _, _, rfl, _, _, rfl, rfl, ?_⟩
        walk_at "rd"
        refine ⟨l, r.way, s, rfl, L4.steps (hl2.mono s1), by omega, fun H3 r3 => ⟨_, rfl, ?_⟩⟩
        cases e1 : through r.way s with
        | true =>
          rw [if_pos rfl]
          refine ⟨by show 2 ≤ sizeLine; decide, fun q hq => ?_⟩
          obtain ⟨u1, u2, u3, u4⟩ := unlock_new (v := .tup [vi 3, vi r.signal]) h5q (z1.trans r3) hq
          exact ⟨u1, k _ q 3 r.signal (s1.trans u2) (s1.free u3) u4 (.route r (List.mem_of_getElem? er) e1)⟩
        | false =>
          rw [if_neg Bool.false_ne_true, eW]
          refine ⟨_, _, rfl, z1.trans r3, fun r' hr' => ?_⟩
          rw [take_snoc er] at hr'
          rcases List.mem_append.mp hr' with hr' | hr'
          · exact z2 r' hr'
          · rw [List.mem_singleton.mp hr']
            exact e1
      · intro σ H' z
        rw [eW] at z
        obtain ⟨w1, w2, rfl, z1, z2⟩ := z
        rw [lkr, List.take_length] at z2
        refine ⟨z1 _ _ upd_same, ?_⟩
        have s2 : Same H2 (upd H' rd (.dK kr)) := unlock h5q z1
        generalize upd H' rd (.dK kr) = H3 at s2 ⊢
        walk_at "rd"
        refine ⟨by show 2 ≤ sizeLine; decide, fun q hq => ?_⟩
        refine k _ q 0 0 ((s1.trans s2).trans (same_new hq)) (s1.free (s2.free hq)) upd_same (.free (free_iff.mpr ⟨fun k t ht => ?_, z2⟩))
        obtain ⟨p, hp⟩ := h4''.has k t ht
        obtain ⟨j, hj, ej⟩ := List.getElem_of_mem hp
        exact q2 j k p t hj (by rw [List.getElem?_eq_getElem hj, ej]) ht
theorem ok_is_free {f : Addr} {fd : FuncData} {c : Ad} (F : Fun K "is_free" "is_free" s_is_free f fd) (c0 : ConI mg "FREE" 0) (G : Fn P w K mg base 2 "who_has" ["box", "section"] (spWho c)) : FnOk P w K mg base CX0 3 f fd ["box", "section"] (spIsFree c) := by
  refine F.ok sc_is_free (fun vs H Q E h => ?_) (fun cdv A outer s0 H vs Q E hr h => ?_)
  · obtain ⟨x, n, ρ, b, s, rfl, _⟩ := h
    rfl
  · obtain ⟨x, n, ρ, b, s, rfl, hB, k⟩ := h
    have nd := sc_is_free.nd
    refine ⟨_, pss_one (ps_ret (pe_cmpR op_eq (pe_ix ix_tup (pe_fn G hr (pa_cons (pv 0) (pa_cons (pv 1) pa_nil))) pe_int (fun _ _ => rfl)) (pe_con c0 (by rfl)) (nomark _))), ?_⟩
    rw [show L2.start n_is_free [V.ref x, vi s] = [some (V.ref x), some (vi s)] from rfl]
    walk_at "rd"
    refine ⟨x, n, ρ, b, s, rfl, hB, fun H' q h m sm hq0 hq hh => ⟨q, rfl, _, SqT.of hq, _, atI_nat (j := 0) rfl, ?_⟩⟩
    refine ⟨rfl, ?_⟩
    rw [show decide (vi h = V.int 0) = b.free s from by
      rw [hh.is_free]
      exact (show decide (V.int (h : Int) = V.int ((0 : Nat) : Int)) = _ from (dec_int.trans (ibeq _ _)))]
    exact k _ sm
end
end Sb
namespace Sb
open PySem PySem.Spec PyProof.Rows L2
/-! ### all but some roles stays -/
def But (rs : Role → Prop) (ρ : Rho) (H H' : Hp) : Prop := ∀ b o, H b = some o → (∀ r, ρ b = some r → ¬ rs r) → H' b = some o
theorem upd_but {ρ : Rho} {H : Hp} {d : Addr} {r : Role} {o : HO} (h : ρ d = some r) : But (· = r) ρ H (upd H d o) := fun b u hb nr => by
  rw [upd_ne (fun e => nr r (by rw [e]; exact h) rfl)]
  exact hb
theorem But.trans {rs rs' : Role → Prop} {ρ : Rho} {H H1 H2 : Hp} (a : But rs ρ H H1) (b : But rs' ρ H1 H2) : But (fun r => rs r ∨ rs' r) ρ H H2 := fun c o h n =>
  b c o (a c o h fun r e q => n r e (.inl q)) fun r e q => n r e (.inr q)
theorem Same.but {rs : Role → Prop} {ρ : Rho} {H H' : Hp} (s : Same H H') : But rs ρ H H' := fun b o h _ => s b o h
theorem But.keep {rs : Role → Prop} {ρ : Rho} {H H' : Hp} (a : But rs ρ H H') : Keep ρ H H' := fun b o h n => a b o h fun r e => by rw [n] at e; cases e
theorem But.steps {c : Ad} {rs : Role → Prop} {ρ : Rho} {H H' : Hp} (a : But rs ρ H H') (o : Own c ρ H) {l : Addr} {w : List Rail.Step} {r : Role} (hl : ρ l = some r) (nr : ¬ rs r) (h : StepsAt H l w) : StepsAt H' l w := by
  obtain ⟨as, h1, h2⟩ := h
  refine ⟨as, a _ _ h1 (fun r' e => by rw [hl] at e; cases e; exact nr), Paired.mono (fun b x q => a.keep _ _ q (o.tup q)) h2⟩
theorem TrainAt.but {c : Ad} {rs : Role → Prop} {ρ : Rho} {H H' : Hp} {k : Nat} {p : Addr} {t : Rail.Train} (h : TrainAt c.train ρ H k p t) (a : But rs ρ H H') (o : Own c ρ H) (n1 : ¬ rs (.train k)) (n2 : ¬ rs (.on k)) (n3 : ¬ rs (.ahead k)) : TrainAt c.train ρ H' k p t := by
  obtain ⟨dx, ls, lg, h1, h2, h3, h4, h5, h6⟩ := h.ex
  exact ⟨dx, ls, lg, a _ _ h1 (fun r' e => by rw [h2] at e; cases e; exact n1), h2, h3, a.steps o h3 n2 h4, h5, a.steps o h5 n3 h6⟩
theorem RouteAt.but {c : Ad} {rs : Role → Prop} {ρ : Rho} {H H' : Hp} {kv : Key × V} {r : Rail.Route} (a : But rs ρ H H') (o : Own c ρ H) (nr : ¬ rs (.route r.signal)) (h : RouteAt ρ H kv r) : RouteAt ρ H' kv r := by
  obtain ⟨l, e, q1, q2⟩ := h
  exact ⟨l, e, q1, a.steps o q1 nr q2⟩
theorem own_upd {c : Ad} {ρ : Rho} {H : Hp} (o : Own c ρ H) {d : Addr} {r : Role} {u : HO} (h : ρ d = some r) (k : KindOk c r u) : Own c ρ (upd H d u) := fun b r' e => by
  by_cases z : b = d
  · subst z
    rw [h] at e
    cases e
    exact ⟨u, upd_same, k⟩
  · rw [upd_ne z]
    exact o b r' e
/-- what belongs to the caller stays so -/
structure Out (ρ ρ' : Rho) (H H' : Hp) : Prop where
  keep : ∀ b o, H b = some o → ρ b = some .outer → H' b = some o
  stay : ∀ b, ρ b = some .outer → ρ' b = some .outer
theorem Same.out {ρ : Rho} {H H' : Hp} (s : Same H H') : Out ρ ρ H H' := ⟨fun b o h _ => s b o h, fun _ h => h⟩
theorem But.out {rs : Role → Prop} {ρ : Rho} {H H' : Hp} (a : But rs ρ H H') (n : ¬ rs .outer) : Out ρ ρ H H' := ⟨fun b o h e => a b o h fun r z => by rw [e] at z; cases z; exact n, fun _ h => h⟩
theorem Out.trans {ρ ρ1 ρ2 : Rho} {H H1 H2 : Hp} (a : Out ρ ρ1 H H1) (b : Out ρ1 ρ2 H1 H2) : Out ρ ρ2 H H2 := ⟨fun z o h e => b.keep z o (a.keep z o h e) (a.stay z e), fun z e => b.stay z (a.stay z e)⟩
/-! ### stands_for -/
theorem isEnd_lt {t : Rail.Track} {s e : Nat} (h : t.isEnd ⟨s, e⟩ = true) : s < t.points.length ∧ (t.points.getD s false = false → e ≤ 1) ∧ e ≤ 2 := by
  unfold Rail.Track.isEnd at h
  by_cases hs : s < t.points.length
  · rw [show t.points[(⟨s, e⟩ : Rail.End).section_]? = some (t.points.getD s false) from at_lt hs false] at h
    generalize t.points.getD s false = b at h ⊢
    have h : decide (e < if b = true then 3 else 2) = true := h
    cases b
    · have := of_decide_eq_true h
      simp at this
      exact ⟨hs, fun _ => by omega, by omega⟩
    · have := of_decide_eq_true h
      simp at this
      exact ⟨hs, fun z => (by cases z), by omega⟩
  · rw [show t.points[(⟨s, e⟩ : Rail.End).section_]? = none from List.getElem?_eq_none (by show t.points.length ≤ s; omega)] at h
    cases h
def spStandsFor (c : Ad) : Sp := fun vs H Q _ => ∃ (x : Addr) (n : Nat) (ρ : Rho) (b : Rail.Box) (s e : Nat), vs = [.ref x, vi s, vi e] ∧ BoxAt c n ρ H x b ∧ b.track.isEnd ⟨s, e⟩ = true ∧ Q (.bl (Rail.stands b ⟨s, Rail.outOf b s e, e⟩)) H
def spLeast : Sp := fun vs H Q _ => ∃ (d : Addr) (kt : List (Key × V)) (m : Nat), vs = [.ref d] ∧ H d = some (.dK kt) ∧ valV kt (.inl (m : Int)) = none ∧ ∀ k : Nat, valV kt (.inl (k : Int)) = none → (∀ j, j < k → valV kt (.inl ((j : Nat) : Int)) ≠ none) → Q (vi k) H
def spTrainInit (C : Addr) : Sp := fun vs H Q _ => ∃ (x dx : Addr) (v : V), vs = [.ref x, v] ∧ H x = some (.ins C dx []) ∧ ∀ (H' : Hp) (ls lg : Addr), H' x = some (.ins C dx (nf ls lg)) → (∀ b o, H b = some o → b ≠ x → H' b = some o) → H ls = Option.none → H lg = Option.none → ls ≠ lg → ls ≠ x → lg ≠ x → H' ls = some (.lst [v]) → H' lg = some (.lst []) → Q .non H'
def spBoxInit (C : Addr) : Sp := fun vs H Q _ => ∃ (x dx : Addr), vs = [.ref x] ∧ H x = some (.ins C dx []) ∧ ∀ (H' : Hp) (sl td rd : Addr), H' x = some (.ins C dx (bf .non sl td rd)) → (∀ b o, H b = some o → b ≠ x → H' b = some o) → Q .non H'
section
variable {P : Program} {w : World} {K : PySem.W.Frag} {mg : Str → Option Value} {base : Heap}
theorem ok_stands_for {f : Addr} {fd : FuncData} {c : Ad} (F : Fun K "stands_for" "stands_for" s_stands_for f fd) (cb : Tc K c.box bfs) (c1 : ConI mg "TOE" 0) (G1 : Fn P w K mg base 1 "is_points" ["track", "section"] (spIsPoints c.track)) (G2 : Fn P w K mg base 2 "other_end" ["track", "section", "end", "stance"] (spOtherEnd c.track)) : FnOk P w K mg base CX0 3 f fd ["box", "section", "end"] (spStandsFor c) := by
  refine F.ok sc_stands_for (fun vs H Q E h => ?_) (fun cdv A outer s0 H vs Q E hr h => ?_)
  · obtain ⟨x, n, ρ, b, s, e, rfl, _⟩ := h
    rfl
  · obtain ⟨x, n, ρ, b, s, e, rfl, hB, he, k⟩ := h
    have hr1 : Room 1 _ := hr.mono (by decide)
    refine ⟨_, pss_cons (ps_if (PW.pt (pw_or (pt_not (pt_val (pe_fn G1 hr1 (pa_cons (pe_fld (pv 0) (by rfl)) (pa_cons (pv 1) pa_nil))))) (pw_or1 (pt_cmpR op_eq (pv 2) (pe_con c1 (by rfl)) (nomark _))))) (pss_one (ps_ret pe_bl)) pss_nil)
      (pss_one (ps_ret (pe_cmpR op_eq (pe_fn G2 hr (pa_cons (pe_fld (pv 0) (by rfl)) (pa_cons (pv 1) (pa_cons (pe_con c1 (by rfl)) (pa_cons (pe_ix ix_list (pe_fld (pv 0) (by rfl)) (pv 1) (fun _ _ => rfl)) pa_nil))))) (pv 2) (nomark _)))), ?_⟩
    rw [show L2.start n_stands_for [V.ref x, vi s, vi e] = [some (V.ref x), some (vi s), some (vi e)] from rfl]
    obtain ⟨dx, a, ak, as, sl, td, rd, kt, kr, h1, ⟨h2, _⟩, ⟨h3, h3'⟩, _, _⟩ := hB.ex
    obtain ⟨hs, he1, he2⟩ := isEnd_lt he
    have hst := hB.wf.stances
    walk_at "rd"
    refine ⟨_, _, _, h1, cb.cl, cb.na _ (by decide +kernel), _, rfl, a, ak, as, b.track, s, rfl, h2, hs, ?_⟩
    walk_at "rd"
    have e0 : Rail.stands b ⟨s, Rail.outOf b s e, e⟩ = (if b.track.points.getD s false = true then (if e = 0 then true else b.turned.getD s false == (e == 2)) else true) := by
      unfold Rail.stands Rail.Track.needs Rail.outOf
      dsimp only
      cases b.track.points.getD s false
      · rfl
      · rw [if_pos rfl, if_pos rfl, if_pos rfl]
        dsimp only
        by_cases e0 : e = 0
        · subst e0
          rw [if_pos rfl, if_pos rfl]
          cases b.turned.getD s false <;> rfl
        · rw [if_neg e0, if_neg e0]
          rfl
    rw [e0] at k
    revert k he1
    cases hp : b.track.points.getD s false
    · intro k he1
      rw [if_pos (by rfl)]
      exact k
    · intro k he1
      rw [if_neg (by decide)]
      by_cases e00 : e = 0
      · rw [if_pos (by rw [e00]; decide)]
        rw [if_pos rfl, if_pos e00] at k
        exact k
      · rw [if_neg (by rw [decide_eq_true_eq]; omega)]
        rw [if_pos rfl, if_neg e00] at k
        have hz : (b.turned.map fun z => vi z.toNat)[s]? = some (vi (b.turned.getD s false).toNat) := by
          rw [List.getElem?_map, at_lt (show s < b.turned.length by omega) false]
          rfl
        refine ⟨_, _, _, h1, cb.cl, cb.na _ (by decide +kernel), _, rfl, _, _, _, h1, cb.cl, cb.na _ (by decide +kernel), _, rfl, ?_⟩
        walk_at "rd"
        refine ⟨_, SqL.of h3', _, atI_nat hz, a, ak, as, b.track, s, 0, _, rfl, h2, hs, (fun _ => by omega), rfl, ?_⟩
        rw [hp]
        have e2 : decide (vi (oend true 0 ((b.turned.getD s false).toNat == 1)) = vi e) = (b.turned.getD s false == (e == 2)) := by
          have : e = 1 ∨ e = 2 := by omega
          rcases this with rfl | rfl <;> cases b.turned.getD s false <;> rfl
        rw [e2]
        exact k
theorem ok_least_unused {f : Addr} {fd : FuncData} (F : Fun K "least_unused" "least_unused" s_least_unused f fd) : FnOk P w K mg base CX0 1 f fd ["numbered"] spLeast := by
  refine F.ok sc_least_unused (fun vs H Q E h => ?_) (fun cdv A outer s0 H vs Q E hr h => ?_)
  · obtain ⟨d, kt, m, rfl, _⟩ := h
    rfl
  · obtain ⟨d, kt, m, rfl, hd, hm, k⟩ := h
    have nd := sc_least_unused.nd
    have hu := hu_of hr
    refine ⟨_, pss_cons (ps_set (i := 1) nd rfl (Or.inl rfl) pe_int) (pss_cons (ps_while PassesOwn.never (pt_cmp (pc_din hu (pv 1) (pv 0))) (pss_one (ps_aug (i := 1) nd rfl (Or.inl rfl) pe_int ip_add)))
      (pss_one (ps_ret (pv 1)))), ?_⟩
    rw [show L2.start n_least_unused [V.ref d] = [some (V.ref d), none] from rfl]
    walk_at "rd"
    refine ⟨fun m' σ H' => ∃ j : Nat, m' = m - j ∧ j ≤ m ∧ σ = [some (.ref d), some (vi j)] ∧ H' = H ∧ ∀ i : Nat, i < j → valV kt (.inl (i : Int)) ≠ none, ⟨m, 0, rfl, Nat.zero_le _, rfl, rfl, fun i hi => by omega⟩, ?_⟩
    rintro m' σ H' ⟨j, rfl, hj, rfl, rfl, hall⟩
    walk_at "rd"
    refine ⟨_, DGet.k (k := .inl (j : Int)) hd, ?_⟩
    cases e : valV kt (.inl (j : Int)) with
    | none =>
      rw [if_neg (by decide)]
      exact k j e hall
    | some v =>
      rw [if_pos (by rfl)]
      have hlt : j < m := by
        rcases Nat.lt_or_ge j m with q | q
        · exact q
        · rw [show m = j by omega, e] at hm
          cases hm
      refine ⟨fun σ' H'' => σ' = [some (.ref d), some (vi (j + 1))] ∧ H'' = H', fun σ' H'' q => ?_, ?_⟩
      · obtain ⟨rfl, rfl⟩ := q
        refine ⟨m - (j + 1), by omega, j + 1, rfl, hlt, rfl, rfl, fun i hi => ?_⟩
        by_cases q : i = j
        · rw [q, e]
          intro z
          cases z
        · exact hall i (by omega)
      · exact ⟨rfl, rfl⟩
theorem ok_Train_init {f C : Addr} {fd : FuncData} (F : Fun K "__init__" "Train.__init__" s_Train_init f fd) (c : Tc K C nfs) : FnOk P w K mg base CX0 1 f fd ["self", "step"] (spTrainInit C) := by
  refine F.ok sc_Train_init (fun vs H Q E h => ?_) (fun cdv A outer s0 H vs Q E hr h => ?_)
  · obtain ⟨x, dx, v, rfl, _⟩ := h
    rfl
  · obtain ⟨x, dx, v, rfl, hx, k⟩ := h
    refine ⟨_, pss_cons (ps_fld (pv 0) (pe_lst (pa_cons (pv 1) pa_nil)) (by rfl)) (pss_one (ps_fld (pv 0) (pe_lst pa_nil) (by rfl))), ?_⟩
    rw [show L2.start n_Train_init [V.ref x, v] = [some (V.ref x), some v] from rfl]
    walk_at "rd"
    refine ⟨by show 1 ≤ sizeLine; decide, fun ls hls => ?_⟩
    have n1 := ne_of_none hx hls
    refine ⟨C, dx, [], by rw [upd_ne n1]; exact hx, c.cl, c.na _ (by decide +kernel), by decide, Nat.zero_le _, fun lg hlg => ?_⟩
    have n2 : x ≠ lg := fun e => by
      rw [← e, upd_same] at hlg
      cases hlg
    have n3 : ls ≠ lg := fun e => by
      rw [← e, upd_ne n1.symm, upd_same] at hlg
      cases hlg
    rw [upd_ne n2.symm, upd_ne n3.symm] at hlg
    refine ⟨C, dx, [("stands", .ref ls)], by rw [upd_ne n2]; exact upd_same, c.cl, c.na _ (by decide +kernel), by show 1 < 1000; decide, ?_⟩
    refine k _ ls lg upd_same (fun b o hb hbx => ?_) hls hlg n3 n1.symm n2.symm ?_ ?_
    · rw [upd_ne hbx, upd_ne (ne_of_none hb hlg), upd_ne hbx, upd_ne (ne_of_none hb hls)]
      exact hb
    · rw [upd_ne n1.symm, upd_ne n3, upd_ne n1.symm, upd_same]
    · rw [upd_ne n2.symm, upd_same]
theorem ok_Box_init {f C : Addr} {fd : FuncData} (F : Fun K "__init__" "Box.__init__" s_Box_init f fd) (c : Tc K C bfs) : FnOk P w K mg base CX0 1 f fd ["self"] (spBoxInit C) := by
  refine F.ok sc_Box_init (fun vs H Q E h => ?_) (fun cdv A outer s0 H vs Q E hr h => ?_)
  · obtain ⟨x, dx, rfl, _⟩ := h
    rfl
  · obtain ⟨x, dx, rfl, hx, k⟩ := h
    refine ⟨_, pss_cons (ps_fld (pv 0) pe_non (by rfl)) (pss_cons (ps_fld (pv 0) (pe_lst pa_nil) (by rfl)) (pss_cons (ps_fld (pv 0) pe_dnewK (by rfl)) (pss_one (ps_fld (pv 0) pe_dnewK (by rfl))))), ?_⟩
    rw [show L2.start n_Box_init [V.ref x] = [some (V.ref x)] from rfl]
    walk_at "rd"
    refine ⟨C, dx, [], hx, c.cl, c.na _ (by decide +kernel), by decide, Nat.zero_le _, fun sl h1 => ?_⟩
    have n1 : x ≠ sl := fun e => by
      rw [← e, upd_same] at h1
      cases h1
    rw [upd_ne n1.symm] at h1
    refine ⟨C, dx, [("track", .non)], by rw [upd_ne n1]; exact upd_same, c.cl, c.na _ (by decide +kernel), by show 1 < 1000; decide, fun td h2 => ?_⟩
    have n2 : x ≠ td := fun e => by
      rw [← e, upd_same] at h2
      cases h2
    rw [upd_ne n2.symm] at h2
    refine ⟨C, dx, [("track", .non), ("stances", .ref sl)], by rw [upd_ne n2]; exact upd_same, c.cl, c.na _ (by decide +kernel), by show 2 < 1000; decide, fun rd h3 => ?_⟩
    have n3 : x ≠ rd := fun e => by
      rw [← e, upd_same] at h3
      cases h3
    rw [upd_ne n3.symm] at h3
    refine ⟨C, dx, [("track", .non), ("stances", .ref sl), ("trains", .ref td)], by rw [upd_ne n3]; exact upd_same, c.cl, c.na _ (by decide +kernel), by show 3 < 1000; decide, ?_⟩
    refine k _ sl td rd upd_same (fun b o hb hbx => ?_)
    have b1 : b ≠ sl := ne_of_none hb h1
    have b2 : b ≠ td := fun e => by
      rw [← e, upd_ne b1, upd_ne hbx, hb] at h2
      cases h2
    have b3 : b ≠ rd := fun e => by
      rw [← e, upd_ne b2, upd_ne hbx, upd_ne b1, upd_ne hbx, hb] at h3
      cases h3
    rw [upd_ne hbx, upd_ne b3, upd_ne hbx, upd_ne b2, upd_ne hbx, upd_ne b1, upd_ne hbx]
    exact hb
end
end Sb
namespace Sb
open PySem PySem.Spec PyProof.Rows L2
/-! ### lay_points, start_anew -/
def laidStep (t : Rail.Track) (l : List Bool) (s : Rail.Step) : List Bool := match t.needs s with
  | some z => l.set s.section_ z
  | none => l
theorem laid_len {t : Rail.Track} : ∀ {w : List Rail.Step} {l : List Bool}, (w.foldl (laidStep t) l).length = l.length
  | [], _ => rfl
  | s :: r, l => by
    rw [List.foldl_cons, laid_len]
    unfold laidStep
    split
    · rw [List.length_set]
    · rfl
theorem laid_eq (b : Rail.Box) (w : List Rail.Step) : b.laid w = w.foldl (laidStep b.track) b.turned := rfl
theorem set_map {l : List Bool} {s : Nat} {z : Bool} : (l.set s z).map (fun z => vi z.toNat) = (l.map fun z => vi z.toNat).set s (vi z.toNat) := by
  rw [List.map_set]
/-- the stances anew -/
theorem BoxAt.stances {c : Ad} {n : Nat} {ρ : Rho} {H : Hp} {x : Addr} {b : Rail.Box} (h : BoxAt c n ρ H x b) {sl : Addr} {dx a td rd : Addr} (hx : H x = some (.ins c.box dx (bf (.ref a) sl td rd))) (tu : List Bool) (hl : tu.length = b.track.points.length) :
    BoxAt c n ρ (upd H sl (.lst (tu.map fun z => vi z.toNat))) x ⟨b.track, tu, b.routes, b.trains⟩ ∧ ρ sl = some .stances := by
  obtain ⟨dx', a', ak, as, sl', td', rd', kt, kr, h1, ⟨h2, n1, n2, n3⟩, ⟨h3, h3'⟩, ⟨h4, h4', h4''⟩, h5, h5', h5''⟩ := h.ex
  rw [hx] at h1
  cases h1
  have bt := upd_but (H := H) (o := .lst (tu.map fun z => vi z.toNat)) h3
  refine ⟨⟨own_upd h.own h3 ⟨_, rfl⟩, ⟨hl, h.wf.eight, h.wf.steps, h.wf.ways, h.wf.few⟩, h.small, h.me, dx, a, ak, as, sl, td, rd, kt, kr, bt _ _ hx (fun r e => by rw [h.me] at e; cases e; decide), ⟨h2.keep h.own bt.keep n1 n2 n3, n1, n2, n3⟩, ⟨h3, upd_same⟩,
    ⟨h4, bt _ _ h4' (fun r e => by rw [h4] at e; cases e; decide), h4''.nodup, fun kv m => ?_, h4''.has⟩, h5, bt _ _ h5' (fun r e => by rw [h5] at e; cases e; decide), Paired.mono (fun _ _ q => q.but bt h.own (by intro z; cases z)) h5''⟩, h3⟩
  obtain ⟨k, p, t, e, q1, q2⟩ := h4''.keys kv m
  exact ⟨k, p, t, e, q1, q2.but bt h.own (by intro z; cases z) (by intro z; cases z) (by intro z; cases z)⟩
theorem new_upd {H : Hp} {d r : Addr} {o u : HO} (hd : H d = some u) (hr : upd H d o r = none) : H r = none := by
  by_cases e : r = d
  · rw [e, upd_same] at hr
    cases hr
  · rw [upd_ne e] at hr
    exact hr
/-- nothing goes away -/
def Live (H H' : Hp) : Prop := ∀ z, H' z = none → H z = none
theorem Live.upd {H H' : Hp} (l : Live H H') {d : Addr} {o u : HO} (h : H' d = some u) : Live H (L2.upd H' d o) := fun z hz => l z (new_upd h hz)
def spLayPoints (c : Ad) : Sp := fun vs H Q _ => ∃ (x l : Addr) (n : Nat) (ρ : Rho) (b : Rail.Box) (w : List Rail.Step), vs = [.ref x, .ref l] ∧ BoxAt c n ρ H x b ∧ StepsAt H l w ∧ ρ l = none ∧ (∀ s ∈ w, s.section_ < b.track.points.length) ∧
  ∀ H', BoxAt c n ρ H' x ⟨b.track, b.laid w, b.routes, b.trains⟩ → But (· = .stances) ρ H H' → Live H H' → Q .non H'
theorem Keep.trans {ρ : Rho} {H H1 H2 : Hp} (a : Keep ρ H H1) (b : Keep ρ H1 H2) : Keep ρ H H2 := fun c o h n => b c o (a c o h n) n
def ini (t : Rail.Track) : Rail.Box := ⟨t, t.points.map fun (_ : Bool) => false, [], List.replicate Rail.TRAINS none⟩
/-- what was there and not owned is not owned behind -/
def Ext (ρ ρ' : Rho) (H : Hp) : Prop := ∀ b o, H b = some o → ρ b = none → ρ' b = none
def spAnew (c : Ad) : Sp := fun vs H Q _ => ∃ (x a ak as dx sl td rd : Addr) (tr : V) (ρ : Rho) (t : Rail.Track), vs = [.ref x, .ref a] ∧ H x = some (.ins c.box dx (bf tr sl td rd)) ∧ ρ x = some .box ∧ Own c ρ H ∧ TrackAt c.track H a ak as t ∧ ρ a = none ∧ ρ ak = none ∧ ρ as = none ∧
  ∀ (H' : Hp) (ρ' : Rho), BoxAt c 0 ρ' H' x (ini t) → Keep ρ H H' → Ext ρ ρ' H → Live H H' → Out ρ ρ' H H' → Q .non H'
section
variable {P : Program} {w : World} {K : PySem.W.Frag} {mg : Str → Option Value} {base : Heap}
theorem ok_lay_points {f : Addr} {fd : FuncData} {c : Ad} (F : Fun K "lay_points" "lay_points" s_lay_points f fd) (cb : Tc K c.box bfs) (G1 : Fn P w K mg base 1 "is_points" ["track", "section"] (spIsPoints c.track)) (G2 : Fn P w K mg base 1 "stance_needed" ["step"] spStance) : FnOk P w K mg base CX0 2 f fd ["box", "steps"] (spLayPoints c) := by
  refine F.ok sc_lay_points (fun vs H Q E h => ?_) (fun cdv A outer s0 H vs Q E hr h => ?_)
  · obtain ⟨x, l, n, ρ, b, w, rfl, _⟩ := h
    rfl
  · obtain ⟨x, l, n, ρ, b, ws, rfl, hB, ⟨as, hl, hP⟩, nl, hw, k⟩ := h
    have nd := sc_lay_points.nd
    refine ⟨_, pss_one (ps_for PassesOwn.never rfl (pi_list (pv 1)) (pg_name (i := 2) nd rfl (Or.inl rfl)) (pss_one (ps_if (pt_val (pe_fn G1 hr (pa_cons (pe_fld (pv 0) (by rfl)) (pa_cons (pe_ix ix_tup (pv 2) pe_int (fun _ _ => rfl)) pa_nil))))
      (pss_one (ps_asg (pe_fn G2 hr (pa_cons (pv 2) pa_nil)) (pg_sub (pe_fld (pv 0) (by rfl)) (pe_ix ix_tup (pv 2) pe_int (fun _ _ => rfl)) set_list))) pss_nil))), ?_⟩
    rw [show L2.start n_lay_points [V.ref x, V.ref l] = [some (V.ref x), some (V.ref l), none] from rfl]
    walk_at "rd"
    refine ⟨⟨_, SqL.of hl⟩, ?_⟩
    have own := hB.own
    obtain ⟨Pv, eP⟩ : ∃ Pv : Nat → L2.St → Hp → Prop, Pv = fun i σ H' => ∃ v : Option V, σ = [some (.ref x), some (.ref l), v] ∧ BoxAt c n ρ H' x ⟨b.track, (ws.take i).foldl (laidStep b.track) b.turned, b.routes, b.trains⟩ ∧ But (· = .stances) ρ H H' ∧ Live H H' := ⟨_, rfl⟩
    refine fo_list (xs := as.map V.ref) Pv ?_ ?_ ?_ ?_
    · rw [eP]
      exact ⟨none, rfl, hB, fun _ _ h _ => h, fun _ h => h⟩
    · intro i σ H' _ z
      rw [eP] at z
      obtain ⟨v, _, _, q, _⟩ := z
      exact SqL.of (q.keep _ _ hl nl)
    · intro i y σ H' hy z
      rw [eP] at z
      obtain ⟨v, rfl, hB', q, lv⟩ := z
      rw [List.getElem?_map] at hy
      cases ea : as[i]? with
      | none => rw [ea] at hy; cases hy
      | some p =>
        rw [ea] at hy
        cases hy
        obtain ⟨e, ee, hb⟩ := paired_get hP ea
        have hb : StepAt H' p e := q.keep _ _ hb (own.tup hb)
        have hs := hw e (List.mem_of_getElem? ee)
        obtain ⟨dx, a, ak, bs, sl, td, rd, kt, kr, h1, ⟨h2, _⟩, ⟨h3, h3'⟩, _, _⟩ := hB'.ex
        have hst := hB'.wf.stances
        walk_at "rd"
        refine ⟨_, _, _, h1, cb.cl, cb.na _ (by decide +kernel), _, rfl, _, SqT.of hb, _, atI_nat (j := 0) rfl, ?_⟩
        refine ⟨a, ak, bs, b.track, e.section_, rfl, h2, hs, _, rfl, ?_⟩
        have tk := take_snoc ee
        cases hp : b.track.points.getD e.section_ false with
        | false =>
          rw [if_neg Bool.false_ne_true, eP]
          refine ⟨_, rfl, ?_, q, lv⟩
          rw [tk, List.foldl_append]
          have : laidStep b.track ((ws.take i).foldl (laidStep b.track) b.turned) e = (ws.take i).foldl (laidStep b.track) b.turned := by
            unfold laidStep Rail.Track.needs
            rw [hp]
            rfl
          rw [List.foldl_cons, List.foldl_nil, this]
          exact hB'
        | true =>
          rw [if_pos rfl]
          refine ⟨p, e, rfl, hb, fun H2 r2 => ?_⟩
          refine ⟨_, _, _, r2 _ _ h1, cb.cl, cb.na _ (by decide +kernel), _, rfl, _, SqT.of (r2 _ _ hb), _, atI_nat (j := 0) rfl, ?_⟩
          walk_at "rd"
          have hst : ((ws.take i).foldl (laidStep b.track) b.turned).length = b.track.points.length := hst
          have hix : ixN (((ws.take i).foldl (laidStep b.track) b.turned).map fun z => vi z.toNat).length (e.section_ : Int) = some e.section_ := by
            unfold ixN
            rw [List.length_map, if_pos (by omega), if_pos (by omega)]
            rfl
          refine ⟨_, r2 _ _ h3', _, hix, ?_⟩
          rw [eP]
          have e1 : laidStep b.track ((ws.take i).foldl (laidStep b.track) b.turned) e = ((ws.take i).foldl (laidStep b.track) b.turned).set e.section_ (e.in_ == 2 || e.out == 2) := by
            unfold laidStep Rail.Track.needs
            rw [hp]
            rfl
          have hB2 := (hB'.mono r2).stances (r2 _ _ h1) (((ws.take i).foldl (laidStep b.track) b.turned).set e.section_ (e.in_ == 2 || e.out == 2)) (by rw [List.length_set]; exact hst)
          refine ⟨_, rfl, ?_, fun b' o' hb' nb' => ?_, Live.upd (fun z hz => lv _ (r2.free hz)) (r2 _ _ h3')⟩
          · rw [tk, List.foldl_append, List.foldl_cons, List.foldl_nil, e1]
            have := hB2.1
            rw [set_map] at this
            exact this
          · rw [upd_ne (fun z => nb' .stances (by rw [z]; exact h3) rfl)]
            exact r2 _ _ (q _ _ hb' nb')
    · intro σ H' z
      rw [eP] at z
      obtain ⟨v, rfl, hB', q, lv⟩ := z
      rw [List.length_map, Paired.len hP, List.take_length] at hB'
      exact k _ hB' q lv
theorem ok_start_anew {f : Addr} {fd : FuncData} {c : Ad} (F : Fun K "start_anew" "start_anew" s_start_anew f fd) (cb : Tc K c.box bfs) (ct : Tc K c.track tfs) : FnOk P w K mg base CX0 1 f fd ["box", "track"] (spAnew c) := by
  refine F.ok sc_start_anew (fun vs H Q E h => ?_) (fun cdv A outer s0 H vs Q E hr h => ?_)
  · obtain ⟨x, a, ak, as, dx, sl, td, rd, tr, ρ, t, rfl, _⟩ := h
    rfl
  · obtain ⟨x, a, ak, as, dx, sl0, td0, rd0, tr, ρ, t, rfl, hx, hme, own, hT, na, nk, ns, k⟩ := h
    have nd := sc_start_anew.nd
    refine ⟨_, pss_cons (ps_fld (pv 0) (pv 1) (by rfl)) (pss_cons (ps_fld (pv 0) (pe_lc rfl nd (pi_list (pe_fld (pv 1) (by rfl))) (blkOk_by (N := n_start_anew) (sc := defScope s_start_anew) (own := [("kind", 2)]) (by decide +kernel))
        (fun s H C cl fp => pg_name (i := 2) nd rfl (Or.inl rfl) (Or.inr rfl)) (fun s H C cl fp => pts_nil) (fun s H C cl fp => pe_int)) (by rfl))
      (pss_cons (ps_fld (pv 0) pe_dnewK (by rfl)) (pss_one (ps_fld (pv 0) pe_dnewK (by rfl))))), ?_⟩
    rw [show L2.start n_start_anew [V.ref x, V.ref a] = [some (V.ref x), some (V.ref a), none] from rfl]
    obtain ⟨dt, aj, ag, kj, ks, g1, g2, g3, g4, g5⟩ := hT.ex
    walk_at "rd"
    refine ⟨_, _, _, hx, cb.cl, cb.na _ (by decide +kernel), by show 4 < 1000; decide, ?_⟩
    have e1 : putF "track" (V.ref a) (bf tr sl0 td0 rd0) = bf (.ref a) sl0 td0 rd0 := rfl
    rw [e1]
    have nax : a ≠ x := fun e => by rw [e, hme] at na; cases na
    have nkx : ak ≠ x := fun e => by rw [e, hme] at nk; cases nk
    generalize hH1 : upd H x (.ins c.box dx (bf (.ref a) sl0 td0 rd0)) = H1
    have x1 : H1 x = some (.ins c.box dx (bf (.ref a) sl0 td0 rd0)) := by rw [← hH1]; exact upd_same
    have f1 : ∀ b o, H b = some o → b ≠ x → H1 b = some o := fun b o hb hbx => by
      rw [← hH1, upd_ne hbx]
      exact hb
    have z1 : ∀ b, H1 b = none → H b = none ∧ b ≠ x := fun b hb => by
      have : b ≠ x := fun e => by rw [e, x1] at hb; cases hb
      rw [← hH1, upd_ne this] at hb
      exact ⟨hb, this⟩
    refine ⟨_, _, _, f1 _ _ g1 nax, ct.cl, ct.na _ (by decide +kernel), _, rfl, ?_⟩
    walk_at "rd"
    refine ⟨⟨_, SqL.of (f1 _ _ hT.kinds nkx)⟩, fun L hL => ?_⟩
    obtain ⟨Pv, eP⟩ : ∃ Pv : Nat → Hp → Prop, Pv = fun i H' => H' = upd H1 L (.lst (List.replicate i (vi 0))) ∧ i ≤ t.points.length := ⟨_, rfl⟩
    have pl : t.points.length ≤ 24 := by
      have := hT.ok
      unfold Rail.Track.right at this
      simp only [Bool.and_eq_true, decide_eq_true_eq] at this
      exact this.2.1
    refine lc_lst (xs := t.points.map fun b => vi b.toNat) Pv ?_ ?_ ?_ ?_
    · rw [eP]
      exact ⟨rfl, Nat.zero_le _⟩
    · intro i H' _ z
      rw [eP] at z
      rw [z.1]
      exact SqL.of (by rw [upd_ne (ne_of_none (f1 _ _ hT.kinds nkx) hL)]; exact f1 _ _ hT.kinds nkx)
    · intro i y H' hy z
      rw [eP] at z
      obtain ⟨rfl, hi⟩ := z
      have hi2 := (List.getElem?_eq_some_iff.mp hy).1
      rw [List.length_map] at hi2
      walk_at "rd"
      refine ⟨_, upd_same, ?_, ?_⟩
      · rw [List.length_replicate, sizeLine_eq]
        omega
      · rw [eP, upd_upd]
        refine ⟨?_, hi2⟩
        rw [List.replicate_succ']
        rfl
    · intro H' z
      rw [eP] at z
      obtain ⟨rfl, _⟩ := z
      rw [List.length_map]
      generalize hH2 : upd H1 L (.lst (List.replicate t.points.length (vi 0))) = H2
      have nLx : x ≠ L := ne_of_none x1 hL
      have hL' := (z1 _ hL).1
      have x2 : H2 x = some (.ins c.box dx (bf (.ref a) sl0 td0 rd0)) := by rw [← hH2, upd_ne nLx]; exact x1
      have l2 : H2 L = some (.lst (List.replicate t.points.length (vi 0))) := by rw [← hH2]; exact upd_same
      refine ⟨_, _, _, x2, cb.cl, cb.na _ (by decide +kernel), by show 4 < 1000; decide, ?_⟩
      have e2 : putF "stances" (V.ref L) (bf (.ref a) sl0 td0 rd0) = bf (.ref a) L td0 rd0 := rfl
      rw [e2]
      intro td htd
      have nT : x ≠ td := fun e => by rw [← e, upd_same] at htd; cases htd
      rw [upd_ne nT.symm] at htd
      have nLT : L ≠ td := ne_of_none l2 htd
      refine ⟨_, _, _, by rw [upd_ne nT]; exact upd_same, cb.cl, cb.na _ (by decide +kernel), by show 4 < 1000; decide, ?_⟩
      have e3 : putF "trains" (V.ref td) (bf (.ref a) L td0 rd0) = bf (.ref a) L td rd0 := rfl
      rw [e3]
      intro rd hrd
      have nR : x ≠ rd := fun e => by rw [← e, upd_same] at hrd; cases hrd
      rw [upd_ne nR.symm] at hrd
      have nTR : td ≠ rd := fun e => by rw [← e, upd_same] at hrd; cases hrd
      rw [upd_ne nTR.symm, upd_ne nR.symm] at hrd
      have nLR : L ≠ rd := ne_of_none l2 hrd
      refine ⟨_, _, _, by rw [upd_ne nR]; exact upd_same, cb.cl, cb.na _ (by decide +kernel), by show 4 < 1000; decide, ?_⟩
      have e4 : putF "routes" (V.ref rd) (bf (.ref a) L td rd0) = bf (.ref a) L td rd := rfl
      rw [e4]
      generalize hH3 : upd (upd (upd (upd (upd H2 x _) td _) x _) rd _) x _ = H3
      have x3 : H3 x = some (.ins c.box dx (bf (.ref a) L td rd)) := by rw [← hH3]; exact upd_same
      have t3 : H3 td = some (.dK []) := by rw [← hH3, upd_ne nT.symm, upd_ne nTR, upd_ne nT.symm, upd_same]
      have r3 : H3 rd = some (.dK []) := by rw [← hH3, upd_ne nR.symm, upd_same]
      have l3 : H3 L = some (.lst (List.replicate t.points.length (vi 0))) := by rw [← hH3, upd_ne nLx.symm, upd_ne nLR, upd_ne nLx.symm, upd_ne nLT, upd_ne nLx.symm]; exact l2
      have td' : H td = none := by
        have : H1 td = none := by rw [← hH2, upd_ne nLT.symm] at htd; exact htd
        exact (z1 _ this).1
      have rd' : H rd = none := by
        have : H1 rd = none := by rw [← hH2, upd_ne nLR.symm] at hrd; exact hrd
        exact (z1 _ this).1
      have f3 : ∀ b o, H b = some o → b ≠ x → H3 b = some o := fun b o hb hbx => by
        rw [← hH3, upd_ne hbx, upd_ne (ne_of_none hb rd'), upd_ne hbx, upd_ne (ne_of_none hb td'), upd_ne hbx, ← hH2, upd_ne (ne_of_none hb hL')]
        exact f1 b o hb hbx
      have lv3 : Live H H3 := fun z hz => by
        cases e : H z with
        | none => rfl
        | some o =>
          by_cases zx : z = x
          · rw [zx, x3] at hz
            cases hz
          · rw [f3 z o e zx] at hz
            cases hz
      have kp : Keep ρ H H3 := fun b o hb nb => f3 b o hb fun e => by rw [e, hme] at nb; cases nb
      refine k H3 (fun b => if b = L then some .stances else if b = td then some .trains else if b = rd then some .routes else ρ b) ⟨?_, ?_, by decide, ?_, ?_⟩ kp ?_ lv3 ⟨fun z o hz e => f3 z o hz (fun q => by rw [q, hme] at e; cases e), fun z e => ?_⟩
      · intro b r e
        dsimp only at e
        by_cases b1 : b = L
        · rw [if_pos b1] at e
          cases e
          exact ⟨_, by rw [b1]; exact l3, _, rfl⟩
        rw [if_neg b1] at e
        by_cases b2 : b = td
        · rw [if_pos b2] at e
          cases e
          exact ⟨_, by rw [b2]; exact t3, _, rfl⟩
        rw [if_neg b2] at e
        by_cases b3 : b = rd
        · rw [if_pos b3] at e
          cases e
          exact ⟨_, by rw [b3]; exact r3, _, rfl⟩
        rw [if_neg b3] at e
        by_cases b4 : b = x
        · rw [b4, hme] at e
          cases e
          exact ⟨_, by rw [b4]; exact x3, _, _, rfl⟩
        · obtain ⟨o, h1, h2⟩ := own b r e
          exact ⟨o, f3 _ _ h1 b4, h2⟩
      · refine ⟨by show (t.points.map fun _ => false).length = _; rw [List.length_map]; rfl, by show (List.replicate 8 none).length = 8; rfl, fun k' t' ht => ?_, fun r hr => (by cases hr), Nat.zero_le _⟩
        have : (List.replicate Rail.TRAINS (none : Option Rail.Train))[k']? = some (some t') := ht
        rw [List.getElem?_replicate] at this
        split at this
        · cases this
        · cases this
      · show (if x = L then _ else if x = td then _ else if x = rd then _ else ρ x) = _
        rw [if_neg nLx, if_neg nT, if_neg nR]
        exact hme
      · have hne : ∀ b o, H b = some o → b ≠ L ∧ b ≠ td ∧ b ≠ rd := fun b o hb => ⟨ne_of_none hb hL', ne_of_none hb td', ne_of_none hb rd'⟩
        have hro : ∀ b o, H b = some o → (if b = L then some Role.stances else if b = td then some .trains else if b = rd then some .routes else ρ b) = ρ b := fun b o hb => by
          obtain ⟨q1, q2, q3⟩ := hne b o hb
          rw [if_neg q1, if_neg q2, if_neg q3]
        have h_as : ∃ o, H as = some o := by
          obtain ⟨bs, hb, _⟩ := hT.sig
          exact ⟨_, hb⟩
        obtain ⟨oas, h_as⟩ := h_as
        refine ⟨dx, a, ak, as, L, td, rd, [], [], x3, ⟨hT.keep own kp na nk ns, (hro _ _ g1).trans na, (hro _ _ hT.kinds).trans nk, (hro _ _ h_as).trans ns⟩, ⟨if_pos rfl, ?_⟩, ⟨?_, t3, ?_⟩, ?_, r3, .nil⟩
        · rw [l3]
          show _ = some (HO.lst ((t.points.map fun _ => false).map fun z => vi z.toNat))
          rw [List.map_map]
          congr 2
          exact (List.map_const' (l := t.points) (b := vi 0)).symm
        · show (if td = L then _ else if td = td then _ else _) = _
          rw [if_neg nLT.symm, if_pos rfl]
        · refine ⟨List.nodup_nil, fun kv m => (by cases m), fun k' t' ht => ?_⟩
          have : (List.replicate Rail.TRAINS (none : Option Rail.Train))[k']? = some (some t') := ht
          rw [List.getElem?_replicate] at this
          split at this
          · cases this
          · cases this
        · show (if rd = L then _ else if rd = td then _ else if rd = rd then _ else _) = _
          rw [if_neg nLR.symm, if_neg nTR.symm, if_pos rfl]
      · intro b o hb nb
        show (if b = L then _ else if b = td then _ else if b = rd then _ else ρ b) = _
        rw [if_neg (ne_of_none hb hL'), if_neg (ne_of_none hb td'), if_neg (ne_of_none hb rd')]
        exact nb
      · obtain ⟨o, ho, _⟩ := own z _ e
        show (if z = L then _ else if z = td then _ else if z = rd then _ else ρ z) = _
        rw [if_neg (ne_of_none ho hL'), if_neg (ne_of_none ho td'), if_neg (ne_of_none ho rd')]
        exact e
end
end Sb
namespace Sb
open PySem PySem.Spec PyProof.Rows L2
/-! ### moving a box's parts to another heap and other owners -/
def RBut (rs : Role → Prop) (ρ ρ' : Rho) : Prop := ∀ b r, ρ b = some r → ¬ rs r → ρ' b = some r
theorem RBut.refl {rs : Role → Prop} (ρ : Rho) : RBut rs ρ ρ := fun _ _ h _ => h
theorem TrainAt.move {c : Ad} {rs : Role → Prop} {ρ ρ' : Rho} {H H' : Hp} {k : Nat} {p : Addr} {t : Rail.Train} (h : TrainAt c.train ρ H k p t) (a : But rs ρ H H') (q : RBut rs ρ ρ') (o : Own c ρ H) (n1 : ¬ rs (.train k)) (n2 : ¬ rs (.on k)) (n3 : ¬ rs (.ahead k)) : TrainAt c.train ρ' H' k p t := by
  obtain ⟨dx, ls, lg, h1, h2, h3, h4, h5, h6⟩ := (h.but a o n1 n2 n3).ex
  exact ⟨dx, ls, lg, h1, q _ _ h2 n1, q _ _ h3 n2, h4, q _ _ h5 n3, h6⟩
theorem RouteAt.move {c : Ad} {rs : Role → Prop} {ρ ρ' : Rho} {H H' : Hp} {kv : Key × V} {r : Rail.Route} (a : But rs ρ H H') (q : RBut rs ρ ρ') (o : Own c ρ H) (nr : ¬ rs (.route r.signal)) (h : RouteAt ρ H kv r) : RouteAt ρ' H' kv r := by
  obtain ⟨l, e, q1, q2⟩ := h.but a o nr
  exact ⟨l, e, q _ _ q1 nr, q2⟩
/-- the track in its place -/
def TrackIn (c : Ad) (ρ : Rho) (H : Hp) (a ak as : Addr) (t : Rail.Track) : Prop := TrackAt c.track H a ak as t ∧ ρ a = none ∧ ρ ak = none ∧ ρ as = none
theorem TrackIn.move {c : Ad} {ρ ρ' : Rho} {H H' : Hp} {a ak as : Addr} {t : Rail.Track} (h : TrackIn c ρ H a ak as t) (o : Own c ρ H) (k : Keep ρ H H') (x : Ext ρ ρ' H) : TrackIn c ρ' H' a ak as t := by
  obtain ⟨h1, n1, n2, n3⟩ := h
  refine ⟨h1.keep o k n1 n2 n3, ?_, x _ _ h1.kinds n2, ?_⟩
  · obtain ⟨dx, aj, ag, kj, ks, g1, _⟩ := h1.ex
    exact x _ _ g1 n1
  · obtain ⟨bs, g1, _⟩ := h1.sig
    exact x _ _ g1 n3
theorem Ext.refl (ρ : Rho) (H : Hp) : Ext ρ ρ H := fun _ _ _ n => n
theorem Wf.mono {n m : Nat} {b : Rail.Box} (h : Wf n b) (l : n ≤ m) : Wf m b := ⟨h.stances, h.eight, fun k t ht => ⟨(h.steps k t ht).1, Nat.le_trans (h.steps k t ht).2 l⟩, h.ways, Nat.le_trans h.few l⟩
theorem BoxAt.more {c : Ad} {n m : Nat} {ρ : Rho} {H : Hp} {x : Addr} {b : Rail.Box} (h : BoxAt c n ρ H x b) (l : n ≤ m) (lm : m ≤ 1000000) : BoxAt c m ρ H x b := ⟨h.own, h.wf.mono l, lm, h.me, h.ex⟩
/-- the state as the program has it -/
def StAt (c : Ad) (n : Nat) (ρ : Rho) (H : Hp) (x : Addr) : Rail.State → Prop
  | some b => BoxAt c n ρ H x b
  | none => n ≤ 1000000 ∧ Own c ρ H ∧ ρ x = some .box ∧ ∃ dx sl td rd, H x = some (.ins c.box dx (bf .non sl td rd))
theorem StAt.mono {c : Ad} {n : Nat} {ρ : Rho} {H H' : Hp} {x : Addr} : ∀ {st : Rail.State}, StAt c n ρ H x st → Same H H' → StAt c n ρ H' x st
  | some _, h, s => BoxAt.mono h s
  | none, ⟨h0, h1, h2, dx, sl, td, rd, h3⟩, s => ⟨h0, h1.mono s, h2, dx, sl, td, rd, s _ _ h3⟩
theorem StAt.more {c : Ad} {n m : Nat} {ρ : Rho} {H : Hp} {x : Addr} (l : n ≤ m) (lm : m ≤ 1000000) : ∀ {st : Rail.State}, StAt c n ρ H x st → StAt c m ρ H x st
  | some _, h => BoxAt.more h l lm
  | none, ⟨_, h⟩ => ⟨lm, h⟩
theorem StAt.own {c : Ad} {n : Nat} {ρ : Rho} {H : Hp} {x : Addr} : ∀ {st : Rail.State}, StAt c n ρ H x st → Own c ρ H
  | some _, h => BoxAt.own h
  | none, h => h.2.1
/-- what a call must come to: its answer in a new list, the state behind it -/
def Done (c : Ad) (n : Nat) (ρ : Rho) (H : Hp) (x : Addr) (z : Rail.State × Rail.Answer) (Q : VK) : Prop := ∀ (H' : Hp) (ρ' : Rho) (r : Addr), StAt c (n + 17) ρ' H' x z.1 → Keep ρ H H' → Ext ρ ρ' H → Out ρ ρ' H H' → H r = Option.none → ρ' r = none → H' r = some (.lst ((RailNeutral.shown z.2).map V.int)) → Q (.ref r) H'
/-- a refusal: the state as it was -/
theorem Done.says {c : Ad} {n : Nat} {ρ : Rho} {H H1 : Hp} {x : Addr} {st : Rail.State} {a : Rail.Answer} {Q : VK} (D : Done c n ρ H x (st, a) Q) (hs : StAt c n ρ H x st) (hn : n + 17 ≤ 1000000) (s : Same H H1) {r : Addr} (hr : H1 r = none) {l : List V} (e : l = (RailNeutral.shown a).map V.int) : Q (.ref r) (upd H1 r (.lst l)) := by
  subst e
  have s2 := s.trans (same_new (o := .lst ((RailNeutral.shown a).map V.int)) hr)
  exact D _ ρ r ((hs.mono s2).more (by omega) hn) (Same.keep s2) (Ext.refl _ _) (Same.out s2) (s.free hr) (hs.own.new (s.free hr)) upd_same
theorem shown_says (z : Int) : RailNeutral.shown (Rail.says z) = [z] := rfl
theorem val_iff {C : Addr} {ρ : Rho} {H : Hp} {kt : List (Key × V)} {ts : List (Option Rail.Train)} (h : TrainsAt C ρ H kt ts) (k : Nat) : (∃ p t, valV kt (.inl (k : Int)) = some (.ref p) ∧ ts[k]? = some (some t) ∧ TrainAt C ρ H k p t) ∨ (valV kt (.inl (k : Int)) = none ∧ ∀ t, ts[k]? ≠ some (some t)) := by
  cases e : valV kt (.inl (k : Int)) with
  | none =>
    refine .inr ⟨rfl, fun t ht => ?_⟩
    obtain ⟨p, hp⟩ := h.has k t ht
    exact valV_not e (List.mem_map.mpr ⟨_, hp, rfl⟩)
  | some v =>
    have e' := e
    unfold valV at e
    cases ef : kt.find? fun kv => decide (kv.1 = Sum.inl (k : Int)) with
    | none => rw [ef] at e; cases e
    | some kv =>
      rw [ef] at e
      have hm := List.mem_of_find?_eq_some ef
      have hk : kv.1 = Sum.inl (k : Int) := of_decide_eq_true (by have := List.find?_some ef; exact this)
      obtain ⟨k', p, t, e1, q1, q2⟩ := h.keys kv hm
      subst e1
      have : k' = k := Int.ofNat.inj (Sum.inl.inj hk)
      subst this
      have hv : V.ref p = v := Option.some.inj e
      subst hv
      exact .inl ⟨p, t, rfl, q1, q2⟩
theorem train_of {b : Rail.Box} {k : Nat} {t : Rail.Train} (h : b.trains[k]? = some (some t)) : b.train k = some t := by
  unfold Rail.Box.train
  rw [h]
  rfl
theorem train_none {b : Rail.Box} {k : Nat} (h : ∀ t, b.trains[k]? ≠ some (some t)) : b.train k = none := by
  unfold Rail.Box.train
  cases e : b.trains[k]? with
  | none => rfl
  | some o =>
    cases o with
    | none => rfl
    | some t => exact absurd e (h t)
theorem dropK_mem2 {kt : List (Key × V)} {k : Key} {p : Key × V} (h : p ∈ dropK kt k) : p ∈ kt ∧ p.1 ≠ k := by
  unfold dropK at h
  obtain ⟨h1, h2⟩ := List.mem_filter.mp h
  exact ⟨h1, of_decide_eq_true h2⟩
def spTake (c : Ad) : Sp := fun vs H Q _ => ∃ (x : Addr) (n : Nat) (ρ : Rho) (b : Rail.Box) (k : Nat), vs = [.ref x, vi k] ∧ BoxAt c n ρ H x b ∧ n + 17 ≤ 1000000 ∧ Done c n ρ H x (Rail.step (some b) (.take k)) Q
section
variable {P : Program} {w : World} {K : PySem.W.Frag} {mg : Str → Option Value} {base : Heap}
theorem ok_take {f : Addr} {fd : FuncData} {c : Ad} (F : Fun K "take" "take" s_take f fd) (T : TxB mg) (cb : Tc K c.box bfs) (cn : Tc K c.train nfs) (c4 : ConI mg "NO_SUCH" (-4)) (c3 : ConI mg "NOT_AS_THINGS_STAND" (-3)) : FnOk P w K mg base CX0 1 f fd ["box", "number"] (spTake c) := by
  refine F.ok sc_take (fun vs H Q E h => ?_) (fun cdv A outer s0 H vs Q E hr h => ?_)
  · obtain ⟨x, n, ρ, b, k, rfl, _⟩ := h
    rfl
  · obtain ⟨x, n, ρ, b, k, rfl, hB, hn, D⟩ := h
    have nd := sc_take.nd
    have hu := hu_of hr
    refine ⟨_, pss_cons (ps_if (pt_cmp (pc_dnotin hu (pv 1) (pe_fld (pv 0) (by rfl)))) (pss_one (ps_ret (pe_lst (pa_cons (pe_con c4 (by rfl)) pa_nil)))) pss_nil)
      (pss_cons (ps_if (pt_cmpR op_gt (pe_callB call_len_seq (by rfl) T.len PySem.boot_len (pa_cons (pe_fld (pe_dget hu (pe_fld (pv 0) (by rfl)) (pv 1) (fun _ _ => rfl)) (by rfl)) pa_nil)) pe_int (nomark _)) (pss_one (ps_ret (pe_lst (pa_cons (pe_con c3 (by rfl)) pa_nil)))) pss_nil)
      (pss_cons (ps_set (i := 2) nd rfl (Or.inl rfl) (pe_dpop1 (pe_fld (pv 0) (by rfl)) (pv 1) ⟨by rfl, by rfl, by rfl, by rfl⟩))
      (pss_one (ps_ret (pe_lst (pa_cons (pe_callB call_len_seq (by rfl) T.len PySem.boot_len (pa_cons (pe_fld (pv 2) (by rfl)) pa_nil)) pa_nil)))))), ?_⟩
    rw [show L2.start n_take [V.ref x, vi k] = [some (V.ref x), some (vi k), none] from rfl]
    obtain ⟨dx, a, ak, as, sl, td, rd, kt, kr, h1, h2, ⟨h3, h3'⟩, ⟨h4, h4', h4''⟩, h5, h5', h5''⟩ := hB.ex
    walk_at "rd"
    refine ⟨_, _, _, h1, cb.cl, cb.na _ (by decide +kernel), _, rfl, ?_⟩
    walk_at "rd"
    refine ⟨_, DGet.k (k := .inl (k : Int)) h4', ?_⟩
    rcases val_iff h4'' k with ⟨p, t, ev, ht, hT⟩ | ⟨ev, hno⟩
    rotate_left
    · rw [ev, if_pos (by rfl)]
      refine ⟨by show 1 ≤ sizeLine; decide, fun r hr => ?_⟩
      have e1 : Rail.step (some b) (.take k) = (some b, Rail.says (-4)) := by
        show (match b.train k with | none => _ | some t => _) = _
        rw [train_none hno]
      rw [e1] at D
      exact D.says hB hn (Same.refl H) hr rfl
    rw [ev, if_neg (by simp)]
    obtain ⟨dp, ls, lg, g1, g2, g3, ⟨bs, g4, g4'⟩, g5, ⟨cs, g6, g6'⟩⟩ := hT.ex
    have e0 : Rail.step (some b) (.take k) = if t.ahead.isEmpty = false then (some b, Rail.says (-3)) else (some (Rail.withTrain b k none), Rail.says (t.on.length : Nat)) := by
      show (match b.train k with | none => _ | some t => _) = _
      rw [train_of ht]
    refine ⟨_, _, _, h1, cb.cl, cb.na _ (by decide +kernel), _, rfl, td, rfl, V.ref p, by rw [← ev]; exact DGet.k (k := .inl (k : Int)) h4', p, rfl, _, _, _, g1, cn.cl, cn.na _ (by decide +kernel), _, rfl, lg, rfl, _, .inl (SqL.of g6), ?_⟩
    have hlen := Paired.len g6'
    rw [List.length_map]
    cases ea : t.ahead with
    | cons y r =>
      rw [ea] at hlen
      rw [if_pos (decide_eq_true (by rw [hlen, List.length_cons]; omega))]
      refine ⟨by show 1 ≤ sizeLine; decide, fun q hq => ?_⟩
      rw [e0, ea, if_pos (by rfl)] at D
      exact D.says hB hn (Same.refl H) hq rfl
    | nil =>
      rw [ea] at hlen
      rw [if_neg (by rw [decide_eq_true_eq, hlen]; decide)]
      rw [e0, ea, if_neg (by decide)] at D
      refine ⟨_, _, _, h1, cb.cl, cb.na _ (by decide +kernel), _, rfl, td, rfl, .inl ⟨kt, .inl h4'⟩, ?_⟩
      refine ⟨kt, h4', .inl (k : Int), rfl, V.ref p, ev, p, rfl, ?_⟩
      have bt := upd_but (H := H) (o := .dK (dropK kt (.inl (k : Int)))) h4
      have gp : upd H td (.dK (dropK kt (.inl (k : Int)))) p = some (.ins c.train dp (nf ls lg)) := bt _ _ g1 (fun r e => by rw [g2] at e; cases e; intro z; cases z)
      have gl : upd H td (.dK (dropK kt (.inl (k : Int)))) ls = some (.lst (bs.map V.ref)) := bt _ _ g4 (fun r e => by rw [g3] at e; cases e; intro z; cases z)
      walk_at "rd"
      refine ⟨_, _, _, gp, cn.cl, cn.na _ (by decide +kernel), _, rfl, ls, rfl, _, .inl (SqL.of gl), by show 1 ≤ sizeLine; decide, fun r hr => ?_⟩
      rw [List.length_map, Paired.len g4']
      have hr' : H r = none := by
        cases z : H r with
        | none => rfl
        | some o =>
          by_cases e : r = td
          · rw [e, upd_same] at hr
            cases hr
          · rw [upd_ne e, z] at hr
            cases hr
      have s3 := same_new (o := .lst [V.int (t.on.length : Int)]) hr
      have hB2 : BoxAt c n ρ (upd H td (.dK (dropK kt (.inl (k : Int))))) x (Rail.withTrain b k none) := by
        refine ⟨own_upd hB.own h4 ⟨_, rfl⟩, ⟨hB.wf.stances, by show (b.trains.set k none).length = 8; rw [List.length_set]; exact hB.wf.eight, fun k' t' ht' => ?_, hB.wf.ways, hB.wf.few⟩, hB.small, hB.me, dx, a, ak, as, sl, td, rd, _, kr, bt _ _ h1 (fun r e => by rw [hB.me] at e; cases e; decide),
          TrackIn.move h2 hB.own bt.keep (Ext.refl _ _), ⟨h3, bt _ _ h3' (fun r e => by rw [h3] at e; cases e; decide)⟩, ⟨h4, upd_same, nd_dropK h4''.nodup, fun kv m => ?_, fun k' t' ht' => ?_⟩, h5, bt _ _ h5' (fun r e => by rw [h5] at e; cases e; decide), Paired.mono (fun _ _ q => q.but bt hB.own (by intro z; cases z)) h5''⟩
        · have ht' : (b.trains.set k none)[k']? = some (some t') := ht'
          rw [List.getElem?_set] at ht'
          split at ht'
          · split at ht' <;> cases ht'
          · exact hB.wf.steps k' t' ht'
        · obtain ⟨m1, m2⟩ := dropK_mem2 m
          obtain ⟨k', p', t', e, q1, q2⟩ := h4''.keys kv m1
          subst e
          refine ⟨k', p', t', rfl, ?_, q2.but bt hB.own (by intro z; cases z) (by intro z; cases z) (by intro z; cases z)⟩
          show (b.trains.set k none)[k']? = _
          rw [List.getElem?_set_ne (fun e => m2 (by rw [e]))]
          exact q1
        · have ht' : (b.trains.set k none)[k']? = some (some t') := ht'
          have nk : k' ≠ k := fun e => by
            rw [e, List.getElem?_set_self (List.getElem?_eq_some_iff.mp ht).1] at ht'
            cases ht'
          rw [List.getElem?_set_ne nk.symm] at ht'
          obtain ⟨p', hp'⟩ := h4''.has k' t' ht'
          exact ⟨p', List.mem_filter.mpr ⟨hp', decide_eq_true fun e => nk (Int.ofNat.inj (Sum.inl.inj e))⟩⟩
      refine D _ ρ r ((hB2.mono s3).more (by omega) hn) (Keep.trans bt.keep (Same.keep s3)) (Ext.refl _ _) ((bt.out (by intro z; cases z)).trans (Same.out s3)) hr' (hB.own.new hr') upd_same
end
end Sb
namespace Sb
open PySem PySem.Spec PyProof.Rows L2
/-! ### routes -/
theorem rt_iff {ρ : Rho} {H : Hp} (i : Nat) : ∀ {kr : List (Key × V)} {rs : List Rail.Route}, Paired (RouteAt ρ H) kr rs →
    (∃ r l, rs.find? (fun r => r.signal == i) = some r ∧ r ∈ rs ∧ r.signal = i ∧ valV kr (.inl (i : Int)) = some (.ref l) ∧ ρ l = some (.route i) ∧ StepsAt H l r.way) ∨ (rs.find? (fun r => r.signal == i) = none ∧ valV kr (.inl (i : Int)) = none)
  | _, _, .nil => .inr ⟨rfl, rfl⟩
  | kv :: kr, r :: rs, .cons h t => by
    obtain ⟨l, e, q1, q2⟩ := h
    subst e
    by_cases z : r.signal = i
    · subst z
      exact .inl ⟨r, l, by rw [List.find?_cons_of_pos (by simp)], List.mem_cons.mpr (Or.inl rfl), rfl, valV_pos rfl, q1, q2⟩
    · have n1 : ¬ (Sum.inl (r.signal : Int) : Key) = Sum.inl (i : Int) := fun e => z (Int.ofNat.inj (Sum.inl.inj e))
      rcases rt_iff i t with ⟨r', l', a1, a2, a3, a4, a5, a6⟩ | ⟨a1, a2⟩
      · exact .inl ⟨r', l', by rw [List.find?_cons_of_neg (by simpa using z)]; exact a1, List.mem_cons.mpr (Or.inr a2), a3, (valV_neg n1).trans a4, a5, a6⟩
      · exact .inr ⟨by rw [List.find?_cons_of_neg (by simpa using z)]; exact a1, (valV_neg n1).trans a2⟩
theorem rt_drop {ρ : Rho} {H : Hp} (i : Nat) : ∀ {kr : List (Key × V)} {rs : List Rail.Route}, Paired (RouteAt ρ H) kr rs → Paired (RouteAt ρ H) (dropK kr (.inl (i : Int))) (rs.filter fun r => r.signal != i)
  | _, _, .nil => .nil
  | kv :: kr, r :: rs, .cons h t => by
    obtain ⟨l, e, q1, q2⟩ := h
    subst e
    by_cases z : r.signal = i
    · subst z
      rw [dropK_pos rfl, List.filter_cons, if_neg (by simp)]
      exact rt_drop _ t
    · have n1 : ¬ (Sum.inl (r.signal : Int) : Key) = Sum.inl (i : Int) := fun e => z (Int.ofNat.inj (Sum.inl.inj e))
      rw [dropK_neg n1, List.filter_cons, if_pos (by simpa using z)]
      exact .cons ⟨l, rfl, q1, q2⟩ (rt_drop i t)
theorem Paired.monoR {α β : Type} {F G : α → β → Prop} : ∀ {l1 : List α} {l2 : List β}, Paired F l1 l2 → (∀ a b, b ∈ l2 → F a b → G a b) → Paired G l1 l2
  | _, _, .nil, _ => .nil
  | _, _, .cons r t, f => .cons (f _ _ (List.mem_cons.mpr (Or.inl rfl)) r) (Paired.monoR t fun a b m => f a b (List.mem_cons.mpr (Or.inr m)))
def spCancel (c : Ad) : Sp := fun vs H Q _ => ∃ (x : Addr) (n : Nat) (ρ : Rho) (b : Rail.Box) (i : Nat), vs = [.ref x, vi i] ∧ BoxAt c n ρ H x b ∧ n + 17 ≤ 1000000 ∧ Done c n ρ H x (Rail.step (some b) (.cancel i)) Q
/-- a route is gone -/
theorem BoxAt.drop {c : Ad} {n : Nat} {ρ : Rho} {H : Hp} {x : Addr} {b : Rail.Box} (hB : BoxAt c n ρ H x b) {dx a ak as sl td rd : Addr} {kt kr : List (Key × V)} (i : Nat) (h1 : H x = some (.ins c.box dx (bf (.ref a) sl td rd))) (h2 : TrackIn c ρ H a ak as b.track) (h3 : ρ sl = some .stances) (h3' : H sl = some (.lst (b.turned.map fun z => vi z.toNat)))
    (h4 : ρ td = some .trains) (h4' : H td = some (.dK kt)) (h4'' : TrainsAt c.train ρ H kt b.trains) (h5 : ρ rd = some .routes) (h5'' : Paired (RouteAt ρ H) kr b.routes) :
    BoxAt c n ρ (upd H rd (.dK (dropK kr (.inl (i : Int))))) x ⟨b.track, b.turned, b.routes.filter fun r => r.signal != i, b.trains⟩ := by
  have bt := upd_but (H := H) (o := .dK (dropK kr (.inl (i : Int)))) h5
  refine ⟨own_upd hB.own h5 ⟨_, rfl⟩, ⟨hB.wf.stances, hB.wf.eight, hB.wf.steps, fun r hr => hB.wf.ways r (List.mem_filter.mp hr).1, Nat.le_trans (List.length_filter_le _ _) hB.wf.few⟩, hB.small, hB.me, dx, a, ak, as, sl, td, rd, kt, _, bt _ _ h1 (fun r e => by rw [hB.me] at e; cases e; decide),
    TrackIn.move h2 hB.own bt.keep (Ext.refl _ _), ⟨h3, bt _ _ h3' (fun r e => by rw [h3] at e; cases e; decide)⟩, ⟨h4, bt _ _ h4' (fun r e => by rw [h4] at e; cases e; decide), h4''.nodup, fun kv m => ?_, h4''.has⟩, h5, upd_same, Paired.mono (fun _ _ q => q.but bt hB.own (by intro z; cases z)) (rt_drop i h5'')⟩
  obtain ⟨k, p, t, e, q1, q2⟩ := h4''.keys kv m
  exact ⟨k, p, t, e, q1, q2.but bt hB.own (by intro z; cases z) (by intro z; cases z) (by intro z; cases z)⟩
section
variable {P : Program} {w : World} {K : PySem.W.Frag} {mg : Str → Option Value} {base : Heap}
theorem ok_cancel {f : Addr} {fd : FuncData} {c : Ad} (F : Fun K "cancel" "cancel" s_cancel f fd) (T : TxB mg) (cb : Tc K c.box bfs) (ct : Tc K c.track tfs) (c4 : ConI mg "NO_SUCH" (-4)) (c3 : ConI mg "NOT_AS_THINGS_STAND" (-3)) : FnOk P w K mg base CX0 1 f fd ["box", "signal"] (spCancel c) := by
  refine F.ok sc_cancel (fun vs H Q E h => ?_) (fun cdv A outer s0 H vs Q E hr h => ?_)
  · obtain ⟨x, n, ρ, b, i, rfl, _⟩ := h
    rfl
  · obtain ⟨x, n, ρ, b, i, rfl, hB, hn, D⟩ := h
    have nd := sc_cancel.nd
    have hu := hu_of hr
    refine ⟨_, pss_cons (ps_if (pt_cmpR op_ge (pv 1) (pe_callB call_len_seq (by rfl) T.len PySem.boot_len (pa_cons (pe_fld (pe_fld (pv 0) (by rfl)) (by rfl)) pa_nil)) (nomark _)) (pss_one (ps_ret (pe_lst (pa_cons (pe_con c4 (by rfl)) pa_nil)))) pss_nil)
      (pss_cons (ps_if (pt_cmp (pc_dnotin hu (pv 1) (pe_fld (pv 0) (by rfl)))) (pss_one (ps_ret (pe_lst (pa_cons (pe_con c3 (by rfl)) pa_nil)))) pss_nil)
      (pss_cons (ps_set (i := 2) nd rfl (Or.inl rfl) (pe_dpop1 (pe_fld (pv 0) (by rfl)) (pv 1) ⟨by rfl, by rfl, by rfl, by rfl⟩))
      (pss_one (ps_ret (pe_lst (pa_cons (pe_callB call_len_seq (by rfl) T.len PySem.boot_len (pa_cons (pv 2) pa_nil)) pa_nil)))))), ?_⟩
    rw [show L2.start n_cancel [V.ref x, vi i] = [some (V.ref x), some (vi i), none] from rfl]
    obtain ⟨dx, a, ak, as, sl, td, rd, kt, kr, h1, h2, ⟨h3, h3'⟩, ⟨h4, h4', h4''⟩, h5, h5', h5''⟩ := hB.ex
    obtain ⟨dt, aj, ag, kj, ks, g1, _⟩ := h2.1.ex
    obtain ⟨bs, hbs, hPs⟩ := h2.1.sig
    walk_at "rd"
    refine ⟨_, _, _, h1, cb.cl, cb.na _ (by decide +kernel), _, rfl, a, rfl, _, _, _, g1, ct.cl, ct.na _ (by decide +kernel), _, rfl, as, rfl, _, .inl (SqL.of hbs), ?_⟩
    rw [List.length_map, Paired.len hPs]
    by_cases hi : b.track.signals.length ≤ i
    · rw [if_pos (decide_eq_true (by omega))]
      refine ⟨by show 1 ≤ sizeLine; decide, fun r hr => ?_⟩
      have e1 : Rail.step (some b) (.cancel i) = (some b, Rail.says (-4)) := by
        show (if b.track.signals.length ≤ i then _ else _) = _
        rw [if_pos hi]
      rw [e1] at D
      exact D.says hB hn (Same.refl H) hr rfl
    rw [if_neg (by rw [decide_eq_true_eq]; omega)]
    refine ⟨_, _, _, h1, cb.cl, cb.na _ (by decide +kernel), _, rfl, rd, rfl, _, DGet.k (k := .inl (i : Int)) h5', ?_⟩
    have e0 : Rail.step (some b) (.cancel i) = match b.route i with | none => (some b, Rail.says (-3)) | some r => (some ⟨b.track, b.turned, b.routes.filter fun (x : Rail.Route) => x.signal != i, b.trains⟩, Rail.says (r.way.length : Nat)) := by
      show (if b.track.signals.length ≤ i then _ else _) = _
      rw [if_neg hi]
      cases b.route i <;> rfl
    rcases rt_iff i h5'' with ⟨r, l, a1, a2, a3, a4, a5, ⟨cs, a6, a7⟩⟩ | ⟨a1, a2⟩
    rotate_left
    · rw [a2, if_pos (by rfl)]
      refine ⟨by show 1 ≤ sizeLine; decide, fun q hq => ?_⟩
      rw [e0, show b.route i = none from a1] at D
      exact D.says hB hn (Same.refl H) hq rfl
    rw [a4, if_neg (by simp)]
    rw [e0, show b.route i = some r from a1] at D
    refine ⟨_, _, _, h1, cb.cl, cb.na _ (by decide +kernel), _, rfl, rd, rfl, .inl ⟨kr, .inl h5'⟩, kr, h5', .inl (i : Int), rfl, V.ref l, a4, ?_⟩
    have bt := upd_but (H := H) (o := .dK (dropK kr (.inl (i : Int)))) h5
    have gl : upd H rd (.dK (dropK kr (.inl (i : Int)))) l = some (.lst (cs.map V.ref)) := bt _ _ a6 (fun r e => by rw [a5] at e; cases e; intro z; cases z)
    refine ⟨l, rfl, _, .inl (SqL.of gl), by show 1 ≤ sizeLine; decide, fun q hq => ?_⟩
    rw [List.length_map, Paired.len a7]
    have hq' := new_upd h5' hq
    have s3 := same_new (o := .lst [V.int (r.way.length : Int)]) hq
    have hB2 := hB.drop i h1 h2 h3 h3' h4 h4' h4'' h5 h5''
    exact D _ ρ q ((hB2.mono s3).more (by omega) hn) (Keep.trans bt.keep (Same.keep s3)) (Ext.refl _ _) ((bt.out (by intro z; cases z)).trans (Same.out s3)) hq' (hB.own.new hq') upd_same
end
end Sb
namespace Sb
open PySem PySem.Spec PyProof.Rows L2
/-! ### put -/
theorem count_eq {C : Addr} {ρ : Rho} {H : Hp} {kt : List (Key × V)} {ts : List (Option Rail.Train)} (h : TrainsAt C ρ H kt ts) : kt.length = ((List.range ts.length).filter fun k => ((ts[k]?).getD none).isSome).length := by
  have e1 : kt.length = (kt.map (·.1)).length := by rw [List.length_map]
  have e2 : ((List.range ts.length).filter fun k => ((ts[k]?).getD none).isSome).length = (((List.range ts.length).filter fun k => ((ts[k]?).getD none).isSome).map fun k : Nat => (Sum.inl (k : Int) : Key)).length := by rw [List.length_map]
  rw [e1, e2]
  refine List.Perm.length_eq ((List.perm_ext_iff_of_nodup h.nodup ?_).mpr fun q => ?_)
  · exact List.Pairwise.map (R := (· ≠ ·)) (S := (· ≠ ·)) _ (fun a b h e => h (Int.ofNat.inj (Sum.inl.inj e))) (List.Pairwise.filter _ List.nodup_range)
  · constructor
    · intro m
      obtain ⟨kv, hm, rfl⟩ := List.mem_map.mp m
      obtain ⟨k, p, t, e, q1, q2⟩ := h.keys kv hm
      subst e
      refine List.mem_map.mpr ⟨k, List.mem_filter.mpr ⟨List.mem_range.mpr (List.getElem?_eq_some_iff.mp q1).1, ?_⟩, rfl⟩
      rw [q1]
      rfl
    · intro m
      obtain ⟨k, hm, rfl⟩ := List.mem_map.mp m
      obtain ⟨m1, m2⟩ := List.mem_filter.mp hm
      have hk := List.mem_range.mp m1
      cases e : ts[k]? with
      | none => rw [e] at m2; cases m2
      | some o =>
        cases o with
        | none => rw [e] at m2; cases m2
        | some t =>
          obtain ⟨p, hp⟩ := h.has k t e
          exact List.mem_map.mpr ⟨_, hp, rfl⟩
theorem full_iff {C : Addr} {ρ : Rho} {H : Hp} {kt : List (Key × V)} {ts : List (Option Rail.Train)} (h : TrainsAt C ρ H kt ts) : kt.length = ts.length ↔ ts.findIdx? (fun o => o.isNone) = none := by
  rw [count_eq h, List.findIdx?_eq_none_iff]
  constructor
  · intro e o ho
    obtain ⟨k, hk, rfl⟩ := List.getElem_of_mem ho
    have e2 : ((List.range ts.length).filter fun k => ((ts[k]?).getD none).isSome).length = (List.range ts.length).length := by rw [List.length_range]; exact e
    have := List.length_filter_eq_length_iff.mp e2 k (List.mem_range.mpr hk)
    rw [List.getElem?_eq_getElem hk] at this
    have this : ts[k].isSome = true := this
    cases q : ts[k] with
    | none => rw [q] at this; cases this
    | some t => rfl
  · intro e
    rw [List.filter_eq_self.mpr fun k hk => ?_, List.length_range]
    have hk := List.mem_range.mp hk
    have := e ts[k] (List.getElem_mem hk)
    rw [List.getElem?_eq_getElem hk]
    show ts[k].isSome = true
    cases q : ts[k] with
    | none => rw [q] at this; cases this
    | some t => rfl
theorem least_of {C : Addr} {ρ : Rho} {H : Hp} {kt : List (Key × V)} {ts : List (Option Rail.Train)} (h : TrainsAt C ρ H kt ts) (hf : ¬ kt.length = ts.length) :
    ∃ m : Nat, valV kt (.inl (m : Int)) = none ∧ ∀ k : Nat, valV kt (.inl (k : Int)) = none → (∀ j, j < k → valV kt (.inl ((j : Nat) : Int)) ≠ none) → ts.findIdx? (fun o => o.isNone) = some k ∧ ts[k]? = some none := by
  cases e : ts.findIdx? (fun o => o.isNone) with
  | none => exact absurd ((full_iff h).mpr e) hf
  | some m =>
    obtain ⟨hm, e1, e2⟩ := List.findIdx?_eq_some_iff_getElem.mp e
    have em : ts[m]? = some none := by
      rw [List.getElem?_eq_getElem hm]
      cases q : ts[m] with
      | none => rfl
      | some t => rw [q] at e1; cases e1
    have vm : valV kt (.inl (m : Int)) = none := by
      rcases val_iff h m with ⟨p, t, _, q, _⟩ | ⟨q, _⟩
      · rw [em] at q
        cases q
      · exact q
    refine ⟨m, vm, fun k hk hall => ?_⟩
    have hkm : k = m := by
      rcases Nat.lt_trichotomy k m with l | l | l
      · have lk : k < ts.length := by omega
        have := e2 k l
        rcases val_iff h k with ⟨p, t, q, _⟩ | ⟨_, q⟩
        · rw [hk] at q
          cases q
        · cases z : ts[k] with
          | none => rw [z] at this; exact absurd rfl this
          | some t => exact absurd (by rw [List.getElem?_eq_getElem lk, z]) (q t)
      · exact l
      · exact absurd vm (hall m l)
    subst hkm
    exact ⟨rfl, em⟩
def spPut (c : Ad) : Sp := fun vs H Q _ => ∃ (x : Addr) (n : Nat) (ρ : Rho) (b : Rail.Box) (s e : Nat), vs = [.ref x, vi s, vi e] ∧ BoxAt c n ρ H x b ∧ n + 17 ≤ 1000000 ∧ Done c n ρ H x (Rail.step (some b) (.put s e)) Q
theorem isEnd_has {t : Rail.Track} (s e : Nat) : hasEnd (t.points.map fun b => b.toNat) s e = t.isEnd ⟨s, e⟩ := by
  unfold hasEnd Rail.Track.isEnd
  rw [List.length_map]
  show _ = (match t.points[s]? with | some p => decide (e < if p = true then 3 else 2) | none => false)
  by_cases h : s < t.points.length
  · rw [decide_eq_true h, Bool.true_and, at_lt h false]
    have : (t.points.map fun b => b.toNat).getD s 0 = (t.points.getD s false).toNat := by
      rw [List.getD_eq_getElem?_getD, List.getElem?_map, at_lt h false]
      rfl
    rw [this]
    cases t.points.getD s false <;> rfl
  · rw [decide_eq_false h, List.getElem?_eq_none (by omega)]
    rfl
theorem oend_out (b : Rail.Box) (s e : Nat) : oend (b.track.points.getD s false) e ((b.turned.getD s false).toNat == 1) = Rail.outOf b s e := by
  unfold oend Rail.outOf
  cases b.turned.getD s false <;> rfl
section
variable {P : Program} {w : World} {K : PySem.W.Frag} {mg : Str → Option Value} {base : Heap}
theorem ok_put {f : Addr} {fd : FuncData} {c : Ad} (F : Fun K "put" "put" s_put f fd) (T : TxB mg) (cb : Tc K c.box bfs) (ct : Tc K c.track tfs) (c1 : ConI mg "NOT_ALLOWED" (-1)) (c5 : ConI mg "NOT_FREE" (-5)) (c3 : ConI mg "NOT_AS_THINGS_STAND" (-3)) (c6 : ConI mg "TRAINS_ALL_USED" (-6)) (c8 : ConI mg "MOST_TRAINS" 8)
    (G1 : Fn P w K mg base 1 "has_end" ["kinds", "section", "end"] (spHasEnd K)) (G2 : Fn P w K mg base 3 "is_free" ["box", "section"] (spIsFree c)) (G3 : Fn P w K mg base 3 "stands_for" ["box", "section", "end"] (spStandsFor c)) (G4 : Fn P w K mg base 1 "least_unused" ["numbered"] spLeast)
    (G5 : Fn P w K mg base 2 "other_end" ["track", "section", "end", "stance"] (spOtherEnd c.track)) (G6 : Cn P w K mg base 1 "Train" c.train ["self", "step"] (spTrainInit c.train)) : FnOk P w K mg base CX0 4 f fd ["box", "section", "end"] (spPut c) := by
  refine F.ok sc_put (fun vs H Q E h => ?_) (fun cdv A outer s0 H vs Q E hr h => ?_)
  · obtain ⟨x, n, ρ, b, s, e, rfl, _⟩ := h
    rfl
  · obtain ⟨x, n, ρ, b, s, e, rfl, hB, hn, D⟩ := h
    have nd := sc_put.nd
    have hu := hu_of hr
    have hr1 : Room 1 _ := hr.mono (by decide)
    have hr2 : Room 2 _ := hr.mono (by decide)
    refine ⟨_, pss_cons (ps_if (pt_not (pt_val (pe_fn G1 hr1 (pa_cons (pe_fld (pe_fld (pv 0) (by rfl)) (by rfl)) (pa_cons (pv 1) (pa_cons (pv 2) pa_nil)))))) (pss_one (ps_ret (pe_lst (pa_cons (pe_con c1 (by rfl)) pa_nil)))) pss_nil)
      (pss_cons (ps_if (pt_not (pt_val (pe_fn G2 hr (pa_cons (pv 0) (pa_cons (pv 1) pa_nil))))) (pss_one (ps_ret (pe_lst (pa_cons (pe_con c5 (by rfl)) pa_nil)))) pss_nil)
      (pss_cons (ps_if (pt_not (pt_val (pe_fn G3 hr (pa_cons (pv 0) (pa_cons (pv 1) (pa_cons (pv 2) pa_nil)))))) (pss_one (ps_ret (pe_lst (pa_cons (pe_con c3 (by rfl)) pa_nil)))) pss_nil)
      (pss_cons (ps_if (pt_cmpR op_eq (pe_callB call_lenD (by rfl) T.len PySem.boot_len (pa_cons (pe_fld (pv 0) (by rfl)) pa_nil)) (pe_con c8 (by rfl)) (nomark _)) (pss_one (ps_ret (pe_lst (pa_cons (pe_con c6 (by rfl)) pa_nil)))) pss_nil)
      (pss_cons (ps_set (i := 3) nd rfl (Or.inl rfl) (pe_fn G4 hr1 (pa_cons (pe_fld (pv 0) (by rfl)) pa_nil)))
      (pss_cons (ps_set (i := 4) nd rfl (Or.inl rfl) (pe_fn G5 hr2 (pa_cons (pe_fld (pv 0) (by rfl)) (pa_cons (pv 1) (pa_cons (pv 2) (pa_cons (pe_ix ix_list (pe_fld (pv 0) (by rfl)) (pv 1) (fun _ _ => rfl)) pa_nil))))))
      (pss_cons (ps_dput hu (pe_fld (pv 0) (by rfl)) (pv 3) (pe_new G6 hr2 (pa_cons (pe_tup (pa_cons (pv 1) (pa_cons (pv 4) (pa_cons (pv 2) pa_nil)))) pa_nil)) (by rfl))
      (pss_one (ps_ret (pe_lst (pa_cons (pv 3) pa_nil)))))))))), ?_⟩
    rw [show L2.start n_put [V.ref x, vi s, vi e] = [some (V.ref x), some (vi s), some (vi e), none, none] from rfl]
    obtain ⟨dx, a, ak, as, sl, td, rd, kt, kr, h1, h2, ⟨h3, h3'⟩, ⟨h4, h4', h4''⟩, h5, h5', h5''⟩ := hB.ex
    obtain ⟨dt, aj, ag, kj, ks, g1, _⟩ := h2.1.ex
    have hk := h2.1.kinds
    have hk2 : (b.track.points.map fun b => vi b.toNat) = (b.track.points.map fun b => b.toNat).map vi := by rw [List.map_map]; rfl
    walk_at "rd"
    refine ⟨_, _, _, h1, cb.cl, cb.na _ (by decide +kernel), _, rfl, a, rfl, _, _, _, g1, ct.cl, ct.na _ (by decide +kernel), _, rfl, ak, b.track.points.map (fun b => b.toNat), s, e, rfl, SqL.of (by rw [← hk2]; exact hk), _, rfl, ?_⟩
    rw [isEnd_has]
    have e0 : Rail.step (some b) (.put s e) = if b.track.isEnd ⟨s, e⟩ = false then (some b, Rail.says (-1)) else if b.free s = false then (some b, Rail.says (-5)) else
      if Rail.stands b ⟨s, Rail.outOf b s e, e⟩ = false then (some b, Rail.says (-3)) else match b.trains.findIdx? fun (o : Option Rail.Train) => o.isNone with
      | none => (some b, Rail.says (-6))
      | some k => (some (Rail.withTrain b k (some ⟨[⟨s, Rail.outOf b s e, e⟩], []⟩)), Rail.says (k : Nat)) := rfl
    cases he : b.track.isEnd ⟨s, e⟩ with
    | false =>
      rw [if_pos (by rfl)]
      refine ⟨by show 1 ≤ sizeLine; decide, fun r hr => ?_⟩
      rw [e0, he, if_pos rfl] at D
      exact D.says hB hn (Same.refl H) hr rfl
    | true =>
    rw [if_neg (by decide)]
    rw [e0, he, if_neg (by decide)] at D
    refine ⟨x, n, ρ, b, s, rfl, hB, fun H1 s1 => ⟨_, rfl, ?_⟩⟩
    cases hf : b.free s with
    | false =>
      rw [if_pos (by rfl)]
      refine ⟨by show 1 ≤ sizeLine; decide, fun r hr => ?_⟩
      rw [hf, if_pos rfl] at D
      exact D.says hB hn s1 hr rfl
    | true =>
    rw [if_neg (by decide)]
    rw [hf, if_neg (by decide)] at D
    have hB1 := hB.mono s1
    refine ⟨x, n, ρ, b, s, e, rfl, hB1, he, _, rfl, ?_⟩
    cases hs : Rail.stands b ⟨s, Rail.outOf b s e, e⟩ with
    | false =>
      rw [if_pos (by rfl)]
      refine ⟨by show 1 ≤ sizeLine; decide, fun r hr => ?_⟩
      rw [hs, if_pos rfl] at D
      exact D.says hB hn s1 hr rfl
    | true =>
    rw [if_neg (by decide)]
    rw [hs, if_neg (by decide)] at D
    have h8 := hB.wf.eight
    refine ⟨_, _, _, s1 _ _ h1, cb.cl, cb.na _ (by decide +kernel), _, rfl, td, rfl, kt, s1 _ _ h4', ?_⟩
    by_cases hl : kt.length = 8
    · rw [if_pos (by rw [hl]; rfl)]
      refine ⟨by show 1 ≤ sizeLine; decide, fun r hr => ?_⟩
      rw [(full_iff h4'').mp (by rw [hl, h8])] at D
      exact D.says hB hn s1 hr rfl
    rw [if_neg (by rw [decide_eq_true_eq]; omega)]
    obtain ⟨m, vm, hm⟩ := least_of h4'' (by rw [h8]; exact hl)
    refine ⟨_, _, _, s1 _ _ h1, cb.cl, cb.na _ (by decide +kernel), _, rfl, td, kt, m, rfl, s1 _ _ h4', vm, fun k vk hall => ?_⟩
    obtain ⟨ek, tk⟩ := hm k vk hall
    rw [ek] at D
    obtain ⟨hs1, hs2, hs3⟩ := isEnd_lt he
    have hst := hB.wf.stances
    have hz : (b.turned.map fun z => vi z.toNat)[s]? = some (vi (b.turned.getD s false).toNat) := by
      rw [List.getElem?_map, at_lt (show s < b.turned.length by omega) false]
      rfl
    refine ⟨_, _, _, s1 _ _ h1, cb.cl, cb.na _ (by decide +kernel), _, rfl, _, _, _, s1 _ _ h1, cb.cl, cb.na _ (by decide +kernel), _, rfl, sl, rfl, _, SqL.of (s1 _ _ h3'), _, atI_nat hz, ?_⟩
    refine ⟨a, ak, as, b.track, s, e, _, rfl, h2.1.mono s1, hs1, hs2, by show 3 ≤ sizeLine; decide, fun T hT p dp hp hdp hne => ?_⟩
    rw [oend_out] at hp hdp ⊢
    generalize hX : Rail.Step.mk s (Rail.outOf b s e) e = X at D
    have sT := same_new (o := .tup [vi s, vi (Rail.outOf b s e), vi e]) hT
    have sN : Same (upd H1 T (.tup [vi s, vi (Rail.outOf b s e), vi e])) (upd (upd (upd H1 T (.tup [vi s, vi (Rail.outOf b s e), vi e])) dp (.own p)) p (.ins c.train dp [])) := (same_new hdp).trans (same_new (by rw [upd_ne hne.symm]; exact hp))
    refine ⟨p, dp, V.ref T, rfl, upd_same, fun H4 ls lg q1 q2 q3 q4 q5 q6 q7 q8 q9 => ⟨rfl, ?_⟩⟩
    have s24 : Same (upd H1 T (.tup [vi s, vi (Rail.outOf b s e), vi e])) H4 := fun z o hz => q2 z o (sN _ _ hz) (ne_of_none hz hp)
    have s14 : Same H1 H4 := sT.trans s24
    have s04 : Same H H4 := s1.trans s14
    have fp : H p = none := (s1.trans sT).free hp
    have fls : H ls = none := ((s1.trans sT).trans sN).free q3
    have flg : H lg = none := ((s1.trans sT).trans sN).free q4
    have hT4 : StepAt H4 T X := by
      rw [← hX]
      exact s24 _ _ upd_same
    walk_at "rd"
    refine ⟨_, _, _, s04 _ _ h1, cb.cl, cb.na _ (by decide +kernel), _, rfl, td, rfl, _, DPut.k (k := .inl (k : Int)) (s04 _ _ h4') (by rw [sizeLine_eq, count_eq h4'']; exact Nat.lt_of_le_of_lt (List.length_filter_le _ _) (by rw [List.length_range, h8]; decide)), by show 1 ≤ sizeLine; decide, fun r hr => ?_⟩
    have hB4 := hB.mono s04
    rw [putK_new _ vk] at hr ⊢
    have bt := upd_but (H := H4) (o := .dK (kt ++ [(.inl (k : Int), V.ref p)])) h4
    generalize hH5 : upd H4 td (.dK (kt ++ [(.inl (k : Int), V.ref p)])) = H5 at hr bt ⊢
    have t5 : H5 td = some (.dK (kt ++ [(.inl (k : Int), V.ref p)])) := by rw [← hH5]; exact upd_same
    have f5 : ∀ z o, H4 z = some o → z ≠ td → H5 z = some o := fun z o hz hzt => by rw [← hH5, upd_ne hzt]; exact hz
    have rp : ρ p = none := hB.own.new fp
    have rls : ρ ls = none := hB.own.new fls
    have rlg : ρ lg = none := hB.own.new flg
    have p5 : H5 p = some (.ins c.train dp (nf ls lg)) := f5 _ _ q1 fun z => by rw [z, h4] at rp; cases rp
    have ls5 : H5 ls = some (.lst [V.ref T]) := f5 _ _ q8 fun z => by rw [z, h4] at rls; cases rls
    have lg5 : H5 lg = some (.lst []) := f5 _ _ q9 fun z => by rw [z, h4] at rlg; cases rlg
    have T5 : StepAt H5 T X := f5 _ _ hT4 (ne_of hT4 (s04 _ _ h4') (by intro z; cases z))
    have lsp : ls ≠ p := q6
    have lgp : lg ≠ p := q7
    obtain ⟨R, eR⟩ : ∃ R : Rho, R = fun z => if z = p then some (Role.train k) else if z = ls then some (.on k) else if z = lg then some (.ahead k) else ρ z := ⟨_, rfl⟩
    have R_p : R p = some (.train k) := by rw [eR]; exact if_pos rfl
    have R_ls : R ls = some (.on k) := by rw [eR]; dsimp only; rw [if_neg lsp, if_pos rfl]
    have R_lg : R lg = some (.ahead k) := by rw [eR]; dsimp only; rw [if_neg lgp, if_neg q5.symm, if_pos rfl]
    have R_o : ∀ z o, H z = some o → R z = ρ z := fun z o hz => by rw [eR]; dsimp only; rw [if_neg (ne_of_none hz fp), if_neg (ne_of_none hz fls), if_neg (ne_of_none hz flg)]
    have R_b : ∀ z q, ρ z = some q → R z = some q := fun z q hz => by
      obtain ⟨o, ho, _⟩ := hB.own z q hz
      rw [R_o z o ho]
      exact hz
    have rb : RBut (· = Role.trains) ρ R := fun z q hz _ => R_b z q hz
    have ext : Ext ρ R H := fun z o hz nz => by rw [R_o z o hz]; exact nz
    have kp4 : Keep ρ H H5 := fun z o hz nz => bt.keep _ _ (s04 _ _ hz) nz
    have own5 : Own c R H5 := by
      intro z q hz
      by_cases z1 : z = p
      · subst z1
        rw [R_p] at hz
        cases hz
        exact ⟨_, p5, _, _, rfl⟩
      by_cases z2 : z = ls
      · subst z2
        rw [R_ls] at hz
        cases hz
        exact ⟨_, ls5, _, rfl⟩
      by_cases z3 : z = lg
      · subst z3
        rw [R_lg] at hz
        cases hz
        exact ⟨_, lg5, _, rfl⟩
      have : ρ z = some q := by
        rw [eR] at hz
        dsimp only at hz
        rw [if_neg z1, if_neg z2, if_neg z3] at hz
        exact hz
      rw [← hH5]
      exact own_upd hB4.own h4 ⟨_, rfl⟩ z q this
    have hB5 : BoxAt c (n + 17) R H5 x (Rail.withTrain b k (some ⟨[X], []⟩)) := by
      have kl := (List.getElem?_eq_some_iff.mp tk).1
      refine ⟨own5, ⟨hB.wf.stances, by show (b.trains.set k _).length = 8; rw [List.length_set]; exact h8, fun k' t' ht' => ?_, hB.wf.ways, Nat.le_trans hB.wf.few (by omega)⟩, hn, R_b _ _ hB.me, dx, a, ak, as, sl, td, rd, _, kr, bt _ _ (s04 _ _ h1) (fun r e => by rw [hB.me] at e; cases e; decide),
        TrackIn.move h2 hB.own kp4 ext, ⟨R_b _ _ h3, bt _ _ (s04 _ _ h3') (fun r e => by rw [h3] at e; cases e; decide)⟩, ⟨R_b _ _ h4, t5, ?_, fun kv m => ?_, fun k' t' ht' => ?_⟩, R_b _ _ h5, bt _ _ (s04 _ _ h5') (fun r e => by rw [h5] at e; cases e; decide),
        Paired.mono (fun _ _ q => (RouteAt.mono s04 q).move bt rb hB4.own (by intro z; cases z)) h5''⟩
      · have ht' : (b.trains.set k (some ⟨[X], []⟩))[k']? = some (some t') := ht'
        by_cases e1 : k' = k
        · rw [e1, List.getElem?_set_self kl] at ht'
          cases ht'
          exact ⟨(by intro z; cases z), (by show 1 + 0 ≤ n + 17; omega)⟩
        · rw [List.getElem?_set_ne (fun z => e1 z.symm)] at ht'
          obtain ⟨w1, w2⟩ := hB.wf.steps k' t' ht'
          exact ⟨w1, by omega⟩
      · rw [List.map_append]
        exact nd_snoc h4''.nodup (valV_not vk)
      · rcases List.mem_append.mp m with m | m
        · obtain ⟨k', p', t', e, z1, z2⟩ := h4''.keys kv m
          subst e
          refine ⟨k', p', t', rfl, ?_, (z2.mono s04).move bt rb hB4.own (by intro z; cases z) (by intro z; cases z) (by intro z; cases z)⟩
          show (b.trains.set k _)[k']? = _
          rw [List.getElem?_set_ne (fun z => by rw [z, z1] at tk; cases tk)]
          exact z1
        · rw [List.mem_singleton] at m
          subst m
          refine ⟨k, p, ⟨[X], []⟩, rfl, ?_, dp, ls, lg, p5, R_p, R_ls, ⟨[T], ls5, .cons T5 .nil⟩, R_lg, ⟨[], lg5, .nil⟩⟩
          show (b.trains.set k _)[k]? = _
          rw [List.getElem?_set_self kl]
      · have ht' : (b.trains.set k (some ⟨[X], []⟩))[k']? = some (some t') := ht'
        by_cases e1 : k' = k
        · rw [e1]
          exact ⟨p, List.mem_append_right _ (List.mem_singleton.mpr rfl)⟩
        · rw [List.getElem?_set_ne (fun z => e1 z.symm)] at ht'
          obtain ⟨p', hp'⟩ := h4''.has k' t' ht'
          exact ⟨p', List.mem_append_left _ hp'⟩
    have s56 := same_new (o := .lst [V.int (k : Int)]) hr
    have r4 : H4 r = none := by
      rw [← hH5] at hr
      exact new_upd (s04 _ _ h4') hr
    have nrp : r ≠ p := fun z => by rw [z, q1] at r4; cases r4
    have nrls : r ≠ ls := fun z => by rw [z, q8] at r4; cases r4
    have nrlg : r ≠ lg := fun z => by rw [z, q9] at r4; cases r4
    have r0 := s04.free r4
    refine D _ R r (hB5.mono s56) (Keep.trans kp4 (Same.keep s56)) ext ⟨fun z o hz nz => s56 _ _ (bt _ _ (s04 _ _ hz) (fun r e => by rw [nz] at e; cases e; intro q; cases q)), fun z hz => R_b z _ hz⟩ r0 ?_ upd_same
    rw [eR]
    dsimp only
    rw [if_neg nrp, if_neg nrls, if_neg nrlg]
    exact hB.own.new r0
end
end Sb
namespace Sb
open PySem PySem.Spec PyProof.Rows L2
/-! ### front -/
def spFront (c : Ad) : Sp := fun vs H Q _ => ∃ (x : Addr) (n : Nat) (ρ : Rho) (b : Rail.Box) (k : Nat), vs = [.ref x, vi k] ∧ BoxAt c n ρ H x b ∧ n + 17 ≤ 1000000 ∧ Done c n ρ H x (Rail.step (some b) (.front k)) Q
/-- a train k whose next step is given: what stands where -/
structure Going (c : Ad) (n : Nat) (ρ : Rho) (H : Hp) (x p : Addr) (k : Nat) (b : Rail.Box) (on r : List Rail.Step) (X : Rail.Step) : Prop where
  box : BoxAt c n ρ H x b
  tr : b.trains[k]? = some (some ⟨on, X :: r⟩)
  at_ : ∃ dx a sl td rd kt, H x = some (.ins c.box dx (bf (.ref a) sl td rd)) ∧ H td = some (.dK kt) ∧ valV kt (.inl (k : Int)) = some (.ref p)
theorem set_none {α : Type} {l : List α} {k k' : Nat} {a b : α} (h : (l.set k a)[k']? = some b) : (k' = k ∧ b = a) ∨ (k' ≠ k ∧ l[k']? = some b) := by
  by_cases e : k' = k
  · subst e
    by_cases hl : k' < l.length
    · rw [List.getElem?_set_self hl] at h
      exact .inl ⟨rfl, (Option.some.inj h).symm⟩
    · rw [List.getElem?_eq_none (by rw [List.length_set]; omega)] at h
      cases h
  · rw [List.getElem?_set_ne (fun z => e z.symm)] at h
    exact .inr ⟨e, h⟩
theorem valV_mem {κ : Type} [DecidableEq κ] {k : κ} {v : V} : ∀ {l : List (κ × V)}, (l.map (·.1)).Nodup → (k, v) ∈ l → valV l k = some v
  | [], _, m => by cases m
  | q :: r, hn, m => by
    have hn : (q.1 :: r.map (·.1)).Nodup := hn
    obtain ⟨n1, n2⟩ := List.nodup_cons.mp hn
    rcases List.mem_cons.mp m with e | m
    · subst e
      exact valV_pos rfl
    · have : ¬ q.1 = k := fun e => n1 (by rw [e]; exact List.mem_map.mpr ⟨_, m, rfl⟩)
      rw [valV_neg this]
      exact valV_mem n2 m
theorem seq0 {n : Nat} (h : 0 < n) : seqIndex? 0 n = some 0 := (ixN_seq (n := n) (i := 0) (j := 0) (by
  unfold ixN
  rw [if_pos (by omega), if_pos (by omega)]
  rfl)).1
theorem Keep.ext {ρ ρ' : Rho} {H H1 H2 : Hp} (a : Keep ρ H H1) (x : Ext ρ ρ' H) (b : Keep ρ' H1 H2) : Keep ρ H H2 := fun z o h n => b z o (a z o h n) (x z o h n)
/-- another train in k's place, its instance and lists in the heap H' -/
theorem BoxAt.retrain {c : Ad} {n m : Nat} {ρ ρ' : Rho} {H H' : Hp} {x : Addr} {b : Rail.Box} (hB : BoxAt c n ρ H x b) {rs : Role → Prop} (bt : But rs ρ H H') (rb : RBut rs ρ ρ') (ext : Ext ρ ρ' H) (own' : Own c ρ' H') (k : Nat) (p : Addr) (t t' : Rail.Train)
    (hrs : ∀ r, rs r → (r = .train k ∨ r = .on k ∨ r = .ahead k) ∨ ∃ i, r = .route i ∧ ∀ q ∈ b.routes, q.signal ≠ i) (ht : b.trains[k]? = some (some t)) {dx a ak as sl td rd : Addr} {kt kr : List (Key × V)} (h1 : H x = some (.ins c.box dx (bf (.ref a) sl td rd))) (h2 : TrackIn c ρ H a ak as b.track)
    (h3 : ρ sl = some .stances) (h3' : H sl = some (.lst (b.turned.map fun z => vi z.toNat))) (h4 : ρ td = some .trains) (h4' : H td = some (.dK kt)) (h4'' : TrainsAt c.train ρ H kt b.trains) (h5 : ρ rd = some .routes) (h5' : H rd = some (.dK kr)) (h5'' : Paired (RouteAt ρ H) kr b.routes)
    (ev : valV kt (.inl (k : Int)) = some (.ref p)) (hT : TrainAt c.train ρ' H' k p t') (hne : t'.on ≠ []) (hln : t'.on.length + t'.ahead.length ≤ m) (hnm : n ≤ m) (hm : m ≤ 1000000) : BoxAt c m ρ' H' x (Rail.withTrain b k (some t')) := by
  have kl := (List.getElem?_eq_some_iff.mp ht).1
  have nr : ∀ r, ¬ (r = .train k ∨ r = .on k ∨ r = .ahead k) → (∀ i, r ≠ .route i) → ¬ rs r := fun r h h' z => (hrs r z).elim h fun ⟨i, e, _⟩ => h' i e
  have nq : ∀ q ∈ b.routes, ¬ rs (.route q.signal) := fun q hq z => by
    rcases hrs _ z with e | ⟨i, e, h⟩
    · rcases e with e | e | e <;> cases e
    · cases e
      exact h q hq rfl
  have stay : ∀ z o r, H z = some o → ρ z = some r → ¬ (r = .train k ∨ r = .on k ∨ r = .ahead k) → (∀ i, r ≠ .route i) → H' z = some o ∧ ρ' z = some r := fun z o r hz hr hn hi => ⟨bt _ _ hz fun r' e => (by rw [hr] at e; cases e; exact nr r hn hi), rb _ _ hr (nr r hn hi)⟩
  obtain ⟨x1, x2⟩ := stay _ _ _ h1 hB.me (by simp) (by simp)
  obtain ⟨s1, s2⟩ := stay _ _ _ h3' h3 (by simp) (by simp)
  obtain ⟨t1, t2⟩ := stay _ _ _ h4' h4 (by simp) (by simp)
  obtain ⟨r1, r2⟩ := stay _ _ _ h5' h5 (by simp) (by simp)
  refine ⟨own', ⟨hB.wf.stances, by show (b.trains.set k _).length = 8; rw [List.length_set]; exact hB.wf.eight, fun k' t1 ht1 => ?_, hB.wf.ways, Nat.le_trans hB.wf.few hnm⟩, hm, x2, dx, a, ak, as, sl, td, rd, kt, kr, x1, TrackIn.move h2 hB.own bt.keep ext, ⟨s2, s1⟩, ⟨t2, t1, h4''.nodup, fun kv mm => ?_, fun k' t1 ht1 => ?_⟩, r2, r1, Paired.monoR h5'' (fun _ q hq z => z.move bt rb hB.own (nq q hq))⟩
  · rcases set_none ht1 with ⟨e1, e2⟩ | ⟨e1, e2⟩
    · cases e2
      exact ⟨hne, hln⟩
    · obtain ⟨w1, w2⟩ := hB.wf.steps k' t1 e2
      exact ⟨w1, by omega⟩
  · obtain ⟨k', p', t1, e, z1, z2⟩ := h4''.keys kv mm
    by_cases e1 : k' = k
    · subst e1
      have hv : valV kt (.inl (k' : Int)) = some (.ref p') := by
        subst e
        exact valV_mem h4''.nodup mm
      rw [ev] at hv
      cases hv
      refine ⟨k', p, t', e, ?_, hT⟩
      show (b.trains.set k' _)[k']? = _
      rw [List.getElem?_set_self kl]
    · refine ⟨k', p', t1, e, ?_, z2.move bt rb hB.own (nr _ (by simpa using e1) (by simp)) (nr _ (by simpa using e1) (by simp)) (nr _ (by simpa using e1) (by simp))⟩
      show (b.trains.set k _)[k']? = _
      rw [List.getElem?_set_ne (fun z => e1 z.symm)]
      exact z1
  · rcases set_none ht1 with ⟨e1, e2⟩ | ⟨e1, e2⟩
    · rw [e1]
      exact h4''.has k t ht
    · exact h4''.has k' t1 e2
section
variable {P : Program} {w : World} {K : PySem.W.Frag} {mg : Str → Option Value} {base : Heap}
theorem ok_front {f : Addr} {fd : FuncData} {c : Ad} (F : Fun K "front" "front" s_front f fd) (T : TxB mg) (cb : Tc K c.box bfs) (ct : Tc K c.track tfs) (cn : Tc K c.train nfs) (c4 : ConI mg "NO_SUCH" (-4)) (c3 : ConI mg "NOT_AS_THINGS_STAND" (-3)) (c5 : ConI mg "SAYS_STOP" (-5)) : FnOk P w K mg base CX0 1 f fd ["box", "number"] (spFront c) := by
  refine F.ok sc_front (fun vs H Q E h => ?_) (fun cdv A outer s0 H vs Q E hr h => ?_)
  · obtain ⟨x, n, ρ, b, k, rfl, _⟩ := h
    rfl
  · obtain ⟨x, n, ρ, b, k, rfl, hB, hn, D⟩ := h
    have nd := sc_front.nd
    have hu := hu_of hr
    refine ⟨_, pss_cons (ps_if (pt_cmp (pc_dnotin hu (pv 1) (pe_fld (pv 0) (by rfl)))) (pss_one (ps_ret (pe_lst (pa_cons (pe_con c4 (by rfl)) pa_nil)))) pss_nil)
      (pss_cons (ps_set (i := 2) nd rfl (Or.inl rfl) (pe_dget hu (pe_fld (pv 0) (by rfl)) (pv 1) (fun _ _ => rfl)))
      (pss_cut (ps_if (pt_cmpR op_eq (pe_callB call_len_seq (by rfl) T.len PySem.boot_len (pa_cons (pe_fld (pv 2) (by rfl)) pa_nil)) pe_int (nomark _))
          (pss_cons (ps_set (i := 3) nd rfl (Or.inl rfl) (pe_tup (pa_cons (pe_ix ix_tup (pe_ix ix_list (pe_fld (pv 2) (by rfl)) pe_int (fun _ _ => rfl)) pe_int (fun _ _ => rfl)) (pa_cons (pe_ix ix_tup (pe_ix ix_list (pe_fld (pv 2) (by rfl)) pe_int (fun _ _ => rfl)) pe_int (fun _ _ => rfl)) pa_nil))))
          (pss_cons (ps_if (pt_cmp (pc_dnotin hu (pv 3) (pe_fld (pe_fld (pv 0) (by rfl)) (by rfl)))) (pss_one (ps_ret (pe_lst (pa_cons (pe_con c3 (by rfl)) pa_nil)))) pss_nil)
          (pss_cons (ps_set (i := 4) nd rfl (Or.inl rfl) (pe_dget hu (pe_fld (pe_fld (pv 0) (by rfl)) (by rfl)) (pv 3) (fun _ _ => rfl)))
          (pss_cons (ps_if (pt_cmp (pc_dnotin hu (pv 4) (pe_fld (pv 0) (by rfl)))) (pss_one (ps_ret (pe_lst (pa_cons (pe_con c5 (by rfl)) pa_nil)))) pss_nil)
          (pss_one (ps_fld (pv 2) (pe_dpop1 (pe_fld (pv 0) (by rfl)) (pv 4) ⟨by rfl, by rfl, by rfl, by rfl⟩) (by rfl))))))) pss_nil)
      (pss_cons (ps_set (i := 5) nd rfl (Or.inl rfl) (pe_bm PySem.F.plainAttrs_list PySem.F.slot_list_pop PySem.F.type_list_pop mt_popAt (pe_fld (pv 2) (by rfl)) (pa_cons pe_int pa_nil)))
      (pss_cons (ps_expr (pe_bm PySem.F.plainAttrs_list PySem.F.slot_list_insert PySem.F.type_list_insert mt_insert0 (pe_fld (pv 2) (by rfl)) (pa_cons pe_int (pa_cons (pv 5) pa_nil))))
      (pss_one (ps_ret (pe_lst (pa_cons (pe_ix ix_tup (pv 5) pe_int (fun _ _ => rfl)) pa_nil)))))))), ?_⟩
    rw [show L2.start n_front [V.ref x, vi k] = [some (V.ref x), some (vi k), none, none, none, none] from rfl]
    obtain ⟨dx, a, ak, as, sl, td, rd, kt, kr, h1, h2, ⟨h3, h3'⟩, ⟨h4, h4', h4''⟩, h5, h5', h5''⟩ := hB.ex
    walk_at "rd"
    refine ⟨_, _, _, h1, cb.cl, cb.na _ (by decide +kernel), _, rfl, td, rfl, _, DGet.k (k := .inl (k : Int)) h4', ?_⟩
    rcases val_iff h4'' k with ⟨p, t, ev, ht, hT⟩ | ⟨ev, hno⟩
    rotate_left
    · rw [ev, if_pos (by rfl)]
      refine ⟨by show 1 ≤ sizeLine; decide, fun r hr => ?_⟩
      have e1 : Rail.step (some b) (.front k) = (some b, Rail.says (-4)) := by
        show (match b.train k with | none => _ | some t => _) = _
        rw [train_none hno]
      rw [e1] at D
      exact D.says hB hn (Same.refl H) hr rfl
    rw [ev, if_neg (by simp)]
    have hw := hB.wf.steps k t ht
    refine ⟨_, _, _, h1, cb.cl, cb.na _ (by decide +kernel), _, rfl, td, rfl, V.ref p, by rw [← ev]; exact DGet.k (k := .inl (k : Int)) h4', ?_⟩
    obtain ⟨M, eM⟩ : ∃ M : L2.St → Hp → Prop, M = fun σ' H' => ∃ (ρ' : Rho) (b' : Rail.Box) (v3 v4 : Option V) (on r : List Rail.Step) (X : Rail.Step), σ' = [some (.ref x), some (vi k), some (.ref p), v3, v4, none] ∧ Going c (n + 16) ρ' H' x p k b' on r X ∧ Keep ρ H H' ∧ Ext ρ ρ' H ∧ Live H H' ∧ Out ρ ρ' H H' ∧
      Rail.step (some b) (.front k) = (some (Rail.withTrain b' k (some ⟨X :: on, r⟩)), Rail.says (X.section_ : Nat)) := ⟨_, rfl⟩
    have e0 : Rail.step (some b) (.front k) = match t.ahead with
      | x :: r => (some (Rail.withTrain b k (some ⟨x :: t.on, r⟩)), Rail.says (x.section_ : Nat))
      | [] => match t.on with
        | [] => (some b, Rail.says (-3))
        | y :: _ => match b.track.signalAt y.exit with
          | none => (some b, Rail.says (-3))
          | some i => match b.route i with
            | none => (some b, Rail.says (-5))
            | some r => match r.way with
              | [] => (some b, Rail.says (-5))
              | x :: w => (some (Rail.withTrain ⟨b.track, b.turned, b.routes.filter fun (z : Rail.Route) => z.signal != i, b.trains⟩ k (some ⟨x :: t.on, w⟩)), Rail.says (x.section_ : Nat)) := by
      show (match b.train k with | none => _ | some t => _) = _
      rw [train_of ht]
      rfl
    refine ⟨M, ?_, ?_⟩
    · obtain ⟨dp, ls, lg, g1, g2, g3, ⟨bs, g4, g4'⟩, g5, ⟨cs, g6, g6'⟩⟩ := hT.ex
      have hlen := Paired.len g6'
      walk_at "rd"
      refine ⟨_, _, _, g1, cn.cl, cn.na _ (by decide +kernel), _, rfl, lg, rfl, _, .inl (SqL.of g6), ?_⟩
      rw [List.length_map]
      cases ea : t.ahead with
      | cons X r =>
        rw [ea] at hlen e0
        rw [if_neg (by rw [decide_eq_true_eq, hlen, List.length_cons]; omega), eM]
        refine ⟨ρ, b, none, none, t.on, r, X, rfl, ⟨hB.more (by omega) (by omega), ?_, dx, a, sl, td, rd, kt, h1, h4', ev⟩, fun _ _ h _ => h, Ext.refl _ _, fun _ h => h, Same.out (Same.refl _), e0⟩
        rw [ht]
        obtain ⟨on, ah⟩ := t
        have ea : ah = X :: r := ea
        rw [ea]
      | nil =>
      rw [ea] at hlen e0
      rw [if_pos (by rw [hlen]; rfl)]
      cases eo : t.on with
      | nil => exact absurd eo hw.1
      | cons y ys =>
      rw [eo] at e0 g4'
      cases g4' with
      | @cons c0 _ bs' _ hc0 hbs' =>
      have k0 : ((c0 :: bs').map V.ref)[0]? = some (V.ref c0) := rfl
      refine ⟨_, _, _, g1, cn.cl, cn.na _ (by decide +kernel), _, rfl, ls, rfl, _, SqL.of g4, _, atI_nat (j := 0) k0, c0, rfl, _, SqT.of hc0, _, atI_nat (j := 0) rfl, ?_⟩
      refine ⟨_, _, _, g1, cn.cl, cn.na _ (by decide +kernel), _, rfl, ls, rfl, _, SqL.of g4, _, atI_nat (j := 0) k0, c0, rfl, _, SqT.of hc0, _, atI_nat (j := 2) rfl, by show 2 ≤ sizeLine; decide, fun S hS => ?_⟩
      have sS := same_new (o := .tup [vi y.section_, vi y.out]) hS
      have hSp : SpotAt (upd H S (.tup [vi y.section_, vi y.out])) S y.exit := upd_same
      generalize upd H S (.tup [vi y.section_, vi y.out]) = H1 at sS hSp ⊢
      obtain ⟨dt, aj, ag, kj, ks, u1, u2, u3, u4, u5⟩ := (h2.1.mono sS).ex
      refine ⟨_, _, _, sS _ _ h1, cb.cl, cb.na _ (by decide +kernel), _, rfl, a, rfl, _, _, _, u1, ct.cl, ct.na _ (by decide +kernel), _, rfl, ag, rfl, _, DGet.t (k := key y.exit) u4 hSp, ?_⟩
      rw [u5]
      dsimp only at e0
      cases es : b.track.signalAt y.exit with
      | none =>
        rw [if_pos (by rfl)]
        refine ⟨by show 1 ≤ sizeLine; decide, fun q hq => ?_⟩
        rw [e0, es] at D
        exact D.says hB hn sS hq rfl
      | some i =>
      rw [es] at e0
      rw [if_neg (by simp)]
      have hv : DGet H1 ag (V.ref S) (some (vi i)) := by
        have z := DGet.t (k := key y.exit) u4 hSp
        rw [u5, es] at z
        exact z
      refine ⟨_, _, _, sS _ _ h1, cb.cl, cb.na _ (by decide +kernel), _, rfl, a, rfl, _, _, _, u1, ct.cl, ct.na _ (by decide +kernel), _, rfl, ag, rfl, _, hv, ?_⟩
      refine ⟨_, _, _, sS _ _ h1, cb.cl, cb.na _ (by decide +kernel), _, rfl, rd, rfl, _, DGet.k (k := .inl (i : Int)) (sS _ _ h5'), ?_⟩
      dsimp only at e0
      rcases rt_iff i h5'' with ⟨r, l, a1, a2, a3, a4, a5, a6⟩ | ⟨a1, a2⟩
      rotate_left
      · rw [a2, if_pos (by rfl)]
        refine ⟨by show 1 ≤ sizeLine; decide, fun q hq => ?_⟩
        rw [e0, show b.route i = none from a1] at D
        exact D.says hB hn sS hq rfl
      rw [show b.route i = some r from a1] at e0
      dsimp only at e0
      have hwr := hB.wf.ways r a2
      cases ew : r.way with
      | nil => exact absurd ew hwr.1
      | cons X w' =>
      rw [ew] at e0
      dsimp only at e0
      rw [a4, if_neg (by simp)]
      refine ⟨_, _, _, sS _ _ h1, cb.cl, cb.na _ (by decide +kernel), _, rfl, rd, rfl, .inl ⟨kr, .inl (sS _ _ h5')⟩, kr, sS _ _ h5', .inl (i : Int), rfl, V.ref l, a4, ?_⟩
      have hB1 := hB.mono sS
      have h5q : Paired (RouteAt ρ H1) kr b.routes := Paired.mono (fun _ _ q => q.mono sS) h5''
      have hBd := hB1.drop i (sS _ _ h1) (TrackIn.move h2 hB.own (Same.keep sS) (Ext.refl _ _)) h3 (sS _ _ h3') h4 (sS _ _ h4') (h4''.mono sS) h5 h5q
      have bt1 := upd_but (H := H1) (o := .dK (dropK kr (.inl (i : Int)))) h5
      have kp1 : Keep ρ H (upd H1 rd (.dK (dropK kr (.inl (i : Int))))) := Keep.trans (Same.keep sS) bt1.keep
      have g1d : upd H1 rd (.dK (dropK kr (.inl (i : Int)))) p = some (.ins c.train dp (nf ls lg)) := bt1 _ _ (sS _ _ g1) (fun r e => by rw [g2] at e; cases e; intro z; cases z)
      have l1d : StepsAt (upd H1 rd (.dK (dropK kr (.inl (i : Int))))) l r.way := bt1.steps hB1.own a5 (by intro z; cases z) (a6.mono sS)
      have ls1d : StepsAt (upd H1 rd (.dK (dropK kr (.inl (i : Int))))) ls t.on := by
        rw [eo]
        exact bt1.steps hB1.own g3 (by intro z; cases z) (StepsAt.mono ⟨_, g4, .cons hc0 hbs'⟩ sS)
      have hx2 : upd H1 rd (.dK (dropK kr (.inl (i : Int)))) x = some (.ins c.box dx (bf (.ref a) sl td rd)) := bt1 _ _ (sS _ _ h1) (fun r e => by rw [hB.me] at e; cases e; decide)
      have ht2 : upd H1 rd (.dK (dropK kr (.inl (i : Int)))) td = some (.dK kt) := bt1 _ _ (sS _ _ h4') (fun r e => by rw [h4] at e; cases e; decide)
      have lv2 : Live H (upd H1 rd (.dK (dropK kr (.inl (i : Int))))) := Live.upd (fun z hz => sS.free hz) (sS _ _ h5')
      have out1 : Out ρ ρ H (upd H1 rd (.dK (dropK kr (.inl (i : Int))))) := (Same.out sS).trans (bt1.out (by intro z; cases z))
      generalize upd H1 rd (.dK (dropK kr (.inl (i : Int)))) = H2 at out1 lv2 hBd bt1 kp1 g1d l1d ls1d hx2 ht2 ⊢
      refine ⟨_, _, _, g1d, cn.cl, cn.na _ (by decide +kernel), by show 2 < 1000; decide, ?_⟩
      have e3 : putF "given" (V.ref l) (nf ls lg) = nf ls l := rfl
      rw [e3, eM]
      obtain ⟨R, eR⟩ : ∃ R : Rho, R = fun z => if z = l then some (Role.ahead k) else ρ z := ⟨_, rfl⟩
      have R_l : R l = some (.ahead k) := by rw [eR]; exact if_pos rfl
      have R_o : ∀ z, z ≠ l → R z = ρ z := fun z hz => by rw [eR]; exact if_neg hz
      have R_b : ∀ z q, ρ z = some q → ¬ q = .route i → R z = some q := fun z q hz hq => by
        rw [R_o z (fun e => by rw [e, a5] at hz; cases hz; exact hq rfl)]
        exact hz
      have bt2 := upd_but (H := H2) (o := .ins c.train dp (nf ls l)) g2
      have ext : Ext ρ R H := fun z o hz nz => by rw [R_o z (fun e => by rw [e, a5] at nz; cases nz)]; exact nz
      have ext2 : Ext ρ R H2 := fun z o hz nz => by rw [R_o z (fun e => by rw [e, a5] at nz; cases nz)]; exact nz
      have own2 : Own c R (upd H2 p (.ins c.train dp (nf ls l))) := by
        intro z q hz
        by_cases z1 : z = l
        · subst z1
          rw [R_l] at hz
          cases hz
          obtain ⟨cs', l2, _⟩ := l1d
          exact ⟨_, bt2 _ _ l2 (fun r e => by rw [a5] at e; cases e; intro z; cases z), _, rfl⟩
        · rw [R_o z z1] at hz
          exact own_upd hBd.own g2 ⟨_, _, rfl⟩ z q hz
      obtain ⟨dx', a', ak', as', sl', td', rd', kt', kr', w1, w2, ⟨w3, w3'⟩, ⟨w4, w4', w4''⟩, w5, w5', w5''⟩ := hBd.ex
      rw [hx2] at w1
      cases w1
      rw [ht2] at w4'
      cases w4'
      have nlp : l ≠ p := fun e => by rw [e, g2] at a5; cases a5
      have l3 : StepsAt (upd H2 p (.ins c.train dp (nf ls l))) l r.way := bt2.steps hBd.own a5 (by intro z; cases z) l1d
      have ls3 : StepsAt (upd H2 p (.ins c.train dp (nf ls l))) ls t.on := bt2.steps hBd.own g3 (by intro z; cases z) ls1d
      have hBr := hBd.retrain (m := n + 16) (rs := fun q => q = .train k ∨ q = .route i) (fun z o hz nz => bt2 z o hz fun q e e2 => nz q e (.inl e2)) (fun z q hz nq => R_b z q hz fun e => nq (.inr e)) ext2 own2 k p t ⟨t.on, r.way⟩
        (fun q hq => by
          rcases hq with e | e
          · exact .inl (.inl e)
          · exact .inr ⟨i, e, fun q' hq' => by
              have := (List.mem_filter.mp hq').2
              simpa using this⟩)
        ht hx2 w2 w3 w3' w4 ht2 w4'' w5 w5' w5'' ev ⟨dp, ls, l, upd_same, R_b _ _ g2 (by intro z; cases z), R_b _ _ g3 (by intro z; cases z), ls3, R_l, l3⟩ hw.1 (by
          have := hw.2
          show t.on.length + r.way.length ≤ n + 16
          have := hwr.2
          rw [ea] at hw
          omega) (by omega) (by omega)
      refine ⟨R, _, _, _, t.on, w', X, rfl, ⟨hBr, ?_, dx, a, sl, td, rd, kt, ?_, ?_, ev⟩, ?_, ext, lv2.upd g1d, ⟨fun z o hz e => bt2 _ _ (out1.keep _ _ hz e) (fun r e2 => by rw [e] at e2; cases e2; intro q; cases q), fun z e => R_b z _ e (by intro q; cases q)⟩, ?_⟩
      · show (b.trains.set k _)[k]? = _
        rw [List.getElem?_set_self (List.getElem?_eq_some_iff.mp ht).1, ew]
      · exact bt2 _ _ hx2 (fun r e => by rw [hB.me] at e; cases e; intro z; cases z)
      · exact bt2 _ _ ht2 (fun r e => by rw [h4] at e; cases e; intro z; cases z)
      · exact Keep.trans kp1 bt2.keep
      · rw [e0]
        show _ = (some (⟨b.track, b.turned, _, (b.trains.set k (some ⟨t.on, r.way⟩)).set k (some ⟨X :: t.on, w'⟩)⟩ : Rail.Box), _)
        rw [List.set_set, eo]
        rfl
    · intro σ' H' z
      rw [eM] at z
      obtain ⟨ρ', b', v3, v4, on, r, X, rfl, G, kp, ext, lv, out, est⟩ := z
      rw [est] at D
      have hB' := G.box
      obtain ⟨dx', a', ak', as', sl', td', rd', kt', kr', w1, w2, ⟨w3, w3'⟩, ⟨w4, w4', w4''⟩, w5, w5', w5''⟩ := hB'.ex
      obtain ⟨_, _, _, _, _, _, v1, v2, v3'⟩ := G.at_
      rw [w1] at v1
      cases v1
      rw [w4'] at v2
      cases v2
      have hTT : TrainAt c.train ρ' H' k p ⟨on, X :: r⟩ := by
        rcases val_iff w4'' k with ⟨p2, t2, y1, y2, y3⟩ | ⟨y1, _⟩
        · rw [y1] at v3'
          cases v3'
          rw [G.tr] at y2
          cases y2
          exact y3
        · rw [y1] at v3'
          cases v3'
      obtain ⟨dp, ls, lg, g1, g2, g3, ⟨bs, g4, g4'⟩, g5, ⟨cs, g6, g6'⟩⟩ := hTT.ex
      have hw' := hB'.wf.steps k _ G.tr
      have hlb := Paired.len g4'
      cases g6' with
      | @cons c0 _ cs' _ hc0 hcs' =>
      walk_at "rd"
      refine ⟨_, _, _, g1, cn.cl, cn.na _ (by decide +kernel), _, rfl, .inl ⟨rfl, _, SqL.of g6⟩, lg, rfl, _, g6, by decide, by decide, 0, seq0 (by simp), V.ref c0, rfl, ?_⟩
      have bt1 := upd_but (H := H') (o := .lst (((c0 :: cs').map V.ref).eraseIdx 0)) g5
      have p1 : upd H' lg (.lst (((c0 :: cs').map V.ref).eraseIdx 0)) p = some (.ins c.train dp (nf ls lg)) := bt1 _ _ g1 (fun r e => by rw [g2] at e; cases e; intro z; cases z)
      have ls1 : upd H' lg (.lst (((c0 :: cs').map V.ref).eraseIdx 0)) ls = some (.lst (bs.map V.ref)) := bt1 _ _ g4 (fun r e => by rw [g3] at e; cases e; intro z; cases z)
      refine ⟨_, _, _, p1, cn.cl, cn.na _ (by decide +kernel), _, rfl, .inl ⟨rfl, _, SqL.of ls1⟩, ?_⟩
      walk_at "rd"
      have bt2 := upd_but (H := upd H' lg (.lst (cs'.map V.ref))) (o := .lst (V.ref c0 :: bs.map V.ref)) g3
      have bt1 : But (· = Role.ahead k) ρ' H' (upd H' lg (.lst (cs'.map V.ref))) := bt1
      have bt12 := bt1.trans bt2
      have hc3 : StepAt (upd (upd H' lg (.lst (cs'.map V.ref))) ls (.lst (V.ref c0 :: bs.map V.ref))) c0 X := bt12.keep _ _ hc0 (hB'.own.tup hc0)
      refine ⟨_, ls1, by rw [List.length_map, hlb, sizeLine_eq]; have := hw'.2; omega, _, SqT.of hc3, _, atI_nat (j := 0) rfl, by show 1 ≤ sizeLine; decide, fun q hq => ?_⟩
      have own2 : Own c ρ' (upd (upd H' lg (.lst (cs'.map V.ref))) ls (.lst (V.ref c0 :: bs.map V.ref))) := own_upd (own_upd hB'.own g5 ⟨_, rfl⟩) g3 ⟨_, rfl⟩
      have ne : ls ≠ lg := fun e => by rw [e, g5] at g3; cases g3
      have hq2 : H' q = none := new_upd g6 (new_upd ls1 hq)
      have hBr := hB'.retrain (m := n + 17) bt12 (RBut.refl ρ') (Ext.refl _ _) own2 k p ⟨on, X :: r⟩ ⟨X :: on, r⟩
        (fun q hq => by
          rcases hq with e | e
          · exact .inl (.inr (.inr e))
          · exact .inl (.inr (.inl e)))
        G.tr w1 w2 w3 w3' w4 w4' w4'' w5 w5' w5'' v3' ⟨dp, ls, lg, bt12 _ _ g1 (fun r e => by rw [g2] at e; cases e; intro z; rcases z with z | z <;> cases z), g2, g3, ⟨c0 :: bs, upd_same, .cons hc3 (Paired.mono (fun _ _ z => bt12.keep _ _ z (hB'.own.tup z)) g4')⟩, g5, ⟨cs', by rw [upd_ne ne.symm]; exact upd_same, Paired.mono (fun _ _ z => bt12.keep _ _ z (hB'.own.tup z)) hcs'⟩⟩
        (by intro z; cases z) (by
          have := hw'.2
          have e1 : (X :: on).length = on.length + 1 := rfl
          have e2 : (X :: r).length = r.length + 1 := rfl
          show (X :: on).length + r.length ≤ n + 17
          have : on.length + (X :: r).length ≤ n + 16 := hw'.2
          omega) (by omega) hn
      have s3 := same_new (o := .lst [V.int (X.section_ : Int)]) hq
      exact D _ ρ' q (hBr.mono s3) (kp.ext ext (Keep.trans bt12.keep (Same.keep s3))) ext (out.trans ((bt12.out (by intro z; rcases z with z | z <;> cases z)).trans (Same.out s3))) (lv _ hq2) (hB'.own.new hq2) upd_same
end
end Sb
namespace Sb
open PySem PySem.Spec PyProof.Rows L2
/-! ### a way, as the program tells it -/
def wayRes (t : Rail.Track) (i : Nat) (c : List Nat) : Except Int (List Rail.Step) := match t.signals[i]? with
  | none => .error (-4)
  | some e => if Rail.bits c = false then .error (-1) else match t.wayFrom Rail.MOST [] (c.map fun (x : Nat) => x == 1) e with
    | .error w => .error (-(w : Int))
    | .ok [] => .error (-3)
    | .ok (s :: w) => .ok (s :: w)
theorem ofWay_eq (b : Rail.Box) (i : Nat) (c : List Nat) (no : Int → Rail.State × Rail.Answer) (f : List Rail.Step → Rail.State × Rail.Answer) : Rail.ofWay b i c no f = match wayRes b.track i c with
  | .error z => no z
  | .ok w => f w := by
  unfold Rail.ofWay wayRes
  cases b.track.signals[i]? with
  | none => rfl
  | some e =>
    dsimp only
    by_cases h : Rail.bits c = false
    · rw [if_pos h, if_pos h]
    · rw [if_neg h, if_neg h]
      cases b.track.wayFrom Rail.MOST [] (c.map fun (x : Nat) => x == 1) e with
      | error w => rfl
      | ok w => cases w <;> rfl
/-- what way_from hands back -/
def Found (t : Rail.Track) (i : Nat) (c : List Nat) (H H' : Hp) (code : Int) (l : Addr) : Prop := match wayRes t i c with
  | .error z => code = z ∧ z ≠ 0
  | .ok w => code = 0 ∧ H l = Option.none ∧ StepsAt H' l w ∧ w ≠ [] ∧ w.length ≤ 16 ∧ ∀ s ∈ w, s.section_ < t.points.length
def spWayFrom (c : Ad) : Sp := fun vs H Q _ => ∃ (a ak as lc : Addr) (t : Rail.Track) (i : Nat) (cs : List Nat), vs = [.ref a, vi i, .ref lc] ∧ TrackAt c.track H a ak as t ∧ H lc = some (.lst (cs.map vi)) ∧ cs.length ≤ 1000000 ∧
  ∀ (H' : Hp) (r l : Addr) (code : Int), Same H H' → H' r = some (.tup [.int code, .ref l]) → Found t i cs H H' code l → Q (.ref r) H'
def spWay (c : Ad) : Sp := fun vs H Q _ => ∃ (x lc : Addr) (n : Nat) (ρ : Rho) (b : Rail.Box) (i : Nat) (cs : List Nat), vs = [.ref x, vi i, .ref lc] ∧ BoxAt c n ρ H x b ∧ n + 17 ≤ 1000000 ∧ H lc = some (.lst (cs.map vi)) ∧ cs.length ≤ 1000000 ∧ Done c n ρ H x (Rail.step (some b) (.way i cs)) Q
def spRoute (c : Ad) : Sp := fun vs H Q _ => ∃ (x lc : Addr) (n : Nat) (ρ : Rho) (b : Rail.Box) (i : Nat) (cs : List Nat), vs = [.ref x, vi i, .ref lc] ∧ BoxAt c n ρ H x b ∧ n + 17 ≤ 1000000 ∧ H lc = some (.lst (cs.map vi)) ∧ cs.length ≤ 1000000 ∧ Done c n ρ H x (Rail.step (some b) (.route i cs)) Q
def nums (s : Rail.Step) : List Nat := [s.section_, s.in_, s.out]
theorem nums_len : ∀ w : List Rail.Step, (w.flatMap nums).length = 3 * w.length
  | [] => rfl
  | s :: r => by
    rw [List.flatMap_cons, List.length_append, nums_len r, List.length_cons]
    show 3 + 3 * r.length = _
    omega
/-- steps as they are told -/
def toldOf (w : List Rail.Step) : List Int := (3 * (w.length : Int)) :: ((w.flatMap nums).map fun (n : Nat) => (n : Int))
theorem told_nums (w : List Rail.Step) : (((Rail.stepNums w).length : Int) :: (Rail.stepNums w).map fun (n : Nat) => (n : Int)) = toldOf w := by
  have e1 : (Rail.stepNums w).length = 3 * w.length := nums_len w
  unfold toldOf
  rw [e1, show ((3 * w.length : Nat) : Int) = 3 * (w.length : Int) by omega]
  rfl
theorem told_len (w : List Rail.Step) : (toldOf w).length = 3 * w.length + 1 := by
  unfold toldOf
  rw [List.length_cons, List.length_map, nums_len]
def spTold : Sp := fun vs H Q _ => ∃ (l : Addr) (w : List Rail.Step), vs = [.ref l] ∧ StepsAt H l w ∧ w.length ≤ 1000000 ∧ ∀ (H' : Hp) (q : Addr), Same H H' → H q = none → H' q = some (.lst ((toldOf w).map V.int)) → Q (.ref q) H'
section
variable {P : Program} {w : World} {K : PySem.W.Frag} {mg : Str → Option Value} {base : Heap}
theorem ok_told_steps {f : Addr} {fd : FuncData} (F : Fun K "told_steps" "told_steps" s_told_steps f fd) (T : TxB mg) : FnOk P w K mg base CX0 1 f fd ["steps"] spTold := by
  refine F.ok sc_told_steps (fun vs H Q E h => ?_) (fun cdv A outer s0 H vs Q E hr h => ?_)
  · obtain ⟨l, ws, rfl, _⟩ := h
    rfl
  · obtain ⟨l, ws, rfl, ⟨bs, hbs, hP⟩, hlen, k⟩ := h
    have nd := sc_told_steps.nd
    have lb := Paired.len hP
    refine ⟨_, pss_cons (ps_set (i := 1) nd rfl (Or.inl rfl) (pe_lst (pa_cons (pe_op op_mul pe_int (pe_callB call_len_seq (by rfl) T.len PySem.boot_len (pa_cons (pv 0) pa_nil))) pa_nil)))
      (pss_cons (ps_for PassesOwn.never rfl (pi_list (pv 0)) (pg_name (i := 2) nd rfl (Or.inl rfl)) (pss_one (ps_expr (pe_bm PySem.F.plainAttrs_list PySem.F.slot_list_extend PySem.F.type_list_extend mt_extendT (pv 1) (pa_cons (pv 2) pa_nil)))))
      (pss_one (ps_ret (pv 1)))), ?_⟩
    rw [show L2.start n_told_steps [V.ref l] = [some (V.ref l), none, none] from rfl]
    walk_at "rd"
    refine ⟨_, .inl (SqL.of hbs), ?_⟩
    rw [List.length_map, lb]
    refine ⟨.inl ⟨by decide, by decide⟩, by show 1 ≤ sizeLine; decide, fun q hq => ?_⟩
    have s2 := same_new (o := .lst [V.int (3 * (ws.length : Int))]) hq
    refine ⟨⟨_, SqL.of (s2 _ _ hbs)⟩, ?_⟩
    obtain ⟨Pv, eP⟩ : ∃ Pv : Nat → L2.St → Hp → Prop, Pv = fun i' σ H' => ∃ v : Option V, σ = [some (V.ref l), some (V.ref q), v] ∧ Same H H' ∧
      H' q = some (.lst (V.int (3 * (ws.length : Int)) :: ((ws.take i').flatMap nums).map vi)) := ⟨_, rfl⟩
    refine fo_list (xs := bs.map V.ref) Pv ?_ ?_ ?_ ?_
    · rw [eP]
      exact ⟨none, rfl, s2, upd_same⟩
    · intro i' σ H' _ z
      rw [eP] at z
      obtain ⟨v, _, z1, _⟩ := z
      exact SqL.of (z1 _ _ hbs)
    · intro i' y σ H' hy z
      rw [eP] at z
      obtain ⟨v, rfl, z1, z2⟩ := z
      rw [List.getElem?_map] at hy
      cases ea : bs[i']? with
      | none => rw [ea] at hy; cases hy
      | some p =>
        rw [ea] at hy
        cases hy
        obtain ⟨e, ee, hb⟩ := paired_get hP ea
        have hb : StepAt H' p e := z1 _ _ hb
        walk_at "rd"
        refine ⟨.inl ⟨rfl, _, SqL.of z2⟩, _, z2, _, SqT.of hb, ?_, ?_⟩
        · show ((ws.take i').flatMap nums |>.map vi).length + 1 + 3 ≤ sizeLine
          rw [List.length_map, nums_len, List.length_take, sizeLine_eq]
          omega
        · rw [eP]
          refine ⟨_, rfl, fun z o hz => ?_, ?_⟩
          · rw [upd_ne (ne_of_none hz hq)]
            exact z1 _ _ hz
          · rw [upd_same, take_snoc ee, List.flatMap_append, List.map_append]
            rfl
    · intro σ H' z
      rw [eP] at z
      obtain ⟨v, rfl, z1, z2⟩ := z
      walk_at "rd"
      rw [List.length_map, lb, List.take_length] at z2
      refine k H' q z1 hq ?_
      rw [z2]
      unfold toldOf
      rw [List.map_cons, List.map_map]
      rfl
theorem ok_show_way {f : Addr} {fd : FuncData} {c : Ad} {kw : Nat} (hkw : 1 ≤ kw) (F : Fun K "show_way" "show_way" s_show_way f fd) (T : TxB mg) (cb : Tc K c.box bfs) (G : Fn P w K mg base kw "way_from" ["track", "signal", "choices"] (spWayFrom c)) (G2 : Fn P w K mg base 1 "told_steps" ["steps"] spTold) : FnOk P w K mg base CX0 (kw + 1) f fd ["box", "signal", "choices"] (spWay c) := by
  refine F.ok sc_show_way (fun vs H Q E h => ?_) (fun cdv A outer s0 H vs Q E hr h => ?_)
  · obtain ⟨x, lc, n, ρ, b, i, cs, rfl, _⟩ := h
    rfl
  · obtain ⟨x, lc, n, ρ, b, i, cs, rfl, hB, hn, hlc, hcl, D⟩ := h
    have nd := sc_show_way.nd
    have hr1 : Room 1 _ := hr.mono hkw
    refine ⟨_, pss_cons (ps_set (i := 3) nd rfl (Or.inl rfl) (pe_fn G hr (pa_cons (pe_fld (pv 0) (by rfl)) (pa_cons (pv 1) (pa_cons (pv 2) pa_nil)))))
      (pss_cons (ps_if (pt_cmpR op_ne (pe_ix ix_tup (pv 3) pe_int (fun _ _ => rfl)) pe_int (nomark _)) (pss_one (ps_ret (pe_lst (pa_cons (pe_ix ix_tup (pv 3) pe_int (fun _ _ => rfl)) pa_nil)))) pss_nil)
      (pss_one (ps_ret (pe_op op_cat (pe_lst (pa_cons (pe_callB call_len_seq (by rfl) T.len PySem.boot_len (pa_cons (pe_ix ix_tup (pv 3) pe_int (fun _ _ => rfl)) pa_nil)) pa_nil)) (pe_fn G2 hr1 (pa_cons (pe_ix ix_tup (pv 3) pe_int (fun _ _ => rfl)) pa_nil)))))), ?_⟩
    rw [show L2.start n_show_way [V.ref x, vi i, V.ref lc] = [some (V.ref x), some (vi i), some (V.ref lc), none] from rfl]
    obtain ⟨dx, a, ak, as, sl, td, rd, kt, kr, h1, h2, ⟨h3, h3'⟩, ⟨h4, h4', h4''⟩, h5, h5', h5''⟩ := hB.ex
    walk_at "rd"
    refine ⟨_, _, _, h1, cb.cl, cb.na _ (by decide +kernel), _, rfl, a, ak, as, lc, b.track, i, cs, rfl, h2.1, hlc, hcl, fun H1 r l code s1 hr1 hF => ?_⟩
    walk_at "rd"
    refine ⟨_, SqT.of hr1, _, atI_nat (j := 0) rfl, rfl, ?_⟩
    have e0 : Rail.step (some b) (.way i cs) = match wayRes b.track i cs with | .error z => (some b, Rail.says z) | .ok w => (some b, ⟨(w.length : Nat), [Rail.stepNums w]⟩) := (show _ = _ from ofWay_eq b i cs (fun z => (some b, Rail.says z)) fun w => (some b, ⟨(w.length : Nat), [Rail.stepNums w]⟩))
    unfold Found at hF
    cases ew : wayRes b.track i cs with
    | error z =>
      rw [ew] at hF e0
      obtain ⟨rfl, hz⟩ := hF
      have hne : ¬ V.int code = V.int 0 := fun e => hz (by injection e)
      rw [if_pos (by rw [decide_eq_false hne]; rfl)]
      refine ⟨_, SqT.of hr1, _, atI_nat (j := 0) rfl, by show 1 ≤ sizeLine; decide, fun q hq => ?_⟩
      rw [e0] at D
      exact D.says hB hn s1 hq rfl
    | ok ws =>
    rw [ew] at hF e0
    obtain ⟨rfl, hl0, ⟨bs, hbs, hP⟩, hne, h16, hsec⟩ := hF
    rw [if_neg (by decide)]
    have lb := Paired.len hP
    refine ⟨_, SqT.of hr1, _, atI_nat (j := 1) rfl, l, rfl, _, .inl (SqL.of hbs), ?_⟩
    rw [List.length_map, lb]
    refine ⟨by show 1 ≤ sizeLine; decide, fun q hq => ?_⟩
    have s2 := same_new (o := .lst [V.int (ws.length : Int)]) hq
    have hq2 : upd H1 q (.lst [V.int (ws.length : Int)]) q = some (.lst [V.int (ws.length : Int)]) := upd_same
    generalize upd H1 q (.lst [V.int (ws.length : Int)]) = H2 at s2 hq2 ⊢
    refine ⟨_, SqT.of (s2 _ _ hr1), _, atI_nat (j := 1) rfl, l, ws, rfl, ⟨bs, s2 _ _ hbs, Paired.mono (fun _ _ z => s2 _ _ z) hP⟩, by omega, fun H3 q3 s3 hq3 e3 => ?_⟩
    refine ⟨q3, rfl, _, s3 _ _ hq2, _, e3, ?_, fun p hp => ?_⟩
    · rw [List.length_map, told_len, sizeLine_eq]
      show 1 + _ ≤ _
      omega
    · rw [e0] at D
      refine D.says hB hn (s1.trans (s2.trans s3)) hp ?_
      show _ = V.int (ws.length : Int) :: ((((Rail.stepNums ws).length : Int) :: (Rail.stepNums ws).map fun (n : Nat) => (n : Int)) ++ []).map V.int
      rw [List.append_nil, told_nums]
      rfl
end
end Sb
namespace Sb
open PySem PySem.Spec PyProof.Rows L2
/-! ### route -/
section
variable {P : Program} {w : World} {K : PySem.W.Frag} {mg : Str → Option Value} {base : Heap}
theorem ok_route {f : Addr} {fd : FuncData} {c : Ad} {kw : Nat} (hkw : 3 ≤ kw) (F : Fun K "route" "route" s_route f fd) (T : TxB mg) (cb : Tc K c.box bfs) (c8 : ConI mg "ROUTE_IS_SET" (-8)) (c5 : ConI mg "NOT_FREE" (-5)) (G : Fn P w K mg base kw "way_from" ["track", "signal", "choices"] (spWayFrom c))
    (G2 : Fn P w K mg base 3 "is_free" ["box", "section"] (spIsFree c)) (G3 : Fn P w K mg base 2 "lay_points" ["box", "steps"] (spLayPoints c)) : FnOk P w K mg base CX0 (kw + 1) f fd ["box", "signal", "choices"] (spRoute c) := by
  refine F.ok sc_route (fun vs H Q E h => ?_) (fun cdv A outer s0 H vs Q E hr h => ?_)
  · obtain ⟨x, lc, n, ρ, b, i, cs, rfl, _⟩ := h
    rfl
  · obtain ⟨x, lc, n, ρ, b, i, cs, rfl, hB, hn, hlc, hcl, D⟩ := h
    have nd := sc_route.nd
    have hu := hu_of hr
    have hr3 : Room 3 _ := hr.mono hkw
    have hr2 : Room 2 _ := hr3.mono (by decide)
    refine ⟨_, pss_cons (ps_set (i := 3) nd rfl (Or.inl rfl) (pe_fn G hr (pa_cons (pe_fld (pv 0) (by rfl)) (pa_cons (pv 1) (pa_cons (pv 2) pa_nil)))))
      (pss_cons (ps_if (pt_cmpR op_ne (pe_ix ix_tup (pv 3) pe_int (fun _ _ => rfl)) pe_int (nomark _)) (pss_one (ps_ret (pe_lst (pa_cons (pe_ix ix_tup (pv 3) pe_int (fun _ _ => rfl)) pa_nil)))) pss_nil)
      (pss_cons (ps_if (pt_cmp (pc_din hu (pv 1) (pe_fld (pv 0) (by rfl)))) (pss_one (ps_ret (pe_lst (pa_cons (pe_con c8 (by rfl)) pa_nil)))) pss_nil)
      (pss_cons (ps_set (i := 4) nd rfl (Or.inl rfl) (pe_ix ix_tup (pv 3) pe_int (fun _ _ => rfl)))
      (pss_cons (ps_for PassesOwn.never rfl (pi_list (pv 4)) (pg_name (i := 5) nd rfl (Or.inl rfl)) (pss_one (ps_if (pt_not (pt_val (pe_fn G2 hr3 (pa_cons (pv 0) (pa_cons (pe_ix ix_tup (pv 5) pe_int (fun _ _ => rfl)) pa_nil))))) (pss_one (ps_ret (pe_lst (pa_cons (pe_con c5 (by rfl)) (pa_cons pe_int (pa_cons (pe_ix ix_tup (pv 5) pe_int (fun _ _ => rfl)) pa_nil)))))) pss_nil)))
      (pss_cons (ps_expr (pe_fn G3 hr2 (pa_cons (pv 0) (pa_cons (pv 4) pa_nil))))
      (pss_cons (ps_dput hu (pe_fld (pv 0) (by rfl)) (pv 1) (pv 4) (by rfl))
      (pss_one (ps_ret (pe_lst (pa_cons (pe_callB call_len_seq (by rfl) T.len PySem.boot_len (pa_cons (pv 4) pa_nil)) pa_nil)))))))))), ?_⟩
    rw [show L2.start n_route [V.ref x, vi i, V.ref lc] = [some (V.ref x), some (vi i), some (V.ref lc), none, none, none] from rfl]
    obtain ⟨dx, a, ak, as, sl, td, rd, kt, kr, h1, h2, ⟨h3, h3'⟩, ⟨h4, h4', h4''⟩, h5, h5', h5''⟩ := hB.ex
    walk_at "rd"
    refine ⟨_, _, _, h1, cb.cl, cb.na _ (by decide +kernel), _, rfl, a, ak, as, lc, b.track, i, cs, rfl, h2.1, hlc, hcl, fun H1 r l code s1 hr1 hF => ?_⟩
    walk_at "rd"
    refine ⟨_, SqT.of hr1, _, atI_nat (j := 0) rfl, rfl, ?_⟩
    have e0 : Rail.step (some b) (.route i cs) = match wayRes b.track i cs with | .error z => (some b, Rail.says z) | .ok w => if (b.route i).isSome = true then (some b, Rail.says (-8)) else match w.find? fun (x : Rail.Step) => !b.free x.section_ with
      | some x => (some b, ⟨-5, [[x.section_]]⟩)
      | none => (some ⟨b.track, b.laid w, b.routes ++ [⟨i, w⟩], b.trains⟩, Rail.says (w.length : Nat)) := (show _ = _ from ofWay_eq b i cs (fun z => (some b, Rail.says z)) fun w => if (b.route i).isSome = true then (some b, Rail.says (-8)) else match w.find? fun (x : Rail.Step) => !b.free x.section_ with
      | some x => (some b, ⟨-5, [[x.section_]]⟩)
      | none => (some ⟨b.track, b.laid w, b.routes ++ [⟨i, w⟩], b.trains⟩, Rail.says (w.length : Nat)))
    unfold Found at hF
    cases ew : wayRes b.track i cs with
    | error z =>
      rw [ew] at hF e0
      obtain ⟨rfl, hz⟩ := hF
      have hne : ¬ V.int code = V.int 0 := fun e => hz (by injection e)
      rw [if_pos (by rw [decide_eq_false hne]; rfl)]
      refine ⟨_, SqT.of hr1, _, atI_nat (j := 0) rfl, by show 1 ≤ sizeLine; decide, fun q hq => ?_⟩
      rw [e0] at D
      exact D.says hB hn s1 hq rfl
    | ok ws =>
    rw [ew] at hF e0
    obtain ⟨rfl, hl0, ⟨bs, hbs, hP⟩, hne, h16, hsec⟩ := hF
    rw [if_neg (by decide)]
    have lb := Paired.len hP
    have hB1 := hB.mono s1
    refine ⟨_, _, _, s1 _ _ h1, cb.cl, cb.na _ (by decide +kernel), _, rfl, rd, rfl, _, DGet.k (k := .inl (i : Int)) (s1 _ _ h5'), ?_⟩
    dsimp only at e0
    rcases rt_iff i h5'' with ⟨r', l', a1, a2, a3, a4, a5, a6⟩ | ⟨a1, a2⟩
    · rw [a4, if_pos (by rfl)]
      refine ⟨by show 1 ≤ sizeLine; decide, fun q hq => ?_⟩
      rw [e0, show b.route i = some r' from a1, if_pos (by rfl)] at D
      exact D.says hB hn s1 hq rfl
    rw [a2, if_neg (by decide)]
    rw [e0, show b.route i = none from a1, if_neg (by decide)] at D
    refine ⟨_, SqT.of hr1, _, atI_nat (j := 1) rfl, ?_⟩
    walk_at "rd"
    refine ⟨⟨_, SqL.of hbs⟩, ?_⟩
    obtain ⟨Pv, eP⟩ : ∃ Pv : Nat → L2.St → Hp → Prop, Pv = fun i' σ H' => ∃ v : Option V, σ = [some (V.ref x), some (vi i), some (V.ref lc), some (V.ref r), some (V.ref l), v] ∧ Same H1 H' ∧ ∀ s ∈ ws.take i', b.free s.section_ = true := ⟨_, rfl⟩
    refine fo_list (xs := bs.map V.ref) Pv ?_ ?_ ?_ ?_
    · rw [eP]
      exact ⟨none, rfl, Same.refl _, fun s hs => (by cases hs)⟩
    · intro i' σ H' _ z
      rw [eP] at z
      obtain ⟨v, _, z1, _⟩ := z
      exact SqL.of (z1 _ _ hbs)
    · intro i' y σ H' hy z
      rw [eP] at z
      obtain ⟨v, rfl, z1, z2⟩ := z
      rw [List.getElem?_map] at hy
      cases ea : bs[i']? with
      | none => rw [ea] at hy; cases hy
      | some p =>
        rw [ea] at hy
        cases hy
        obtain ⟨e, ee, hb⟩ := paired_get hP ea
        have hb : StepAt H' p e := z1 _ _ hb
        walk_at "rd"
        refine ⟨_, SqT.of hb, _, atI_nat (j := 0) rfl, x, n, ρ, b, e.section_, rfl, hB1.mono z1, fun H2 r2 => ⟨_, rfl, ?_⟩⟩
        cases hf : b.free e.section_ with
        | false =>
          rw [if_pos (by rfl)]
          refine ⟨_, SqT.of (r2 _ _ hb), _, atI_nat (j := 0) rfl, by show 3 ≤ sizeLine; decide, fun q hq => ?_⟩
          have hfind : ws.find? (fun (x : Rail.Step) => !b.free x.section_) = some e := by
            obtain ⟨hi', ei⟩ := List.getElem?_eq_some_iff.mp ee
            refine List.find?_eq_some_iff_getElem.mpr ⟨by rw [hf]; rfl, i', hi', ei, fun j hj => ?_⟩
            have : ws[j] ∈ ws.take i' := by
              rw [List.mem_take_iff_getElem]
              exact ⟨j, by omega, rfl⟩
            rw [z2 _ this]
            rfl
          rw [hfind] at D
          exact D.says hB hn ((s1.trans z1).trans r2) hq rfl
        | true =>
          rw [if_neg (by decide), eP]
          refine ⟨_, rfl, z1.trans r2, fun s hs => ?_⟩
          rw [take_snoc ee] at hs
          rcases List.mem_append.mp hs with hs | hs
          · exact z2 s hs
          · rw [List.mem_singleton.mp hs]
            exact hf
    · intro σ H' z
      rw [eP] at z
      obtain ⟨v, rfl, z1, z2⟩ := z
      rw [List.length_map, lb, List.take_length] at z2
      have hfind : ws.find? (fun (x : Rail.Step) => !b.free x.section_) = none := List.find?_eq_none.mpr fun s hs => by
        rw [z2 s hs]
        decide
      rw [hfind] at D
      have s12 := s1.trans z1
      walk_at "rd"
      have rl : ρ l = none := hB.own.new hl0
      refine ⟨x, l, n, ρ, b, ws, rfl, hB.mono s12, StepsAt.mono ⟨bs, hbs, hP⟩ z1, rl, hsec, fun H3 hB3 bt3 lv3 => ?_⟩
      have kp3 := bt3.keep
      obtain ⟨dx', a', ak', as', sl', td', rd', kt', kr', w1, w2, ⟨w3, w3'⟩, ⟨w4, w4', w4''⟩, w5, w5', w5''⟩ := hB3.ex
      have x3 : H3 x = some (.ins c.box dx (bf (.ref a) sl td rd)) := bt3 _ _ (s12 _ _ h1) (fun r e => by rw [hB.me] at e; cases e; decide)
      rw [x3] at w1
      cases w1
      obtain ⟨dt, aj, ag, kj, ks, g1, _⟩ := h2.1.ex
      obtain ⟨u1, u2, u3, u4⟩ := w2
      obtain ⟨dt', aj', ag', kj', ks', g1', _⟩ := u1.ex
      have a3 : H3 a = some (.ins c.track dt (tf ak aj as ag)) := kp3 _ _ (s12 _ _ g1) u2
      rw [a3] at g1'
      cases g1'
      have l3 : H3 l = some (.lst (bs.map V.ref)) := kp3 _ _ (z1 _ _ hbs) rl
      have P3 : Paired (StepAt H3) bs ws := Paired.mono (fun _ _ q => kp3 _ _ (z1 _ _ q) ((hB1.mono z1).own.tup (z1 _ _ q))) hP
      rcases rt_iff i w5'' with ⟨_, _, y1, _⟩ | ⟨_, y2⟩
      · rw [show (Rail.Box.mk b.track (b.laid ws) b.routes b.trains).routes = b.routes from rfl, a1] at y1
        cases y1
      walk_at "rd"
      refine ⟨_, _, _, x3, cb.cl, cb.na _ (by decide +kernel), _, rfl, rd, rfl, _, DPut.k (k := .inl (i : Int)) w5' ?_, ?_⟩
      · rw [Paired.len w5'', sizeLine_eq]
        have e1 := hB3.wf.few
        omega
      rw [putK_new _ y2]
      have nl : l ≠ rd := fun e => by rw [e, w5] at rl; cases rl
      have bt := upd_but (H := H3) (o := .dK (kr' ++ [(.inl (i : Int), V.ref l)])) w5
      refine ⟨_, .inl (SqL.of (by rw [upd_ne nl]; exact l3)), by show 1 ≤ sizeLine; decide, fun q hq => ?_⟩
      rw [List.length_map, lb]
      obtain ⟨R, eR⟩ : ∃ R : Rho, R = fun z => if z = l then some (Role.route i) else ρ z := ⟨_, rfl⟩
      have R_l : R l = some (.route i) := by rw [eR]; exact if_pos rfl
      have R_o : ∀ z, z ≠ l → R z = ρ z := fun z hz => by rw [eR]; exact if_neg hz
      have R_b : ∀ z q, ρ z = some q → R z = some q := fun z q hz => by
        rw [R_o z (fun e => by rw [e, rl] at hz; cases hz)]
        exact hz
      have rb : RBut (· = Role.routes) ρ R := fun z q hz _ => R_b z q hz
      have ext : Ext ρ R H := fun z o hz nz => by rw [R_o z (ne_of_none hz hl0)]; exact nz
      have hB5 : BoxAt c (n + 17) R (upd H3 rd (.dK (kr' ++ [(.inl (i : Int), V.ref l)]))) x ⟨b.track, b.laid ws, b.routes ++ [⟨i, ws⟩], b.trains⟩ := by
        refine ⟨?_, ⟨hB3.wf.stances, hB3.wf.eight, fun k t ht => ?_, fun q hq => ?_, ?_⟩, hn, R_b _ _ hB3.me, dx, a, ak, as, sl, td, rd, kt', _, bt _ _ x3 (fun r e => by rw [hB3.me] at e; cases e; decide), ?_, ⟨R_b _ _ w3, bt _ _ w3' (fun r e => by rw [w3] at e; cases e; decide)⟩,
          ⟨R_b _ _ w4, bt _ _ w4' (fun r e => by rw [w4] at e; cases e; decide), w4''.nodup, fun kv m => ?_, w4''.has⟩, R_b _ _ w5, upd_same, ?_⟩
        · intro z q hz
          by_cases z1 : z = l
          · subst z1
            rw [R_l] at hz
            cases hz
            exact ⟨_, by rw [upd_ne nl]; exact l3, _, rfl⟩
          · rw [R_o z z1] at hz
            exact own_upd hB3.own w5 ⟨_, rfl⟩ z q hz
        · obtain ⟨q1, q2⟩ := hB3.wf.steps k t ht
          exact ⟨q1, by omega⟩
        · rcases List.mem_append.mp hq with hq | hq
          · exact hB.wf.ways q hq
          · rw [List.mem_singleton.mp hq]
            exact ⟨hne, h16⟩
        · show (b.routes ++ [_]).length ≤ n + 17
          rw [List.length_append, List.length_singleton]
          have := hB.wf.few
          omega
        · refine ⟨u1.keep hB3.own bt.keep u2 u3 u4, ext _ _ g1 u2, ext _ _ h2.1.kinds u3, ?_⟩
          obtain ⟨bs', gs, _⟩ := h2.1.sig
          exact ext _ _ gs u4
        · obtain ⟨k, p, t, e, q1, q2⟩ := w4''.keys kv m
          exact ⟨k, p, t, e, q1, q2.move bt rb hB3.own (by intro z; cases z) (by intro z; cases z) (by intro z; cases z)⟩
        · refine Paired.snoc (Paired.mono (fun _ _ q => q.move bt rb hB3.own (by intro z; cases z)) w5'') ⟨l, rfl, R_l, bs, by rw [upd_ne nl]; exact l3, Paired.mono (fun _ _ q => bt.keep _ _ q (hB3.own.tup q)) P3⟩
      have s5 := same_new (o := .lst [V.int (ws.length : Int)]) hq
      have q3 : H3 q = none := new_upd w5' hq
      have q0 : H q = none := s12.free (lv3 _ q3)
      refine D _ R q (hB5.mono s5) (Keep.trans (Keep.trans (Keep.trans (Same.keep s12) kp3) bt.keep) (Same.keep s5)) ext ⟨fun z o hz e => s5 _ _ (bt _ _ (bt3 _ _ (s12 _ _ hz) (fun r e2 => by rw [e] at e2; cases e2; intro q; cases q)) (fun r e2 => by rw [e] at e2; cases e2; intro q; cases q)), fun z e => R_b z _ e⟩ q0 ?_ upd_same
      rw [R_o q (fun e => by rw [e, l3] at q3; cases q3)]
      exact hB.own.new q0
end
end Sb
namespace Sb
open PySem PySem.Spec PyProof.Rows L2
/-! ### lay -/
def spLay (c : Ad) : Sp := fun vs H Q _ => ∃ (x ak al ap : Addr) (n : Nat) (ρ : Rho) (st : Rail.State) (p j s : List Nat), vs = [.ref x, .ref ak, .ref al, .ref ap] ∧ StAt c n ρ H x st ∧ n + 17 ≤ 1000000 ∧ H ak = some (.lst (p.map vi)) ∧ ρ ak = none ∧ H al = some (.lst (j.map vi)) ∧ H ap = some (.lst (s.map vi)) ∧ j.length ≤ 100000 ∧ s.length ≤ 100000 ∧ Done c n ρ H x (Rail.step st (.lay p j s)) Q
theorem StAt.box {c : Ad} {n : Nat} {ρ : Rho} {H : Hp} {x : Addr} : ∀ {st : Rail.State}, StAt c n ρ H x st → ρ x = some .box ∧ ∃ dx tr sl td rd, H x = some (.ins c.box dx (bf tr sl td rd))
  | some b, h => by
    obtain ⟨dx, a, ak, as, sl, td, rd, kt, kr, h1, _⟩ := BoxAt.ex h
    exact ⟨BoxAt.me h, dx, _, sl, td, rd, h1⟩
  | none, ⟨_, _, h1, dx, sl, td, rd, h2⟩ => ⟨h1, dx, _, sl, td, rd, h2⟩
theorem track_len {p j s : List Nat} {t : Rail.Track} (h : Rail.trackIn p j s = some t) : t.points.length = p.length := by
  unfold Rail.trackIn at h
  split at h
  · cases h
  · split at h
    · dsimp only at h
      split at h
      · cases h
        rw [List.length_map]
      · cases h
    · cases h
section
variable {P : Program} {w : World} {K : PySem.W.Frag} {mg : Str → Option Value} {base : Heap}
theorem ok_lay {f : Addr} {fd : FuncData} {c : Ad} (F : Fun K "lay" "lay" s_lay f fd) (T : TxB mg) (c1 : ConI mg "NOT_ALLOWED" (-1)) (G1 : Fn P w K mg base 3 "draw_track" ["kinds", "joints", "posts"] (spDraw c.track)) (G2 : Fn P w K mg base 1 "start_anew" ["box", "track"] (spAnew c)) : FnOk P w K mg base CX0 4 f fd ["box", "kinds", "joints", "posts"] (spLay c) := by
  refine F.ok sc_lay (fun vs H Q E h => ?_) (fun cdv A outer s0 H vs Q E hr h => ?_)
  · obtain ⟨x, ak, al, ap, n, ρ, st, p, j, s, rfl, _⟩ := h
    rfl
  · obtain ⟨x, ak, al, ap, n, ρ, st, p, j, s, rfl, hS, hn, hk, nk, hj, hs, lj, ls, D⟩ := h
    have nd := sc_lay.nd
    have hr1 : Room 1 _ := hr.mono (by decide)
    refine ⟨_, pss_cons (ps_set (i := 4) nd rfl (Or.inl rfl) (pe_fn G1 hr (pa_cons (pv 1) (pa_cons (pv 2) (pa_cons (pv 3) pa_nil)))))
      (pss_cons (ps_if (pt_cmp (pc_isN (pv 4))) (pss_one (ps_ret (pe_lst (pa_cons (pe_con c1 (by rfl)) pa_nil)))) pss_nil)
      (pss_cons (ps_expr (pe_fn G2 hr1 (pa_cons (pv 0) (pa_cons (pv 4) pa_nil))))
      (pss_one (ps_ret (pe_lst (pa_cons (pe_callB call_len_seq (by rfl) T.len PySem.boot_len (pa_cons (pv 1) pa_nil)) pa_nil)))))), ?_⟩
    rw [show L2.start n_lay [V.ref x, V.ref ak, V.ref al, V.ref ap] = [some (V.ref x), some (V.ref ak), some (V.ref al), some (V.ref ap), none] from rfl]
    have own := hS.own
    obtain ⟨me, dx, tr, sl, td, rd, hx⟩ := hS.box
    walk_at "rd"
    refine ⟨ak, al, ap, p, j, s, rfl, hk, hj, hs, lj, ls, fun e H1 s1 => ?_, fun t e H1 a as s1 na nas hT => ?_⟩
    · walk_at "rd"
      rw [if_pos (by rfl)]
      refine ⟨by show 1 ≤ sizeLine; decide, fun q hq => ?_⟩
      have e1 : Rail.step st (.lay p j s) = (st, Rail.says (-1)) := by
        show (match Rail.trackIn p j s with | none => _ | some t => _) = _
        rw [e]
      rw [e1] at D
      exact D.says hS hn s1 hq rfl
    · walk_at "rd"
      rw [if_neg (by simp)]
      have e1 : Rail.step st (.lay p j s) = (some (ini t), Rail.says (t.points.length : Nat)) := by
        show (match Rail.trackIn p j s with | none => _ | some t => _) = _
        rw [e]
        rfl
      rw [e1] at D
      refine ⟨x, a, ak, as, dx, sl, td, rd, tr, ρ, t, rfl, s1 _ _ hx, me, own.mono s1, hT, own.new na, nk, own.new nas, fun H2 ρ' hB2 kp ext lv out => ?_⟩
      walk_at "rd"
      refine ⟨_, .inl (SqL.of (kp _ _ (s1 _ _ hk) nk)), by show 1 ≤ sizeLine; decide, fun q hq => ?_⟩
      rw [List.length_map, ← track_len e]
      have s5 := same_new (o := .lst [V.int (t.points.length : Int)]) hq
      have q0 : H q = none := s1.free (lv _ hq)
      exact D _ ρ' q ((hB2.mono s5).more (by omega) hn) (Keep.trans (Keep.trans (Same.keep s1) kp) (Same.keep s5)) (fun z o hz nz => ext _ _ (s1 _ _ hz) nz) (((Same.out s1).trans out).trans (Same.out s5)) q0 (hB2.own.new hq) upd_same
end
end Sb
namespace Sb
open PySem PySem.Spec PyProof.Rows L2
/-! ### ways: behind an end; the whole way as a walk from spot to spot -/
def behind (t : Rail.Track) (e : Rail.End) : Option Rail.End := if (t.signalAt e).isSome = true then none else t.beyond e
/-- the way out of a section come into by an end -/
def outBy (t : Rail.Track) (f : Rail.End) (z : Bool) : Nat := oend (t.points.getD f.section_ false) f.end_ z
def atToe (t : Rail.Track) (f : Rail.End) : Bool := t.points.getD f.section_ false && f.end_ == 0
/-- the specification's way from where it stands: o the spot come to -/
def walk (t : Rail.Track) : Nat → List Rail.Step → List Bool → Option Rail.End → Rail.Way
  | _, had, cs, none => if cs.isEmpty = true then .ok had else .error 2
  | 0, _, _, some _ => .error 7
  | m + 1, had, cs, some f => if (had.any fun (s : Rail.Step) => s.section_ == f.section_) = true then .error 7 else
    if atToe t f = true then (match cs with
      | [] => .error 2
      | c :: r => walk t m (had ++ [⟨f.section_, f.end_, outBy t f c⟩]) r (behind t ⟨f.section_, outBy t f c⟩))
    else walk t m (had ++ [⟨f.section_, f.end_, outBy t f false⟩]) cs (behind t ⟨f.section_, outBy t f false⟩)
theorem walk_sig (t : Rail.Track) (m : Nat) (had : List Rail.Step) (cs : List Bool) (e : Rail.End) (h : ∀ n had cs, t.wayFrom n had cs e = walk t n had cs (t.beyond e)) :
    (if (t.signalAt e).isSome = true then (if cs.isEmpty = true then Except.ok had else Except.error 2) else t.wayFrom m had cs e) = walk t m had cs (behind t e) := by
  unfold behind
  by_cases q : (t.signalAt e).isSome = true
  · rw [if_pos q, if_pos q]
    unfold walk
    rfl
  · rw [if_neg q, if_neg q]
    exact h m had cs
theorem way_walk (t : Rail.Track) : ∀ (n : Nat) (had : List Rail.Step) (cs : List Bool) (e : Rail.End), t.wayFrom n had cs e = walk t n had cs (t.beyond e)
  | 0, had, cs, e => by
    unfold Rail.Track.wayFrom
    cases t.beyond e with
    | none => unfold walk; rfl
    | some f => unfold walk; rfl
  | m + 1, had, cs, e => by
    have ih := fun e => way_walk t m (e := e)
    unfold Rail.Track.wayFrom
    cases t.beyond e with
    | none => unfold walk; rfl
    | some f =>
      dsimp only
      unfold walk
      by_cases hs : (had.any fun (s : Rail.Step) => s.section_ == f.section_) = true
      · rw [if_pos hs, if_pos hs]
      rw [if_neg hs, if_neg hs]
      have key : ∀ (o : Nat) (r : List Bool), (if (t.signalAt (Rail.Step.mk f.section_ f.end_ o).exit).isSome = true then (if r.isEmpty = true then Except.ok (had ++ [⟨f.section_, f.end_, o⟩]) else Except.error 2) else t.wayFrom m (had ++ [⟨f.section_, f.end_, o⟩]) r (Rail.Step.mk f.section_ f.end_ o).exit) = walk t m (had ++ [⟨f.section_, f.end_, o⟩]) r (behind t ⟨f.section_, o⟩) := fun o r => by
        show (if (t.signalAt ⟨f.section_, o⟩).isSome = true then _ else t.wayFrom m _ r ⟨f.section_, o⟩) = _
        unfold behind
        by_cases q : (t.signalAt ⟨f.section_, o⟩).isSome = true
        · rw [if_pos q, if_pos q]
          unfold walk
          rfl
        · rw [if_neg q, if_neg q]
          exact way_walk t m _ r _
      unfold atToe outBy oend
      by_cases hp : t.points.getD f.section_ false = true
      · rw [if_pos hp, hp, Bool.true_and]
        by_cases he : f.end_ = 0
        · rw [if_pos he, if_pos (show (f.end_ == 0) = true by simpa using he)]
          cases cs with
          | nil => rfl
          | cons c r =>
            dsimp only
            rw [if_pos rfl, if_pos he]
            exact key _ r
        · rw [if_neg he, if_neg (show ¬ (f.end_ == 0) = true by simpa using he), if_pos rfl, if_neg he]
          exact key _ cs
      · have hp' : t.points.getD f.section_ false = false := by
          cases q : t.points.getD f.section_ false
          · rfl
          · exact absurd q hp
        rw [if_neg hp, hp', Bool.false_and, if_neg Bool.false_ne_true, if_neg Bool.false_ne_true]
        exact key _ cs
/-- where a joint leads is an end of the track -/
theorem beyond_end {t : Rail.Track} (h : t.right = true) {e f : Rail.End} (q : t.beyond e = some f) : t.isEnd f = true := by
  unfold Rail.Track.right at h
  simp only [Bool.and_eq_true] at h
  have hj := List.all_eq_true.mp h.2.2.2.1
  rw [beyond_eq] at q
  unfold other at q
  cases e1 : t.joints.find? (fun (j : Rail.End × Rail.End) => Rail.sameEnd j.1 e) with
  | some j =>
    rw [e1] at q
    cases q
    have := hj j (List.mem_of_find?_eq_some e1)
    rw [Bool.and_eq_true] at this
    exact this.2
  | none =>
    rw [e1] at q
    cases e2 : t.joints.find? (fun (j : Rail.End × Rail.End) => Rail.sameEnd j.2 e) with
    | some j =>
      rw [e2] at q
      cases q
      have := hj j (List.mem_of_find?_eq_some e2)
      rw [Bool.and_eq_true] at this
      exact this.1
    | none =>
      rw [e2] at q
      cases q
theorem behind_end {t : Rail.Track} (h : t.right = true) {e f : Rail.End} (q : behind t e = some f) : t.isEnd f = true := by
  unfold behind at q
  split at q
  · cases q
  · exact beyond_end h q
def spBehind (c : Ad) : Sp := fun vs H Q _ => ∃ (a ak as s : Addr) (t : Rail.Track) (e : Rail.End), vs = [.ref a, .ref s] ∧ TrackAt c.track H a ak as t ∧ SpotAt H s e ∧ (behind t e = none → Q .non H) ∧ ∀ f b, behind t e = some f → SpotAt H b f → Q (.ref b) H
/-- what follow hands back -/
def FoundW (t : Rail.Track) (e : Rail.End) (c : List Nat) (H H' : Hp) (code : Int) (l : Addr) : Prop := match t.wayFrom Rail.MOST [] (c.map fun (x : Nat) => x == 1) e with
  | .error z => code = -(z : Int) ∧ z ≠ 0
  | .ok [] => code = -3
  | .ok (s :: w) => code = 0 ∧ H l = Option.none ∧ StepsAt H' l (s :: w) ∧ (s :: w).length ≤ 16 ∧ ∀ q ∈ s :: w, q.section_ < t.points.length
def spFollow (c : Ad) : Sp := fun vs H Q _ => ∃ (a ak as sp lc : Addr) (t : Rail.Track) (e : Rail.End) (cs : List Nat), vs = [.ref a, .ref sp, .ref lc] ∧ TrackAt c.track H a ak as t ∧ SpotAt H sp e ∧ H lc = some (.lst (cs.map vi)) ∧ cs.length ≤ 1000000 ∧ Rail.bits cs = true ∧
  ∀ (H' : Hp) (r l : Addr) (code : Int), Same H H' → H' r = some (.tup [.int code, .ref l]) → FoundW t e cs H H' code l → Q (.ref r) H'
section
variable {P : Program} {w : World} {K : PySem.W.Frag} {mg : Str → Option Value} {base : Heap}
theorem ok_spot_behind {f : Addr} {fd : FuncData} {c : Ad} (F : Fun K "spot_behind" "spot_behind" s_spot_behind f fd) (ct : Tc K c.track tfs) : FnOk P w K mg base CX0 1 f fd ["track", "spot"] (spBehind c) := by
  refine F.ok sc_spot_behind (fun vs H Q E h => ?_) (fun cdv A outer s0 H vs Q E hr h => ?_)
  · obtain ⟨a, ak, as, s, t, e, rfl, _⟩ := h
    rfl
  · obtain ⟨a, ak, as, s, t, e, rfl, hT, hs, k0, k1⟩ := h
    have hu := hu_of hr
    refine ⟨_, pss_cons (ps_if (pt_cmp (pc_din hu (pv 1) (pe_fld (pv 0) (by rfl)))) (pss_one (ps_ret pe_non)) pss_nil) (pss_one (ps_ret (pe_dget1 hu (pe_fld (pv 0) (by rfl)) (pv 1) ⟨by rfl, by rfl, by rfl, by rfl⟩))), ?_⟩
    rw [show L2.start n_spot_behind [V.ref a, V.ref s] = [some (V.ref a), some (V.ref s)] from rfl]
    obtain ⟨dt, aj, ag, kj, ks, u1, u2, u3, u4, u5⟩ := hT.ex
    walk_at "rd"
    refine ⟨_, _, _, u1, ct.cl, ct.na _ (by decide +kernel), _, rfl, ag, rfl, _, DGet.t (k := key e) u4 hs, ?_⟩
    rw [u5]
    unfold behind at k0 k1
    cases es : t.signalAt e with
    | some i =>
      rw [es] at k0
      rw [if_pos (by rfl)]
      exact k0 (if_pos rfl)
    | none =>
      rw [es] at k0 k1
      rw [if_neg (by decide)]
      rw [if_neg (by decide)] at k0
      refine ⟨_, _, _, u1, ct.cl, ct.na _ (by decide +kernel), _, rfl, aj, rfl, .inr ⟨kj, .inl u2⟩, _, DGet.t (k := key e) u2 hs, ?_⟩
      have jn := u3 e
      cases eb : t.beyond e with
      | none =>
        rw [eb] at jn
        rw [show valV kj (key e) = none from jn]
        exact k0 eb
      | some f =>
        rw [eb] at jn
        obtain ⟨b, j1, j2⟩ := jn
        rw [j1]
        exact k1 f b (by rw [if_neg (by decide)]; exact eb) j2
theorem ok_way_from {f : Addr} {fd : FuncData} {c : Ad} {kf : Nat} (F : Fun K "way_from" "way_from" s_way_from f fd) (T : TxB mg) (ct : Tc K c.track tfs) (c4 : ConI mg "NO_SUCH" (-4)) (c1 : ConI mg "NOT_ALLOWED" (-1)) (G : Fn P w K mg base kf "follow" ["track", "start", "choices"] (spFollow c)) : FnOk P w K mg base CX0 (kf + 1) f fd ["track", "signal", "choices"] (spWayFrom c) := by
  refine F.ok sc_way_from (fun vs H Q E h => ?_) (fun cdv A outer s0 H vs Q E hr h => ?_)
  · obtain ⟨a, ak, as, lc, t, i, cs, rfl, _⟩ := h
    rfl
  · obtain ⟨a, ak, as, lc, t, i, cs, rfl, hT, hlc, hcl, k⟩ := h
    refine ⟨_, pss_cons (ps_if (pt_cmpR op_ge (pv 1) (pe_callB call_len_seq (by rfl) T.len PySem.boot_len (pa_cons (pe_fld (pv 0) (by rfl)) pa_nil)) (nomark _)) (pss_one (ps_ret (pe_tup (pa_cons (pe_con c4 (by rfl)) (pa_cons (pe_lst pa_nil) pa_nil))))) pss_nil)
      (pss_cons (ps_if (pt_cmpR op_gt (pe_maxD rfl (by rfl) T.max (pa_cons (pv 2) pa_nil) (pk_cons pe_int pk_nil)) pe_int (nomark _)) (pss_one (ps_ret (pe_tup (pa_cons (pe_con c1 (by rfl)) (pa_cons (pe_lst pa_nil) pa_nil))))) pss_nil)
      (pss_one (ps_ret (pe_fn G hr (pa_cons (pv 0) (pa_cons (pe_ix ix_list (pe_fld (pv 0) (by rfl)) (pv 1) (fun _ _ => rfl)) (pa_cons (pv 2) pa_nil))))))), ?_⟩
    rw [show L2.start n_way_from [V.ref a, vi i, V.ref lc] = [some (V.ref a), some (vi i), some (V.ref lc)] from rfl]
    obtain ⟨dt, aj, ag, kj, ks, u1, u2, u3, u4, u5⟩ := hT.ex
    obtain ⟨bs, hbs, hPs⟩ := hT.sig
    have lb := Paired.len hPs
    walk_at "rd"
    refine ⟨_, _, _, u1, ct.cl, ct.na _ (by decide +kernel), _, rfl, as, rfl, _, .inl (SqL.of hbs), ?_⟩
    rw [List.length_map, lb]
    by_cases hi : t.signals.length ≤ i
    · rw [if_pos (decide_eq_true (by omega))]
      refine ⟨Nat.zero_le _, fun l hl => ⟨by show 2 ≤ sizeLine; decide, fun r hr => ?_⟩⟩
      refine k _ r l (-4) ((same_new hl).trans (same_new hr)) upd_same ?_
      unfold Found wayRes
      rw [List.getElem?_eq_none hi]
      exact ⟨rfl, by decide⟩
    rw [if_neg (by rw [decide_eq_true_eq]; omega)]
    unfold tMaxD
    walk_at "rd"
    have hg := List.getElem?_eq_getElem (show i < t.signals.length by omega)
    obtain ⟨sp, esp, hsp⟩ := Paired.get2 hPs hg
    have kk : (bs.map V.ref)[i]? = some (V.ref sp) := by rw [List.getElem?_map, esp]; rfl
    have ok : Rail.bits cs = true → ∃ x x_1 x_2, H a = some (HO.ins x x_1 x_2) ∧ Cls K x ∧ NoAttr K x "signals" ∧ ∃ x, List.lookup ("signals" : Str) x_2 = some x ∧ ∃ p, x = V.ref p ∧ ∃ x, SqL K H p x ∧ ∃ x_3, atI x (i : Int) = some x_3 ∧ spFollow c [V.ref a, x_3, V.ref lc] H Q E0 := fun hb => by
      refine ⟨_, _, _, u1, ct.cl, ct.na _ (by decide +kernel), _, rfl, as, rfl, _, SqL.of hbs, _, atI_nat kk, a, ak, as, sp, lc, t, t.signals[i], cs, rfl, hT, hsp, hlc, hcl, hb, fun H' r l code s1 hr1 hF => ?_⟩
      refine k H' r l code s1 hr1 ?_
      unfold Found wayRes
      rw [hg]
      dsimp only
      rw [if_neg (by rw [hb]; decide)]
      unfold FoundW at hF
      cases e : t.wayFrom Rail.MOST [] (cs.map fun (x : Nat) => x == 1) t.signals[i] with
      | error z =>
        rw [e] at hF
        obtain ⟨h1, h2⟩ := hF
        exact ⟨h1, by omega⟩
      | ok ws =>
        rw [e] at hF
        cases ws with
        | nil => exact ⟨hF, by decide⟩
        | cons s ws =>
          obtain ⟨h1, h2, h3, h4, h5⟩ := hF
          exact ⟨h1, h2, h3, (by intro z; cases z), h4, h5⟩
    refine ⟨cs.map fun (n : Nat) => (n : Int), ?_, fun e => ?_, fun m hm hle => ?_⟩
    · rw [List.map_map]
      exact SqL.of hlc
    · rw [if_neg (by decide)]
      have : cs = [] := by simpa using e
      exact ok (by rw [this]; rfl)
    · by_cases h1 : 1 < m
      · rw [if_pos (decide_eq_true h1)]
        refine ⟨Nat.zero_le _, fun l hl => ⟨by show 2 ≤ sizeLine; decide, fun r hr => ?_⟩⟩
        refine k _ r l (-1) ((same_new hl).trans (same_new hr)) upd_same ?_
        unfold Found wayRes
        rw [hg]
        dsimp only
        have hb : Rail.bits cs = false := by
          cases q : Rail.bits cs with
          | false => rfl
          | true =>
            obtain ⟨z, hz, rfl⟩ := List.mem_map.mp hm
            have := of_decide_eq_true (List.all_eq_true.mp q z hz)
            omega
        rw [if_pos hb]
        exact ⟨rfl, by decide⟩
      · rw [if_neg (by rw [decide_eq_true_eq]; omega)]
        refine ok (List.all_eq_true.mpr fun z hz => decide_eq_true ?_)
        have := hle (z : Int) (List.mem_map.mpr ⟨z, hz, rfl⟩)
        omega
end
end Sb
namespace Sb
open PySem PySem.Spec PyProof.Rows L2
/-! ### follow -/
/-- the spot come to, as a value -/
def SpotV (H : Hp) (v : V) : Option Rail.End → Prop
  | none => v = .non
  | some f => ∃ b, v = .ref b ∧ SpotAt H b f
theorem SpotV.mono {H H' : Hp} {v : V} (s : Same H H') : ∀ {o : Option Rail.End}, SpotV H v o → SpotV H' v o
  | none, h => h
  | some _, ⟨b, h1, h2⟩ => ⟨b, h1, s _ _ h2⟩
structure Fol (t : Rail.Track) (e : Rail.End) (cs : List Nat) (had : List Rail.Step) (u : Nat) (o : Option Rail.End) : Prop where
  way : t.wayFrom Rail.MOST [] (cs.map fun (x : Nat) => x == 1) e = walk t (16 - had.length) had ((cs.map fun (x : Nat) => x == 1).drop u) o
  len : had.length ≤ 16
  sec : ∀ q ∈ had, q.section_ < t.points.length
  use : u ≤ cs.length
  spot : ∀ f, o = some f → t.isEnd f = true
structure FolAt (H H' : Hp) (L S : Addr) (had : List Rail.Step) : Prop where
  same : Same H H'
  fl : H L = none
  fs : H S = none
  lst : StepsAt H' L had
  dic : ∃ ks : List (Key × V), H' S = some (.dK ks) ∧ ks.length ≤ had.length ∧ ∀ s : Nat, (valV ks (.inl (s : Int))).isSome = had.any fun q => q.section_ == s
theorem FolAt.mono {H H' H2 : Hp} {L S : Addr} {had : List Rail.Step} (h : FolAt H H' L S had) (s : Same H' H2) : FolAt H H2 L S had := by
  obtain ⟨ks, h1, h2, h3⟩ := h.dic
  exact ⟨h.same.trans s, h.fl, h.fs, h.lst.mono s, ks, s _ _ h1, h2, h3⟩
section
variable {P : Program} {w : World} {K : PySem.W.Frag} {mg : Str → Option Value} {base : Heap}
theorem ok_follow {f : Addr} {fd : FuncData} {c : Ad} (F : Fun K "follow" "follow" s_follow f fd) (T : TxB mg) (ct : Tc K c.track tfs) (c0 : ConI mg "TOE" 0) (c2 : ConI mg "WRONG_CHOICES" (-2)) (c7 : ConI mg "WAY_TOO_FAR" (-7)) (c3 : ConI mg "NOT_AS_THINGS_STAND" (-3)) (c16 : ConI mg "MOST_STEPS" 16)
    (G1 : Fn P w K mg base 1 "is_points" ["track", "section"] (spIsPoints c.track)) (G2 : Fn P w K mg base 2 "other_end" ["track", "section", "end", "stance"] (spOtherEnd c.track)) (G3 : Fn P w K mg base 1 "spot_behind" ["track", "spot"] (spBehind c)) : FnOk P w K mg base CX0 3 f fd ["track", "start", "choices"] (spFollow c) := by
  refine F.ok sc_follow (fun vs H Q E h => ?_) (fun cdv A outer s0 H vs Q E hr h => ?_)
  · obtain ⟨a, ak, as, sp, lc, t, e, cs, rfl, _⟩ := h
    rfl
  · obtain ⟨a, ak, as, sp, lc, t, e, cs, rfl, hT, hsp, hlc, hcl, hb, k⟩ := h
    have nd := sc_follow.nd
    have hu := hu_of hr
    have hr1 : Room 1 _ := hr.mono (by decide)
    refine ⟨_, (pss_cons (ps_set (i := 3) nd rfl (Or.inl rfl) (pe_lst pa_nil))
        (pss_cons (ps_set (i := 4) nd rfl (Or.inl rfl) pe_dnewK)
        (pss_cons (ps_set (i := 5) nd rfl (Or.inl rfl) pe_int)
        (pss_cons (ps_set (i := 6) nd rfl (Or.inl rfl) (pe_dget1 hu (pe_fld (pv 0) (by rfl)) (pv 1) ⟨by rfl, by rfl, by rfl, by rfl⟩))
        (pss_cons (ps_while PassesOwn.never (pt_cmp (pc_notN (pv 6)))
        (pss_cons (ps_set (i := 7) nd rfl (Or.inl rfl) (pe_ix ix_tup (pv 6) pe_int (fun _ _ => rfl)))
        (pss_cut (ps_if (PW.pt (pw_or (pt_cmp (pc_din hu (pv 7) (pv 4))) (pw_or1 (pt_cmpR op_eq (pe_callB call_len_seq (by rfl) T.len PySem.boot_len (pa_cons (pv 3) pa_nil)) (pe_con c16 (by rfl)) (nomark _))))) (pss_one (ps_ret (pe_tup (pa_cons (pe_con c7 (by rfl)) (pa_cons (pe_lst pa_nil) pa_nil))))) pss_nil)
        (pss_cons (ps_set (i := 8) nd rfl (Or.inl rfl) pe_int)
        (pss_cut (ps_if (PW.pt (pw_and (pt_val (pe_fn G1 hr1 (pa_cons (pv 0) (pa_cons (pv 7) pa_nil)))) (pw_and1 (pt_cmpR op_eq (pe_ix ix_tup (pv 6) pe_int (fun _ _ => rfl)) (pe_con c0 (by rfl)) (nomark _)))))
        (pss_cons (ps_if (pt_cmpR op_eq (pv 5) (pe_callB call_len_seq (by rfl) T.len PySem.boot_len (pa_cons (pv 2) pa_nil)) (nomark _)) (pss_one (ps_ret (pe_tup (pa_cons (pe_con c2 (by rfl)) (pa_cons (pe_lst pa_nil) pa_nil))))) pss_nil)
        (pss_cons (ps_set (i := 8) nd rfl (Or.inl rfl) (pe_ix ix_list (pv 2) (pv 5) (fun _ _ => rfl)))
        (pss_one (ps_aug (i := 5) nd rfl (Or.inl rfl) pe_int ip_add)))) pss_nil)
        (pss_cons (ps_set (i := 9) nd rfl (Or.inl rfl) (pe_fn G2 hr (pa_cons (pv 0) (pa_cons (pv 7) (pa_cons (pe_ix ix_tup (pv 6) pe_int (fun _ _ => rfl)) (pa_cons (pv 8) pa_nil))))))
        (pss_cons (ps_expr (pe_bm PySem.F.plainAttrs_list PySem.F.slot_list_append PySem.F.type_list_append mt_append (pv 3) (pa_cons (pe_tup (pa_cons (pv 7) (pa_cons (pe_ix ix_tup (pv 6) pe_int (fun _ _ => rfl)) (pa_cons (pv 9) pa_nil)))) pa_nil)))
        (pss_cons (ps_dput hu (pv 4) (pv 7) pe_bl (by rfl))
        (pss_one (ps_set (i := 6) nd rfl (Or.inl rfl) (pe_fn G3 hr1 (pa_cons (pv 0) (pa_cons (pe_tup (pa_cons (pv 7) (pa_cons (pv 9) pa_nil))) pa_nil)))))))))))))
        (pss_cons (ps_if (pt_cmpR op_lt (pv 5) (pe_callB call_len_seq (by rfl) T.len PySem.boot_len (pa_cons (pv 2) pa_nil)) (nomark _)) (pss_one (ps_ret (pe_tup (pa_cons (pe_con c2 (by rfl)) (pa_cons (pe_lst pa_nil) pa_nil))))) pss_nil)
        (pss_cons (ps_if (pt_cmpR op_eq (pe_callB call_len_seq (by rfl) T.len PySem.boot_len (pa_cons (pv 3) pa_nil)) pe_int (nomark _)) (pss_one (ps_ret (pe_tup (pa_cons (pe_con c3 (by rfl)) (pa_cons (pe_lst pa_nil) pa_nil))))) pss_nil)
        (pss_one (ps_ret (pe_tup (pa_cons pe_int (pa_cons (pv 3) pa_nil)))))))))))), ?_⟩
    rw [show L2.start n_follow [V.ref a, V.ref sp, V.ref lc] = [some (V.ref a), some (V.ref sp), some (V.ref lc), none, none, none, none, none, none, none] from rfl]
    obtain ⟨dt, aj, ag, kj, ks, u1, u2, u3, u4, u5⟩ := hT.ex
    have ok := hT.ok
    walk_at "rd"
    refine ⟨Nat.zero_le _, fun L hL S hS => ?_⟩
    have sL := same_new (o := .lst []) hL
    have sS := same_new (o := .dK []) hS
    have hS0 : H S = none := sL.free hS
    have s1 := sL.trans sS
    have L1 : upd (upd H L (.lst [])) S (.dK []) L = some (.lst []) := sS _ _ upd_same
    have S1 : upd (upd H L (.lst [])) S (.dK []) S = some (.dK []) := upd_same
    generalize upd (upd H L (.lst [])) S (.dK []) = H1 at s1 L1 S1 ⊢
    refine ⟨_, _, _, s1 _ _ u1, ct.cl, ct.na _ (by decide +kernel), _, rfl, aj, rfl, .inr ⟨kj, .inl (s1 _ _ u2)⟩, _, DGet.t (k := key e) (s1 _ _ u2) (s1 _ _ hsp), ?_⟩
    have sv : SpotV H1 ((valV kj (key e)).getD .non) (t.beyond e) := by
      have := (u3 e).keep fun b es q => s1 _ _ q
      revert this
      cases t.beyond e with
      | none =>
        intro z
        rw [show valV kj (key e) = none from z]
        rfl
      | some g =>
        rintro ⟨b, z1, z2⟩
        rw [z1]
        exact ⟨b, rfl, z2⟩
    generalize (valV kj (key e)).getD V.non = v0 at sv ⊢
    have f0 : Fol t e cs [] 0 (t.beyond e) := ⟨by rw [way_walk]; rfl, Nat.zero_le _, fun q hq => (by cases hq), Nat.zero_le _, fun g hg => beyond_end ok hg⟩
    have a0 : FolAt H H1 L S [] := ⟨s1, hL, hS0, ⟨[], L1, .nil⟩, [], S1, Nat.le_refl _, fun s => rfl⟩
    obtain ⟨W, eW⟩ : ∃ W : Nat → L2.St → Hp → Prop, W = fun m σ H' => ∃ (had : List Rail.Step) (u : Nat) (o : Option Rail.End) (v : V) (x1 x2 x3 : Option V), m = 16 - had.length ∧ σ = [some (V.ref a), some (V.ref sp), some (V.ref lc), some (V.ref L), some (V.ref S), some (vi u), some v, x1, x2, x3] ∧ Fol t e cs had u o ∧ FolAt H H' L S had ∧ SpotV H' v o := ⟨_, rfl⟩
    refine ⟨W, ⟨16, ?_⟩, ?_⟩
    · rw [eW]
      exact ⟨[], 0, _, v0, none, none, none, rfl, rfl, f0, a0, sv⟩
    intro m σ H' z
    rw [eW] at z
    obtain ⟨had, u, o, v, x1, x2, x3, rfl, rfl, hF, hA, hv⟩ := z
    have hlc' := hA.same _ _ hlc
    obtain ⟨bs, hbs, hPs⟩ := hA.lst
    have lbs := Paired.len hPs
    walk_at "rd"
    cases o with
    | none =>
      have hv : v = .non := hv
      subst hv
      rw [if_neg (by decide)]
      have hway := hF.way
      unfold walk at hway
      refine ⟨_, .inl (SqL.of hlc'), ?_⟩
      rw [List.length_map]
      by_cases hlt : u < cs.length
      · rw [if_pos (decide_eq_true (by omega))]
        refine ⟨Nat.zero_le _, fun l hl => ⟨by show 2 ≤ sizeLine; decide, fun r hr => ?_⟩⟩
        refine k _ r l (-2) (hA.same.trans ((same_new hl).trans (same_new hr))) upd_same ?_
        unfold FoundW
        rw [hway, if_neg (by
          rw [List.isEmpty_iff, List.drop_eq_nil_iff, List.length_map]
          omega)]
        exact ⟨rfl, by decide⟩
      rw [if_neg (by rw [decide_eq_true_eq]; omega)]
      rw [if_pos (by rw [List.isEmpty_iff, List.drop_eq_nil_iff, List.length_map]; omega)] at hway
      refine ⟨_, .inl (SqL.of hbs), ?_⟩
      rw [List.length_map, lbs]
      cases had with
      | nil =>
        rw [if_pos (by rfl)]
        refine ⟨Nat.zero_le _, fun l hl => ⟨by show 2 ≤ sizeLine; decide, fun r hr => ?_⟩⟩
        refine k _ r l (-3) (hA.same.trans ((same_new hl).trans (same_new hr))) upd_same ?_
        unfold FoundW
        rw [hway]
      | cons s0' had =>
        rw [if_neg (by rw [decide_eq_true_eq, List.length_cons]; omega)]
        refine ⟨by show 2 ≤ sizeLine; decide, fun r hr => ?_⟩
        refine k _ r L 0 (hA.same.trans (same_new hr)) upd_same ?_
        unfold FoundW
        rw [hway]
        exact ⟨rfl, hL, hA.lst.mono (same_new hr), hF.len, hF.sec⟩
    | some g =>
    obtain ⟨b, rfl, hbg⟩ := hv
    rw [if_pos (by simp)]
    obtain ⟨gs, ge1, ge2⟩ := isEnd_lt (s := g.section_) (e := g.end_) (hF.spot g rfl)
    obtain ⟨N, eN⟩ : ∃ N : L2.St → Hp → Prop, N = fun σ' H' => ∃ m', m' < 16 - had.length ∧ W m' σ' H' := ⟨_, rfl⟩
    refine ⟨N, fun σ' H' z => by rw [eN] at z; exact z, ?_⟩
    refine ⟨b, rfl, _, SqT.of hbg, _, atI_nat (j := 0) rfl, ?_⟩
    have hway := hF.way
    obtain ⟨kd, hkd, hkl, hkv⟩ := hA.dic
    have lcb : (cs.map fun (x : Nat) => x == 1).length = cs.length := List.length_map ..
    obtain ⟨M3, eM3⟩ : ∃ M : L2.St → Hp → Prop, M = fun σ' Hx => σ' = [some (V.ref a), some (V.ref sp), some (V.ref lc), some (V.ref L), some (V.ref S), some (vi u), some (V.ref b), some (vi g.section_), x2, x3] ∧ Hx = H' ∧ (had.any fun q => q.section_ == g.section_) = false ∧ had.length < 16 := ⟨_, rfl⟩
    refine ⟨M3, ?_, ?_⟩
    · walk_at "rd"
      refine ⟨_, DGet.k (k := .inl (g.section_ : Int)) hkd, ?_⟩
      rw [hkv]
      cases ha : had.any fun q => q.section_ == g.section_ with
      | true =>
        rw [if_pos rfl]
        refine ⟨Nat.zero_le _, fun l hl => ⟨by show 2 ≤ sizeLine; decide, fun r hr => ?_⟩⟩
        refine k _ r l (-7) (hA.same.trans ((same_new hl).trans (same_new hr))) upd_same ?_
        unfold FoundW
        rw [hway]
        have : walk t (16 - had.length) had ((cs.map fun (x : Nat) => x == 1).drop u) (some g) = .error 7 := by
          cases 16 - had.length with
          | zero => rfl
          | succ m =>
            unfold walk
            rw [if_pos ha]
        rw [this]
        exact ⟨rfl, by decide⟩
      | false =>
        rw [if_neg Bool.false_ne_true]
        refine ⟨_, .inl (SqL.of hbs), ?_⟩
        rw [List.length_map, lbs]
        by_cases h16 : had.length = 16
        · rw [if_pos (decide_eq_true (by omega))]
          refine ⟨Nat.zero_le _, fun l hl => ⟨by show 2 ≤ sizeLine; decide, fun r hr => ?_⟩⟩
          refine k _ r l (-7) (hA.same.trans ((same_new hl).trans (same_new hr))) upd_same ?_
          unfold FoundW
          rw [hway, h16]
          exact ⟨rfl, by decide⟩
        · rw [if_neg (by rw [decide_eq_true_eq]; omega), eM3]
          exact ⟨rfl, rfl, ha, by have := hF.len; omega⟩
    intro σ' H3 z
    rw [eM3] at z
    obtain ⟨rfl, rfl, hany, h16⟩ := z
    walk_at "rd"
    obtain ⟨M4, eM4⟩ : ∃ M : L2.St → Hp → Prop, M = fun σ' H4 => H4 = H3 ∧ ∃ (u' z : Nat), σ' = [some (V.ref a), some (V.ref sp), some (V.ref lc), some (V.ref L), some (V.ref S), some (vi u'), some (V.ref b), some (vi g.section_), some (vi z), x3] ∧
      u' ≤ cs.length ∧ walk t (16 - had.length) had ((cs.map fun (x : Nat) => x == 1).drop u) (some g) = walk t (16 - (had.length + 1)) (had ++ [⟨g.section_, g.end_, outBy t g (z == 1)⟩]) ((cs.map fun (x : Nat) => x == 1).drop u') (behind t ⟨g.section_, outBy t g (z == 1)⟩) := ⟨_, rfl⟩
    have e16 : 16 - had.length = (16 - (had.length + 1)) + 1 := by omega
    have notoe : atToe t g = false → M4 [some (V.ref a), some (V.ref sp), some (V.ref lc), some (V.ref L), some (V.ref S), some (vi u), some (V.ref b), some (vi g.section_), some (vi 0), x3] H3 := fun ht => by
      rw [eM4]
      refine ⟨rfl, u, 0, rfl, hF.use, ?_⟩
      rw [e16]
      conv => lhs; unfold walk
      rw [if_neg (by rw [hany]; decide), ht, if_neg Bool.false_ne_true]
      rfl
    refine ⟨M4, ?_, ?_⟩
    · walk_at "rd"
      refine ⟨a, ak, as, t, g.section_, rfl, hT.mono hA.same, gs, _, rfl, ?_⟩
      have e1 : atToe t g = (t.points.getD g.section_ false && g.end_ == 0) := rfl
      cases hp : t.points.getD g.section_ false with
      | false =>
        rw [if_neg Bool.false_ne_true]
        rw [hp] at e1
        exact notoe e1
      | true =>
        rw [if_pos rfl]
        refine ⟨_, SqT.of hbg, _, atI_nat (j := 1) rfl, rfl, ?_⟩
        rw [hp, Bool.true_and] at e1
        rw [show decide (vi g.end_ = V.int 0) = (g.end_ == 0) from (show decide (V.int (g.end_ : Int) = V.int ((0 : Nat) : Int)) = _ from (dec_int.trans (ibeq _ _))), ← e1]
        cases ht : atToe t g with
        | false =>
          rw [if_neg Bool.false_ne_true]
          exact notoe ht
        | true =>
          rw [if_pos rfl]
          refine ⟨_, .inl (SqL.of hlc'), ?_⟩
          rw [List.length_map]
          by_cases hul : u = cs.length
          · rw [if_pos (decide_eq_true (by omega))]
            refine ⟨Nat.zero_le _, fun l hl => ⟨by show 2 ≤ sizeLine; decide, fun r hr => ?_⟩⟩
            refine k _ r l (-2) (hA.same.trans ((same_new hl).trans (same_new hr))) upd_same ?_
            unfold FoundW
            have : walk t (16 - had.length) had ((cs.map fun (x : Nat) => x == 1).drop u) (some g) = .error 2 := by
              rw [e16, List.drop_of_length_le (by rw [lcb]; omega)]
              unfold walk
              rw [if_neg (by rw [hany]; decide), ht, if_pos rfl]
            rw [hway, this]
            exact ⟨rfl, by decide⟩
          rw [if_neg (by rw [decide_eq_true_eq]; omega)]
          have hul : u < cs.length := by have := hF.use; omega
          have hg := at_lt hul 0
          refine ⟨_, SqL.of hlc', _, atI_nat (vis_get hg), ?_⟩
          rw [eM4]
          refine ⟨rfl, u + 1, cs.getD u 0, rfl, hul, ?_⟩
          rw [e16]
          conv => lhs; unfold walk
          rw [if_neg (by rw [hany]; decide), ht, if_pos rfl]
          have hd : (cs.map fun (x : Nat) => x == 1).drop u = (cs.getD u 0 == 1) :: (cs.map fun (x : Nat) => x == 1).drop (u + 1) := by
            rw [List.drop_eq_getElem_cons (by rw [lcb]; exact hul)]
            congr 1
            rw [List.getElem_map, ← List.getElem_eq_getD]
          rw [hd]
    intro σ' H4 z
    rw [eM4] at z
    obtain ⟨rfl, u', z', rfl, hu', hwalk⟩ := z
    walk_at "rd"
    have hT4 := hT.mono hA.same
    refine ⟨_, SqT.of hbg, _, atI_nat (j := 1) rfl, a, ak, as, t, g.section_, g.end_, z', rfl, hT4, gs, ge1, .inl ⟨rfl, _, SqL.of hbs⟩, _, SqT.of hbg, _, atI_nat (j := 1) rfl, by show 3 ≤ sizeLine; decide, fun p hp => ?_⟩
    have eo : oend (t.points.getD g.section_ false) g.end_ (z' == 1) = outBy t g (z' == 1) := rfl
    rw [eo]
    have sp1 := same_new (o := .tup [vi g.section_, vi g.end_, vi (outBy t g (z' == 1))]) hp
    have hp1 : StepAt (upd H4 p (.tup [vi g.section_, vi g.end_, vi (outBy t g (z' == 1))])) p ⟨g.section_, g.end_, outBy t g (z' == 1)⟩ := upd_same
    have nLp : L ≠ p := ne_of_none hbs hp
    refine ⟨_, sp1 _ _ hbs, by rw [List.length_map, lbs, sizeLine_eq]; omega, ?_⟩
    generalize upd H4 p (.tup [vi g.section_, vi g.end_, vi (outBy t g (z' == 1))]) = H5 at sp1 hp1 ⊢
    have hS5 : H5 S = some (.dK kd) := sp1 _ _ hkd
    have nSL : S ≠ L := ne_of hkd hbs (by intro z; cases z)
    have hS6 : upd H5 L (.lst (bs.map V.ref ++ [V.ref p])) S = some (.dK kd) := by rw [upd_ne nSL]; exact hS5
    have hL5 := sp1 _ _ hbs
    refine ⟨_, DPut.k (k := .inl (g.section_ : Int)) hS6 (by rw [sizeLine_eq]; omega), by show 2 ≤ sizeLine; decide, fun q hq => ?_⟩
    have fr : ∀ z o, H z = some o → upd (upd H5 L (.lst (bs.map V.ref ++ [V.ref p]))) S (.dK (putK kd (.inl (g.section_ : Int)) (.bl true))) z = some o := fun z o hz => by
      rw [upd_ne (ne_of_none hz hA.fs), upd_ne (ne_of_none hz hA.fl)]
      exact sp1 _ _ (hA.same _ _ hz)
    have fr5 : ∀ z x, StepAt H5 z x → StepAt (upd (upd H5 L (.lst (bs.map V.ref ++ [V.ref p]))) S (.dK (putK kd (.inl (g.section_ : Int)) (.bl true)))) z x := fun z x hz => by
      show upd _ _ _ z = _
      rw [upd_ne (ne_of hz hS5 (by intro e; cases e)), upd_ne (ne_of hz hL5 (by intro e; cases e))]
      exact hz
    have L7 : upd (upd H5 L (.lst (bs.map V.ref ++ [V.ref p]))) S (.dK (putK kd (.inl (g.section_ : Int)) (.bl true))) L = some (.lst ((bs ++ [p]).map V.ref)) := by
      rw [upd_ne nSL.symm, upd_same, List.map_append]
      rfl
    have S7 : upd (upd H5 L (.lst (bs.map V.ref ++ [V.ref p]))) S (.dK (putK kd (.inl (g.section_ : Int)) (.bl true))) S = some (.dK (putK kd (.inl (g.section_ : Int)) (.bl true))) := upd_same
    generalize upd (upd H5 L (.lst (bs.map V.ref ++ [V.ref p]))) S (.dK (putK kd (.inl (g.section_ : Int)) (.bl true))) = H7 at fr fr5 L7 S7 hq ⊢
    have sq := same_new (o := .tup [vi g.section_, vi (outBy t g (z' == 1))]) hq
    have hq1 : SpotAt (upd H7 q (.tup [vi g.section_, vi (outBy t g (z' == 1))])) q ⟨g.section_, outBy t g (z' == 1)⟩ := upd_same
    generalize upd H7 q (.tup [vi g.section_, vi (outBy t g (z' == 1))]) = H8 at sq hq1 ⊢
    have hA8 : FolAt H H8 L S (had ++ [⟨g.section_, g.end_, outBy t g (z' == 1)⟩]) := by
      refine ⟨fun z o hz => sq _ _ (fr z o hz), hA.fl, hA.fs, ⟨bs ++ [p], sq _ _ L7, ?_⟩, putK kd (.inl (g.section_ : Int)) (.bl true), sq _ _ S7, ?_, fun s => ?_⟩
      · exact Paired.snoc (Paired.mono (fun _ _ z => sq _ _ (fr5 _ _ (sp1 _ _ z))) hPs) (sq _ _ (fr5 _ _ hp1))
      · rw [List.length_append, List.length_singleton]
        exact Nat.le_trans (length_putK _ _ _) (by omega)
      · rw [valV_put, List.any_append]
        by_cases es : s = g.section_
        · subst es
          rw [if_pos rfl]
          simp
        · have n1 : ¬ (Sum.inl (s : Int) : Key) = Sum.inl (g.section_ : Int) := fun z => es (Int.ofNat.inj (Sum.inl.inj z))
          rw [if_neg n1, hkv]
          have : (g.section_ == s) = false := beq_eq_false_iff_ne.mpr (fun z => es z.symm)
          simp [this]
    have hF8 : Fol t e cs (had ++ [⟨g.section_, g.end_, outBy t g (z' == 1)⟩]) u' (behind t ⟨g.section_, outBy t g (z' == 1)⟩) := by
      refine ⟨?_, ?_, fun q hq => ?_, hu', fun f' hf' => behind_end ok hf'⟩
      · rw [hway, hwalk, List.length_append, List.length_singleton]
      · rw [List.length_append, List.length_singleton]
        omega
      · rcases List.mem_append.mp hq with hq | hq
        · exact hF.sec q hq
        · rw [List.mem_singleton.mp hq]
          exact gs
    have fin : ∀ v, SpotV H8 v (behind t ⟨g.section_, outBy t g (z' == 1)⟩) → N [some (V.ref a), some (V.ref sp), some (V.ref lc), some (V.ref L), some (V.ref S), some (vi u'), some v, some (vi g.section_), some (vi z'), some (vi (outBy t g (z' == 1)))] H8 := fun v hv => by
      rw [eN]
      refine ⟨16 - (had.length + 1), by omega, ?_⟩
      rw [eW]
      exact ⟨_, u', _, v, _, _, _, by rw [List.length_append, List.length_singleton], rfl, hF8, hA8, hv⟩
    refine ⟨a, ak, as, q, t, ⟨g.section_, outBy t g (z' == 1)⟩, rfl, hT.mono hA8.same, hq1, fun e => fin _ (by rw [e]; rfl), fun f' b' e hb' => fin _ (by rw [e]; exact ⟨b', rfl, hb'⟩)⟩
end
end Sb
namespace Sb
open PySem PySem.Spec PyProof.Rows L2
/-! ### methods -/
structure Mth (P : Program) (w : World) (K : PySem.W.Frag) (mg : Str → Option Value) (base : Heap) (k : Nat) (C : Addr) (m : Str) (ps : List Str) (sp : Sp) : Prop where
  ex : ∃ f fd, Meth K C m f ∧ Binds K fd ps [] ∧ FnOk P w K mg base CX0 k f fd ps sp
theorem pe_mth {X : Cx} {k : Nat} {C : Addr} {m : Str} {ps : List Str} {sp : Sp} {o e : Expr} {es : List Expr} {ta : TE} {t : TA} {apos pos : Pos} {pl : Sem Bool} (M : Mth X.prog X.w X.K X.mg X.base k C m ps sp) (c : Cls X.K C) (hr : Room k X.A) (he : PE X o ta) (ha : PA X (e :: es) t)
    (hst : starEach (e :: es) X.env = (false, eval e X.env) :: starEach es X.env := by rfl) (hpl : (backTo pos (starEach es X.env)).any (·.1) = false := by rfl)
    (ht : eval (.Call (.Attribute o m apos) (e :: es) [] pos) X.env = (do
      let ov ← eval o X.env
      standAt apos.atName
      let (f, first) ← holding [ov] (getMethod ov m pl)
      callWith pos f first (backTo pos (starEach (e :: es) X.env)) (backToKw pos (keywordEach [] X.env))) := by rfl) :
    PE X (.Call (.Attribute o m apos) (e :: es) [] pos) (tMeth C m sp [] E0 ta t) := by
  obtain ⟨f, fd, h1, h2, h3⟩ := M.ex
  exact pe_meth he c h1 h3 hr h2 .nil pass0 ha hst hpl ht
theorem pe_mth0 {X : Cx} {k : Nat} {C : Addr} {m : Str} {ps : List Str} {sp : Sp} {o : Expr} {ta : TE} {apos pos : Pos} {pl : Sem Bool} (M : Mth X.prog X.w X.K X.mg X.base k C m ps sp) (c : Cls X.K C) (hr : Room k X.A) (he : PE X o ta)
    (ht : eval (.Call (.Attribute o m apos) [] [] pos) X.env = (do
      let ov ← eval o X.env
      standAt apos.atName
      let (f, first) ← holding [ov] (getMethod ov m pl)
      callWith pos f first (backTo pos (starEach [] X.env)) (backToKw pos (keywordEach [] X.env))) := by rfl) :
    PE X (.Call (.Attribute o m apos) [] [] pos) (tMeth C m sp [] E0 ta tNil) := by
  obtain ⟨f, fd, h1, h2, h3⟩ := M.ex
  exact pe_meth0 he c h1 h3 hr h2 .nil pass0 ht
/-! ### the reader -/
abbrev rfs : List Str := ["calls", "place"]
abbrev rf (ac : Addr) (pl : Nat) : List (Str × V) := [("calls", .ref ac), ("place", vi pl)]
def spReaderInit (C : Addr) : Sp := fun vs H Q _ => ∃ (r dx ac : Addr), vs = [.ref r, .ref ac] ∧ H r = some (.ins C dx []) ∧ Q .non (upd H r (.ins C dx (rf ac 0)))
def spIsDone (K : PySem.W.Frag) (C : Addr) : Sp := fun vs H Q _ => ∃ (r dx ac : Addr) (l : List Int) (pl : Nat), vs = [.ref r] ∧ H r = some (.ins C dx (rf ac pl)) ∧ SqL K H ac (l.map V.int) ∧ Q (.bl (decide (pl = l.length))) H
def spReadNumber (K : PySem.W.Frag) (C : Addr) : Sp := fun vs H Q _ => ∃ (r dx ac : Addr) (l : List Int) (pl : Nat) (z : Int), vs = [.ref r] ∧ H r = some (.ins C dx (rf ac pl)) ∧ SqL K H ac (l.map V.int) ∧ l[pl]? = some z ∧ Q (.int z) (upd H r (.ins C dx (rf ac (pl + 1))))
def spReadRow (K : PySem.W.Frag) (C : Addr) : Sp := fun vs H Q _ => ∃ (r dx ac : Addr) (l x rest : List Int) (pl : Nat), vs = [.ref r] ∧ H r = some (.ins C dx (rf ac pl)) ∧ SqL K H ac (l.map V.int) ∧ l.drop pl = (x.length : Int) :: (x ++ rest) ∧
  ∀ (H' : Hp) (p : Addr), H p = Option.none → H' p = some (.lst (x.map V.int)) → H' r = some (.ins C dx (rf ac (pl + (x.length + 1)))) → (∀ b o, H b = some o → b ≠ r → H' b = some o) → Live H H' → Q (.ref p) H'
section
variable {P : Program} {w : World} {K : PySem.W.Frag} {mg : Str → Option Value} {base : Heap}
theorem ok_Reader_init {f C : Addr} {fd : FuncData} (F : Fun K "__init__" "Reader.__init__" s_Reader_init f fd) (c : Tc K C rfs) : FnOk P w K mg base CX0 1 f fd ["self", "calls"] (spReaderInit C) := by
  refine F.ok sc_Reader_init (fun vs H Q E h => ?_) (fun cdv A outer s0 H vs Q E hr h => ?_)
  · obtain ⟨r, dx, ac, rfl, _⟩ := h
    rfl
  · obtain ⟨r, dx, ac, rfl, hx, k⟩ := h
    refine ⟨_, pss_cons (ps_fld (pv 0) (pv 1) (by rfl)) (pss_one (ps_fld (pv 0) pe_int (by rfl))), ?_⟩
    rw [show L2.start n_Reader_init [V.ref r, V.ref ac] = [some (V.ref r), some (V.ref ac)] from rfl]
    walk_at "rd"
    refine ⟨C, dx, [], hx, c.cl, c.na _ (by decide +kernel), by decide, C, dx, [("calls", .ref ac)], upd_same, c.cl, c.na _ (by decide +kernel), by show 1 < 1000; decide, ?_⟩
    rw [upd_upd]
    exact k
theorem ok_Reader_is_done {f C : Addr} {fd : FuncData} (F : Fun K "is_done" "Reader.is_done" s_Reader_is_done f fd) (T : TxB mg) (c : Tc K C rfs) : FnOk P w K mg base CX0 1 f fd ["self"] (spIsDone K C) := by
  refine F.ok sc_Reader_is_done (fun vs H Q E h => ?_) (fun cdv A outer s0 H vs Q E hr h => ?_)
  · obtain ⟨r, dx, ac, l, pl, rfl, _⟩ := h
    rfl
  · obtain ⟨r, dx, ac, l, pl, rfl, hx, hl, k⟩ := h
    refine ⟨_, pss_one (ps_ret (pe_cmpR op_eq (pe_fld (pv 0) (by rfl)) (pe_callB call_len_seq (by rfl) T.len PySem.boot_len (pa_cons (pe_fld (pv 0) (by rfl)) pa_nil)) (nomark _))), ?_⟩
    rw [show L2.start n_Reader_is_done [V.ref r] = [some (V.ref r)] from rfl]
    walk_at "rd"
    refine ⟨_, _, _, hx, c.cl, c.na _ (by decide +kernel), _, rfl, _, _, _, hx, c.cl, c.na _ (by decide +kernel), _, rfl, ac, rfl, _, .inl hl, rfl, ?_⟩
    rw [List.length_map]
    have e : decide (vi pl = V.int (l.length : Int)) = decide (pl = l.length) := by
      by_cases q : pl = l.length
      · rw [decide_eq_true q, decide_eq_true (by rw [q])]
      · rw [decide_eq_false q, decide_eq_false (fun z => q (vi_inj.mp z))]
    rw [e]
    exact k
theorem ok_Reader_read_number {f C : Addr} {fd : FuncData} (F : Fun K "read_number" "Reader.read_number" s_Reader_read_number f fd) (c : Tc K C rfs) : FnOk P w K mg base CX0 1 f fd ["self"] (spReadNumber K C) := by
  refine F.ok sc_Reader_read_number (fun vs H Q E h => ?_) (fun cdv A outer s0 H vs Q E hr h => ?_)
  · obtain ⟨r, dx, ac, l, pl, z, rfl, _⟩ := h
    rfl
  · obtain ⟨r, dx, ac, l, pl, z, rfl, hx, hl, hz, k⟩ := h
    have nd := sc_Reader_read_number.nd
    refine ⟨_, pss_cons (ps_set (i := 1) nd rfl (Or.inl rfl) (pe_ix ix_list (pe_fld (pv 0) (by rfl)) (pe_fld (pv 0) (by rfl)) (fun _ _ => rfl))) (pss_cons (ps_fldaug (pv 0) pe_int in_add) (pss_one (ps_ret (pv 1)))), ?_⟩
    rw [show L2.start n_Reader_read_number [V.ref r] = [some (V.ref r), none] from rfl]
    walk_at "rd"
    have hv : (l.map V.int)[pl]? = some (V.int z) := by rw [List.getElem?_map, hz]; rfl
    refine ⟨_, _, _, hx, c.cl, c.na _ (by decide +kernel), _, rfl, _, _, _, hx, c.cl, c.na _ (by decide +kernel), _, rfl, ac, rfl, _, (pl : Int), rfl, hl, _, atI_nat hv, ?_⟩
    refine ⟨_, _, _, hx, c.cl, c.na _ (by decide +kernel), _, rfl, (pl : Int), rfl, _, _, hx, by show 2 < 1000; decide, ?_⟩
    exact k
theorem cut_row {l x rest : List Int} {pl : Nat} (h : l.drop pl = (x.length : Int) :: (x ++ rest)) : cutV (l.map V.int) (some ((pl + 1 : Nat) : Int)) (some ((pl + 1 + x.length : Nat) : Int)) = x.map V.int := by
  have hlen : l.length - pl = x.length + 1 + rest.length := by
    have := congrArg List.length h
    rw [List.length_drop, List.length_cons, List.length_append] at this
    omega
  have hd : l.drop (pl + 1) = x ++ rest := by
    rw [← List.drop_drop, h]
    rfl
  unfold cutV
  rw [HT.sIx_nat, HT.sIx_nat, List.length_map, Nat.min_eq_left (by omega), Nat.min_eq_left (by omega), show pl + 1 + x.length - (pl + 1) = x.length by omega, ← List.map_drop, hd, ← List.map_take, List.take_left]
theorem ok_Reader_read_row {f C : Addr} {fd : FuncData} (F : Fun K "read_row" "Reader.read_row" s_Reader_read_row f fd) (c : Tc K C rfs) (M : Mth P w K mg base 1 C "read_number" ["self"] (spReadNumber K C)) : FnOk P w K mg base CX0 2 f fd ["self"] (spReadRow K C) := by
  refine F.ok sc_Reader_read_row (fun vs H Q E h => ?_) (fun cdv A outer s0 H vs Q E hr h => ?_)
  · obtain ⟨r, dx, ac, l, x, rest, pl, rfl, _⟩ := h
    rfl
  · obtain ⟨r, dx, ac, l, x, rest, pl, rfl, hx, hl, hd, k⟩ := h
    have nd := sc_Reader_read_row.nd
    refine ⟨_, pss_cons (ps_set (i := 1) nd rfl (Or.inl rfl) (pe_mth0 M c.cl hr (pv 0)))
      (pss_cons (ps_set (i := 2) nd rfl (Or.inl rfl) (pe_slice sl_list (pe_fld (pv 0) (by rfl)) (po_some (pe_fld (pv 0) (by rfl))) (po_some (pe_op op_add (pe_fld (pv 0) (by rfl)) (pv 1)))))
      (pss_cons (ps_fldaug (pv 0) (pv 1) in_add) (pss_one (ps_ret (pv 2))))), ?_⟩
    rw [show L2.start n_Reader_read_row [V.ref r] = [some (V.ref r), none, none] from rfl]
    walk_at "rd"
    have hz : l[pl]? = some (x.length : Int) := by
      have := congrArg (fun q => q[0]?) hd
      simpa using this
    refine ⟨_, _, hx, rfl, r, dx, ac, l, pl, _, rfl, hx, hl, hz, ?_⟩
    walk_at "rd"
    have hx1 : upd H r (.ins C dx (rf ac (pl + 1))) r = some (.ins C dx (rf ac (pl + 1))) := upd_same
    have nac : SqL K (upd H r (.ins C dx (rf ac (pl + 1)))) ac (l.map V.int) := by
      rcases hl with (q | ⟨o, q⟩) | q
      · exact .inl (.inl (by rw [upd_ne (ne_of q hx (by intro z; cases z))]; exact q))
      · exact .inl (.inr ⟨o, by rw [upd_ne (ne_of q hx (by intro z; cases z))]; exact q⟩)
      · exact .inr q
    refine ⟨_, _, _, hx1, c.cl, c.na _ (by decide +kernel), _, rfl, _, _, _, hx1, c.cl, c.na _ (by decide +kernel), _, rfl, ((pl + 1 : Nat) : Int), rfl, ?_⟩
    refine ⟨_, _, _, hx1, c.cl, c.na _ (by decide +kernel), _, rfl, ((pl + 1 : Nat) : Int), rfl, ac, rfl, _, nac, fun p hp => ?_⟩
    have hcut := cut_row hd
    rw [show ((pl + 1 + x.length : Nat) : Int) = ((pl + 1 : Nat) : Int) + (x.length : Int) by omega] at hcut
    rw [hcut]
    have npr : r ≠ p := fun e => by rw [← e, upd_same] at hp; cases hp
    have hp0 : H p = none := by rw [upd_ne npr.symm] at hp; exact hp
    have hx2 : upd (upd H r (.ins C dx (rf ac (pl + 1)))) p (.lst (x.map V.int)) r = some (.ins C dx (rf ac (pl + 1))) := by rw [upd_ne npr]; exact hx1
    refine ⟨_, _, _, hx2, c.cl, c.na _ (by decide +kernel), _, rfl, ((pl + 1 : Nat) : Int), rfl, _, _, hx2, by show 2 < 1000; decide, ?_⟩
    refine k _ p hp0 ?_ ?_ (fun b o hb hbr => ?_) (fun z hz => ?_)
    · rw [upd_ne npr.symm, upd_same]
    · rw [upd_same]
      have : ((pl + 1 : Nat) : Int) + (x.length : Int) = ((pl + (x.length + 1) : Nat) : Int) := by omega
      rw [this]
      rfl
    · rw [upd_ne hbr, upd_ne (ne_of_none hb hp0), upd_ne hbr]
      exact hb
    · have z1 := new_upd hx2 hz
      by_cases e : z = p
      · rw [e]
        exact hp0
      · rw [upd_ne e] at z1
        exact new_upd hx z1
end
end Sb
namespace Sb
open PySem PySem.Spec PyProof.Rows L2
/-! ### read_parts -/
open PyFlat (putRow putRows)
/-- the shapes' table as it stands at the text's top -/
def Shapes (K : PySem.W.Frag) (mg : Str → Option Value) (ss : List (Nat × Nat)) : Prop := ∃ sh, mg "SHAPES" = some (.ref sh) ∧ ∃ as : List Addr, (∀ H, SqT K H sh (as.map V.ref)) ∧ Paired (fun a s => ∀ H, SqT K H a [vi s.1, vi s.2]) as ss
def RowAt (H H' : Hp) (q : Addr) (x : List Int) : Prop := H q = Option.none ∧ H' q = some (.lst (x.map V.int))
def spReadParts (K : PySem.W.Frag) (C : Addr) (ss : List (Nat × Nat)) : Sp := fun vs H Q _ => ∃ (r dx ac : Addr) (l a rest : List Int) (xs : List (List Int)) (pl cl : Nat), vs = [.ref r, vi cl] ∧ H r = some (.ins C dx (rf ac pl)) ∧ SqL K H ac (l.map V.int) ∧ ss[cl]? = some (a.length, xs.length) ∧ l.drop pl = a ++ (putRows xs ++ rest) ∧ a.length + xs.length ≤ 1000 ∧
  ∀ (H' : Hp) (p : Addr) (ps : List Addr), H p = Option.none → H' p = some (.lst (a.map V.int ++ ps.map V.ref)) → Paired (RowAt H H') ps xs → H' r = some (.ins C dx (rf ac (pl + (a.length + (putRows xs).length)))) → (∀ b o, H b = some o → b ≠ r → H' b = some o) → Live H H' → Q (.ref p) H'
theorem sql_keep {K : PySem.W.Frag} {H H' : Hp} {ac r : Addr} {xs : List V} {C dx : Addr} {fs : List (Str × V)} (h : SqL K H ac xs) (hr : H r = some (.ins C dx fs)) (k : ∀ b o, H b = some o → b ≠ r → H' b = some o) : SqL K H' ac xs := by
  rcases h with (q | ⟨o, q⟩) | q
  · exact .inl (.inl (k _ _ q (ne_of q hr (by intro z; cases z))))
  · exact .inl (.inr ⟨o, k _ _ q (ne_of q hr (by intro z; cases z))⟩)
  · exact .inr q
theorem putRows_app : ∀ (x y : List (List Int)), putRows (x ++ y) = putRows x ++ putRows y
  | [], _ => rfl
  | a :: x, y => by
    show putRow a ++ putRows (x ++ y) = (putRow a ++ putRows x) ++ putRows y
    rw [putRows_app x y, List.append_assoc]
section
variable {P : Program} {w : World} {K : PySem.W.Frag} {mg : Str → Option Value} {base : Heap}
theorem ok_Reader_read_parts {f C : Addr} {fd : FuncData} {ss : List (Nat × Nat)} (F : Fun K "read_parts" "Reader.read_parts" s_Reader_read_parts f fd) (T : TxB mg) (c : Tc K C rfs) (hS : Shapes K mg ss) (M1 : Mth P w K mg base 1 C "read_number" ["self"] (spReadNumber K C)) (M2 : Mth P w K mg base 2 C "read_row" ["self"] (spReadRow K C)) : FnOk P w K mg base CX0 3 f fd ["self", "call"] (spReadParts K C ss) := by
  refine F.ok sc_Reader_read_parts (fun vs H Q E h => ?_) (fun cdv A outer s0 H vs Q E hr h => ?_)
  · obtain ⟨r, dx, ac, l, a, rest, xs, pl, cl, rfl, _⟩ := h
    rfl
  · obtain ⟨r, dx, ac, l, a, rest, xs, pl, cl, rfl, hx, hl, hss, hd, hsm, k⟩ := h
    obtain ⟨sh, hsh, as, has, hP⟩ := hS
    have nd := sc_Reader_read_parts.nd
    have hr1 : Room 1 _ := hr.mono (by decide)
    refine ⟨_, pss_cons (ps_set (i := 2) nd rfl (Or.inl rfl) (pe_ix ix_tup (pe_glob (v := .ref sh) (by rfl) hsh rfl) (pv 1) (fun _ _ => rfl)))
      (pss_cons (ps_set (i := 3) nd rfl (Or.inl rfl) (pe_lst pa_nil))
      (pss_cut (ps_while PassesOwn.never (pt_cmpR op_lt (pe_callB call_len_seq (by rfl) T.len PySem.boot_len (pa_cons (pv 3) pa_nil)) (pe_ix ix_tup (pv 2) pe_int (fun _ _ => rfl)) (nomark _)) (pss_one (ps_expr (pe_bm PySem.F.plainAttrs_list PySem.F.slot_list_append PySem.F.type_list_append mt_append (pv 3) (pa_cons (pe_mth0 M1 c.cl hr1 (pv 0)) pa_nil)))))
      (pss_cut (ps_while PassesOwn.never (pt_cmpR op_lt (pe_callB call_len_seq (by rfl) T.len PySem.boot_len (pa_cons (pv 3) pa_nil)) (pe_op op_add (pe_ix ix_tup (pv 2) pe_int (fun _ _ => rfl)) (pe_ix ix_tup (pv 2) pe_int (fun _ _ => rfl))) (nomark _)) (pss_one (ps_expr (pe_bm PySem.F.plainAttrs_list PySem.F.slot_list_append PySem.F.type_list_append mt_append (pv 3) (pa_cons (pe_mth0 M2 c.cl hr (pv 0)) pa_nil)))))
      (pss_one (ps_ret (pv 3)))))), ?_⟩
    rw [show L2.start n_Reader_read_parts [V.ref r, vi cl] = [some (V.ref r), some (vi cl), none, none] from rfl]
    obtain ⟨s0', es0, hs0⟩ := Paired.get2 hP hss
    have ksh : (as.map V.ref)[cl]? = some (V.ref s0') := by rw [List.getElem?_map, es0]; rfl
    walk_at "rd"
    refine ⟨_, has H, _, atI_nat ksh, Nat.zero_le _, fun p hp => ?_⟩
    have nrp : r ≠ p := ne_of_none hx hp
    obtain ⟨M, eM⟩ : ∃ M : L2.St → Hp → Prop, M = fun σ' H' => σ' = [some (V.ref r), some (vi cl), some (V.ref s0'), some (V.ref p)] ∧ H' p = some (.lst (a.map V.int)) ∧ H' r = some (.ins C dx (rf ac (pl + a.length))) ∧ (∀ b o, H b = some o → b ≠ r → H' b = some o) ∧ Live H H' := ⟨_, rfl⟩
    refine ⟨M, ?_, ?_⟩
    · refine ⟨fun m σ' H' => ∃ i : Nat, m = a.length - i ∧ i ≤ a.length ∧ σ' = [some (V.ref r), some (vi cl), some (V.ref s0'), some (V.ref p)] ∧ H' p = some (.lst ((a.take i).map V.int)) ∧ H' r = some (.ins C dx (rf ac (pl + i))) ∧ (∀ b o, H b = some o → b ≠ r → H' b = some o) ∧ Live H H', ⟨a.length, 0, rfl, Nat.zero_le _, rfl, upd_same, by rw [upd_ne nrp]; exact hx, fun b o hb _ => by rw [upd_ne (ne_of_none hb hp)]; exact hb, fun z hz => ?_⟩, ?_⟩
      · by_cases e : z = p
        · rw [e]
          exact hp
        · rw [upd_ne e] at hz
          exact hz
      rintro m σ' H' ⟨i, rfl, hi, rfl, h1, h2, h3, h4⟩
      walk_at "rd"
      refine ⟨_, .inl (SqL.of h1), _, hs0 H', _, atI_nat (j := 0) rfl, (a.length : Int), rfl, ?_⟩
      rw [List.length_map, List.length_take, Nat.min_eq_left hi]
      by_cases hlt : i < a.length
      · rw [if_pos (decide_eq_true (by omega))]
        obtain ⟨N, eN⟩ : ∃ N : L2.St → Hp → Prop, N = fun σ' H' => ∃ m', m' < a.length - i ∧ ∃ i : Nat, m' = a.length - i ∧ i ≤ a.length ∧ σ' = [some (V.ref r), some (vi cl), some (V.ref s0'), some (V.ref p)] ∧ H' p = some (.lst ((a.take i).map V.int)) ∧ H' r = some (.ins C dx (rf ac (pl + i))) ∧ (∀ b o, H b = some o → b ≠ r → H' b = some o) ∧ Live H H' := ⟨_, rfl⟩
        refine ⟨N, fun σ' H' z => by rw [eN] at z; exact z, .inl ⟨rfl, _, SqL.of h1⟩, _, _, h2, rfl, ?_⟩
        have hz := List.getElem?_eq_getElem hlt
        have hz2 : l[pl + i]? = some a[i] := by
          have : (l.drop pl)[i]? = some a[i] := by rw [hd, List.getElem?_append_left hlt, hz]
          rwa [List.getElem?_drop] at this
        refine ⟨r, dx, ac, l, pl + i, a[i], rfl, h2, sql_keep hl hx h3, hz2, (a.take i).map V.int, ?_, ?_, ?_⟩
        · rw [upd_ne nrp.symm]
          exact h1
        · rw [List.length_map, List.length_take, sizeLine_eq]
          omega
        · rw [eN]
          refine ⟨a.length - (i + 1), by omega, i + 1, rfl, hlt, rfl, ?_, ?_, fun b o hb hbr => ?_, Live.upd (Live.upd h4 h2) (by rw [upd_ne nrp.symm]; exact h1)⟩
          · rw [upd_same, take_snoc hz, List.map_append]
            rfl
          · rw [upd_ne nrp, upd_same]
            rfl
          · rw [upd_ne (ne_of_none hb hp), upd_ne hbr]
            exact h3 b o hb hbr
      · rw [if_neg (by rw [decide_eq_true_eq]; omega), eM]
        have e : i = a.length := by omega
        subst e
        rw [List.take_length] at h1
        exact ⟨rfl, h1, h2, h3, h4⟩
    intro σ' H1 z
    rw [eM] at z
    obtain ⟨rfl, h1, h2, h3, h4⟩ := z
    obtain ⟨M', eM'⟩ : ∃ M : L2.St → Hp → Prop, M = fun σ' H' => σ' = [some (V.ref r), some (vi cl), some (V.ref s0'), some (V.ref p)] ∧ ∃ ps : List Addr, H' p = some (.lst (a.map V.int ++ ps.map V.ref)) ∧ Paired (RowAt H H') ps xs ∧ H' r = some (.ins C dx (rf ac (pl + (a.length + (putRows xs).length)))) ∧ (∀ b o, H b = some o → b ≠ r → H' b = some o) ∧ Live H H' := ⟨_, rfl⟩
    refine ⟨M', ?_, ?_⟩
    · obtain ⟨W, eW⟩ : ∃ W : Nat → L2.St → Hp → Prop, W = fun m σ' H' => ∃ (j : Nat) (ps : List Addr), m = xs.length - j ∧ j ≤ xs.length ∧ σ' = [some (V.ref r), some (vi cl), some (V.ref s0'), some (V.ref p)] ∧ H' p = some (.lst (a.map V.int ++ ps.map V.ref)) ∧ Paired (RowAt H H') ps (xs.take j) ∧ H' r = some (.ins C dx (rf ac (pl + (a.length + (putRows (xs.take j)).length)))) ∧ (∀ b o, H b = some o → b ≠ r → H' b = some o) ∧ Live H H' ∧ ∀ q ∈ ps, q ≠ p := ⟨_, rfl⟩
      refine ⟨W, ⟨xs.length, ?_⟩, ?_⟩
      · rw [eW]
        exact ⟨0, [], rfl, Nat.zero_le _, rfl, by rw [List.map_nil, List.append_nil]; exact h1, .nil, h2, h3, h4, fun q hq => (by cases hq)⟩
      intro m σ' H' z
      rw [eW] at z
      obtain ⟨j, ps, rfl, hj, rfl, g1, g2, g3, g4, g5, g6⟩ := z
      have lps := Paired.len g2
      rw [List.length_take, Nat.min_eq_left hj] at lps
      walk_at "rd"
      refine ⟨_, .inl (SqL.of g1), _, hs0 H', _, atI_nat (j := 0) rfl, _, hs0 H', _, atI_nat (j := 1) rfl, (a.length : Int), rfl, (xs.length : Int), rfl, ?_⟩
      rw [List.length_append, List.length_map, List.length_map, lps]
      by_cases hlt : j < xs.length
      · rw [if_pos (decide_eq_true (by omega))]
        obtain ⟨N, eN⟩ : ∃ N : L2.St → Hp → Prop, N = fun σ' H' => ∃ m', m' < xs.length - j ∧ W m' σ' H' := ⟨_, rfl⟩
        refine ⟨N, fun σ' H' z => by rw [eN] at z; exact z, .inl ⟨rfl, _, SqL.of g1⟩, _, _, g3, rfl, ?_⟩
        have hz := List.getElem?_eq_getElem hlt
        have hdr : l.drop (pl + (a.length + (putRows (xs.take j)).length)) = ((xs[j]).length : Int) :: (xs[j] ++ (putRows (xs.drop (j + 1)) ++ rest)) := by
          rw [← List.drop_drop, hd, ← List.drop_drop, List.drop_left]
          have e1 : putRows xs = putRows (xs.take j) ++ (putRow xs[j] ++ putRows (xs.drop (j + 1))) := by
            conv => lhs; rw [← List.take_append_drop j xs, putRows_app, List.drop_eq_getElem_cons hlt]
            rfl
          rw [e1, List.append_assoc, List.drop_left]
          show (((xs[j]).length : Int) :: xs[j] ++ putRows (xs.drop (j + 1))) ++ rest = _
          rw [List.append_assoc]
          rfl
        refine ⟨r, dx, ac, l, xs[j], _, _, rfl, g3, sql_keep hl hx g4, hdr, fun H2 q y1 y2 y3 y4 y5 => ?_⟩
        have p2 : H2 p = some (.lst (a.map V.int ++ ps.map V.ref)) := y4 _ _ g1 nrp.symm
        have nqp : q ≠ p := fun e => by rw [e, g1] at y1; cases y1
        refine ⟨_, p2, ?_, ?_⟩
        · rw [List.length_append, List.length_map, List.length_map, lps, sizeLine_eq]
          omega
        · rw [eN]
          refine ⟨xs.length - (j + 1), by omega, ?_⟩
          rw [eW]
          refine ⟨j + 1, ps ++ [q], rfl, hlt, rfl, ?_, ?_, ?_, fun b o hb hbr => ?_, Live.upd (fun z hz => g5 _ (y5 _ hz)) p2, fun q' hq' => ?_⟩
          · rw [upd_same, List.map_append, List.append_assoc]
            rfl
          · rw [take_snoc hz]
            refine Paired.snoc (Paired.mono2 g2 fun b x hb hx' => ⟨hx'.1, ?_⟩) ⟨g5 _ y1, ?_⟩
            · rw [upd_ne (g6 b hb)]
              exact y4 _ _ hx'.2 (ne_of hx'.2 g3 (by intro z; cases z))
            · rw [upd_ne nqp]
              exact y2
          · rw [upd_ne nrp, y3, take_snoc hz, putRows_app, List.length_append]
            have : (putRows [xs[j]]).length = (xs[j]).length + 1 := by
              show (putRow xs[j] ++ []).length = _
              rw [List.append_nil]
              rfl
            rw [this]
            simp only [Nat.add_assoc]
          · rw [upd_ne (ne_of_none hb hp)]
            exact y4 _ _ (g4 b o hb hbr) hbr
          · rcases List.mem_append.mp hq' with m | m
            · exact g6 q' m
            · rw [List.mem_singleton.mp m]
              exact nqp
      · rw [if_neg (by rw [decide_eq_true_eq]; omega), eM']
        have e : j = xs.length := by omega
        subst e
        rw [List.take_length] at g2 g3
        exact ⟨rfl, ps, g1, g2, g3, g4, g5⟩
    intro σ' H' z
    rw [eM'] at z
    obtain ⟨rfl, ps, q1, q2, q3, q4, q5⟩ := z
    walk_at "rd"
    exact k H' p ps hp q1 q2 q3 q4 q5
end
end Sb
namespace Sb
open PySem PySem.Spec PyProof.Rows L2
/-! ### what the caller changes leaves the box as it is -/
theorem BoxAt.outer {c : Ad} {n : Nat} {ρ : Rho} {H H' : Hp} {x : Addr} {b : Rail.Box} (hB : BoxAt c n ρ H x b) (bt : But (· = .outer) ρ H H') (own' : Own c ρ H') : BoxAt c n ρ H' x b := by
  obtain ⟨dx, a, ak, as, sl, td, rd, kt, kr, h1, h2, ⟨h3, h3'⟩, ⟨h4, h4', h4''⟩, h5, h5', h5''⟩ := hB.ex
  refine ⟨own', hB.wf, hB.small, hB.me, dx, a, ak, as, sl, td, rd, kt, kr, bt _ _ h1 (fun r e => by rw [hB.me] at e; cases e; decide), TrackIn.move h2 hB.own bt.keep (Ext.refl _ _), ⟨h3, bt _ _ h3' (fun r e => by rw [h3] at e; cases e; decide)⟩, ⟨h4, bt _ _ h4' (fun r e => by rw [h4] at e; cases e; decide), h4''.nodup, fun kv m => ?_, h4''.has⟩, h5, bt _ _ h5' (fun r e => by rw [h5] at e; cases e; decide), Paired.mono (fun _ _ q => q.but bt hB.own (by intro z; cases z)) h5''⟩
  obtain ⟨k, p, t, e, q1, q2⟩ := h4''.keys kv m
  exact ⟨k, p, t, e, q1, q2.but bt hB.own (by intro z; cases z) (by intro z; cases z) (by intro z; cases z)⟩
theorem StAt.outer {c : Ad} {n : Nat} {ρ : Rho} {H H' : Hp} {x : Addr} (bt : But (· = .outer) ρ H H') (own' : Own c ρ H') : ∀ {st : Rail.State}, StAt c n ρ H x st → StAt c n ρ H' x st
  | some _, h => BoxAt.outer h bt own'
  | none, ⟨h0, _, h2, dx, sl, td, rd, h3⟩ => ⟨h0, own', h2, dx, sl, td, rd, bt _ _ h3 (fun r e => by rw [h2] at e; cases e; decide)⟩
theorem own_frame {c : Ad} {ρ : Rho} {H H' : Hp} {r : Addr} (o : Own c ρ H) (hr : ρ r = some .outer) {u : HO} (hu : H' r = some u) (ku : KindOk c .outer u) (k : ∀ b o, H b = some o → b ≠ r → H' b = some o) : Own c ρ H' := fun b q e => by
  by_cases z : b = r
  · subst z
    rw [hr] at e
    cases e
    exact ⟨u, hu, ku⟩
  · obtain ⟨u', h1, h2⟩ := o b q e
    exact ⟨u', k _ _ h1 z, h2⟩
theorem but_frame {ρ : Rho} {H H' : Hp} {r : Addr} (hr : ρ r = some .outer) (k : ∀ b o, H b = some o → b ≠ r → H' b = some o) : But (· = .outer) ρ H H' := fun b o hb n => k b o hb fun e => n .outer (by rw [e]; exact hr) rfl
/-! ### how long answers are -/
theorem walk_len {t : Rail.Track} : ∀ (n : Nat) (had : List Rail.Step) (cs : List Bool) (o : Option Rail.End) (w : List Rail.Step), walk t n had cs o = .ok w → w.length ≤ had.length + n
  | n, had, cs, none, w, h => by
    unfold walk at h
    split at h
    · cases h
      omega
    · cases h
  | 0, had, cs, some f, w, h => by
    unfold walk at h
    cases h
  | m + 1, had, cs, some f, w, h => by
    unfold walk at h
    split at h
    · cases h
    · split at h
      · split at h
        · cases h
        · have := walk_len m _ _ _ _ h
          rw [List.length_append, List.length_singleton] at this
          omega
      · have := walk_len m _ _ _ _ h
        rw [List.length_append, List.length_singleton] at this
        omega
theorem res_len {t : Rail.Track} {i : Nat} {c : List Nat} {w : List Rail.Step} (h : wayRes t i c = .ok w) : w.length ≤ 16 := by
  unfold wayRes at h
  split at h
  · cases h
  · split at h
    · cases h
    · split at h
      · cases h
      · cases h
      · rename_i e
        cases h
        rw [way_walk] at e
        have := walk_len _ _ _ _ _ e
        simpa [Rail.MOST] using this
theorem shown_len (a : Rail.Answer) : (RailNeutral.shown a).length = 1 + (a.lists.map fun l => l.length + 1).sum := by
  unfold RailNeutral.shown
  rw [List.length_cons, List.length_flatMap]
  simp [Nat.add_comm]
theorem ans_len {n : Nat} {b : Rail.Box} (wf : Wf n b) (call : Rail.Call) : (RailNeutral.shown (Rail.step (some b) call).2).length ≤ 60 + 3 * n := by
  rw [shown_len]
  have says1 : ∀ z : Int, 1 + ((Rail.says z).lists.map fun l => l.length + 1).sum ≤ 60 + 3 * n := fun z => by
    show 1 + 0 ≤ _
    omega
  have stepsN : ∀ w : List Rail.Step, (Rail.stepNums w).length = 3 * w.length := nums_len
  cases call with
  | way i cs =>
    have e1 : Rail.step (some b) (.way i cs) = match wayRes b.track i cs with | .error z => (some b, Rail.says z) | .ok w => (some b, ⟨(w.length : Nat), [Rail.stepNums w]⟩) := (show _ = _ from ofWay_eq b i cs (fun z => (some b, Rail.says z)) fun w => (some b, ⟨(w.length : Nat), [Rail.stepNums w]⟩))
    rw [e1]
    cases e : wayRes b.track i cs with
    | error z => exact says1 z
    | ok w =>
      have := res_len e
      show 1 + ((Rail.stepNums w).length + 1 + 0) ≤ _
      rw [stepsN]
      omega
  | route i cs =>
    have e1 : Rail.step (some b) (.route i cs) = match wayRes b.track i cs with | .error z => (some b, Rail.says z) | .ok w => if (b.route i).isSome = true then (some b, Rail.says (-8)) else match w.find? fun (x : Rail.Step) => !b.free x.section_ with
      | some x => (some b, ⟨-5, [[x.section_]]⟩)
      | none => (some ⟨b.track, b.laid w, b.routes ++ [⟨i, w⟩], b.trains⟩, Rail.says (w.length : Nat)) := (show _ = _ from ofWay_eq b i cs (fun z => (some b, Rail.says z)) fun w => if (b.route i).isSome = true then (some b, Rail.says (-8)) else match w.find? fun (x : Rail.Step) => !b.free x.section_ with
      | some x => (some b, ⟨-5, [[x.section_]]⟩)
      | none => (some ⟨b.track, b.laid w, b.routes ++ [⟨i, w⟩], b.trains⟩, Rail.says (w.length : Nat)))
    rw [e1]
    cases e : wayRes b.track i cs with
    | error z => exact says1 z
    | ok w =>
      dsimp only
      split
      · exact says1 _
      · split
        · show 1 + (1 + 1 + 0) ≤ _
          omega
        · exact says1 _
  | train k =>
    show 1 + ((match b.train k with | none => _ | some t => _ : Rail.State × Rail.Answer).2.lists.map fun l => l.length + 1).sum ≤ _
    cases e : b.train k with
    | none => exact says1 _
    | some t =>
      have ht : b.trains[k]? = some (some t) := by
        unfold Rail.Box.train at e
        cases q : b.trains[k]? with
        | none => rw [q] at e; cases e
        | some o => rw [q] at e; rw [show o = some t from e]
      have := (wf.steps k t ht).2
      show 1 + ((Rail.stepNums t.on).length + 1 + ((Rail.stepNums t.ahead).length + 1 + 0)) ≤ _
      rw [stepsN, stepsN]
      omega
  | lay p j g =>
    show 1 + ((match Rail.trackIn p j g with | none => _ | some t => _ : Rail.State × Rail.Answer).2.lists.map fun l => l.length + 1).sum ≤ _
    cases Rail.trackIn p j g <;> exact says1 _
  | put u e =>
    simp only [Rail.step, Rail.of]
    split
    · exact says1 _
    split
    · exact says1 _
    split
    · exact says1 _
    split <;> exact says1 _
  | take k =>
    simp only [Rail.step, Rail.of, Rail.ofTrain]
    split
    · exact says1 _
    split <;> exact says1 _
  | cancel i =>
    simp only [Rail.step, Rail.of]
    split
    · exact says1 _
    split <;> exact says1 _
  | front k =>
    simp only [Rail.step, Rail.of, Rail.ofTrain]
    split
    · exact says1 _
    split
    · exact says1 _
    split
    · exact says1 _
    split
    · exact says1 _
    split
    · exact says1 _
    split <;> exact says1 _
  | rear k =>
    simp only [Rail.step, Rail.of, Rail.ofTrain]
    split
    · exact says1 _
    split <;> exact says1 _
  | back k =>
    simp only [Rail.step, Rail.of, Rail.ofTrain]
    split
    · exact says1 _
    split <;> exact says1 _
  | points u z =>
    simp only [Rail.step, Rail.of]
    split
    · exact says1 _
    split <;> exact says1 _
  | section_ u =>
    simp only [Rail.step, Rail.of]
    split
    · exact says1 _
    split
    · show 1 + (2 + 1 + 0) ≤ _
      omega
    split
    · show 1 + (2 + 1 + 0) ≤ _
      omega
    · show 1 + (1 + 1 + 0) ≤ _
      omega
  | signal i =>
    simp only [Rail.step, Rail.of]
    split <;> exact says1 _
  | count =>
    show 1 + (2 + 1 + 0) ≤ _
    omega
theorem ans_len0 (call : Rail.Call) : (RailNeutral.shown (Rail.step none call).2).length ≤ 60 := by
  cases call with
  | lay p j g =>
    show (RailNeutral.shown (match Rail.trackIn p j g with | none => _ | some t => _ : Rail.State × Rail.Answer).2).length ≤ _
    cases Rail.trackIn p j g <;> (show 1 ≤ 60; omega)
  | _ => show 1 ≤ 60; omega
theorem st_len {c : Ad} {n : Nat} {ρ : Rho} {H : Hp} {x : Addr} (call : Rail.Call) : ∀ {st : Rail.State}, StAt c n ρ H x st → (RailNeutral.shown (Rail.step st call).2).length ≤ 60 + 3 * n
  | some b, h => ans_len (BoxAt.wf h) call
  | none, _ => Nat.le_trans (ans_len0 call) (by omega)
theorem told_app (x y : List (List Int)) : PyFlat.told (x ++ y) = PyFlat.told x ++ PyFlat.told y := by
  unfold PyFlat.told
  rw [List.flatMap_append]
theorem whole_eq (c : List (List Int)) : PyWrrail.whole c = c := by
  unfold PyWrrail.whole
  split <;> rfl
theorem natural_nn {z : Int} {k : Nat} (h : RailNeutral.natural z k = true) : 0 ≤ z := by
  unfold RailNeutral.natural at h
  rw [Bool.and_eq_true] at h
  exact of_decide_eq_true h.1
theorem all_nn {l : List Int} (h : l.all (fun (z : Int) => RailNeutral.natural z 63) = true) : RailNeutral.whole l = true := List.all_eq_true.mpr fun z hz => decide_eq_true (natural_nn (List.all_eq_true.mp h z hz))
theorem call_of {c : List (List Int)} (h : RailNeutral.asked1 c = true) : ∃ x, RailNeutral.callOf c = some x := by
  unfold RailNeutral.asked1 at h
  unfold RailNeutral.callOf
  split at h <;> (try simp only [Bool.and_eq_true] at h)
  all_goals first
    | exact ⟨_, rfl⟩
    | (refine ⟨_, if_pos ?_⟩; simp only [RailNeutral.whole, List.all_cons, List.all_nil, Bool.and_true, decide_eq_true_eq]; exact natural_nn h)
    | (refine ⟨_, if_pos ?_⟩; simp only [RailNeutral.whole, List.all_cons, List.all_nil, Bool.and_true, Bool.and_eq_true, decide_eq_true_eq]; exact ⟨natural_nn h.1, natural_nn h.2⟩)
    | (refine ⟨_, if_pos ?_⟩; rw [Bool.and_eq_true, Bool.and_eq_true]; exact ⟨all_nn h.1, all_nn h.2.1, all_nn h.2.2⟩)
    | (refine ⟨_, if_pos ?_⟩; rw [Bool.and_eq_true]; refine ⟨?_, all_nn h.2⟩; simp only [RailNeutral.whole, List.all_cons, List.all_nil, Bool.and_true, decide_eq_true_eq]; exact natural_nn h.1)
    | (cases h)
end Sb
namespace Sb
open PySem PySem.Spec PyProof.Rows L2
/-! ### each section belongs to one train or one route at most: the specification keeps it -/
theorem thr_app (x y : List Rail.Step) (s : Nat) : through (x ++ y) s = (through x s || through y s) := List.any_append
structure Disj (b : Rail.Box) : Prop where
  tt : ∀ (k k' : Nat) (t t' : Rail.Train) (s : Nat), b.trains[k]? = some (some t) → b.trains[k']? = some (some t') → through t.steps s = true → through t'.steps s = true → k = k'
  tr : ∀ (k : Nat) (t : Rail.Train) (r : Rail.Route) (s : Nat), b.trains[k]? = some (some t) → r ∈ b.routes → through t.steps s = true → through r.way s = false
  rr : ∀ (r r' : Rail.Route) (s : Nat), r ∈ b.routes → r' ∈ b.routes → through r.way s = true → through r'.way s = true → r.signal = r'.signal
def DisjSt : Rail.State → Prop
  | some b => Disj b
  | none => True
theorem Disj.retrain {b : Rail.Box} (d : Disj b) (k : Nat) (t' : Rail.Train) (tu : List Bool) (rs' : List Rail.Route) (hsub : ∀ r ∈ rs', r ∈ b.routes)
    (h : ∀ s, through t'.steps s = true → (∀ (k' : Nat) (t : Rail.Train), k' ≠ k → b.trains[k']? = some (some t) → through t.steps s = false) ∧ ∀ r ∈ rs', through r.way s = false) : Disj ⟨b.track, tu, rs', b.trains.set k (some t')⟩ := by
  refine ⟨fun k1 k2 t1 t2 s h1 h2 q1 q2 => ?_, fun k1 t1 r s h1 hr q1 => ?_, fun r r' s h1 h2 => d.rr r r' s (hsub r h1) (hsub r' h2)⟩
  · rcases set_none h1 with ⟨e1, e1'⟩ | ⟨e1, e1'⟩
    · rcases set_none h2 with ⟨e2, _⟩ | ⟨e2, e2'⟩
      · rw [e1, e2]
      · cases e1'
        have := (h s q1).1 k2 t2 e2 e2'
        rw [q2] at this
        cases this
    · rcases set_none h2 with ⟨e2, e2'⟩ | ⟨e2, e2'⟩
      · cases e2'
        have := (h s q2).1 k1 t1 e1 e1'
        rw [q1] at this
        cases this
      · exact d.tt k1 k2 t1 t2 s e1' e2' q1 q2
  · rcases set_none h1 with ⟨e1, e1'⟩ | ⟨e1, e1'⟩
    · cases e1'
      exact (h s q1).2 r hr
    · exact d.tr k1 t1 r s e1' (hsub r hr) q1
theorem Disj.same {b : Rail.Box} (d : Disj b) {k : Nat} {t t' : Rail.Train} (ht : b.trains[k]? = some (some t)) (h : ∀ s, through t'.steps s = true → through t.steps s = true) : Disj (Rail.withTrain b k (some t')) := by
  refine d.retrain k t' b.turned b.routes (fun _ h => h) fun s hs => ⟨fun k' t2 hk h2 => ?_, fun r hr => d.tr k t r s ht hr (h s hs)⟩
  cases q : through t2.steps s with
  | false => rfl
  | true => exact absurd (d.tt k' k t2 t s h2 ht q (h s hs)) hk
theorem train_at {b : Rail.Box} {k : Nat} {t : Rail.Train} (h : b.train k = some t) : b.trains[k]? = some (some t) := by
  unfold Rail.Box.train at h
  cases q : b.trains[k]? with
  | none => rw [q] at h; cases h
  | some o => rw [q] at h; rw [show o = some t from h]
theorem find_mem {b : Rail.Box} {i : Nat} {r : Rail.Route} (h : b.route i = some r) : r ∈ b.routes ∧ r.signal = i := by
  refine ⟨List.mem_of_find?_eq_some h, ?_⟩
  have := List.find?_some h
  simpa using this
theorem thr_drop {l : List Rail.Step} {s : Nat} (h : through l.dropLast s = true) : through l s = true := by
  obtain ⟨x, hx, e⟩ := List.any_eq_true.mp h
  exact List.any_eq_true.mpr ⟨x, List.dropLast_subset _ hx, e⟩
theorem thr_turn {l : List Rail.Step} {s : Nat} (h : through (l.map Rail.Step.turned).reverse s = true) : through l s = true := by
  obtain ⟨x, hx, e⟩ := List.any_eq_true.mp h
  obtain ⟨y, hy, rfl⟩ := List.mem_map.mp (List.mem_reverse.mp hx)
  exact List.any_eq_true.mpr ⟨y, hy, e⟩
theorem free_steps {b : Rail.Box} {s : Nat} (h : b.free s = true) : (∀ (k : Nat) (t : Rail.Train), b.trains[k]? = some (some t) → through t.steps s = false) ∧ ∀ r ∈ b.routes, through r.way s = false := by
  obtain ⟨h1, h2⟩ := free_iff.mp h
  refine ⟨fun k t ht => ?_, h2⟩
  show through (t.on ++ t.ahead) s = false
  rw [thr_app, (h1 k t ht).1, (h1 k t ht).2]
  rfl
theorem step_disj : ∀ (st : Rail.State) (call : Rail.Call), DisjSt st → DisjSt (Rail.step st call).1
  | st, .lay p j g, d => by
    show DisjSt (match Rail.trackIn p j g with | none => _ | some t => _ : Rail.State × Rail.Answer).1
    cases Rail.trackIn p j g with
    | none => exact d
    | some t =>
      refine ⟨fun k k' t1 t2 s h1 => ?_, fun k t1 r s h1 => ?_, fun r r' s h1 => (by cases h1)⟩
      · have h1 : (List.replicate Rail.TRAINS (none : Option Rail.Train))[k]? = some (some t1) := h1
        rw [List.getElem?_replicate] at h1
        split at h1 <;> cases h1
      · have h1 : (List.replicate Rail.TRAINS (none : Option Rail.Train))[k]? = some (some t1) := h1
        rw [List.getElem?_replicate] at h1
        split at h1 <;> cases h1
  | none, .put _ _, _ | none, .take _, _ | none, .route _ _, _ | none, .way _ _, _ | none, .cancel _, _ | none, .front _, _ | none, .rear _, _ | none, .back _, _ | none, .points _ _, _ | none, .section_ _, _ | none, .signal _, _ | none, .train _, _ | none, .count, _ => trivial
  | some b, .put u e, d => by
    have d : Disj b := d
    simp only [Rail.step, Rail.of]
    split
    · exact d
    split
    · exact d
    rename_i hf
    split
    · exact d
    split
    · exact d
    · rename_i k ek
      have hf : b.free u = true := by simpa using hf
      obtain ⟨f1, f2⟩ := free_steps hf
      refine d.retrain k _ b.turned b.routes (fun _ h => h) fun s hs => ?_
      have es : u = s := by
        have : ((u == s) || false) = true := hs
        simpa using this
      subst es
      exact ⟨fun k' t _ ht => f1 k' t ht, f2⟩
  | some b, .take k, d => by
    have d : Disj b := d
    simp only [Rail.step, Rail.of, Rail.ofTrain]
    split
    · exact d
    split
    · exact d
    · refine ⟨fun k1 k2 t1 t2 s h1 h2 => ?_, fun k1 t1 r s h1 => ?_, d.rr⟩
      · rcases set_none h1 with ⟨_, e⟩ | ⟨_, e⟩
        · cases e
        rcases set_none h2 with ⟨_, e'⟩ | ⟨_, e'⟩
        · cases e'
        exact d.tt k1 k2 t1 t2 s e e'
      · rcases set_none h1 with ⟨_, e⟩ | ⟨_, e⟩
        · cases e
        exact d.tr k1 t1 r s e
  | some b, .route i cs, d => by
    have d : Disj b := d
    have e1 : Rail.step (some b) (.route i cs) = match wayRes b.track i cs with | .error z => (some b, Rail.says z) | .ok w => if (b.route i).isSome = true then (some b, Rail.says (-8)) else match w.find? fun (x : Rail.Step) => !b.free x.section_ with
      | some x => (some b, ⟨-5, [[x.section_]]⟩)
      | none => (some ⟨b.track, b.laid w, b.routes ++ [⟨i, w⟩], b.trains⟩, Rail.says (w.length : Nat)) := (show _ = _ from ofWay_eq b i cs (fun z => (some b, Rail.says z)) fun w => if (b.route i).isSome = true then (some b, Rail.says (-8)) else match w.find? fun (x : Rail.Step) => !b.free x.section_ with
      | some x => (some b, ⟨-5, [[x.section_]]⟩)
      | none => (some ⟨b.track, b.laid w, b.routes ++ [⟨i, w⟩], b.trains⟩, Rail.says (w.length : Nat)))
    rw [e1]
    cases wayRes b.track i cs with
    | error z => exact d
    | ok w =>
      dsimp only
      split
      · exact d
      split
      · exact d
      · rename_i hfind
        have hfr : ∀ s, through w s = true → b.free s = true := fun s hs => by
          obtain ⟨x, hx, e⟩ := List.any_eq_true.mp hs
          have := List.find?_eq_none.mp hfind x hx
          have e : x.section_ = s := by simpa using e
          rw [← e]
          simpa using this
        refine ⟨d.tt, fun k t r s h1 hr q => ?_, fun r r' s h1 h2 q1 q2 => ?_⟩
        · rcases List.mem_append.mp hr with hr | hr
          · exact d.tr k t r s h1 hr q
          · rw [List.mem_singleton.mp hr]
            cases z : through w s with
            | false => rfl
            | true =>
              have := (free_steps (hfr s z)).1 k t h1
              rw [q] at this
              cases this
        · rcases List.mem_append.mp h1 with h1 | h1 <;> rcases List.mem_append.mp h2 with h2 | h2
          · exact d.rr r r' s h1 h2 q1 q2
          · rw [List.mem_singleton.mp h2] at q2
            have := (free_steps (hfr s q2)).2 r h1
            rw [q1] at this
            cases this
          · rw [List.mem_singleton.mp h1] at q1
            have := (free_steps (hfr s q1)).2 r' h2
            rw [q2] at this
            cases this
          · rw [List.mem_singleton.mp h1, List.mem_singleton.mp h2]
  | some b, .way i cs, d => by
    have e1 : Rail.step (some b) (.way i cs) = match wayRes b.track i cs with | .error z => (some b, Rail.says z) | .ok w => (some b, ⟨(w.length : Nat), [Rail.stepNums w]⟩) := (show _ = _ from ofWay_eq b i cs (fun z => (some b, Rail.says z)) fun w => (some b, ⟨(w.length : Nat), [Rail.stepNums w]⟩))
    rw [e1]
    cases wayRes b.track i cs <;> exact d
  | some b, .cancel i, d => by
    have d : Disj b := d
    simp only [Rail.step, Rail.of]
    split
    · exact d
    split
    · exact d
    · exact ⟨d.tt, fun k t r s h1 hr => d.tr k t r s h1 (List.mem_filter.mp hr).1, fun r r' s h1 h2 => d.rr r r' s (List.mem_filter.mp h1).1 (List.mem_filter.mp h2).1⟩
  | some b, .front k, d => by
    have d : Disj b := d
    simp only [Rail.step, Rail.of, Rail.ofTrain]
    split
    · exact d
    rename_i t ht
    have ht := train_at ht
    split
    · rename_i x r ea
      refine d.same ht fun s hs => ?_
      have hs : through ((x :: t.on) ++ r) s = true := hs
      show through (t.on ++ t.ahead) s = true
      rw [ea]
      rw [thr_app] at hs ⊢
      show (through t.on s || ((x.section_ == s) || through r s)) = true
      have hs : (((x.section_ == s) || through t.on s) || through r s) = true := hs
      cases h1 : (x.section_ == s) <;> cases h2 : through t.on s <;> cases h3 : through r s <;> rw [h1, h2, h3] at hs <;> first | rfl | exact hs
    split
    · exact d
    split
    · exact d
    split
    · exact d
    rename_i r hr
    obtain ⟨m1, m2⟩ := find_mem hr
    split
    · exact d
    rename_i ea y ys eo i es x w ew
    refine d.retrain k ⟨x :: t.on, w⟩ b.turned _ (fun q hq => (List.mem_filter.mp hq).1) fun s hs => ?_
    have hs : through ((x :: t.on) ++ w) s = true := hs
    have hs2 : through t.steps s = true ∨ through r.way s = true := by
      rw [ew]
      rw [thr_app] at hs
      have hs : (((x.section_ == s) || through t.on s) || through w s) = true := hs
      show through (t.on ++ t.ahead) s = true ∨ ((x.section_ == s) || through w s) = true
      rw [thr_app]
      cases h1 : (x.section_ == s) <;> cases h2 : through t.on s <;> cases h3 : through w s <;> rw [h1, h2, h3] at hs <;> first | exact .inl rfl | exact .inr rfl | (cases hs)
    rcases hs2 with q | q
    · refine ⟨fun k' t2 hk h2 => ?_, fun r' hr' => d.tr k t r' s ht (List.mem_filter.mp hr').1 q⟩
      cases z : through t2.steps s with
      | false => rfl
      | true => exact absurd (d.tt k' k t2 t s h2 ht z q) hk
    · refine ⟨fun k' t2 hk h2 => ?_, fun r' hr' => ?_⟩
      · cases z : through t2.steps s with
        | false => rfl
        | true =>
          have := d.tr k' t2 r s h2 m1 z
          rw [q] at this
          cases this
      · obtain ⟨n1, n2⟩ := List.mem_filter.mp hr'
        cases z : through r'.way s with
        | false => rfl
        | true =>
          have e := d.rr r' r s n1 m1 z q
          rw [m2] at e
          rw [e] at n2
          simp at n2
  | some b, .rear k, d => by
    have d : Disj b := d
    simp only [Rail.step, Rail.of, Rail.ofTrain]
    split
    · exact d
    rename_i t ht
    split
    · exact d
    · refine d.same (train_at ht) fun s hs => ?_
      have hs : through (t.on.dropLast ++ t.ahead) s = true := hs
      show through (t.on ++ t.ahead) s = true
      rw [thr_app] at hs ⊢
      cases h2 : through t.ahead s with
      | true => rw [Bool.or_true]
      | false =>
        rw [h2, Bool.or_false] at hs
        rw [thr_drop hs]
        rfl
  | some b, .back k, d => by
    have d : Disj b := d
    simp only [Rail.step, Rail.of, Rail.ofTrain]
    split
    · exact d
    rename_i t ht
    split
    · exact d
    · refine d.same (train_at ht) fun s hs => ?_
      have hs : through ((t.on.map Rail.Step.turned).reverse ++ []) s = true := hs
      rw [List.append_nil] at hs
      show through (t.on ++ t.ahead) s = true
      rw [thr_app, thr_turn hs]
      rfl
  | some b, .points u z, d => by
    have d : Disj b := d
    simp only [Rail.step, Rail.of]
    split
    · exact d
    split
    · exact d
    · exact ⟨d.tt, d.tr, d.rr⟩
  | some b, .section_ u, d => by
    simp only [Rail.step, Rail.of]
    exact d
  | some b, .signal i, d => by
    simp only [Rail.step, Rail.of]
    exact d
  | some b, .train k, d => by
    simp only [Rail.step, Rail.of, Rail.ofTrain]
    split <;> exact d
  | some b, .count, d => by
    simp only [Rail.step, Rail.of]
    exact d
end Sb
namespace Sb
open PySem PySem.Spec PyProof.Rows L2
/-! ### answers -/
open PyFlat (put put1 putRow putRows)
def RowIn (ρ : Rho) (H : Hp) (q : Addr) (x : List Int) : Prop := H q = some (.lst (x.map V.int)) ∧ ρ q = none
def spAnswer (c : Ad) : Sp := fun vs H Q _ => ∃ (x pp : Addr) (n cl : Nat) (ρ : Rho) (st : Rail.State) (a : List Int) (xs : List (List Int)) (ps : List Addr) (call : Rail.Call), vs = [.ref x, vi cl, .ref pp] ∧ StAt c n ρ H x st ∧ DisjSt st ∧ n + 17 ≤ 1000000 ∧ H pp = some (.lst (a.map V.int ++ ps.map V.ref)) ∧ Paired (RowIn ρ H) ps xs ∧ (∀ x ∈ xs, x.length ≤ 16000) ∧
  RailNeutral.callOf (((cl : Int) :: a) :: xs) = some call ∧ Done c n ρ H x (Rail.step st call) Q
def spAns (K : PySem.W.Frag) : Sp := fun vs H Q _ => ∃ (a : Addr) (ns : List Int), vs = [.ref a] ∧ SqL K H a (ns.map V.int) ∧ ns.length ≤ 16000 ∧ PyWrrail.answers_asked ns = true ∧ ∀ (H' : Hp) (p : Addr), H' p = some (.lst ((PyWrrail.answers ns).map V.int)) → Q (.ref p) H'
/-- the program's shapes are the document's -/
def ShapesOk (ss : List (Nat × Nat)) : Prop := ∀ (p : Int) (s : Nat × Nat), PyWrrail.shape p = some s → 0 ≤ p ∧ ss[p.toNat]? = some s ∧ s.1 + s.2 ≤ 1000
theorem asked_parts {l : List Int} (h : PyWrrail.answers_asked l = true) : ∃ cs, l = put cs ∧ (∀ c ∈ cs, PyFlat.okCall PyWrrail.shape c ∧ RailNeutral.asked1 c = true) ∧ cs.length ≤ 200 ∧ PyWrrail.answers l = PyFlat.told (PyFlat.played RailNeutral.step RailNeutral.start cs) := by
  unfold PyWrrail.answers_asked at h
  unfold PyWrrail.answers
  cases e : PyWrrail.calls l with
  | none => rw [e] at h; cases h
  | some cs =>
    rw [e] at h
    have h : (PyFlat.atMost 200 cs && RailNeutral.asked cs) = true := h
    rw [Bool.and_eq_true] at h
    unfold PyWrrail.calls at e
    cases e2 : PyFlat.calls PyWrrail.shape l.length l with
    | none => rw [e2] at e; cases e
    | some ds =>
      rw [e2] at e
      have e3 : ds.map PyWrrail.whole = cs := Option.some.inj e
      have e4 : ds.map PyWrrail.whole = ds := by
        conv => rhs; rw [← List.map_id ds]
        exact congrArg (fun f => ds.map f) (funext whole_eq)
      rw [e4] at e3
      subst e3
      obtain ⟨h1, h2⟩ := PyFlat.put_calls _ _ _ e2
      have h3 := h.2
      unfold RailNeutral.asked at h3
      rw [Bool.and_eq_true] at h3
      exact ⟨ds, h1, fun c hc => ⟨h2 c hc, List.all_eq_true.mp h3.1 c hc⟩, of_decide_eq_true h.1, rfl⟩
theorem row_le {z : List Int} : ∀ {xs : List (List Int)}, z ∈ xs → z.length ≤ (putRows xs).length
  | [], h => by cases h
  | y :: ys, h => by
    show z.length ≤ (putRow y ++ putRows ys).length
    rw [List.length_append]
    rcases List.mem_cons.mp h with e | h
    · subst e
      show z.length ≤ (z.length + 1) + _
      omega
    · have := row_le h
      omega
structure Loop (K : PySem.W.Frag) (c : Ad) (l : List Int) (cs : List (List (List Int))) (H H' : Hp) (ac x r tl : Addr) (ρ : Rho) (i pl : Nat) (rs : List (List (List Int))) (st : Rail.State) (out : List (List Int)) : Prop where
  state : StAt c (17 * i) ρ H' x st
  disj : DisjSt st
  cnt : i + rs.length ≤ 200
  drop : l.drop pl = put rs
  le : pl ≤ l.length
  ok : ∀ q ∈ rs, PyFlat.okCall PyWrrail.shape q ∧ RailNeutral.asked1 q = true
  or_ : ρ r = some .outer
  ot : ρ tl = some .outer
  ne : r ≠ tl
  rd : ∃ dr, H' r = some (.ins c.reader dr (rf ac pl))
  keep : ∀ b o, H b = some o → H' b = some o ∧ ρ b = none
  told : H' tl = some (.lst ((PyFlat.told out).map V.int))
  len : (PyFlat.told out).length ≤ i * 20000
  all : PyFlat.played RailNeutral.step RailNeutral.start cs = out ++ PyFlat.played RailNeutral.step st rs
section
variable {P : Program} {w : World} {K : PySem.W.Frag} {mg : Str → Option Value} {base : Heap}
theorem ok_answers {f : Addr} {fd : FuncData} {c : Ad} {ka : Nat} {ss : List (Nat × Nat)} (hka : 3 ≤ ka) (hss : ShapesOk ss) (F : Fun K "answers" "answers" s_answers f fd) (T : TxB mg) (cr : Tc K c.reader rfs) (G1 : Cn P w K mg base 1 "Box" c.box ["self"] (spBoxInit c.box)) (G2 : Cn P w K mg base 1 "Reader" c.reader ["self", "calls"] (spReaderInit c.reader))
    (M1 : Mth P w K mg base 1 c.reader "is_done" ["self"] (spIsDone K c.reader)) (M2 : Mth P w K mg base 1 c.reader "read_number" ["self"] (spReadNumber K c.reader)) (M3 : Mth P w K mg base 3 c.reader "read_parts" ["self", "call"] (spReadParts K c.reader ss))
    (G : Fn P w K mg base ka "answer_call" ["box", "call", "parts"] (spAnswer c)) : FnOk P w K mg base CX0 (ka + 1) f fd ["calls"] (spAns K) := by
  refine F.ok sc_answers (fun vs H Q E h => ?_) (fun cdv A outer s0 H vs Q E hr h => ?_)
  · obtain ⟨a, ns, rfl, _⟩ := h
    rfl
  · obtain ⟨ac, l, rfl, hl, hlen, hask, k⟩ := h
    obtain ⟨cs, hput, hok, hcs, hans⟩ := asked_parts hask
    have nd := sc_answers.nd
    have hr1 : Room 1 _ := hr.mono (by omega)
    have hr2 : Room 2 _ := hr.mono (by omega)
    have hr3 : Room 3 _ := hr.mono hka
    refine ⟨_, pss_cons (ps_set (i := 1) nd rfl (Or.inl rfl) (pe_new0 G1 hr2)) (pss_cons (ps_set (i := 2) nd rfl (Or.inl rfl) (pe_new G2 hr2 (pa_cons (pv 0) pa_nil))) (pss_cons (ps_set (i := 3) nd rfl (Or.inl rfl) (pe_lst pa_nil))
      (pss_cons (ps_while PassesOwn.never (pt_not (pt_val (pe_mth0 M1 cr.cl hr1 (pv 2))))
        (pss_cons (ps_set (i := 4) nd rfl (Or.inl rfl) (pe_mth0 M2 cr.cl hr1 (pv 2)))
        (pss_cons (ps_set (i := 5) nd rfl (Or.inl rfl) (pe_fn G hr (pa_cons (pv 1) (pa_cons (pv 4) (pa_cons (pe_mth M3 cr.cl hr3 (pv 2) (pa_cons (pv 4) pa_nil)) pa_nil)))))
        (pss_cons (ps_expr (pe_bm PySem.F.plainAttrs_list PySem.F.slot_list_append PySem.F.type_list_append mt_append (pv 3) (pa_cons (pe_callB call_len_seq (by rfl) T.len PySem.boot_len (pa_cons (pv 5) pa_nil)) pa_nil)))
        (pss_one (ps_expr (pe_bm PySem.F.plainAttrs_list PySem.F.slot_list_extend PySem.F.type_list_extend mt_extend (pv 3) (pa_cons (pv 5) pa_nil))))))))
      (pss_one (ps_ret (pv 3)))))), ?_⟩
    rw [show L2.start n_answers [V.ref ac] = [some (V.ref ac), none, none, none, none, none] from rfl]
    walk_at "rd"
    intro x dx nx ndx hne
    refine ⟨x, dx, rfl, upd_same, fun H1 sl td rd q1 q2 => ⟨rfl, ?_⟩⟩
    have s1 : Same H H1 := Same.made nx ndx q2
    intro r dr nr ndr hner
    refine ⟨r, dr, ac, rfl, upd_same, rfl, Nat.zero_le _, fun tl htl => ?_⟩
    rw [upd_upd] at htl ⊢
    have s2 : Same H1 (upd (upd H1 dr (.own r)) r (.ins c.reader dr (rf ac 0))) := (same_new ndr).trans (same_new (by rw [upd_ne hner.symm]; exact nr))
    have r2 : upd (upd H1 dr (.own r)) r (.ins c.reader dr (rf ac 0)) r = some (.ins c.reader dr (rf ac 0)) := upd_same
    generalize upd (upd H1 dr (.own r)) r (.ins c.reader dr (rf ac 0)) = H2 at htl s2 r2 ⊢
    have s3 := same_new (o := .lst []) htl
    have t3 : upd H2 tl (.lst []) tl = some (.lst []) := upd_same
    generalize upd H2 tl (.lst []) = H3 at s3 t3 ⊢
    have fx : H x = none := nx
    have fr : H r = none := s1.free nr
    have ft : H tl = none := (s1.trans s2).free htl
    have nrt : r ≠ tl := ne_of_none r2 htl
    have nxr : x ≠ r := ne_of_none q1 nr
    have nxt : x ≠ tl := ne_of_none (s2 _ _ q1) htl
    have x3 := s3 _ _ (s2 _ _ q1)
    have r3 := s3 _ _ r2
    obtain ⟨R, eR⟩ : ∃ R : Rho, R = fun z => if z = x then some .box else if z = r then some .outer else if z = tl then some .outer else none := ⟨_, rfl⟩
    have R_x : R x = some .box := by rw [eR]; exact if_pos rfl
    have R_r : R r = some .outer := by rw [eR]; dsimp only; rw [if_neg nxr.symm, if_pos rfl]
    have R_t : R tl = some .outer := by rw [eR]; dsimp only; rw [if_neg nxt.symm, if_neg nrt.symm, if_pos rfl]
    have L0 : Loop K c l cs H H3 ac x r tl R 0 0 cs none [] := by
      refine ⟨⟨by decide, fun z q hz => ?_, R_x, dx, sl, td, rd, x3⟩, trivial, by omega, by rw [List.drop_zero]; exact hput, Nat.zero_le _, hok, R_r, R_t, nrt, ⟨dr, r3⟩, fun b o hb => ⟨s3 _ _ (s2 _ _ (s1 _ _ hb)), ?_⟩, t3, Nat.zero_le _, rfl⟩
      · rw [eR] at hz
        dsimp only at hz
        by_cases z1 : z = x
        · rw [if_pos z1] at hz
          cases hz
          exact ⟨_, by rw [z1]; exact x3, _, _, rfl⟩
        rw [if_neg z1] at hz
        by_cases z2 : z = r
        · rw [if_pos z2] at hz
          cases hz
          exact ⟨_, by rw [z2]; exact r3, .inr ⟨_, _, _, rfl⟩⟩
        rw [if_neg z2] at hz
        by_cases z3 : z = tl
        · rw [if_pos z3] at hz
          cases hz
          exact ⟨_, by rw [z3]; exact t3, .inl ⟨_, rfl⟩⟩
        · rw [if_neg z3] at hz
          cases hz
      · rw [eR]
        dsimp only
        rw [if_neg (ne_of_none hb fx), if_neg (ne_of_none hb fr), if_neg (ne_of_none hb ft)]
    obtain ⟨W, eW⟩ : ∃ W : Nat → L2.St → Hp → Prop, W = fun m σ H' => ∃ (ρ : Rho) (i pl : Nat) (rest : List (List (List Int))) (st : Rail.State) (out : List (List Int)) (v4 v5 : Option V), m = rest.length ∧ σ = [some (V.ref ac), some (V.ref x), some (V.ref r), some (V.ref tl), v4, v5] ∧ Loop K c l cs H H' ac x r tl ρ i pl rest st out := ⟨_, rfl⟩
    refine ⟨W, ⟨cs.length, ?_⟩, ?_⟩
    · rw [eW]
      exact ⟨R, 0, 0, cs, none, [], none, none, rfl, rfl, L0⟩
    intro m σ H' z
    rw [eW] at z
    obtain ⟨ρ, i, pl, rest, st, out, v4, v5, rfl, rfl, Lp⟩ := z
    obtain ⟨dr', hr'⟩ := Lp.rd
    have hl' : SqL K H' ac (l.map V.int) := Same.seq (fun b o hb => (Lp.keep b o hb).1) hl
    walk_at "rd"
    refine ⟨_, _, hr', rfl, r, dr', ac, l, pl, rfl, hr', hl', _, rfl, ?_⟩
    cases rest with
    | nil =>
      have e1 : pl = l.length := by
        have := congrArg List.length Lp.drop
        rw [List.length_drop] at this
        have h2 := Lp.le
        have : l.length - pl = 0 := this
        omega
      rw [if_neg (by rw [decide_eq_true e1]; decide)]
      refine k H' tl ?_
      rw [hans, Lp.all]
      show H' tl = some (.lst ((PyFlat.told (out ++ [])).map V.int))
      rw [List.append_nil]
      exact Lp.told
    | cons q rest =>
    obtain ⟨⟨p, a, xs, eq, hsh⟩, hask1⟩ := Lp.ok q (List.mem_cons.mpr (Or.inl rfl))
    subst eq
    obtain ⟨hp0, hpss, hpsm⟩ := hss p _ hsh
    have hdrop : l.drop pl = p :: (a ++ (putRows xs ++ put rest)) := by
      rw [Lp.drop]
      show ((p :: a) ++ putRows xs) ++ put rest = _
      rw [List.append_assoc]
      rfl
    have hll := congrArg List.length hdrop
    rw [List.length_drop, List.length_cons, List.length_append, List.length_append] at hll
    rw [if_pos (by rw [decide_eq_false (by omega)]; rfl)]
    obtain ⟨N, eN⟩ : ∃ N : L2.St → Hp → Prop, N = fun σ' H' => ∃ m', m' < (((p :: a) :: xs) :: rest).length ∧ W m' σ' H' := ⟨_, rfl⟩
    refine ⟨N, fun σ' H' z => by rw [eN] at z; exact z, _, _, hr', rfl, ?_⟩
    have hz : l[pl]? = some p := by
      have := congrArg (fun q => q[0]?) hdrop
      simpa using this
    refine ⟨r, dr', ac, l, pl, p, rfl, hr', hl', hz, ?_⟩
    obtain ⟨cl, rfl⟩ : ∃ cl : Nat, p = (cl : Int) := ⟨p.toNat, by omega⟩
    have k1 : ∀ b o, H' b = some o → b ≠ r → upd H' r (.ins c.reader dr' (rf ac (pl + 1))) b = some o := fun b o hb hbr => by rw [upd_ne hbr]; exact hb
    have r1' : upd H' r (.ins c.reader dr' (rf ac (pl + 1))) r = some (.ins c.reader dr' (rf ac (pl + 1))) := upd_same
    have lv1 : Live H' (upd H' r (.ins c.reader dr' (rf ac (pl + 1)))) := fun z hz => new_upd hr' hz
    generalize upd H' r (.ins c.reader dr' (rf ac (pl + 1))) = H4 at k1 r1' lv1 ⊢
    have nac : ∀ b o, H b = some o → b ≠ r := fun b o hb e => by
      have := (Lp.keep b o hb).2
      rw [e, Lp.or_] at this
      cases this
    have hl4 : SqL K H4 ac (l.map V.int) := Same.seq (fun b o hb => k1 _ _ (Lp.keep b o hb).1 (nac b o hb)) hl
    have hdrop4 : l.drop (pl + 1) = a ++ (putRows xs ++ put rest) := by
      rw [← List.drop_drop, hdrop]
      rfl
    refine ⟨_, _, r1', rfl, r, dr', ac, l, a, put rest, xs, pl + 1, cl, rfl, r1', hl4, ?_, hdrop4, ?_, fun H5 pp ps y1 y2 y3 y4 y5 y6 => ?_⟩
    · have : ((cl : Int)).toNat = cl := by omega
      rw [this] at hpss
      exact hpss
    · exact hpsm
    have k5 : ∀ b o, H' b = some o → b ≠ r → H5 b = some o := fun b o hb hbr => y5 _ _ (k1 _ _ hb hbr) hbr
    have own5 : Own c ρ H5 := own_frame Lp.state.own Lp.or_ y4 (.inr ⟨_, _, _, rfl⟩) k5
    have st5 : StAt c (17 * i) ρ H5 x st := StAt.outer (but_frame Lp.or_ k5) own5 Lp.state
    obtain ⟨call, hcall⟩ := call_of hask1
    have hrows : ∀ z ∈ xs, z.length ≤ 16000 := fun z hz => by
      have := row_le hz
      omega
    have cnt := Lp.cnt
    rw [List.length_cons] at cnt
    have newp : ∀ z, H4 z = none → ρ z = none := fun z hz => Lp.state.own.new (lv1 _ hz)
    refine ⟨x, pp, 17 * i, cl, ρ, st, a, xs, ps, call, rfl, st5, Lp.disj, by omega, y2, Paired.mono (fun q x h => ⟨h.2, newp _ h.1⟩) y3, hrows, hcall, fun H6 ρ6 q z1 z2 z3 z4 z5 z6 z7 => ?_⟩
    have t5 : H5 tl = some (.lst ((PyFlat.told out).map V.int)) := k5 _ _ Lp.told Lp.ne.symm
    have t6 := z4.keep _ _ t5 Lp.ot
    have r6 := z4.keep _ _ y4 Lp.or_
    have o6 := z4.stay _ Lp.ot
    have or6 := z4.stay _ Lp.or_
    have nqt : q ≠ tl := fun e => by rw [e, o6] at z6; cases z6
    have lenA := st_len call Lp.state
    have lenT := Lp.len
    generalize hA : RailNeutral.shown (Rail.step st call).2 = A at z7 lenA
    refine ⟨.inl ⟨rfl, _, SqL.of t6⟩, q, rfl, _, .inl (SqL.of z7), _, t6, ?_, .inl ⟨rfl, _, SqL.of upd_same⟩, q, rfl, _, upd_same, _, by rw [upd_ne nqt]; exact z7, ?_, ?_⟩
    · rw [List.length_map, sizeLine_eq]
      have : i * 20000 ≤ 200 * 20000 := Nat.mul_le_mul_right _ (by omega)
      omega
    · rw [List.length_append, List.length_map, List.length_map, List.length_singleton, sizeLine_eq]
      have : i * 20000 ≤ 200 * 20000 := Nat.mul_le_mul_right _ (by omega)
      omega
    rw [eN, upd_upd]
    refine ⟨rest.length, by rw [List.length_cons]; omega, ?_⟩
    rw [eW]
    refine ⟨ρ6, i + 1, pl + (1 + (a.length + (putRows xs).length)), rest, (Rail.step st call).1, out ++ [A], _, _, rfl, rfl, ?_⟩
    have tt : (PyFlat.told (out ++ [A])).map V.int = (PyFlat.told out).map V.int ++ [V.int ((A.map V.int).length : Int)] ++ A.map V.int := by
      rw [told_app, List.map_append, List.append_assoc]
      congr 1
      show (((A.length : Int) :: A) ++ []).map V.int = _
      rw [List.append_nil, List.length_map]
      rfl
    have k7 : ∀ b o, H6 b = some o → b ≠ tl → upd H6 tl (.lst ((PyFlat.told out).map V.int ++ [V.int ((A.map V.int).length : Int)] ++ A.map V.int)) b = some o := fun b o hb hbt => by rw [upd_ne hbt]; exact hb
    have own7 : Own c ρ6 (upd H6 tl (.lst ((PyFlat.told out).map V.int ++ [V.int ((A.map V.int).length : Int)] ++ A.map V.int))) := own_frame z1.own o6 upd_same (.inl ⟨_, rfl⟩) k7
    have estep : RailNeutral.step st ((((cl : Int) :: a) :: xs)) = ((Rail.step st call).1, A) := by
      unfold RailNeutral.step
      rw [hcall, ← hA]
    refine ⟨?_, step_disj st call Lp.disj, by omega, ?_, by omega, fun c' hc' => Lp.ok c' (List.mem_cons.mpr (Or.inr hc')), or6, o6, Lp.ne, ⟨dr', ?_⟩, fun b o hb => ⟨?_, ?_⟩, ?_, ?_, ?_⟩
    · have := StAt.outer (but_frame o6 k7) own7 z1
      rw [show 17 * (i + 1) = 17 * i + 17 by omega]
      exact this
    · rw [show pl + (1 + (a.length + (putRows xs).length)) = pl + 1 + (a.length + (putRows xs).length) by omega, ← List.drop_drop, hdrop4, ← List.drop_drop, List.drop_left, List.drop_left]
    · rw [upd_ne Lp.ne]
      rw [show pl + (1 + (a.length + (putRows xs).length)) = pl + 1 + (a.length + (putRows xs).length) by omega]
      exact r6
    · have nb := (Lp.keep b o hb).2
      rw [upd_ne (fun e => by rw [e, Lp.ot] at nb; cases nb)]
      exact z2 _ _ (k5 _ _ (Lp.keep b o hb).1 (nac b o hb)) nb
    · exact z3 _ _ (k5 _ _ (Lp.keep b o hb).1 (nac b o hb)) (Lp.keep b o hb).2
    · rw [upd_same, tt]
    · rw [told_app, List.length_append]
      have : (PyFlat.told [A]).length = A.length + 1 := by
        show (((A.length : Int) :: A) ++ []).length = _
        rw [List.append_nil, List.length_cons]
      rw [this]
      omega
    · rw [Lp.all]
      show out ++ ((RailNeutral.step st _).2 :: PyFlat.played RailNeutral.step (RailNeutral.step st _).1 rest) = _
      rw [estep, List.append_assoc]
      rfl
end
end Sb
namespace Sb
open PySem PySem.Spec PyProof.Rows L2
/-! ### which call it is -/
def zs (l : List Nat) : List Int := l.map fun (n : Nat) => (n : Int)
inductive CallIs : Int → List Int → List (List Int) → Rail.Call → Prop where
  | lay (x y z : List Nat) : CallIs 0 [] [zs x, zs y, zs z] (.lay x y z)
  | put (s e : Nat) : CallIs 1 [(s : Int), (e : Int)] [] (.put s e)
  | take (k : Nat) : CallIs 2 [(k : Int)] [] (.take k)
  | route (i : Nat) (c : List Nat) : CallIs 3 [(i : Int)] [zs c] (.route i c)
  | way (i : Nat) (c : List Nat) : CallIs 4 [(i : Int)] [zs c] (.way i c)
  | cancel (i : Nat) : CallIs 5 [(i : Int)] [] (.cancel i)
  | front (k : Nat) : CallIs 6 [(k : Int)] [] (.front k)
  | rear (k : Nat) : CallIs 7 [(k : Int)] [] (.rear k)
  | back (k : Nat) : CallIs 8 [(k : Int)] [] (.back k)
  | points (s z : Nat) : CallIs 9 [(s : Int), (z : Int)] [] (.points s z)
  | section_ (s : Nat) : CallIs 10 [(s : Int)] [] (.section_ s)
  | signal (i : Nat) : CallIs 11 [(i : Int)] [] (.signal i)
  | train (k : Nat) : CallIs 12 [(k : Int)] [] (.train k)
  | count : CallIs 13 [] [] .count
theorem znats_of {l : List Int} (h : RailNeutral.whole l = true) : l = zs (RailNeutral.nats l) := by
  unfold zs RailNeutral.nats
  rw [List.map_map]
  refine (List.map_id l).symm.trans (List.map_congr_left fun z hz => ?_)
  have : 0 ≤ z := of_decide_eq_true (List.all_eq_true.mp h z hz)
  show z = ((z.toNat : Nat) : Int)
  omega
theorem whole1 {z : Int} (h : RailNeutral.whole [z] = true) : z = ((z.toNat : Nat) : Int) := by
  have : 0 ≤ z := of_decide_eq_true (List.all_eq_true.mp h z (List.mem_singleton.mpr rfl))
  omega
theorem whole2 {y z : Int} (h : RailNeutral.whole [y, z] = true) : y = ((y.toNat : Nat) : Int) ∧ z = ((z.toNat : Nat) : Int) := by
  have h1 : 0 ≤ y := of_decide_eq_true (List.all_eq_true.mp h y (by simp))
  have h2 : 0 ≤ z := of_decide_eq_true (List.all_eq_true.mp h z (by simp))
  omega
theorem callIs {p : Int} {a : List Int} {xs : List (List Int)} {call : Rail.Call} (h : RailNeutral.callOf ((p :: a) :: xs) = some call) : CallIs p a xs call := by
  generalize hc : (p :: a) :: xs = c at h
  unfold RailNeutral.callOf at h
  split at h <;> (try (split at h)) <;> (try (cases h; done)) <;> cases hc <;> cases h
  · rename_i x y z w
    simp only [Bool.and_eq_true] at w
    have := CallIs.lay (RailNeutral.nats x) (RailNeutral.nats y) (RailNeutral.nats z)
    rw [← znats_of w.1, ← znats_of w.2.1, ← znats_of w.2.2] at this
    exact this
  · rename_i y z w
    have := CallIs.put y.toNat z.toNat
    rw [← (whole2 w).1, ← (whole2 w).2] at this
    exact this
  · rename_i z w
    have := CallIs.take z.toNat
    rw [← whole1 w] at this
    exact this
  · rename_i z c w
    rw [Bool.and_eq_true] at w
    have := CallIs.route z.toNat (RailNeutral.nats c)
    rw [← whole1 w.1, ← znats_of w.2] at this
    exact this
  · rename_i z c w
    rw [Bool.and_eq_true] at w
    have := CallIs.way z.toNat (RailNeutral.nats c)
    rw [← whole1 w.1, ← znats_of w.2] at this
    exact this
  · rename_i z w
    have := CallIs.cancel z.toNat
    rw [← whole1 w] at this
    exact this
  · rename_i z w
    have := CallIs.front z.toNat
    rw [← whole1 w] at this
    exact this
  · rename_i z w
    have := CallIs.rear z.toNat
    rw [← whole1 w] at this
    exact this
  · rename_i z w
    have := CallIs.back z.toNat
    rw [← whole1 w] at this
    exact this
  · rename_i y z w
    have := CallIs.points y.toNat z.toNat
    rw [← (whole2 w).1, ← (whole2 w).2] at this
    exact this
  · rename_i z w
    have := CallIs.section_ z.toNat
    rw [← whole1 w] at this
    exact this
  · rename_i z w
    have := CallIs.signal z.toNat
    rw [← whole1 w] at this
    exact this
  · rename_i z w
    have := CallIs.train z.toNat
    rw [← whole1 w] at this
    exact this
  · exact .count
end Sb
namespace Sb
open PySem PySem.Spec PyProof.Rows L2
/-! ### rear, back -/
theorem paired_dropLast {α β : Type} {R : α → β → Prop} : ∀ {as : List α} {ws : List β}, Paired R as ws → Paired R as.dropLast ws.dropLast
  | _, _, .nil => .nil
  | _, _, .cons _ .nil => .nil
  | _, _, .cons h (.cons h2 t) => .cons h (paired_dropLast (.cons h2 t))
def spRear (c : Ad) : Sp := fun vs H Q _ => ∃ (x : Addr) (n : Nat) (ρ : Rho) (b : Rail.Box) (k : Nat), vs = [.ref x, vi k] ∧ BoxAt c n ρ H x b ∧ n + 17 ≤ 1000000 ∧ Done c n ρ H x (Rail.step (some b) (.rear k)) Q
def spBack (c : Ad) : Sp := fun vs H Q _ => ∃ (x : Addr) (n : Nat) (ρ : Rho) (b : Rail.Box) (k : Nat), vs = [.ref x, vi k] ∧ BoxAt c n ρ H x b ∧ n + 17 ≤ 1000000 ∧ Done c n ρ H x (Rail.step (some b) (.back k)) Q
def spTurned : Sp := fun vs H Q _ => ∃ (l : Addr) (w : List Rail.Step), vs = [.ref l] ∧ StepsAt H l w ∧ w.length ≤ 1000000 ∧ ∀ (H' : Hp) (q : Addr), Same H H' → H q = none → StepsAt H' q (w.map Rail.Step.turned).reverse → Q (.ref q) H'
section
variable {P : Program} {w : World} {K : PySem.W.Frag} {mg : Str → Option Value} {base : Heap}
theorem ok_rear {f : Addr} {fd : FuncData} {c : Ad} (F : Fun K "rear" "rear" s_rear f fd) (T : TxB mg) (cb : Tc K c.box bfs) (cn : Tc K c.train nfs) (c4 : ConI mg "NO_SUCH" (-4)) (c3 : ConI mg "NOT_AS_THINGS_STAND" (-3)) : FnOk P w K mg base CX0 1 f fd ["box", "number"] (spRear c) := by
  refine F.ok sc_rear (fun vs H Q E h => ?_) (fun cdv A outer s0 H vs Q E hr h => ?_)
  · obtain ⟨x, n, ρ, b, k, rfl, _⟩ := h
    rfl
  · obtain ⟨x, n, ρ, b, k, rfl, hB, hn, D⟩ := h
    have nd := sc_rear.nd
    have hu := hu_of hr
    refine ⟨_, pss_cons (ps_if (pt_cmp (pc_dnotin hu (pv 1) (pe_fld (pv 0) (by rfl)))) (pss_one (ps_ret (pe_lst (pa_cons (pe_con c4 (by rfl)) pa_nil)))) pss_nil)
      (pss_cons (ps_set (i := 2) nd rfl (Or.inl rfl) (pe_dget hu (pe_fld (pv 0) (by rfl)) (pv 1) (fun _ _ => rfl)))
      (pss_cons (ps_if (pt_cmpR op_eq (pe_callB call_len_seq (by rfl) T.len PySem.boot_len (pa_cons (pe_fld (pv 2) (by rfl)) pa_nil)) pe_int (nomark _)) (pss_one (ps_ret (pe_lst (pa_cons (pe_con c3 (by rfl)) pa_nil)))) pss_nil)
      (pss_cons (ps_expr (pe_bm0 PySem.F.plainAttrs_list PySem.F.slot_list_pop PySem.F.type_list_pop mt_pop (pe_fld (pv 2) (by rfl))))
      (pss_one (ps_ret (pe_lst (pa_cons (pe_callB call_len_seq (by rfl) T.len PySem.boot_len (pa_cons (pe_fld (pv 2) (by rfl)) pa_nil)) pa_nil))))))), ?_⟩
    rw [show L2.start n_rear [V.ref x, vi k] = [some (V.ref x), some (vi k), none] from rfl]
    obtain ⟨dx, a, ak, as, sl, td, rd, kt, kr, h1, h2, ⟨h3, h3'⟩, ⟨h4, h4', h4''⟩, h5, h5', h5''⟩ := hB.ex
    walk_at "rd"
    refine ⟨_, _, _, h1, cb.cl, cb.na _ (by decide +kernel), _, rfl, td, rfl, _, DGet.k (k := .inl (k : Int)) h4', ?_⟩
    rcases val_iff h4'' k with ⟨p, t, ev, ht, hT⟩ | ⟨ev, hno⟩
    rotate_left
    · rw [ev, if_pos (by rfl)]
      refine ⟨by show 1 ≤ sizeLine; decide, fun r hr => ?_⟩
      have e1 : Rail.step (some b) (.rear k) = (some b, Rail.says (-4)) := by
        show (match b.train k with | none => _ | some t => _) = _
        rw [train_none hno]
      rw [e1] at D
      exact D.says hB hn (Same.refl H) hr rfl
    rw [ev, if_neg (by simp)]
    have hw := hB.wf.steps k t ht
    have e0 : Rail.step (some b) (.rear k) = if t.on.length ≤ 1 then (some b, Rail.says (-3)) else (some (Rail.withTrain b k (some ⟨t.on.dropLast, t.ahead⟩)), Rail.says ((t.on.length - 1 : Nat) : Int)) := by
      show (match b.train k with | none => _ | some t => _) = _
      rw [train_of ht]
    obtain ⟨dp, ls, lg, g1, g2, g3, ⟨bs, g4, g4'⟩, g5, g6⟩ := hT.ex
    have hlen := Paired.len g4'
    have hpos : 0 < t.on.length := List.length_pos_iff.mpr hw.1
    refine ⟨_, _, _, h1, cb.cl, cb.na _ (by decide +kernel), _, rfl, td, rfl, V.ref p, by rw [← ev]; exact DGet.k (k := .inl (k : Int)) h4', ?_⟩
    walk_at "rd"
    refine ⟨_, _, _, g1, cn.cl, cn.na _ (by decide +kernel), _, rfl, ls, rfl, _, .inl (SqL.of g4), ?_⟩
    rw [List.length_map, hlen]
    by_cases h1' : t.on.length = 1
    · rw [if_pos (decide_eq_true (by omega))]
      refine ⟨by show 1 ≤ sizeLine; decide, fun q hq => ?_⟩
      rw [e0, if_pos (by omega)] at D
      exact D.says hB hn (Same.refl H) hq rfl
    rw [if_neg (by rw [decide_eq_true_eq]; omega)]
    rw [e0, if_neg (by omega)] at D
    have hlast : (bs.map V.ref)[(bs.map V.ref).length - 1]? = some (V.ref (bs[bs.length - 1]'(by omega))) := by
      rw [List.length_map, List.getElem?_map, List.getElem?_eq_getElem (by omega)]
      rfl
    refine ⟨_, _, _, g1, cn.cl, cn.na _ (by decide +kernel), _, rfl, .inl ⟨rfl, _, SqL.of g4⟩, ?_⟩
    walk_at "rd"
    refine ⟨_, g4, ⟨_, hlast⟩, ?_⟩
    have bt := upd_but (H := H) (o := .lst (bs.map V.ref).dropLast) g3
    have p1 : upd H ls (.lst (bs.map V.ref).dropLast) p = some (.ins c.train dp (nf ls lg)) := bt _ _ g1 (fun r e => by rw [g2] at e; cases e; intro z; cases z)
    have l1 : upd H ls (.lst (bs.map V.ref).dropLast) ls = some (.lst (bs.dropLast.map V.ref)) := by rw [upd_same, List.map_dropLast]
    have own1 : Own c ρ (upd H ls (.lst (bs.map V.ref).dropLast)) := own_upd hB.own g3 ⟨_, rfl⟩
    have hBr := hB.retrain (m := n + 17) bt (RBut.refl ρ) (Ext.refl _ _) own1 k p t ⟨t.on.dropLast, t.ahead⟩ (fun q hq => .inl (.inr (.inl hq))) ht h1 h2 h3 h3' h4 h4' h4'' h5 h5' h5'' ev
      ⟨dp, ls, lg, p1, g2, g3, ⟨bs.dropLast, l1, Paired.mono (fun _ _ z => bt.keep _ _ z (hB.own.tup z)) (paired_dropLast g4')⟩, g5, bt.steps hB.own g5 (by intro z; cases z) g6⟩
      (fun z => by
        have : t.on.dropLast.length = 0 := by rw [show t.on.dropLast = [] from z]; rfl
        rw [List.length_dropLast] at this
        omega) (by
        show t.on.dropLast.length + t.ahead.length ≤ n + 17
        rw [List.length_dropLast]
        have := hw.2
        omega) (by omega) hn
    refine ⟨_, _, _, p1, cn.cl, cn.na _ (by decide +kernel), _, rfl, ls, rfl, _, .inl (SqL.of l1), by show 1 ≤ sizeLine; decide, fun q hq => ?_⟩
    rw [List.length_map, List.length_dropLast, hlen]
    have hq2 : H q = none := new_upd g4 hq
    have s3 := same_new (o := .lst [V.int ((t.on.length - 1 : Nat) : Int)]) hq
    exact D _ ρ q (hBr.mono s3) (Keep.trans bt.keep (Same.keep s3)) (Ext.refl _ _) ((bt.out (by intro z; cases z)).trans (Same.out s3)) hq2 (hB.own.new hq2) upd_same
theorem ok_turned_about {f : Addr} {fd : FuncData} (F : Fun K "turned_about" "turned_about" s_turned_about f fd) (T : TxB mg) : FnOk P w K mg base CX0 1 f fd ["steps"] spTurned := by
  refine F.ok sc_turned_about (fun vs H Q E h => ?_) (fun cdv A outer s0 H vs Q E hr h => ?_)
  · obtain ⟨l, ws, rfl, _⟩ := h
    rfl
  · obtain ⟨l, ws, rfl, ⟨bs, hbs, hP⟩, hlen, k⟩ := h
    have nd := sc_turned_about.nd
    have lb := Paired.len hP
    refine ⟨_, pss_one (ps_ret (pe_lc rfl nd (pi_reversed (by rfl) T.reversed (pa_cons (pv 0) pa_nil)) (blkOk_by (N := n_turned_about) (sc := defScope s_turned_about) (own := [("step", 1)]) (by decide +kernel))
      (fun s H C cl fp => pg_name (i := 1) nd rfl (Or.inl rfl) (Or.inr rfl)) (fun s H C cl fp => pts_nil)
      (fun s H C cl fp => pe_tup (pa_cons (pe_ix (ixT K) (pv 1) pe_int (fun _ _ => rfl)) (pa_cons (pe_ix (ixT K) (pv 1) pe_int (fun _ _ => rfl)) (pa_cons (pe_ix (ixT K) (pv 1) pe_int (fun _ _ => rfl)) pa_nil)))))), ?_⟩
    rw [show L2.start n_turned_about [V.ref l] = [some (V.ref l), none] from rfl]
    walk_at "rd"
    refine ⟨_, SqL.of hbs, fun L hL => ?_⟩
    obtain ⟨Pv, eP⟩ : ∃ Pv : Nat → Hp → Prop, Pv = fun i H' => ∃ as : List Addr, H' L = some (.lst (as.map V.ref)) ∧ Paired (StepAt H') as ((ws.map Rail.Step.turned).reverse.take i) ∧ (∀ b o, H b = some o → H' b = some o) ∧ ∀ b ∈ as, b ≠ L := ⟨_, rfl⟩
    refine lc_rev Pv ?_ ?_ ?_ ?_
    · rw [eP]
      exact ⟨[], upd_same, .nil, same_new hL, fun b hb => by cases hb⟩
    · intro i H' _ z
      rw [eP] at z
      obtain ⟨as, h1, h2, h3, h4⟩ := z
      exact SqL.of (h3 _ _ hbs)
    · intro i y H' hi hy z
      rw [eP] at z
      obtain ⟨as, h1, h2, h3, h4⟩ := z
      rw [List.length_map] at hi hy
      rw [List.getElem?_map] at hy
      cases ea : bs[bs.length - 1 - i]? with
      | none => rw [ea] at hy; cases hy
      | some p =>
      rw [ea] at hy
      cases hy
      obtain ⟨e, ee, hb⟩ := paired_get hP ea
      have hb : StepAt H' p e := h3 _ _ hb
      have e0 : (ws.map Rail.Step.turned).reverse[i]? = some e.turned := by
        rw [List.getElem?_reverse (by rw [List.length_map]; omega), List.length_map, List.getElem?_map, ← lb, ee]
        rfl
      walk_at "rd"
      refine ⟨_, SqT.of hb, _, atI_nat (j := 0) rfl, _, SqT.of hb, _, atI_nat (j := 2) rfl, _, SqT.of hb, _, atI_nat (j := 1) rfl, by show 3 ≤ sizeLine; decide, fun U hU => ?_⟩
      have hLT : L ≠ U := ne_of_none h1 hU
      refine ⟨as.map V.ref, by rw [upd_ne hLT]; exact h1, ?_, ?_⟩
      · have l1 := Paired.len h2
        rw [List.length_take, List.length_reverse, List.length_map] at l1
        rw [List.length_map, l1, sizeLine_eq]
        omega
      rw [eP]
      refine ⟨as ++ [U], ?_, ?_, ?_, ?_⟩
      · rw [upd_same, List.map_append]
        rfl
      · rw [take_snoc e0]
        refine Paired.snoc (Paired.mono2 h2 fun b e hb he => ?_) ?_
        · show upd _ _ _ b = _
          rw [upd_ne (h4 b hb), upd_ne (ne_of_none he hU)]
          exact he
        · show upd _ _ _ U = _
          rw [upd_ne hLT.symm, upd_same]
          rfl
      · intro b o hb
        rw [upd_ne (ne_of_none hb hL), upd_ne (ne_of_none (h3 _ _ hb) hU)]
        exact h3 b o hb
      · intro b hb
        rcases List.mem_append.mp hb with hb | hb
        · exact h4 b hb
        · rw [List.mem_singleton.mp hb]
          exact hLT.symm
    · intro H' z
      rw [eP] at z
      obtain ⟨as, h1, h2, h3, h4⟩ := z
      rw [List.take_of_length_le (by rw [List.length_reverse, List.length_map, List.length_map]; omega)] at h2
      exact k H' L h3 hL ⟨as, h1, h2⟩
theorem ok_back {f : Addr} {fd : FuncData} {c : Ad} (F : Fun K "back" "back" s_back f fd) (T : TxB mg) (cb : Tc K c.box bfs) (cn : Tc K c.train nfs) (c4 : ConI mg "NO_SUCH" (-4)) (c3 : ConI mg "NOT_AS_THINGS_STAND" (-3)) (G : Fn P w K mg base 1 "turned_about" ["steps"] spTurned) : FnOk P w K mg base CX0 2 f fd ["box", "number"] (spBack c) := by
  refine F.ok sc_back (fun vs H Q E h => ?_) (fun cdv A outer s0 H vs Q E hr h => ?_)
  · obtain ⟨x, n, ρ, b, k, rfl, _⟩ := h
    rfl
  · obtain ⟨x, n, ρ, b, k, rfl, hB, hn, D⟩ := h
    have nd := sc_back.nd
    have hu := hu_of hr
    refine ⟨_, pss_cons (ps_if (pt_cmp (pc_dnotin hu (pv 1) (pe_fld (pv 0) (by rfl)))) (pss_one (ps_ret (pe_lst (pa_cons (pe_con c4 (by rfl)) pa_nil)))) pss_nil)
      (pss_cons (ps_set (i := 2) nd rfl (Or.inl rfl) (pe_dget hu (pe_fld (pv 0) (by rfl)) (pv 1) (fun _ _ => rfl)))
      (pss_cons (ps_if (pt_cmpR op_gt (pe_callB call_len_seq (by rfl) T.len PySem.boot_len (pa_cons (pe_fld (pv 2) (by rfl)) pa_nil)) pe_int (nomark _)) (pss_one (ps_ret (pe_lst (pa_cons (pe_con c3 (by rfl)) pa_nil)))) pss_nil)
      (pss_cons (ps_fld (pv 2) (pe_fn G hr (pa_cons (pe_fld (pv 2) (by rfl)) pa_nil)) (by rfl))
      (pss_one (ps_ret (pe_lst (pa_cons (pe_callB call_len_seq (by rfl) T.len PySem.boot_len (pa_cons (pe_fld (pv 2) (by rfl)) pa_nil)) pa_nil))))))), ?_⟩
    rw [show L2.start n_back [V.ref x, vi k] = [some (V.ref x), some (vi k), none] from rfl]
    obtain ⟨dx, a, ak, as, sl, td, rd, kt, kr, h1, h2, ⟨h3, h3'⟩, ⟨h4, h4', h4''⟩, h5, h5', h5''⟩ := hB.ex
    walk_at "rd"
    refine ⟨_, _, _, h1, cb.cl, cb.na _ (by decide +kernel), _, rfl, td, rfl, _, DGet.k (k := .inl (k : Int)) h4', ?_⟩
    rcases val_iff h4'' k with ⟨p, t, ev, ht, hT⟩ | ⟨ev, hno⟩
    rotate_left
    · rw [ev, if_pos (by rfl)]
      refine ⟨by show 1 ≤ sizeLine; decide, fun r hr => ?_⟩
      have e1 : Rail.step (some b) (.back k) = (some b, Rail.says (-4)) := by
        show (match b.train k with | none => _ | some t => _) = _
        rw [train_none hno]
      rw [e1] at D
      exact D.says hB hn (Same.refl H) hr rfl
    rw [ev, if_neg (by simp)]
    have hw := hB.wf.steps k t ht
    have e0 : Rail.step (some b) (.back k) = if t.ahead.isEmpty = false then (some b, Rail.says (-3)) else (some (Rail.withTrain b k (some ⟨(t.on.map Rail.Step.turned).reverse, []⟩)), Rail.says (t.on.length : Nat)) := by
      show (match b.train k with | none => _ | some t => _) = _
      rw [train_of ht]
    obtain ⟨dp, ls, lg, g1, g2, g3, g4, g5, ⟨cs, g6, g6'⟩⟩ := hT.ex
    have hlen := Paired.len g6'
    refine ⟨_, _, _, h1, cb.cl, cb.na _ (by decide +kernel), _, rfl, td, rfl, V.ref p, by rw [← ev]; exact DGet.k (k := .inl (k : Int)) h4', ?_⟩
    walk_at "rd"
    refine ⟨_, _, _, g1, cn.cl, cn.na _ (by decide +kernel), _, rfl, lg, rfl, _, .inl (SqL.of g6), ?_⟩
    rw [List.length_map, hlen]
    cases ea : t.ahead with
    | cons X r =>
      rw [if_pos (decide_eq_true (by rw [List.length_cons]; omega))]
      refine ⟨by show 1 ≤ sizeLine; decide, fun q hq => ?_⟩
      rw [e0, ea, if_pos (by rfl)] at D
      exact D.says hB hn (Same.refl H) hq rfl
    | nil =>
    rw [if_neg (by rw [decide_eq_true_eq]; decide)]
    rw [e0, ea, if_neg (by decide)] at D
    have sm := hB.small
    refine ⟨_, _, _, g1, cn.cl, cn.na _ (by decide +kernel), _, rfl, ls, t.on, rfl, g4, by have := hw.2; omega, fun H1 q s1 hq0 hq => ?_⟩
    walk_at "rd"
    refine ⟨_, _, _, s1 _ _ g1, cn.cl, cn.na _ (by decide +kernel), by show 2 < 1000; decide, ?_⟩
    have e3 : putF "stands" (V.ref q) (nf ls lg) = nf q lg := rfl
    rw [e3]
    obtain ⟨R, eR⟩ : ∃ R : Rho, R = fun z => if z = q then some (Role.on k) else ρ z := ⟨_, rfl⟩
    have R_q : R q = some (.on k) := by rw [eR]; exact if_pos rfl
    have R_o : ∀ z, z ≠ q → R z = ρ z := fun z hz => by rw [eR]; exact if_neg hz
    have ρq : ρ q = none := hB.own.new hq0
    have R_b : ∀ z r, ρ z = some r → R z = some r := fun z r hz => by
      rw [R_o z (fun e => by rw [e, ρq] at hz; cases hz)]
      exact hz
    have bt2 := upd_but (H := H1) (o := .ins c.train dp (nf q lg)) g2
    have ext : Ext ρ R H := fun z o hz nz => by rw [R_o z (ne_of_none hz hq0)]; exact nz
    have own1 := hB.own.mono s1
    have nqp : q ≠ p := fun e => by rw [e, g2] at ρq; cases ρq
    have hq3 : StepsAt (upd H1 p (.ins c.train dp (nf q lg))) q (t.on.map Rail.Step.turned).reverse := by
      obtain ⟨cs', l1, l2⟩ := hq
      exact ⟨cs', by rw [upd_ne nqp]; exact l1, Paired.mono (fun _ _ z => bt2.keep _ _ z (own1.tup z)) l2⟩
    have own2 : Own c R (upd H1 p (.ins c.train dp (nf q lg))) := by
      intro z r hz
      by_cases z1 : z = q
      · subst z1
        rw [R_q] at hz
        cases hz
        obtain ⟨cs', l2, _⟩ := hq3
        exact ⟨_, l2, _, rfl⟩
      · rw [R_o z z1] at hz
        exact own_upd own1 g2 ⟨_, _, rfl⟩ z r hz
    have bt : But (· = Role.train k) ρ H (upd H1 p (.ins c.train dp (nf q lg))) := fun z o hz nz => bt2 z o (s1 _ _ hz) nz
    have lenr : (t.on.map Rail.Step.turned).reverse.length = t.on.length := by rw [List.length_reverse, List.length_map]
    have hBr := hB.retrain (m := n + 17) bt (fun z r hz _ => R_b z r hz) ext own2 k p t ⟨(t.on.map Rail.Step.turned).reverse, []⟩ (fun r hr => .inl (.inl hr)) ht h1 h2 h3 h3' h4 h4' h4'' h5 h5' h5'' ev
      ⟨dp, q, lg, upd_same, R_b _ _ g2, R_q, hq3, R_b _ _ g5, bt.steps hB.own g5 (by intro z; cases z) (by rw [← ea]; exact ⟨cs, g6, g6'⟩)⟩
      (fun z => by
        have : (t.on.map Rail.Step.turned).reverse.length = 0 := by rw [show (t.on.map Rail.Step.turned).reverse = [] from z]; rfl
        rw [lenr] at this
        exact hw.1 (List.length_eq_zero_iff.mp this)) (by
        show (t.on.map Rail.Step.turned).reverse.length + 0 ≤ n + 17
        rw [lenr]
        have := hw.2
        omega) (by omega) hn
    obtain ⟨cs', l1, l2⟩ := hq3
    refine ⟨_, _, _, upd_same, cn.cl, cn.na _ (by decide +kernel), _, rfl, q, rfl, _, .inl (SqL.of l1), by show 1 ≤ sizeLine; decide, fun r hr => ?_⟩
    rw [List.length_map, Paired.len l2, lenr]
    have hr1 : H1 r = none := new_upd (s1 _ _ g1) hr
    have hr0 : H r = none := s1.free hr1
    have nrq : r ≠ q := (ne_of_none l1 hr).symm
    have s3 := same_new (o := .lst [V.int (t.on.length : Int)]) hr
    exact D _ R r (hBr.mono s3) (Keep.trans bt.keep (Same.keep s3)) ext ⟨fun z o hz e => s3 _ _ (bt _ _ hz (fun r' e2 => by rw [e] at e2; cases e2; intro z; cases z)), fun z e => R_b z _ e⟩ hr0 (by rw [R_o r nrq]; exact hB.own.new hr0) upd_same
end
end Sb
namespace Sb
open PySem PySem.Spec PyProof.Rows L2
/-! ### points, section, signal, train, count -/
def spPoints (c : Ad) : Sp := fun vs H Q _ => ∃ (x : Addr) (n : Nat) (ρ : Rho) (b : Rail.Box) (s z : Nat), vs = [.ref x, vi s, vi z] ∧ BoxAt c n ρ H x b ∧ n + 17 ≤ 1000000 ∧ Done c n ρ H x (Rail.step (some b) (.points s z)) Q
def spSection (c : Ad) : Sp := fun vs H Q _ => ∃ (x : Addr) (n : Nat) (ρ : Rho) (b : Rail.Box) (s : Nat), vs = [.ref x, vi s] ∧ BoxAt c n ρ H x b ∧ Disj b ∧ n + 17 ≤ 1000000 ∧ Done c n ρ H x (Rail.step (some b) (.section_ s)) Q
def spSignal (c : Ad) : Sp := fun vs H Q _ => ∃ (x : Addr) (n : Nat) (ρ : Rho) (b : Rail.Box) (i : Nat), vs = [.ref x, vi i] ∧ BoxAt c n ρ H x b ∧ n + 17 ≤ 1000000 ∧ Done c n ρ H x (Rail.step (some b) (.signal i)) Q
def spTrain (c : Ad) : Sp := fun vs H Q _ => ∃ (x : Addr) (n : Nat) (ρ : Rho) (b : Rail.Box) (k : Nat), vs = [.ref x, vi k] ∧ BoxAt c n ρ H x b ∧ n + 17 ≤ 1000000 ∧ Done c n ρ H x (Rail.step (some b) (.train k)) Q
def spCount (c : Ad) : Sp := fun vs H Q _ => ∃ (x : Addr) (n : Nat) (ρ : Rho) (b : Rail.Box), vs = [.ref x] ∧ BoxAt c n ρ H x b ∧ n + 17 ≤ 1000000 ∧ Done c n ρ H x (Rail.step (some b) .count) Q
theorem stepsAny {t : Rail.Train} {s : Nat} : ((Rail.trainSteps (some t)).any fun (x : Rail.Step) => x.section_ == s) = (through t.on s || through t.ahead s) := by
  show ((t.on ++ t.ahead).any _) = _
  rw [List.any_append]
  rfl
theorem who_none {b : Rail.Box} {s : Nat} (h : ∀ (k : Nat) (t : Rail.Train), b.trains[k]? = some (some t) → (through t.on s || through t.ahead s) = false) : (b.trains.findIdx? fun (o : Option Rail.Train) => (Rail.trainSteps o).any fun (x : Rail.Step) => x.section_ == s) = none := by
  rw [List.findIdx?_eq_none_iff]
  intro o ho
  cases o with
  | none => rfl
  | some t =>
    obtain ⟨k, hk, e⟩ := List.getElem_of_mem ho
    rw [stepsAny]
    exact h k t (by rw [List.getElem?_eq_getElem hk, e])
theorem who_some {b : Rail.Box} {s k : Nat} {t : Rail.Train} (d : Disj b) (ht : b.trains[k]? = some (some t)) (h : (through t.on s || through t.ahead s) = true) : (b.trains.findIdx? fun (o : Option Rail.Train) => (Rail.trainSteps o).any fun (x : Rail.Step) => x.section_ == s) = some k := by
  have hk := (List.getElem?_eq_some_iff.mp ht).1
  have e := (List.getElem?_eq_some_iff.mp ht).2
  rw [List.findIdx?_eq_some_iff_getElem]
  refine ⟨hk, by rw [e, stepsAny]; exact h, fun j hj hp => ?_⟩
  have hjl : j < b.trains.length := Nat.lt_trans hj hk
  cases e' : b.trains[j] with
  | none =>
    rw [e'] at hp
    cases hp
  | some t' =>
    rw [e', stepsAny] at hp
    have th : ∀ u : Rail.Train, (through u.on s || through u.ahead s) = true → through u.steps s = true := fun u hu => by
      show ((u.on ++ u.ahead).any _) = true
      rw [List.any_append]
      exact hu
    have := d.tt k j t t' s ht (by rw [List.getElem?_eq_getElem hjl, e']) (th t h) (th t' hp)
    omega
def secAns (b : Rail.Box) (u z : Nat) : Rail.Answer := match b.trains.findIdx? fun (o : Option Rail.Train) => (Rail.trainSteps o).any fun (x : Rail.Step) => x.section_ == u with
  | some k => ⟨if ((b.train k).map fun (t : Rail.Train) => t.on.any fun (x : Rail.Step) => x.section_ == u) = some true then 1 else 2, [[z, k]]⟩
  | none => match b.routes.find? fun (r : Rail.Route) => r.way.any fun (x : Rail.Step) => x.section_ == u with
    | some r => ⟨3, [[z, r.signal]]⟩
    | none => ⟨0, [[z]]⟩
theorem secAns_eq {b : Rail.Box} {u h m z : Nat} (d : Disj b) (q : Has b u h m) : secAns b u z = ⟨(h : Int), [if h = 0 then [z] else [z, m]]⟩ := by
  unfold secAns
  cases q with
  | free e =>
    obtain ⟨f1, f2⟩ := free_iff.mp e
    rw [who_none fun k t ht => by rw [(f1 k t ht).1, (f1 k t ht).2]; rfl]
    have : (b.routes.find? fun (r : Rail.Route) => r.way.any fun (x : Rail.Step) => x.section_ == u) = none := List.find?_eq_none.mpr fun r hr z => by
      have := f2 r hr
      rw [show through r.way u = true from z] at this
      cases this
    rw [this]
    rfl
  | on k t ht e =>
    rw [who_some d ht (by rw [e]; rfl)]
    dsimp only
    rw [train_of ht]
    have : ((some t).map fun (t : Rail.Train) => t.on.any fun (x : Rail.Step) => x.section_ == u) = some true := congrArg some e
    rw [if_pos this]
    rfl
  | ahead k t ht e1 e =>
    rw [who_some d ht (by rw [e]; exact Bool.or_true _)]
    dsimp only
    rw [train_of ht]
    have : ¬ ((some t).map fun (t : Rail.Train) => t.on.any fun (x : Rail.Step) => x.section_ == u) = some true := fun z => by
      have z : through t.on u = true := Option.some.inj z
      rw [e1] at z
      cases z
    rw [if_neg this]
    rfl
  | route r hr e =>
    rw [who_none fun k t ht => by
      cases e2 : (through t.on u || through t.ahead u) with
      | false => rfl
      | true =>
        have := d.tr k t r u ht hr (by
          show ((t.on ++ t.ahead).any _) = true
          rw [List.any_append]
          exact e2)
        rw [e] at this
        cases this]
    cases e3 : b.routes.find? fun (r : Rail.Route) => r.way.any fun (x : Rail.Step) => x.section_ == u with
    | none => exact absurd e (List.find?_eq_none.mp e3 r hr)
    | some r' =>
      have p := List.find?_some e3
      have hs := d.rr r' r u (List.mem_of_find?_eq_some e3) hr p e
      dsimp only
      rw [hs]
      rfl
section
variable {P : Program} {w : World} {K : PySem.W.Frag} {mg : Str → Option Value} {base : Heap}
theorem ok_turn_points {f : Addr} {fd : FuncData} {c : Ad} (F : Fun K "turn_points" "turn_points" s_turn_points f fd) (T : TxB mg) (cb : Tc K c.box bfs) (ct : Tc K c.track tfs) (c1 : ConI mg "NOT_ALLOWED" (-1)) (c5 : ConI mg "NOT_FREE" (-5)) (G1 : Fn P w K mg base 1 "is_points" ["track", "section"] (spIsPoints c.track)) (G2 : Fn P w K mg base 3 "is_free" ["box", "section"] (spIsFree c)) : FnOk P w K mg base CX0 4 f fd ["box", "section", "stance"] (spPoints c) := by
  refine F.ok sc_turn_points (fun vs H Q E h => ?_) (fun cdv A outer s0 H vs Q E hr h => ?_)
  · obtain ⟨x, n, ρ, b, s, z, rfl, _⟩ := h
    rfl
  · obtain ⟨x, n, ρ, b, s, z, rfl, hB, hn, D⟩ := h
    have nd := sc_turn_points.nd
    have hr1 : Room 1 _ := hr.mono (by decide)
    refine ⟨_, pss_cons (ps_if (PW.pt (pw_or (pt_cmpR op_ge (pv 1) (pe_callB call_len_seq (by rfl) T.len PySem.boot_len (pa_cons (pe_fld (pe_fld (pv 0) (by rfl)) (by rfl)) pa_nil)) (nomark _))
          (pw_or (pt_not (pt_val (pe_fn G1 hr1 (pa_cons (pe_fld (pv 0) (by rfl)) (pa_cons (pv 1) pa_nil))))) (pw_or1 (pt_cmpR op_gt (pv 2) pe_int (nomark _)))))) (pss_one (ps_ret (pe_lst (pa_cons (pe_con c1 (by rfl)) pa_nil)))) pss_nil)
      (pss_cons (ps_if (pt_not (pt_val (pe_fn G2 hr (pa_cons (pv 0) (pa_cons (pv 1) pa_nil))))) (pss_one (ps_ret (pe_lst (pa_cons (pe_con c5 (by rfl)) pa_nil)))) pss_nil)
      (pss_cons (ps_asg (pv 2) (pg_sub (pe_fld (pv 0) (by rfl)) (pv 1) set_list))
      (pss_one (ps_ret (pe_lst (pa_cons pe_int pa_nil)))))), ?_⟩
    rw [show L2.start n_turn_points [V.ref x, vi s, vi z] = [some (V.ref x), some (vi s), some (vi z)] from rfl]
    obtain ⟨dx, a, ak, as, sl, td, rd, kt, kr, h1, h2, ⟨h3, h3'⟩, ⟨h4, h4', h4''⟩, h5, h5', h5''⟩ := hB.ex
    obtain ⟨dt, aj, ag, kj, ks, g1, _⟩ := h2.1.ex
    have hk := h2.1.kinds
    have no : ∀ r, H r = none → (b.track.points.getD s false = false ∨ 1 < z) → Q (V.ref r) (upd H r (.lst [V.int (-1)])) := fun r hr hz => by
      have e1 : Rail.step (some b) (.points s z) = (some b, Rail.says (-1)) := by
        show (if b.track.points.getD s false = false ∨ 1 < z then _ else _) = _
        rw [if_pos hz]
      rw [e1] at D
      exact D.says hB hn (Same.refl H) hr rfl
    walk_at "rd"
    refine ⟨_, _, _, h1, cb.cl, cb.na _ (by decide +kernel), _, rfl, a, rfl, _, _, _, g1, ct.cl, ct.na _ (by decide +kernel), _, rfl, ak, rfl, _, .inl (SqL.of hk), ?_⟩
    rw [List.length_map]
    by_cases hs : b.track.points.length ≤ s
    · rw [if_pos (decide_eq_true (by omega))]
      refine ⟨by show 1 ≤ sizeLine; decide, fun r hr => no r hr (.inl ?_)⟩
      rw [List.getD_eq_getElem?_getD, List.getElem?_eq_none hs]
      rfl
    rw [if_neg (by rw [decide_eq_true_eq]; omega)]
    refine ⟨_, _, _, h1, cb.cl, cb.na _ (by decide +kernel), _, rfl, a, ak, as, b.track, s, rfl, h2.1, by omega, _, rfl, ?_⟩
    cases hp : b.track.points.getD s false with
    | false =>
      rw [if_pos (by rfl)]
      exact ⟨by show 1 ≤ sizeLine; decide, fun r hr => no r hr (.inl hp)⟩
    | true =>
    rw [if_neg (by decide)]
    by_cases hz : 1 < z
    · rw [if_pos (decide_eq_true (by omega))]
      exact ⟨by show 1 ≤ sizeLine; decide, fun r hr => no r hr (.inr hz)⟩
    rw [if_neg (by rw [decide_eq_true_eq]; omega)]
    refine ⟨x, n, ρ, b, s, rfl, hB, fun H1 s1 => ⟨_, rfl, ?_⟩⟩
    have e0 : Rail.step (some b) (.points s z) = if b.free s = false then (some b, Rail.says (-5)) else (some ⟨b.track, b.turned.set s (z == 1), b.routes, b.trains⟩, Rail.says 0) := by
      show (if b.track.points.getD s false = false ∨ 1 < z then _ else _) = _
      rw [if_neg (by rintro (q | q); (rw [hp] at q; cases q); omega)]
    cases hf : b.free s with
    | false =>
      rw [if_pos (by rfl)]
      refine ⟨by show 1 ≤ sizeLine; decide, fun r hr => ?_⟩
      rw [e0, if_pos hf] at D
      exact D.says hB hn s1 hr rfl
    | true =>
    rw [if_neg (by decide)]
    rw [e0, if_neg (by rw [hf]; decide)] at D
    have hst := hB.wf.stances
    have hix : ixN (b.turned.map fun z => vi z.toNat).length (s : Int) = some s := by
      unfold ixN
      rw [List.length_map, if_pos (by omega), if_pos (by omega)]
      rfl
    refine ⟨_, _, _, s1 _ _ h1, cb.cl, cb.na _ (by decide +kernel), _, rfl, ?_⟩
    walk_at "rd"
    refine ⟨_, s1 _ _ h3', _, hix, ?_⟩
    have el : (b.turned.map fun z => vi z.toNat).set s (vi z) = (b.turned.set s (z == 1)).map fun z => vi z.toNat := by
      rw [List.map_set]
      congr 2
      have : z = 0 ∨ z = 1 := by omega
      rcases this with rfl | rfl <;> rfl
    rw [el]
    obtain ⟨hB2, _⟩ := (hB.mono s1).stances (s1 _ _ h1) (b.turned.set s (z == 1)) (by rw [List.length_set]; exact hst)
    refine ⟨by show 1 ≤ sizeLine; decide, fun r hr => ?_⟩
    have bt := upd_but (H := H1) (o := .lst ((b.turned.set s (z == 1)).map fun z => vi z.toNat)) h3
    have hr1' : H1 r = none := new_upd (s1 _ _ h3') hr
    have s3 := same_new (o := .lst [V.int 0]) hr
    exact D _ ρ r ((hB2.mono s3).more (by omega) hn) (Keep.trans (Same.keep s1) (Keep.trans bt.keep (Same.keep s3))) (Ext.refl _ _) ((Same.out s1).trans ((bt.out (by intro z; cases z)).trans (Same.out s3))) (s1.free hr1') (hB.own.new (s1.free hr1')) upd_same
theorem ok_show_section {f : Addr} {fd : FuncData} {c : Ad} (F : Fun K "show_section" "show_section" s_show_section f fd) (T : TxB mg) (cb : Tc K c.box bfs) (ct : Tc K c.track tfs) (c4 : ConI mg "NO_SUCH" (-4)) (c0 : ConI mg "FREE" 0) (G : Fn P w K mg base 2 "who_has" ["box", "section"] (spWho c)) : FnOk P w K mg base CX0 3 f fd ["box", "section"] (spSection c) := by
  refine F.ok sc_show_section (fun vs H Q E h => ?_) (fun cdv A outer s0 H vs Q E hr h => ?_)
  · obtain ⟨x, n, ρ, b, s, rfl, _⟩ := h
    rfl
  · obtain ⟨x, n, ρ, b, s, rfl, hB, hd, hn, D⟩ := h
    have nd := sc_show_section.nd
    refine ⟨_, pss_cons (ps_if (pt_cmpR op_ge (pv 1) (pe_callB call_len_seq (by rfl) T.len PySem.boot_len (pa_cons (pe_fld (pe_fld (pv 0) (by rfl)) (by rfl)) pa_nil)) (nomark _)) (pss_one (ps_ret (pe_lst (pa_cons (pe_con c4 (by rfl)) pa_nil)))) pss_nil)
      (pss_cons (ps_set (i := 2) nd rfl (Or.inl rfl) (pe_fn G hr (pa_cons (pv 0) (pa_cons (pv 1) pa_nil))))
      (pss_cons (ps_if (pt_cmpR op_eq (pe_ix ix_tup (pv 2) pe_int (fun _ _ => rfl)) (pe_con c0 (by rfl)) (nomark _)) (pss_one (ps_ret (pe_lst (pa_cons (pe_con c0 (by rfl)) (pa_cons pe_int (pa_cons (pe_ix ix_list (pe_fld (pv 0) (by rfl)) (pv 1) (fun _ _ => rfl)) pa_nil)))))) pss_nil)
      (pss_one (ps_ret (pe_lst (pa_cons (pe_ix ix_tup (pv 2) pe_int (fun _ _ => rfl)) (pa_cons pe_int (pa_cons (pe_ix ix_list (pe_fld (pv 0) (by rfl)) (pv 1) (fun _ _ => rfl)) (pa_cons (pe_ix ix_tup (pv 2) pe_int (fun _ _ => rfl)) pa_nil))))))))), ?_⟩
    rw [show L2.start n_show_section [V.ref x, vi s] = [some (V.ref x), some (vi s), none] from rfl]
    obtain ⟨dx, a, ak, as, sl, td, rd, kt, kr, h1, h2, ⟨h3, h3'⟩, ⟨h4, h4', h4''⟩, h5, h5', h5''⟩ := hB.ex
    obtain ⟨dt, aj, ag, kj, ks, g1, _⟩ := h2.1.ex
    have hk := h2.1.kinds
    have hst := hB.wf.stances
    walk_at "rd"
    refine ⟨_, _, _, h1, cb.cl, cb.na _ (by decide +kernel), _, rfl, a, rfl, _, _, _, g1, ct.cl, ct.na _ (by decide +kernel), _, rfl, ak, rfl, _, .inl (SqL.of hk), ?_⟩
    rw [List.length_map]
    have e0 : Rail.step (some b) (.section_ s) = (some b, if b.track.points.length ≤ s then Rail.says (-4) else secAns b s (if b.turned.getD s false = true then 1 else 0)) := rfl
    by_cases hs : b.track.points.length ≤ s
    · rw [if_pos (decide_eq_true (by omega))]
      refine ⟨by show 1 ≤ sizeLine; decide, fun r hr => ?_⟩
      rw [e0, if_pos hs] at D
      exact D.says hB hn (Same.refl H) hr rfl
    rw [if_neg (by rw [decide_eq_true_eq]; omega)]
    rw [e0, if_neg hs] at D
    refine ⟨x, n, ρ, b, s, rfl, hB, fun H1 q h m s1 hq0 hq hh => ?_⟩
    rw [secAns_eq hd hh] at D
    have hz : (b.turned.map fun z => vi z.toNat)[s]? = some (vi (if b.turned.getD s false = true then 1 else 0)) := by
      rw [List.getElem?_map, List.getElem?_eq_getElem (by omega), List.getD_eq_getElem?_getD, List.getElem?_eq_getElem (by omega)]
      show some (vi (b.turned[s]).toNat) = some (vi (if b.turned[s] = true then 1 else 0))
      cases b.turned[s] <;> rfl
    walk_at "rd"
    refine ⟨_, SqT.of hq, _, atI_nat (j := 0) rfl, rfl, ?_⟩
    by_cases h0 : h = 0
    · subst h0
      rw [if_pos (by rfl)]
      refine ⟨_, _, _, s1 _ _ h1, cb.cl, cb.na _ (by decide +kernel), _, rfl, sl, rfl, _, SqL.of (s1 _ _ h3'), _, atI_nat hz, by show 3 ≤ sizeLine; decide, fun r hr => ?_⟩
      exact D.says hB hn s1 hr rfl
    · rw [if_neg (by
        rw [show decide (vi h = V.int 0) = (h == 0) from (show decide (V.int (h : Int) = V.int ((0 : Nat) : Int)) = _ from (dec_int.trans (ibeq _ _)))]
        simpa using h0)]
      refine ⟨_, SqT.of hq, _, atI_nat (j := 0) rfl, _, _, _, s1 _ _ h1, cb.cl, cb.na _ (by decide +kernel), _, rfl, sl, rfl, _, SqL.of (s1 _ _ h3'), _, atI_nat hz, _, SqT.of hq, _, atI_nat (j := 1) rfl, by show 4 ≤ sizeLine; decide, fun r hr => ?_⟩
      rw [if_neg h0] at D
      exact D.says hB hn s1 hr rfl
end
end Sb
namespace Sb
open PySem PySem.Spec PyProof.Rows L2
/-! ### signal, train, count -/
theorem range_back (ts : List (Option Rail.Train)) : (List.range ts.length).map (fun k => (ts[k]?).getD none) = ts := by
  apply List.ext_getElem?
  intro i
  rw [List.getElem?_map]
  by_cases h : i < ts.length
  · rw [List.getElem?_range h, List.getElem?_eq_getElem h]
    show some ((ts[i]?).getD none) = _
    rw [List.getElem?_eq_getElem h]
    rfl
  · rw [List.getElem?_eq_none (by rw [List.length_range]; omega), List.getElem?_eq_none (by omega)]
    rfl
theorem trains_len {C : Addr} {ρ : Rho} {H : Hp} {kt : List (Key × V)} {ts : List (Option Rail.Train)} (h : TrainsAt C ρ H kt ts) : kt.length = (ts.filter fun (o : Option Rail.Train) => o.isSome).length := by
  rw [count_eq h]
  conv => rhs; rw [← range_back ts]
  rw [List.filter_map, List.length_map]
  rfl
section
variable {P : Program} {w : World} {K : PySem.W.Frag} {mg : Str → Option Value} {base : Heap}
theorem ok_show_signal {f : Addr} {fd : FuncData} {c : Ad} (F : Fun K "show_signal" "show_signal" s_show_signal f fd) (T : TxB mg) (cb : Tc K c.box bfs) (ct : Tc K c.track tfs) (c4 : ConI mg "NO_SUCH" (-4)) : FnOk P w K mg base CX0 1 f fd ["box", "signal"] (spSignal c) := by
  refine F.ok sc_show_signal (fun vs H Q E h => ?_) (fun cdv A outer s0 H vs Q E hr h => ?_)
  · obtain ⟨x, n, ρ, b, i, rfl, _⟩ := h
    rfl
  · obtain ⟨x, n, ρ, b, i, rfl, hB, hn, D⟩ := h
    have nd := sc_show_signal.nd
    have hu := hu_of hr
    refine ⟨_, pss_cons (ps_if (pt_cmpR op_ge (pv 1) (pe_callB call_len_seq (by rfl) T.len PySem.boot_len (pa_cons (pe_fld (pe_fld (pv 0) (by rfl)) (by rfl)) pa_nil)) (nomark _)) (pss_one (ps_ret (pe_lst (pa_cons (pe_con c4 (by rfl)) pa_nil)))) pss_nil)
      (pss_one (ps_ret (pe_lst (pa_cons (pe_ifExp (pt_cmp (pc_din hu (pv 1) (pe_fld (pv 0) (by rfl)))) pe_int pe_int) pa_nil)))), ?_⟩
    rw [show L2.start n_show_signal [V.ref x, vi i] = [some (V.ref x), some (vi i)] from rfl]
    obtain ⟨dx, a, ak, as, sl, td, rd, kt, kr, h1, h2, ⟨h3, h3'⟩, ⟨h4, h4', h4''⟩, h5, h5', h5''⟩ := hB.ex
    obtain ⟨dt, aj, ag, kj, ks, g1, _⟩ := h2.1.ex
    obtain ⟨bs, hbs, hPs⟩ := h2.1.sig
    walk_at "rd"
    refine ⟨_, _, _, h1, cb.cl, cb.na _ (by decide +kernel), _, rfl, a, rfl, _, _, _, g1, ct.cl, ct.na _ (by decide +kernel), _, rfl, as, rfl, _, .inl (SqL.of hbs), ?_⟩
    rw [List.length_map, Paired.len hPs]
    have e0 : Rail.step (some b) (.signal i) = (some b, if b.track.signals.length ≤ i then Rail.says (-4) else Rail.says (if (b.route i).isSome = true then 1 else 0)) := rfl
    by_cases hi : b.track.signals.length ≤ i
    · rw [if_pos (decide_eq_true (by omega))]
      refine ⟨by show 1 ≤ sizeLine; decide, fun r hr => ?_⟩
      rw [e0, if_pos hi] at D
      exact D.says hB hn (Same.refl H) hr rfl
    rw [if_neg (by rw [decide_eq_true_eq]; omega)]
    rw [e0, if_neg hi] at D
    refine ⟨_, _, _, h1, cb.cl, cb.na _ (by decide +kernel), _, rfl, rd, rfl, _, DGet.k (k := .inl (i : Int)) h5', ?_⟩
    rcases rt_iff i h5'' with ⟨r, l, a1, a2, a3, a4, a5, a6⟩ | ⟨a1, a2⟩
    · rw [a4, if_pos (by rfl)]
      rw [show b.route i = some r from a1, if_pos (by rfl)] at D
      exact ⟨by show 1 ≤ sizeLine; decide, fun q hq => D.says hB hn (Same.refl H) hq rfl⟩
    · rw [a2, if_neg (by simp)]
      rw [show b.route i = none from a1, if_neg (by simp)] at D
      exact ⟨by show 1 ≤ sizeLine; decide, fun q hq => D.says hB hn (Same.refl H) hq rfl⟩
theorem ok_show_train {f : Addr} {fd : FuncData} {c : Ad} (F : Fun K "show_train" "show_train" s_show_train f fd) (T : TxB mg) (cb : Tc K c.box bfs) (cn : Tc K c.train nfs) (c4 : ConI mg "NO_SUCH" (-4)) (G : Fn P w K mg base 1 "told_steps" ["steps"] spTold) : FnOk P w K mg base CX0 2 f fd ["box", "number"] (spTrain c) := by
  refine F.ok sc_show_train (fun vs H Q E h => ?_) (fun cdv A outer s0 H vs Q E hr h => ?_)
  · obtain ⟨x, n, ρ, b, k, rfl, _⟩ := h
    rfl
  · obtain ⟨x, n, ρ, b, k, rfl, hB, hn, D⟩ := h
    have nd := sc_show_train.nd
    have hu := hu_of hr
    refine ⟨_, pss_cons (ps_if (pt_cmp (pc_dnotin hu (pv 1) (pe_fld (pv 0) (by rfl)))) (pss_one (ps_ret (pe_lst (pa_cons (pe_con c4 (by rfl)) pa_nil)))) pss_nil)
      (pss_cons (ps_set (i := 2) nd rfl (Or.inl rfl) (pe_dget hu (pe_fld (pv 0) (by rfl)) (pv 1) (fun _ _ => rfl)))
      (pss_one (ps_ret (pe_op op_cat (pe_op op_cat (pe_lst (pa_cons (pe_callB call_len_seq (by rfl) T.len PySem.boot_len (pa_cons (pe_fld (pv 2) (by rfl)) pa_nil)) pa_nil)) (pe_fn G hr (pa_cons (pe_fld (pv 2) (by rfl)) pa_nil))) (pe_fn G hr (pa_cons (pe_fld (pv 2) (by rfl)) pa_nil)))))), ?_⟩
    rw [show L2.start n_show_train [V.ref x, vi k] = [some (V.ref x), some (vi k), none] from rfl]
    obtain ⟨dx, a, ak, as, sl, td, rd, kt, kr, h1, h2, ⟨h3, h3'⟩, ⟨h4, h4', h4''⟩, h5, h5', h5''⟩ := hB.ex
    walk_at "rd"
    refine ⟨_, _, _, h1, cb.cl, cb.na _ (by decide +kernel), _, rfl, td, rfl, _, DGet.k (k := .inl (k : Int)) h4', ?_⟩
    rcases val_iff h4'' k with ⟨p, t, ev, ht, hT⟩ | ⟨ev, hno⟩
    rotate_left
    · rw [ev, if_pos (by rfl)]
      refine ⟨by show 1 ≤ sizeLine; decide, fun r hr => ?_⟩
      have e1 : Rail.step (some b) (.train k) = (some b, Rail.says (-4)) := by
        show (match b.train k with | none => _ | some t => _) = _
        rw [train_none hno]
      rw [e1] at D
      exact D.says hB hn (Same.refl H) hr rfl
    rw [ev, if_neg (by simp)]
    have hw := hB.wf.steps k t ht
    have e0 : Rail.step (some b) (.train k) = (some b, ⟨(t.on.length : Nat), [Rail.stepNums t.on, Rail.stepNums t.ahead]⟩) := by
      show (match b.train k with | none => _ | some t => _) = _
      rw [train_of ht]
    rw [e0] at D
    obtain ⟨dp, ls, lg, g1, g2, g3, g4, g5, g6⟩ := hT.ex
    obtain ⟨bs, b4, b4'⟩ := id g4
    have sm := hB.small
    refine ⟨_, _, _, h1, cb.cl, cb.na _ (by decide +kernel), _, rfl, td, rfl, V.ref p, by rw [← ev]; exact DGet.k (k := .inl (k : Int)) h4', ?_⟩
    walk_at "rd"
    refine ⟨_, _, _, g1, cn.cl, cn.na _ (by decide +kernel), _, rfl, ls, rfl, _, .inl (SqL.of b4), ?_⟩
    rw [List.length_map, Paired.len b4']
    refine ⟨by show 1 ≤ sizeLine; decide, fun q hq => ?_⟩
    have s1 := same_new (o := .lst [V.int (t.on.length : Int)]) hq
    have hq1 : upd H q (.lst [V.int (t.on.length : Int)]) q = some (.lst [V.int (t.on.length : Int)]) := upd_same
    generalize upd H q (.lst [V.int (t.on.length : Int)]) = H1 at s1 hq1 ⊢
    refine ⟨_, _, _, s1 _ _ g1, cn.cl, cn.na _ (by decide +kernel), _, rfl, ls, t.on, rfl, g4.mono s1, by have := hw.2; omega, fun H2 q2 s2 hq20 hq2 => ?_⟩
    refine ⟨q2, rfl, _, s2 _ _ hq1, _, hq2, ?_, fun q3 hq3 => ?_⟩
    · rw [List.length_map, told_len, sizeLine_eq]
      show 1 + _ ≤ _
      have := hw.2
      omega
    have s3 := same_new (o := .lst ([V.int (t.on.length : Int)] ++ (toldOf t.on).map V.int)) hq3
    have hq3' : upd H2 q3 (.lst ([V.int (t.on.length : Int)] ++ (toldOf t.on).map V.int)) q3 = some (.lst ([V.int (t.on.length : Int)] ++ (toldOf t.on).map V.int)) := upd_same
    generalize upd H2 q3 (.lst ([V.int (t.on.length : Int)] ++ (toldOf t.on).map V.int)) = H3 at s3 hq3' ⊢
    have s13 := s1.trans (s2.trans s3)
    refine ⟨_, _, _, s13 _ _ g1, cn.cl, cn.na _ (by decide +kernel), _, rfl, lg, t.ahead, rfl, g6.mono s13, by have := hw.2; omega, fun H4 q4 s4 hq40 hq4 => ?_⟩
    refine ⟨q4, rfl, _, s4 _ _ hq3', _, hq4, ?_, fun r hr => ?_⟩
    · rw [List.length_append, List.length_map, List.length_map, told_len, told_len, sizeLine_eq]
      show 1 + _ + _ ≤ _
      have := hw.2
      omega
    refine D.says hB hn (s13.trans s4) hr ?_
    show _ = V.int (t.on.length : Int) :: ((((Rail.stepNums t.on).length : Int) :: (Rail.stepNums t.on).map fun (n : Nat) => (n : Int)) ++ ((((Rail.stepNums t.ahead).length : Int) :: (Rail.stepNums t.ahead).map fun (n : Nat) => (n : Int)) ++ [])).map V.int
    rw [List.append_nil, told_nums, told_nums, List.map_append]
    rfl
theorem ok_show_counts {f : Addr} {fd : FuncData} {c : Ad} (F : Fun K "show_counts" "show_counts" s_show_counts f fd) (T : TxB mg) (cb : Tc K c.box bfs) (ct : Tc K c.track tfs) (G : Fn P w K mg base 3 "is_free" ["box", "section"] (spIsFree c)) : FnOk P w K mg base CX0 4 f fd ["box"] (spCount c) := by
  refine F.ok sc_show_counts (fun vs H Q E h => ?_) (fun cdv A outer s0 H vs Q E hr h => ?_)
  · obtain ⟨x, n, ρ, b, rfl, _⟩ := h
    rfl
  · obtain ⟨x, n, ρ, b, rfl, hB, hn, D⟩ := h
    have nd := sc_show_counts.nd
    refine ⟨_, pss_cons (ps_setLc (i := 1) rfl nd rfl rfl (sw_true rfl rfl rfl rfl) (pi_range1 (by rfl) T.range (pa_cons (pe_callB call_len_seq (by rfl) T.len PySem.boot_len (pa_cons (pe_fld (pe_fld (pv 0) (by rfl)) (by rfl)) pa_nil)) pa_nil)) (blkOk_by (N := n_show_counts) (sc := defScope s_show_counts) (own := [("section", 2)]) (by decide +kernel))
        (fun s H C cl fp => pg_name (i := 2) nd rfl (Or.inl rfl) (Or.inr rfl)) (fun s H C cl fp => pts_one (pt_val (pe_fn G hr (pa_cons (pv 0) (pa_cons (pv 2) pa_nil))))) (fun s H C cl fp => pv 2))
      (pss_one (ps_ret (pe_lst (pa_cons (pe_callB call_lenD (by rfl) T.len PySem.boot_len (pa_cons (pe_fld (pv 0) (by rfl)) pa_nil)) (pa_cons pe_int (pa_cons (pe_callB call_lenD (by rfl) T.len PySem.boot_len (pa_cons (pe_fld (pv 0) (by rfl)) pa_nil)) (pa_cons (pe_callB call_len_seq (by rfl) T.len PySem.boot_len (pa_cons (pv 1) pa_nil)) pa_nil))))))), ?_⟩
    rw [show L2.start n_show_counts [V.ref x] = [some (V.ref x), none, none] from rfl]
    obtain ⟨dx, a, ak, as, sl, td, rd, kt, kr, h1, h2, ⟨h3, h3'⟩, ⟨h4, h4', h4''⟩, h5, h5', h5''⟩ := hB.ex
    obtain ⟨dt, aj, ag, kj, ks, g1, _⟩ := h2.1.ex
    have hk := h2.1.kinds
    walk_at "rd"
    refine ⟨_, _, _, h1, cb.cl, cb.na _ (by decide +kernel), _, rfl, a, rfl, _, _, _, g1, ct.cl, ct.na _ (by decide +kernel), _, rfl, ak, rfl, _, .inl (SqL.of hk), ?_⟩
    rw [List.length_map]
    obtain ⟨N, eN⟩ : ∃ N, N = b.track.points.length := ⟨_, rfl⟩
    have h24 : N ≤ 24 := by
      have ok := h2.1.ok
      unfold Rail.Track.right at ok
      rw [Bool.and_eq_true, Bool.and_eq_true] at ok
      rw [eN]
      exact of_decide_eq_true ok.2.1
    rw [← eN]
    refine ⟨by omega, by omega, fun L hL => ?_⟩
    rw [show ((N : Nat) : Int).toNat = N from Int.toNat_natCast N]
    obtain ⟨Pv, eP⟩ : ∃ Pv : Nat → Hp → Prop, Pv = fun i H' => Same H H' ∧ H' L = some (.lst (((List.range i).filter b.free).map vi)) := ⟨_, rfl⟩
    refine lc_rng Pv ?_ ?_ ?_
    · rw [eP]
      exact ⟨same_new hL, upd_same⟩
    · intro i H' hi z
      rw [eP] at z
      obtain ⟨z1, z2⟩ := z
      rw [show (0 : Int) + (i : Int) = (i : Int) from Int.zero_add _]
      walk_at "rd"
      refine ⟨x, n, ρ, b, i, rfl, hB.mono z1, fun H2 s2 => ⟨_, rfl, ?_⟩⟩
      cases hf : b.free i with
      | false =>
        rw [if_neg Bool.false_ne_true, eP]
        refine ⟨z1.trans s2, ?_⟩
        rw [s2 _ _ z2, List.range_succ, List.filter_append]
        simp [hf]
      | true =>
        rw [if_pos rfl]
        refine ⟨_, s2 _ _ z2, ?_, ?_⟩
        · rw [List.length_map, sizeLine_eq]
          have := List.length_filter_le b.free (List.range i)
          rw [List.length_range] at this
          omega
        · rw [eP]
          refine ⟨fun z o hz => ?_, ?_⟩
          · rw [upd_ne (ne_of_none hz hL)]
            exact s2 _ _ (z1 _ _ hz)
          · rw [upd_same, List.range_succ, List.filter_append]
            simp [hf]
    · intro H' z
      rw [eP] at z
      obtain ⟨z1, z2⟩ := z
      refine ⟨_, _, _, z1 _ _ h1, cb.cl, cb.na _ (by decide +kernel), _, rfl, td, rfl, _, z1 _ _ h4', ?_⟩
      refine ⟨_, _, _, z1 _ _ h1, cb.cl, cb.na _ (by decide +kernel), _, rfl, rd, rfl, _, z1 _ _ h5', _, .inl (SqL.of z2), by show 4 ≤ sizeLine; decide, fun r hr => ?_⟩
      refine D.says hB hn z1 hr ?_
      rw [trains_len h4'', Paired.len h5'', List.length_map, eN]
      show _ = [V.int _, V.int 2, V.int _, V.int _]
      rw [List.countP_eq_length_filter]
end
end Sb
namespace Sb
open PySem PySem.Spec PyProof.Rows L2
/-! ### which def answers -/
theorem zs_vi (l : List Nat) : (zs l).map V.int = l.map vi := by
  unfold zs
  rw [List.map_map]
  rfl
theorem zs_len (l : List Nat) : (zs l).length = l.length := List.length_map ..
def isShow (cl : Nat) : Prop := cl = 4 ∨ 10 ≤ cl
def isChange (cl : Nat) : Prop := cl ≠ 0 ∧ cl ≠ 4 ∧ cl < 10
def spOnTrack (c : Ad) (which : Nat → Prop) : Sp := fun vs H Q _ => ∃ (x pp : Addr) (n cl : Nat) (ρ : Rho) (b : Rail.Box) (a : List Int) (xs : List (List Int)) (ps : List Addr) (call : Rail.Call), vs = [.ref x, vi cl, .ref pp] ∧ BoxAt c n ρ H x b ∧ Disj b ∧ n + 17 ≤ 1000000 ∧ H pp = some (.lst (a.map V.int ++ ps.map V.ref)) ∧ Paired (RowIn ρ H) ps xs ∧ (∀ x ∈ xs, x.length ≤ 16000) ∧
  CallIs (cl : Int) a xs call ∧ which cl ∧ Done c n ρ H x (Rail.step (some b) call) Q
theorem Done.after {c : Ad} {n : Nat} {ρ : Rho} {H H2 : Hp} {x : Addr} {z : Rail.State × Rail.Answer} {Q : VK} (D : Done c n ρ H x z Q) (s : Same H H2) : Done c n ρ H2 x z Q := fun H' ρ' r st kp ext out hr hq e =>
  D H' ρ' r st (fun b o h n => kp b o (s _ _ h) n) (fun b o h n => ext b o (s _ _ h) n) ⟨fun b o h e => out.keep b o (s _ _ h) e, out.stay⟩ (s.free hr) hq e
theorem in_shows : ∀ cl : Nat, cl ≤ 13 → (inV (vi cl) [V.int 4, V.int 10, V.int 11, V.int 12, V.int 13] = true ∧ (cl = 4 ∨ 10 ≤ cl)) ∨ (inV (vi cl) [V.int 4, V.int 10, V.int 11, V.int 12, V.int 13] = false ∧ cl ≠ 4 ∧ cl < 10) := by decide +kernel
section
variable {P : Program} {w : World} {K : PySem.W.Frag} {mg : Str → Option Value} {base : Heap}
theorem ok_change {f : Addr} {fd : FuncData} {c : Ad} (F : Fun K "change" "change" s_change f fd) (k1 : ConI mg "PUT" 1) (k2 : ConI mg "TAKE" 2) (k3 : ConI mg "ROUTE" 3) (k5 : ConI mg "CANCEL" 5) (k6 : ConI mg "FRONT" 6) (k7 : ConI mg "REAR" 7) (k8 : ConI mg "BACK" 8)
    (G1 : Fn P w K mg base 4 "put" ["box", "section", "end"] (spPut c)) (G2 : Fn P w K mg base 1 "take" ["box", "number"] (spTake c)) (G3 : Fn P w K mg base 5 "route" ["box", "signal", "choices"] (spRoute c)) (G5 : Fn P w K mg base 1 "cancel" ["box", "signal"] (spCancel c)) (G6 : Fn P w K mg base 1 "front" ["box", "number"] (spFront c))
    (G7 : Fn P w K mg base 1 "rear" ["box", "number"] (spRear c)) (G8 : Fn P w K mg base 2 "back" ["box", "number"] (spBack c)) (G9 : Fn P w K mg base 4 "turn_points" ["box", "section", "stance"] (spPoints c)) : FnOk P w K mg base CX0 6 f fd ["box", "call", "parts"] (spOnTrack c isChange) := by
  refine F.ok sc_change (fun vs H Q E h => ?_) (fun cdv A outer s0 H vs Q E hr h => ?_)
  · obtain ⟨x, pp, n, cl, ρ, b, a, xs, ps, call, rfl, _⟩ := h
    rfl
  · obtain ⟨x, pp, n, cl, ρ, b, a, xs, ps, call, rfl, hB, hdj, hn, hpp, hP, hrow, hc, ⟨w0, w4, w10⟩, D⟩ := h
    have hr1 : Room 1 _ := hr.mono (by decide)
    have hr2 : Room 2 _ := hr.mono (by decide)
    have hr4 : Room 4 _ := hr.mono (by decide)
    refine ⟨_, pss_cons (ps_if (pt_cmpR op_eq (pv 1) (pe_con k1 (by rfl)) (nomark _)) (pss_one (ps_ret (pe_fn G1 hr4 (pa_cons (pv 0) (pa_cons (pe_ix ix_list (pv 2) pe_int (fun _ _ => rfl)) (pa_cons (pe_ix ix_list (pv 2) pe_int (fun _ _ => rfl)) pa_nil)))))) pss_nil)
      (pss_cons (ps_if (pt_cmpR op_eq (pv 1) (pe_con k2 (by rfl)) (nomark _)) (pss_one (ps_ret (pe_fn G2 hr1 (pa_cons (pv 0) (pa_cons (pe_ix ix_list (pv 2) pe_int (fun _ _ => rfl)) pa_nil))))) pss_nil)
      (pss_cons (ps_if (pt_cmpR op_eq (pv 1) (pe_con k3 (by rfl)) (nomark _)) (pss_one (ps_ret (pe_fn G3 hr (pa_cons (pv 0) (pa_cons (pe_ix ix_list (pv 2) pe_int (fun _ _ => rfl)) (pa_cons (pe_ix ix_list (pv 2) pe_int (fun _ _ => rfl)) pa_nil)))))) pss_nil)
      (pss_cons (ps_if (pt_cmpR op_eq (pv 1) (pe_con k5 (by rfl)) (nomark _)) (pss_one (ps_ret (pe_fn G5 hr1 (pa_cons (pv 0) (pa_cons (pe_ix ix_list (pv 2) pe_int (fun _ _ => rfl)) pa_nil))))) pss_nil)
      (pss_cons (ps_if (pt_cmpR op_eq (pv 1) (pe_con k6 (by rfl)) (nomark _)) (pss_one (ps_ret (pe_fn G6 hr1 (pa_cons (pv 0) (pa_cons (pe_ix ix_list (pv 2) pe_int (fun _ _ => rfl)) pa_nil))))) pss_nil)
      (pss_cons (ps_if (pt_cmpR op_eq (pv 1) (pe_con k7 (by rfl)) (nomark _)) (pss_one (ps_ret (pe_fn G7 hr1 (pa_cons (pv 0) (pa_cons (pe_ix ix_list (pv 2) pe_int (fun _ _ => rfl)) pa_nil))))) pss_nil)
      (pss_cons (ps_if (pt_cmpR op_eq (pv 1) (pe_con k8 (by rfl)) (nomark _)) (pss_one (ps_ret (pe_fn G8 hr2 (pa_cons (pv 0) (pa_cons (pe_ix ix_list (pv 2) pe_int (fun _ _ => rfl)) pa_nil))))) pss_nil)
      (pss_one (ps_ret (pe_fn G9 hr4 (pa_cons (pv 0) (pa_cons (pe_ix ix_list (pv 2) pe_int (fun _ _ => rfl)) (pa_cons (pe_ix ix_list (pv 2) pe_int (fun _ _ => rfl)) pa_nil)))))))))))), ?_⟩
    rw [show L2.start n_change [V.ref x, vi cl, V.ref pp] = [some (V.ref x), some (vi cl), some (V.ref pp)] from rfl]
    walk_at "rd"
    generalize hcl : (cl : Int) = p at hc
    cases hc with
    | put s e =>
      have : cl = 1 := by omega
      subst this
      rw [if_pos (by rfl)]
      cases hP
      exact ⟨_, SqL.of hpp, _, atI_nat (j := 0) rfl, _, SqL.of hpp, _, atI_nat (j := 1) rfl, x, n, ρ, b, s, e, rfl, hB, hn, D⟩
    | take k =>
      have : cl = 2 := by omega
      subst this
      rw [if_neg (by decide), if_pos (by rfl)]
      cases hP
      exact ⟨_, SqL.of hpp, _, atI_nat (j := 0) rfl, x, n, ρ, b, k, rfl, hB, hn, D⟩
    | route i cs =>
      have : cl = 3 := by omega
      subst this
      rw [if_neg (by decide), if_neg (by decide), if_pos (by rfl)]
      cases hP with
      | @cons q _ _ _ hq hP =>
      cases hP
      exact ⟨_, SqL.of hpp, _, atI_nat (j := 0) rfl, _, SqL.of hpp, _, atI_nat (j := 1) rfl, x, q, n, ρ, b, i, cs, rfl, hB, hn, by rw [← zs_vi]; exact hq.1, by have := hrow _ (List.mem_singleton.mpr rfl); rw [zs_len] at this; omega, D⟩
    | cancel i =>
      have : cl = 5 := by omega
      subst this
      rw [if_neg (by decide), if_neg (by decide), if_neg (by decide), if_pos (by rfl)]
      cases hP
      exact ⟨_, SqL.of hpp, _, atI_nat (j := 0) rfl, x, n, ρ, b, i, rfl, hB, hn, D⟩
    | front k =>
      have : cl = 6 := by omega
      subst this
      rw [if_neg (by decide), if_neg (by decide), if_neg (by decide), if_neg (by decide), if_pos (by rfl)]
      cases hP
      exact ⟨_, SqL.of hpp, _, atI_nat (j := 0) rfl, x, n, ρ, b, k, rfl, hB, hn, D⟩
    | rear k =>
      have : cl = 7 := by omega
      subst this
      rw [if_neg (by decide), if_neg (by decide), if_neg (by decide), if_neg (by decide), if_neg (by decide), if_pos (by rfl)]
      cases hP
      exact ⟨_, SqL.of hpp, _, atI_nat (j := 0) rfl, x, n, ρ, b, k, rfl, hB, hn, D⟩
    | back k =>
      have : cl = 8 := by omega
      subst this
      rw [if_neg (by decide), if_neg (by decide), if_neg (by decide), if_neg (by decide), if_neg (by decide), if_neg (by decide), if_pos (by rfl)]
      cases hP
      exact ⟨_, SqL.of hpp, _, atI_nat (j := 0) rfl, x, n, ρ, b, k, rfl, hB, hn, D⟩
    | points s z =>
      have : cl = 9 := by omega
      subst this
      rw [if_neg (by decide), if_neg (by decide), if_neg (by decide), if_neg (by decide), if_neg (by decide), if_neg (by decide), if_neg (by decide)]
      cases hP
      exact ⟨_, SqL.of hpp, _, atI_nat (j := 0) rfl, _, SqL.of hpp, _, atI_nat (j := 1) rfl, x, n, ρ, b, s, z, rfl, hB, hn, D⟩
    | _ => omega
theorem ok_show {f : Addr} {fd : FuncData} {c : Ad} (F : Fun K "show" "show" s_show f fd) (k4 : ConI mg "WAY" 4) (k10 : ConI mg "SECTION" 10) (k11 : ConI mg "SIGNAL" 11) (k12 : ConI mg "TRAIN" 12)
    (G4 : Fn P w K mg base 5 "show_way" ["box", "signal", "choices"] (spWay c)) (G10 : Fn P w K mg base 3 "show_section" ["box", "section"] (spSection c)) (G11 : Fn P w K mg base 1 "show_signal" ["box", "signal"] (spSignal c)) (G12 : Fn P w K mg base 2 "show_train" ["box", "number"] (spTrain c)) (G13 : Fn P w K mg base 4 "show_counts" ["box"] (spCount c)) : FnOk P w K mg base CX0 6 f fd ["box", "call", "parts"] (spOnTrack c isShow) := by
  refine F.ok sc_show (fun vs H Q E h => ?_) (fun cdv A outer s0 H vs Q E hr h => ?_)
  · obtain ⟨x, pp, n, cl, ρ, b, a, xs, ps, call, rfl, _⟩ := h
    rfl
  · obtain ⟨x, pp, n, cl, ρ, b, a, xs, ps, call, rfl, hB, hdj, hn, hpp, hP, hrow, hc, hw, D⟩ := h
    have hw : cl = 4 ∨ 10 ≤ cl := hw
    have hr1 : Room 1 _ := hr.mono (by decide)
    have hr2 : Room 2 _ := hr.mono (by decide)
    have hr3 : Room 3 _ := hr.mono (by decide)
    have hr4 : Room 4 _ := hr.mono (by decide)
    refine ⟨_, pss_cons (ps_if (pt_cmpR op_eq (pv 1) (pe_con k4 (by rfl)) (nomark _)) (pss_one (ps_ret (pe_fn G4 hr (pa_cons (pv 0) (pa_cons (pe_ix ix_list (pv 2) pe_int (fun _ _ => rfl)) (pa_cons (pe_ix ix_list (pv 2) pe_int (fun _ _ => rfl)) pa_nil)))))) pss_nil)
      (pss_cons (ps_if (pt_cmpR op_eq (pv 1) (pe_con k10 (by rfl)) (nomark _)) (pss_one (ps_ret (pe_fn G10 hr3 (pa_cons (pv 0) (pa_cons (pe_ix ix_list (pv 2) pe_int (fun _ _ => rfl)) pa_nil))))) pss_nil)
      (pss_cons (ps_if (pt_cmpR op_eq (pv 1) (pe_con k11 (by rfl)) (nomark _)) (pss_one (ps_ret (pe_fn G11 hr1 (pa_cons (pv 0) (pa_cons (pe_ix ix_list (pv 2) pe_int (fun _ _ => rfl)) pa_nil))))) pss_nil)
      (pss_cons (ps_if (pt_cmpR op_eq (pv 1) (pe_con k12 (by rfl)) (nomark _)) (pss_one (ps_ret (pe_fn G12 hr2 (pa_cons (pv 0) (pa_cons (pe_ix ix_list (pv 2) pe_int (fun _ _ => rfl)) pa_nil))))) pss_nil)
      (pss_one (ps_ret (pe_fn G13 hr4 (pa_cons (pv 0) pa_nil))))))), ?_⟩
    rw [show L2.start n_show [V.ref x, vi cl, V.ref pp] = [some (V.ref x), some (vi cl), some (V.ref pp)] from rfl]
    walk_at "rd"
    generalize hcl : (cl : Int) = p at hc
    cases hc with
    | way i cs =>
      have : cl = 4 := by omega
      subst this
      rw [if_pos (by rfl)]
      cases hP with
      | @cons q _ _ _ hq hP =>
      cases hP
      exact ⟨_, SqL.of hpp, _, atI_nat (j := 0) rfl, _, SqL.of hpp, _, atI_nat (j := 1) rfl, x, q, n, ρ, b, i, cs, rfl, hB, hn, by rw [← zs_vi]; exact hq.1, by have := hrow _ (List.mem_singleton.mpr rfl); rw [zs_len] at this; omega, D⟩
    | section_ s =>
      have : cl = 10 := by omega
      subst this
      rw [if_neg (by decide), if_pos (by rfl)]
      cases hP
      exact ⟨_, SqL.of hpp, _, atI_nat (j := 0) rfl, x, n, ρ, b, s, rfl, hB, hdj, hn, D⟩
    | signal i =>
      have : cl = 11 := by omega
      subst this
      rw [if_neg (by decide), if_neg (by decide), if_pos (by rfl)]
      cases hP
      exact ⟨_, SqL.of hpp, _, atI_nat (j := 0) rfl, x, n, ρ, b, i, rfl, hB, hn, D⟩
    | train k =>
      have : cl = 12 := by omega
      subst this
      rw [if_neg (by decide), if_neg (by decide), if_neg (by decide), if_pos (by rfl)]
      cases hP
      exact ⟨_, SqL.of hpp, _, atI_nat (j := 0) rfl, x, n, ρ, b, k, rfl, hB, hn, D⟩
    | count =>
      have : cl = 13 := by omega
      subst this
      rw [if_neg (by decide), if_neg (by decide), if_neg (by decide), if_neg (by decide)]
      cases hP
      exact ⟨x, n, ρ, b, rfl, hB, hn, D⟩
    | _ => omega
theorem ok_answer_call {f : Addr} {fd : FuncData} {c : Ad} (F : Fun K "answer_call" "answer_call" s_answer_call f fd) (cb : Tc K c.box bfs) (k0 : ConI mg "LAY" 0) (k9 : ConI mg "NO_TRACK" (-9)) (G1 : Fn P w K mg base 4 "lay" ["box", "kinds", "joints", "posts"] (spLay c)) (k4 : ConI mg "WAY" 4) (k10 : ConI mg "SECTION" 10) (k11 : ConI mg "SIGNAL" 11) (k12 : ConI mg "TRAIN" 12) (k13 : ConI mg "COUNT" 13)
    (G2 : Fn P w K mg base 6 "show" ["box", "call", "parts"] (spOnTrack c isShow)) (G3 : Fn P w K mg base 6 "change" ["box", "call", "parts"] (spOnTrack c isChange)) : FnOk P w K mg base CX0 7 f fd ["box", "call", "parts"] (spAnswer c) := by
  refine F.ok sc_answer_call (fun vs H Q E h => ?_) (fun cdv A outer s0 H vs Q E hr h => ?_)
  · obtain ⟨x, pp, n, cl, ρ, st, a, xs, ps, call, rfl, _⟩ := h
    rfl
  · obtain ⟨x, pp, n, cl, ρ, st, a, xs, ps, call, rfl, hS, hdj, hn, hpp, hP, hrow, hcall, D⟩ := h
    have hr4 : Room 4 _ := hr.mono (by decide)
    refine ⟨_, pss_cons (ps_if (pt_cmpR op_eq (pv 1) (pe_con k0 (by rfl)) (nomark _)) (pss_one (ps_ret (pe_fn G1 hr4 (pa_cons (pv 0) (pa_cons (pe_ix ix_list (pv 2) pe_int (fun _ _ => rfl)) (pa_cons (pe_ix ix_list (pv 2) pe_int (fun _ _ => rfl)) (pa_cons (pe_ix ix_list (pv 2) pe_int (fun _ _ => rfl)) pa_nil))))))) pss_nil)
      (pss_cons (ps_if (pt_cmp (pc_isN (pe_fld (pv 0) (by rfl)))) (pss_one (ps_ret (pe_lst (pa_cons (pe_con k9 (by rfl)) pa_nil)))) pss_nil)
      (pss_cons (ps_if (pt_cmpR op_in_seq (pv 1) (pe_tup (pa_cons (pe_con k4 (by rfl)) (pa_cons (pe_con k10 (by rfl)) (pa_cons (pe_con k11 (by rfl)) (pa_cons (pe_con k12 (by rfl)) (pa_cons (pe_con k13 (by rfl)) pa_nil)))))) (by rfl)) (pss_one (ps_ret (pe_fn G2 hr (pa_cons (pv 0) (pa_cons (pv 1) (pa_cons (pv 2) pa_nil)))))) pss_nil)
      (pss_one (ps_ret (pe_fn G3 hr (pa_cons (pv 0) (pa_cons (pv 1) (pa_cons (pv 2) pa_nil)))))))), ?_⟩
    rw [show L2.start n_answer_call [V.ref x, vi cl, V.ref pp] = [some (V.ref x), some (vi cl), some (V.ref pp)] from rfl]
    have hc := callIs hcall
    walk_at "rd"
    by_cases h0 : cl = 0
    · subst h0
      rw [if_pos (by rfl)]
      generalize hcl : ((0 : Nat) : Int) = p at hc
      cases hc with
      | lay p j s =>
        cases hP with
        | @cons q1 _ _ _ hq1 hP =>
        cases hP with
        | @cons q2 _ _ _ hq2 hP =>
        cases hP with
        | @cons q3 _ _ _ hq3 hP =>
        cases hP
        have l2 := hrow (zs j) (by simp)
        have l3 := hrow (zs s) (by simp)
        rw [zs_len] at l2 l3
        exact ⟨_, SqL.of hpp, _, atI_nat (j := 0) rfl, _, SqL.of hpp, _, atI_nat (j := 1) rfl, _, SqL.of hpp, _, atI_nat (j := 2) rfl, x, q1, q2, q3, n, ρ, st, p, j, s, rfl, hS, hn, by rw [← zs_vi]; exact hq1.1, hq1.2, by rw [← zs_vi]; exact hq2.1, by rw [← zs_vi]; exact hq3.1, by omega, by omega, D⟩
      | _ => omega
    · rw [if_neg (by rw [decide_eq_true_eq]; intro z; omega)]
      cases st with
      | none =>
        obtain ⟨z0, z1, z2, dx, sl, td, rd, hx⟩ := hS
        refine ⟨_, _, _, hx, cb.cl, cb.na _ (by decide +kernel), _, rfl, ?_⟩
        rw [if_pos (by rfl)]
        refine ⟨by show 1 ≤ sizeLine; decide, fun q hq => ?_⟩
        have e1 : Rail.step none call = (none, Rail.says (-9)) := by
          generalize hcl : (cl : Int) = p at hc
          cases hc <;> first | rfl | exact absurd (by omega) h0
        rw [e1] at D
        exact D.says (show StAt c n ρ H x none from ⟨z0, z1, z2, dx, sl, td, rd, hx⟩) hn (Same.refl H) hq rfl
      | some b =>
        obtain ⟨dx, a', ak, as, sl, td, rd, kt, kr, h1, _⟩ := BoxAt.ex hS
        refine ⟨_, _, _, h1, cb.cl, cb.na _ (by decide +kernel), _, rfl, ?_⟩
        rw [if_neg (by simp)]
        have hle : cl ≤ 13 := by
          generalize hcl : (cl : Int) = p at hc
          cases hc <;> omega
        refine ⟨by show 5 ≤ sizeLine; decide, fun U hU => ?_⟩
        have s1 := same_new (o := .tup [V.int 4, V.int 10, V.int 11, V.int 12, V.int 13]) hU
        refine ⟨U, _, rfl, .inr (SqT.of upd_same), rfl, rfl, _, rfl, ?_⟩
        generalize upd H U (.tup [V.int 4, V.int 10, V.int 11, V.int 12, V.int 13]) = H1 at s1 ⊢
        have hP1 : Paired (RowIn ρ H1) ps xs := Paired.mono (fun _ _ z => ⟨s1 _ _ z.1, z.2⟩) hP
        show if inV (vi cl) [V.int 4, V.int 10, V.int 11, V.int 12, V.int 13] = true then _ else _
        rcases in_shows cl hle with ⟨e, hw⟩ | ⟨e, hw⟩
        · rw [e, if_pos rfl]
          exact ⟨x, pp, n, cl, ρ, b, a, xs, ps, call, rfl, BoxAt.mono hS s1, hdj, hn, s1 _ _ hpp, hP1, hrow, hc, hw, D.after s1⟩
        · rw [e, if_neg Bool.false_ne_true]
          exact ⟨x, pp, n, cl, ρ, b, a, xs, ps, call, rfl, BoxAt.mono hS s1, hdj, hn, s1 _ _ hpp, hP1, hrow, hc, ⟨h0, hw⟩, D.after s1⟩
theorem shapes_ok : ShapesOk [(0, 3), (2, 0), (1, 0), (1, 1), (1, 1), (1, 0), (1, 0), (1, 0), (1, 0), (2, 0), (1, 0), (1, 0), (1, 0), (0, 0)] := by
  intro p s h
  unfold PyWrrail.shape at h
  by_cases e0 : p = 0
  · subst e0
    rw [if_pos rfl] at h
    cases h
    exact ⟨by decide, rfl, by decide⟩
  rw [if_neg e0] at h
  by_cases e1 : p = 1
  · subst e1
    rw [if_pos rfl] at h
    cases h
    exact ⟨by decide, rfl, by decide⟩
  rw [if_neg e1] at h
  by_cases e2 : p = 2
  · subst e2
    rw [if_pos rfl] at h
    cases h
    exact ⟨by decide, rfl, by decide⟩
  rw [if_neg e2] at h
  by_cases e3 : p = 3
  · subst e3
    rw [if_pos rfl] at h
    cases h
    exact ⟨by decide, rfl, by decide⟩
  rw [if_neg e3] at h
  by_cases e4 : p = 4
  · subst e4
    rw [if_pos rfl] at h
    cases h
    exact ⟨by decide, rfl, by decide⟩
  rw [if_neg e4] at h
  by_cases e5 : p = 5
  · subst e5
    rw [if_pos rfl] at h
    cases h
    exact ⟨by decide, rfl, by decide⟩
  rw [if_neg e5] at h
  by_cases e6 : p = 6
  · subst e6
    rw [if_pos rfl] at h
    cases h
    exact ⟨by decide, rfl, by decide⟩
  rw [if_neg e6] at h
  by_cases e7 : p = 7
  · subst e7
    rw [if_pos rfl] at h
    cases h
    exact ⟨by decide, rfl, by decide⟩
  rw [if_neg e7] at h
  by_cases e8 : p = 8
  · subst e8
    rw [if_pos rfl] at h
    cases h
    exact ⟨by decide, rfl, by decide⟩
  rw [if_neg e8] at h
  by_cases e9 : p = 9
  · subst e9
    rw [if_pos rfl] at h
    cases h
    exact ⟨by decide, rfl, by decide⟩
  rw [if_neg e9] at h
  by_cases e10 : p = 10
  · subst e10
    rw [if_pos rfl] at h
    cases h
    exact ⟨by decide, rfl, by decide⟩
  rw [if_neg e10] at h
  by_cases e11 : p = 11
  · subst e11
    rw [if_pos rfl] at h
    cases h
    exact ⟨by decide, rfl, by decide⟩
  rw [if_neg e11] at h
  by_cases e12 : p = 12
  · subst e12
    rw [if_pos rfl] at h
    cases h
    exact ⟨by decide, rfl, by decide⟩
  rw [if_neg e12] at h
  by_cases e13 : p = 13
  · subst e13
    rw [if_pos rfl] at h
    cases h
    exact ⟨by decide, rfl, by decide⟩
  rw [if_neg e13] at h
  cases h
end
end Sb
namespace Sb
open PySem PySem.Spec PyProof.Rows L2
/-! ### what the text's top has written, a def at a time -/
open PySem.W (nsIn findIn keepIn isFn codeIn fnOf makesIn plainGet hasDictIn plainOver)
def FnRaw (K : PySem.W.Frag) (mg : Str → Option Value) (x : Str) (st : Stmt) (ps : List Str) : Prop := ∃ f fd, mg x = some (.ref f) ∧ keepIn K (.ref f) = true ∧ Fun K x x st f fd ∧ Binds K fd ps []
def MthRaw (K : PySem.W.Frag) (C : Addr) (m qual : Str) (st : Stmt) (ps : List Str) : Prop := ∃ f fd, Meth K C m f ∧ Fun K m qual st f fd ∧ Binds K fd ps []
def CnRaw (K : PySem.W.Frag) (mg : Str → Option Value) (x : Str) (C : Addr) (qual : Str) (st : Stmt) (ps : List Str) : Prop := ∃ f fd, mg x = some (.ref C) ∧ Mk K C f ∧ Fun K "__init__" qual st f fd ∧ Binds K fd ps []
section
variable {P : Program} {w : World} {K : PySem.W.Frag} {h : Heap} {mg : Str → Option Value} {base : Heap}
theorem fnraw {x : Str} {st : Stmt} {ps : List Str} {f : Addr} {oc : Value} {od an : Option Addr} {sl : Array (Option Value)} {kV dc pm cd ct : Value} (X : K.In h) (G : h.Ns mainGlobals mg) (a : nsIn K mainGlobals x = some (some (.ref f)))
    (l : K.lookup f = some ⟨oc, od, .func (fnOf x x (defArgs st) (defBody st) (defScope st) .none kV dc pm an cd ct), sl⟩) (c : codeIn K cd x = true) (k : keepIn K (.ref f) = true)
    (hb : ∀ (kV doc pm : Value) (an : Option Addr) (cdv ct : Value) (us : List Value), us.length = ps.length → bindArgs (fnOf x x (defArgs st) (defBody st) (defScope st) .none kV doc pm an cdv ct) ⟨us, []⟩ = pure (ps.zip us)) : FnRaw K mg x st ps :=
  ⟨f, _, PySem.W.mg_of X G a, k, fun_mk l c k, (fun_mk l c k).binds hb⟩
theorem mthraw {C : Addr} {m qual : Str} {st : Stmt} {ps : List Str} {f : Addr} {oc : Value} {od an : Option Addr} {sl : Array (Option Value)} {kV dc pm cd ct : Value} (a : findIn K (.ref C) m = some (some (.ref f))) (i : isFn K (.ref f) = true)
    (l : K.lookup f = some ⟨oc, od, .func (fnOf m qual (defArgs st) (defBody st) (defScope st) .none kV dc pm an cd ct), sl⟩) (c : codeIn K cd qual = true) (k : keepIn K (.ref f) = true)
    (hb : ∀ (kV doc pm : Value) (an : Option Addr) (cdv ct : Value) (us : List Value), us.length = ps.length → bindArgs (fnOf m qual (defArgs st) (defBody st) (defScope st) .none kV doc pm an cdv ct) ⟨us, []⟩ = pure (ps.zip us)) : MthRaw K C m qual st ps :=
  ⟨f, _, ⟨a, i, k⟩, fun_mk l c k, (fun_mk l c k).binds hb⟩
theorem cnraw {x : Str} {C : Addr} {qual : Str} {st : Stmt} {ps : List Str} {f : Addr} {oc : Value} {od an : Option Addr} {sl : Array (Option Value)} {kV dc pm cd ct : Value} (X : K.In h) (G : h.Ns mainGlobals mg) (aC : nsIn K mainGlobals x = some (some (.ref C))) (mk : makesIn K C = true) (kc : keepIn K (.ref C) = true)
    (a : findIn K (.ref C) "__init__" = some (some (.ref f))) (i : isFn K (.ref f) = true)
    (l : K.lookup f = some ⟨oc, od, .func (fnOf "__init__" qual (defArgs st) (defBody st) (defScope st) .none kV dc pm an cd ct), sl⟩) (c : codeIn K cd qual = true) (k : keepIn K (.ref f) = true)
    (hb : ∀ (kV doc pm : Value) (an : Option Addr) (cdv ct : Value) (us : List Value), us.length = ps.length → bindArgs (fnOf "__init__" qual (defArgs st) (defBody st) (defScope st) .none kV doc pm an cdv ct) ⟨us, []⟩ = pure (ps.zip us)) : CnRaw K mg x C qual st ps :=
  ⟨f, _, PySem.W.mg_of X G aC, ⟨mk, a, i, kc⟩, fun_mk l c k, (fun_mk l c k).binds hb⟩
theorem FnRaw.ok {x : Str} {st : Stmt} {ps : List Str} {k : Nat} {sp : Sp} (R : FnRaw K mg x st ps) (ok : ∀ f fd, Fun K x x st f fd → FnOk P w K mg base CX0 k f fd ps sp) : Fn P w K mg base k x ps sp := by
  obtain ⟨f, fd, h1, h2, h3, h4⟩ := R
  exact ⟨f, fd, h1, h2, h4, ok f fd h3⟩
theorem MthRaw.ok {C : Addr} {m qual : Str} {st : Stmt} {ps : List Str} {k : Nat} {sp : Sp} (R : MthRaw K C m qual st ps) (ok : ∀ f fd, Fun K m qual st f fd → FnOk P w K mg base CX0 k f fd ps sp) : Mth P w K mg base k C m ps sp := by
  obtain ⟨f, fd, h1, h3, h4⟩ := R
  exact ⟨f, fd, h1, h4, ok f fd h3⟩
theorem CnRaw.ok {x : Str} {C : Addr} {qual : Str} {st : Stmt} {ps : List Str} {k : Nat} {sp : Sp} (R : CnRaw K mg x C qual st ps) (ok : ∀ f fd, Fun K "__init__" qual st f fd → FnOk P w K mg base CX0 k f fd ps sp) : Cn P w K mg base k x C ps sp := by
  obtain ⟨f, fd, h1, h2, h3, h4⟩ := R
  exact ⟨f, fd, h1, h2, h4, ok f fd h3⟩
theorem coni {x : Str} {i : Int} {t : Tok} (X : K.In h) (G : h.Ns mainGlobals mg) (a : nsIn K mainGlobals x = some (some (.int i t))) : ConI mg x i := ⟨t, PySem.W.mg_of X G a⟩
theorem cls {C : Addr} (pg : plainGet K C Str.empty = true) (hd : hasDictIn K C = true) (po : plainOver K C = true) (sa : findIn K (.ref C) "__setattr__" = some (some (.builtin "object.__setattr__"))) : Cls K C := ⟨pg, hd, po, sa⟩
theorem tup2 {a : Addr} {od : Option Addr} {sl : Array (Option Value)} {x y : Int} {t u : Tok} {n : Nat} (l : K.lookup a = some ⟨.type "tuple", od, .seq #[.int x t, .int y u] n, sl⟩) (H : Hp) : SqT K H a [.int x, .int y] :=
  .inr ⟨_, _, _, l, rfl, rfl, by show 2 ≤ sizeLine; decide, .cons ⟨_, rfl⟩ (.cons ⟨_, rfl⟩ .nil)⟩
theorem refs_vals : ∀ as : List Addr, Vals (as.map V.ref) (as.map Value.ref)
  | [] => .nil
  | a :: r => .cons rfl (refs_vals r)
theorem tupR {a : Addr} {od : Option Addr} {sl : Array (Option Value)} {its : Array Value} {n : Nat} (as : List Addr) (l : K.lookup a = some ⟨.type "tuple", od, .seq its n, sl⟩) (e : its = (as.map Value.ref).toArray) (z : as.length ≤ sizeLine) (H : Hp) : SqT K H a (as.map V.ref) := by
  subst e
  exact .inr ⟨_, _, _, l, rfl, rfl, by rw [List.size_toArray, List.length_map]; exact z, by rw [List.toList_toArray]; exact refs_vals as⟩
end
end Sb
namespace Sb
open PySem PySem.Spec PyProof.Rows L2
/-! ### all of it together -/
open PySem.W (nsIn findIn keepIn isFn codeIn fnOf makesIn plainGet hasDictIn plainOver)
theorem nattr2 {K : PySem.W.Frag} {C : Addr} {a b : Str} (h1 : findIn K (.ref C) a = some none) (h2 : findIn K (.ref C) b = some none) : ∀ f ∈ [a, b], NoAttr K C f := fun f m => by
  simp only [List.mem_cons, List.not_mem_nil, or_false] at m
  rcases m with rfl | rfl
  · exact h1
  · exact h2
theorem nattr4 {K : PySem.W.Frag} {C : Addr} {a b c d : Str} (h1 : findIn K (.ref C) a = some none) (h2 : findIn K (.ref C) b = some none) (h3 : findIn K (.ref C) c = some none) (h4 : findIn K (.ref C) d = some none) : ∀ f ∈ [a, b, c, d], NoAttr K C f := fun f m => by
  simp only [List.mem_cons, List.not_mem_nil, or_false] at m
  rcases m with rfl | rfl | rfl | rfl
  · exact h1
  · exact h2
  · exact h3
  · exact h4
theorem shapes14 {K : PySem.W.Frag} {h : Heap} {mg : Str → Option Value} {sh : Addr} {od : Option Addr} {sl : Array (Option Value)} {n : Nat} {a0 a1 a2 a3 a4 a5 a6 a7 a8 a9 a10 a11 a12 a13 : Addr} {o0 o1 o2 o3 o4 o5 o6 o7 o8 o9 o10 o11 o12 o13 : Option Addr} {s0 s1 s2 s3 s4 s5 s6 s7 s8 s9 s10 s11 s12 s13 : Array (Option Value)} {n0 n1 n2 n3 n4 n5 n6 n7 n8 n9 n10 n11 n12 n13 : Nat} {t0 u0 t1 u1 t2 u2 t3 u3 t4 u4 t5 u5 t6 u6 t7 u7 t8 u8 t9 u9 t10 u10 t11 u11 t12 u12 t13 u13 : Tok}
    (X : K.In h) (G : h.Ns mainGlobals mg) (a : nsIn K mainGlobals "SHAPES" = some (some (.ref sh))) (l : K.lookup sh = some ⟨.type "tuple", od, .seq #[.ref a0, .ref a1, .ref a2, .ref a3, .ref a4, .ref a5, .ref a6, .ref a7, .ref a8, .ref a9, .ref a10, .ref a11, .ref a12, .ref a13] n, sl⟩)
    (l0 : K.lookup a0 = some ⟨.type "tuple", o0, .seq #[.int 0 t0, .int 3 u0] n0, s0⟩)
    (l1 : K.lookup a1 = some ⟨.type "tuple", o1, .seq #[.int 2 t1, .int 0 u1] n1, s1⟩)
    (l2 : K.lookup a2 = some ⟨.type "tuple", o2, .seq #[.int 1 t2, .int 0 u2] n2, s2⟩)
    (l3 : K.lookup a3 = some ⟨.type "tuple", o3, .seq #[.int 1 t3, .int 1 u3] n3, s3⟩)
    (l4 : K.lookup a4 = some ⟨.type "tuple", o4, .seq #[.int 1 t4, .int 1 u4] n4, s4⟩)
    (l5 : K.lookup a5 = some ⟨.type "tuple", o5, .seq #[.int 1 t5, .int 0 u5] n5, s5⟩)
    (l6 : K.lookup a6 = some ⟨.type "tuple", o6, .seq #[.int 1 t6, .int 0 u6] n6, s6⟩)
    (l7 : K.lookup a7 = some ⟨.type "tuple", o7, .seq #[.int 1 t7, .int 0 u7] n7, s7⟩)
    (l8 : K.lookup a8 = some ⟨.type "tuple", o8, .seq #[.int 1 t8, .int 0 u8] n8, s8⟩)
    (l9 : K.lookup a9 = some ⟨.type "tuple", o9, .seq #[.int 2 t9, .int 0 u9] n9, s9⟩)
    (l10 : K.lookup a10 = some ⟨.type "tuple", o10, .seq #[.int 1 t10, .int 0 u10] n10, s10⟩)
    (l11 : K.lookup a11 = some ⟨.type "tuple", o11, .seq #[.int 1 t11, .int 0 u11] n11, s11⟩)
    (l12 : K.lookup a12 = some ⟨.type "tuple", o12, .seq #[.int 1 t12, .int 0 u12] n12, s12⟩)
    (l13 : K.lookup a13 = some ⟨.type "tuple", o13, .seq #[.int 0 t13, .int 0 u13] n13, s13⟩) : Shapes K mg [(0, 3), (2, 0), (1, 0), (1, 1), (1, 1), (1, 0), (1, 0), (1, 0), (1, 0), (2, 0), (1, 0), (1, 0), (1, 0), (0, 0)] :=
  ⟨sh, PySem.W.mg_of X G a, [a0, a1, a2, a3, a4, a5, a6, a7, a8, a9, a10, a11, a12, a13], fun H => tupR [a0, a1, a2, a3, a4, a5, a6, a7, a8, a9, a10, a11, a12, a13] l rfl (by show 14 ≤ sizeLine; decide) H, .cons (fun H => tup2 l0 H) (.cons (fun H => tup2 l1 H) (.cons (fun H => tup2 l2 H) (.cons (fun H => tup2 l3 H) (.cons (fun H => tup2 l4 H) (.cons (fun H => tup2 l5 H) (.cons (fun H => tup2 l6 H) (.cons (fun H => tup2 l7 H) (.cons (fun H => tup2 l8 H) (.cons (fun H => tup2 l9 H) (.cons (fun H => tup2 l10 H) (.cons (fun H => tup2 l11 H) (.cons (fun H => tup2 l12 H) (.cons (fun H => tup2 l13 H) (.nil))))))))))))))⟩
theorem fin {P : Program} {w : World} {K : PySem.W.Frag} {mg : Str → Option Value} {fa cTrack cTrain cBox cReader : Addr} (hfa : mg "answers" = some (.ref fa))
    (T : TxB mg)
    (rTrack : CnRaw K mg "Track" cTrack "Track.__init__" s_Track_init ["self", "kinds", "joined", "signals"])
    (tTrack : Tc K cTrack ["kinds", "joined", "signals", "signal_at"])
    (rTrain : CnRaw K mg "Train" cTrain "Train.__init__" s_Train_init ["self", "step"])
    (tTrain : Tc K cTrain ["stands", "given"])
    (rBox : CnRaw K mg "Box" cBox "Box.__init__" s_Box_init ["self"])
    (tBox : Tc K cBox ["track", "stances", "trains", "routes"])
    (rReader : CnRaw K mg "Reader" cReader "Reader.__init__" s_Reader_init ["self", "calls"])
    (tReader : Tc K cReader ["calls", "place"])
    (m_is_done : MthRaw K cReader "is_done" "Reader.is_done" s_Reader_is_done ["self"])
    (m_read_number : MthRaw K cReader "read_number" "Reader.read_number" s_Reader_read_number ["self"])
    (m_read_row : MthRaw K cReader "read_row" "Reader.read_row" s_Reader_read_row ["self"])
    (m_read_parts : MthRaw K cReader "read_parts" "Reader.read_parts" s_Reader_read_parts ["self", "call"])
    (r_has_end : FnRaw K mg "has_end" s_has_end ["kinds", "section", "end"])
    (r_is_points : FnRaw K mg "is_points" s_is_points ["track", "section"])
    (r_other_end : FnRaw K mg "other_end" s_other_end ["track", "section", "end", "stance"])
    (r_stance_needed : FnRaw K mg "stance_needed" s_stance_needed ["step"])
    (r_kinds_fit : FnRaw K mg "kinds_fit" s_kinds_fit ["kinds"])
    (r_pair_up : FnRaw K mg "pair_up" s_pair_up ["numbers"])
    (r_spots_fit : FnRaw K mg "spots_fit" s_spots_fit ["kinds", "spots"])
    (r_join_spots : FnRaw K mg "join_spots" s_join_spots ["spots"])
    (r_draw_track : FnRaw K mg "draw_track" s_draw_track ["kinds", "joints", "posts"])
    (r_start_anew : FnRaw K mg "start_anew" s_start_anew ["box", "track"])
    (r_passes : FnRaw K mg "passes" s_passes ["steps", "section"])
    (r_who_has : FnRaw K mg "who_has" s_who_has ["box", "section"])
    (r_is_free : FnRaw K mg "is_free" s_is_free ["box", "section"])
    (r_stands_for : FnRaw K mg "stands_for" s_stands_for ["box", "section", "end"])
    (r_lay_points : FnRaw K mg "lay_points" s_lay_points ["box", "steps"])
    (r_turned_about : FnRaw K mg "turned_about" s_turned_about ["steps"])
    (r_least_unused : FnRaw K mg "least_unused" s_least_unused ["numbered"])
    (r_spot_behind : FnRaw K mg "spot_behind" s_spot_behind ["track", "spot"])
    (r_follow : FnRaw K mg "follow" s_follow ["track", "start", "choices"])
    (r_way_from : FnRaw K mg "way_from" s_way_from ["track", "signal", "choices"])
    (r_lay : FnRaw K mg "lay" s_lay ["box", "kinds", "joints", "posts"])
    (r_put : FnRaw K mg "put" s_put ["box", "section", "end"])
    (r_take : FnRaw K mg "take" s_take ["box", "number"])
    (r_route : FnRaw K mg "route" s_route ["box", "signal", "choices"])
    (r_cancel : FnRaw K mg "cancel" s_cancel ["box", "signal"])
    (r_front : FnRaw K mg "front" s_front ["box", "number"])
    (r_rear : FnRaw K mg "rear" s_rear ["box", "number"])
    (r_back : FnRaw K mg "back" s_back ["box", "number"])
    (r_turn_points : FnRaw K mg "turn_points" s_turn_points ["box", "section", "stance"])
    (r_told_steps : FnRaw K mg "told_steps" s_told_steps ["steps"])
    (r_show_way : FnRaw K mg "show_way" s_show_way ["box", "signal", "choices"])
    (r_show_section : FnRaw K mg "show_section" s_show_section ["box", "section"])
    (r_show_signal : FnRaw K mg "show_signal" s_show_signal ["box", "signal"])
    (r_show_train : FnRaw K mg "show_train" s_show_train ["box", "number"])
    (r_show_counts : FnRaw K mg "show_counts" s_show_counts ["box"])
    (r_change : FnRaw K mg "change" s_change ["box", "call", "parts"])
    (r_show : FnRaw K mg "show" s_show ["box", "call", "parts"])
    (r_answer_call : FnRaw K mg "answer_call" s_answer_call ["box", "call", "parts"])
    (r_answers : FnRaw K mg "answers" s_answers ["calls"])
    (k_NOT_ALLOWED : ConI mg "NOT_ALLOWED" (-1))
    (k_WRONG_CHOICES : ConI mg "WRONG_CHOICES" (-2))
    (k_NOT_AS_THINGS_STAND : ConI mg "NOT_AS_THINGS_STAND" (-3))
    (k_NO_SUCH : ConI mg "NO_SUCH" (-4))
    (k_NOT_FREE : ConI mg "NOT_FREE" (-5))
    (k_SAYS_STOP : ConI mg "SAYS_STOP" (-5))
    (k_TRAINS_ALL_USED : ConI mg "TRAINS_ALL_USED" (-6))
    (k_WAY_TOO_FAR : ConI mg "WAY_TOO_FAR" (-7))
    (k_ROUTE_IS_SET : ConI mg "ROUTE_IS_SET" (-8))
    (k_NO_TRACK : ConI mg "NO_TRACK" (-9))
    (k_POINTS : ConI mg "POINTS" (1))
    (k_TOE : ConI mg "TOE" (0))
    (k_STRAIGHT : ConI mg "STRAIGHT" (1))
    (k_TURNING : ConI mg "TURNING" (2))
    (k_MOST_SECTIONS : ConI mg "MOST_SECTIONS" (24))
    (k_MOST_SIGNALS : ConI mg "MOST_SIGNALS" (24))
    (k_FREE : ConI mg "FREE" (0))
    (k_STOOD_ON : ConI mg "STOOD_ON" (1))
    (k_GIVEN : ConI mg "GIVEN" (2))
    (k_IN_ROUTE : ConI mg "IN_ROUTE" (3))
    (k_MOST_STEPS : ConI mg "MOST_STEPS" (16))
    (k_MOST_TRAINS : ConI mg "MOST_TRAINS" (8))
    (k_LAY : ConI mg "LAY" (0))
    (k_PUT : ConI mg "PUT" (1))
    (k_TAKE : ConI mg "TAKE" (2))
    (k_ROUTE : ConI mg "ROUTE" (3))
    (k_WAY : ConI mg "WAY" (4))
    (k_CANCEL : ConI mg "CANCEL" (5))
    (k_FRONT : ConI mg "FRONT" (6))
    (k_REAR : ConI mg "REAR" (7))
    (k_BACK : ConI mg "BACK" (8))
    (k_SECTION : ConI mg "SECTION" (10))
    (k_SIGNAL : ConI mg "SIGNAL" (11))
    (k_TRAIN : ConI mg "TRAIN" (12))
    (k_COUNT : ConI mg "COUNT" (13))
    (hS : Shapes K mg [(0, 3), (2, 0), (1, 0), (1, 1), (1, 1), (1, 0), (1, 0), (1, 0), (1, 0), (2, 0), (1, 0), (1, 0), (1, 0), (0, 0)]) :
    ∃ fd : FuncData, (∀ (s : Shared) (us : List Value), us.length = (["calls"] : List Str).length → BindsTo s fd ⟨us, []⟩ ((["calls"] : List Str).zip us)) ∧ ∀ base : Heap, K.In base → base.Ns mainGlobals mg → FnOk P w K mg base CX0 8 fa fd ["calls"] (spAns K) := by
  obtain ⟨f, fd, e1, e2, hF, e3⟩ := r_answers
  rw [hfa] at e1
  cases e1
  refine ⟨fd, ?_, fun base _ _ => ?_⟩
  · obtain ⟨oc, od, kV, doc, pm, an, cdv, ct, osl, rfl, lk, hcd⟩ := hF.ex
    exact fun s us hu => match us, hu with | [_], _ => .of_eq rfl
  · obtain ⟨c, ec⟩ : ∃ c : Ad, c = ⟨cTrack, cTrain, cBox, cReader⟩ := ⟨_, rfl⟩
    have c1 : cTrack = c.track := by rw [ec]
    have c2 : cTrain = c.train := by rw [ec]
    have c3 : cBox = c.box := by rw [ec]
    have c4 : cReader = c.reader := by rw [ec]
    subst c1 c2 c3 c4
    clear ec
    have g_has_end : Fn P w K mg base 1 "has_end" _ (spHasEnd K) := r_has_end.ok fun f fd F => ok_has_end F T
    have g_kinds_fit : Fn P w K mg base 1 "kinds_fit" _ (spKindsFit K) := r_kinds_fit.ok fun f fd F => ok_kinds_fit F T k_MOST_SECTIONS k_POINTS
    have g_pair_up : Fn P w K mg base 1 "pair_up" _ (spPairUp K) := r_pair_up.ok fun f fd F => ok_pair_up F T
    have g_spots_fit : Fn P w K mg base 2 "spots_fit" _ (spSpotsFit K) := r_spots_fit.ok fun f fd F => ok_spots_fit F g_has_end
    have g_join_spots : Fn P w K mg base 1 "join_spots" _ spJoin := r_join_spots.ok fun f fd F => ok_join_spots F T
    have g_Track : Cn P w K mg base 1 "Track" c.track _ (spTrackInit c.track) := rTrack.ok fun f fd F => ok_Track_init F T tTrack
    have g_draw_track : Fn P w K mg base 3 "draw_track" _ (spDraw c.track) := r_draw_track.ok fun f fd F => ok_draw_track F T k_MOST_SIGNALS g_kinds_fit g_pair_up g_spots_fit g_join_spots g_Track
    have g_is_points : Fn P w K mg base 1 "is_points" _ (spIsPoints c.track) := r_is_points.ok fun f fd F => ok_is_points F tTrack k_POINTS
    have g_other_end : Fn P w K mg base 2 "other_end" _ (spOtherEnd c.track) := r_other_end.ok fun f fd F => ok_other_end F g_is_points k_TOE k_STRAIGHT k_TURNING
    have g_stance : Fn P w K mg base 1 "stance_needed" _ spStance := r_stance_needed.ok fun f fd F => ok_stance_needed F k_TURNING
    have g_passes : Fn P w K mg base 1 "passes" _ spPasses := r_passes.ok fun f fd F => ok_passes F T
    have g_who_has : Fn P w K mg base 2 "who_has" _ (spWho c) := r_who_has.ok fun f fd F => ok_who_has F k_FREE k_STOOD_ON k_GIVEN k_IN_ROUTE tBox tTrain g_passes
    have g_is_free : Fn P w K mg base 3 "is_free" _ (spIsFree c) := r_is_free.ok fun f fd F => ok_is_free F k_FREE g_who_has
    have g_stands_for : Fn P w K mg base 3 "stands_for" _ (spStandsFor c) := r_stands_for.ok fun f fd F => ok_stands_for F tBox k_TOE g_is_points g_other_end
    have g_least : Fn P w K mg base 1 "least_unused" _ spLeast := r_least_unused.ok fun f fd F => ok_least_unused F
    have g_Train : Cn P w K mg base 1 "Train" c.train _ (spTrainInit c.train) := rTrain.ok fun f fd F => ok_Train_init F tTrain
    have g_Box : Cn P w K mg base 1 "Box" c.box _ (spBoxInit c.box) := rBox.ok fun f fd F => ok_Box_init F tBox
    have g_lay_points : Fn P w K mg base 2 "lay_points" _ (spLayPoints c) := r_lay_points.ok fun f fd F => ok_lay_points F tBox g_is_points g_stance
    have g_start_anew : Fn P w K mg base 1 "start_anew" _ (spAnew c) := r_start_anew.ok fun f fd F => ok_start_anew F tBox tTrack
    have g_spot_behind : Fn P w K mg base 1 "spot_behind" _ (spBehind c) := r_spot_behind.ok fun f fd F => ok_spot_behind F tTrack
    have g_follow : Fn P w K mg base 3 "follow" _ (spFollow c) := r_follow.ok fun f fd F => ok_follow F T tTrack k_TOE k_WRONG_CHOICES k_WAY_TOO_FAR k_NOT_AS_THINGS_STAND k_MOST_STEPS g_is_points g_other_end g_spot_behind
    have g_way_from : Fn P w K mg base 4 "way_from" _ (spWayFrom c) := r_way_from.ok fun f fd F => ok_way_from F T tTrack k_NO_SUCH k_NOT_ALLOWED g_follow
    have g_lay : Fn P w K mg base 4 "lay" _ (spLay c) := r_lay.ok fun f fd F => ok_lay F T k_NOT_ALLOWED g_draw_track g_start_anew
    have g_put : Fn P w K mg base 4 "put" _ (spPut c) := r_put.ok fun f fd F => ok_put F T tBox tTrack k_NOT_ALLOWED k_NOT_FREE k_NOT_AS_THINGS_STAND k_TRAINS_ALL_USED k_MOST_TRAINS g_has_end g_is_free g_stands_for g_least g_other_end g_Train
    have g_take : Fn P w K mg base 1 "take" _ (spTake c) := r_take.ok fun f fd F => ok_take F T tBox tTrain k_NO_SUCH k_NOT_AS_THINGS_STAND
    have g_route : Fn P w K mg base 5 "route" _ (spRoute c) := r_route.ok fun f fd F => ok_route (by decide) F T tBox k_ROUTE_IS_SET k_NOT_FREE g_way_from g_is_free g_lay_points
    have g_told_steps : Fn P w K mg base 1 "told_steps" _ spTold := r_told_steps.ok fun f fd F => ok_told_steps F T
    have g_show_way : Fn P w K mg base 5 "show_way" _ (spWay c) := r_show_way.ok fun f fd F => ok_show_way (by decide) F T tBox g_way_from g_told_steps
    have g_cancel : Fn P w K mg base 1 "cancel" _ (spCancel c) := r_cancel.ok fun f fd F => ok_cancel F T tBox tTrack k_NO_SUCH k_NOT_AS_THINGS_STAND
    have g_front : Fn P w K mg base 1 "front" _ (spFront c) := r_front.ok fun f fd F => ok_front F T tBox tTrack tTrain k_NO_SUCH k_NOT_AS_THINGS_STAND k_SAYS_STOP
    have g_Reader : Cn P w K mg base 1 "Reader" c.reader _ (spReaderInit c.reader) := rReader.ok fun f fd F => ok_Reader_init F tReader
    have n_is_done : Mth P w K mg base 1 c.reader "is_done" _ (spIsDone K c.reader) := m_is_done.ok fun f fd F => ok_Reader_is_done F T tReader
    have n_read_number : Mth P w K mg base 1 c.reader "read_number" _ (spReadNumber K c.reader) := m_read_number.ok fun f fd F => ok_Reader_read_number F tReader
    have n_read_row : Mth P w K mg base 2 c.reader "read_row" _ (spReadRow K c.reader) := m_read_row.ok fun f fd F => ok_Reader_read_row F tReader n_read_number
    have n_read_parts := (m_read_parts.ok fun f fd F => ok_Reader_read_parts (P := P) (w := w) (base := base) F T tReader hS n_read_number n_read_row)
    have g_rear : Fn P w K mg base 1 "rear" _ (spRear c) := r_rear.ok fun f fd F => ok_rear F T tBox tTrain k_NO_SUCH k_NOT_AS_THINGS_STAND
    have g_turned_about : Fn P w K mg base 1 "turned_about" _ spTurned := r_turned_about.ok fun f fd F => ok_turned_about F T
    have g_back : Fn P w K mg base 2 "back" _ (spBack c) := r_back.ok fun f fd F => ok_back F T tBox tTrain k_NO_SUCH k_NOT_AS_THINGS_STAND g_turned_about
    have g_turn_points : Fn P w K mg base 4 "turn_points" _ (spPoints c) := r_turn_points.ok fun f fd F => ok_turn_points F T tBox tTrack k_NOT_ALLOWED k_NOT_FREE g_is_points g_is_free
    have g_show_section : Fn P w K mg base 3 "show_section" _ (spSection c) := r_show_section.ok fun f fd F => ok_show_section F T tBox tTrack k_NO_SUCH k_FREE g_who_has
    have g_show_signal : Fn P w K mg base 1 "show_signal" _ (spSignal c) := r_show_signal.ok fun f fd F => ok_show_signal F T tBox tTrack k_NO_SUCH
    have g_show_train : Fn P w K mg base 2 "show_train" _ (spTrain c) := r_show_train.ok fun f fd F => ok_show_train F T tBox tTrain k_NO_SUCH g_told_steps
    have g_show_counts : Fn P w K mg base 4 "show_counts" _ (spCount c) := r_show_counts.ok fun f fd F => ok_show_counts F T tBox tTrack g_is_free
    have g_change : Fn P w K mg base 6 "change" _ (spOnTrack c isChange) := r_change.ok fun f fd F => ok_change F k_PUT k_TAKE k_ROUTE k_CANCEL k_FRONT k_REAR k_BACK g_put g_take g_route g_cancel g_front g_rear g_back g_turn_points
    have g_show : Fn P w K mg base 6 "show" _ (spOnTrack c isShow) := r_show.ok fun f fd F => ok_show F k_WAY k_SECTION k_SIGNAL k_TRAIN g_show_way g_show_section g_show_signal g_show_train g_show_counts
    have g_answer : Fn P w K mg base 7 "answer_call" ["box", "call", "parts"] (spAnswer c) := r_answer_call.ok fun f fd F => ok_answer_call F tBox k_LAY k_NO_TRACK g_lay k_WAY k_SECTION k_SIGNAL k_TRAIN k_COUNT g_show g_change
    exact ok_answers (by decide) shapes_ok hF T tReader g_Box g_Reader n_is_done n_read_number n_read_parts g_answer
end Sb
namespace PySem.W.Fast
theorem tw18285289336946568392 : True := trivial
theorem tw9311655946135566142 : True := trivial
theorem tw17855196786894131543 : True := trivial
theorem tw18114263171533968477 : True := trivial
theorem tw1847302147491793023 : True := trivial
theorem tw9307709857856605345 : True := trivial
theorem tw6631525206947637256 : True := trivial
theorem tw3434484885230625483 : True := trivial
theorem tw11675119750874103381 : True := trivial
theorem tw14306156148817456252 : True := trivial
theorem tw12812835367832880779 : True := trivial
theorem tw9842954926846489417 : True := trivial
theorem tw14951920756865526193 : True := trivial
theorem tw2182687380561499097 : True := trivial
theorem tw2633353752639184676 : True := trivial
theorem tw4131751704171282665 : True := trivial
theorem tw793658003151723486 : True := trivial
theorem tw12876751682070322122 : True := trivial
theorem tw1365389647394859650 : True := trivial
theorem tw8098790436532267513 : True := trivial
theorem tw4515224744413342838 : True := trivial
theorem tw5841601300806659154 : True := trivial
theorem tw486482627867954452 : True := trivial
theorem tw12732709562570247599 : True := trivial
theorem tw3432396880148344150 : True := trivial
theorem tw4036538455773014061 : True := trivial
theorem tw13025686603735971039 : True := trivial
theorem tw486124975870981730 : True := trivial
theorem tw1481551998130429173 : True := trivial
theorem tw17470064512387412006 : True := trivial
theorem tw714201834270571119 : True := trivial
theorem tw2696455376636192655 : True := trivial
theorem tw3564300780745089329 : True := trivial
theorem tw917967240302460693 : True := trivial
theorem tw2764743120886586906 : True := trivial
theorem tw8484703833552678191 : True := trivial
theorem tw7669606462816176907 : True := trivial
theorem tw12453427464633775521 : True := trivial
theorem tw12863182918376746756 : True := trivial
theorem tw4154073724055106692 : True := trivial
theorem tw16528599840974033551 : True := trivial
theorem tw4346677716974626345 : True := trivial
theorem tw4330152868043028027 : True := trivial
theorem tw6072012847658386360 : True := trivial
theorem tw3547101041617460231 : True := trivial
theorem tw3096872953283247760 : True := trivial
theorem tw2359101676696710362 : True := trivial
theorem tw12938243415433931409 : True := trivial
theorem tw6637598593299420812 : True := trivial
theorem tw16346991220891771220 : True := trivial
theorem tw1206488339239304726 : True := trivial
theorem tw1626196847257093133 : True := trivial
theorem tw11922269682873158760 : True := trivial
theorem tw15053500603671541260 : True := trivial
theorem tw9156601114562770955 : True := trivial
theorem tw6739839547166720973 : True := trivial
theorem tw10671657214122196697 : True := trivial
theorem tw8156957771962801303 : True := trivial
theorem tw14216607731092304390 : True := trivial
theorem tw4166822658625551130 : True := trivial
theorem tw6096140360171045109 : True := trivial
theorem tw4451645491062032886 : True := trivial
theorem tw213024879786352918 : True := trivial
theorem tw15431505323599141212 : True := trivial
theorem tw5628272341065784708 : True := trivial
theorem tw16753414979148959307 : True := trivial
theorem tw15518238932124002509 : True := trivial
theorem tw14643348183572411391 : True := trivial
theorem tw12348504936721984950 : True := trivial
theorem tw939318609567894037 : True := trivial
theorem tw16045962156168341823 : True := trivial
theorem tw9254626232895550746 : True := trivial
theorem tw9828093577899379872 : True := trivial
theorem tw708934175975123660 : True := trivial
theorem tw11151469679614268677 : True := trivial
theorem tw7749164663806719175 : True := trivial
theorem tw7888685239916098139 : True := trivial
theorem tw1692951242867980601 : True := trivial
theorem tw2083856381016242670 : True := trivial
theorem tw8581002629143301880 : True := trivial
theorem tw3165285813958692774 : True := trivial
theorem tw13444091060235086436 : True := trivial
theorem tw1849908609139048631 : True := trivial
theorem tw1599044802712032480 : True := trivial
theorem tw6321575230813422578 : True := trivial
theorem tw2988717037500735622 : True := trivial
theorem tw3927852839664604439 : True := trivial
theorem tw11987906501140282065 : True := trivial
theorem tw16292218045546654873 : True := trivial
theorem tw3228618654773224243 : True := trivial
theorem tw17000445719776990643 : True := trivial
theorem tw15467453488099213902 : True := trivial
theorem tw7471301562313846265 : True := trivial
theorem tw3851963259754810338 : True := trivial
theorem tw7381351841526088503 : True := trivial
theorem tw14114140380046238621 : True := trivial
theorem tw3190968925463649301 : True := trivial
theorem tw17496431766805604748 : True := trivial
theorem tw14824718107328182432 : True := trivial
theorem tw13114137422079845868 : True := trivial
theorem tw5612914610735229823 : True := trivial
theorem tw14242548302133093549 : True := trivial
theorem tw3397597512919859756 : True := trivial
theorem tw13947635708986180131 : True := trivial
theorem tw13268256625977513300 : True := trivial
theorem tw592720894188057789 : True := trivial
theorem tw10181664321913750336 : True := trivial
theorem tw6217608313418151926 : True := trivial
theorem tw12617730148846403649 : True := trivial
theorem tw10650345676941277690 : True := trivial
theorem tw4187727426151645146 : True := trivial
theorem tw15555867782353961285 : True := trivial
theorem tw17589790189769268411 : True := trivial
theorem tw14643832401491756887 : True := trivial
theorem tw17603279576384951798 : True := trivial
theorem tw10561103133239357725 : True := trivial
theorem tw4101993373935924440 : True := trivial
theorem tw718119194554084660 : True := trivial
theorem tw14665368167137021142 : True := trivial
theorem tw17358258142224255754 : True := trivial
theorem tw6591852930028320508 : True := trivial
theorem tw12430683494178676060 : True := trivial
theorem tw7082424157475449531 : True := trivial
theorem tw10638217758245031052 : True := trivial
theorem tw3187020702900065080 : True := trivial
theorem tw4734009965053534001 : True := trivial
theorem tw13147290579624742841 : True := trivial
theorem tw14741379609808035700 : True := trivial
theorem tw12747205024695413218 : True := trivial
theorem tw15166062121992128788 : True := trivial
theorem tw15414125812440267830 : True := trivial
theorem tw6494480272825759345 : True := trivial
theorem tw14782703171881595262 : True := trivial
theorem tw17033645623940963764 : True := trivial
theorem tw6152733783650050394 : True := trivial
theorem tw18148411477881200376 : True := trivial
theorem tw11201983280122055296 : True := trivial
theorem tw16934085569661641104 : True := trivial
theorem tw11071180488399345247 : True := trivial
theorem tw4615928271229108418 : True := trivial
theorem tw4277890461933035749 : True := trivial
theorem tw15278739092958464358 : True := trivial
theorem tw1857584898231958663 : True := trivial
theorem tw17437194213799264032 : True := trivial
theorem tw4951295271298586521 : True := trivial
theorem tw14327382825767587356 : True := trivial
theorem tw973370308981228661 : True := trivial
theorem tw16079668627208956889 : True := trivial
theorem tw3463083303219450994 : True := trivial
theorem tw17377336284452063309 : True := trivial
theorem tw2920919610371517356 : True := trivial
theorem tw9935655968337717588 : True := trivial
theorem tw5341270054812431110 : True := trivial
theorem tw12059009814912406659 : True := trivial
theorem tw5304470226990469451 : True := trivial
theorem tw279420068185010805 : True := trivial
theorem tw17936472321160083172 : True := trivial
theorem tw2878296463079660325 : True := trivial
theorem tw10329501268594935258 : True := trivial
theorem tw18078190817183530085 : True := trivial
theorem tw2013576796071898335 : True := trivial
theorem tw9564357346423985980 : True := trivial
theorem tw3599305846719370403 : True := trivial
theorem tw14707076745364932854 : True := trivial
theorem tw39267701417879134 : True := trivial
theorem tw3331419212664116276 : True := trivial
theorem tw15838267528916936789 : True := trivial
theorem tw8246482126641838252 : True := trivial
theorem tw3862576048085823370 : True := trivial
theorem tw1880639523768528312 : True := trivial
theorem tw13210547376455190000 : True := trivial
theorem tw15699646377573584707 : True := trivial
theorem tw10230865869141318304 : True := trivial
theorem tw6792418237966823598 : True := trivial
theorem tw3286667597324049741 : True := trivial
theorem tw2599296646645728196 : True := trivial
theorem tw4110242498716391455 : True := trivial
theorem tw7892253996554233946 : True := trivial
theorem tw15098989133827454106 : True := trivial
theorem tw12680337751348959460 : True := trivial
theorem tw10263584131245592686 : True := trivial
theorem tw1556548912686973653 : True := trivial
theorem tw15412320018598585198 : True := trivial
theorem tw7747352441561460012 : True := trivial
theorem tw15834224149645184036 : True := trivial
theorem tw321086852112429988 : True := trivial
theorem tw8312385803880356721 : True := trivial
theorem tw15786556127721848700 : True := trivial
theorem tw731450045063117314 : True := trivial
theorem tw7389183239685930855 : True := trivial
theorem tw3461423512647470598 : True := trivial
theorem tw10523303558938211961 : True := trivial
theorem tw1001911263104272885 : True := trivial
theorem tw7598361363133508615 : True := trivial
theorem tw9829242506325250453 : True := trivial
theorem tw8456582782165238911 : True := trivial
theorem tw1602821974729429967 : True := trivial
theorem tw9112272704580830162 : True := trivial
theorem tw5615403189946499732 : True := trivial
theorem tw6869307983503570010 : True := trivial
theorem tw7741138130971147195 : True := trivial
theorem tw13246570242820226465 : True := trivial
theorem tw1909549231074433154 : True := trivial
theorem tw5660667438081460780 : True := trivial
theorem tw5687015340776408200 : True := trivial
theorem tw8577187144983107575 : True := trivial
theorem tw2120541495524613957 : True := trivial
theorem tw7865358673804004563 : True := trivial
theorem tw3995973830906997300 : True := trivial
theorem tw10291843246417271995 : True := trivial
theorem tw10480039167557594181 : True := trivial
theorem tw11768589823952780348 : True := trivial
theorem tw15829150158785975320 : True := trivial
theorem tw10634209262647023803 : True := trivial
theorem tw6550797851304030915 : True := trivial
theorem tw10410553924345168871 : True := trivial
theorem tw10934594628482362323 : True := trivial
theorem tw15755975647918843439 : True := trivial
theorem tw12146952060511427292 : True := trivial
theorem tw15039290231138440174 : True := trivial
theorem tw761082185318968965 : True := trivial
theorem tw13651283529475957770 : True := trivial
theorem tw9307012752130601850 : True := trivial
theorem tw5930810209116520346 : True := trivial
theorem tw11149705974863917606 : True := trivial
theorem tw10321544415108786104 : True := trivial
theorem tw8658748259583416112 : True := trivial
theorem tw43589267880201866 : True := trivial
theorem tw1654792488262179451 : True := trivial
theorem tw2448967859614270800 : True := trivial
theorem tw10614334135587521061 : True := trivial
theorem tw12981773612824855645 : True := trivial
theorem tw10296320263574026560 : True := trivial
theorem tw16393857403834427051 : True := trivial
theorem tw5135330176367773835 : True := trivial
theorem tw2659756114494159700 : True := trivial
theorem tw150135153694808728 : True := trivial
theorem tw644011678489895517 : True := trivial
theorem tw12668494198567740820 : True := trivial
theorem tw15389790101718835965 : True := trivial
theorem tw12685472514136918315 : True := trivial
theorem tw11702151131979243110 : True := trivial
theorem tw10277345224861294936 : True := trivial
theorem tw12564923379012901526 : True := trivial
theorem tw9692900383840913818 : True := trivial
theorem tw14446914521749333161 : True := trivial
theorem tw2175107345976519874 : True := trivial
theorem tw2332264966245113380 : True := trivial
theorem tw12396707794800703900 : True := trivial
theorem tw6027327927348989781 : True := trivial
theorem tw13247043911694393621 : True := trivial
theorem tw4848849824725708445 : True := trivial
theorem tw12163926533213546382 : True := trivial
theorem tw6596173099254259909 : True := trivial
theorem tw14605402413441645049 : True := trivial
theorem tw14289157769417844915 : True := trivial
theorem tw9048347942153651527 : True := trivial
theorem tw11837563029281827309 : True := trivial
theorem tw7217952827171537169 : True := trivial
theorem tw14641834192422285221 : True := trivial
theorem tw4742295868214262414 : True := trivial
theorem tw16489690500826108160 : True := trivial
theorem tw17847421999928168661 : True := trivial
theorem tw8756054223144911663 : True := trivial
theorem tw7021230521840324736 : True := trivial
theorem tw3664407771781488237 : True := trivial
theorem tw17960202269633025626 : True := trivial
theorem tw7050489459958605233 : True := trivial
theorem tw526282175144967660 : True := trivial
theorem tw8857462763681851217 : True := trivial
theorem tw6136643280479878699 : True := trivial
theorem tw7632188312650686239 : True := trivial
theorem tw11752908317088146509 : True := trivial
theorem tw8817376270167215510 : True := trivial
theorem tw13899784155988357013 : True := trivial
theorem tw348076174528066608 : True := trivial
theorem tw17229483577817938915 : True := trivial
theorem tw9115850582911709482 : True := trivial
theorem tw8934126657076232007 : True := trivial
theorem tw6731541595908639386 : True := trivial
theorem tw8408767763381305451 : True := trivial
theorem tw16954373071570249322 : True := trivial
theorem tw9222838028209674291 : True := trivial
theorem tw11003939931311783501 : True := trivial
theorem tw9896554717095714602 : True := trivial
theorem tw11230045787009184450 : True := trivial
theorem tw9833025826880741224 : True := trivial
theorem tw9589774880579119988 : True := trivial
theorem tw3592313136705919610 : True := trivial
theorem tw4590110580455662098 : True := trivial
theorem tw13776677351108574560 : True := trivial
theorem tw5592235249959607533 : True := trivial
theorem tw10021314582133751324 : True := trivial
theorem tw229282339784786080 : True := trivial
theorem tw14382833511005031117 : True := trivial
theorem tw2731766548981243617 : True := trivial
theorem tw10206170838770781718 : True := trivial
theorem tw3918335699672375179 : True := trivial
theorem tw12745354781432960245 : True := trivial
theorem tw2879706078956943064 : True := trivial
theorem tw16281916824907886122 : True := trivial
theorem tw9881493012907908466 : True := trivial
theorem tw3312414758531714493 : True := trivial
theorem tw457314136932610132 : True := trivial
theorem tw5703543363780379487 : True := trivial
theorem tw12357733289723735775 : True := trivial
theorem tw17991764320132344534 : True := trivial
theorem tw5228888095179852169 : True := trivial
theorem tw12750822587404053196 : True := trivial
theorem tw4689194778853992837 : True := trivial
theorem tw15249914741148270414 : True := trivial
theorem tw1449999898214676555 : True := trivial
theorem tw11161962146634268268 : True := trivial
theorem tw9472747648360037597 : True := trivial
theorem tw7596965262180841801 : True := trivial
theorem tw15795804707543804962 : True := trivial
theorem tw17561368735465136779 : True := trivial
theorem tw15726723591066553294 : True := trivial
theorem tw10865703899336644338 : True := trivial
theorem tw14013037659418773728 : True := trivial
theorem tw16019989724340868304 : True := trivial
theorem tw8960916219233437056 : True := trivial
theorem tw15343485731304876453 : True := trivial
theorem tw11263525057541936679 : True := trivial
theorem tw7319390337885015964 : True := trivial
theorem tw9148029405494823957 : True := trivial
theorem tw7855439728011849757 : True := trivial
theorem tw14632173998742582621 : True := trivial
theorem tw4474283257737841396 : True := trivial
theorem tw17822417949525492718 : True := trivial
theorem tw4192568320280344548 : True := trivial
theorem tw9433990530516455988 : True := trivial
theorem tw15198877095411547340 : True := trivial
theorem tw14956817017092238384 : True := trivial
theorem tw10185102655367058920 : True := trivial
theorem tw3772638773159201561 : True := trivial
theorem tw13350756020907254752 : True := trivial
theorem tw1655664646385324797 : True := trivial
theorem tw5081466159451153737 : True := trivial
theorem tw18338515661854742623 : True := trivial
theorem tw12253814783364793419 : True := trivial
theorem tw4365966970227747081 : True := trivial
theorem tw5446742022730038909 : True := trivial
theorem tw17318511697589843776 : True := trivial
theorem tw1547600037976312521 : True := trivial
theorem tw16033857908250045144 : True := trivial
theorem tw18291410730411167529 : True := trivial
theorem tw9564608971016962771 : True := trivial
theorem tw1282241483136292625 : True := trivial
theorem tw8023251201234469779 : True := trivial
theorem tw10178768479231451754 : True := trivial
theorem tw4349823918230885697 : True := trivial
theorem tw10212667981757023595 : True := trivial
theorem tw16625917015254307797 : True := trivial
theorem tw3640693469775753314 : True := trivial
theorem tw4476700888576506371 : True := trivial
theorem tw643542720105760030 : True := trivial
theorem tw18330853161200317644 : True := trivial
theorem tw17408920959806505735 : True := trivial
theorem tw11940338128196957839 : True := trivial
theorem tw5918283058777484208 : True := trivial
theorem tw4398481514583450595 : True := trivial
theorem tw871342017861327882 : True := trivial
theorem tw9879443421739213503 : True := trivial
theorem tw17962704923715449383 : True := trivial
theorem tw17162019368253403875 : True := trivial
theorem tw16907254393051291717 : True := trivial
theorem tw2517881785567439264 : True := trivial
theorem tw11561610591856136739 : True := trivial
theorem tw17137392714377372575 : True := trivial
theorem tw13360512962834947345 : True := trivial
theorem tw10149987062559517186 : True := trivial
theorem tw81037055272532922 : True := trivial
theorem tw10605629824539334047 : True := trivial
theorem tw13554448754874403073 : True := trivial
theorem tw1206654658800776823 : True := trivial
theorem tw5333169405279787001 : True := trivial
theorem tw10616127097453652022 : True := trivial
end PySem.W.Fast
open PySem PySem.W PyProof.Rows
set_option maxRecDepth 100000 in
set_option maxHeartbeats 0 in
theorem PySem.Challenge.cw_signalboxdesk_s01_answers_holds : PySem.Challenge.rw_signalboxdesk_s01_answers.Holds := by
  w_on; k_headS; (case hw => exact ⟨[.list []], by decide +kernel, by decide +kernel⟩)
  k_fillS
  refine L2.walk_specK (r := PySem.Challenge.rw_signalboxdesk_s01_answers) (k := 8) (CX := L2.CX0) (ps := ["calls"]) (sp := Sb.spAns) (by decide +kernel) rfl rfl ⟨rfl, by decide, by decide⟩ (fun w h Y => PySem.W.kIn_of Y) ?F ?S (fun _ _ _ _ z => z)
  case F =>
    intro w mg fa h Y KX G hmg
    refine' Sb.fin hmg
      ⟨PySem.W.mg_none_of KX G ?g1, PySem.W.mg_none_of KX G ?g2, PySem.W.mg_none_of KX G ?g3, PySem.W.mg_none_of KX G ?g4, PySem.W.mg_none_of KX G ?g5, PySem.W.mg_none_of KX G ?g6⟩
      (Sb.cnraw KX G ?g7 ?g8 ?g9 ?g10 ?g11 ?g12 ?g13 ?g14 (fun _ _ _ _ _ _ us hl => match us, hl with | [_, _, _, _], _ => rfl))
      ⟨Sb.cls ?g15 ?g16 ?g17 ?g18, Sb.nattr4 ?g19 ?g20 ?g21 ?g22⟩
      (Sb.cnraw KX G ?g23 ?g24 ?g25 ?g26 ?g27 ?g28 ?g29 ?g30 (fun _ _ _ _ _ _ us hl => match us, hl with | [_, _], _ => rfl))
      ⟨Sb.cls ?g31 ?g32 ?g33 ?g34, Sb.nattr2 ?g35 ?g36⟩
      (Sb.cnraw KX G ?g37 ?g38 ?g39 ?g40 ?g41 ?g42 ?g43 ?g44 (fun _ _ _ _ _ _ us hl => match us, hl with | [_], _ => rfl))
      ⟨Sb.cls ?g45 ?g46 ?g47 ?g48, Sb.nattr4 ?g49 ?g50 ?g51 ?g52⟩
      (Sb.cnraw KX G ?g53 ?g54 ?g55 ?g56 ?g57 ?g58 ?g59 ?g60 (fun _ _ _ _ _ _ us hl => match us, hl with | [_, _], _ => rfl))
      ⟨Sb.cls ?g61 ?g62 ?g63 ?g64, Sb.nattr2 ?g65 ?g66⟩
      (Sb.mthraw ?g67 ?g68 ?g69 ?g70 ?g71 (fun _ _ _ _ _ _ us hl => match us, hl with | [_], _ => rfl))
      (Sb.mthraw ?g72 ?g73 ?g74 ?g75 ?g76 (fun _ _ _ _ _ _ us hl => match us, hl with | [_], _ => rfl))
      (Sb.mthraw ?g77 ?g78 ?g79 ?g80 ?g81 (fun _ _ _ _ _ _ us hl => match us, hl with | [_], _ => rfl))
      (Sb.mthraw ?g82 ?g83 ?g84 ?g85 ?g86 (fun _ _ _ _ _ _ us hl => match us, hl with | [_, _], _ => rfl))
      (Sb.fnraw KX G ?g87 ?g88 ?g89 ?g90 (fun _ _ _ _ _ _ us hl => match us, hl with | [_, _, _], _ => rfl))
      (Sb.fnraw KX G ?g91 ?g92 ?g93 ?g94 (fun _ _ _ _ _ _ us hl => match us, hl with | [_, _], _ => rfl))
      (Sb.fnraw KX G ?g95 ?g96 ?g97 ?g98 (fun _ _ _ _ _ _ us hl => match us, hl with | [_, _, _, _], _ => rfl))
      (Sb.fnraw KX G ?g99 ?g100 ?g101 ?g102 (fun _ _ _ _ _ _ us hl => match us, hl with | [_], _ => rfl))
      (Sb.fnraw KX G ?g103 ?g104 ?g105 ?g106 (fun _ _ _ _ _ _ us hl => match us, hl with | [_], _ => rfl))
      (Sb.fnraw KX G ?g107 ?g108 ?g109 ?g110 (fun _ _ _ _ _ _ us hl => match us, hl with | [_], _ => rfl))
      (Sb.fnraw KX G ?g111 ?g112 ?g113 ?g114 (fun _ _ _ _ _ _ us hl => match us, hl with | [_, _], _ => rfl))
      (Sb.fnraw KX G ?g115 ?g116 ?g117 ?g118 (fun _ _ _ _ _ _ us hl => match us, hl with | [_], _ => rfl))
      (Sb.fnraw KX G ?g119 ?g120 ?g121 ?g122 (fun _ _ _ _ _ _ us hl => match us, hl with | [_, _, _], _ => rfl))
      (Sb.fnraw KX G ?g123 ?g124 ?g125 ?g126 (fun _ _ _ _ _ _ us hl => match us, hl with | [_, _], _ => rfl))
      (Sb.fnraw KX G ?g127 ?g128 ?g129 ?g130 (fun _ _ _ _ _ _ us hl => match us, hl with | [_, _], _ => rfl))
      (Sb.fnraw KX G ?g131 ?g132 ?g133 ?g134 (fun _ _ _ _ _ _ us hl => match us, hl with | [_, _], _ => rfl))
      (Sb.fnraw KX G ?g135 ?g136 ?g137 ?g138 (fun _ _ _ _ _ _ us hl => match us, hl with | [_, _], _ => rfl))
      (Sb.fnraw KX G ?g139 ?g140 ?g141 ?g142 (fun _ _ _ _ _ _ us hl => match us, hl with | [_, _, _], _ => rfl))
      (Sb.fnraw KX G ?g143 ?g144 ?g145 ?g146 (fun _ _ _ _ _ _ us hl => match us, hl with | [_, _], _ => rfl))
      (Sb.fnraw KX G ?g147 ?g148 ?g149 ?g150 (fun _ _ _ _ _ _ us hl => match us, hl with | [_], _ => rfl))
      (Sb.fnraw KX G ?g151 ?g152 ?g153 ?g154 (fun _ _ _ _ _ _ us hl => match us, hl with | [_], _ => rfl))
      (Sb.fnraw KX G ?g155 ?g156 ?g157 ?g158 (fun _ _ _ _ _ _ us hl => match us, hl with | [_, _], _ => rfl))
      (Sb.fnraw KX G ?g159 ?g160 ?g161 ?g162 (fun _ _ _ _ _ _ us hl => match us, hl with | [_, _, _], _ => rfl))
      (Sb.fnraw KX G ?g163 ?g164 ?g165 ?g166 (fun _ _ _ _ _ _ us hl => match us, hl with | [_, _, _], _ => rfl))
      (Sb.fnraw KX G ?g167 ?g168 ?g169 ?g170 (fun _ _ _ _ _ _ us hl => match us, hl with | [_, _, _, _], _ => rfl))
      (Sb.fnraw KX G ?g171 ?g172 ?g173 ?g174 (fun _ _ _ _ _ _ us hl => match us, hl with | [_, _, _], _ => rfl))
      (Sb.fnraw KX G ?g175 ?g176 ?g177 ?g178 (fun _ _ _ _ _ _ us hl => match us, hl with | [_, _], _ => rfl))
      (Sb.fnraw KX G ?g179 ?g180 ?g181 ?g182 (fun _ _ _ _ _ _ us hl => match us, hl with | [_, _, _], _ => rfl))
      (Sb.fnraw KX G ?g183 ?g184 ?g185 ?g186 (fun _ _ _ _ _ _ us hl => match us, hl with | [_, _], _ => rfl))
      (Sb.fnraw KX G ?g187 ?g188 ?g189 ?g190 (fun _ _ _ _ _ _ us hl => match us, hl with | [_, _], _ => rfl))
      (Sb.fnraw KX G ?g191 ?g192 ?g193 ?g194 (fun _ _ _ _ _ _ us hl => match us, hl with | [_, _], _ => rfl))
      (Sb.fnraw KX G ?g195 ?g196 ?g197 ?g198 (fun _ _ _ _ _ _ us hl => match us, hl with | [_, _], _ => rfl))
      (Sb.fnraw KX G ?g199 ?g200 ?g201 ?g202 (fun _ _ _ _ _ _ us hl => match us, hl with | [_, _, _], _ => rfl))
      (Sb.fnraw KX G ?g203 ?g204 ?g205 ?g206 (fun _ _ _ _ _ _ us hl => match us, hl with | [_], _ => rfl))
      (Sb.fnraw KX G ?g207 ?g208 ?g209 ?g210 (fun _ _ _ _ _ _ us hl => match us, hl with | [_, _, _], _ => rfl))
      (Sb.fnraw KX G ?g211 ?g212 ?g213 ?g214 (fun _ _ _ _ _ _ us hl => match us, hl with | [_, _], _ => rfl))
      (Sb.fnraw KX G ?g215 ?g216 ?g217 ?g218 (fun _ _ _ _ _ _ us hl => match us, hl with | [_, _], _ => rfl))
      (Sb.fnraw KX G ?g219 ?g220 ?g221 ?g222 (fun _ _ _ _ _ _ us hl => match us, hl with | [_, _], _ => rfl))
      (Sb.fnraw KX G ?g223 ?g224 ?g225 ?g226 (fun _ _ _ _ _ _ us hl => match us, hl with | [_], _ => rfl))
      (Sb.fnraw KX G ?g227 ?g228 ?g229 ?g230 (fun _ _ _ _ _ _ us hl => match us, hl with | [_, _, _], _ => rfl))
      (Sb.fnraw KX G ?g231 ?g232 ?g233 ?g234 (fun _ _ _ _ _ _ us hl => match us, hl with | [_, _, _], _ => rfl))
      (Sb.fnraw KX G ?g235 ?g236 ?g237 ?g238 (fun _ _ _ _ _ _ us hl => match us, hl with | [_, _, _], _ => rfl))
      (Sb.fnraw KX G ?g239 ?g240 ?g241 ?g242 (fun _ _ _ _ _ _ us hl => match us, hl with | [_], _ => rfl))
      (Sb.coni KX G ?g243)
      (Sb.coni KX G ?g244)
      (Sb.coni KX G ?g245)
      (Sb.coni KX G ?g246)
      (Sb.coni KX G ?g247)
      (Sb.coni KX G ?g248)
      (Sb.coni KX G ?g249)
      (Sb.coni KX G ?g250)
      (Sb.coni KX G ?g251)
      (Sb.coni KX G ?g252)
      (Sb.coni KX G ?g253)
      (Sb.coni KX G ?g254)
      (Sb.coni KX G ?g255)
      (Sb.coni KX G ?g256)
      (Sb.coni KX G ?g257)
      (Sb.coni KX G ?g258)
      (Sb.coni KX G ?g259)
      (Sb.coni KX G ?g260)
      (Sb.coni KX G ?g261)
      (Sb.coni KX G ?g262)
      (Sb.coni KX G ?g263)
      (Sb.coni KX G ?g264)
      (Sb.coni KX G ?g265)
      (Sb.coni KX G ?g266)
      (Sb.coni KX G ?g267)
      (Sb.coni KX G ?g268)
      (Sb.coni KX G ?g269)
      (Sb.coni KX G ?g270)
      (Sb.coni KX G ?g271)
      (Sb.coni KX G ?g272)
      (Sb.coni KX G ?g273)
      (Sb.coni KX G ?g274)
      (Sb.coni KX G ?g275)
      (Sb.coni KX G ?g276)
      (Sb.coni KX G ?g277)
      (Sb.shapes14 KX G ?g278 ?g279 ?g280 ?g281 ?g282 ?g283 ?g284 ?g285 ?g286 ?g287 ?g288 ?g289 ?g290 ?g291 ?g292 ?g293)
    (case g1 => k_is); (case g2 => k_is); (case g3 => k_is); (case g4 => k_is); (case g5 => k_is); (case g6 => k_is)
    (case g7 => k_is); (case g8 => k_is); (case g9 => k_is); (case g10 => k_is); (case g11 => k_is); (case g12 => k_is)
    (case g13 => k_is); (case g14 => k_is); (case g15 => k_is); (case g16 => k_is); (case g17 => k_is); (case g18 => k_is)
    (case g19 => k_is); (case g20 => k_is); (case g21 => k_is); (case g22 => k_is); (case g23 => k_is); (case g24 => k_is)
    (case g25 => k_is); (case g26 => k_is); (case g27 => k_is); (case g28 => k_is); (case g29 => k_is); (case g30 => k_is)
    (case g31 => k_is); (case g32 => k_is); (case g33 => k_is); (case g34 => k_is); (case g35 => k_is); (case g36 => k_is)
    (case g37 => k_is); (case g38 => k_is); (case g39 => k_is); (case g40 => k_is); (case g41 => k_is); (case g42 => k_is)
    (case g43 => k_is); (case g44 => k_is); (case g45 => k_is); (case g46 => k_is); (case g47 => k_is); (case g48 => k_is)
    (case g49 => k_is); (case g50 => k_is); (case g51 => k_is); (case g52 => k_is); (case g53 => k_is); (case g54 => k_is)
    (case g55 => k_is); (case g56 => k_is); (case g57 => k_is); (case g58 => k_is); (case g59 => k_is); (case g60 => k_is)
    (case g61 => k_is); (case g62 => k_is); (case g63 => k_is); (case g64 => k_is); (case g65 => k_is); (case g66 => k_is)
    (case g67 => k_is); (case g68 => k_is); (case g69 => k_is); (case g70 => k_is); (case g71 => k_is); (case g72 => k_is)
    (case g73 => k_is); (case g74 => k_is); (case g75 => k_is); (case g76 => k_is); (case g77 => k_is); (case g78 => k_is)
    (case g79 => k_is); (case g80 => k_is); (case g81 => k_is); (case g82 => k_is); (case g83 => k_is); (case g84 => k_is)
    (case g85 => k_is); (case g86 => k_is); (case g87 => k_is); (case g88 => k_is); (case g89 => k_is); (case g90 => k_is)
    (case g91 => k_is); (case g92 => k_is); (case g93 => k_is); (case g94 => k_is); (case g95 => k_is); (case g96 => k_is)
    (case g97 => k_is); (case g98 => k_is); (case g99 => k_is); (case g100 => k_is); (case g101 => k_is); (case g102 => k_is)
    (case g103 => k_is); (case g104 => k_is); (case g105 => k_is); (case g106 => k_is); (case g107 => k_is); (case g108 => k_is)
    (case g109 => k_is); (case g110 => k_is); (case g111 => k_is); (case g112 => k_is); (case g113 => k_is); (case g114 => k_is)
    (case g115 => k_is); (case g116 => k_is); (case g117 => k_is); (case g118 => k_is); (case g119 => k_is); (case g120 => k_is)
    (case g121 => k_is); (case g122 => k_is); (case g123 => k_is); (case g124 => k_is); (case g125 => k_is); (case g126 => k_is)
    (case g127 => k_is); (case g128 => k_is); (case g129 => k_is); (case g130 => k_is); (case g131 => k_is); (case g132 => k_is)
    (case g133 => k_is); (case g134 => k_is); (case g135 => k_is); (case g136 => k_is); (case g137 => k_is); (case g138 => k_is)
    (case g139 => k_is); (case g140 => k_is); (case g141 => k_is); (case g142 => k_is); (case g143 => k_is); (case g144 => k_is)
    (case g145 => k_is); (case g146 => k_is); (case g147 => k_is); (case g148 => k_is); (case g149 => k_is); (case g150 => k_is)
    (case g151 => k_is); (case g152 => k_is); (case g153 => k_is); (case g154 => k_is); (case g155 => k_is); (case g156 => k_is)
    (case g157 => k_is); (case g158 => k_is); (case g159 => k_is); (case g160 => k_is); (case g161 => k_is); (case g162 => k_is)
    (case g163 => k_is); (case g164 => k_is); (case g165 => k_is); (case g166 => k_is); (case g167 => k_is); (case g168 => k_is)
    (case g169 => k_is); (case g170 => k_is); (case g171 => k_is); (case g172 => k_is); (case g173 => k_is); (case g174 => k_is)
    (case g175 => k_is); (case g176 => k_is); (case g177 => k_is); (case g178 => k_is); (case g179 => k_is); (case g180 => k_is)
    (case g181 => k_is); (case g182 => k_is); (case g183 => k_is); (case g184 => k_is); (case g185 => k_is); (case g186 => k_is)
    (case g187 => k_is); (case g188 => k_is); (case g189 => k_is); (case g190 => k_is); (case g191 => k_is); (case g192 => k_is)
    (case g193 => k_is); (case g194 => k_is); (case g195 => k_is); (case g196 => k_is); (case g197 => k_is); (case g198 => k_is)
    (case g199 => k_is); (case g200 => k_is); (case g201 => k_is); (case g202 => k_is); (case g203 => k_is); (case g204 => k_is)
    (case g205 => k_is); (case g206 => k_is); (case g207 => k_is); (case g208 => k_is); (case g209 => k_is); (case g210 => k_is)
    (case g211 => k_is); (case g212 => k_is); (case g213 => k_is); (case g214 => k_is); (case g215 => k_is); (case g216 => k_is)
    (case g217 => k_is); (case g218 => k_is); (case g219 => k_is); (case g220 => k_is); (case g221 => k_is); (case g222 => k_is)
    (case g223 => k_is); (case g224 => k_is); (case g225 => k_is); (case g226 => k_is); (case g227 => k_is); (case g228 => k_is)
    (case g229 => k_is); (case g230 => k_is); (case g231 => k_is); (case g232 => k_is); (case g233 => k_is); (case g234 => k_is)
    (case g235 => k_is); (case g236 => k_is); (case g237 => k_is); (case g238 => k_is); (case g239 => k_is); (case g240 => k_is)
    (case g241 => k_is); (case g242 => k_is); (case g243 => k_is); (case g244 => k_is); (case g245 => k_is); (case g246 => k_is)
    (case g247 => k_is); (case g248 => k_is); (case g249 => k_is); (case g250 => k_is); (case g251 => k_is); (case g252 => k_is)
    (case g253 => k_is); (case g254 => k_is); (case g255 => k_is); (case g256 => k_is); (case g257 => k_is); (case g258 => k_is)
    (case g259 => k_is); (case g260 => k_is); (case g261 => k_is); (case g262 => k_is); (case g263 => k_is); (case g264 => k_is)
    (case g265 => k_is); (case g266 => k_is); (case g267 => k_is); (case g268 => k_is); (case g269 => k_is); (case g270 => k_is)
    (case g271 => k_is); (case g272 => k_is); (case g273 => k_is); (case g274 => k_is); (case g275 => k_is); (case g276 => k_is)
    (case g277 => k_is); (case g278 => k_is); (case g279 => k_is); (case g280 => k_is); (case g281 => k_is); (case g282 => k_is)
    (case g283 => k_is); (case g284 => k_is); (case g285 => k_is); (case g286 => k_is); (case g287 => k_is); (case g288 => k_is)
    (case g289 => k_is); (case g290 => k_is); (case g291 => k_is); (case g292 => k_is); (case g293 => k_is)
  case S =>
    intro K H xs a hO hwi hask hx
    cases hx with
    | cons h1 h2 =>
      cases h2
      cases h1 with
      | lst hs ha =>
        have e := L2.ints_dw a.1 _ ha
        subst e
        have q : ((Codec.inLen 0 16000 a.1 && a.1.all (Codec.inInt 0 9223372036854775807)) && true) = true := hwi
        rw [Bool.and_eq_true, Bool.and_eq_true] at q
        exact ⟨_, a.1, rfl, hs, (Codec.inNat_iff.mp q.1.1).2, hask, fun H' p hp => .lst (L2.SqL.of hp) (L2.dw_ints _)⟩
#print axioms PySem.Challenge.cw_signalboxdesk_s01_answers_holds

import PyProof.Rows.All
import Wide.All
import OpenK.AllK
import Wide.FinOn
import PyProof.EqAt
import PyProof.EqKinds
import PyProof.TupleCall
import KE.BitLaws
import Open.SpecLaws
import KE.OsHead
import KE.OsGo
import PyProof.P3In
import PySu120
import PySem.Challenge.RW_litfires_s01_answers

section
set_option Elab.async false
set_option linter.all false
set_option maxRecDepth 100000
namespace L2
open PySem PySem.Spec PyProof.Rows

abbrev Key := Sum Int Str
def keyIs : Key → Value → Bool
  | .inl k, v => Value.isInt k v
  | .inr x, v => Value.isStrOf x v
def keyH (w : World) : Key → Int
  | .inl k => hashInt k
  | .inr x => hashStr w x
theorem keyIs_shape : ∀ {k : Key} {v : Value}, keyIs k v = true → (∃ i t, k = Sum.inl i ∧ v = Value.int i t) ∨ (∃ x t, k = Sum.inr x ∧ v = Value.str x t)
  | .inl i, v, h => by
    obtain ⟨t, e⟩ := Value.isInt_shape (k := i) (v := v) h
    exact .inl ⟨i, t, rfl, e⟩
  | .inr x, v, h => by
    obtain ⟨t, e⟩ := Value.isStrOf_shape (x := x) (v := v) h
    exact .inr ⟨x, t, rfl, e⟩
theorem keyIs_int (i : Int) (t : Tok) : keyIs (.inl i) (.int i t) = true := by simp [keyIs, Value.isInt]
theorem keyIs_str (x : Str) (t : Tok) : keyIs (.inr x) (.str x t) = true := by simp [keyIs, Value.isStrOf]
theorem key_ll (a b : Int) : decide ((Sum.inl a : Key) = Sum.inl b) = (a == b) := by
  by_cases e : a = b
  · subst e; simp
  · have h : ¬ (Sum.inl a : Key) = Sum.inl b := fun q => e (Sum.inl.inj q)
    rw [decide_eq_false h]
    exact (beq_eq_false_iff_ne.mpr e).symm
theorem key_rr (a b : Str) : decide ((Sum.inr a : Key) = Sum.inr b) = decide (a = b) := by
  by_cases e : a = b
  · subst e; simp
  · have h : ¬ (Sum.inr a : Key) = Sum.inr b := fun q => e (Sum.inr.inj q)
    rw [decide_eq_false h, decide_eq_false e]
theorem key_lr (a : Int) (b : Str) : decide ((Sum.inl a : Key) = Sum.inr b) = false := decide_eq_false (fun q => nomatch q)
theorem key_rl (a : Str) (b : Int) : decide ((Sum.inr a : Key) = Sum.inl b) = false := decide_eq_false (fun q => nomatch q)

def mixKind (prog : Program) (w : World) : PySem.KeyKind prog w Key where
  is := keyIs
  hash := keyH w
  inj := fun v a b ha hb => by
    rcases keyIs_shape ha with ⟨i, t, rfl, rfl⟩ | ⟨x, t, rfl, rfl⟩
    · rcases keyIs_shape hb with ⟨j, u, rfl, e⟩ | ⟨y, u, rfl, e⟩
      · injection e with e1 _; rw [e1]
      · exact nomatch e
    · rcases keyIs_shape hb with ⟨j, u, rfl, e⟩ | ⟨y, u, rfl, e⟩
      · exact nomatch e
      · injection e with e1 _; rw [e1]
  byValue := fun k v h => by
    rcases keyIs_shape h with ⟨i, t, rfl, rfl⟩ | ⟨x, t, rfl, rfl⟩ <;> rfl
  pyHash := fun hv h => by
    rcases keyIs_shape hv with ⟨i, t, rfl, rfl⟩ | ⟨x, t, rfl, rfl⟩
    · exact wpAny_pyHash_int h
    · exact wpAny_pyHash_str h
  eqBool := fun hu hv h => by
    rcases keyIs_shape hu with ⟨i, t, rfl, rfl⟩ | ⟨x, t, rfl, rfl⟩
    · rcases keyIs_shape hv with ⟨j, u, rfl, rfl⟩ | ⟨y, u, rfl, rfl⟩
      · rw [key_ll] at h; exact wpAny_eqBool_int h
      · rw [key_lr] at h; exact SeqAt.EqAt.int_str i t y u _ _ _ _ h
    · rcases keyIs_shape hv with ⟨j, u, rfl, rfl⟩ | ⟨y, u, rfl, rfl⟩
      · rw [key_rl] at h; exact SeqAt.EqAt.str_int x t j u _ _ _ _ h
      · rw [key_rr] at h; exact wpAny_eqBool_str h
  «strs» := fun k x t v h => by
    rcases keyIs_shape h with ⟨i, u, rfl, e⟩ | ⟨y, u, rfl, e⟩
    · exact nomatch e
    · injection e with e1 _
      subst e1
      cases v <;> rfl

theorem mixKind_int (prog : Program) (w : World) (i : Int) (t : Tok) : (mixKind prog w).is (.inl i) (.int i t) = true := keyIs_int i t
theorem mixKind_str (prog : Program) (w : World) (x : Str) (t : Tok) : (mixKind prog w).is (.inr x) (.str x t) = true := keyIs_str x t
end L2

namespace L2
open PySem PySem.Spec PyProof.Rows

inductive V where
  | non | bl (b : Bool) | int (i : Int) | str (x : Str) | byt (b : Array UInt8) | flt (b : UInt64) | ref (a : Addr) | ty (n : String)
  deriving DecidableEq

def RelV : V → Value → Prop
  | .non, u => u = Value.none
  | .bl b, u => u = Value.bool b
  | .int i, u => ∃ t, u = Value.int i t
  | .str x, u => ∃ t, u = Value.str x t
  | .byt b, u => ∃ t, u = Value.bytes b t
  | .flt b, u => ∃ t, u = Value.float b t
  | .ref a, u => u = Value.ref a
  | .ty n, u => u = Value.type n

abbrev Vals : List V → List Value → Prop := Paired RelV
theorem Vals.length {xs : List V} {us : List Value} (r : Vals xs us) : xs.length = us.length := Paired.length r
theorem Vals.get : ∀ {xs : List V} {us : List Value} {i : Nat} {x : V}, Vals xs us → xs[i]? = some x → ∃ u, us[i]? = some u ∧ RelV x u
  | _, _, _, _, .nil, e => by simp at e
  | _, _, 0, _, .cons r _, e => by simp at e; subst e; exact ⟨_, rfl, r⟩
  | _, _, i + 1, x, .cons _ t, e => by
    obtain ⟨u, h1, h2⟩ := Vals.get (i := i) (x := x) t (by simpa using e)
    exact ⟨u, by simpa using h1, h2⟩
theorem Vals.set {x : V} {u : Value} (r : RelV x u) : ∀ {xs : List V} {us : List Value} (i : Nat), Vals xs us → Vals (xs.set i x) (us.set i u)
  | _, _, _, .nil => .nil
  | _, _, 0, .cons _ t => .cons r t
  | _, _, i + 1, .cons q t => .cons q (Vals.set r i t)
theorem Vals.append : ∀ {xs ys : List V} {us ws : List Value}, Vals xs us → Vals ys ws → Vals (xs ++ ys) (us ++ ws)
  | _, _, _, _, .nil, s => s
  | _, _, _, _, .cons r t, s => .cons r (Vals.append t s)
theorem Vals.take : ∀ {xs : List V} {us : List Value} (n : Nat), Vals xs us → Vals (xs.take n) (us.take n)
  | _, _, 0, _ => .nil
  | _, _, _ + 1, .nil => .nil
  | _, _, n + 1, .cons r t => .cons r (Vals.take n t)
theorem Vals.drop : ∀ {xs : List V} {us : List Value} (n : Nat), Vals xs us → Vals (xs.drop n) (us.drop n)
  | _, _, 0, r => r
  | _, _, _ + 1, .nil => .nil
  | _, _, n + 1, .cons _ t => Vals.drop n t
theorem Vals.none_of : ∀ {xs : List V} {us : List Value} {i : Nat}, Vals xs us → xs[i]? = none → us[i]? = none := fun {xs us i} r e => by
  have h1 := r.length
  have h2 : xs.length ≤ i := List.getElem?_eq_none_iff.mp e
  exact List.getElem?_eq_none_iff.mpr (by omega)

def RelO : Option V → Option Value → Prop
  | some v, some u => RelV v u
  | none, none => True
  | _, _ => False
def KV {κ : Type} : List (κ × V) → List (κ × Value) → Prop := Paired fun (p : κ × V) (q : κ × Value) => p.1 = q.1 ∧ RelV p.2 q.2

def kV : Key → V
  | .inl i => .int i
  | .inr x => .str x

inductive HO where
  /-- a list -/
  | lst (xs : List V)
  /-- a tuple (never changes) -/
  | tup (xs : List V)
  /-- a dict whose keys are ints and texts; one whose keys are tuples of ints and texts (the empty one is both) -/
  | dK (kvs : List (Key × V)) | dT (kvs : List (List Key × V))
  /-- a set of ints: its members, its size -/
  | set (S : Int → Bool) (n : Nat)
  /-- an instance of the class at C, its dict at dx, its attributes -/
  | ins (C dx : Addr) (fs : List (Str × V))
  /-- the dict of the instance at x -/
  | own (x : Addr)
  /-- the dict of an exception -/
  | xd (fs : List (Str × V))
  /-- a bound method, f of x -/
  | met (f x : Addr)
  /-- a range object lo, lo + 1, .. below hi -/
  | rng (lo hi : Int)
  /-- a thing that is known to the object (the script; a dict while a loop walks it): read, never written while it is so -/
  | frz (o : Obj) (u : HO)
  /-- a code object's table -/
  | tbl (ps : Array Value)
  /-- any other thing, by what is true of its one object (a def of one's own: SetO a S n := HO.ext fun h => ..) -/
  | ext (φ : Heap → Prop)

abbrev Hp := Addr → Option HO
def upd (H : Hp) (a : Addr) (o : HO) : Hp := fun b => if b = a then some o else H b
theorem upd_same {H : Hp} {a : Addr} {o : HO} : upd H a o a = some o := by unfold upd; rw [if_pos rfl]
theorem upd_ne {H : Hp} {a b : Addr} {o : HO} (h : b ≠ a) : upd H a o b = H b := by unfold upd; rw [if_neg h]
theorem upd_upd {H : Hp} {a : Addr} {o u : HO} : upd (upd H a o) a u = upd H a u := by
  funext b; unfold upd; split <;> rfl
theorem ne_of {H : Hp} {a b : Addr} {o u : HO} (h : H a = some o) (h' : H b = some u) (d : o ≠ u) : a ≠ b := by
  intro e; subst e; rw [h] at h'; exact d (Option.some.inj h')
theorem ne_of_none {H : Hp} {a b : Addr} {o : HO} (h : H a = some o) (h' : H b = none) : a ≠ b := by
  intro e; subst e; rw [h] at h'; cases h'

section
variable (P : Program) (w : World)
def ObjOk (H : Hp) (h : Heap) (a : Addr) : HO → Prop
  | .lst xs => xs.length ≤ sizeLine ∧ ∃ (its : List Value) (n : Nat), Vals xs its ∧ h.get? a = some { cls := .type "list", data := .seq its.toArray n }
  | .tup xs => xs.length ≤ sizeLine ∧ ∃ its : List Value, Vals xs its ∧ IsTup h a its.toArray
  | .dK kvs => kvs.length ≤ sizeLine ∧ (a == sysModules) = false ∧ ∃ vs, KV kvs vs ∧ h.DictOf (mixKind P w) a vs
  | .dT kvs => kvs.length ≤ sizeLine ∧ (a == sysModules) = false ∧ ∃ xs : List (List Key × Addr × Value),
      Paired (fun (p : List Key × V) (q : List Key × Addr × Value) => p.1 = q.1 ∧ H q.2.1 = some (.tup (p.1.map kV)) ∧ RelV p.2 q.2.2) kvs xs ∧
      ∃ o es ep, h.get? a = some o ∧ o.ExactDict ∧ o.data = .dict es ep ∧ es.toList = xs.map (entryOfKey (tupleKind (mixKind P w))) ∧ (xs.map (·.1)).Nodup
  | .set S n => h.SetOf (intKind P w) a S n
  | .ins C dx fs => H dx = some (.own a) ∧ fs.length ≤ 1000 ∧ dx ≠ a ∧ h.get? a = some (PySem.W.instObj C dx) ∧
      ∃ mA, h.Ns1 dx mA ∧ (∀ f, RelO (fs.lookup f) (mA f)) ∧ PySem.Within mA (fs.map (·.1))
  | .own _ => ∃ o, h.get? a = some o
  | .xd fs => ∃ mA, h.Ns1 a mA ∧ ∀ f, RelO (fs.lookup f) (mA f)
  | .rng lo hi => ∃ t u v, h.get? a = some { cls := .type "range", data := .fields #[.int lo t, .int hi u, .int 1 v] }
  | .frz o u => h.get? a = some o ∧ ObjOk H h a u
  | .tbl ps => h.get? a = some { cls := .none, data := .fields ps }
  | .met f x => h.get? a = some (PySem.W.methodObj (.ref f) (.ref x))
  | .ext φ => φ h ∧ (∃ o, h.get? a = some o) ∧ ∀ h1 h2 : Heap, φ h1 → (∀ o, h1.get? a = some o → h2.get? a = some o) → φ h2
def HOk (H : Hp) (h : Heap) : Prop := ∀ a o, H a = some o → ObjOk P w H h a o
end

section
variable {P : Program} {w : World} {H H' : Hp} {h h' : Heap} {a : Addr} {o : HO}
theorem ObjOk.lt (x : ObjOk P w H h a o) : a < h.objs.size := by
  cases o with
  | lst xs => obtain ⟨_, _, _, _, e⟩ := x; exact Heap.lt_size e
  | tup xs => obtain ⟨_, _, _, p⟩ := x; exact p.lt
  | dK kvs => obtain ⟨_, _, _, _, o, _, _, e, _⟩ := x; exact Heap.lt_size e
  | dT kvs => obtain ⟨_, _, _, _, o, _, _, e, _⟩ := x; exact Heap.lt_size e
  | set S n => obtain ⟨o, _, _, _, e, _⟩ := x; exact Heap.lt_size e
  | ins C dx fs => obtain ⟨_, _, _, e, _⟩ := x; exact Heap.lt_size e
  | own y => obtain ⟨_, e⟩ := x; exact Heap.lt_size e
  | xd fs => obtain ⟨_, ⟨_, _, _, e, _⟩, _⟩ := x; exact Heap.lt_size e
  | rng lo hi => obtain ⟨_, _, _, e⟩ := x; exact Heap.lt_size e
  | frz ob u => obtain ⟨e, _⟩ := x; exact Heap.lt_size e
  | tbl ps => exact Heap.lt_size (show h.get? a = some _ from x)
  | met f y => exact Heap.lt_size (show h.get? a = some _ from x)
  | ext φ => obtain ⟨_, ⟨_, e⟩, _⟩ := x; exact Heap.lt_size e
theorem Paired.mapP {α β : Type} {F G : α → β → Prop} : ∀ {l₁ : List α} {l₂ : List β}, Paired F l₁ l₂ → (∀ a b, F a b → G a b) → Paired G l₁ l₂
  | _, _, .nil, _ => .nil
  | _, _, .cons r t, f => .cons (f _ _ r) (Paired.mapP t f)
theorem ObjOk.stay (x : ObjOk P w H h a o) (k : ∀ b u, (b = a ∨ H b = some (.own a)) → h.get? b = some u → h'.get? b = some u)
    (ho : ∀ b, H b = some (.own a) → H' b = some (.own a)) (ht : ∀ b xs, H b = some (.tup xs) → H' b = some (.tup xs)) : ObjOk P w H' h' a o := by
  induction o with
  | lst xs => obtain ⟨z, its, n, r, e⟩ := x; exact ⟨z, its, n, r, k _ _ (.inl rfl) e⟩
  | tup xs => obtain ⟨z, its, r, ob, e, c⟩ := x; exact ⟨z, its, r, ob, k _ _ (.inl rfl) e, c⟩
  | dK kvs => obtain ⟨z, y, vs, r, ob, es, ep, e, c⟩ := x; exact ⟨z, y, vs, r, ob, es, ep, k _ _ (.inl rfl) e, c⟩
  | dT kvs =>
    obtain ⟨z, y, xs, r, ob, es, ep, e, c⟩ := x
    exact ⟨z, y, xs, Paired.mapP r fun p q z => ⟨z.1, ht _ _ z.2.1, z.2.2⟩, ob, es, ep, k _ _ (.inl rfl) e, c⟩
  | set S n => obtain ⟨ob, es, ep, t, e, c⟩ := x; exact ⟨ob, es, ep, t, k _ _ (.inl rfl) e, c⟩
  | ins C dx fs =>
    obtain ⟨d, z, ne, e, mA, ⟨od, es, ep, e2, c⟩, r⟩ := x
    exact ⟨ho _ d, z, ne, k _ _ (.inl rfl) e, mA, ⟨od, es, ep, k _ _ (.inr d) e2, c⟩, r⟩
  | own y => obtain ⟨ob, e⟩ := x; exact ⟨ob, k _ _ (.inl rfl) e⟩
  | xd fs => obtain ⟨mA, ⟨od, es, ep, e, c⟩, r⟩ := x; exact ⟨mA, ⟨od, es, ep, k _ _ (.inl rfl) e, c⟩, r⟩
  | rng lo hi => obtain ⟨t, u, v, e⟩ := x; exact ⟨t, u, v, k _ _ (.inl rfl) e⟩
  | frz ob u ih => obtain ⟨e, q⟩ := x; exact ⟨k _ _ (.inl rfl) e, ih q⟩
  | tbl ps =>
    have e : h.get? a = some { cls := .none, data := .fields ps } := x
    show h'.get? a = some { cls := .none, data := .fields ps }
    exact k a _ (.inl rfl) e
  | met f y =>
    have e : h.get? a = some (PySem.W.methodObj (.ref f) (.ref y)) := x
    show h'.get? a = some (PySem.W.methodObj (.ref f) (.ref y))
    exact k a _ (.inl rfl) e
  | ext φ => obtain ⟨p, ⟨o, e⟩, st⟩ := x; exact ⟨st _ _ p fun o q => k _ _ (.inl rfl) q, ⟨o, k _ _ (.inl rfl) e⟩, st⟩
theorem HOk.lt (x : HOk P w H h) (e : H a = some o) : a < h.objs.size := (x a o e).lt
theorem HOk.fresh (x : HOk P w H h) (e : h.objs.size ≤ a) : H a = none := by
  cases q : H a with
  | none => rfl
  | some u => exact absurd (Nat.lt_of_lt_of_le (x.lt q) e) (Nat.lt_irrefl _)
theorem HOk.kept (x : HOk P w H h) (k : ∀ b u, h.get? b = some u → h'.get? b = some u) : HOk P w H h' := fun a o e =>
  (x a o e).stay (fun b u _ q => k b u q) (fun _ q => q) fun _ _ q => q
theorem HOk.laid (x : HOk P w H h) (k : ∀ b u, h.get? b = some u → h'.get? b = some u) (hp : h.objs.size ≤ a) (new : ObjOk P w (upd H a o) h' a o) : HOk P w (upd H a o) h' := fun b u e => by
  have hn := x.fresh hp
  by_cases hb : b = a
  · subst hb; rw [upd_same] at e; cases e; exact new
  · rw [upd_ne hb] at e
    exact (x b u e).stay (fun c v _ q => k c v q) (fun c q => by rw [upd_ne (ne_of_none q hn)]; exact q) fun c xs q => by rw [upd_ne (ne_of_none q hn)]; exact q
end

def Rd (H : Hp) (a : Addr) (u : HO) : Prop := H a = some u ∨ ∃ o, H a = some (.frz o u)
theorem Rd.of {H : Hp} {a : Addr} {u : HO} (h : H a = some u) : Rd H a u := .inl h
theorem Rd.ok {P : Program} {w : World} {H : Hp} {h : Heap} {a : Addr} {u : HO} (r : Rd H a u) (x : HOk P w H h) : ObjOk P w H h a u := by
  rcases r with r | ⟨o, r⟩
  · exact x a u r
  · obtain ⟨_, q⟩ := x a _ r
    exact q
def Mut : Option HO → Prop
  | some (.lst _) => True
  | some (.dK _) => True
  | some (.dT _) => True
  | some (.set _ _) => True
  | some (.ins _ _ _) => True
  | some (.ext _) => True
  | _ => False
section
variable {P : Program} {w : World} {H : Hp} {h h' : Heap} {x e : Addr} {o' : HO}
theorem HOk.write (ok : HOk P w H h) (mu : Mut (H x)) (he : e = x ∨ H e = some (.own x)) (k : ∀ b u, b ≠ e → h.get? b = some u → h'.get? b = some u) (heo : ∃ u, h'.get? e = some u)
    (new : ObjOk P w (upd H x o') h' x o') : HOk P w (upd H x o') h' := fun b u q => by
  have nown : ∀ c y, H c = some (.own y) → c ≠ x := fun c y r z => by subst z; rw [r] at mu; exact mu
  have ntup : ∀ c xs, H c = some (.tup xs) → c ≠ x := fun c xs r z => by subst z; rw [r] at mu; exact mu
  by_cases hb : b = x
  · subst hb; rw [upd_same] at q; cases q; exact new
  · rw [upd_ne hb] at q
    by_cases hbe : b = e
    · have q' : H b = some (.own x) := by
        rcases he with z | z
        · exact absurd (hbe.trans z) hb
        · rw [hbe]; exact z
      rw [q] at q'; cases q'
      obtain ⟨v, hv⟩ := heo
      exact ⟨v, by rw [hbe]; exact hv⟩
    · refine (ok b u q).stay (fun c v hc r => k c v ?_ r) (fun c r => by rw [upd_ne (nown c b r)]; exact r) fun c xs r => by rw [upd_ne (ntup c xs r)]; exact r
      rcases hc with rfl | hc
      · exact hbe
      · rintro rfl
        rcases he with z | z
        · exact nown c b hc z
        · rw [hc] at z; cases z; exact hb rfl
end

structure Un (fs ex : List Addr) (H H' : Hp) (h h' : Heap) : Prop where
  keep : ∀ b o, h.get? b = some o → H b = none → b ∉ fs → b ∉ ex → h'.get? b = some o
  slot : ∀ b o, h.get? b = some o → H b = none → b ∈ fs → b ∉ ex → ∃ sl, h'.get? b = some { o with slots := sl }
  free : ∀ b o, h.get? b = some o → H b = none → b ∉ ex → H' b = none
  there : ∀ b o, h.get? b = some o → b ∉ ex → ∃ o', h'.get? b = some o'
  tups : ∀ b xs, H b = some (.tup xs) → H' b = some (.tup xs)
  frzs : ∀ b o u, H b = some (.frz o u) → H' b = some (.frz o u)
  tbls : ∀ b ps, H b = some (.tbl ps) → ∃ more, H' b = some (.tbl (ps ++ more))
section
variable {fs fs' ex ex' : List Addr} {H H1 H2 : Hp} {h h1 h2 h' : Heap} {a x e : Addr} {o : HO}
theorem Un.any (u : Un fs ex H H1 h h1) {b : Addr} {ob : Obj} (q : h.get? b = some ob) (n : H b = none) (hx : b ∉ ex) : ∃ sl, h1.get? b = some { ob with slots := sl } := by
  by_cases hb : b ∈ fs
  · exact u.slot b ob q n hb hx
  · exact ⟨ob.slots, u.keep b ob q n hb hx⟩
theorem Un.trans (a : Un fs ex H H1 h h1) (b : Un fs ex H1 H2 h1 h2) : Un fs ex H H2 h h2 where
  keep := fun c ob q n hc hx => b.keep c ob (a.keep c ob q n hc hx) (a.free c ob q n hx) hc hx
  slot := fun c ob q n hc hx => by
    obtain ⟨sl, e1⟩ := a.slot c ob q n hc hx
    obtain ⟨sl', e2⟩ := b.slot c _ e1 (a.free c ob q n hx) hc hx
    exact ⟨sl', e2⟩
  free := fun c ob q n hx => by
    obtain ⟨o', e1⟩ := a.there c ob q hx
    exact b.free c o' e1 (a.free c ob q n hx) hx
  there := fun c ob q hx => by
    obtain ⟨o', e1⟩ := a.there c ob q hx
    exact b.there c o' e1 hx
  tups := fun c xs q => b.tups c xs (a.tups c xs q)
  frzs := fun c ob xs q => b.frzs c ob xs (a.frzs c ob xs q)
  tbls := fun c ps q => by
    obtain ⟨m1, e1⟩ := a.tbls c ps q
    obtain ⟨m2, e2⟩ := b.tbls c _ e1
    exact ⟨m1 ++ m2, by rw [e2, Array.append_assoc]⟩
theorem Un.kept (k : ∀ b u, h.get? b = some u → h'.get? b = some u) : Un fs ex H H h h' :=
  ⟨fun b ob q _ _ _ => k b ob q, fun b ob q _ _ _ => ⟨ob.slots, k b ob q⟩, fun _ _ _ n _ => n, fun b ob q _ => ⟨ob, k b ob q⟩, fun _ _ q => q, fun _ _ _ q => q, fun _ ps q => ⟨#[], by rw [q]; simp⟩⟩
theorem Un.refl : Un fs ex H H h h := Un.kept fun _ _ q => q
theorem Un.laid (k : ∀ b u, h.get? b = some u → h'.get? b = some u) (hp : h.objs.size ≤ a) (hn : H a = none) : Un fs ex H (upd H a o) h h' where
  keep := fun b u q _ _ _ => k b u q
  slot := fun b u q _ _ _ => ⟨u.slots, k b u q⟩
  free := fun b u q n _ => by rw [upd_ne (Nat.ne_of_lt (Nat.lt_of_lt_of_le (Heap.lt_size q) hp))]; exact n
  there := fun b u q _ => ⟨u, k b u q⟩
  tups := fun b xs q => by rw [upd_ne (ne_of_none q hn)]; exact q
  frzs := fun b u xs q => by rw [upd_ne (ne_of_none q hn)]; exact q
  tbls := fun b ps q => ⟨#[], by rw [upd_ne (ne_of_none q hn), q]; simp⟩
theorem Un.write (mu : Mut (H x)) (he : e = x ∨ H e = some (.own x)) (k : ∀ b u, b ≠ e → h.get? b = some u → h'.get? b = some u) (heo : ∃ u, h'.get? e = some u) : Un fs ex H (upd H x o) h h' := by
  have hx : ∀ b, H b = none → b ≠ x := fun b n z => by subst z; rw [n] at mu; exact mu
  have hb : ∀ b, H b = none → b ≠ e := fun b n z => by
    subst z
    rcases he with r | r
    · exact hx b n r
    · rw [n] at r; cases r
  have hm : ∀ b u, H b = some u → ¬ Mut (some u) → b ≠ x := fun b u q nm z => by subst z; rw [q] at mu; exact nm mu
  refine ⟨fun b u q n _ _ => k b u (hb b n) q, fun b u q n _ _ => ⟨u.slots, k b u (hb b n) q⟩, fun b u q n _ => by rw [upd_ne (hx b n)]; exact n, fun b u q _ => ?_,
    fun b xs q => by rw [upd_ne (hm b _ q fun z => z)]; exact q, fun b u xs q => by rw [upd_ne (hm b _ q fun z => z)]; exact q, fun b ps q => ⟨#[], by rw [upd_ne (hm b _ q fun z => z), q]; simp⟩⟩
  by_cases hbe : b = e
  · subst hbe; exact heo
  · exact ⟨u, k b u hbe q⟩
theorem Un.mono (u : Un fs ex H H1 h h1) (hs : ∀ b ∈ fs, b ∈ fs') (hx : ∀ b ∈ ex, b ∈ ex') : Un fs' ex' H H1 h h1 :=
  ⟨fun b ob q n hb he => u.keep b ob q n (fun z => hb (hs b z)) fun z => he (hx b z), fun _ _ q n _ he => u.any q n fun z => he (hx _ z), fun b ob q n he => u.free b ob q n fun z => he (hx b z), fun b ob q he => u.there b ob q fun z => he (hx b z), u.tups, u.frzs, u.tbls⟩
end

def trk (h : Heap) (H : Hp) : List Addr := (List.range h.objs.size).filter fun a => (H a).isSome
def hidT (h : Heap) (H : Hp) : Heap := PySem.W.hideAll h (trk h H)
theorem hidT_size (h : Heap) (H : Hp) : (hidT h H).objs.size = h.objs.size := PySem.W.hideAll_size _ _
theorem hidT_get {h : Heap} {H : Hp} {b : Addr} {o : Obj} (e : h.get? b = some o) (n : H b = none) : (hidT h H).get? b = some o :=
  PySem.W.hideAll_get _ e fun hm => by
    have q : (H b).isSome = true := (List.mem_filter.mp hm).2
    rw [n] at q; simp at q
theorem of_hidT {h : Heap} {H : Hp} {b : Addr} {o : Obj} (e : (hidT h H).get? b = some o) : h.get? b = some o ∧ H b = none := by
  have e' : h.get? b = some o := PySem.W.of_hideAll (trk h H) e
  refine ⟨e', ?_⟩
  cases q : H b with
  | none => rfl
  | some x =>
    have hm : b ∈ trk h H := List.mem_filter.mpr ⟨List.mem_range.mpr (Heap.lt_size e'), by simp [q]⟩
    have z : (hidT h H).get? b = none := PySem.W.hideAll_none (trk h H) hm
    rw [z] at e; cases e

def allNews (g h : Heap) (L : Addr) : List (Addr × Obj) := (List.range h.objs.size).filterMap fun a => if a = L ∨ (g.get? a).isSome = true then none else (h.get? a).map fun o => (a, o)
def rest (g h : Heap) (L d : Addr) : List (Addr × Obj) := (allNews g h L).filter fun p => decide (p.1 ≠ d)
end L2

namespace L2
open PySem PySem.Spec PyProof.Rows

structure Mod (K : PySem.W.Frag) (mg : Str → Option Value) (base : Heap) : Prop where
  kin : K.In base
  glob : base.Ns mainGlobals mg
  blt : ∃ mb, base.Ns builtinsNs mb ∧ ∀ x : Str, x ≠ "__name__" → mb x = bootBuiltins x
  nolimit : base.NoLimit

structure Cx where
  prog : Program
  w : World
  K : PySem.W.Frag
  mg : Str → Option Value
  base : Heap
  A : Around
  N : List Str
  s_0 : Shared
  H_0 : Hp
  env : Env
  outer : List Env
  stack : List Env
  ex : List Addr
  fn : Str → Bool
  calm : Bool
  pn : List (Addr × Obj)
  xe : Value → Shared → Prop
def frs (l : List Env) : List Addr := l.filterMap (·.frame)
abbrev Cx.fs (X : Cx) : List Addr := frs X.outer

def Vis (sc : Scope) (x : Str) : Prop := sc.names.lookup x = some .local ∨ sc.names.lookup x = some .cell ∨ sc.names.lookup x = some .free
def Loc (sc : Scope) (x : Str) : Prop := sc.names.lookup x = some .local ∨ sc.names.lookup x = some .cell
def Look (env : Env) (h : Heap) (m : Str → Option Value) (x : Str) (u : Value) : Prop :=
  (env.kindOf x = some .local ∧ m x = some u) ∨ ((env.kindOf x = some .cell ∨ env.kindOf x = some .free) ∧ ∃ c, env.cells.lookup x = some c ∧ h.IsCell c (some u))

structure Cx.Ok (X : Cx) : Prop where
  mod : Mod X.K X.mg X.base
  kind : X.env.scope.kind = .function
  glob : X.env.globals = mainGlobals
  blt : X.env.builtins = builtinsNs
  above : X.s_0.heap.objs.size ≤ X.env.locals
  inj : ∀ x y c, X.env.cells.lookup x = some c → X.env.cells.lookup y = some c → x = y
  has : ∀ x, (X.env.kindOf x = some .cell ∨ X.env.kindOf x = some .free) → ∃ c, X.env.cells.lookup x = some c
  cab : ∀ x c, X.fn x = true → X.env.cells.lookup x = some c → X.s_0.heap.objs.size ≤ c
  hd : X.calm = true → X.A.handled = none
  frames : X.A.frames = some X.stack
  stk : X.stack = X.outer ∨ (X.stack = X.env :: X.outer ∧ X.env.frame = some X.env.locals)
  exf : ∀ b ∈ X.ex, b ≠ X.env.locals ∧ ∀ x c, X.env.cells.lookup x = some c → c ≠ b
  bs : ∀ b o, X.base.get? b = some o → X.s_0.heap.get? b = some o ∧ X.H_0 b = none
  bsz : X.base.objs.size ≤ X.s_0.heap.objs.size
  noex : ∀ b o, X.base.get? b = some o → b ∉ X.ex
  exfs : ∀ b ∈ X.ex, b ∉ X.fs
  funs : X.s_0.heap.FunFrames X.base X.outer
  frf : ∀ b ∈ X.fs, X.H_0 b = none

structure Inv (X : Cx) (pins : List (Addr × Obj)) (σ : List (Option V)) (H : Hp) (s : Shared) : Prop where
  ok : X.Ok
  os : s.os = X.s_0.os
  bare : AllBare s.gens
  base : Un X.fs X.ex X.H_0 H X.s_0.heap s.heap
  loc : ∃ m, s.heap.Ns X.env.locals m ∧ ∀ (i : Nat) (x : Str) (v : V), X.N[i]? = some x → σ[i]? = some (some v) → Vis X.env.scope x → ∃ u, RelV v u ∧ Look X.env s.heap m x u
  cell : ∀ x c, X.env.cells.lookup x = some c → ∃ v, s.heap.IsCell c v
  free : H X.env.locals = none
  freeC : ∀ x c, X.env.cells.lookup x = some c → H c = none
  pin : ∀ p ∈ X.pn ++ pins, s.heap.get? p.1 = some p.2 ∧ H p.1 = none ∧ p.1 ≠ X.env.locals ∧ p.1 ∉ X.fs ∧ ∀ v, p.2.data ≠ .cell v
  hok : HOk X.prog X.w H s.heap
  len : σ.length = X.N.length

section
variable {X : Cx} {pins : List (Addr × Obj)} {σ : List (Option V)} {H H' : Hp} {s : Shared} {h' : Heap}

theorem Cx.Ok.nofr (ok : X.Ok) {b : Addr} {o : Obj} (e : X.base.get? b = some o) : b ∉ X.fs := fun hb => by
  have := (ok.funs.mem hb).1
  rw [e] at this; cases this
theorem Inv.bs (I : Inv X pins σ H s) : ∀ b o, X.base.get? b = some o → s.heap.get? b = some o ∧ H b = none := fun b o e =>
  ⟨I.base.keep b o (I.ok.bs b o e).1 (I.ok.bs b o e).2 (I.ok.nofr e) (I.ok.noex b o e), I.base.free b o (I.ok.bs b o e).1 (I.ok.bs b o e).2 (I.ok.noex b o e)⟩
theorem Inv.bk (I : Inv X pins σ H s) : ∀ b o, X.base.get? b = some o → s.heap.get? b = some o := fun b o e => (I.bs b o e).1
theorem Inv.mod (I : Inv X pins σ H s) : Mod X.K X.mg X.base := I.ok.mod
theorem Inv.kIn (I : Inv X pins σ H s) : X.K.In s.heap := I.ok.mod.kin.keeps I.bk
theorem Inv.nolimit (I : Inv X pins σ H s) : s.heap.NoLimit := I.ok.mod.nolimit.keeps I.bk
theorem Inv.lt (I : Inv X pins σ H s) : X.env.locals < s.heap.objs.size := let ⟨_, hn, _⟩ := I.loc; hn.lt
theorem Inv.sz (I : Inv X pins σ H s) : X.s_0.heap.objs.size ≤ s.heap.objs.size := Nat.le_trans I.ok.above (Nat.le_of_lt I.lt)
theorem Inv.nofs (I : Inv X pins σ H s) {a : Addr} (h : s.heap.objs.size ≤ a) : a ∉ X.fs := fun hb => by
  obtain ⟨_, o, ho, _⟩ := I.ok.funs.mem hb
  exact absurd (Nat.lt_of_lt_of_le (Heap.lt_size ho) (Nat.le_trans I.sz h)) (Nat.lt_irrefl _)
theorem Inv.cne (I : Inv X pins σ H s) : ∀ x c, X.env.cells.lookup x = some c → c ≠ X.env.locals := fun x c e z => by
  obtain ⟨v, o, ho, hd⟩ := I.cell x c e
  obtain ⟨m, ⟨o', es, ep, ho', hd', _⟩, _⟩ := I.loc
  rw [z, ho'] at ho; cases ho; rw [hd'] at hd; cases hd
theorem Inv.funs (I : Inv X pins σ H s) : s.heap.FunFrames X.base X.outer := by
  have all : ∀ (l : List Env), (∀ b ∈ frs l, b ∈ X.fs) → X.s_0.heap.FunFrames X.base l → s.heap.FunFrames X.base l := by
    intro l
    induction l with
    | nil => intro _ _; trivial
    | cons env r ih =>
      intro hs hl
      obtain ⟨hk, ⟨L, o, hf, hn, ho, hd⟩, hr⟩ := hl
      have hL : L ∈ X.fs := hs L (by unfold frs; rw [List.filterMap_cons, hf]; exact List.mem_cons_self)
      obtain ⟨sl, e⟩ := I.base.slot L o ho (I.ok.frf L hL) hL fun z => I.ok.exfs L z hL
      exact ⟨hk, ⟨L, _, hf, hn, e, hd⟩, ih (fun b hb => hs b (by unfold frs; rw [List.filterMap_cons, hf]; exact List.mem_cons_of_mem _ hb)) hr⟩
  exact all X.outer (fun _ hb => hb) I.ok.funs

theorem Inv.stack (I : Inv X pins σ H s) : s.heap.FunFrames X.base X.stack := by
  rcases I.ok.stk with e | ⟨e, hf⟩
  · rw [e]; exact I.funs
  · rw [e]
    obtain ⟨m, hn, _⟩ := I.loc
    refine .cons (by rw [I.ok.kind]; decide) hf hn ?_ I.funs
    exact Heap.get?_none_of_le (Nat.le_trans I.ok.bsz I.ok.above)
theorem Inv.stkSub (I : Inv X pins σ H s) : ∀ b ∈ frs X.stack, b ∈ X.env.locals :: X.fs := fun b hb => by
  rcases I.ok.stk with e | ⟨e, hf⟩
  · rw [e] at hb; exact List.mem_cons_of_mem _ hb
  · rw [e] at hb
    unfold frs at hb
    rw [List.filterMap_cons, hf] at hb
    exact hb
theorem Inv.stkFree (I : Inv X pins σ H s) : ∀ b ∈ frs X.stack, H b = none := fun b hb => by
  rcases List.mem_cons.mp (I.stkSub b hb) with e | hb
  · rw [e]; exact I.free
  · obtain ⟨_, o, ho, _⟩ := I.ok.funs.mem hb
    exact I.base.free b o ho (I.ok.frf b hb) fun z => I.ok.exfs b z hb

theorem Inv.step {g' : Array GenState} {t' : Nat} {d' : Drawn} {ch : List Addr} (I : Inv X pins σ H s)
    (hch : ∀ b ∈ ch, (b ∈ X.ex ∨ X.s_0.heap.objs.size ≤ b) ∧ b ≠ X.env.locals ∧ (∀ x c, X.env.cells.lookup x = some c → c ≠ b) ∧ ∀ p ∈ X.pn ++ pins, p.1 ≠ b)
    (keep : ∀ b o, b ≠ X.env.locals → b ∉ X.fs → b ∉ ch → s.heap.get? b = some o → H b = none → h'.get? b = some o)
    (slot : ∀ b o, b ≠ X.env.locals → b ∈ X.fs → b ∉ ch → s.heap.get? b = some o → H b = none → ∃ sl, h'.get? b = some { o with slots := sl }) (free : ∀ b o, b ∉ ch → s.heap.get? b = some o → H b = none → H' b = none)
    (there : ∀ b o, b ∉ ch → s.heap.get? b = some o → ∃ o', h'.get? b = some o')
    (tups : ∀ b xs, H b = some (.tup xs) → H' b = some (.tup xs)) (frzs : ∀ b o u, H b = some (.frz o u) → H' b = some (.frz o u)) (tbls : ∀ b ps, H b = some (.tbl ps) → ∃ more, H' b = some (.tbl (ps ++ more)))
    (ns : ∀ m, s.heap.Ns X.env.locals m → h'.Ns X.env.locals m) (hok : HOk X.prog X.w H' h') (hg : AllBare g') :
    Inv X pins σ H' { s with heap := h', gens := g', drawn := d', toks := t' } := by
  have neL : ∀ b o, X.s_0.heap.get? b = some o → b ≠ X.env.locals := fun b o e => Nat.ne_of_lt (Nat.lt_of_lt_of_le (Heap.lt_size e) I.ok.above)
  have neC : ∀ b o, X.s_0.heap.get? b = some o → b ∉ X.ex → b ∉ ch := fun b o e hx hb => by
    rcases (hch b hb).1 with z | z
    · exact hx z
    · exact absurd (Nat.lt_of_lt_of_le (Heap.lt_size e) z) (Nat.lt_irrefl _)
  have cellK : ∀ x c, X.env.cells.lookup x = some c → ∀ v, s.heap.IsCell c v → h'.IsCell c v := fun x c e v ⟨o, ho, hd⟩ => by
    have nch : c ∉ ch := fun z => (hch c z).2.2.1 x c e rfl
    by_cases hc : c ∈ X.fs
    · obtain ⟨sl, q⟩ := slot c o (I.cne x c e) hc nch ho (I.freeC x c e)
      exact ⟨_, q, hd⟩
    · exact ⟨o, keep c o (I.cne x c e) hc nch ho (I.freeC x c e), hd⟩
  refine ⟨I.ok, I.os, hg, ⟨fun b o e n hb hx => ?_, fun b o e n hb hx => ?_, fun b o e n hx => ?_, fun b o e hx => ?_, fun b xs e => tups b xs (I.base.tups b xs e), fun b o xs e => frzs b o xs (I.base.frzs b o xs e), fun b ps e => ?_⟩, ?_, fun x c e => ?_, ?_, fun x c e => ?_, fun p hp => ?_, hok, I.len⟩
  · exact keep b o (neL b o e) hb (neC b o e hx) (I.base.keep b o e n hb hx) (I.base.free b o e n hx)
  · obtain ⟨sl, e1⟩ := I.base.slot b o e n hb hx
    obtain ⟨sl', e2⟩ := slot b _ (neL b o e) hb (neC b o e hx) e1 (I.base.free b o e n hx)
    exact ⟨sl', e2⟩
  · obtain ⟨o', e1⟩ := I.base.there b o e hx
    exact free b o' (neC b o e hx) e1 (I.base.free b o e n hx)
  · obtain ⟨o', e1⟩ := I.base.there b o e hx
    exact there b o' (neC b o e hx) e1
  · obtain ⟨m1, e1⟩ := I.base.tbls b ps e
    obtain ⟨m2, e2⟩ := tbls b _ e1
    exact ⟨m1 ++ m2, by rw [e2, Array.append_assoc]⟩
  · obtain ⟨m, hn, hl⟩ := I.loc
    refine ⟨m, ns m hn, fun i x v e1 e2 e3 => ?_⟩
    obtain ⟨u, r, l⟩ := hl i x v e1 e2 e3
    refine ⟨u, r, ?_⟩
    rcases l with l | ⟨k, c, e, z⟩
    · exact .inl l
    · exact .inr ⟨k, c, e, cellK x c e _ z⟩
  · obtain ⟨v, z⟩ := I.cell x c e
    exact ⟨v, cellK x c e v z⟩
  · obtain ⟨m, ⟨o, _, _, ho, _⟩, _⟩ := I.loc
    exact free _ o (fun z => (hch _ z).2.1 rfl) ho I.free
  · obtain ⟨v, o, ho, hd⟩ := I.cell x c e
    exact free c o (fun z => (hch c z).2.2.1 x c e rfl) ho (I.freeC x c e)
  · obtain ⟨e, n, ne, nf, d⟩ := I.pin p hp
    have nch : p.1 ∉ ch := fun z => (hch p.1 z).2.2.2 p hp rfl
    exact ⟨keep p.1 p.2 ne nf nch e n, free p.1 p.2 nch e n, ne, nf, d⟩
theorem Inv.un {t' : Nat} (I : Inv X pins σ H s) (u : Un X.fs [] H H' s.heap h') (hok : HOk X.prog X.w H' h') : Inv X pins σ H' { s with heap := h', toks := t' } := by
  obtain ⟨m, ⟨o, es, ep, ho, r⟩, _⟩ := id I.loc
  obtain ⟨sl, hL⟩ := u.any ho I.free (by simp)
  exact I.step (g' := s.gens) (d' := s.drawn) (ch := []) (fun _ z => nomatch z) (fun b o _ hb _ e n => u.keep b o e n hb (by simp)) (fun b o _ hb _ e n => u.slot b o e n hb (by simp)) (fun b o _ e n => u.free b o e n (by simp)) (fun b o _ e => u.there b o e (by simp)) u.tups u.frzs u.tbls (fun m' hm => by
    obtain ⟨o', es', ep', ho', r'⟩ := hm
    rw [ho] at ho'; cases ho'
    exact ⟨_, es', ep', hL, r'⟩) hok I.bare
theorem Inv.call {g' : Array GenState} {t' : Nat} {d' : Drawn} {ch : List Addr} (I : Inv X pins σ H s) (u : Un (frs X.stack) ch H H' s.heap h') (hok : HOk X.prog X.w H' h') (hg : AllBare g')
    (hch : ∀ b ∈ ch, (b ∈ X.ex ∨ X.s_0.heap.objs.size ≤ b) ∧ b ≠ X.env.locals ∧ (∀ x c, X.env.cells.lookup x = some c → c ≠ b) ∧ ∀ p ∈ X.pn ++ pins, p.1 ≠ b) :
    Inv X pins σ H' { s with heap := h', gens := g', drawn := d', toks := t' } := by
  obtain ⟨m, ⟨o, es, ep, ho, r⟩, _⟩ := id I.loc
  obtain ⟨sl, hL⟩ := u.any ho I.free fun z => (hch _ z).2.1 rfl
  exact I.step (ch := ch) hch (fun b o hL hb hc e n => u.keep b o e n (fun z => (List.mem_cons.mp (I.stkSub b z)).elim hL hb) hc) (fun b o _ _ hc e n => u.any e n hc) (fun b o hc e n => u.free b o e n hc) (fun b o hc e => u.there b o e hc) u.tups u.frzs u.tbls (fun m' hm => by
    obtain ⟨o', es', ep', ho', r'⟩ := hm
    rw [ho] at ho'; cases ho'
    exact ⟨_, es', ep', hL, r'⟩) hok hg
theorem Inv.turned {t' : Nat} {it : Addr} (I : Inv X pins σ H s) (k : ∀ b o, b ≠ it → s.heap.get? b = some o → h'.get? b = some o) (hn : H it = none) (hL : it ≠ X.env.locals)
    (h1 : it ∈ X.ex ∨ X.s_0.heap.objs.size ≤ it) (h2 : ∀ x c, X.env.cells.lookup x = some c → c ≠ it) (h3 : ∀ p ∈ X.pn ++ pins, p.1 ≠ it) : Inv X pins σ H { s with heap := h', toks := t' } := by
  have nit : ∀ b u, H b = some u → b ≠ it := fun b u e z => by rw [z, hn] at e; cases e
  refine I.step (g' := s.gens) (d' := s.drawn) (ch := [it]) (fun b hb => ?_) (fun b o _ _ hc e _ => k b o (fun z => hc (by simp [z])) e) (fun b o _ _ hc e _ => ⟨o.slots, k b o (fun z => hc (by simp [z])) e⟩) (fun _ _ _ _ n => n)
    (fun b o hc e => ⟨o, k b o (fun z => hc (by simp [z])) e⟩) (fun _ _ e => e) (fun _ _ _ e => e) (fun b ps e => ⟨#[], by rw [e]; simp⟩) (fun m hm => ?_) (fun b u e => ?_) I.bare
  · have e : b = it := by simpa using hb
    subst e
    exact ⟨h1, hL, h2, h3⟩
  · obtain ⟨o, es, ep, ho, r⟩ := hm
    exact ⟨o, es, ep, k _ o (Ne.symm hL) ho, r⟩
  · refine (I.hok b u e).stay (fun c v hc q => k c v ?_ q) (fun _ q => q) fun _ _ q => q
    rcases hc with z | z
    · rw [z]; exact nit b u e
    · exact nit c _ z
theorem Inv.tok (I : Inv X pins σ H s) (t : Nat) : Inv X pins σ H { s with toks := t } := I.un (h' := s.heap) (t' := t) Un.refl I.hok
theorem Inv.kept {t' : Nat} (I : Inv X pins σ H s) (k : ∀ b u, s.heap.get? b = some u → h'.get? b = some u) : Inv X pins σ H { s with heap := h', toks := t' } := I.un (Un.kept k) (I.hok.kept k)
theorem Inv.laid {a : Addr} {o : HO} {t' : Nat} (I : Inv X pins σ H s) (k : ∀ b u, s.heap.get? b = some u → h'.get? b = some u) (hp : s.heap.objs.size ≤ a) (new : ObjOk X.prog X.w (upd H a o) h' a o) :
    Inv X pins σ (upd H a o) { s with heap := h', toks := t' } := I.un (Un.laid k hp (I.hok.fresh hp)) (I.hok.laid k hp new)
theorem Inv.write {x e : Addr} {o : HO} {t' : Nat} (I : Inv X pins σ H s) (mu : Mut (H x)) (he : e = x ∨ H e = some (.own x)) (k : ∀ b u, b ≠ e → s.heap.get? b = some u → h'.get? b = some u) (heo : ∃ u, h'.get? e = some u)
    (new : ObjOk X.prog X.w (upd H x o) h' x o) : Inv X pins σ (upd H x o) { s with heap := h', toks := t' } := I.un (Un.write mu he k heo) (I.hok.write mu he k heo new)
theorem Inv.weak {σ' : List (Option V)} (I : Inv X pins σ H s) (hl : σ'.length = σ.length) (w : ∀ (i : Nat) v, σ'[i]? = some (some v) → σ[i]? = some (some v)) : Inv X pins σ' H s :=
  ⟨I.ok, I.os, I.bare, I.base, let ⟨m, hn, hl'⟩ := I.loc; ⟨m, hn, fun i x v e1 e2 e3 => hl' i x v e1 (w i v e2) e3⟩, I.cell, I.free, I.freeC, I.pin, I.hok, hl.trans I.len⟩
theorem Inv.pins_of {pins' : List (Addr × Obj)} (I : Inv X pins σ H s) (h : ∀ p ∈ pins', s.heap.get? p.1 = some p.2 ∧ H p.1 = none ∧ p.1 ≠ X.env.locals ∧ p.1 ∉ X.fs ∧ ∀ v, p.2.data ≠ .cell v) : Inv X pins' σ H s :=
  ⟨I.ok, I.os, I.bare, I.base, I.loc, I.cell, I.free, I.freeC, fun p hp => (List.mem_append.mp hp).elim (fun z => I.pin p (List.mem_append_left _ z)) (h p), I.hok, I.len⟩

theorem nodup_ix {N : List Str} (hN : N.Nodup) {i j : Nat} {x : Str} (a : N[i]? = some x) (b : N[j]? = some x) : i = j := by
  obtain ⟨h1, e1⟩ := List.getElem?_eq_some_iff.mp a
  obtain ⟨h2, e2⟩ := List.getElem?_eq_some_iff.mp b
  exact (List.getElem_inj hN).mp (e1.trans e2.symm)

theorem store_ok2 {M : Model} {A : Around} {E : Value → Shared → Prop} {i : Nat} {x : Str} {v : V} {u : Value} {Q : Unit → Shared → Prop} (I : Inv X pins σ H s) (hN : X.N.Nodup) (hi : X.N[i]? = some x) (hx : Loc X.env.scope x) (r : RelV v u)
    (h : ∀ s', Inv X pins (σ.set i (some v)) H s' → (∃ a, Heap.SameBut a s.heap s'.heap ∧ (a = X.env.locals ∨ X.env.cells.lookup x = some a)) → Q () s') (hf : X.fn x = true ∨ X.env.scope.names.lookup x = some .local := by first | exact .inl rfl | exact .inr rfl | assumption) : wpAny M A (storeName X.env x u) Q E s := by
  obtain ⟨m, hn, hl⟩ := id I.loc
  have hcls : (X.env.scope.kind == .class || (X.env.scope.kind == .module && X.env.locals != X.env.globals)) = false := by rw [I.ok.kind]; rfl
  have hiσ : i < σ.length := by rw [I.len]; exact (List.getElem?_eq_some_iff.mp hi).1
  have cne := I.cne
  have tracked : ∀ {a : Addr} {h' : Heap}, (∃ o, s.heap.get? a = some o ∧ H a = none) → Heap.SameBut a s.heap h' → HOk X.prog X.w H h' := fun {a h'} ha hs b ob e => by
    obtain ⟨_, _, hfree⟩ := ha
    refine (I.hok b ob e).stay (fun c w' hc q => (hs.2 c ?_).trans q) (fun _ q => q) fun _ _ q => q
    rintro rfl
    rcases hc with rfl | hc
    · rw [hfree] at e; cases e
    · rw [hfree] at hc; cases hc
  rcases hx with hk | hk
  · refine wpAny_storeName_local hk hn (fun h' hn' hs => ?_) hcls
    obtain ⟨oL, _, _, hoL, _⟩ := id hn
    refine h _ ⟨I.ok, I.os, I.bare, ⟨fun b o e n hb hx => ?_, fun b o e n hb hx => ?_, I.base.free, fun b o e hx => ?_, I.base.tups, I.base.frzs, I.base.tbls⟩, ⟨_, hn', fun j y v' e1 e2 e3 => ?_⟩, fun y c e => ?_, I.free, I.freeC, fun p hp => ?_, tracked ⟨oL, hoL, I.free⟩ hs, by simpa using I.len⟩ ⟨_, hs, .inl rfl⟩
    · exact (hs.2 b (Nat.ne_of_lt (Nat.lt_of_lt_of_le (Heap.lt_size e) I.ok.above))).trans (I.base.keep b o e n hb hx)
    · obtain ⟨sl, e1⟩ := I.base.slot b o e n hb hx
      exact ⟨sl, (hs.2 b (Nat.ne_of_lt (Nat.lt_of_lt_of_le (Heap.lt_size e) I.ok.above))).trans e1⟩
    · obtain ⟨o', e1⟩ := I.base.there b o e hx
      exact ⟨o', (hs.2 b (Nat.ne_of_lt (Nat.lt_of_lt_of_le (Heap.lt_size e) I.ok.above))).trans e1⟩
    · by_cases hj : j = i
      · subst hj
        rw [hi] at e1; cases e1
        rw [List.getElem?_set_self hiσ] at e2
        cases e2
        exact ⟨u, r, .inl ⟨hk, by simp⟩⟩
      · rw [List.getElem?_set_ne (Ne.symm hj)] at e2
        obtain ⟨u', r', q⟩ := hl j y v' e1 e2 e3
        refine ⟨u', r', ?_⟩
        rcases q with ⟨k, e⟩ | ⟨k, c, e, z⟩
        · refine .inl ⟨k, ?_⟩
          have : y ≠ x := fun e => hj (nodup_ix hN e1 (e ▸ hi))
          simp [this, e]
        · exact .inr ⟨k, c, e, z.sameBut hs (cne y c e)⟩
    · obtain ⟨w', z⟩ := I.cell y c e
      exact ⟨w', z.sameBut hs (cne y c e)⟩
    · obtain ⟨e, n, ne, nf, d⟩ := I.pin p hp
      exact ⟨(hs.2 p.1 ne).trans e, n, ne, nf, d⟩
  · have hfn : X.fn x = true := by
      rcases hf with z | z
      · exact z
      · rw [z] at hk; cases hk
    obtain ⟨c, hc⟩ := I.ok.has x (.inl hk)
    obtain ⟨w', z⟩ := I.cell x c hc
    refine wpAny_storeName_cell I.ok.kind hk hc z (fun h' hc' hs => ?_)
    obtain ⟨oc, hoc, hocd⟩ := id z
    refine h { s with heap := h' } ⟨I.ok, I.os, I.bare, ⟨fun b o e n hb hx => ?_, fun b o e n hb hx => ?_, I.base.free, fun b o e hx => ?_, I.base.tups, I.base.frzs, I.base.tbls⟩, ⟨m, hn.sameBut hs (Ne.symm (cne x c hc)), fun j y v' e1 e2 e3 => ?_⟩, fun y c' e => ?_, I.free, I.freeC, fun p hp => ?_, tracked ⟨oc, hoc, I.freeC x c hc⟩ hs, by simpa using I.len⟩ ⟨c, hs, .inr hc⟩
    · exact (hs.2 b (Nat.ne_of_lt (Nat.lt_of_lt_of_le (Heap.lt_size e) (I.ok.cab x c hfn hc)))).trans (I.base.keep b o e n hb hx)
    · obtain ⟨sl, e1⟩ := I.base.slot b o e n hb hx
      exact ⟨sl, (hs.2 b (Nat.ne_of_lt (Nat.lt_of_lt_of_le (Heap.lt_size e) (I.ok.cab x c hfn hc)))).trans e1⟩
    · obtain ⟨o', e1⟩ := I.base.there b o e hx
      exact ⟨o', (hs.2 b (Nat.ne_of_lt (Nat.lt_of_lt_of_le (Heap.lt_size e) (I.ok.cab x c hfn hc)))).trans e1⟩
    · by_cases hj : j = i
      · subst hj
        rw [hi] at e1; cases e1
        rw [List.getElem?_set_self hiσ] at e2
        cases e2
        exact ⟨u, r, .inr ⟨.inl hk, c, hc, hc'⟩⟩
      · rw [List.getElem?_set_ne (Ne.symm hj)] at e2
        obtain ⟨u', r', q⟩ := hl j y v' e1 e2 e3
        refine ⟨u', r', ?_⟩
        rcases q with q | ⟨k, c', e, z'⟩
        · exact .inl q
        · refine .inr ⟨k, c', e, z'.sameBut hs ?_⟩
          rintro rfl
          exact hj (nodup_ix hN e1 (I.ok.inj _ _ _ e hc ▸ hi))
    · by_cases hcc : c' = c
      · subst hcc; exact ⟨_, hc'⟩
      · obtain ⟨w2, z2⟩ := I.cell y c' e
        exact ⟨w2, z2.sameBut hs hcc⟩
    · obtain ⟨e, n, ne, nf, d⟩ := I.pin p hp
      refine ⟨(hs.2 p.1 ?_).trans e, n, ne, nf, d⟩
      intro q
      rw [q, hoc] at e
      have q' : oc = p.2 := Option.some.inj e
      exact d w' (by rw [← q']; exact hocd)
theorem store_ok {M : Model} {A : Around} {E : Value → Shared → Prop} {i : Nat} {x : Str} {v : V} {u : Value} {Q : Unit → Shared → Prop} (I : Inv X pins σ H s) (hN : X.N.Nodup) (hi : X.N[i]? = some x) (hx : Loc X.env.scope x) (r : RelV v u)
    (h : ∀ s', Inv X pins (σ.set i (some v)) H s' → Q () s') (hf : X.fn x = true ∨ X.env.scope.names.lookup x = some .local := by first | exact .inl rfl | exact .inr rfl | assumption) : wpAny M A (storeName X.env x u) Q E s :=
  store_ok2 I hN hi hx r (fun s' I' _ => h s' I') hf
theorem Inv.call' {s' : Shared} {ch : List Addr} (I : Inv X pins σ H s) (ho : s'.os = s.os) (u : Un (frs X.stack) ch H H' s.heap s'.heap) (hok : HOk X.prog X.w H' s'.heap) (hg : AllBare s'.gens)
    (hch : ∀ b ∈ ch, (b ∈ X.ex ∨ X.s_0.heap.objs.size ≤ b) ∧ b ≠ X.env.locals ∧ (∀ x c, X.env.cells.lookup x = some c → c ≠ b) ∧ ∀ p ∈ X.pn ++ pins, p.1 ≠ b) : Inv X pins σ H' s' := by
  obtain ⟨h', g', d', t', o'⟩ := s'
  have e : o' = s.os := ho
  subst e
  exact I.call (g' := g') (t' := t') (d' := d') u hok hg hch
end

abbrev XK := Value → Option Addr → Hp → Prop
abbrev St := List (Option V)
abbrev VK := V → Hp → Prop
abbrev TE := St → Hp → VK → Prop
abbrev TT := St → Hp → (Bool → Hp → Prop) → Prop
abbrev TA := St → Hp → (List V → Hp → Prop) → Prop
structure Ends where
  nx : St → Hp → Prop
  rt : VK
  bk : St → Hp → Prop := fun _ _ => False
  ct : St → Hp → Prop := fun _ _ => False
abbrev TS := Ends → St → Hp → Prop

def EP (X : Cx) (pins : List (Addr × Obj)) (σ : St) (Q : VK) (u : Value) (s' : Shared) : Prop := ∃ v H', Inv X pins σ H' s' ∧ RelV v u ∧ Q v H'
def TP (X : Cx) (pins : List (Addr × Obj)) (σ : St) (Q : Bool → Hp → Prop) (b : Bool) (s' : Shared) : Prop := ∃ H', Inv X pins σ H' s' ∧ Q b H'
def AP (X : Cx) (pins : List (Addr × Obj)) (σ : St) (Q : List V → Hp → Prop) (us : List Value) (s' : Shared) : Prop := ∃ vs H', Inv X pins σ H' s' ∧ Vals vs us ∧ Q vs H'
def SP (X : Cx) (pins : List (Addr × Obj)) (D : Ends) (f : Flow) (s' : Shared) : Prop :=
  match f with
  | .next => ∃ σ' H', Inv X pins σ' H' s' ∧ D.nx σ' H'
  | .brk => ∃ σ' H', Inv X pins σ' H' s' ∧ D.bk σ' H'
  | .cont => ∃ σ' H', Inv X pins σ' H' s' ∧ D.ct σ' H'
  | .ret u => ∃ v σ' H', Inv X pins σ' H' s' ∧ RelV v u ∧ D.rt v H'

def PE (X : Cx) (e : Expr) (t : TE) : Prop :=
  ∀ (pins : List (Addr × Obj)) (s : Shared) (σ : St) (H : Hp) (Q : VK), Inv X pins σ H s → t σ H Q → wpAny (model X.prog X.w) X.A (eval e X.env) (EP X pins σ Q) X.xe s
def PT (X : Cx) (e : Expr) (t : TT) : Prop :=
  ∀ (pins : List (Addr × Obj)) (s : Shared) (σ : St) (H : Hp) (Q : Bool → Hp → Prop), Inv X pins σ H s → t σ H Q → wpAny (model X.prog X.w) X.A (isTrue e X.env (eval e X.env)) (TP X pins σ Q) X.xe s
def PW (X : Cx) (e : Expr) (t : TT) : Prop :=
  ∀ (whole : Sem Value) (pins : List (Addr × Obj)) (s : Shared) (σ : St) (H : Hp) (Q : Bool → Hp → Prop), Inv X pins σ H s → t σ H Q → wpAny (model X.prog X.w) X.A (isTrue e X.env whole) (TP X pins σ Q) X.xe s
theorem PW.pt {X : Cx} {e : Expr} {t : TT} (h : PW X e t) : PT X e t := h _
def PA (X : Cx) (es : List Expr) (t : TA) : Prop :=
  ∀ (pos : Pos) (pins : List (Addr × Obj)) (s : Shared) (σ : St) (H : Hp) (Q : List V → Hp → Prop), Inv X pins σ H s → t σ H Q → wpAny (model X.prog X.w) X.A (spliced (backTo pos (starEach es X.env))) (AP X pins σ Q) X.xe s
def PS (X : Cx) (st : Stmt) (t : TS) : Prop :=
  ∀ (pins : List (Addr × Obj)) (s : Shared) (σ : St) (H : Hp) (D : Ends), Inv X pins σ H s → t D σ H → wpAny (model X.prog X.w) X.A (exec st X.env) (SP X pins D) X.xe s
def PSs (X : Cx) (st : List Stmt) (t : TS) : Prop :=
  ∀ (pins : List (Addr × Obj)) (s : Shared) (σ : St) (H : Hp) (D : Ends), Inv X pins σ H s → t D σ H → wpAny (model X.prog X.w) X.A (execs st X.env) (SP X pins D) X.xe s
theorem thn {α : Type} {t : Sem α} {Q Q' : α → Shared → Prop} {M : Model} {A : Around} {E : Value → Shared → Prop} {s : Shared} (h : wpAny M A t Q E s) (hQ : ∀ a s, Q a s → Q' a s) : wpAny M A t Q' E s := wpAny_mono h hQ fun _ _ x => x
end L2

namespace L2
open PySem PySem.Spec PyProof.Rows
section
variable {X : Cx}

def tVar (i : Nat) : TE := fun σ H Q => ∃ v, σ[i]? = some (some v) ∧ Q v H
def tC (v : V) : TE := fun _ H Q => Q v H
theorem pe_var {i : Nat} {x : Str} {pos : Pos} (hN : X.N[i]? = some x) (hv : Vis X.env.scope x) (hd : (x == ("__debug__" : Str)) = false := by decide) (hcd : (x == ("__classdict__" : Str)) = false := by decide) : PE X (.Name x pos) (tVar i) := by
  intro pins s σ H Q I h
  obtain ⟨v, e, h⟩ := h
  obtain ⟨m, hn, hl⟩ := I.loc
  obtain ⟨u, r, l⟩ := hl i x v hN e hv
  have fin : EP X pins σ Q u s := ⟨v, H, I, r, h⟩
  rcases l with ⟨hk, hm⟩ | ⟨hk, c, hc, hcell⟩
  · exact wpAny_Name (wpAny_loadName_local I.ok.kind hk hn hm fin) hd
  · rcases hk with hk | hk
    · exact wpAny_Name (wpAny_loadName_cell I.ok.kind hk hc hcell fin) hd
    · exact wpAny_Name (wpAny_loadName_free I.ok.kind hk hc hcell fin hcd) hd
theorem pe_int {i j pos} : PE X (.Constant (.int i) j pos) (tC (.int i)) := fun _ _ _ H _ I h => wpAny_Constant_int ⟨.int i, H, I.tok _, ⟨_, rfl⟩, h⟩
theorem pe_non {j pos} : PE X (.Constant .none j pos) (tC .non) := fun _ _ _ H _ I h => Constant_none ⟨.non, H, I, rfl, h⟩
def Gl (X : Cx) (x : Str) : Prop := X.env.kindOf x = some .globalImplicit
theorem ld_glob {E : Value → Shared → Prop} {pins : List (Addr × Obj)} {s : Shared} {σ : St} {H : Hp} {x : Str} {u : Value} {pos : Pos} {Q : Value → Shared → Prop} (I : Inv X pins σ H s) (hg : Gl X x) (hm : X.mg x = some u) (h : Q u s)
    (hd : (x == ("__debug__" : Str)) = false := by decide) : wpAny (model X.prog X.w) X.A (eval (.Name x pos) X.env) Q E s :=
  Calls.Name_function_global I.ok.kind hg (Calls.loadGlobal_global (by rw [I.ok.glob]; exact I.mod.glob.keeps I.bk) hm h) hd
theorem ld_blt {E : Value → Shared → Prop} {pins : List (Addr × Obj)} {s : Shared} {σ : St} {H : Hp} {x : Str} {u : Value} {pos : Pos} {Q : Value → Shared → Prop} (I : Inv X pins σ H s) (hg : Gl X x) (hm : X.mg x = none) (hv : bootBuiltins x = some u) (h : Q u s)
    (hn : x ≠ "__name__" := by decide) (hd : (x == ("__debug__" : Str)) = false := by decide) : wpAny (model X.prog X.w) X.A (eval (.Name x pos) X.env) Q E s := by
  obtain ⟨mb, h1, h2⟩ := I.mod.blt
  exact Calls.Name_function_global I.ok.kind hg (Calls.loadGlobal_builtin (by rw [I.ok.glob]; exact I.mod.glob.keeps I.bk) hm (by rw [I.ok.blt]; exact h1.keeps I.bk) ((h2 x hn).trans hv) h) hd
theorem pe_glob {x : Str} {v : V} {u : Value} {pos : Pos} (hg : Gl X x) (hm : X.mg x = some u) (r : RelV v u) (hd : (x == ("__debug__" : Str)) = false := by decide) : PE X (.Name x pos) (tC v) :=
  fun _ _ _ H _ I h => ld_glob I hg hm ⟨v, H, I, r, h⟩ hd
variable {a b : Expr} {ta tb : TE} {pos : Pos}
def PC (X : Cx) (op : CmpOp) (a b : Expr) (t : TE) : Prop :=
  ∀ (pins : List (Addr × Obj)) (s : Shared) (σ : St) (H : Hp) (Q : VK), Inv X pins σ H s → t σ H Q →
    wpAny (model X.prog X.w) X.A (eval a X.env) (fun v s₁ => wpAny (model X.prog X.w) X.A (eval b X.env) (fun u s₂ => wpAny (model X.prog X.w) X.A (compareOp op v u) (EP X pins σ Q) X.xe s₂) X.xe s₁) X.xe s
theorem nobehind (b : Expr) {op : CmpOp} (h : op ≠ .In) (h2 : op ≠ .NotIn) : behindInMarks op b = false := by
  have e1 : (op == CmpOp.In) = false := by cases op <;> first | rfl | exact absurd rfl h
  have e2 : (op == CmpOp.NotIn) = false := by cases op <;> first | rfl | exact absurd rfl h2
  cases b <;> simp [behindInMarks, e1, e2]
def tIsN (ta : TE) : TE := fun σ H Q => ta σ H fun x H1 => Q (.bl (decide (x = .non))) H1
theorem RelV.none_iff {x : V} {v : Value} (r : RelV x v) : (v == Value.none) = decide (x = .non) := by
  cases x with
  | non => cases r; rfl
  | bl _ => cases r; rfl
  | int _ => obtain ⟨t, rfl⟩ := r; rfl
  | str _ => obtain ⟨t, rfl⟩ := r; rfl
  | byt _ => obtain ⟨t, rfl⟩ := r; rfl
  | flt _ => obtain ⟨t, rfl⟩ := r; rfl
  | ref _ => cases r; rfl
  | ty _ => cases r; rfl
theorem pc_isN {j pos'} (ha : PE X a ta) : PC X .Is a (.Constant .none j pos') (tIsN ta) := by
  intro pins s σ H Q I h
  refine thn (ha pins s σ H _ I h) fun v s1 ⟨x, H1, I1, r1, q1⟩ => ?_
  exact Constant_none (is_none_gen ⟨.bl _, H1, I1, by rw [r1.none_iff]; rfl, q1⟩)
def tB (t : TE) : TT := fun σ H Q => t σ H fun x H1 => ∃ c, x = .bl c ∧ Q c H1
theorem pt_cmp {op : CmpOp} {t : TE} (h : PC X op a b t) (h1 : behindInMarks op b = false := by first | exact nobehind _ (by decide) (by decide) | rfl) : PT X (.Compare a [op] [b] pos) (tB t) := by
  intro pins s σ H Q I hw
  refine wpAny_isTrue_Compare1 (thn (h pins s σ H _ I hw) fun v s1 h1 => thn h1 fun u s2 h2 => thn h2 fun c s3 ⟨x, H1, I1, r1, q1⟩ => ?_) h1
  obtain ⟨d, rfl, q⟩ := q1
  cases r1
  exact wpAny_truthy_bool ⟨H1, I1, q⟩
theorem pt_val {e : Expr} {t : TE} (h : PE X e t) (he : ∀ whole, isTrue e X.env whole = (do let v ← whole; standAt e.pos; holding [v] (truthy v)) := by intro _; rfl) : PT X e (tB t) := by
  intro pins s σ H Q I hw
  refine isTrue_plain (thn (h pins s σ H _ I hw) fun v s1 ⟨x, H1, I1, r1, q1⟩ => ?_) (he _)
  obtain ⟨d, rfl, q⟩ := q1
  cases r1
  exact wpAny_truthy_bool ⟨H1, I1, q⟩

variable {tA tB' : TT} {rest : List Expr}
def tAnd (t u : TT) : TT := fun σ H Q => t σ H fun c H1 => if c = true then u σ H1 Q else Q false H1
def tOr (t u : TT) : TT := fun σ H Q => t σ H fun c H1 => if c = true then Q true H1 else u σ H1 Q
theorem pw_and1 (ha : PT X a tA) : PW X (.BoolOp .And [a] pos) tA := by
  intro wh pins s σ H Q I h
  refine isTrue_and (thn (ha pins s σ H Q I h) fun c s1 e => ?_)
  cases c with
  | true => exact isTrue_and_nil e
  | false => exact e
theorem pw_or1 (ha : PT X a tA) : PW X (.BoolOp .Or [a] pos) tA := by
  intro wh pins s σ H Q I h
  refine isTrue_or (thn (ha pins s σ H Q I h) fun c s1 e => ?_)
  cases c with
  | false => exact isTrue_or_nil e
  | true => exact e
theorem pw_and (ha : PT X a tA) (hb : PW X (.BoolOp .And (b :: rest) pos) tB') : PW X (.BoolOp .And (a :: b :: rest) pos) (tAnd tA tB') := by
  intro wh pins s σ H Q I h
  refine isTrue_and (thn (ha pins s σ H _ I h) fun c s1 ⟨H1, I1, q1⟩ => ?_)
  cases c with
  | true => exact hb wh pins s1 σ H1 Q I1 q1
  | false => exact ⟨H1, I1, q1⟩
theorem pw_or (ha : PT X a tA) (hb : PW X (.BoolOp .Or (b :: rest) pos) tB') : PW X (.BoolOp .Or (a :: b :: rest) pos) (tOr tA tB') := by
  intro wh pins s σ H Q I h
  refine isTrue_or (thn (ha pins s σ H _ I h) fun c s1 ⟨H1, I1, q1⟩ => ?_)
  cases c with
  | true => exact ⟨H1, I1, q1⟩
  | false => exact hb wh pins s1 σ H1 Q I1 q1
def tIf (t : TT) (ta tb : TE) : TE := fun σ H Q => t σ H fun c H1 => if c = true then ta σ H1 Q else tb σ H1 Q
theorem pe_ifExp {c : Expr} (hc : PT X c tA) (ha : PE X a ta) (hb : PE X b tb) : PE X (.IfExp c a b pos) (tIf tA ta tb) := by
  intro pins s σ H Q I h
  refine wpAny_IfExp (thn (hc pins s σ H _ I h) fun d s1 ⟨H1, I1, q1⟩ => ?_)
  cases d with
  | true => exact ha pins s1 σ H1 Q I1 q1
  | false => exact hb pins s1 σ H1 Q I1 q1
end
end L2

namespace L2
open PySem PySem.Spec PyProof.Rows

def SqL (K : PySem.W.Frag) (H : Hp) (a : Addr) (xs : List V) : Prop :=
  Rd H a (.lst xs) ∨
    ∃ (o : Obj) (its : Array Value) (n : Nat), K.lookup a = some o ∧ o.cls = .type "list" ∧ o.dict = none ∧ o.data = .seq its n ∧ its.size ≤ sizeLine ∧ Vals xs its.toList
def SqT (K : PySem.W.Frag) (H : Hp) (a : Addr) (xs : List V) : Prop :=
  Rd H a (.tup xs) ∨
    ∃ (o : Obj) (its : Array Value) (n : Nat), K.lookup a = some o ∧ o.cls = .type "tuple" ∧ o.data = .seq its n ∧ its.size ≤ sizeLine ∧ Vals xs its.toList
def absV : Value → Option V
  | .none => some .non
  | .bool b => some (.bl b)
  | .int i _ => some (.int i)
  | .str x _ => some (.str x)
  | .bytes b _ => some (.byt b)
  | .float b _ => some (.flt b)
  | .ref a => some (.ref a)
  | .type n => some (.ty n)
  | _ => none
theorem RelV.abs {x : V} {u : Value} (r : RelV x u) : absV u = some x := by
  cases x with
  | non => cases r; rfl
  | bl _ => cases r; rfl
  | int _ => obtain ⟨t, rfl⟩ := r; rfl
  | str _ => obtain ⟨t, rfl⟩ := r; rfl
  | byt _ => obtain ⟨t, rfl⟩ := r; rfl
  | flt _ => obtain ⟨t, rfl⟩ := r; rfl
  | ref _ => cases r; rfl
  | ty _ => cases r; rfl
theorem RelV.inj {x y : V} {u : Value} (r : RelV x u) (q : RelV y u) : x = y := Option.some.inj (r.abs.symm.trans q.abs)
theorem Vals.inj : ∀ {xs ys : List V} {us : List Value}, Vals xs us → Vals ys us → xs = ys
  | _, _, _, .nil, .nil => rfl
  | _, _, _, .cons r t, .cons r' t' => by rw [r.inj r', Vals.inj t t']
section
variable {X : Cx} {pins : List (Addr × Obj)} {σ : St} {H : Hp} {s : Shared} {a : Addr} {xs ys : List V}
theorem SqL.of {K : PySem.W.Frag} (h : H a = some (.lst xs)) : SqL K H a xs := .inl (.inl h)
theorem SqT.of {K : PySem.W.Frag} (h : H a = some (.tup xs)) : SqT K H a xs := .inl (.inl h)
theorem Inv.list (I : Inv X pins σ H s) (h : SqL X.K H a xs) : ∃ its : List Value, Vals xs its ∧ PlainL s.heap a its.toArray ∧ xs.length ≤ sizeLine := by
  rcases h with h | ⟨o, its, n, hk, hc, hd, hs, hz, r⟩
  · obtain ⟨z, its, n, r, e⟩ := h.ok I.hok
    exact ⟨its, r, ⟨_, n, e, rfl, rfl, rfl⟩, z⟩
  · refine ⟨its.toList, r, ⟨o, n, I.kIn a o hk, hc, hd, by simpa using hs⟩, ?_⟩
    have e := r.length
    simp only [Array.length_toList] at e
    omega
theorem Inv.tuple (I : Inv X pins σ H s) (h : SqT X.K H a xs) : ∃ its : List Value, Vals xs its ∧ IsTup s.heap a its.toArray ∧ xs.length ≤ sizeLine := by
  rcases h with h | ⟨o, its, n, hk, hc, hs, hz, r⟩
  · obtain ⟨z, its, r, p⟩ := h.ok I.hok
    exact ⟨its, r, p, z⟩
  · refine ⟨its.toList, r, ⟨o, I.kIn a o hk, hc, n, by simpa using hs⟩, ?_⟩
    have e := r.length
    simp only [Array.length_toList] at e
    omega
theorem Inv.list_inj (I : Inv X pins σ H s) (h : SqL X.K H a xs) (h' : SqL X.K H a ys) : xs = ys := by
  obtain ⟨its, r, ⟨o, n, e, _, _, d⟩, _⟩ := I.list h
  obtain ⟨its', r', ⟨o', n', e', _, _, d'⟩, _⟩ := I.list h'
  rw [e] at e'; cases e'
  rw [d] at d'
  injection d' with d1 _
  have : its = its' := by simpa using congrArg Array.toList d1
  subst this
  exact r.inj r'
end

abbrev Cx.wish (X : Cx) (E : Value → Shared → Prop) : Cx := { X with xe := E }
abbrev Cx.nox (X : Cx) : Cx := X.wish fun _ _ => False
theorem Cx.Ok.wish {X : Cx} (ok : X.Ok) (E : Value → Shared → Prop) : (X.wish E).Ok :=
  ⟨ok.mod, ok.kind, ok.glob, ok.blt, ok.above, ok.inj, ok.has, ok.cab, ok.hd, ok.frames, ok.stk, ok.exf, ok.bs, ok.bsz, ok.noex, ok.exfs, ok.funs, ok.frf⟩
theorem Cx.Ok.unwish {X : Cx} {E : Value → Shared → Prop} (ok : (X.wish E).Ok) : X.Ok :=
  ⟨ok.mod, ok.kind, ok.glob, ok.blt, ok.above, ok.inj, ok.has, ok.cab, ok.hd, ok.frames, ok.stk, ok.exf, ok.bs, ok.bsz, ok.noex, ok.exfs, ok.funs, ok.frf⟩
section
variable {X : Cx} {pins : List (Addr × Obj)} {σ : St} {H : Hp} {s : Shared} {E : Value → Shared → Prop}
theorem Inv.wish (I : Inv X pins σ H s) (E : Value → Shared → Prop) : Inv (X.wish E) pins σ H s := ⟨I.ok.wish E, I.os, I.bare, I.base, I.loc, I.cell, I.free, I.freeC, I.pin, I.hok, I.len⟩
theorem Inv.unwish (I : Inv (X.wish E) pins σ H s) : Inv X pins σ H s := ⟨I.ok.unwish, I.os, I.bare, I.base, I.loc, I.cell, I.free, I.freeC, I.pin, I.hok, I.len⟩
theorem SP.unwish {D : Ends} {f : Flow} {s' : Shared} (h : SP (X.wish E) pins D f s') : SP X pins D f s' := by
  cases f with
  | next => obtain ⟨σ', H', I, q⟩ := h; exact ⟨σ', H', I.unwish, q⟩
  | brk => obtain ⟨σ', H', I, q⟩ := h; exact ⟨σ', H', I.unwish, q⟩
  | cont => obtain ⟨σ', H', I, q⟩ := h; exact ⟨σ', H', I.unwish, q⟩
  | ret u => obtain ⟨v, σ', H', I, r, q⟩ := h; exact ⟨v, σ', H', I.unwish, r, q⟩
theorem PE.nox {e : Expr} {t : TE} (h : PE X.nox e t) : PE X e t := fun pins s σ H Q I hw =>
  wpAny_mono (h pins s σ H Q (I.wish _) hw) (fun _ _ ⟨v, H', I', r, q⟩ => ⟨v, H', I'.unwish, r, q⟩) fun _ _ z => False.elim z
theorem PT.nox {e : Expr} {t : TT} (h : PT X.nox e t) : PT X e t := fun pins s σ H Q I hw =>
  wpAny_mono (h pins s σ H Q (I.wish _) hw) (fun _ _ ⟨H', I', q⟩ => ⟨H', I'.unwish, q⟩) fun _ _ z => False.elim z
theorem PSs.nox {st : List Stmt} {t : TS} (h : PSs X.nox st t) : PSs X st t := fun pins s σ H D I hw =>
  wpAny_mono (h pins s σ H D (I.wish _) hw) (fun _ _ q => q.unwish) fun _ _ z => False.elim z
end

section
variable {X : Cx} {st : Stmt} {rest : List Stmt} {t u : TS} {e : Expr} {te : TE} {pos : Pos}
def tNext : TS := fun D σ H => D.nx σ H
def tSeq (t u : TS) : TS := fun D σ H => t { D with nx := u D } σ H
theorem pss_nil : PSs X [] tNext := fun _ _ σ H _ I h => wpAny_execs_nil ⟨σ, H, I, h⟩
theorem pss_cons (h1 : PS X st t) (h2 : PSs X rest u) : PSs X (st :: rest) (tSeq t u) := by
  intro pins s σ H D I h
  refine wpAny_execs_cons (thn (h1 pins s σ H { D with nx := u D } I h) fun f s1 q => ?_)
  cases f with
  | next =>
    obtain ⟨σ', H', I', q⟩ := q
    exact h2 pins s1 σ' H' D I' q
  | ret v => exact q
  | brk => exact q
  | cont => exact q
theorem pss_one (h1 : PS X st t) : PSs X [st] t := by
  intro pins s σ H D I h
  refine wpAny_execs_cons (thn (h1 pins s σ H D I h) fun f s1 q => ?_)
  cases f with
  | next => exact wpAny_execs_nil q
  | ret v => exact q
  | brk => exact q
  | cont => exact q
theorem Inv.quiet {pins : List (Addr × Obj)} {σ : St} {H : Hp} {s : Shared} (I : Inv X pins σ H s) : interactive X.env = false := by simp [interactive, I.ok.kind]
def tDrop (te : TE) : TS := fun D σ H => te σ H fun _ H1 => D.nx σ H1
theorem ps_expr (he : PE X e te) (hs : swapsWith e none pos.line X.env = pure false := by rfl) : PS X (.Expr e pos) (tDrop te) := by
  intro pins s σ H D I h
  exact wpAny_Expr_any (thn (he pins s σ H _ I h) fun v s1 ⟨x, H1, I1, r1, q1⟩ => ⟨σ, H1, I1, q1⟩) I.quiet hs
def tRet (te : TE) : TS := fun D σ H => te σ H D.rt
theorem ps_ret (he : PE X e te) : PS X (.Return (some e) pos) (tRet te) := by
  intro pins s σ H D I h
  exact wpAny_Return_some (thn (he pins s σ H _ I h) fun v s1 ⟨x, H1, I1, r1, q1⟩ => ⟨x, σ, H1, I1, r1, q1⟩)
def tIfS (c : TT) (t u : TS) : TS := fun D σ H => c σ H fun b H1 => if b = true then t D σ H1 else u D σ H1
theorem ps_if {c : Expr} {a b : List Stmt} {tc : TT} (hc : PT X c tc) (ha : PSs X a t) (hb : PSs X b u) : PS X (.If c a b pos) (tIfS tc t u) := by
  intro pins s σ H D I h
  refine wpAny_If (thn (hc pins s σ H _ I h) fun d s1 ⟨H1, I1, q1⟩ => ?_)
  cases d with
  | true => exact ha pins s1 σ H1 D I1 q1
  | false => exact hb pins s1 σ H1 D I1 q1
end

abbrev TG := V → St → Hp → (St → Hp → Prop) → Prop
abbrev TGs := List V → St → Hp → (St → Hp → Prop) → Prop
def PG (X : Cx) (target : Expr) (t : TG) : Prop :=
  ∀ (pins : List (Addr × Obj)) (s : Shared) (σ : St) (H : Hp) (v : V) (u : Value) (Q : St → Hp → Prop), Inv X pins σ H s → RelV v u → t v σ H Q →
    wpAny (model X.prog X.w) X.A (assign target X.env u) (fun _ s' => ∃ σ' H', Inv X pins σ' H' s' ∧ Q σ' H') X.xe s
def PGs (X : Cx) (ts : List Expr) (t : TGs) : Prop :=
  ∀ (pins : List (Addr × Obj)) (s : Shared) (σ : St) (H : Hp) (vs : List V) (us : List Value) (Q : St → Hp → Prop), Inv X pins σ H s → Vals vs us → t vs σ H Q →
    wpAny (model X.prog X.w) X.A (assignInOrder ((assignEach ts X.env).map (·.2)) us) (fun _ s' => ∃ σ' H', Inv X pins σ' H' s' ∧ Q σ' H') X.xe s
abbrev TSet := V → V → V → Hp → (Hp → Prop) → Prop
def PSet (X : Cx) (t : TSet) : Prop :=
  ∀ (pins : List (Addr × Obj)) (s : Shared) (σ : St) (H : Hp) (o i v : V) (ov iv u : Value) (Q : Hp → Prop), Inv X pins σ H s → RelV o ov → RelV i iv → RelV v u → t o i v H Q →
    wpAny (model X.prog X.w) X.A (setItem ov iv u) (fun _ s' => ∃ H', Inv X pins σ H' s' ∧ Q H') X.xe s
abbrev TIp := V → V → Hp → VK → Prop
def PIp (X : Cx) (op : Operator) (t : TIp) : Prop :=
  ∀ (pins : List (Addr × Obj)) (s : Shared) (σ : St) (H : Hp) (x y : V) (v u : Value) (Q : VK), Inv X pins σ H s → RelV x v → RelV y u → t x y H Q →
    wpAny (model X.prog X.w) X.A (inplaceOp op v u) (EP X pins σ Q) X.xe s
section
variable {X : Cx} {pos : Pos}
def gName (i : Nat) : TG := fun v σ H Q => Q (σ.set i (some v)) H
theorem pg_name {i : Nat} {x : Str} (hN : X.N.Nodup) (hi : X.N[i]? = some x) (hx : Loc X.env.scope x) (hf : X.fn x = true ∨ X.env.scope.names.lookup x = some .local := by first | exact .inl rfl | exact .inr rfl | assumption) : PG X (.Name x pos) (gName i) := by
  intro pins s σ H v u Q I r h
  exact wpAny_assign_Name (store_ok I hN hi hx r (fun s' I' => ⟨_, H, I', h⟩) hf)
def gNil : TGs := fun vs σ H Q => vs = [] ∧ Q σ H
def gCons (t : TG) (u : TGs) : TGs := fun vs σ H Q => ∃ v r, vs = v :: r ∧ t v σ H fun σ' H' => u r σ' H' Q
theorem pgs_nil : PGs X [] gNil := by
  intro pins s σ H vs us Q I r h
  obtain ⟨e, h⟩ := h
  subst e
  cases r
  exact assignInOrder_nil ⟨σ, H, I, h⟩
theorem pgs_cons {e : Expr} {es : List Expr} {t : TG} {u : TGs} (h1 : PG X e t) (h2 : PGs X es u)
    (hs : (assignEach (e :: es) X.env).map (·.2) = assign e X.env :: (assignEach es X.env).map (·.2) := by rfl) : PGs X (e :: es) (gCons t u) := by
  intro pins s σ H vs us Q I r h
  obtain ⟨v, vr, e1, h⟩ := h
  subst e1
  cases r with
  | cons r rr =>
    rw [hs]
    refine assignInOrder_cons (thn (h1 pins s σ H _ _ _ I r h) fun _ s1 ⟨σ1, H1, I1, q1⟩ => ?_)
    exact h2 pins s1 σ1 H1 _ _ Q I1 rr q1
def gTup (K : PySem.W.Frag) (n : Nat) (t : TGs) : TG := fun v σ H Q => ∃ a xs, v = .ref a ∧ SqT K H a xs ∧ xs.length = n ∧ t xs σ H Q
theorem pg_tup {es : List Expr} {k : Nat} {t : TGs} {n : Nat} (hc : X.calm = true) (h : PGs X es t)
    (hn : (assignEach es X.env).length = n := by rfl) (hst : (assignEach es X.env).findIdx? (·.1) = none := by rfl) : PG X (.Tuple es k pos) (gTup X.K n t) := by
  intro pins s σ H v u Q I r hw
  obtain ⟨a, xs, e1, hq, hl, hw⟩ := hw
  subst e1
  cases r
  obtain ⟨its, rv, ht, hz⟩ := I.tuple hq
  refine assign_Tuple_tuple (I.ok.hd hc) ht (by simp [hn, ← hl, rv.length]) hst fun h' hx => ?_
  have I1 : Inv X pins σ H { s with heap := h' } := I.kept (t' := s.toks) fun b o e => hx b o (Nat.ne_of_lt (Heap.lt_size e)) e
  exact h pins _ σ H xs _ Q I1 (by simpa using rv) hw
def tAsg (te : TE) (g : TG) : TS := fun D σ H => te σ H fun x H1 => g x σ H1 D.nx
theorem ps_set {i : Nat} {x : Str} {e : Expr} {te : TE} {pos' : Pos} (hN : X.N.Nodup) (hi : X.N[i]? = some x) (hx : Loc X.env.scope x) (he : PE X e te) (hs : swapsWith e (some (.Name x pos')) pos.line X.env = pure false := by rfl) (hf : X.fn x = true ∨ X.env.scope.names.lookup x = some .local := by first | exact .inl rfl | exact .inr rfl | assumption) :
    PS X (.Assign [.Name x pos'] e pos) (tAsg te (gName i)) := by
  intro pins s σ H D I h
  refine wpAny_Assign_Name (thn (he pins s σ H _ I h) fun v s1 ⟨y, H1, I1, r1, q1⟩ => ?_) hs
  exact store_ok I1 hN hi hx r1 (fun s2 I2 => ⟨_, H1, I2, q1⟩) hf
def tAug (i : Nat) (te : TE) (ti : TIp) : TS := fun D σ H => ∃ x, σ[i]? = some (some x) ∧ te σ H fun y H1 => ti x y H1 fun z H2 => D.nx (σ.set i (some z)) H2
theorem ps_aug {i : Nat} {x : Str} {e : Expr} {te : TE} {op : Operator} {ti : TIp} {pos' : Pos} (hN : X.N.Nodup) (hi : X.N[i]? = some x) (hx : Loc X.env.scope x) (he : PE X e te) (ho : PIp X op ti) (hf : X.fn x = true ∨ X.env.scope.names.lookup x = some .local := by first | exact .inl rfl | exact .inr rfl | assumption) :
    PS X (.AugAssign (.Name x pos') op e pos) (tAug i te ti) := by
  intro pins s σ H D I h
  obtain ⟨v, e1, h⟩ := h
  obtain ⟨m, hn, hl⟩ := I.loc
  have vis : Vis X.env.scope x := by rcases hx with k | k; exact .inl k; exact .inr (.inl k)
  obtain ⟨u, r, l⟩ := hl i x v hi e1 vis
  refine wpAny_AugAssign_Name ?_
  have go : wpAny (model X.prog X.w) X.A (eval e X.env) (fun w s₂ => wpAny (model X.prog X.w) X.A (inplaceOp op u w) (fun r s₃ => wpAny (model X.prog X.w) X.A (storeName X.env x r) (fun _ => SP X pins D .next) X.xe s₃) X.xe s₂) X.xe s := by
    refine thn (he pins s σ H _ I h) fun w s1 ⟨y, H1, I1, r1, q1⟩ => ?_
    refine thn (ho pins s1 σ H1 v y u w _ I1 r r1 q1) fun z s2 ⟨zv, H2, I2, r2, q2⟩ => ?_
    exact store_ok I2 hN hi hx r2 (fun s3 I3 => ⟨_, H2, I3, q2⟩) hf
  rcases l with ⟨hk, hm⟩ | ⟨hk, c, hc, hcell⟩
  · exact wpAny_loadName_local I.ok.kind hk hn hm go
  · rcases hk with hk | hk
    · exact wpAny_loadName_cell I.ok.kind hk hc hcell go
    · rcases hx with k | k
      · have : X.env.scope.names.lookup x = some .free := hk
        rw [k] at this; cases this
      · have : X.env.scope.names.lookup x = some .free := hk
        rw [k] at this; cases this
def tAugS (to ti te : TE) (tget : V → V → Hp → VK → Prop) (tip : TIp) (tset : TSet) : TS := fun D σ H => to σ H fun o H1 => ti σ H1 fun i H2 => tget o i H2 fun x H3 => te σ H3 fun y H4 => tip x y H4 fun z H5 => tset o i z H5 fun H6 => D.nx σ H6
def PGet (X : Cx) (t : V → V → Hp → VK → Prop) : Prop :=
  ∀ (pins : List (Addr × Obj)) (s : Shared) (σ : St) (H : Hp) (o i : V) (ov iv : Value) (Q : VK), Inv X pins σ H s → RelV o ov → RelV i iv → t o i H Q →
    wpAny (model X.prog X.w) X.A (getItem ov iv) (EP X pins σ Q) X.xe s
theorem ps_augS {o i e : Expr} {to ti te : TE} {tget : V → V → Hp → VK → Prop} {tip : TIp} {tset : TSet} {op : Operator} {tpos : Pos} (ho : PE X o to) (hi : PE X i ti) (hg : PGet X tget) (he : PE X e te) (hp : PIp X op tip) (hs : PSet X tset)
    (ha : ∀ ov iv new, augStore i ov iv new = (do holding [new, ov, iv] (setItem ov iv new); release [new, ov, iv] []; pure .next) := by intros; rfl) : PS X (.AugAssign (.Subscript o i tpos) op e pos) (tAugS to ti te tget tip tset) := by
  intro pins s σ H D I h
  refine wpAny_AugAssign_SubscriptAny (thn (ho pins s σ H _ I h) fun ov s1 ⟨x1, H1, I1, r1, q1⟩ => ?_) ha
  refine thn (hi pins s1 σ H1 _ I1 q1) fun iv s2 ⟨x2, H2, I2, r2, q2⟩ => ?_
  refine thn (hg pins s2 σ H2 x1 x2 ov iv _ I2 r1 r2 q2) fun old s3 ⟨x3, H3, I3, r3, q3⟩ => ?_
  refine thn (he pins s3 σ H3 _ I3 q3) fun v s4 ⟨x4, H4, I4, r4, q4⟩ => ?_
  refine thn (hp pins s4 σ H4 x3 x4 old v _ I4 r3 r4 q4) fun new s5 ⟨x5, H5, I5, r5, q5⟩ => ?_
  exact thn (hs pins s5 σ H5 x1 x2 x5 ov iv new _ I5 r1 r2 r5 q5) fun _ s6 ⟨H6, I6, q6⟩ => ⟨σ, H6, I6, q6⟩
end

section
variable {X : Cx} {pos : Pos}
def tWhile (c : TT) (tb : TS) : TS := fun D σ H => ∃ W : Nat → St → Hp → Prop, (∃ m, W m σ H) ∧ ∀ m σ H, W m σ H →
  c σ H fun b H1 => if b = true then ∃ N : St → Hp → Prop, (∀ σ' H', N σ' H' → ∃ m', m' < m ∧ W m' σ' H') ∧ tb { D with nx := N, ct := N, bk := D.nx } σ H1 else D.nx σ H1
theorem ps_while {c : Expr} {body : List Stmt} {tc : TT} {tb : TS} (hp : PassesOwn (model X.prog X.w) X.A X.env X.xe) (hc : PT X c tc) (hb : PSs X body tb) : PS X (.While c body [] pos) (tWhile tc tb) := by
  intro pins s σ H D I h
  obtain ⟨W, ⟨m0, w0⟩, turn⟩ := h
  refine wpAny_While (codeAny_whileLoop (fun n s' => ∃ σ' H', Inv X pins σ' H' s' ∧ W n σ' H') ?_ m0 ⟨σ, H, I, w0⟩)
  rintro n s1 ⟨σ1, H1, I1, w1⟩
  refine wpAny_passesOwn hp (thn (hc pins s1 σ1 H1 _ I1 (turn n σ1 H1 w1)) fun b s2 ⟨H2, I2, q2⟩ => ?_)
  cases b with
  | true =>
    obtain ⟨N, hN, q2⟩ := q2
    rw [if_pos rfl]
    refine wpAny_passesOwn hp (thn (hb pins s2 σ1 H2 _ I2 q2) fun f s3 q3 => ?_)
    cases f with
    | next =>
      obtain ⟨σ3, H3, I3, n3⟩ := q3
      obtain ⟨m', hm, w3⟩ := hN σ3 H3 n3
      exact ⟨m', hm, σ3, H3, I3, w3⟩
    | cont =>
      obtain ⟨σ3, H3, I3, n3⟩ := q3
      obtain ⟨m', hm, w3⟩ := hN σ3 H3 n3
      exact ⟨m', hm, σ3, H3, I3, w3⟩
    | brk => exact q3
    | ret v => exact q3
  | false =>
    rw [if_neg Bool.false_ne_true]
    exact wpAny_execs_nil ⟨σ1, H2, I2, q2⟩
end

structure It where
  go : Nat → Hp → Prop
  yld : Nat → Hp → V → Hp → Prop
  stop : Nat → Hp → Prop
def FpOk (X : Cx) (pins : List (Addr × Obj)) (H : Hp) (b : Addr) : Prop :=
  H b = none ∧ b ≠ X.env.locals ∧ b ∉ X.fs ∧ (b ∈ X.ex ∨ X.s_0.heap.objs.size ≤ b) ∧ (∀ x c, X.env.cells.lookup x = some c → c ≠ b) ∧ ∀ p ∈ X.pn ++ pins, p.1 ≠ b
theorem Inv.fpOk {X : Cx} {pins : List (Addr × Obj)} {σ : St} {H H' : Hp} {s : Shared} {b : Addr} (I : Inv X pins σ H s) (hb : s.heap.objs.size ≤ b) (hn : H' b = none) : FpOk X pins H' b := by
  refine ⟨hn, Nat.ne_of_gt (Nat.lt_of_lt_of_le I.lt hb), I.nofs hb, .inr (Nat.le_trans I.sz hb), fun x c e z => ?_, fun p hp z => ?_⟩
  · obtain ⟨v, q⟩ := I.cell x c e
    exact absurd (Nat.lt_of_lt_of_le q.lt (by rw [z]; exact hb)) (Nat.lt_irrefl _)
  · exact absurd (Nat.lt_of_lt_of_le (Heap.lt_size (I.pin p hp).1) (by rw [z]; exact hb)) (Nat.lt_irrefl _)
structure Turn (P : Program) (w : World) (K : PySem.W.Frag) (tg : Expr) (J : It) (fp : List Addr) (it : Addr) (tn : Nat → Heap → Prop) : Prop where
  mem : it ∈ fp
  obj : ∀ i h, tn i h → ∀ b ∈ fp, ∃ o, h.get? b = some o ∧ ∀ v, o.data ≠ .cell v
  keep : ∀ i h h', tn i h → (∀ b ∈ fp, ∀ o, h.get? b = some o → h'.get? b = some o) → tn i h'
  item : ∀ (X : Cx), X.prog = P → X.w = w → X.K = K → X.calm = true → ∀ (i : Nat) (pins : List (Addr × Obj)) (s : Shared) (σ : St) (H : Hp) (E : Value → Shared → Prop), Inv X pins σ H s → (∀ b ∈ fp, FpOk X pins H b) → tn i s.heap → J.go i H →
    wpAny (model P w) X.A (pyNext (.ref it)) (fun r s1 => ∃ u, r = some u ∧
      wpAny (model P w) X.A (letOwnedTupleGo tg (.ref it) u) (fun _ s2 => ∃ x H', Inv X pins σ H' s2 ∧ RelV x u ∧ J.yld i H x H' ∧ tn (i + 1) s2.heap ∧ ∀ b ∈ fp, H' b = none) E s1) E s
  done : ∀ (X : Cx), X.prog = P → X.w = w → X.K = K → X.calm = true → ∀ (i : Nat) (pins : List (Addr × Obj)) (s : Shared) (σ : St) (H : Hp) (E : Value → Shared → Prop), Inv X pins σ H s → (∀ b ∈ fp, FpOk X pins H b) → tn i s.heap → J.stop i H →
    wpAny (model P w) X.A (pyNext (.ref it)) (fun r s1 => r = none ∧ Inv X pins σ H s1) E s
  self : ∀ (A : Around) (i : Nat) (s : Shared) (Q : Value → Shared → Prop) (E : Value → Shared → Prop), tn i s.heap → Q (.ref it) s → wpAny (model P w) A (pyIter (.ref it)) Q E s
abbrev TI := St → Hp → (It → Hp → Prop) → Prop
def PIE (X : Cx) (pins : List (Addr × Obj)) (σ : St) (tg : Expr) (R : It → Hp → Prop) (itv : Value) (s2 : Shared) : Prop :=
  ∃ (it : Addr) (fp : List Addr) (tn : Nat → Heap → Prop) (J : It) (H' : Hp), itv = .ref it ∧ Inv X pins σ H' s2 ∧ Turn X.prog X.w X.K tg J fp it tn ∧ tn 0 s2.heap ∧ (∀ b ∈ fp, FpOk X pins H' b) ∧ R J H'
def PI (X : Cx) (tg iter : Expr) (wi : TI) : Prop :=
  ∀ (pins : List (Addr × Obj)) (s : Shared) (σ : St) (H : Hp) (R : It → Hp → Prop), Inv X pins σ H s → wi σ H R →
    wpAny (model X.prog X.w) X.A (eval iter X.env) (fun v s1 => wpAny (model X.prog X.w) X.A (pyIter v) (PIE X pins σ tg R) X.xe s1) X.xe s

theorem go_of {M : Model} {A : Around} {E : Value → Shared → Prop} {s : Shared} {tg : Expr} {it : Addr} {u : Value} {o : Obj} {n : String} {vs : Array Value} {Q : Unit → Shared → Prop} (ho : s.heap.get? it = some o) (hc : o.cls = .type n) (hd : o.data = .fields vs)
    (hn : ["enumerate", "zip", "dict_itemiterator", "dict_reverseitemiterator", "odict_iterator", "itertools.zip_longest", "itertools.pairwise"].contains n = false) (hQ : Q () s) : wpAny M A (letOwnedTupleGo tg (.ref it) u) Q E s := by
  unfold letOwnedTupleGo
  cases tg <;> first
    | exact wpAny_pure hQ
    | (cases u <;> first
        | exact wpAny_pure hQ
        | (refine wpAny_bind (wpAny_load ho ?_)
           rw [hc, hd]
           show wpAny M A (if (["enumerate", "zip", "dict_itemiterator", "dict_reverseitemiterator", "odict_iterator", "itertools.zip_longest", "itertools.pairwise"].contains n && vs[0]? == some (rawInt _)) = true then _ else _) Q E s
           rw [if_neg (by intro h; rw [hn, Bool.false_and] at h; cases h)]
           exact wpAny_pure hQ))

def Itl (K : PySem.W.Frag) (a : Addr) : It :=
  ⟨fun i H => ∃ xs x, SqL K H a xs ∧ xs[i]? = some x, fun i H x H' => H' = H ∧ ∀ xs, SqL K H a xs → xs[i]? = some x, fun i H => ∃ xs, SqL K H a xs ∧ xs.length ≤ i⟩
def Itr (lo : Int) (n : Nat) : It := ⟨fun i _ => i < n, fun i H x H' => H' = H ∧ x = .int (lo + i), fun i _ => n ≤ i⟩
theorem turn_list {P : Program} {w : World} {K : PySem.W.Frag} {tg : Expr} (a it : Addr) : Turn P w K tg (Itl K a) [it] it (fun i h => h.IsListIter it a i) where
  mem := by simp
  obj := fun i h st b hb => by
    have e : b = it := by simpa using hb
    subst e
    obtain ⟨o, e, c, d⟩ := st
    exact ⟨o, e, fun v z => by rw [d] at z; cases z⟩
  keep := fun i h h' st k => st.at fun o e => k it (by simp) o e
  item := by
    intro X hP hw hK hc i pins s σ H E I hf st hg
    subst hP hw hK
    obtain ⟨xs, x, hq, hx⟩ := hg
    obtain ⟨its, rv, p, hz⟩ := I.list hq
    obtain ⟨u, hu, ru⟩ := rv.get hx
    obtain ⟨f0, f1, f2, f3, f4, f5⟩ := hf it (by simp)
    refine wpAny_pyNext_list_item st p.isList (x := u) (by simpa using hu) fun h' st' sb => ?_
    have I1 : Inv X pins σ H { s with heap := h' } := I.turned (t' := s.toks) (fun b o hb e => (sb.2 b hb).trans e) f0 f1 f3 f4 f5
    obtain ⟨o, e, c, d⟩ := id st'
    exact ⟨u, rfl, go_of (s := { s with heap := h' }) e c d (by decide) ⟨x, H, I1, ru, ⟨rfl, fun ys hy => by rw [I.list_inj hy hq]; exact hx⟩, st', fun b hb => (hf b hb).1⟩⟩
  done := by
    intro X hP hw hK hc i pins s σ H E I hf st hg
    subst hP hw hK
    obtain ⟨xs, hq, hx⟩ := hg
    obtain ⟨its, rv, p, hz⟩ := I.list hq
    obtain ⟨f0, f1, f2, f3, f4, f5⟩ := hf it (by simp)
    have hl := rv.length
    exact wpAny_pyNext_list_end (I.ok.hd hc) st p.isList (by simp; omega) fun h' eb => ⟨rfl, I.turned (t' := s.toks) (fun b o hb e => eb b o hb e) f0 f1 f3 f4 f5⟩
  self := fun _ _ _ _ _ st h => wpAny_pyIter_listiter st h
theorem turn_range {P : Program} {w : World} {K : PySem.W.Frag} {tg : Expr} (it : Addr) (lo : Int) (n : Nat) : Turn P w K tg (Itr lo n) [it] it (fun i h => IsRangeIter h it (lo + (i : Nat) * 1) ((n : Int) - (i : Nat)) 1) where
  mem := by simp
  obj := fun i h st b hb => by
    have e : b = it := by simpa using hb
    subst e
    exact ⟨_, st, fun v z => by
      have z' : Data.fields _ = Data.cell v := z
      cases z'⟩
  keep := fun i h h' st k => k it (by simp) _ st
  item := by
    intro X hP hw hK hc i pins s σ H E I hf st hg
    subst hP hw hK
    obtain ⟨f0, f1, f2, f3, f4, f5⟩ := hf it (by simp)
    have W := Walks.range (prog := X.prog) (w := X.w) (I.ok.hd hc) it lo 1 n
    refine W.item i s _ _ hg st fun v h' tk hv st' kk => ?_
    obtain ⟨t, rfl⟩ := hv
    have I1 : Inv X pins σ H { s with heap := h', toks := tk } := I.turned (fun b o hb e => kk b o (by simpa using hb) e) f0 f1 f3 f4 f5
    refine ⟨_, rfl, go_of (s := { s with heap := h', toks := tk }) (n := "range_iterator") st' rfl rfl (by decide) ⟨.int (lo + i), H, I1, ⟨t, ?_⟩, ⟨rfl, rfl⟩, st', fun b hb => (hf b hb).1⟩⟩
    rw [Int.mul_one]
  done := by
    intro X hP hw hK hc i pins s σ H E I hf st hg
    subst hP hw hK
    obtain ⟨f0, f1, f2, f3, f4, f5⟩ := hf it (by simp)
    exact wpAny_pyNext_range_end (I.ok.hd hc) st (by have : n ≤ i := hg; omega) fun h' eb => ⟨rfl, I.turned (t' := s.toks) (fun b o hb e => eb b o hb e) f0 f1 f3 f4 f5⟩
  self := fun _ _ _ _ _ st h => wpAny_pyIter_rangeiter st h
end L2

namespace L2
open PySem PySem.Spec PyProof.Rows
section
variable {X : Cx} {tg : Expr}
def iList (K : PySem.W.Frag) (tl : TE) : TI := fun σ H R => tl σ H fun x H1 => ∃ a, x = .ref a ∧ (∃ xs, SqL K H1 a xs) ∧ R (Itl K a) H1
theorem pi_list {l : Expr} {tl : TE} (hl : PE X l tl) : PI X tg l (iList X.K tl) := by
  intro pins s σ H R I h
  refine thn (hl pins s σ H _ I h) fun v s1 ⟨x, H1, I1, r1, q1⟩ => ?_
  obtain ⟨a, e, ⟨xs, hq⟩, q⟩ := q1
  subst e
  cases r1
  obtain ⟨its, rv, p, hz⟩ := I1.list hq
  refine wpAny_pyIter_list p.isList ?_
  refine ⟨s1.heap.objs.size, [s1.heap.objs.size], _, _, H1, rfl, I1.kept (t' := s1.toks) fun b o e => Heap.get?_push_of_some _ e, turn_list a _, ⟨_, Heap.get?_push_size _ rfl, rfl, rfl⟩, fun b hb => ?_, q⟩
  have e : b = s1.heap.objs.size := by simpa using hb
  subst e
  exact I1.fpOk (Nat.le_refl _) (I1.hok.fresh (Nat.le_refl _))
theorem range_it {pins : List (Addr × Obj)} {σ : St} {H : Hp} {s : Shared} {R : It → Hp → Prop} {E : Value → Shared → Prop} {lo hi : Int} {t u v : Tok} {tk : Nat} (I : Inv X pins σ H s) (h1 : -(2 ^ 62) ≤ lo) (h2 : lo < 2 ^ 62) (h3 : -(2 ^ 62) ≤ hi) (h4 : hi < 2 ^ 62)
    (q : R (Itr lo (hi - lo).toNat) H) : wpAny (model X.prog X.w) X.A (pyIter (.ref s.heap.objs.size)) (PIE X pins σ tg R) E { s with heap := s.heap.push { cls := .type "range", data := .fields #[.int lo t, .int hi u, .int 1 v] }, toks := tk } := by
  refine wpAny_pyIter_range (IsRange.new ..) (small_one h1 h2 h3 h4) ?_
  have I1 : Inv X pins σ H { s with heap := s.heap.push { cls := .type "range", data := .fields #[.int lo t, .int hi u, .int 1 v] }, toks := tk } := I.kept fun b o e => Heap.get?_push_of_some _ e
  refine ⟨(s.heap.push { cls := .type "range", data := .fields #[.int lo t, .int hi u, .int 1 v] }).objs.size, [(s.heap.push { cls := .type "range", data := .fields #[.int lo t, .int hi u, .int 1 v] }).objs.size], _, _, H, rfl,
    I1.kept (t' := tk) fun b o e => Heap.get?_push_of_some _ e, turn_range _ lo (hi - lo).toNat, ?_, fun b hb => ?_, q⟩
  · have e1 : lo + ((0 : Nat) : Int) * 1 = lo := by simp
    have e2 : (((hi - lo).toNat : Nat) : Int) - ((0 : Nat) : Int) = Builtin.Range.rangeSize lo hi 1 := by rw [rangeSize_one]; split <;> omega
    show IsRangeIter _ _ (lo + ((0 : Nat) : Int) * 1) ((((hi - lo).toNat : Nat) : Int) - ((0 : Nat) : Int)) 1
    rw [e1, e2]
    exact Heap.get?_push_size _ rfl
  · have e : b = (s.heap.push { cls := .type "range", data := .fields #[.int lo t, .int hi u, .int 1 v] }).objs.size := by simpa using hb
    subst e
    exact I1.fpOk (Nat.le_refl _) (I1.hok.fresh (Nat.le_refl _))
def iRng1 (ta : TA) : TI := fun σ H R => ta σ H fun vs H1 => ∃ j : Int, vs = [.int j] ∧ -(2 ^ 62) ≤ j ∧ j < 2 ^ 62 ∧ R (Itr 0 j.toNat) H1
theorem pi_range1 {a : Expr} {ta : TA} {p pos : Pos} (hg : Gl X "range") (hm : X.mg "range" = none) (ha : PA X [a] ta) (hs : starEach [a] X.env = [(false, eval a X.env)] := by rfl) : PI X tg (.Call (.Name "range" p) [a] [] pos) (iRng1 ta) := by
  intro pins s σ H R I h
  refine Call_ (ld_blt I hg hm boot_range (PyProof.Rows.callWith_type1 (thn (ha pos pins s σ H _ I h) fun us s1 ⟨vs, H1, I1, r1, q1⟩ => ?_) hs rfl))
  obtain ⟨j, e, q1, q2, q⟩ := q1
  subst e
  cases r1 with
  | cons r rr =>
    cases rr
    obtain ⟨t, rfl⟩ := r
    exact call_range_1 (range_it I1 (by omega) (by omega) q1 q2 (by simpa using q))
def tFor (wi : TI) (g : TG) (tb : TS) : TS := fun D σ H => wi σ H fun J H1 => ∃ W : Nat → Nat → St → Hp → Prop, (∃ m, W 0 m σ H1) ∧ ∀ i m σ H, W i m σ H →
  (J.stop i H ∧ D.nx σ H) ∨ (J.go i H ∧ ∃ N : St → Hp → Prop, (∀ σ' H', N σ' H' → ∃ m', m' < m ∧ W (i + 1) m' σ' H') ∧ ∀ x H', J.yld i H x H' → g x σ H' fun σ2 H2 => tb { D with nx := N, ct := N, bk := D.nx } σ2 H2)
def pinsAt (fp : List Addr) (h : Heap) : List (Addr × Obj) := fp.filterMap fun b => (h.get? b).map fun o => (b, o)
theorem mem_pinsAt {fp : List Addr} {h : Heap} {b : Addr} {o : Obj} (hb : b ∈ fp) (e : h.get? b = some o) : (b, o) ∈ pinsAt fp h := List.mem_filterMap.mpr ⟨b, hb, by rw [e]; rfl⟩
theorem of_pinsAt {fp : List Addr} {h : Heap} {p : Addr × Obj} (hp : p ∈ pinsAt fp h) : p.1 ∈ fp ∧ h.get? p.1 = some p.2 := by
  obtain ⟨b, hb, e⟩ := List.mem_filterMap.mp hp
  cases q : h.get? b with
  | none => rw [q] at e; cases e
  | some o =>
    rw [q] at e
    have e' : (b, o) = p := Option.some.inj e
    subst e'
    exact ⟨hb, q⟩
theorem Inv.pinned {pins : List (Addr × Obj)} {σ : St} {H : Hp} {s : Shared} {fp : List Addr} (I : Inv X pins σ H s) (hf : ∀ b ∈ fp, FpOk X pins H b) (ho : ∀ b ∈ fp, ∃ o, s.heap.get? b = some o ∧ ∀ v, o.data ≠ .cell v) : Inv X (pins ++ pinsAt fp s.heap) σ H s :=
  I.pins_of fun p hp => (List.mem_append.mp hp).elim (fun z => I.pin p (List.mem_append_right _ z)) fun z => by
    obtain ⟨hb, e⟩ := of_pinsAt z
    obtain ⟨f0, f1, f2, _⟩ := hf p.1 hb
    obtain ⟨o, e', d⟩ := ho p.1 hb
    rw [e] at e'; cases e'
    exact ⟨e, f0, f1, f2, d⟩
theorem Inv.unpinned {pins pl : List (Addr × Obj)} {σ : St} {H : Hp} {s : Shared} (I : Inv X (pins ++ pl) σ H s) : Inv X pins σ H s := I.pins_of fun p hp => I.pin p (List.mem_append_right _ (List.mem_append_left _ hp))
theorem ps_for {iter : Expr} {body : List Stmt} {wi : TI} {g : TG} {tb : TS} {pos : Pos} (hp : PassesOwn (model X.prog X.w) X.A X.env X.xe) (hc : X.calm = true) (hi : PI X tg iter wi) (hg : PG X tg g) (hb : PSs X body tb)
    (hs : ∀ x, foldedSetIterable iter X.env x = pure x := by intro _; rfl) : PS X (.For tg iter body [] pos) (tFor wi g tb) := by
  intro pins s σ H D I h
  refine wpAny_For (thn (hi pins s σ H _ I h) fun v s1 h1 => thn h1 fun itv s2 h2 => ?_) hs
  obtain ⟨it, fp, tn, J, H2, e, I2, T, st2, f2, W, ⟨m0, w0⟩, turn⟩ := h2
  subst e
  -- what stays true of the iterator's objects through the loop
  have stat : ∀ {H' : Hp}, (∀ b ∈ fp, H' b = none) → ∀ b ∈ fp, FpOk X pins H' b := fun hn b hb => ⟨hn b hb, (f2 b hb).2⟩
  refine codeAny_forLoop_any (fun n s' => ∃ i σ' H', Inv X pins σ' H' s' ∧ tn i s'.heap ∧ (∀ b ∈ fp, H' b = none) ∧ W i n σ' H') ?_ m0 ⟨0, σ, H2, I2, st2, fun b hb => (f2 b hb).1, w0⟩
  rintro n s3 ⟨i, σ3, H3, I3, st3, fr3, w3⟩
  rcases turn i n σ3 H3 w3 with ⟨stop, qn⟩ | ⟨go, N, hN, step⟩
  · refine wpAny_passesOwn hp (thn (T.done X rfl rfl rfl hc i pins s3 σ3 H3 X.xe I3 (stat fr3) st3 stop) fun r s4 ⟨hr, I4⟩ => ?_)
    subst hr
    exact wpAny_execs_nil ⟨σ3, H3, I4, qn⟩
  · refine wpAny_passesOwn hp (thn (T.item X rfl rfl rfl hc i pins s3 σ3 H3 X.xe I3 (stat fr3) st3 go) fun r s4 ⟨u, hr, h4⟩ => ?_)
    subst hr
    refine wpAny_passesOwn hp (thn h4 fun _ s5 ⟨x, H5, I5, r5, y5, st5, fr5⟩ => ?_)
    have I5' := I5.pinned (stat fr5) (T.obj _ _ st5)
    refine wpAny_passesOwn hp (thn (hg _ s5 σ3 H5 x u _ I5' r5 (step x H5 y5)) fun _ s6 ⟨σ6, H6, I6, q6⟩ => ?_)
    refine wpAny_passesOwn hp (thn (hb _ s6 σ6 H6 _ I6 q6) fun f s7 q7 => ?_)
    have again : ∀ {σ7 : St} {H7 : Hp}, Inv X (pins ++ pinsAt fp s5.heap) σ7 H7 s7 → N σ7 H7 → ∃ m, m < n ∧ ∃ i σ' H', Inv X pins σ' H' s7 ∧ tn i s7.heap ∧ (∀ b ∈ fp, H' b = none) ∧ W i m σ' H' := fun {σ7 H7} I7 n7 => by
      obtain ⟨m', hm, w7⟩ := hN σ7 H7 n7
      refine ⟨m', hm, i + 1, σ7, H7, I7.unpinned, T.keep _ _ _ st5 fun b hb o e => (I7.pin (b, o) (List.mem_append_right _ (List.mem_append_right _ (mem_pinsAt hb e)))).1, fun b hb => ?_, w7⟩
      obtain ⟨o, e, d⟩ := T.obj _ _ st5 b hb
      exact (I7.pin (b, o) (List.mem_append_right _ (List.mem_append_right _ (mem_pinsAt hb e)))).2.1
    cases f with
    | next => obtain ⟨σ7, H7, I7, n7⟩ := q7; exact again I7 n7
    | cont => obtain ⟨σ7, H7, I7, n7⟩ := q7; exact again I7 n7
    | brk => obtain ⟨σ7, H7, I7, q7⟩ := q7; exact ⟨σ7, H7, I7.unpinned, q7⟩
    | ret v => obtain ⟨x7, σ7, H7, I7, r7, q7⟩ := q7; exact ⟨x7, σ7, H7, I7.unpinned, r7, q7⟩
end

theorem for_list {K : PySem.W.Frag} {a : Addr} {xs : List V} {g : TG} {tb : TS} {D : Ends} {σ : St} {H : Hp} (Pv : Nat → St → Hp → Prop) (h0 : Pv 0 σ H) (hl : ∀ i σ H, i ≤ xs.length → Pv i σ H → SqL K H a xs)
    (hs : ∀ i x σ H, xs[i]? = some x → Pv i σ H → g x σ H fun σ2 H2 => tb { D with nx := Pv (i + 1), ct := Pv (i + 1), bk := D.nx } σ2 H2) (hd : ∀ σ H, Pv xs.length σ H → D.nx σ H) :
    ∃ W : Nat → Nat → St → Hp → Prop, (∃ m, W 0 m σ H) ∧ ∀ i m σ H, W i m σ H →
      ((Itl K a).stop i H ∧ D.nx σ H) ∨ ((Itl K a).go i H ∧ ∃ N : St → Hp → Prop, (∀ σ' H', N σ' H' → ∃ m', m' < m ∧ W (i + 1) m' σ' H') ∧ ∀ x H', (Itl K a).yld i H x H' → g x σ H' fun σ2 H2 => tb { D with nx := N, ct := N, bk := D.nx } σ2 H2) := by
  refine ⟨fun i m σ H => m = xs.length - i ∧ i ≤ xs.length ∧ Pv i σ H, ⟨xs.length, by simp, Nat.zero_le _, h0⟩, ?_⟩
  rintro i m σ H ⟨rfl, hi, p⟩
  have q := hl i σ H hi p
  by_cases hlt : i < xs.length
  · refine .inr ⟨⟨xs, xs[i], q, by simp [hlt]⟩, Pv (i + 1), fun σ' H' p' => ⟨xs.length - (i + 1), by omega, rfl, hlt, p'⟩, fun x H' y => ?_⟩
    obtain ⟨e, y⟩ := y
    subst e
    exact hs i x σ _ (y xs q) p
  · have e : i = xs.length := by omega
    subst e
    exact .inl ⟨⟨xs, q, Nat.le_refl _⟩, hd σ H p⟩
theorem for_range {lo : Int} {n : Nat} {g : TG} {tb : TS} {D : Ends} {σ : St} {H : Hp} (Pv : Nat → St → Hp → Prop) (h0 : Pv 0 σ H)
    (hs : ∀ i σ H, i < n → Pv i σ H → g (.int (lo + i)) σ H fun σ2 H2 => tb { D with nx := Pv (i + 1), ct := Pv (i + 1), bk := D.nx } σ2 H2) (hd : ∀ σ H, Pv n σ H → D.nx σ H) :
    ∃ W : Nat → Nat → St → Hp → Prop, (∃ m, W 0 m σ H) ∧ ∀ i m σ H, W i m σ H →
      ((Itr lo n).stop i H ∧ D.nx σ H) ∨ ((Itr lo n).go i H ∧ ∃ N : St → Hp → Prop, (∀ σ' H', N σ' H' → ∃ m', m' < m ∧ W (i + 1) m' σ' H') ∧ ∀ x H', (Itr lo n).yld i H x H' → g x σ H' fun σ2 H2 => tb { D with nx := N, ct := N, bk := D.nx } σ2 H2) := by
  refine ⟨fun i m σ H => m = n - i ∧ i ≤ n ∧ Pv i σ H, ⟨n, by simp, Nat.zero_le _, h0⟩, ?_⟩
  rintro i m σ H ⟨rfl, hi, p⟩
  by_cases hlt : i < n
  · refine .inr ⟨hlt, Pv (i + 1), fun σ' H' p' => ⟨n - (i + 1), by omega, rfl, hlt, p'⟩, fun x H' y => ?_⟩
    obtain ⟨e, y⟩ := y
    subst e y
    exact hs i σ _ hlt p
  · have e : i = n := by omega
    subst e
    exact .inl ⟨Nat.le_refl _, hd σ H p⟩
end L2

namespace L2
open PySem PySem.Spec PyProof.Rows

abbrev R2 := V → V → Hp → VK → Prop
def OpR (X : Cx) (f : Value → Value → Sem Value) (r : R2) : Prop :=
  ∀ (pins : List (Addr × Obj)) (s : Shared) (σ : St) (H : Hp) (x y : V) (v u : Value) (Q : VK), Inv X pins σ H s → RelV x v → RelV y u → r x y H Q →
    wpAny (model X.prog X.w) X.A (f v u) (EP X pins σ Q) X.xe s
def CallR (X : Cx) (f : Value) (r : List V → Hp → VK → Prop) : Prop :=
  ∀ (pins : List (Addr × Obj)) (s : Shared) (σ : St) (H : Hp) (xs : List V) (us : List Value) (Q : VK), Inv X pins σ H s → Vals xs us → r xs H Q →
    wpAny (model X.prog X.w) X.A (call f us) (EP X pins σ Q) X.xe s
def tOp (r : R2) (ta tb : TE) : TE := fun σ H Q => ta σ H fun x H1 => tb σ H1 fun y H2 => r x y H2 Q
def rI (C : Int → Int → Prop) (g : Int → Int → V) : R2 := fun x y H Q => ∃ i j, x = .int i ∧ y = .int j ∧ C i j ∧ Q (g i j) H
def rI0 (g : Int → Int → V) : R2 := fun x y H Q => ∃ i j, x = .int i ∧ y = .int j ∧ Q (g i j) H
section
variable {X : Cx} {a b c : Expr} {ta tb tc : TE} {pos : Pos}

theorem binT (ha : PE X a ta) (hb : PE X b tb) {pins : List (Addr × Obj)} {s : Shared} {σ : St} {H : Hp} {R : V → V → Hp → Prop} (I : Inv X pins σ H s)
    (h : ta σ H fun x H1 => tb σ H1 fun y H2 => R x y H2) {Q : Value → Shared → Prop} {f : Value → Value → Sem Value}
    (hf : ∀ v u s2 x y H2, Inv X pins σ H2 s2 → RelV x v → RelV y u → R x y H2 → wpAny (model X.prog X.w) X.A (f v u) Q X.xe s2) :
    wpAny (model X.prog X.w) X.A (eval a X.env) (fun v s₁ => wpAny (model X.prog X.w) X.A (eval b X.env) (fun u s₂ => wpAny (model X.prog X.w) X.A (f v u) Q X.xe s₂) X.xe s₁) X.xe s := by
  refine thn (ha pins s σ H _ I h) fun v s1 ⟨x, H1, I1, r1, q1⟩ => ?_
  refine thn (hb pins s1 σ H1 _ I1 q1) fun u s2 ⟨y, H2, I2, r2, q2⟩ => ?_
  exact hf v u s2 x y H2 I2 r1 r2 q2

theorem pe_op {op : Operator} {r : R2} (ho : OpR X (binaryOp op) r) (ha : PE X a ta) (hb : PE X b tb) : PE X (.BinOp a op b pos) (tOp r ta tb) := by
  intro pins s σ H Q I h
  exact wpAny_BinOp (binT ha hb I h fun v u s2 x y H2 I2 rx ry q => ho pins s2 σ H2 x y v u Q I2 rx ry q)
theorem opI {f : Value → Value → Sem Value} {C : Int → Int → Prop} {g : Int → Int → Int}
    (rule : ∀ (i j : Int) (t u : Tok) (s : Shared) (Q : Value → Shared → Prop) (E : Value → Shared → Prop), C i j → Q (.int (g i j) s.toks) { s with toks := s.toks + 1 } → wpAny (model X.prog X.w) X.A (f (.int i t) (.int j u)) Q E s) :
    OpR X f (rI C fun i j => .int (g i j)) := by
  intro pins s σ H x y v u Q I rx ry h
  obtain ⟨i, j, rfl, rfl, hc, q⟩ := h
  obtain ⟨t, rfl⟩ := rx
  obtain ⟨t', rfl⟩ := ry
  exact rule i j t t' s _ _ hc ⟨.int (g i j), H, I.tok _, ⟨_, rfl⟩, q⟩
theorem opI0 {f : Value → Value → Sem Value} {g : Int → Int → Int}
    (rule : ∀ (i j : Int) (t u : Tok) (s : Shared) (Q : Value → Shared → Prop) (E : Value → Shared → Prop), Q (.int (g i j) s.toks) { s with toks := s.toks + 1 } → wpAny (model X.prog X.w) X.A (f (.int i t) (.int j u)) Q E s) :
    OpR X f (rI0 fun i j => .int (g i j)) := by
  intro pins s σ H x y v u Q I rx ry h
  obtain ⟨i, j, rfl, rfl, q⟩ := h
  obtain ⟨t, rfl⟩ := rx
  obtain ⟨t', rfl⟩ := ry
  exact rule i j t t' s _ _ ⟨.int (g i j), H, I.tok _, ⟨_, rfl⟩, q⟩
theorem opB0 {f : Value → Value → Sem Value} {g : Int → Int → Bool}
    (rule : ∀ (i j : Int) (t u : Tok) (s : Shared) (Q : Value → Shared → Prop) (E : Value → Shared → Prop), Q (.bool (g i j)) s → wpAny (model X.prog X.w) X.A (f (.int i t) (.int j u)) Q E s) :
    OpR X f (rI0 fun i j => .bl (g i j)) := by
  intro pins s σ H x y v u Q I rx ry h
  obtain ⟨i, j, rfl, rfl, q⟩ := h
  obtain ⟨t, rfl⟩ := rx
  obtain ⟨t', rfl⟩ := ry
  exact rule i j t t' s _ _ ⟨.bl (g i j), H, I, rfl, q⟩

def CPow (i j : Int) : Prop := 0 ≤ j ∧ j ≤ 1000000 ∧ i.natAbs < 2 ^ 64
def CMul (i j : Int) : Prop := (-(2 ^ 64) < i ∧ i < 2 ^ 64) ∨ (-(2 ^ 64) < j ∧ j < 2 ^ 64)
theorem CMul.ok {i j : Int} (h : CMul i j) : IntMulOk i j := by
  rcases h with ⟨h1, h2⟩ | ⟨h1, h2⟩
  · exact .of_left (intBits_le_64 h1 h2)
  · exact .of_right (intBits_le_64 h1 h2)
theorem op_add : OpR X (binaryOp .Add) (rI0 fun i j => .int (i + j)) := opI0 fun _ _ _ _ _ _ _ q => add_int q
theorem op_sub : OpR X (binaryOp .Sub) (rI0 fun i j => .int (i - j)) := opI0 fun _ _ _ _ _ _ _ q => sub_int q
theorem op_mul : OpR X (binaryOp .Mult) (rI CMul fun i j => .int (i * j)) := opI fun _ _ _ _ _ _ _ hc q => mul_int q hc.ok
theorem op_shl : OpR X (binaryOp .LShift) (rI CPow fun i j => .int (i * 2 ^ j.toNat)) := opI fun _ _ _ _ _ _ _ hc q => lshift_int_small hc.1 hc.2.1 hc.2.2 q
theorem op_and : OpR X (binaryOp .BitAnd) (rI0 fun i j => .int (Builtin.bitAnd i j)) := opI0 fun _ _ _ _ _ _ _ q => and_int q
theorem op_or : OpR X (binaryOp .BitOr) (rI0 fun i j => .int (Builtin.bitOr i j)) := opI0 fun _ _ _ _ _ _ _ q => or_int q
theorem op_xor : OpR X (binaryOp .BitXor) (rI0 fun i j => .int (Builtin.bitXor i j)) := opI0 fun _ _ _ _ _ _ _ q => xor_int q

theorem iop_add : OpR X (inplaceOp .Add) (rI0 fun i j => .int (i + j)) := opI0 fun _ _ _ _ _ _ _ q => iadd_int q
theorem iop_or : OpR X (inplaceOp .BitOr) (rI0 fun i j => .int (Builtin.bitOr i j)) := opI0 fun _ _ _ _ _ _ _ q => ior_int q
end

def scal : V → V → Bool
  | .non, .non => true | .non, .int _ => true | .int _, .non => true | .non, .bl _ => true | .bl _, .non => true | .non, .str _ => true | .str _, .non => true
  | .int _, .int _ => true | .bl _, .bl _ => true | .str _, .str _ => true | .byt _, .byt _ => true
  | .int _, .str _ => true | .str _, .int _ => true | .bl _, .str _ => true | .str _, .bl _ => true
  | _, _ => false
def rEq : R2 := fun x y H Q => scal x y = true ∧ Q (.bl (decide (x = y))) H
def rNe : R2 := fun x y H Q => scal x y = true ∧ Q (.bl (!decide (x = y))) H

theorem dec_int {i j : Int} : decide (V.int i = V.int j) = (i == j) := by
  rw [Bool.eq_iff_iff]
  simp
theorem dec_bl {i j : Bool} : decide (V.bl i = V.bl j) = (i == j) := by
  rw [Bool.eq_iff_iff]
  simp
theorem dec_str {i j : Str} : decide (V.str i = V.str j) = (i == j) := by
  rw [Bool.eq_iff_iff]
  simp
theorem dec_byt {i j : Array UInt8} : decide (V.byt i = V.byt j) = (i.toList == j.toList) := by
  rw [Bool.eq_iff_iff]
  cases i
  cases j
  simp

section
variable {X : Cx} {a b c : Expr} {ta tb tc : TE} {pos : Pos}
theorem fin_bl {pins : List (Addr × Obj)} {σ : St} {H : Hp} {s : Shared} {Q : VK} {k k' : Bool} (I : Inv X pins σ H s) (q : Q (.bl k) H) (e : k = k') : EP X pins σ Q (.bool k') s := by
  subst e
  exact ⟨.bl k, H, I, rfl, q⟩
theorem op_eq : OpR X (compareOp .Eq) rEq := by
  intro pins s σ H x y v u Q I rx ry h
  obtain ⟨hs, q⟩ := h
  cases x with
  | non =>
    cases rx
    cases y with
    | non => cases ry; exact PySem.EqNone.eq_none_none (fin_bl I q (by simp))
    | bl j => cases ry; exact PySem.EqNone.eq_none_bool (fin_bl I q (by simp))
    | int j => obtain ⟨t', rfl⟩ := ry; exact PySem.EqNone.eq_none_int (fin_bl I q (by simp))
    | str j => obtain ⟨t', rfl⟩ := ry; exact PySem.EqNone.eq_none_str (fin_bl I q (by simp))
    | _ => exact absurd (show false = true from hs) Bool.false_ne_true
  | bl i =>
    cases rx
    cases y with
    | non => cases ry; exact PySem.EqNone.eq_bool_none (fin_bl I q (by simp))
    | bl j => cases ry; exact eq_bool (fin_bl I q dec_bl)
    | str j => obtain ⟨t', rfl⟩ := ry; exact PySem.EqMixed.eq_bool_str (fin_bl I q (by simp))
    | _ => exact absurd (show false = true from hs) Bool.false_ne_true
  | int i =>
    obtain ⟨t, rfl⟩ := rx
    cases y with
    | non => cases ry; exact PySem.EqNone.eq_int_none (fin_bl I q (by simp))
    | int j => obtain ⟨t', rfl⟩ := ry; exact eq_int (fin_bl I q dec_int)
    | str j => obtain ⟨t', rfl⟩ := ry; exact PySem.EqMixed.eq_int_str (fin_bl I q (by simp))
    | _ => exact absurd (show false = true from hs) Bool.false_ne_true
  | str i =>
    obtain ⟨t, rfl⟩ := rx
    cases y with
    | non => cases ry; exact PySem.EqNone.eq_str_none (fin_bl I q (by simp))
    | bl j => cases ry; exact PySem.EqMixed.eq_str_bool (fin_bl I q (by simp))
    | int j => obtain ⟨t', rfl⟩ := ry; exact PySem.EqMixed.eq_str_int (fin_bl I q (by simp))
    | str j => obtain ⟨t', rfl⟩ := ry; exact eq_str (fin_bl I q dec_str)
    | _ => exact absurd (show false = true from hs) Bool.false_ne_true
  | byt i =>
    obtain ⟨t, rfl⟩ := rx
    cases y with
    | byt j => obtain ⟨t', rfl⟩ := ry; exact PySem.W.eq_bytes (fin_bl I q dec_byt)
    | _ => exact absurd (show false = true from hs) Bool.false_ne_true
  | _ => cases y <;> exact absurd (show false = true from hs) Bool.false_ne_true
theorem op_ne : OpR X (compareOp .NotEq) rNe := by
  intro pins s σ H x y v u Q I rx ry h
  obtain ⟨hs, q⟩ := h
  cases x with
  | non =>
    cases rx
    cases y with
    | non => cases ry; exact PySem.EqNone.ne_none_none (fin_bl I q (by simp))
    | bl j => cases ry; exact PySem.EqNone.ne_none_bool (fin_bl I q (by simp))
    | int j => obtain ⟨t', rfl⟩ := ry; exact PySem.EqNone.ne_none_int (fin_bl I q (by simp))
    | str j => obtain ⟨t', rfl⟩ := ry; exact PySem.EqNone.ne_none_str (fin_bl I q (by simp))
    | _ => exact absurd (show false = true from hs) Bool.false_ne_true
  | bl i =>
    cases rx
    cases y with
    | non => cases ry; exact PySem.EqNone.ne_bool_none (fin_bl I q (by simp))
    | bl j => cases ry; exact ne_bool (fin_bl I q (congrArg not dec_bl))
    | str j => obtain ⟨t', rfl⟩ := ry; exact PySem.EqMixed.ne_bool_str (fin_bl I q (by simp))
    | _ => exact absurd (show false = true from hs) Bool.false_ne_true
  | int i =>
    obtain ⟨t, rfl⟩ := rx
    cases y with
    | non => cases ry; exact PySem.EqNone.ne_int_none (fin_bl I q (by simp))
    | int j => obtain ⟨t', rfl⟩ := ry; exact ne_int (fin_bl I q (congrArg not dec_int))
    | str j => obtain ⟨t', rfl⟩ := ry; exact PySem.EqMixed.ne_int_str (fin_bl I q (by simp))
    | _ => exact absurd (show false = true from hs) Bool.false_ne_true
  | str i =>
    obtain ⟨t, rfl⟩ := rx
    cases y with
    | non => cases ry; exact PySem.EqNone.ne_str_none (fin_bl I q (by simp))
    | bl j => cases ry; exact PySem.EqMixed.ne_str_bool (fin_bl I q (by simp))
    | int j => obtain ⟨t', rfl⟩ := ry; exact PySem.EqMixed.ne_str_int (fin_bl I q (by simp))
    | str j => obtain ⟨t', rfl⟩ := ry; exact ne_str (fin_bl I q (congrArg not dec_str))
    | _ => exact absurd (show false = true from hs) Bool.false_ne_true
  | byt i =>
    obtain ⟨t, rfl⟩ := rx
    cases y with
    | byt j => obtain ⟨t', rfl⟩ := ry; exact PySem.W.ne_bytes (fin_bl I q (congrArg not dec_byt))
    | _ => exact absurd (show false = true from hs) Bool.false_ne_true
  | _ => cases y <;> exact absurd (show false = true from hs) Bool.false_ne_true

theorem op_lt : OpR X (compareOp .Lt) (rI0 fun i j => .bl (decide (i < j))) := opB0 fun _ _ _ _ _ _ _ q => lt_int q
theorem op_gt : OpR X (compareOp .Gt) (rI0 fun i j => .bl (decide (j < i))) := opB0 fun _ _ _ _ _ _ _ q => gt_int q
theorem op_ge : OpR X (compareOp .GtE) (rI0 fun i j => .bl (decide (j ≤ i))) := opB0 fun _ _ _ _ _ _ _ q => ge_int q
theorem nomark (b : Expr) {op : CmpOp} (h : op ≠ .In := by decide) (h2 : op ≠ .NotIn := by decide) : behindInMarks op b = false := by
  have e1 : (op == CmpOp.In) = false := by cases op <;> first | rfl | exact absurd rfl h
  have e2 : (op == CmpOp.NotIn) = false := by cases op <;> first | rfl | exact absurd rfl h2
  cases b <;> simp [behindInMarks, e1, e2]
theorem pe_cmpR {op : CmpOp} {r : R2} (ho : OpR X (compareOp op) r) (ha : PE X a ta) (hb : PE X b tb) (hm : behindInMarks op b = false) : PE X (.Compare a [op] [b] pos) (tOp r ta tb) := by
  intro pins s σ H Q I h
  exact wpAny_Compare1 (binT ha hb I h fun v u s2 x y H2 I2 rx ry q => ho pins s2 σ H2 x y v u Q I2 rx ry q) hm
def tTest (t : TE) : TT := fun σ H Q => t σ H fun x H' => ∃ k, x = .bl k ∧ Q k H'
theorem pt_cmpR {op : CmpOp} {r : R2} (ho : OpR X (compareOp op) r) (ha : PE X a ta) (hb : PE X b tb) (hm : behindInMarks op b = false) : PT X (.Compare a [op] [b] pos) (tTest (tOp r ta tb)) := by
  intro pins s σ H Q I h
  refine wpAny_isTrue_Compare1 (thn (ha pins s σ H _ I h) fun v s1 ⟨x, H1, I1, r1, q1⟩ => thn (hb pins s1 σ H1 _ I1 q1) fun u s2 ⟨y, H2, I2, r2, q2⟩ =>
    thn (ho pins s2 σ H2 x y v u _ I2 r1 r2 q2) fun c s3 ⟨z, H3, I3, r3, k, e, q3⟩ => ?_) hm
  subst e
  cases r3
  exact wpAny_truthy_bool ⟨H3, I3, q3⟩
theorem line63 : (sizeLine : Nat) < 2 ^ 63 := by rw [sizeLine_eq]; decide
theorem vals1 {x : V} {us : List Value} (r : Vals [x] us) : ∃ u, us = [u] ∧ RelV x u := by
  cases r with
  | cons r1 r2 => cases r2; exact ⟨_, rfl, r1⟩
theorem vals2 {x y : V} {us : List Value} (r : Vals [x, y] us) : ∃ u w', us = [u, w'] ∧ RelV x u ∧ RelV y w' := by
  cases r with
  | cons r1 r2 =>
    cases r2 with
    | cons r3 r4 => cases r4; exact ⟨_, _, rfl, r1, r3⟩
theorem call_min2 (hc : X.calm = true) : CallR X (.builtin "min") (fun xs H Q => ∃ i j, xs = [.int i, .int j] ∧ Q (.int (if j < i then j else i)) H) := by
  intro pins s σ H xs us Q I r h
  obtain ⟨i, j, rfl, q⟩ := h
  obtain ⟨u, w', rfl, ⟨t, rfl⟩, ⟨t', rfl⟩⟩ := vals2 r
  refine min_two_ints (I.ok.hd hc) fun h' tk k => ⟨_, H, I.kept k, ?_, q⟩
  by_cases hj : j < i
  · rw [if_pos hj, if_pos hj]; exact ⟨_, rfl⟩
  · rw [if_neg hj, if_neg hj]; exact ⟨_, rfl⟩
end
end L2

namespace L2
open PySem PySem.Spec PyProof.Rows

structure ObjM (h : Heap) (x dx C : Addr) (mA : Str → Option Value) : Prop where
  obj : h.get? x = some (PySem.W.instObj C dx)
  ns : h.Ns1 dx mA
  ne : dx ≠ x

theorem lookIn_ns {h : Heap} {dx : Addr} {mA : Str → Option Value} (n : h.Ns1 dx mA) : ∃ od, h.get? dx = some od ∧ ∀ name, PySem.W.lookIn name od = some (mA name) := by
  obtain ⟨o, es, ep, ho, hd, hk, _, hm⟩ := n
  refine ⟨o, ho, fun name => ?_⟩
  have e := hm name
  unfold nsFind findBy at e
  rw [← Array.find?_toList] at e
  unfold PySem.W.lookIn
  rw [hd]
  dsimp only
  split
  · rename_i y q
    rw [q] at e
    exact congrArg some e
  · rename_i q
    rw [q] at e
    have a : es.toList.any (·.refKey) = false := by
      rw [List.any_eq_false]
      intro y hy
      obtain ⟨z, t, hkey⟩ := hk y (Array.mem_toList_iff.mp hy)
      simp [DictEntry.refKey, hkey]
    have a' : ¬ es.toList.any (·.refKey) = true := by rw [a]; exact Bool.false_ne_true
    rw [if_neg a']
    exact congrArg some e

theorem ObjM.look {h : Heap} {x dx C : Addr} {mA : Str → Option Value} (I : ObjM h x dx C mA) : ∃ od, PySem.W.InstAt h x (PySem.W.instObj C dx) C (some od) ∧ ∀ name, PySem.W.lookIn name od = some (mA name) :=
  let ⟨od, ho, hl⟩ := lookIn_ns I.ns
  ⟨od, ⟨I.obj, rfl, rfl, ho⟩, hl⟩

section
variable {prog : Program} {w : World} {A : Around} {E : Value → Shared → Prop} {s : Shared} {K : PySem.W.Frag} {x dx C f : Addr} {mA : Str → Option Value} {name : Str} {v : Value}

theorem get_map {expr : Bool} {Q : Value → Shared → Prop} (X : K.In s.heap) (I : ObjM s.heap x dx C mA) (hg : PySem.W.plainGet K C name = true) (hh : PySem.W.hasDictIn K C = true)
    (ha : PySem.W.findIn K (.ref C) name = some none) (hv : mA name = some v) (hv' : PySem.W.handedIn v = true) (h : Q v { s with toks := s.toks + 1 }) :
    wpAny (model prog w) A (getAttr (.ref x) name expr) Q E s := by
  obtain ⟨od, J, hl⟩ := I.look
  exact PySem.W.get_value X J (PySem.W.plainGet_of hg).1 (PySem.W.findObj_own hh ha rfl (by rw [hl, hv])) hv' h

theorem get_meth {pl : Sem Bool} {Q : Value × List Value → Shared → Prop} (X : K.In s.heap) (I : ObjM s.heap x dx C mA) (hg : PySem.W.plainGet K C name = true)
    (hf : PySem.W.findIn K (.ref C) name = some (some (.ref f))) (ht : PySem.W.isFn K (.ref f) = true) (hv : mA name = none) (h : Q (.ref f, [.ref x]) s) :
    wpAny (model prog w) A (getMethod (.ref x) name pl) Q E s := by
  obtain ⟨od, J, hl⟩ := I.look
  exact PySem.W.method_fn X J (PySem.W.plainGet_of hg).1 (PySem.W.plainGet_of hg).2 hf (beq_iff_eq.mp ht) (by show (PySem.W.lookIn name od).map (·.isSome) = some false; rw [hl, hv]; rfl) h

theorem set_map {ns : List Str} {Q : Unit → Shared → Prop} (X : K.In s.heap) (I : ObjM s.heap x dx C mA)
    (hs : PySem.W.findIn K (.ref C) "__setattr__" = some (some (.builtin "object.__setattr__"))) (hp : PySem.W.plainOver K C = true) (ht : PySem.W.takerIn K C name = some none) (hh : PySem.W.hasDictIn K C = true)
    (hw : PySem.Within mA ns) (hsz : ns.length ≤ sizeLine)
    (h : ∀ h', ObjM h' x dx C (fun y => if y = name then some v else mA y) → Heap.SameBut dx s.heap h' → Q () { s with heap := h', toks := s.toks + 2 }) :
    wpAny (model prog w) A (setAttr (.ref x) name v) Q E s := by
  obtain ⟨od, J, hl⟩ := I.look
  refine PySem.W.set_plain X J hs (PySem.W.osa_open (s := { s with toks := s.toks + 1 }) (r := none) X J hp ht fun b => ?_)
  obtain ⟨cd, hc, hd'⟩ := PySem.W.any_some hh
  have hx : s.heap.get? x = some ⟨.ref C, some dx, .plain, #[]⟩ := I.obj
  refine wpAny_bind (wpAny_pure (wpAny_bind (wpAny_bind (wpAny_loadPart hx (wpAny_bind (PySem.W.Looks.here (s := { s with toks := s.toks + 1 }) (PySem.W.looks_clsIn X hc) ?_))))))
  rw [hd']
  refine wpAny_pure (a := some dx) (wpAny_bind (wpAny_pure (wpAny_bind ?_)))
  refine wpAny_nsSet1 (s := { s with toks := s.toks + 1 }) I.ns fun h' hn2 hs2 => ?_
  obtain ⟨oD, esD, epD, hoD, hdD, hcD⟩ := hn2.count (PySem.Within.cons name v hw)
  refine wpAny_bind (wpAny_lookBehind hoD (by rw [hdD]; exact pastItsLine_dict (Nat.le_trans hcD (by rw [List.length_cons]; omega))) ?_)
  exact wpAny_pure (h _ ⟨(hs2.2 _ (Ne.symm I.ne)).trans I.obj, hn2, I.ne⟩ hs2)

theorem make_map {R : Result → Shared → Prop} {vs : List Value} {kw : List (Str × Value)} (X : K.In s.heap) (hm : PySem.W.makesIn K C = true)
    (hi : PySem.W.findIn K (.ref C) "__init__" = some (some (.ref f))) (hf : PySem.W.typeIn K (.ref f) = some (.type "function"))
    (h : codeAny (model prog w) (A.under (.builtin "type.__call__" ⟨.ref C :: vs, kw⟩)) (.call (.ref f) ⟨.ref (s.heap.objs.size + 1) :: vs, kw⟩) (PySem.W.InitBack (s.heap.objs.size + 1) R)
      { s with heap := (s.heap.push PySem.W.emptyDict).push (PySem.W.instObj C s.heap.objs.size) }) :
    codeAny (model prog w) A (.call (.ref C) ⟨vs, kw⟩) R s := by
  obtain ⟨hh, g, d, t, os⟩ := s
  exact PySem.W.make_core (PySem.W.makes_of X hm) (PySem.W.looks_findIn X hi) (fun self => PySem.W.bind_fn X self hf) (.inl rfl) h
end

def putF (f : Str) (v : V) : List (Str × V) → List (Str × V)
  | [] => [(f, v)]
  | (g, x) :: r => if g = f then (g, v) :: r else (g, x) :: putF f v r
theorem lookup_putF (f g : Str) (v : V) : ∀ fs : List (Str × V), (putF f v fs).lookup g = if g = f then some v else fs.lookup g
  | [] => by
    show List.lookup g [(f, v)] = _
    by_cases h : g = f
    · have hb : (g == f) = true := beq_iff_eq.mpr h
      simp only [List.lookup, hb, if_pos h]
    · have hb : (g == f) = false := beq_eq_false_iff_ne.mpr h
      simp only [List.lookup, hb, if_neg h]
  | (k, x) :: r => by
    have ih := lookup_putF f g v r
    rw [show putF f v ((k, x) :: r) = (if k = f then (k, v) :: r else (k, x) :: putF f v r) from rfl]
    by_cases hk : k = f
    · rw [if_pos hk]
      by_cases h : g = k
      · have hb : (g == k) = true := beq_iff_eq.mpr h
        simp only [List.lookup, hb, if_pos (h.trans hk)]
      · have hb : (g == k) = false := beq_eq_false_iff_ne.mpr h
        simp only [List.lookup, hb, if_neg (fun e : g = f => h (e.trans hk.symm))]
    · rw [if_neg hk]
      by_cases h : g = k
      · have hb : (g == k) = true := beq_iff_eq.mpr h
        simp only [List.lookup, hb, if_neg (fun e : g = f => hk (h.symm.trans e))]
      · have hb : (g == k) = false := beq_eq_false_iff_ne.mpr h
        simp only [List.lookup, hb]
        exact ih
theorem keys_putF (f : Str) (v : V) : ∀ fs : List (Str × V), f ∈ (putF f v fs).map (·.1) ∧ ∀ g, g ∈ fs.map (·.1) → g ∈ (putF f v fs).map (·.1)
  | [] => ⟨by simp [putF], fun g h => by simp at h⟩
  | (k, x) :: r => by
    obtain ⟨i1, i2⟩ := keys_putF f v r
    rw [show putF f v ((k, x) :: r) = (if k = f then (k, v) :: r else (k, x) :: putF f v r) from rfl]
    by_cases hk : k = f
    · rw [if_pos hk]
      subst hk
      exact ⟨by simp, fun g h => by simpa using h⟩
    · rw [if_neg hk]
      refine ⟨?_, fun g h => ?_⟩
      · rw [List.map_cons]
        exact List.mem_cons_of_mem _ i1
      · rw [List.map_cons] at h ⊢
        rcases List.mem_cons.mp h with e | e
        · exact List.mem_cons.mpr (.inl e)
        · exact List.mem_cons_of_mem _ (i2 g e)
theorem length_putF (f : Str) (v : V) : ∀ fs : List (Str × V), (putF f v fs).length ≤ fs.length + 1
  | [] => by simp [putF]
  | (k, x) :: r => by
    have ih := length_putF f v r
    rw [show putF f v ((k, x) :: r) = (if k = f then (k, v) :: r else (k, x) :: putF f v r) from rfl]
    by_cases hk : k = f
    · rw [if_pos hk, List.length_cons, List.length_cons]; omega
    · rw [if_neg hk, List.length_cons, List.length_cons]; omega

theorem RelO.some_of {v : V} {o : Option Value} (r : RelO (some v) o) : ∃ u, o = some u ∧ RelV v u := by
  cases o with
  | none => exact (show False from r).elim
  | some u => exact ⟨u, rfl, r⟩
theorem RelO.none_of {o : Option Value} (r : RelO none o) : o = none := by
  cases o with
  | none => rfl
  | some u => exact (show False from r).elim
theorem handed_of {v : V} {u : Value} (r : RelV v u) : PySem.W.handedIn u = true := by
  cases v with
  | non => cases (show u = Value.none from r); rfl
  | bl b => cases (show u = Value.bool b from r); rfl
  | int i => obtain ⟨t, e⟩ := (show ∃ t, u = Value.int i t from r); cases e; rfl
  | str x => obtain ⟨t, e⟩ := (show ∃ t, u = Value.str x t from r); cases e; rfl
  | byt b => obtain ⟨t, e⟩ := (show ∃ t, u = Value.bytes b t from r); cases e; rfl
  | flt b => obtain ⟨t, e⟩ := (show ∃ t, u = Value.float b t from r); cases e; rfl
  | ref a => cases (show u = Value.ref a from r); rfl
  | ty n => cases (show u = Value.type n from r); rfl

section
variable {P : Program} {w : World} {H H' : Hp} {h h' : Heap} {a C dx : Addr} {fs fs' : List (Str × V)}
theorem ins_get (hok : HOk P w H h) (e : H a = some (.ins C dx fs)) : ∃ mA, ObjM h a dx C mA ∧ (∀ f, RelO (fs.lookup f) (mA f)) ∧ PySem.Within mA (fs.map (·.1)) ∧ fs.length ≤ 1000 ∧ H dx = some (.own a) := by
  obtain ⟨d, z, ne, ob, mA, n, r, q⟩ := (show ObjOk P w H h a (.ins C dx fs) from hok a _ e)
  exact ⟨mA, ⟨ob, n, ne⟩, r, q, z, d⟩
end

structure Cls (K : PySem.W.Frag) (C : Addr) : Prop where
  pg : PySem.W.plainGet K C Str.empty = true
  hd : PySem.W.hasDictIn K C = true
  po : PySem.W.plainOver K C = true
  sa : PySem.W.findIn K (.ref C) "__setattr__" = some (some (.builtin "object.__setattr__"))
theorem Cls.get {K : PySem.W.Frag} {C : Addr} (c : Cls K C) (f : Str) : PySem.W.plainGet K C f = true := c.pg
def NoAttr (K : PySem.W.Frag) (C : Addr) (f : Str) : Prop := PySem.W.findIn K (.ref C) f = some none
theorem NoAttr.taker {K : PySem.W.Frag} {C : Addr} {f : Str} (n : NoAttr K C f) : PySem.W.takerIn K C f = some none := by
  unfold PySem.W.takerIn
  rw [show PySem.W.findIn K (.ref C) f = some none from n]
  rfl
structure Con (K : PySem.W.Frag) (C : Addr) (f : Str) (v : V) (u : Value) : Prop where
  at_ : PySem.W.findIn K (.ref C) f = some (some u)
  rel : RelV v u
  get : PySem.W.specialIn K u "__get__" = some none
  cp : PySem.W.copiedNames.contains f = false
structure Meth (K : PySem.W.Frag) (C : Addr) (m : Str) (f : Addr) : Prop where
  at_ : PySem.W.findIn K (.ref C) m = some (some (.ref f))
  fn : PySem.W.isFn K (.ref f) = true
  kp : PySem.W.keepIn K (.ref f) = true

section
variable {X : Cx} {pins : List (Addr × Obj)} {σ : St} {H : Hp} {s : Shared} {a C dx : Addr} {fs : List (Str × V)} {f : Str} {v : V} {A : Around} {E : Value → Shared → Prop}

theorem getattr_ok {b : Bool} {Q : Value → Shared → Prop} (I : Inv X pins σ H s) (e : H a = some (.ins C dx fs)) (c : Cls X.K C) (n : NoAttr X.K C f) (l : fs.lookup f = some v)
    (h : ∀ u s', Inv X pins σ H s' → RelV v u → Q u s') : wpAny (model X.prog X.w) A (getAttr (.ref a) f b) Q E s := by
  obtain ⟨mA, O, r, _, _, _⟩ := ins_get I.hok e
  obtain ⟨u, hu, ru⟩ := RelO.some_of (v := v) (o := mA f) (by rw [← l]; exact r f)
  exact get_map I.kIn O (c.get f) c.hd n hu (handed_of ru) (h u _ (I.tok _) ru)

theorem getmeth_ok {m : Str} {g : Addr} {pl : Sem Bool} {Q : Value × List Value → Shared → Prop} (I : Inv X pins σ H s) (e : H a = some (.ins C dx fs)) (c : Cls X.K C) (k : Meth X.K C m g) (l : fs.lookup m = none)
    (h : Q (.ref g, [.ref a]) s) : wpAny (model X.prog X.w) A (getMethod (.ref a) m pl) Q E s := by
  obtain ⟨mA, O, r, _, _, _⟩ := ins_get I.hok e
  have hn : mA m = none := RelO.none_of (by rw [← l]; exact r m)
  exact get_meth I.kIn O (c.get m) k.at_ k.fn hn h

theorem setattr_ok {y : V} {u : Value} {Q : Unit → Shared → Prop} (I : Inv X pins σ H s) (e : H a = some (.ins C dx fs)) (c : Cls X.K C) (n : NoAttr X.K C f) (hl : fs.length < 1000) (ry : RelV y u)
    (h : ∀ s', Inv X pins σ (upd H a (.ins C dx (putF f y fs))) s' → Q () s') : wpAny (model X.prog X.w) A (setAttr (.ref a) f u) Q E s := by
  obtain ⟨mA, O, r, wi, _, ho⟩ := ins_get I.hok e
  have hz : (fs.map (·.1)).length ≤ sizeLine := by rw [List.length_map, sizeLine_eq]; omega
  refine set_map I.kIn O c.sa c.po n.taker c.hd wi hz fun h' O' sb => h _ ?_
  have hd : ∃ o, h'.get? dx = some o := let ⟨o, _, _, e', _⟩ := O'.ns; ⟨o, e'⟩
  refine I.write (x := a) (e := dx) (by rw [e]; exact True.intro) (.inr ho) (fun b q hb z => (sb.2 b hb).trans z) hd ?_
  refine ⟨by rw [upd_ne O.ne]; exact ho, ?_, O.ne, O'.obj, _, O'.ns, fun g => ?_, fun g hg => ?_⟩
  · have := length_putF f y fs; omega
  · show RelO ((putF f y fs).lookup g) (if g = f then some u else mA g)
    rw [lookup_putF]
    by_cases q : g = f
    · rw [if_pos q, if_pos q]; exact ry
    · rw [if_neg q, if_neg q]; exact r g
  · by_cases q : g = f
    · rw [q]; exact (keys_putF f y fs).1
    · refine (keys_putF f y fs).2 g (wi g fun z => hg ?_)
      show (if g = f then some u else mA g) = none
      rw [if_neg q]; exact z

theorem Inv.made (I : Inv X pins σ H s) : Inv X pins σ (upd (upd H s.heap.objs.size (.own (s.heap.objs.size + 1))) (s.heap.objs.size + 1) (.ins C s.heap.objs.size []))
    { s with heap := (s.heap.push PySem.W.emptyDict).push (PySem.W.instObj C s.heap.objs.size) } := by
  have e1 : (s.heap.push PySem.W.emptyDict).get? s.heap.objs.size = some PySem.W.emptyDict := Heap.get?_push_size s.heap rfl
  have e2 : ((s.heap.push PySem.W.emptyDict).push (PySem.W.instObj C s.heap.objs.size)).get? (s.heap.objs.size + 1) = some (PySem.W.instObj C s.heap.objs.size) := by
    have := Heap.get?_push_size (s.heap.push PySem.W.emptyDict) (o := PySem.W.instObj C s.heap.objs.size) rfl
    rwa [Heap.size_push] at this
  have e3 : (s.heap.push PySem.W.emptyDict).Ns s.heap.objs.size (fun _ => none) := ⟨PySem.W.emptyDict, #[], _, e1, rfl, (fun e he => absurd he (by simp)), fun _ => rfl⟩
  have I1 := I.laid (a := s.heap.objs.size) (o := .own (s.heap.objs.size + 1)) (h' := s.heap.push PySem.W.emptyDict) (t' := s.toks) (fun b u q => Heap.get?_push_of_some _ q) (Nat.le_refl _) ⟨_, e1⟩
  refine I1.laid (a := s.heap.objs.size + 1) (o := .ins C s.heap.objs.size []) (t' := s.toks) (fun b u q => Heap.get?_push_of_some _ q) (Nat.le_of_eq (Heap.size_push _ _)) ?_
  have ne : s.heap.objs.size ≠ s.heap.objs.size + 1 := Nat.ne_of_lt (Nat.lt_succ_self _)
  refine ⟨by rw [upd_ne ne, upd_same], Nat.zero_le _, ne, e2, fun _ => none, (Heap.Ns1.of_empty e3).at fun o q => Heap.get?_push_of_some _ q, fun _ => True.intro, fun y hy => absurd rfl hy⟩

theorem attr_of {prog : Program} {w : World} {env : Env} {e : Expr} {f : Str} {pos : Pos} {s : Shared} {Q : Value → Shared → Prop} (hb : attributeBase e f env (eval e env) = eval e env)
    (h : wpAny (model prog w) A (eval e env) (fun o s₁ => wpAny (model prog w) A (getAttr o f true) Q E s₁) E s) : wpAny (model prog w) A (eval (.Attribute e f pos) env) Q E s :=
  Attribute_any_ h (by rw [arm_eval_Attribute, hb])
end

def tFld (K : PySem.W.Frag) (ta : TE) (f : Str) : TE := fun σ H Q => ta σ H fun x H1 => ∃ a C dx fs v, x = .ref a ∧ H1 a = some (.ins C dx fs) ∧ Cls K C ∧ NoAttr K C f ∧ fs.lookup f = some v ∧ Q v H1
def sFld (K : PySem.W.Frag) (ta tv : TE) (f : Str) : TS := fun D σ H => tv σ H fun y H1 => ta σ H1 fun x H2 => ∃ a C dx fs, x = .ref a ∧ H2 a = some (.ins C dx fs) ∧ Cls K C ∧ NoAttr K C f ∧ fs.length < 1000 ∧
  D.nx σ (upd H2 a (.ins C dx (putF f y fs)))
section
variable {X : Cx} {o e value : Expr} {f : Str} {pos pos' tpos : Pos} {ta tv : TE}
theorem pe_fld (he : PE X e ta) (hb : attributeBase e f X.env (eval e X.env) = eval e X.env) : PE X (.Attribute e f pos) (tFld X.K ta f) := by
  intro pins s σ H Q I h
  refine attr_of hb (thn (he pins s σ H _ I h) fun u s1 ⟨x, H1, I1, rx, a, C, dx, fs, v, ex, ea, c, n, l, q⟩ => ?_)
  subst ex
  obtain rfl : u = Value.ref a := rx
  exact getattr_ok I1 ea c n l fun u' s2 I2 ru => ⟨v, H1, I2, ru, q⟩
theorem ps_fld (ha : PE X o ta) (hv : PE X value tv) (hs : swapsWith value (some (.Attribute o f pos')) pos.line X.env = pure false) : PS X (.Assign [.Attribute o f pos'] value pos) (sFld X.K ta tv f) := by
  intro pins s σ H D I h
  refine plainObj_wpAny_Assign_Attribute (thn (hv pins s σ H _ I h) fun u s1 ⟨y, H1, I1, ry, q⟩ => thn (ha pins s1 σ H1 _ I1 q) fun ov s2 ⟨x, H2, I2, rx, a, C, dx, fs, ex, ea, c, n, l, q2⟩ => ?_) hs
  subst ex
  obtain rfl : ov = Value.ref a := rx
  exact setattr_ok I2 ea c n l ry fun s3 I3 => ⟨σ, _, I3, q2⟩
end

section
variable {X : Cx} {pins : List (Addr × Obj)} {σ : St} {H : Hp} {s : Shared} {A : Around} {E : Value → Shared → Prop} {Q : Value → Shared → Prop} {c : Value} {b : Bool}
inductive TyOf (K : PySem.W.Frag) (H : Hp) : V → Value → Prop where
  | non : TyOf K H .non (.type "NoneType")
  | bl (x : Bool) : TyOf K H (.bl x) (.type "bool")
  | int (i : Int) : TyOf K H (.int i) (.type "int")
  | str (x : Str) : TyOf K H (.str x) (.type "str")
  | flt (x : UInt64) : TyOf K H (.flt x) (.type "float")
  | lst {a : Addr} {xs : List V} (e : H a = some (.lst xs)) : TyOf K H (.ref a) (.type "list")
  | frz {a : Addr} {o : Obj} {xs : List V} (e : H a = some (.frz o (.lst xs))) : TyOf K H (.ref a) (.type "list")
  | tup {a : Addr} {xs : List V} (e : H a = some (.tup xs)) : TyOf K H (.ref a) (.type "tuple")
  | dK {a : Addr} {kvs : List (Key × V)} (e : H a = some (.dK kvs)) : TyOf K H (.ref a) (.type "dict")
  | dT {a : Addr} {kvs : List (List Key × V)} (e : H a = some (.dT kvs)) : TyOf K H (.ref a) (.type "dict")
  | ins {a C dx : Addr} {fs : List (Str × V)} (e : H a = some (.ins C dx fs)) (cl : Cls K C) (ha : PySem.W.findIn K (.ref C) "__class__" = some (some (.builtin "object.__class__")))
      (hn : PySem.W.specialIn K (.builtin "object.__class__") "__get__" = some (some (.builtin "getset_descriptor.__get__"))) (htk : PySem.W.takesIn K (.builtin "object.__class__") = some true)
      (hm : PySem.W.mroIn K C (.type "object") = some true) : TyOf K H (.ref a) (.ref C)
end
end L2

namespace L2
open PySem PySem.Spec PyProof.Rows

structure Room (k : Nat) (A : Around) : Prop where
  hd : A.handled = none
  dp : A.depth + 3 * k + 5 < recursionLimit
  un : A.units + 16 * k + 200 < cLine
theorem Room.mono {j k : Nat} {A : Around} (r : Room k A) (h : j ≤ k) : Room j A := ⟨r.hd, by have := r.dp; omega, by have := r.un; omega⟩
theorem Room.deeper {k : Nat} {A : Around} (r : Room (k + 1) A) (env : Env) : Room k (A.deeper env) :=
  ⟨r.hd, by have := r.dp; show A.depth + 1 + 3 * k + 5 < _; omega, by have := r.un; show A.units + 3 + 16 * k + 200 < _; omega⟩
theorem Room.in1 {k : Nat} {A : Around} (r : Room (k + 1) A) : Room k A.in1 :=
  ⟨r.hd, by have := r.dp; show A.depth + 3 * k + 5 < _; omega, by have := r.un; show A.units + 1 + 16 * k + 200 < _; omega⟩
theorem make_depth {A : Around} {C : Addr} {us : List Value} {kw : List (Str × Value)} : (A.under (.builtin "type.__call__" ⟨.ref C :: us, kw⟩)).depth = A.depth + 1 := by
  first | rfl | simp [Around.under, Code.weight, Code.isCreation, Code.isGuard, Code.isCaller, Code.frames, Code.isFrame, guardIds]
theorem make_units {A : Around} {C : Addr} {us : List Value} {kw : List (Str × Value)} : (A.under (.builtin "type.__call__" ⟨.ref C :: us, kw⟩)).units = A.units + 1 := by
  first | rfl | simp [Around.under, Code.cUnits, Code.frames, Code.isFrame]
theorem Room.make {k : Nat} {A : Around} (r : Room (k + 1) A) (C : Addr) (us : List Value) (kw : List (Str × Value)) : Room k (A.under (.builtin "type.__call__" ⟨.ref C :: us, kw⟩)) :=
  ⟨r.hd, by have := r.dp; rw [make_depth]; omega, by have := r.un; rw [make_units]; omega⟩
theorem Room.depth {k : Nat} {A : Around} (r : Room k A) : A.depth < recursionLimit := by have := r.dp; omega
theorem Room.units {k : Nat} {A : Around} (r : Room k A) : A.units + 64 < cLine := by have := r.un; omega
def tNil : TA := fun _ H Q => Q [] H
def tCons (ta : TE) (tr : TA) : TA := fun σ H Q => ta σ H fun x H1 => tr σ H1 fun xs H2 => Q (x :: xs) H2
section
variable {X : Cx} {e : Expr} {es : List Expr} {te : TE} {t : TA} {pos : Pos}
theorem pa_nil : PA X [] tNil := fun _ _ _ _ H Q I h => Calls.spliced_nil ⟨[], H, I, .nil, h⟩
theorem pa_cons (ha : PE X e te) (hr : PA X es t) (hs : starEach (e :: es) X.env = (false, eval e X.env) :: starEach es X.env := by rfl) : PA X (e :: es) (tCons te t) := by
  intro pos pins s σ H Q I h
  rw [hs]
  show wpAny _ _ (spliced ((false, eval e X.env) :: backTo pos (starEach es X.env))) _ _ s
  refine Calls.spliced_cons (thn (ha pins s σ H _ I h) fun u s1 ⟨x, H1, I1, r1, q1⟩ => ?_)
  exact thn (hr pos pins s1 σ H1 _ I1 q1) fun us s2 ⟨xs, H2, I2, r2, q2⟩ => ⟨x :: xs, H2, I2, .cons r1 r2, q2⟩

def tTup (t : TA) : TE := fun σ H Q => t σ H fun xs H1 => xs.length ≤ sizeLine ∧ ∀ p, H1 p = none → Q (.ref p) (upd H1 p (.tup xs))
def tLst (t : TA) : TE := fun σ H Q => t σ H fun xs H1 => xs.length ≤ sizeLine ∧ ∀ p, H1 p = none → Q (.ref p) (upd H1 p (.lst xs))
theorem pe_tup {x1} (h : PA X es t) : PE X (.Tuple es x1 pos) (tTup t) := by
  intro pins s σ H Q I hq
  refine wpAny_Tuple_spliced (thn (h pos pins s σ H _ I hq) fun us s1 ⟨xs, H1, I1, r, z, q⟩ => ⟨by rw [← r.length]; exact z, ?_⟩)
  have hf : H1 s1.heap.objs.size = none := I1.hok.fresh (Nat.le_refl _)
  refine ⟨.ref s1.heap.objs.size, upd H1 s1.heap.objs.size (.tup xs), I1.laid (t' := s1.toks) (fun b u e => Heap.get?_push_of_some _ e) (Nat.le_refl _) ?_, rfl, q _ hf⟩
  exact ⟨z, us, r, ⟨_, Heap.get?_push_size _ rfl, rfl, _, rfl⟩⟩
theorem pe_lst (h : PA X es t) : PE X (.List es pos) (tLst t) := by
  intro pins s σ H Q I hq
  refine wpAny_List_spliced (thn (h pos pins s σ H _ I hq) fun us s1 ⟨xs, H1, I1, r, z, q⟩ => ⟨by rw [← r.length]; exact z, ?_⟩)
  have hf : H1 s1.heap.objs.size = none := I1.hok.fresh (Nat.le_refl _)
  refine ⟨.ref s1.heap.objs.size, upd H1 s1.heap.objs.size (.lst xs), I1.laid (t' := s1.toks) (fun b u e => Heap.get?_push_of_some _ e) (Nat.le_refl _) ?_, rfl, q _ hf⟩
  exact ⟨z, us, 0, r, Heap.get?_push_size _ rfl⟩
end

abbrev Sp := List V → Hp → VK → XK → Prop
abbrev CXT := List Env → Hp → Shared → XK → Value → Shared → Prop

structure Env0 (P : Program) (w : World) (K : PySem.W.Frag) (mg : Str → Option Value) (base : Heap) (A : Around) (outer : List Env) (s : Shared) (H : Hp) : Prop where
  frames : A.frames = some outer
  mod : Mod K mg base
  bs : ∀ b o, base.get? b = some o → s.heap.get? b = some o ∧ H b = none
  bsz : base.objs.size ≤ s.heap.objs.size
  funs : s.heap.FunFrames base outer
  frf : ∀ b ∈ frs outer, H b = none
  hok : HOk P w H s.heap
  bare : AllBare s.gens
def CE (outer : List Env) (P : Program) (w : World) (H : Hp) (s : Shared) (Q : VK) (u : Value) (s' : Shared) : Prop :=
  ∃ v H', s'.os = s.os ∧ AllBare s'.gens ∧ Un (frs outer) [] H H' s.heap s'.heap ∧ HOk P w H' s'.heap ∧ RelV v u ∧ Q v H'
def CR (CX : CXT) (outer : List Env) (P : Program) (w : World) (H : Hp) (s : Shared) (Q : VK) (E : XK) (r : Result) (s' : Shared) : Prop :=
  match r with
  | .ok (.ret u) => CE outer P w H s Q u s'
  | .ok _ => False
  | .error e => CX outer H s E e s'
structure FnOk (P : Program) (w : World) (K : PySem.W.Frag) (mg : Str → Option Value) (base : Heap) (CX : CXT) (k : Nat) (f : Addr) (fd : FuncData) (ps : List Str) (sp : Sp) : Prop where
  len : ∀ vs H Q E, sp vs H Q E → vs.length = ps.length
  run : ∀ (A : Around) (outer : List Env) (s : Shared) (H : Hp) (args : Args) (us : List Value) (vs : List V) (Q : VK) (E : XK), Room k A → Env0 P w K mg base A outer s H → BindsTo s fd args (ps.zip us) → Vals vs us → sp vs H Q E →
    codeAny (model P w) A (.call (.ref f) args) (CR CX outer P w H s Q E) s
theorem FnOk.mono {P : Program} {w : World} {K : PySem.W.Frag} {mg : Str → Option Value} {base : Heap} {CX : CXT} {j k : Nat} {f : Addr} {fd : FuncData} {ps : List Str} {sp : Sp} (F : FnOk P w K mg base CX j f fd ps sp) (h : j ≤ k) :
    FnOk P w K mg base CX k f fd ps sp := ⟨F.len, fun A outer s H args us vs Q E hr => F.run A outer s H args us vs Q E (hr.mono h)⟩
theorem FnOk.imp {P : Program} {w : World} {K : PySem.W.Frag} {mg : Str → Option Value} {base : Heap} {CX : CXT} {k : Nat} {f : Addr} {fd : FuncData} {ps : List Str} {sp sp' : Sp} (F : FnOk P w K mg base CX k f fd ps sp)
    (h : ∀ vs H Q E, sp' vs H Q E → sp vs H Q E) : FnOk P w K mg base CX k f fd ps sp' :=
  ⟨fun vs H Q E q => F.len vs H Q E (h _ _ _ _ q), fun A outer s H args us vs Q E hr he hb hv hs => F.run A outer s H args us vs Q E hr he hb hv (h _ _ _ _ hs)⟩

theorem Env0.make {P : Program} {w : World} {K : PySem.W.Frag} {mg : Str → Option Value} {base : Heap} {A : Around} {outer : List Env} {s : Shared} {H : Hp} (e : Env0 P w K mg base A outer s H) (C : Addr) (us : List Value) (kw : List (Str × Value)) :
    Env0 P w K mg base (A.under (.builtin "type.__call__" ⟨.ref C :: us, kw⟩)) outer s H := ⟨by first | exact e.frames | (simpa [Around.under, Code.envs, Code.isFrame, pushEnvs] using e.frames), e.mod, e.bs, e.bsz, e.funs, e.frf, e.hok, e.bare⟩
theorem Env0.in1 {P : Program} {w : World} {K : PySem.W.Frag} {mg : Str → Option Value} {base : Heap} {A : Around} {outer : List Env} {s : Shared} {H : Hp} (e : Env0 P w K mg base A outer s H) :
    Env0 P w K mg base A.in1 outer s H := ⟨e.frames, e.mod, e.bs, e.bsz, e.funs, e.frf, e.hok, e.bare⟩

section
variable {X : Cx} {pins : List (Addr × Obj)} {σ : St} {H : Hp} {s s' : Shared}
theorem Inv.env0 (I : Inv X pins σ H s) : Env0 X.prog X.w X.K X.mg X.base X.A X.stack s H :=
  ⟨I.ok.frames, I.ok.mod, I.bs, Nat.le_trans I.ok.bsz I.sz, I.stack, I.stkFree, I.hok, I.bare⟩
theorem Inv.after {Q : VK} {u : Value} (I : Inv X pins σ H s) (h : CE X.stack X.prog X.w H s Q u s') : EP X pins σ Q u s' := by
  obtain ⟨v, H', os, bare, un, hok, r, q⟩ := h
  obtain ⟨hh, g, d, t, os'⟩ := s'
  obtain rfl : os' = s.os := os
  exact ⟨v, H', I.call (h' := hh) (g' := g) (d' := d) (t' := t) (ch := []) un hok bare (fun b z => absurd z (by simp)), r, q⟩
end

def tCall (sp : Sp) (dvs : List V) (E : XK) (t : TA) : TE := fun σ H Q => t σ H fun vs H1 => sp (vs ++ dvs) H1 Q E
def tMeth (C : Addr) (m : Str) (sp : Sp) (dvs : List V) (E : XK) (ta : TE) (t : TA) : TE := fun σ H Q => ta σ H fun x H1 => ∃ a dx fs, x = .ref a ∧ H1 a = some (.ins C dx fs) ∧ fs.lookup m = none ∧
  t σ H1 fun vs H2 => sp (x :: (vs ++ dvs)) H2 Q E
def tMake (C : Addr) (sp : Sp) (dvs : List V) (E : XK) (t : TA) : TE := fun σ H Q => t σ H fun vs H1 => ∀ x dx, H1 x = none → H1 dx = none → dx ≠ x →
  sp (.ref x :: (vs ++ dvs)) (upd (upd H1 dx (.own x)) x (.ins C dx [])) (fun v H2 => v = .non ∧ Q (.ref x) H2) E

def Binds (K : PySem.W.Frag) (fd : FuncData) (ps : List Str) (ds : List Value) : Prop :=
  ∀ (s : Shared) (us : List Value), K.In s.heap → (us ++ ds).length = ps.length → BindsTo s fd ⟨us, []⟩ (ps.zip (us ++ ds))
theorem Binds.all {K : PySem.W.Frag} {fd : FuncData} {ps : List Str} (h : ∀ us : List Value, us.length = ps.length → bindArgs fd ⟨us, []⟩ = pure (ps.zip us)) : Binds K fd ps [] := fun s us _ hl => by
  rw [List.append_nil] at hl ⊢
  exact .of_eq (h us hl)

def Passes (CX : CXT) (X : Cx) (E : XK) : Prop := ∀ (pins : List (Addr × Obj)) (σ : St) (H : Hp) (s : Shared) (e : Value) (s' : Shared), Inv X pins σ H s → CX X.stack H s E e s' → X.xe e s'

section
variable {X : Cx} {CX : CXT} {k : Nat} {f C : Addr} {fd : FuncData} {ps : List Str} {sp : Sp} {dvs : List V} {ds : List Value} {E : XK} {x m : Str} {p pos apos : Pos} {e o : Expr} {es : List Expr} {ta : TE} {t : TA}

theorem run_fn {pins : List (Addr × Obj)} {σ : St} {H : Hp} {s : Shared} {Q : VK} {us : List Value} {vs : List V} (F : FnOk X.prog X.w X.K X.mg X.base CX k f fd ps sp) (hr : Room k X.A) (hb : Binds X.K fd ps ds) (hd : Vals dvs ds) (hx : Passes CX X E)
    (I : Inv X pins σ H s) (r : Vals vs us) (h : sp (vs ++ dvs) H Q E) : wpAny (model X.prog X.w) X.A (call (.ref f) us) (EP X pins σ Q) X.xe s := by
  have r2 : Vals (vs ++ dvs) (us ++ ds) := r.append hd
  have hl : (us ++ ds).length = ps.length := by rw [← r2.length]; exact F.len _ _ _ _ h
  refine wpAny_call (codeAny_mono (F.run X.A X.stack s H ⟨us, []⟩ (us ++ ds) (vs ++ dvs) Q E hr I.env0 (hb s us I.kIn hl) r2 h) fun r s' hq => ?_)
  cases r with
  | error e => exact hx pins σ H s e s' I hq
  | ok fl =>
    cases fl with
    | ret u => exact I.after hq
    | next => exact False.elim hq
    | brk => exact False.elim hq
    | cont => exact False.elim hq

theorem pe_call (F : FnOk X.prog X.w X.K X.mg X.base CX k f fd ps sp) (hr : Room k X.A) (hg : Gl X x) (hm : X.mg x = some (.ref f)) (hk : PySem.W.keepIn X.K (.ref f) = true) (hb : Binds X.K fd ps ds) (hd : Vals dvs ds) (hx : Passes CX X E)
    (ha : PA X (e :: es) t) (hdb : (x == ("__debug__" : Str)) = false := by decide) (he : starEach (e :: es) X.env = (false, eval e X.env) :: starEach es X.env := by rfl) (hpl : (backTo pos (starEach es X.env)).any (·.1) = false := by rfl) :
    PE X (.Call (.Name x p) (e :: es) [] pos) (tCall sp dvs E t) := by
  intro pins s σ H Q I h
  refine wpAny_Call_Name_kw (ld_glob I hg hm ?_ hdb)
  refine PySem.W.callWith_K (h₀ := X.base) I.ok.mod.kin hk (thn (ha pos pins s σ H _ I h) fun us s1 ⟨vs, H1, I1, r, q⟩ => ⟨I1.kIn, ?_⟩) he hpl
  exact run_fn F hr hb hd hx I1 r q
theorem pe_meth {pl : Sem Bool} (he : PE X o ta) (c : Cls X.K C) (hm : Meth X.K C m f) (F : FnOk X.prog X.w X.K X.mg X.base CX k f fd ps sp) (hr : Room k X.A) (hb : Binds X.K fd ps ds) (hd : Vals dvs ds) (hx : Passes CX X E) (ha : PA X (e :: es) t)
    (hst : starEach (e :: es) X.env = (false, eval e X.env) :: starEach es X.env := by rfl) (hpl : (backTo pos (starEach es X.env)).any (·.1) = false := by rfl)
    (ht : eval (.Call (.Attribute o m apos) (e :: es) [] pos) X.env = (do
      let ov ← eval o X.env
      standAt apos.atName
      let (f, first) ← holding [ov] (getMethod ov m pl)
      callWith pos f first (backTo pos (starEach (e :: es) X.env)) (backToKw pos (keywordEach [] X.env))) := by rfl) :
    PE X (.Call (.Attribute o m apos) (e :: es) [] pos) (tMeth C m sp dvs E ta t) := by
  intro pins s σ H Q I h
  refine PySem.W.methodCall_KW (pl := pl) (thn (he pins s σ H _ I h) fun u s1 ⟨x, H1, I1, rx, a, dx, fs, ex, ea, l, q⟩ => ?_) ht
  subst ex
  obtain rfl : u = Value.ref a := rx
  refine getmeth_ok I1 ea c hm l ?_
  refine PySem.W.callWith_K (first := [.ref a]) (h₀ := X.base) I.ok.mod.kin hm.kp (thn (ha pos pins s1 σ H1 _ I1 q) fun us s2 ⟨vs, H2, I2, r, q2⟩ => ⟨I2.kIn, ?_⟩) hst hpl
  exact run_fn (us := .ref a :: us) (vs := .ref a :: vs) F hr hb hd hx I2 (.cons rfl r) q2
structure Mk (K : PySem.W.Frag) (C f : Addr) : Prop where
  makes : PySem.W.makesIn K C = true
  init : PySem.W.findIn K (.ref C) "__init__" = some (some (.ref f))
  fn : PySem.W.isFn K (.ref f) = true
  kp : PySem.W.keepIn K (.ref C) = true

theorem run_make {pins : List (Addr × Obj)} {σ : St} {H : Hp} {s : Shared} {Q : VK} {us : List Value} {vs : List V} (M : Mk X.K C f) (F : FnOk X.prog X.w X.K X.mg X.base CX k f fd ps sp) (hr : Room (k + 1) X.A) (hb : Binds X.K fd ps ds) (hd : Vals dvs ds)
    (hx : Passes CX X E) (I : Inv X pins σ H s) (r : Vals vs us)
    (h : ∀ x dx, H x = none → H dx = none → dx ≠ x → sp (.ref x :: (vs ++ dvs)) (upd (upd H dx (.own x)) x (.ins C dx [])) (fun v H2 => v = .non ∧ Q (.ref x) H2) E) :
    wpAny (model X.prog X.w) X.A (call (.ref C) us) (EP X pins σ Q) X.xe s := by
  have hq := h (s.heap.objs.size + 1) s.heap.objs.size (I.hok.fresh (Nat.le_succ _)) (I.hok.fresh (Nat.le_refl _)) (Nat.ne_of_lt (Nat.lt_succ_self _))
  have I2 := Inv.made (C := C) I
  have r2 : Vals (V.ref (s.heap.objs.size + 1) :: (vs ++ dvs)) (Value.ref (s.heap.objs.size + 1) :: (us ++ ds)) := .cons rfl (r.append hd)
  have hl : (Value.ref (s.heap.objs.size + 1) :: us ++ ds).length = ps.length := by
    have e := r2.length
    rw [F.len _ _ _ _ hq] at e
    exact e.symm
  refine wpAny_call (make_map (f := f) I.kIn M.makes M.init (beq_iff_eq.mp M.fn) (codeAny_mono (F.run _ X.stack _ _ ⟨Value.ref (s.heap.objs.size + 1) :: us, []⟩ (Value.ref (s.heap.objs.size + 1) :: (us ++ ds)) _ _ E (hr.make C us [])
    (I2.env0.make C us []) (hb _ (Value.ref (s.heap.objs.size + 1) :: us) I2.kIn hl) r2 hq) fun r s' hq' => ?_))
  cases r with
  | error e => exact hx pins σ _ _ e s' I2 hq'
  | ok fl =>
    cases fl with
    | ret u =>
      obtain ⟨v, H', I3, rv, ev, q3⟩ := I2.after hq'
      subst ev
      exact ⟨rv, ⟨V.ref (s.heap.objs.size + 1), H', I3, rfl, q3⟩⟩
    | next => exact False.elim hq'
    | brk => exact False.elim hq'
    | cont => exact False.elim hq'
theorem pe_make0 (M : Mk X.K C f) (F : FnOk X.prog X.w X.K X.mg X.base CX k f fd ps sp) (hr : Room (k + 1) X.A) (hg : Gl X x) (hm : X.mg x = some (.ref C)) (hb : Binds X.K fd ps ds) (hd : Vals dvs ds) (hx : Passes CX X E)
    (hdb : (x == ("__debug__" : Str)) = false := by decide) : PE X (.Call (.Name x p) [] [] pos) (tMake C sp dvs E tNil) := by
  intro pins s σ H Q I h
  refine wpAny_Call_Name_kw (ld_glob I hg hm ?_ hdb)
  exact PySem.W.callWith_K0 I.kIn M.kp (run_make (us := []) M F hr hb hd hx I .nil h)
end

section
variable {X : Cx} {CX : CXT} {k : Nat} {f C : Addr} {fd : FuncData} {ps ks : List Str} {sp : Sp} {E : XK} {x m : Str} {p pos apos kpos : Pos} {e o : Expr} {es : List Expr} {kws : List Keyword} {te ta : TE} {t tk : TA} {nm : Option Str}
structure KBinds (K : PySem.W.Frag) (fd : FuncData) (ps ks : List Str) (g : List Value → List Value → List Value) (gV : List V → List V → List V) : Prop where
  to : ∀ (s : Shared) (us ws : List Value), K.In s.heap → (g us ws).length = ps.length → BindsTo s fd ⟨us, ks.zip ws⟩ (ps.zip (g us ws))
  rel : ∀ {vs : List V} {us : List Value} {zs : List V} {ws : List Value}, Vals vs us → Vals zs ws → Vals (gV vs zs) (g us ws)
variable {g : List Value → List Value → List Value} {gV : List V → List V → List V}
end

structure FnScope (N P : List Str) (sc : Scope) : Prop where
  kind : sc.kind = .function
  co : sc.isCoroutine = false
  gen : sc.isGenerator = false
  nd : N.Nodup
  pre : N.take P.length = P
  par : ∀ x ∈ P, sc.names.lookup x = some .local ∨ sc.names.lookup x = some .cell
  nofree : ∀ y ∈ sc.names, y.2 ≠ .free

theorem bindL_out {kindOf : Str → Option NameKind} {x : Str} : ∀ {binds : List (Str × Value)} {m : Str → Option Value}, (∀ v, (x, v) ∉ binds) → bindL kindOf binds m x = m x
  | [], _, _ => rfl
  | (n, v) :: r, m, h => by
    unfold bindL
    rw [bindL_out fun w hw => h w (List.mem_cons_of_mem _ hw)]
    split
    · have : x ≠ n := by rintro rfl; exact h v List.mem_cons_self
      simp [this]
    · rfl
theorem bindC_out {kindOf : Str → Option NameKind} {x : Str} : ∀ {binds : List (Str × Value)} {m : Str → Option Value}, (∀ v, (x, v) ∉ binds) → bindC kindOf binds m x = m x
  | [], _, _ => rfl
  | (n, v) :: r, m, h => by
    unfold bindC
    rw [bindC_out fun w hw => h w (List.mem_cons_of_mem _ hw)]
    split
    · rfl
    · have : x ≠ n := by rintro rfl; exact h v List.mem_cons_self
      simp [this]
theorem bindL_get {kindOf : Str → Option NameKind} {x : Str} {v : Value} : ∀ {P : List Str} {vs : List Value} {i : Nat} {m : Str → Option Value}, P.Nodup → P[i]? = some x → vs[i]? = some v → kindOf x = some .local →
    bindL kindOf (P.zip vs) m x = some v
  | [], _, _, _, _, h, _, _ => by simp at h
  | _ :: _, [], _, _, _, _, h, _ => by simp at h
  | p :: P, w :: vs, 0, m, nd, h1, h2, hk => by
    simp at h1 h2; subst h1; subst h2
    show bindL kindOf ((p, w) :: P.zip vs) m p = _
    unfold bindL
    rw [bindL_out fun v hv => (List.nodup_cons.mp nd).1 (List.of_mem_zip hv).1, if_pos hk]
    simp
  | p :: P, w :: vs, i + 1, m, nd, h1, h2, hk => by
    show bindL kindOf ((p, w) :: P.zip vs) m x = _
    unfold bindL
    exact bindL_get (i := i) (List.nodup_cons.mp nd).2 (by simpa using h1) (by simpa using h2) hk
theorem bindC_get {kindOf : Str → Option NameKind} {x : Str} {v : Value} : ∀ {P : List Str} {vs : List Value} {i : Nat} {m : Str → Option Value}, P.Nodup → P[i]? = some x → vs[i]? = some v → kindOf x ≠ some .local →
    bindC kindOf (P.zip vs) m x = some v
  | [], _, _, _, _, h, _, _ => by simp at h
  | _ :: _, [], _, _, _, _, h, _ => by simp at h
  | p :: P, w :: vs, 0, m, nd, h1, h2, hk => by
    simp at h1 h2; subst h1; subst h2
    show bindC kindOf ((p, w) :: P.zip vs) m p = _
    unfold bindC
    rw [bindC_out fun v hv => (List.nodup_cons.mp nd).1 (List.of_mem_zip hv).1, if_neg hk]
    simp
  | p :: P, w :: vs, i + 1, m, nd, h1, h2, hk => by
    show bindC kindOf ((p, w) :: P.zip vs) m x = _
    unfold bindC
    exact bindC_get (i := i) (List.nodup_cons.mp nd).2 (by simpa using h1) (by simpa using h2) hk

def start (N : List Str) (vs : List V) : St := vs.map some ++ List.replicate (N.length - vs.length) none

def cxOf (CX : CXT) (P : Program) (w : World) (K : PySem.W.Frag) (mg : Str → Option Value) (base : Heap) (N : List Str) (qual : Str) (scope : Scope) (f : Addr) (cd : Value) (A : Around) (outer : List Env) (s : Shared) (H : Hp) (E : XK) : Cx where
  prog := P
  w := w
  K := K
  mg := mg
  base := base
  A := A.deeper (envOfC qual scope s.heap.objs.size f cd)
  N := N
  s_0 := s
  H_0 := H
  env := envOfC qual scope s.heap.objs.size f cd
  outer := outer
  stack := envOfC qual scope s.heap.objs.size f cd :: outer
  ex := []
  calm := true
  fn := fun _ => true
  pn := []
  xe := fun e s' => wpAny (model P w) (A.deeper (envOfC qual scope s.heap.objs.size f cd)) (leaving (envOfC qual scope s.heap.objs.size f cd) e) (fun _ s'' => CX outer H s E e s'') (fun e' s'' => CX outer H s E e' s'') s'

theorem cell_has {sc : Scope} {n : Nat} {x : Str} (h : sc.names.lookup x = some .cell) : ∃ c, (cellsFrom n sc.names []).lookup x = some c := by
  have q := PySem.W.cellsFrom_some sc.names n [] (.inl h)
  exact Option.isSome_iff_exists.mp q

theorem inv_start {CX : CXT} {P : Program} {w : World} {K : PySem.W.Frag} {mg : Str → Option Value} {base : Heap} {N ps : List Str} {qual : Str} {scope : Scope} {f : Addr} {cd : Value} {A : Around} {outer : List Env} {s s1 : Shared} {H : Hp} {E : XK} {us : List Value} {vs : List V}
    (S : FnScope N ps scope) (hd : A.handled = none) (e0 : Env0 P w K mg base A outer s H) (hl : vs.length = ps.length) (r : Vals vs us)
    (x : InCallC s s.heap.objs.size (bindL (envOfC qual scope s.heap.objs.size f cd).kindOf (ps.zip us) fun _ => none) (cellsFrom (s.heap.objs.size + 1) scope.names []) (bindC (envOfC qual scope s.heap.objs.size f cd).kindOf (ps.zip us) fun _ => none) s1) :
    Inv (cxOf CX P w K mg base N qual scope f cd A outer s H E) [] (start N vs) H s1 := by
  have hpl : ps.length ≤ N.length := by have := congrArg List.length S.pre; rw [List.length_take] at this; omega
  obtain ⟨h1, tk, rfl, hk⟩ := x.done
  have noA : ∀ b : Addr, b ∉ (cxOf CX P w K mg base N qual scope f cd A outer s H E).ex := fun b z => absurd (show b ∈ ([] : List Addr) from z) (by simp)
  refine ⟨⟨e0.mod, S.kind, rfl, rfl, Nat.le_refl _, fun y z c h1 h2 => ?_, fun y hy => ?_, fun y c _ h => ?_, fun _ => hd, Around.frames_deeper e0.frames, .inr ⟨rfl, rfl⟩, fun b z => absurd z (noA b), e0.bs, e0.bsz, fun b _ _ => noA b, fun b z => absurd z (noA b), e0.funs, e0.frf⟩,
    rfl, e0.bare, Un.kept hk, ⟨_, x.toInCall.ns, fun i y v h1 h2 h3 => ?_⟩, fun y c h => ⟨_, x.cell y c h⟩, e0.hok.fresh (Nat.le_refl _), fun y c h => ?_, fun p hp => absurd (show p ∈ ([] : List (Addr × Obj)) from hp) (by simp), e0.hok.kept hk, ?_⟩
  · exact name_of_addr x.apart (PySem.mem_of_lookup h1) (PySem.mem_of_lookup h2)
  · have hy : scope.names.lookup y = some .cell ∨ scope.names.lookup y = some .free := hy
    rcases hy with hy | hy
    · exact cell_has hy
    · exact absurd rfl (S.nofree _ (PySem.mem_of_lookup hy))
  · exact Nat.le_of_lt (x.above y c (PySem.mem_of_lookup h))
  · have hi : i < vs.length := by
      unfold start at h2
      by_cases hi : i < vs.length
      · exact hi
      · rw [List.getElem?_append_right (by simpa using hi)] at h2
        rw [List.getElem?_replicate] at h2
        split at h2 <;> cases h2
    have ha : vs[i]? = some v := by
      unfold start at h2
      rw [List.getElem?_append_left (by simpa using hi), List.getElem?_map] at h2
      cases e : vs[i]? with
      | none => rw [e] at h2; cases h2
      | some a => rw [e] at h2; cases h2; rfl
    obtain ⟨u, hu, rv⟩ := r.get ha
    have hp : ps[i]? = some y := by
      rw [← S.pre, List.getElem?_take_of_lt (by omega)]; exact h1
    have ndP : ps.Nodup := by rw [← S.pre]; exact S.nd.sublist (List.take_sublist _ _)
    refine ⟨u, rv, ?_⟩
    rcases S.par y (List.mem_of_getElem? hp) with k | k
    · exact .inl ⟨k, bindL_get ndP hp hu k⟩
    · obtain ⟨c, e⟩ := cell_has (n := s.heap.objs.size + 1) k
      refine .inr ⟨.inl k, c, e, ?_⟩
      have q := x.cell y c e
      rw [bindC_get ndP hp hu (by show scope.names.lookup y ≠ _; rw [k]; decide)] at q
      exact q
  · exact e0.hok.fresh (Nat.le_of_lt (x.above y c (PySem.mem_of_lookup h)))
  · unfold start
    show _ = N.length
    rw [List.length_append, List.length_map, List.length_replicate]
    omega

theorem fn_of {CX : CXT} {P : Program} {w : World} {K : PySem.W.Frag} {mg : Str → Option Value} {base : Heap} {k : Nat} {f : Addr} {name qual : Str} {params : Arguments} {body : List Stmt} {scope : Scope} {dV kV doc pm cdv ct oc : Value} {an od : Option Addr}
    {osl : Array (Option Value)} {N ps : List Str} {sp : Sp} (lk : K.lookup f = some ⟨oc, od, .func (PySem.W.fnOf name qual params body scope dV kV doc pm an cdv ct), osl⟩) (hcd : PySem.W.codeIn K cdv qual = true) (S : FnScope N ps scope)
    (len : ∀ vs H Q E, sp vs H Q E → vs.length = ps.length)
    (hbody : ∀ (A : Around) (outer : List Env) (s : Shared) (H : Hp) (vs : List V) (Q : VK) (E : XK), Room k (A.deeper (envOfC qual scope s.heap.objs.size f cdv)) → sp vs H Q E →
      ∃ t, PSs (cxOf CX P w K mg base N qual scope f cdv A outer s H E) body t ∧ t { nx := fun _ H' => Q .non H', rt := Q } (start N vs) H) :
    FnOk P w K mg base CX (k + 1) f (PySem.W.fnOf name qual params body scope dV kV doc pm an cdv ct) ps sp := by
  refine ⟨len, fun A outer s H args us vs Q E hr e0 hb r hsp => ?_⟩
  have hl := len _ _ _ _ hsp
  have KX : K.In s.heap := e0.mod.kin.keeps fun b o e => (e0.bs b o e).1
  have lim : s.heap.NoLimit := e0.mod.nolimit.keeps fun b o e => (e0.bs b o e).1
  have hkind : ∀ y ∈ ps.zip us, scope.names.lookup y.1 = some .local ∨ (scope.names.lookup y.1 = some .cell ∧ ((cellsFrom (s.heap.objs.size + 1) scope.names []).lookup y.1).isSome = true) := fun ⟨n, v⟩ hy => by
    rcases S.par n (List.of_mem_zip hy).1 with q | q
    · exact .inl q
    · exact .inr ⟨q, PySem.W.cellsFrom_some _ _ _ (.inl q)⟩
  refine codeAny_call_function hr.depth (KX _ _ lk) rfl S.co S.gen rfl (PySem.W.codeRec_of KX hcd) (hb _ _ _ _ ?_)
  refine wpAny_newFunctionEnv_cells S.kind hkind fun env he s1 x => ?_
  subst he
  refine ⟨lim.keeps x.toInCall.keep, codeAny_func ?_⟩
  obtain ⟨t, ht, hq⟩ := hbody A outer s H vs Q E (hr.deeper _) hsp
  have I : Inv (cxOf CX P w K mg base N qual scope f cdv A outer s H E) [] (start N vs) H s1 := inv_start S hr.hd e0 hl r x
  refine wpAny_mono (ht [] s1 (start N vs) H _ I hq) (fun fl s' hs => ?_) fun e s' hs => hs
  have fin : ∀ {σ' : St} {H' : Hp} {v : V} {u : Value}, Inv (cxOf CX P w K mg base N qual scope f cdv A outer s H E) [] σ' H' s' → RelV v u → Q v H' → CE outer P w H s Q u s' :=
    fun {σ' H' v u} J rv q => ⟨v, H', J.os, J.bare, J.base, J.hok, rv, q⟩
  cases fl with
  | ret u =>
    obtain ⟨v, σ', H', J, rv, q⟩ := hs
    exact fin J rv q
  | next =>
    obtain ⟨σ', H', J, q⟩ := hs
    exact fin (v := V.non) (u := Value.none) J rfl q
  | brk =>
    obtain ⟨_, _, _, q⟩ := hs
    exact False.elim q
  | cont =>
    obtain ⟨_, _, _, q⟩ := hs
    exact False.elim q
end L2

namespace L2
open PySem PySem.Spec PyProof.Rows
section
variable {X : Cx} {x : Str} {p pos : Pos} {e : Expr} {es : List Expr} {t : TA} {id T : String} {r : List V → Hp → VK → Prop}

def tCB (r : List V → Hp → VK → Prop) (t : TA) : TE := fun σ H Q => t σ H fun vs H1 => r vs H1 Q
theorem pe_callB (hc : CallR X (.builtin id) r) (hg : Gl X x) (hm : X.mg x = none) (hv : bootBuiltins x = some (.builtin id)) (ha : PA X (e :: es) t) (hn : x ≠ "__name__" := by decide) (hdb : (x == ("__debug__" : Str)) = false := by decide)
    (he : starEach (e :: es) X.env = (false, eval e X.env) :: starEach es X.env := by rfl) (hpl : (backTo pos (starEach es X.env)).any (·.1) = false := by rfl) : PE X (.Call (.Name x p) (e :: es) [] pos) (tCB r t) := by
  intro pins s σ H Q I h
  refine wpAny_Call_Name_kw (ld_blt I hg hm hv ?_ hn hdb)
  exact PyProof.Rows.callWith_builtin1 (thn (ha pos pins s σ H _ I h) fun us s1 ⟨vs, H1, I1, r1, q1⟩ => hc pins s1 σ H1 vs us Q I1 r1 q1) he hpl
end
end L2

namespace HT
open PySem PyProof.Rows

section
open PySem.SeqAt
open PySem.AutoSeq1 (wpAny_loadPart')
open PySem.MeetsSeq PySem.MeetsSeq2 PySem.MeetsSeq3

end

section
variable {prog : Program} {w : World} {A : Around} {E : Value → Shared → Prop} {s : Shared}

def sIx (n d : Nat) : Option Int → Nat
  | none => d
  | some v => if v < 0 then (v + (n : Int)).toNat else min v.toNat n
theorem sIx_nat (n d k : Nat) : sIx n d (some (k : Int)) = min k n := by
  show (if (k : Int) < 0 then ((k : Int) + (n : Int)).toNat else min (k : Int).toNat n) = min k n
  rw [if_neg (by omega), Int.toNat_natCast]
end
end HT

namespace L2
open PySem PySem.Spec PyProof.Rows

abbrev TO := St → Hp → (Option Int → Hp → Prop) → Prop
def PO (X : Cx) (e : Option Expr) (t : TO) : Prop :=
  ∀ (pins : List (Addr × Obj)) (s : Shared) (σ : St) (H : Hp) (Q : Option Int → Hp → Prop), Inv X pins σ H s → t σ H Q →
    wpAny (model X.prog X.w) X.A (evalPart e X.env) (fun u s' => ∃ o H', Inv X pins σ H' s' ∧ IsPart u o ∧ Q o H') X.xe s
def tNoPart : TO := fun _ H Q => Q none H
def tPart (t : TE) : TO := fun σ H Q => t σ H fun x H1 => ∃ i, x = .int i ∧ Q (some i) H1

section
variable {X : Cx} {e : Expr} {te : TE} {lo hi : Option Expr} {tl th : TO} {pos p2 : Pos}

theorem po_none : PO X none tNoPart := by
  intro pins s σ H Q I h
  rw [evalPart_none]
  exact wpAny_pure ⟨none, H, I, .none, h⟩
theorem po_some (h : PE X e te) : PO X (some e) (tPart te) := by
  intro pins s σ H Q I hw
  rw [evalPart_some]
  refine thn (h pins s σ H _ I hw) fun u s1 ⟨x, H1, I1, r1, q1⟩ => ?_
  obtain ⟨i, rfl, q⟩ := q1
  obtain ⟨t, rfl⟩ := r1
  exact ⟨some i, H1, I1, .int i t, q⟩

def SlR (X : Cx) (r : V → Option Int → Option Int → Hp → VK → Prop) : Prop :=
  ∀ (pins : List (Addr × Obj)) (s : Shared) (σ : St) (H : Hp) (x : V) (v vl vu : Value) (lo hi : Option Int) (sl : Addr) (Q : VK), Inv X pins σ H s → RelV x v → s.heap.IsSliceOf sl vl vu .none → IsPart vl lo → IsPart vu hi → r x lo hi H Q →
    ∃ T id, typeLookup (.type T) "__getitem__" = pure (some (.builtin id)) ∧ s.TypeIs v T ∧ wpAny (model X.prog X.w) X.A (getItem v (.ref sl)) (EP X pins σ Q) X.xe s
def tSl (r : V → Option Int → Option Int → Hp → VK → Prop) (te : TE) (tl th : TO) : TE := fun σ H Q => te σ H fun x H1 => tl σ H1 fun l H2 => th σ H2 fun u H3 => r x l u H3 Q
theorem pe_slice {r : V → Option Int → Option Int → Hp → VK → Prop} (hr : SlR X r) (he : PE X e te) (hl : PO X lo tl) (hu : PO X hi th) : PE X (.Subscript e (.Slice lo hi none p2) pos) (tSl r te tl th) := by
  intro pins s σ H Q I h
  refine Subscript_ (thn (he pins s σ H _ I h) fun v s1 ⟨x, H1, I1, r1, q1⟩ => ?_)
  refine wpAny_Slice (thn (hl pins s1 σ H1 _ I1 q1) fun vl s2 ⟨l, H2, I2, pl, q2⟩ => thn (hu pins s2 σ H2 _ I2 q2) fun vu s3 ⟨u, H3, I3, pu, q3⟩ => ?_)
  rw [evalPart_none]
  refine wpAny_pure ?_
  have I4 : Inv X pins σ H3 { s3 with heap := s3.heap.push { cls := .type "slice", data := .fields #[vl, vu, .none] } } := I3.kept (t' := s3.toks) fun b ob q => Heap.get?_push_of_some _ q
  obtain ⟨T, id, hT, ht, hg⟩ := hr pins { s3 with heap := s3.heap.push { cls := .type "slice", data := .fields #[vl, vu, .none] } } σ H3 x v vl vu l u s3.heap.objs.size Q I4 r1 (Heap.IsSliceOf.new ..) pl pu q3
  show wpAny (model X.prog X.w) X.A (subscriptTail e (.Slice lo hi none p2) v (.ref s3.heap.objs.size)) (EP X pins σ Q) X.xe { s3 with heap := s3.heap.push { cls := .type "slice", data := .fields #[vl, vu, .none] } }
  exact tail_any (ops := [.ref s3.heap.objs.size, v]) ht hT hg (by with_unfolding_all rfl)

def cutV (xs : List V) (lo hi : Option Int) : List V := (xs.drop (HT.sIx xs.length 0 lo)).take (HT.sIx xs.length xs.length hi - HT.sIx xs.length 0 lo)
theorem cutV_length (xs : List V) (lo hi : Option Int) : (cutV xs lo hi).length ≤ xs.length := by
  unfold cutV
  rw [List.length_take, List.length_drop]
  omega
end
end L2

namespace L2
open PySem PySem.Spec PyProof.Rows

def ixN (n : Nat) (i : Int) : Option Nat := if 0 ≤ i then (if i < n then some i.toNat else none) else if -(n : Int) ≤ i then some (i + n).toNat else none
def atI {α : Type} (xs : List α) (i : Int) : Option α := (ixN xs.length i).bind fun j => xs[j]?
theorem ixN_seq {n : Nat} {i : Int} {j : Nat} (h : ixN n i = some j) : seqIndex? i n = some j ∧ j < n ∧ -(n : Int) ≤ i ∧ i < n := by
  unfold ixN at h
  by_cases h0 : 0 ≤ i
  · rw [if_pos h0] at h
    by_cases h1 : i < n
    · rw [if_pos h1] at h
      have e : i.toNat = j := Option.some.inj h
      exact ⟨by rw [seqIndex_of h0 h1, e], by omega, by omega, h1⟩
    · rw [if_neg h1] at h; cases h
  · rw [if_neg h0] at h
    by_cases h1 : -(n : Int) ≤ i
    · rw [if_pos h1] at h
      have e : (i + n).toNat = j := Option.some.inj h
      exact ⟨by rw [seqIndex_neg (by omega) h1, e], by omega, h1, by omega⟩
    · rw [if_neg h1] at h; cases h
theorem atI_get {α : Type} {xs : List α} {i : Int} {v : α} (h : atI xs i = some v) : ∃ j, seqIndex? i xs.length = some j ∧ xs[j]? = some v ∧ j < xs.length ∧ -(xs.length : Int) ≤ i ∧ i < xs.length := by
  unfold atI at h
  cases e : ixN xs.length i with
  | none => rw [e] at h; cases h
  | some j =>
    rw [e] at h
    obtain ⟨h1, h2, h3, h4⟩ := ixN_seq e
    exact ⟨j, h1, h, h2, h3, h4⟩
theorem atI_nat {α : Type} {xs : List α} {j : Nat} {v : α} (h : xs[j]? = some v) : atI xs (j : Int) = some v := by
  have hj : j < xs.length := (List.getElem?_eq_some_iff.mp h).1
  have e : ixN xs.length (j : Int) = some j := by
    unfold ixN
    rw [if_pos (by omega), if_pos (by omega)]; simp
  unfold atI; rw [e]; exact h
def PlainIx (b : Expr) : Prop := ∀ o i, subscripted b false o i = operate [o, i] (getItem o i)
def IxR (X : Cx) (r : R2) : Prop :=
  ∀ (value slice : Expr) (pins : List (Addr × Obj)) (s : Shared) (σ : St) (H : Hp) (x y : V) (v u : Value) (Q : VK), Inv X pins σ H s → RelV x v → RelV y u → r x y H Q →
    subscripted slice false v u = operate [v, u] (getItem v u) → wpAny (model X.prog X.w) X.A (subscriptTail value slice v u) (EP X pins σ Q) X.xe s
def MtR (X : Cx) (id : String) (r : V → List V → Hp → VK → Prop) : Prop :=
  ∀ (pins : List (Addr × Obj)) (s : Shared) (σ : St) (H : Hp) (x : V) (xs : List V) (v : Value) (us : List Value) (Q : VK), Inv X pins σ H s → RelV x v → Vals xs us → r x xs H Q →
    wpAny (model X.prog X.w) X.A (call (.builtin id) (v :: us)) (EP X pins σ Q) X.xe s
section
variable {X : Cx} {a b : Expr} {ta tb : TE} {pos : Pos}
theorem pe_ix {r : R2} (hr : IxR X r) (ha : PE X a ta) (hb : PE X b tb) (hs : PlainIx b) : PE X (.Subscript a b pos) (tOp r ta tb) := by
  intro pins s σ H Q I h
  exact Subscript_ (binT ha hb I h fun v u s2 x y H2 I2 rx ry q => hr a b pins s2 σ H2 x y v u Q I2 rx ry q (hs _ _))

def rIxL (K : PySem.W.Frag) : R2 := fun x y H Q => ∃ p xs i v, x = .ref p ∧ y = .int i ∧ SqL K H p xs ∧ atI xs i = some v ∧ Q v H
def rIxT (K : PySem.W.Frag) : R2 := fun x y H Q => ∃ p xs i v, x = .ref p ∧ y = .int i ∧ SqT K H p xs ∧ atI xs i = some v ∧ Q v H
theorem ix_list : IxR X (rIxL X.K) := by
  intro value slice pins s σ H x y v u Q I rx ry h hs
  obtain ⟨p, xs, i, z, rfl, rfl, hq, he, q⟩ := h
  cases rx
  obtain ⟨t, rfl⟩ := ry
  obtain ⟨its, r, pl, hz⟩ := I.list hq
  obtain ⟨j, h1, h2, h3, h4, h5⟩ := atI_get he
  obtain ⟨w, ew, rw'⟩ := r.get h2
  have hl := r.length
  have hn := line63
  have fin : EP X pins σ Q w s := ⟨z, H, I, rw', q⟩
  by_cases h0 : 0 ≤ i
  · have hj : i.toNat = j := by
      rw [seqIndex_of h0 h5] at h1
      exact Option.some.inj h1
    exact item_listR pl.isList h0 (by omega) (by rw [hj]; simpa using ew) fin hs
  · have hj : (i + (its.toArray.size : Int)).toNat = j := by
      rw [seqIndex_neg (by omega) h4] at h1
      rw [List.size_toArray, ← hl]
      exact Option.some.inj h1
    exact subscriptTail_builtinR (x := w) pl.isList.typeIs slot_list_getitem.lookup
      (wpAny_getItem_list_neg (Q := fun r s' => r = w ∧ EP X pins σ Q r s') pl.isList (by omega) (by rw [List.size_toArray] <;> omega) (by omega) (by rw [hj]; simpa using ew) ⟨rfl, fin⟩) hs
theorem ix_tup : IxR X (rIxT X.K) := by
  intro value slice pins s σ H x y v u Q I rx ry h hs
  obtain ⟨p, xs, i, z, rfl, rfl, hq, he, q⟩ := h
  cases rx
  obtain ⟨t, rfl⟩ := ry
  obtain ⟨its, r, pl, hz⟩ := I.tuple hq
  obtain ⟨j, h1, h2, h3, h4, h5⟩ := atI_get he
  obtain ⟨w, ew, rw'⟩ := r.get h2
  have hl := r.length
  have hn := line63
  have fin : EP X pins σ Q w s := ⟨z, H, I, rw', q⟩
  exact subscriptTail_builtinR (x := w) pl.typeIs slot_tuple_getitem.lookup
    (getItem_tuple (j := j) (Q := fun r s' => r = w ∧ EP X pins σ Q r s') pl (by omega) (by omega) (by rw [List.size_toArray, ← hl]; exact h1) (by simpa using ew) ⟨rfl, fin⟩) hs
theorem mapSeq_set (its : List Value) (n j : Nat) (u : Value) : Obj.mapSeq (·.setIfInBounds j u) { cls := .type "list", data := .seq its.toArray n } = { cls := .type "list", data := .seq (its.set j u).toArray n } := by
  simp [Obj.mapSeq]
theorem Inv.lst {pins : List (Addr × Obj)} {σ : St} {H : Hp} {s : Shared} {p : Addr} {xs : List V} (I : Inv X pins σ H s) (h : H p = some (.lst xs)) :
    ∃ (its : List Value) (n : Nat), Vals xs its ∧ s.heap.get? p = some { cls := .type "list", data := .seq its.toArray n } ∧ xs.length ≤ sizeLine := by
  obtain ⟨z, its, n, r, e⟩ := I.hok p _ h
  exact ⟨its, n, r, e, z⟩
theorem Inv.lstUpd {pins : List (Addr × Obj)} {σ : St} {H : Hp} {s : Shared} {p : Addr} {xs ys : List V} {its its' : List Value} {n n' : Nat} {f : Obj → Obj} (I : Inv X pins σ H s) (h : H p = some (.lst xs))
    (ho : s.heap.get? p = some { cls := .type "list", data := .seq its.toArray n }) (hf : f { cls := .type "list", data := .seq its.toArray n } = { cls := .type "list", data := .seq its'.toArray n' }) (r : Vals ys its') (hz : ys.length ≤ sizeLine) (t : Nat) :
    Inv X pins σ (upd H p (.lst ys)) { s with heap := s.heap.update p f, toks := t } := by
  have e : (s.heap.update p f).get? p = some { cls := .type "list", data := .seq its'.toArray n' } := by
    rw [Heap.get?_update_self f ho (by rw [hf] <;> rfl), hf]
  refine I.write (x := p) (e := p) (by rw [h]; trivial) (.inl rfl) (fun b u hb q => (Heap.get?_update_other _ _ (Ne.symm hb)).trans q) ⟨_, e⟩ ?_
  exact ⟨hz, its', n', r, e⟩
def rSetL : V → V → V → Hp → (Hp → Prop) → Prop := fun o i v H Q => ∃ p xs k j, o = .ref p ∧ i = .int k ∧ H p = some (.lst xs) ∧ ixN xs.length k = some j ∧ Q (upd H p (.lst (xs.set j v)))
theorem set_list : PSet X rSetL := by
  intro pins s σ H o i v ov iv u Q I ro ri rv h
  obtain ⟨p, xs, k, j, rfl, rfl, hp, hj, q⟩ := h
  cases ro
  obtain ⟨t, rfl⟩ := ri
  obtain ⟨its, n, r, ho, hz⟩ := I.lst hp
  obtain ⟨h1, h2, h3, h4⟩ := ixN_seq hj
  have hl := r.length
  have hn := line63
  have I' : Inv X pins σ (upd H p (.lst (xs.set j v))) { s with heap := s.heap.update p (Obj.mapSeq (·.setIfInBounds j u)) } :=
    I.lstUpd hp ho (mapSeq_set its n j u) (r.set rv j) (by rw [List.length_set]; exact hz) s.toks
  by_cases h0 : 0 ≤ k
  · have hk : k.toNat = j := by
      rw [seqIndex_of h0 h4] at h1
      exact Option.some.inj h1
    exact PySem.W.ki_setAt ho h0 (by omega) (by rw [List.size_toArray, ← hl]; exact h4) (by rw [hk]; exact ⟨_, I', q⟩)
  · have hk : (k + (its.toArray.size : Int)).toNat = j := by
      rw [seqIndex_neg (by omega) h3] at h1
      rw [List.size_toArray, ← hl]
      exact Option.some.inj h1
    exact PySem.W.ki_setBack ho (by omega) (by rw [List.size_toArray, ← hl]; exact h3) (by omega) (by rw [hk]; exact ⟨_, I', q⟩)

theorem slice_bounds (lo hi : Option Int) (n : Nat) : (sliceBounds lo hi none n).1 = ((HT.sIx n 0 lo : Nat) : Int) ∧ (sliceBounds lo hi none n).2.1 = ((HT.sIx n n hi : Nat) : Int) ∧ (sliceBounds lo hi none n).2.2 = 1 := by
  refine ⟨?_, ?_, rfl⟩
  · cases lo with
    | none => simp [sliceBounds, HT.sIx]
    | some i =>
      simp only [sliceBounds, HT.sIx, Option.getD_none, show (1 : Int) > 0 by decide, if_true]
      by_cases h : i < 0
      · simp only [h, if_true] <;> omega
      · simp only [h, if_false] <;> omega
  · cases hi with
    | none => simp [sliceBounds, HT.sIx]
    | some i =>
      simp only [sliceBounds, HT.sIx, Option.getD_none, show (1 : Int) > 0 by decide, if_true]
      by_cases h : i < 0
      · simp only [h, if_true] <;> omega
      · simp only [h, if_false] <;> omega
theorem slicePick_cut (its : List Value) (lo hi : Option Int) : slicePick its.toArray lo hi none = ((its.drop (HT.sIx its.length 0 lo)).take (HT.sIx its.length its.length hi - HT.sIx its.length 0 lo)).toArray := by
  obtain ⟨h1, h2, h3⟩ := slice_bounds lo hi its.toArray.size
  unfold slicePick
  rw [h1, h2, h3]
  simp only [sliceRange_one, pick_run, List.size_toArray] <;> rfl
def rSlL (K : PySem.W.Frag) : V → Option Int → Option Int → Hp → VK → Prop := fun x lo hi H Q => ∃ a xs, x = .ref a ∧ SqL K H a xs ∧ ∀ p, H p = none → Q (.ref p) (upd H p (.lst (cutV xs lo hi)))
theorem sl_list : SlR X (rSlL X.K) := by
  intro pins s σ H x v vl vu lo hi sl Q I rx hs pl pu h
  obtain ⟨a, xs, rfl, hx, q⟩ := h
  cases rx
  obtain ⟨its, r, ht, hz⟩ := I.list hx
  have hlen := r.length
  refine ⟨"list", _, slot_list_getitem.lookup, ht.isList.typeIs, ?_⟩
  refine wpAny_getItem_list_slice ht.isList hs pl pu .none (by simp) ?_ (by rw [List.size_toArray] <;> omega)
  rw [slicePick_cut, ← hlen]
  refine ⟨.ref s.heap.objs.size, _, I.laid (t' := s.toks) (o := .lst (cutV xs lo hi)) (fun b ob q => Heap.get?_push_of_some _ q) (Nat.le_refl _) ?_, rfl, q _ (I.hok.fresh (Nat.le_refl _))⟩
  exact ⟨Nat.le_trans (cutV_length xs lo hi) hz, _, 0, (r.drop (HT.sIx xs.length 0 lo)).take (HT.sIx xs.length xs.length hi - HT.sIx xs.length 0 lo), Heap.get?_push_size _ rfl⟩

theorem call_len_seq : CallR X (.builtin "len") (fun xs H Q => ∃ p ys, xs = [.ref p] ∧ (SqL X.K H p ys ∨ SqT X.K H p ys) ∧ Q (.int ys.length) H) := by
  intro pins s σ H xs us Q I r h
  obtain ⟨p, ys, rfl, hq, q⟩ := h
  obtain ⟨u, rfl, rx⟩ := vals1 r
  cases rx
  have hn := line63
  rcases hq with hq | hq
  · obtain ⟨its, r', pl, hz⟩ := I.list hq
    have hlen := r'.length
    exact Calls.call_len_list pl.isList (by simp only [List.size_toArray] <;> omega) ⟨.int ys.length, H, I.tok _, ⟨s.toks + 1, by rw [List.size_toArray, hlen]⟩, q⟩
  · obtain ⟨its, r', pl, hz⟩ := I.tuple hq
    have hlen := r'.length
    exact len_tuple pl (by simp only [List.size_toArray] <;> omega) ⟨.int ys.length, H, I.tok _, ⟨s.toks + 1, by rw [List.size_toArray, hlen]⟩, q⟩
def tyV (K : PySem.W.Frag) (T : String) (x : V) (H : Hp) : Prop := match x with
  | .str _ => T = "str"
  | .int _ => T = "int"
  | .ref p => (T = "list" ∧ ∃ xs, SqL K H p xs) ∨ (T = "tuple" ∧ ∃ o, K.lookup p = some o ∧ o.cls = .type "tuple" ∧ o.dict = none) ∨
      (T = "dict" ∧ ((∃ kvs, H p = some (.dK kvs)) ∨ ∃ kvs, H p = some (.dT kvs))) ∨ (T = "set" ∧ ∃ S n, H p = some (.set S n))
  | _ => False
theorem tyV_is {pins : List (Addr × Obj)} {σ : St} {H : Hp} {s : Shared} {T : String} {x : V} {v : Value} (I : Inv X pins σ H s) (r : RelV x v) (ty : tyV X.K T x H) :
    s.TypeIs v T ∧ ∀ a, v = .ref a → ∃ ob, s.heap.get? a = some ob ∧ ob.dict = none := by
  cases x with
  | str z =>
    obtain ⟨t, rfl⟩ := r
    cases (show T = "str" from ty)
    exact ⟨typeIs_str s z t, fun _ e => nomatch e⟩
  | int i =>
    obtain ⟨t, rfl⟩ := r
    cases (show T = "int" from ty)
    exact ⟨typeIs_int s i t, fun _ e => nomatch e⟩
  | ref p =>
    cases r
    rcases ty with ⟨rfl, xs, hq⟩ | ⟨rfl, o, hk, hc, hd⟩ | ⟨rfl, hk⟩ | ⟨rfl, S, n, hk⟩
    · obtain ⟨its, _, pl, _⟩ := I.list hq
      refine ⟨pl.isList.typeIs, fun a e => ?_⟩
      cases e
      obtain ⟨o, n, e, c, hd, _⟩ := pl
      exact ⟨o, e, hd⟩
    · refine ⟨⟨o, I.kIn p o hk, hc⟩, fun a e => ?_⟩
      cases e
      exact ⟨o, I.kIn _ o hk, hd⟩
    · have z : ∃ o, s.heap.get? p = some o ∧ o.ExactDict := by
        rcases hk with ⟨kvs, hk⟩ | ⟨kvs, hk⟩
        · obtain ⟨_, _, _, _, o, _, _, e, ex, _⟩ := I.hok p _ hk
          exact ⟨o, e, ex⟩
        · obtain ⟨_, _, _, _, o, _, _, e, ex, _⟩ := I.hok p _ hk
          exact ⟨o, e, ex⟩
      obtain ⟨o, e, ex⟩ := z
      refine ⟨⟨o, e, ex.1⟩, fun a e2 => ?_⟩
      cases e2
      exact ⟨o, e, ex.2.1⟩
    · obtain ⟨o, _, _, _, e, ex, _⟩ := I.hok p _ hk
      refine ⟨⟨o, e, ex.1⟩, fun a e2 => ?_⟩
      cases e2
      exact ⟨o, e, ex.2.1⟩
  | _ => exact False.elim ty
def tBM (K : PySem.W.Frag) (T : String) (r : V → List V → Hp → VK → Prop) (to : TE) (t : TA) : TE := fun σ H Q => to σ H fun x H1 => tyV K T x H1 ∧ t σ H1 fun xs H2 => r x xs H2 Q
variable {o e : Expr} {es : List Expr} {to : TE} {t : TA} {name : Str} {apos cpos : Pos} {T id : String} {r : V → List V → Hp → VK → Prop}
theorem pe_bm (pa : PlainAttrs T) (slot : Slot T name id) (hty : typeOf (.builtin id) = pure (.type "method_descriptor")) (hm : MtR X id r) (ho : PE X o to) (ha : PA X (e :: es) t)
    (hbase : attributeBase o name X.env (eval o X.env) = eval o X.env := by rfl)
    (hfew : ((backTo cpos (starEach (e :: es) X.env)).all (fun x => !x.1) && (backToKw cpos (keywordEach [] X.env)).all (fun x => x.1.isSome)
      && decide ((e :: es).length + ([] : List Keyword).length + (if ([] : List Keyword).isEmpty then 0 else 1) < 30)) = true := by rfl)
    (hline : (apos.endLine == cpos.line) = true := by rfl) (hs : starEach (e :: es) X.env = (false, eval e X.env) :: starEach es X.env := by rfl) (hplain : (backTo cpos (starEach es X.env)).any (·.1) = false := by rfl) :
    PE X (.Call (.Attribute o name apos) (e :: es) [] cpos) (tBM X.K T r to t) := by
  intro pins s σ H Q I h
  refine wpAny_Call_method_late hbase hfew hline rfl (thn (ho pins s σ H _ I h) fun v s1 ⟨x, H1, I1, r1, ty, q1⟩ => ?_)
  obtain ⟨h1, h2⟩ := tyV_is I1 r1 ty
  refine ⟨T, id, pa, slot, hty, h1, h2, ?_⟩
  have hA := ha cpos pins s1 σ H1 _ I1 q1
  rw [hs] at hA ⊢
  refine Calls.callWith_builtin (by show (false || (backTo cpos (starEach es X.env)).any (·.1)) = false; rw [hplain] <;> rfl) (Calls.evalArgs_plain ?_)
  exact thn hA fun us s2 ⟨vs, H2, I2, r2, q2⟩ => hm pins s2 σ H2 x vs v us Q I2 r1 r2 q2
end
end L2

namespace L2
open PySem PySem.Spec PyProof.Rows

def MtM (X : Cx) (id : String) (r : V → List V → Hp → VK → Prop) : Prop :=
  ∀ (pins : List (Addr × Obj)) (s : Shared) (σ : St) (H : Hp) (x : V) (xs : List V) (v : Value) (us : List Value) (Q : VK), Inv X pins σ H s → RelV x v → Vals xs us → r x xs H Q →
    wpAny (model X.prog X.w) X.A (call (.builtin id) (v :: us)) (EP X pins σ Q) X.xe s

theorem Vals.one : ∀ {x : V} {us : List Value}, Vals [x] us → ∃ u, us = [u] ∧ RelV x u
  | _, _, .cons r .nil => ⟨_, rfl, r⟩
theorem Vals.two : ∀ {x y : V} {us : List Value}, Vals [x, y] us → ∃ u v, us = [u, v] ∧ RelV x u ∧ RelV y v
  | _, _, _, .cons r (.cons q .nil) => ⟨_, _, rfl, r, q⟩
theorem Vals.zero : ∀ {us : List Value}, Vals [] us → us = []
  | _, .nil => rfl
theorem Vals.eraseIdx : ∀ {xs : List V} {us : List Value} (i : Nat), Vals xs us → Vals (xs.eraseIdx i) (us.eraseIdx i)
  | _, _, _, .nil => .nil
  | _, _, 0, .cons _ t => t
  | _, _, i + 1, .cons r t => .cons r (Vals.eraseIdx i t)
theorem len_erase {α : Type} : ∀ (l : List α) (i : Nat), (l.eraseIdx i).length ≤ l.length
  | [], _ => Nat.le_refl _
  | _ :: _, 0 => Nat.le_succ _
  | _ :: r, i + 1 => Nat.succ_le_succ (len_erase r i)
section
variable {X : Cx} {pins : List (Addr × Obj)} {σ : St} {H : Hp} {s : Shared} {l b : Addr} {xs ys zs : List V}

theorem Inv.lset {its its' : List Value} {n : Nat} {f : Array Value → Array Value} {t' : Nat} (I : Inv X pins σ H s) (hH : H l = some (.lst xs))
    (e : s.heap.get? l = some { cls := .type "list", data := .seq its.toArray n }) (hf : f its.toArray = its'.toArray) (hv : Vals ys its') (hz : ys.length ≤ sizeLine) :
    Inv X pins σ (upd H l (.lst ys)) { s with heap := s.heap.update l (Obj.mapSeq f), toks := t' } := by
  have q := PySem.IsL.update e f
  rw [hf] at q
  refine I.write (x := l) (e := l) (by rw [hH]; exact trivial) (.inl rfl) (fun b' u hb hu => (Heap.get?_update_other s.heap (Obj.mapSeq f) (Ne.symm hb)).trans hu) ⟨_, q⟩ ?_
  exact ⟨hz, its', _, hv, q⟩
theorem Inv.lnew {its : List Value} {t' : Nat} (I : Inv X pins σ H s) (hv : Vals ys its) (hz : ys.length ≤ sizeLine) :
    Inv X pins σ (upd H s.heap.objs.size (.lst ys)) { s with heap := s.heap.push { cls := .type "list", data := .seq its.toArray }, toks := t' } :=
  I.laid (fun _ _ q => Heap.get?_push_of_some _ q) (Nat.le_refl _) ⟨hz, its, 0, hv, Heap.get?_push_size _ rfl⟩
theorem Inv.fresh (I : Inv X pins σ H s) : H s.heap.objs.size = none := I.hok.fresh (Nat.le_refl _)
theorem Inv.lstM (I : Inv X pins σ H s) (hH : H l = some (.lst xs)) : xs.length ≤ sizeLine ∧ ∃ (its : List Value) (n : Nat), Vals xs its ∧ xs.length = its.length ∧ s.heap.get? l = some { cls := .type "list", data := .seq its.toArray n } := by
  obtain ⟨z, its, n, r, e⟩ := I.hok l _ hH
  exact ⟨z, its, n, r, r.length, e⟩

theorem notLongL {n : Nat} (h : n ≤ sizeLine) : Builtin.List.listTooLong n = false := by
  unfold Builtin.List.listTooLong
  exact decide_eq_false (by omega)
end

section
variable {X : Cx}

def rAppend : V → List V → Hp → VK → Prop := fun x vs H Q => ∃ l xs y, x = .ref l ∧ vs = [y] ∧ H l = some (.lst xs) ∧ xs.length < sizeLine ∧ Q .non (upd H l (.lst (xs ++ [y])))
theorem mt_append : MtM X "list.append" rAppend := by
  intro pins s σ H x vs v us Q I rx rv h
  obtain ⟨l, xs, y, rfl, rfl, hH, hz, q⟩ := h
  cases rx
  obtain ⟨u, rfl, ru⟩ := rv.one
  obtain ⟨z, its, n, r, hl, e⟩ := I.lstM hH
  refine call_meets F.slot_list_append ⟨_, e, rfl⟩ F.entry_list_append (F.args_list_append_2 _ _) (PySem.list_append l its.toArray n u (by rw [List.size_toArray]; omega)) ⟨e, ?_⟩
  refine ⟨.non, _, I.lset (its' := its ++ [u]) hH e (by simp) (r.append (.cons ru .nil)) ?_, rfl, q⟩
  rw [List.length_append, List.length_singleton]
  omega

def rExtend : V → List V → Hp → VK → Prop := fun x vs H Q => ∃ l b xs zs, x = .ref l ∧ vs = [.ref b] ∧ H l = some (.lst xs) ∧ H b = some (.lst zs) ∧ xs.length + zs.length ≤ sizeLine ∧ Q .non (upd H l (.lst (xs ++ zs)))
theorem mt_extend : MtM X "list.extend" rExtend := by
  intro pins s σ H x vs v us Q I rx rv h
  obtain ⟨l, b, xs, zs, rfl, rfl, hH, hB, hz, q⟩ := h
  cases rx
  obtain ⟨u, rfl, ru⟩ := rv.one
  cases ru
  obtain ⟨z, its, n, r, hl, e⟩ := I.lstM hH
  obtain ⟨z2, its2, n2, r2, hl2, e2⟩ := I.lstM hB
  have hsz : its.toArray.size + its2.toArray.size ≤ sizeLine := by rw [List.size_toArray, List.size_toArray]; omega
  have hlong : ¬ (!its.toArray.isEmpty && Builtin.List.listTooLong (its.toArray.size + its2.toArray.size)) = true := by
    rw [notLongL hsz, Bool.and_false]
    exact Bool.false_ne_true
  refine call_meets F.slot_list_extend ⟨_, e, rfl⟩ F.entry_list_extend (F.args_list_extend_2 _ _)
    (AutoSeq1.list_extend_list_list_0 l its.toArray n b its2.toArray n2 hlong (by rw [List.size_toArray]; omega) (by omega)) ⟨e, e2, ?_⟩
  refine ⟨.non, _, I.lset (its' := its ++ its2) hH e (by simp) (r.append r2) ?_, rfl, q⟩
  rw [List.length_append]
  omega

def rCat : R2 := fun x y H Q => ∃ l b xs zs, x = .ref l ∧ y = .ref b ∧ H l = some (.lst xs) ∧ H b = some (.lst zs) ∧ xs.length + zs.length ≤ sizeLine ∧ ∀ p, H p = none → Q (.ref p) (upd H p (.lst (xs ++ zs)))
theorem op_cat : OpR X (binaryOp .Add) rCat := by
  intro pins s σ H x y v u Q I rx ry h
  obtain ⟨l, b, xs, zs, rfl, rfl, hH, hB, hz, q⟩ := h
  cases rx
  cases ry
  obtain ⟨z, its, n, r, hl, e⟩ := I.lstM hH
  obtain ⟨z2, its2, n2, r2, hl2, e2⟩ := I.lstM hB
  refine PySem.P.add_list e e2 ?_ (by rw [List.size_toArray, List.size_toArray]; omega)
  have ea : its.toArray ++ its2.toArray = (its ++ its2).toArray := by simp
  rw [ea]
  exact ⟨.ref _, _, I.lnew (t' := s.toks) (r.append r2) (by rw [List.length_append]; omega), rfl, q _ I.fresh⟩
end

section
variable {prog : Program} {w : World} {A : Around} {E : Value → Shared → Prop} {s : Shared}
set_option maxRecDepth 100000 in
end

section
variable {X : Cx}
end
end L2

namespace L2
open PySem PySem.Spec PyProof.Rows

theorem Vals.ints : ∀ {ns : List Int} {us : List Value}, Vals (ns.map V.int) us → IntsAre us ns
  | [], us, h => by
    rw [List.map_nil] at h
    cases h
    exact IntsAre.nil
  | n :: ns, us, h => by
    rw [List.map_cons] at h
    cases h with
    | cons r t =>
      obtain ⟨k, rfl⟩ := r
      exact IntsAre.cons n k (Vals.ints t)
theorem Vals.ref1 {a : Addr} {us : List Value} (r : Vals [V.ref a] us) : us = [Value.ref a] := by
  cases r with
  | cons r t =>
    cases t
    cases r
    rfl
section
variable {prog : Program} {w : World} {A : Around} {E : Value → Shared → Prop} {s : Shared} {l : Addr} {its : List Value} {ns : List Int} {Q : Value → Shared → Prop}
theorem max_raw (hh : A.handled = none) (hl : s.heap.IsList l its.toArray) (hi : IntsAre its ns) (hne : 0 < ns.length)
    (h : ∀ h' tk M t', (∀ b o, s.heap.get? b = some o → h'.get? b = some o) → M ∈ ns → (∀ a, a ∈ ns → a ≤ M) → Q (.int M t') { s with heap := h', toks := tk }) : wpAny (model prog w) A (call (.builtin "max") [.ref l]) Q E s := by
  obtain ⟨xs, e⟩ := hi.allInts.items
  have hn : numsOf (intItems xs).toList = ns := by rw [← e]; exact hi.numsOf
  rw [nums_intItems] at hn
  subst hn
  rw [e] at hl
  have hsz : 0 < xs.size := by simpa using hne
  refine PySem.max_intList hh hl hsz fun v h' tk hv hk => ?_
  obtain ⟨t, rfl⟩ := intItems_at hv
  obtain ⟨h1, h2⟩ := argBest_gt (numAt xs) (xs.size - 1)
  refine h h' tk _ t hk ?_ fun a ha => ?_
  · rw [numAt_eq]; exact PySem.getD_mem (by rw [List.length_map, Array.length_toList]; omega)
  · obtain ⟨j, hj, rfl⟩ := mem_getD ha
    rw [List.length_map, Array.length_toList] at hj
    rw [← numAt_eq]; exact h2 j (by omega)
theorem min_raw (hh : A.handled = none) (hl : s.heap.IsList l its.toArray) (hi : IntsAre its ns) (hne : 0 < ns.length)
    (h : ∀ h' tk M t', (∀ b o, s.heap.get? b = some o → h'.get? b = some o) → M ∈ ns → (∀ a, a ∈ ns → M ≤ a) → Q (.int M t') { s with heap := h', toks := tk }) : wpAny (model prog w) A (call (.builtin "min") [.ref l]) Q E s := by
  obtain ⟨xs, e⟩ := hi.allInts.items
  have hn : numsOf (intItems xs).toList = ns := by rw [← e]; exact hi.numsOf
  rw [nums_intItems] at hn
  subst hn
  rw [e] at hl
  have hsz : 0 < xs.size := by simpa using hne
  refine PySem.min_intList hh hl hsz fun v h' tk hv hk => ?_
  obtain ⟨t, rfl⟩ := intItems_at hv
  obtain ⟨h1, h2⟩ := argBest_lt (numAt xs) (xs.size - 1)
  refine h h' tk _ t hk ?_ fun a ha => ?_
  · rw [numAt_eq]; exact PySem.getD_mem (by rw [List.length_map, Array.length_toList]; omega)
  · obtain ⟨j, hj, rfl⟩ := mem_getD ha
    rw [List.length_map, Array.length_toList] at hj
    rw [← numAt_eq]; exact h2 j (by omega)
end

section
variable {X : Cx}
def rMax (K : PySem.W.Frag) : List V → Hp → VK → Prop := fun vs H Q => ∃ (a : Addr) (ns : List Int), vs = [V.ref a] ∧ SqL K H a (ns.map V.int) ∧ 0 < ns.length ∧ ∀ m, m ∈ ns → (∀ y, y ∈ ns → y ≤ m) → Q (.int m) H
def rMin (K : PySem.W.Frag) : List V → Hp → VK → Prop := fun vs H Q => ∃ (a : Addr) (ns : List Int), vs = [V.ref a] ∧ SqL K H a (ns.map V.int) ∧ 0 < ns.length ∧ ∀ m, m ∈ ns → (∀ y, y ∈ ns → m ≤ y) → Q (.int m) H
theorem cr_max (hc : X.calm = true) : CallR X (.builtin "max") (rMax X.K) := by
  intro pins s σ H vs us Q I r h
  obtain ⟨a, ns, rfl, hs, hne, q⟩ := h
  obtain ⟨its, rv, hl, _⟩ := I.list hs
  rw [Vals.ref1 r]
  exact max_raw (I.ok.hd hc) hl.isList rv.ints hne fun h' tk m t' hk h1 h2 => ⟨.int _, H, I.kept hk, ⟨_, rfl⟩, q m h1 h2⟩
theorem cr_min (hc : X.calm = true) : CallR X (.builtin "min") (rMin X.K) := by
  intro pins s σ H vs us Q I r h
  obtain ⟨a, ns, rfl, hs, hne, q⟩ := h
  obtain ⟨its, rv, hl, _⟩ := I.list hs
  rw [Vals.ref1 r]
  exact min_raw (I.ok.hd hc) hl.isList rv.ints hne fun h' tk m t' hk h1 h2 => ⟨.int _, H, I.kept hk, ⟨_, rfl⟩, q m h1 h2⟩

end

section
variable {X : Cx}
end

section
variable {X : Cx}
end

section
variable {X : Cx}
end

mutual
inductive Dp (K : PySem.W.Frag) (H : Hp) : V → PyData → Prop
  | non : Dp K H .non .none
  | bl (b : Bool) : Dp K H (.bl b) (.bool b)
  | int (i : Int) : Dp K H (.int i) (.int i)
  | str (x : Str) : Dp K H (.str x) (.str x)
  | lst {a : Addr} {xs : List V} {ds : List PyData} : SqL K H a xs → DpAll K H xs ds → Dp K H (.ref a) (.list ds)
  | tup {a : Addr} {xs : List V} {ds : List PyData} : SqT K H a xs → DpAll K H xs ds → Dp K H (.ref a) (.tuple ds)
inductive DpAll (K : PySem.W.Frag) (H : Hp) : List V → List PyData → Prop
  | nil : DpAll K H [] []
  | cons {v : V} {vs : List V} {d : PyData} {ds : List PyData} : Dp K H v d → DpAll K H vs ds → DpAll K H (v :: vs) (d :: ds)
end
section
variable {X : Cx} {pins : List (Addr × Obj)} {σ : St} {H : Hp} {s : Shared}
mutual
theorem Dp.reads (I : Inv X pins σ H s) : ∀ (d : PyData) (v : V) (u : Value), Dp X.K H v d → RelV v u → ∃ as, Reads s.heap u d as
  | .none, _, _, h, r => by
    cases h
    cases r
    exact ⟨_, Reads.none⟩
  | .bool b, _, _, h, r => by
    cases h
    cases r
    exact ⟨_, Reads.bool b⟩
  | .int i, _, _, h, r => by
    cases h
    obtain ⟨t, rfl⟩ := r
    exact ⟨_, Reads.int i t⟩
  | .str x, _, _, h, r => by
    cases h
    obtain ⟨t, rfl⟩ := r
    exact ⟨_, Reads.str x t⟩
  | .list ds, _, _, h, r => by
    cases h with
    | lst hs ha =>
      cases r
      obtain ⟨its, rv, ⟨o, n, ho, hc, _, hd⟩, _⟩ := I.list hs
      obtain ⟨as, hr⟩ := Dp.readsAll I ds _ its ha rv
      exact ⟨_, Reads.list ho hc hd hr⟩
  | .tuple ds, _, _, h, r => by
    cases h with
    | tup hs ha =>
      cases r
      obtain ⟨its, rv, ⟨o, ho, hc, n, hd⟩, _⟩ := I.tuple hs
      obtain ⟨as, hr⟩ := Dp.readsAll I ds _ its ha rv
      exact ⟨_, Reads.tuple ho hc hd hr⟩
  | .dict _, _, _, h, _ => by cases h
theorem Dp.readsAll (I : Inv X pins σ H s) : ∀ (ds : List PyData) (vs : List V) (us : List Value), DpAll X.K H vs ds → Vals vs us → ∃ as, ReadsAll s.heap us ds as
  | [], _, _, h, r => by
    cases h
    cases r
    exact ⟨_, ReadsAll.nil⟩
  | d :: ds, _, _, h, r => by
    cases h with
    | cons h1 h2 =>
      cases r with
      | cons r1 r2 =>
        obtain ⟨as, q1⟩ := Dp.reads I d _ _ h1 r1
        obtain ⟨bs, q2⟩ := Dp.readsAll I ds _ _ h2 r2
        exact ⟨_, ReadsAll.cons q1 q2⟩
end
end
section
variable {X : Cx}
def rNeD (K : PySem.W.Frag) : R2 := fun x y H Q => ∃ d e, Dp K H x d ∧ Dp K H y e ∧ SeqAt.shaped d = true ∧ SeqAt.shaped e = true ∧ Q (.bl (!PyData.eqv d e)) H
theorem op_neD (hu : X.A.units + 64 < cLine) : OpR X (compareOp .NotEq) (rNeD X.K) := by
  intro pins s σ H x y v u Q I rx ry h
  obtain ⟨d, e, hd, he, sd, se, q⟩ := h
  obtain ⟨as, r1⟩ := Dp.reads I d x v hd rx
  obtain ⟨bs, r2⟩ := Dp.reads I e y u he ry
  exact SeqAt.compareNe_shaped r1 r2 sd se hu ⟨.bl _, H, I, rfl, q⟩
end
end L2

namespace L2
open PySem PySem.Spec PyProof.Rows
abbrev CellAt (h : Heap) (c : Addr) (v : Option Value) : Prop := h.IsCell c v
def relS (scope sc : Scope) : Scope :=
  { scope with names := scope.names.map fun (n, k) => if (k == .free && sc.kind == .function && sc.names.lookup n == some .cell) then (n, .cell) else (n, k) }

def cloFrom (cells : List (Str × Addr)) : List (Str × NameKind) → List (Str × Addr) → List (Str × Addr)
  | [], acc => acc
  | (n, k) :: r, acc => if k == .free then cloFrom cells r ((n, (cells.lookup n).getD 0) :: acc) else cloFrom cells r acc

theorem closure_loop (env : Env) (f : Str × NameKind → List (Str × Addr) → Sem (ForInStep (List (Str × Addr))))
    (hf : ∀ n k c, f (n, k) c = if k == .free then (do let a ← cellOf env n; pure (.yield ((n, a) :: c))) else pure (.yield c)) :
    ∀ (names : List (Str × NameKind)) (acc : List (Str × Addr)), (∀ y ∈ names, y.2 = .free → ∃ c, env.cells.lookup y.1 = some c) → forIn names acc f = pure (cloFrom env.cells names acc)
  | [], acc, _ => by rw [List.forIn_nil]; rfl
  | (n, k) :: r, acc, h => by
    rw [List.forIn_cons, hf]
    have ih := fun acc => closure_loop env f hf r acc fun y hy => h y (List.mem_cons_of_mem _ hy)
    unfold cloFrom
    by_cases hk : (k == NameKind.free) = true
    · rw [if_pos hk, if_pos hk]
      obtain ⟨c, hc⟩ := h (n, k) List.mem_cons_self (by simpa using hk)
      have e : cellOf env n = pure c := by unfold cellOf; rw [hc]
      rw [e]
      have e2 : (env.cells.lookup n).getD 0 = c := by rw [hc]; rfl
      rw [e2]
      exact ih _
    · rw [if_neg hk, if_neg hk]
      exact ih _
theorem closure_ok {scope : Scope} {env : Env} (h : ∀ y ∈ scope.names, y.2 = .free → ∃ c, env.cells.lookup y.1 = some c) : closureFor scope env = pure (cloFrom env.cells scope.names []) := by
  simp only [closureFor]
  rw [closure_loop env _ (fun n k c => rfl) scope.names [] h]
  rfl

theorem mem_lookup {α : Type} : ∀ {l : List (Str × α)} {n : Str} {c : α}, (n, c) ∈ l → ∃ c', l.lookup n = some c'
  | (k, v) :: r, n, c, h => by
    rw [List.lookup_cons]
    cases hb : n == k with
    | true => exact ⟨_, rfl⟩
    | false =>
      rcases List.mem_cons.mp h with e | h
      · cases e; simp at hb
      · exact mem_lookup h

theorem cloFrom_mem {cells : List (Str × Addr)} : ∀ {names : List (Str × NameKind)} {acc : List (Str × Addr)} {n : Str} {c : Addr}, (n, c) ∈ cloFrom cells names acc → (n, c) ∈ acc ∨ ((n, .free) ∈ names ∧ c = (cells.lookup n).getD 0)
  | [], _, _, _, h => .inl h
  | (m, k) :: r, acc, n, c, h => by
    unfold cloFrom at h
    split at h
    · rename_i hk
      have hk : k = .free := by simpa using hk
      rcases cloFrom_mem h with h | ⟨h1, h2⟩
      · rcases List.mem_cons.mp h with e | h
        · cases e; exact .inr ⟨hk ▸ List.mem_cons_self, rfl⟩
        · exact .inl h
      · exact .inr ⟨List.mem_cons_of_mem _ h1, h2⟩
    · rcases cloFrom_mem h with h | ⟨h1, h2⟩
      · exact .inl h
      · exact .inr ⟨List.mem_cons_of_mem _ h1, h2⟩
theorem cloFrom_acc {cells : List (Str × Addr)} : ∀ {names : List (Str × NameKind)} {acc : List (Str × Addr)} {p : Str × Addr}, p ∈ acc → p ∈ cloFrom cells names acc
  | [], _, _, h => h
  | (m, k) :: r, acc, p, h => by
    unfold cloFrom
    split
    · exact cloFrom_acc (List.mem_cons_of_mem _ h)
    · exact cloFrom_acc h
theorem cloFrom_has {cells : List (Str × Addr)} : ∀ {names : List (Str × NameKind)} {acc : List (Str × Addr)} {n : Str}, (n, .free) ∈ names → (n, (cells.lookup n).getD 0) ∈ cloFrom cells names acc
  | (m, k) :: r, acc, n, h => by
    unfold cloFrom
    rcases List.mem_cons.mp h with e | h
    · cases e
      exact cloFrom_acc List.mem_cons_self
    · split
      · exact cloFrom_has h
      · exact cloFrom_has h

theorem cells_mem : ∀ {names : List (Str × NameKind)} {h : Heap} {acc : List (Str × Addr)} {x : Str} {c : Addr}, (x, c) ∈ cellsFrom h.objs.size names acc →
    (x, c) ∈ acc ∨ ((x, .cell) ∈ names ∧ h.objs.size ≤ c ∧ CellAt (pushCells h names) c none)
  | [], _, _, _, _, h => .inl h
  | (n, k) :: r, h, acc, x, c, hm => by
    unfold cellsFrom at hm
    unfold pushCells
    split at hm
    · rename_i hk
      rw [if_pos hk]
      have hk : k = .cell := by simpa using hk
      rw [← Heap.size_push h { cls := .type "cell", data := .cell none }] at hm
      rcases cells_mem hm with hm | ⟨h1, h2, h3⟩
      · rcases List.mem_cons.mp hm with e | hm
        · cases e
          exact .inr ⟨hk ▸ List.mem_cons_self, Nat.le_refl _, _, pushCells_keeps r _ _ _ (Heap.get?_push_size _ rfl), rfl⟩
        · exact .inl hm
      · rw [Heap.size_push] at h2
        exact .inr ⟨List.mem_cons_of_mem _ h1, Nat.le_of_succ_le h2, h3⟩
    · rename_i hk
      rw [if_neg hk]
      rcases cells_mem hm with hm | ⟨h1, h2, h3⟩
      · exact .inl hm
      · exact .inr ⟨List.mem_cons_of_mem _ h1, h2, h3⟩
theorem cells_acc : ∀ {names : List (Str × NameKind)} {n : Nat} {acc : List (Str × Addr)} {p : Str × Addr}, p ∈ acc → p ∈ cellsFrom n names acc
  | [], _, _, _, h => h
  | (m, k) :: r, n, acc, p, h => by
    unfold cellsFrom
    split
    · exact cells_acc (List.mem_cons_of_mem _ h)
    · exact cells_acc h
theorem cells_has : ∀ {names : List (Str × NameKind)} {n : Nat} {acc : List (Str × Addr)} {x : Str}, (x, .cell) ∈ names → ∃ c, (x, c) ∈ cellsFrom n names acc
  | (m, k) :: r, n, acc, x, h => by
    unfold cellsFrom
    rcases List.mem_cons.mp h with e | h
    · cases e
      exact ⟨n, cells_acc List.mem_cons_self⟩
    · split
      · exact cells_has h
      · exact cells_has h
theorem cells_inj : ∀ {names : List (Str × NameKind)} {h : Heap} {acc : List (Str × Addr)} {x y : Str} {c : Addr}, (∀ p ∈ acc, p.2 < h.objs.size) → (∀ x y c, (x, c) ∈ acc → (y, c) ∈ acc → x = y) →
    (x, c) ∈ cellsFrom h.objs.size names acc → (y, c) ∈ cellsFrom h.objs.size names acc → x = y
  | [], _, _, _, _, _, _, hi, h1, h2 => hi _ _ _ h1 h2
  | (n, k) :: r, h, acc, x, y, c, hl, hi, h1, h2 => by
    unfold cellsFrom at h1 h2
    split at h1
    · rename_i hk
      rw [if_pos hk] at h2
      rw [← Heap.size_push h { cls := .type "cell", data := .cell none }] at h1 h2
      refine cells_inj (h := h.push _) (fun p hp => ?_) (fun x y c a b => ?_) h1 h2
      · rw [Heap.size_push]
        rcases List.mem_cons.mp hp with rfl | hp
        · exact Nat.lt_succ_self _
        · exact Nat.lt_succ_of_lt (hl p hp)
      · rcases List.mem_cons.mp a with e | a <;> rcases List.mem_cons.mp b with e' | b
        · cases e; cases e'; rfl
        · cases e; exact absurd (hl _ b) (Nat.lt_irrefl _)
        · cases e'; exact absurd (hl _ a) (Nat.lt_irrefl _)
        · exact hi _ _ _ a b
    · rename_i hk
      rw [if_neg hk] at h2
      exact cells_inj hl hi h1 h2

theorem newEnv_comp {M : Model} {A : Around} {E : Value → Shared → Prop} {s : Shared} {scope : Scope} {globals : Addr} {closure : List (Str × Addr)} {qual : Str} {func : Option Addr} {code : Value} {around : Env} {builtins : Addr} {Q : Env → Shared → Prop}
    (h : Q (newEnv scope s.heap.objs.size globals (cellsFrom (s.heap.objs.size + 1) scope.names closure) qual func code (some around) builtins)
      { s with heap := pushCells (s.heap.push { cls := .type "dict", data := .dict #[] }) scope.names }) :
    wpAny M A (newFunctionEnv scope globals closure [] qual func code (some around) builtins) Q E s := by
  simp only [newFunctionEnv, Option.isSome_some, if_true]
  refine wpAny_bind (wpAny_alloc ?_)
  refine wpAny_bind (wpAny_layCells _ (fun n k c => rfl) scope.names closure _ _ ?_)
  rw [show ({ s with heap := s.heap.push { cls := .type "dict", data := .dict #[] } } : Shared).heap.objs.size = s.heap.objs.size + 1 from Heap.size_push ..]
  rw [List.forIn_nil]
  exact wpAny_bind (wpAny_pure (wpAny_pure h))

theorem lookup_relS {sc : Scope} : ∀ {names : List (Str × NameKind)} {x : Str} {k : NameKind},
    (names.map fun (n, k) => if (k == NameKind.free && sc.kind == .function && sc.names.lookup n == some .cell) then (n, NameKind.cell) else (n, k)).lookup x = some k →
    ∃ k', names.lookup x = some k' ∧ (k = k' ∨ (k' = .free ∧ k = .cell))
  | [], _, _, h => by simp at h
  | (n, k₀) :: r, x, k, h => by
    have ih := @lookup_relS sc r x k
    have h' : List.lookup x ((if (k₀ == NameKind.free && sc.kind == .function && sc.names.lookup n == some .cell) = true then (n, NameKind.cell) else (n, k₀)) :: (r.map _)) = some k := h
    cases hx : x == n with
    | true =>
      simp only [List.lookup_cons, hx]
      by_cases hc : (k₀ == NameKind.free && sc.kind == .function && sc.names.lookup n == some .cell) = true
      · rw [if_pos hc] at h'
        simp only [List.lookup_cons, hx] at h'
        cases h'
        simp only [Bool.and_eq_true, beq_iff_eq] at hc
        exact ⟨k₀, rfl, .inr ⟨hc.1.1, rfl⟩⟩
      · rw [if_neg hc] at h'
        simp only [List.lookup_cons, hx] at h'
        cases h'
        exact ⟨_, rfl, .inl rfl⟩
    | false =>
      simp only [List.lookup_cons, hx]
      by_cases hc : (k₀ == NameKind.free && sc.kind == .function && sc.names.lookup n == some .cell) = true
      · rw [if_pos hc] at h'
        simp only [List.lookup_cons, hx] at h'
        exact ih h'
      · rw [if_neg hc] at h'
        simp only [List.lookup_cons, hx] at h'
        exact ih h'
structure BlkOk (N : List Str) (sc scope : Scope) (own : List (Str × Nat)) : Prop where
  kind : scope.kind = .function
  uniq : ∀ y ∈ scope.names, scope.names.lookup y.1 = some y.2
  ix : ∀ p ∈ own, N[p.2]? = some p.1
  free : ∀ y ∈ scope.names, y.2 = .free → sc.names.lookup y.1 = some .cell ∨ sc.names.lookup y.1 = some .free
  own : ∀ y ∈ scope.names, y.2 = .local ∨ y.2 = .cell → y.1 ∈ own.map (·.1) ∨ y.1 ∉ N
def wipe (σ : St) : List Nat → St
  | [] => σ
  | v :: vs => (wipe σ vs).set v none
theorem wipe_length (σ : St) : ∀ vs : List Nat, (wipe σ vs).length = σ.length
  | [] => rfl
  | v :: vs => by unfold wipe; rw [List.length_set, wipe_length σ vs]
theorem wipe_some {σ : St} {i : Nat} {x : V} : ∀ {vs : List Nat}, (wipe σ vs)[i]? = some (some x) → σ[i]? = some (some x) ∧ i ∉ vs
  | [], h => ⟨h, by simp⟩
  | v :: vs, h => by
    unfold wipe at h
    by_cases hi : v = i
    · subst hi
      by_cases hv : v < (wipe σ vs).length
      · rw [List.getElem?_set_self hv] at h; cases h
      · rw [List.getElem?_eq_none (by simpa using hv)] at h; cases h
    · rw [List.getElem?_set_ne hi] at h
      obtain ⟨h1, h2⟩ := wipe_some h
      exact ⟨h1, by simp only [List.mem_cons, not_or]; exact ⟨fun e => hi e.symm, h2⟩⟩

abbrev Cx.blk (X : Cx) (s : Shared) (H : Hp) (scope : Scope) (cenv : Env) (fp : List Addr) : Cx := { X with s_0 := s, H_0 := H, env := cenv, outer := X.stack, ex := fp, fn := fun x => scope.names.lookup x == some .cell, pn := [], xe := fun _ _ => False }
section
variable {X : Cx} {pins : List (Addr × Obj)} {σ : St} {H : Hp} {s : Shared}
theorem block_start {scope : Scope} {own : List (Str × Nat)} {fp : List Addr} (I : Inv X pins σ H s) (ok : BlkOk X.N X.env.scope scope own) (hN : X.N.Nodup) (hfp : ∀ b ∈ fp, FpOk X pins H b ∧ b < s.heap.objs.size) :
    Inv (X.blk s H scope (compEnvC scope (cellsFrom (s.heap.objs.size + 1) scope.names (cloFrom X.env.cells scope.names [])) s.heap.objs.size X.env) fp) [] (wipe σ (own.map (·.2))) H { s with heap := pushCells (s.heap.push { cls := .type "dict", data := .dict #[] }) scope.names } := by
  have hfree : ∀ y ∈ scope.names, y.2 = .free → ∃ c, X.env.cells.lookup y.1 = some c := fun y hy e => by
    rcases ok.free y hy e with k | k
    · exact I.ok.has _ (.inl k)
    · exact I.ok.has _ (.inr k)
  generalize hcenv : compEnvC scope (cellsFrom (s.heap.objs.size + 1) scope.names (cloFrom X.env.cells scope.names [])) s.heap.objs.size X.env = cenv
  have kp : ∀ b o, s.heap.get? b = some o → (pushCells (s.heap.push { cls := .type "dict", data := .dict #[] }) scope.names).get? b = some o := fun b o e => pushCells_keeps _ _ _ _ (Heap.get?_push_of_some _ e)
  have hL : cenv.locals = s.heap.objs.size := by rw [← hcenv]; rfl
  have hcl : cenv.cells = cellsFrom (s.heap.objs.size + 1) scope.names (cloFrom X.env.cells scope.names []) := by rw [← hcenv]; rfl
  have hsc : cenv.scope = relS scope X.env.scope := by rw [← hcenv]; rfl
  rw [← Heap.size_push s.heap { cls := .type "dict", data := .dict #[] }] at hcl
  have cm : ∀ {y c}, (y, c) ∈ cloFrom X.env.cells scope.names [] → X.env.cells.lookup y = some c ∧ c < s.heap.objs.size := fun {y c} hm => by
    rcases cloFrom_mem hm with hm | ⟨h1, rfl⟩
    · cases hm
    · obtain ⟨c, hc⟩ := hfree _ h1 rfl
      rw [hc]
      obtain ⟨w, z⟩ := I.cell _ _ hc
      exact ⟨rfl, z.lt⟩
  have mem : ∀ {y c}, cenv.cells.lookup y = some c → (X.env.cells.lookup y = some c ∧ c < s.heap.objs.size) ∨ (s.heap.objs.size + 1 ≤ c ∧ CellAt (pushCells (s.heap.push { cls := .type "dict", data := .dict #[] }) scope.names) c none) := fun {y c} e => by
    rw [hcl] at e
    rcases cells_mem (PySem.mem_of_lookup e) with hm | ⟨_, h2, h3⟩
    · exact .inl (cm hm)
    · rw [Heap.size_push] at h2; exact .inr ⟨h2, h3⟩
  have look : ∀ {y}, scope.names.lookup y = some .free → ∃ c, cenv.cells.lookup y = some c ∧ X.env.cells.lookup y = some c := fun {y} hl => by
    have hy : (y, NameKind.free) ∈ scope.names := PySem.mem_of_lookup hl
    obtain ⟨c', e'⟩ := mem_lookup (cells_acc (names := scope.names) (n := (s.heap.push { cls := .type "dict", data := .dict #[] }).objs.size) (cloFrom_has (cells := X.env.cells) (acc := []) hy))
    rw [← hcl] at e'
    refine ⟨c', e', ?_⟩
    rw [hcl] at e'
    rcases cells_mem (PySem.mem_of_lookup e') with hm | ⟨h1, _, _⟩
    · exact (cm hm).1
    · have := ok.uniq _ h1
      rw [hl] at this; cases this
  have okB : (X.blk s H scope cenv fp).Ok := by
    refine ⟨I.ok.mod, by show cenv.scope.kind = _; rw [hsc]; exact ok.kind, by show cenv.globals = _; rw [← hcenv]; exact I.ok.glob, by show cenv.builtins = _; rw [← hcenv]; exact I.ok.blt, by show s.heap.objs.size ≤ cenv.locals; rw [hL]; exact Nat.le_refl _,
      fun y z c e1 e2 => ?_, fun y hy => ?_, fun y c z e => ?_, I.ok.hd, I.ok.frames, .inl rfl, fun b hb => ⟨?_, fun y c e z => ?_⟩, I.bs, Nat.le_trans I.ok.bsz I.sz, fun b o e hb => ?_, fun b hb z => ?_, I.stack, I.stkFree⟩
    · have e1 : cenv.cells.lookup y = some c := e1
      have e2 : cenv.cells.lookup z = some c := e2
      rw [hcl] at e1 e2
      refine cells_inj (fun p hp => ?_) (fun y z c a b => I.ok.inj y z c (cm a).1 (cm b).1) (PySem.mem_of_lookup e1) (PySem.mem_of_lookup e2)
      rw [Heap.size_push]
      exact Nat.lt_succ_of_lt (cm (y := p.1) (c := p.2) hp).2
    · show ∃ c, cenv.cells.lookup y = some c
      have key : ∀ k, cenv.kindOf y = some k → (k = .cell ∨ k = .free) → ∃ c, cenv.cells.lookup y = some c := fun k hk hk' => by
        unfold Env.kindOf at hk
        rw [hsc] at hk
        obtain ⟨k', e, r⟩ := lookup_relS hk
        have : k' = .cell ∨ k' = .free := by
          rcases r with rfl | ⟨rfl, _⟩
          · exact hk'
          · exact .inr rfl
        rcases this with rfl | rfl
        · obtain ⟨c, hm⟩ := cells_has (n := (s.heap.push { cls := .type "dict", data := .dict #[] }).objs.size) (acc := cloFrom X.env.cells scope.names []) (PySem.mem_of_lookup e)
          obtain ⟨c', e'⟩ := mem_lookup hm
          exact ⟨c', by rw [hcl]; exact e'⟩
        · obtain ⟨c, h1, _⟩ := look e
          exact ⟨c, h1⟩
      rcases hy with hy | hy
      · exact key _ hy (.inl rfl)
      · exact key _ hy (.inr rfl)
    · have z : (scope.names.lookup y == some NameKind.cell) = true := z
      have z : scope.names.lookup y = some .cell := by simpa using z
      have e : cenv.cells.lookup y = some c := e
      rw [hcl] at e
      rcases cells_mem (PySem.mem_of_lookup e) with hm | ⟨_, h2, _⟩
      · rcases cloFrom_mem hm with hm | ⟨h1, _⟩
        · cases hm
        · have q := ok.uniq _ h1
          rw [z] at q; cases q
      · rw [Heap.size_push] at h2
        exact Nat.le_of_succ_le h2
    · show b ≠ cenv.locals
      rw [hL]; exact Nat.ne_of_lt (hfp b hb).2
    · have e : cenv.cells.lookup y = some c := e
      rcases mem e with ⟨h1, _⟩ | ⟨h1, _⟩
      · exact (hfp b hb).1.2.2.2.2.1 y c h1 z
      · have h2 : s.heap.objs.size + 1 ≤ b := by rw [← z]; exact h1
        exact absurd (Nat.lt_of_lt_of_le (hfp b hb).2 (Nat.le_of_succ_le h2)) (Nat.lt_irrefl _)
    · rcases (hfp b hb).1.2.2.2.1 with z | z
      · exact I.ok.noex b o e z
      · exact absurd (Nat.lt_of_lt_of_le (Heap.lt_size e) (Nat.le_trans I.ok.bsz z)) (Nat.lt_irrefl _)
    · rcases List.mem_cons.mp (I.stkSub b z) with z | z
      · exact (hfp b hb).1.2.1 z
      · exact (hfp b hb).1.2.2.1 z
  refine ⟨okB, rfl, I.bare, Un.kept kp, ⟨fun _ => none, ?_, fun i y av e1 e2 e3 => ?_⟩, fun y c e => ?_, ?_, fun y c e => ?_, fun p hp => ?_, I.hok.kept kp, by rw [wipe_length]; exact I.len⟩
  · show Heap.Ns _ cenv.locals _
    rw [hL]
    exact Heap.Ns.keeps (Heap.Ns.new ..) fun b o e => pushCells_keeps _ _ _ _ e
  · obtain ⟨e2, hne⟩ := wipe_some e2
    have hfr : scope.names.lookup y = some .free ∧ (cenv.kindOf y = some .cell ∨ cenv.kindOf y = some .free) := by
      have key : ∀ k, cenv.scope.names.lookup y = some k → k = .local ∨ k = .cell ∨ k = .free → scope.names.lookup y = some .free ∧ (cenv.kindOf y = some .cell ∨ cenv.kindOf y = some .free) := fun k hk hk' => by
        have hk0 := hk
        rw [hsc] at hk
        obtain ⟨k', e, r⟩ := lookup_relS hk
        have no : ¬ (k' = .local ∨ k' = .cell) := fun hh => by
          rcases ok.own _ (PySem.mem_of_lookup e) hh with e' | e'
          · obtain ⟨p, hp, hpy⟩ := List.mem_map.mp e'
            have e3 := ok.ix p hp
            have : p.1 = y := hpy
            rw [this] at e3
            exact hne (List.mem_map.mpr ⟨p, hp, nodup_ix hN e3 e1⟩)
          · exact e' (List.mem_of_getElem? e1)
        rcases r with rfl | ⟨rfl, rfl⟩
        · rcases hk' with rfl | rfl | rfl
          · exact absurd (.inl rfl) no
          · exact absurd (.inr rfl) no
          · exact ⟨e, .inr hk0⟩
        · exact ⟨e, .inl hk0⟩
      have e3 : Vis cenv.scope y := e3
      rcases e3 with e3 | e3 | e3
      · exact key _ e3 (.inl rfl)
      · exact key _ e3 (.inr (.inl rfl))
      · exact key _ e3 (.inr (.inr rfl))
    obtain ⟨m, hn, hl⟩ := I.loc
    have hvis : Vis X.env.scope y := (ok.free _ (PySem.mem_of_lookup hfr.1) rfl).elim (fun k => .inr (.inl k)) (fun k => .inr (.inr k))
    obtain ⟨w, r, q⟩ := hl i y av e1 e2 hvis
    refine ⟨w, r, .inr ⟨hfr.2, ?_⟩⟩
    obtain ⟨c, h1, h2⟩ := look hfr.1
    rcases q with ⟨k, _⟩ | ⟨_, c', e', z⟩
    · have k : X.env.scope.names.lookup y = some .local := k
      rcases ok.free _ (PySem.mem_of_lookup hfr.1) rfl with k' | k' <;> rw [show X.env.scope.names.lookup y = _ from k'] at k <;> cases k
    · rw [h2] at e'; cases e'
      exact ⟨c, h1, z.keeps kp⟩
  · have e : cenv.cells.lookup y = some c := e
    rcases mem e with ⟨h1, _⟩ | ⟨_, z⟩
    · obtain ⟨w, z⟩ := I.cell y c h1
      exact ⟨w, z.keeps kp⟩
    · exact ⟨_, z⟩
  · show H cenv.locals = none
    rw [hL]; exact I.hok.fresh (Nat.le_refl _)
  · have e : cenv.cells.lookup y = some c := e
    rcases mem e with ⟨h1, _⟩ | ⟨h1, _⟩
    · exact I.freeC y c h1
    · exact I.hok.fresh (Nat.le_of_succ_le h1)
  · exact absurd (show p ∈ ([] : List (Addr × Obj)) ++ [] from hp) (by simp)

theorem app_ok {E : Value → Shared → Prop} {D : Addr} {xs : List V} {y : V} {v : Value} {Q : Value → Shared → Prop} (I : Inv X pins σ H s) (hD : H D = some (.lst xs)) (hz : xs.length < sizeLine) (r : RelV y v)
    (h : ∀ s', Inv X pins σ (upd H D (.lst (xs ++ [y]))) s' → Q .none s') : wpAny (model X.prog X.w) X.A (call (.builtin "list.append") [.ref D, v]) Q E s := by
  obtain ⟨hz', its, n, ri, e⟩ := I.hok D _ hD
  have hl := ri.length
  refine append_at (hsz := by rw [List.size_toArray]; omega) e fun h' sb ho' => ?_
  refine h { s with heap := h' } (I.write (t' := s.toks) (by rw [hD]; trivial) (.inl rfl) (fun b u hb q => (sb.2 b hb).trans q) ⟨_, ho'⟩ ⟨by rw [List.length_append]; exact hz, its ++ [v], n + 1, ri.append (.cons r .nil), ?_⟩)
  rw [ho']
  simp

def PTs (X : Cx) (ifs : List Expr) (t : TT) : Prop :=
  ∀ (pins : List (Addr × Obj)) (s : Shared) (σ : St) (H : Hp) (Q : Bool → Hp → Prop), Inv X pins σ H s → t σ H Q →
    wpAny (model X.prog X.w) X.A (forIn ifs true fun c r => if r = true then do let ok ← isTrue c X.env (eval c X.env); pure (ForInStep.yield ok) else pure (ForInStep.yield r)) (TP X pins σ Q) X.xe s
def tYes : TT := fun _ H Q => Q true H
theorem pts_nil : PTs X [] tYes := fun _ _ _ H _ I h => wpAny_tests_nil ⟨H, I, h⟩
theorem pts_one {c : Expr} {t : TT} (h : PT X c t) : PTs X [c] t := fun pins s σ H Q I hw => wpAny_tests_one (h pins s σ H Q I hw)
end

theorem thnF {α : Type} {t : Sem α} {Q Q' : α → Shared → Prop} {M : Model} {A : Around} {E : Value → Shared → Prop} {s : Shared} (h : wpAny M A t Q (fun _ _ => False) s) (hQ : ∀ a s, Q a s → Q' a s) : wpAny M A t Q' E s := wpAny_mono h hQ fun _ _ z => False.elim z

theorem compLoop_any {prog : Program} {w : World} {A : Around} {R : Result → Shared → Prop} {s : Shared} {elt target iter : Expr} {ifs : List Expr} {scope : Scope} {pos : Pos} {it acc : Value} {env : Env} (I : Nat → Shared → Prop)
    (turn : ∀ n s, I n s → wpAny (model prog w) A (pyNext it) (fun r s₁ => match r with
      | none => R (.ok .next) s₁
      | some v => wpAny (model prog w) A (letOwnedTupleGo target it v) (fun _ s₁' => wpAny (model prog w) A (assign target env v) (fun _ s₂ =>
          wpAny (model prog w) A (forIn ifs true fun c r => if r = true then do let ok ← isTrue c env (eval c env); pure (ForInStep.yield ok) else pure (ForInStep.yield r)) (fun ok s₃ =>
            if ok = true then wpAny (model prog w) A (eval elt env) (fun x s₄ =>
              wpAny (model prog w) A (call (.builtin "list.append") [acc, x]) (fun _ s₅ => ∃ m, m < n ∧ I m s₅) (notedBy (model prog w) A env fun e s' => R (.error e) s') s₄) (notedBy (model prog w) A env fun e s' => R (.error e) s') s₃
            else ∃ m, m < n ∧ I m s₃) (notedBy (model prog w) A env fun e s' => R (.error e) s') s₂) (notedBy (model prog w) A env fun e s' => R (.error e) s') s₁') (notedBy (model prog w) A env fun e s' => R (.error e) s') s₁) (notedBy (model prog w) A env fun e s' => R (.error e) s') s)
    (n : Nat) (h : I n s) :
    codeAny (model prog w) A (.compLoop (.ListComp elt [⟨target, iter, ifs, 0⟩] scope pos) 0 it acc env) R s := by
  refine codeAny_loop rfl I (fun n s hI => ?_) n h
  show wpAny _ A ((compTurn (.ListComp elt [⟨target, iter, ifs, 0⟩] scope pos) 0 it acc env).onRaise (fun x => do noteFrame x env; theTreesLotGoes x)) _ _ s
  refine wpAny_noted ?_
  rw [compTurn_list]
  refine wpAny_bind (wpAny_standAt (wpAny_bind (wpAny_mono (turn n s hI) (fun r s₁ h₁ => ?_) fun _ _ h' => h')))
  cases r with
  | none => exact wpAny_pure h₁
  | some v =>
    refine wpAny_bind (wpAny_mono h₁ (fun _ s₁' h₁' => ?_) fun _ _ h' => h')
    refine wpAny_bind (wpAny_mono h₁' (fun _ s₂ h₂ => wpAny_bind (wpAny_mono h₂ (fun ok s₃ h₃ => ?_) fun _ _ h' => h')) fun _ _ h' => h')
    cases ok with
    | false => exact wpAny_pure ⟨rfl, h₃⟩
    | true =>
      exact wpAny_bind (wpAny_bind (wpAny_mono h₃ (fun x s₄ h₄ => wpAny_bind (wpAny_mono h₄ (fun _ s₅ h₅ => wpAny_pure (wpAny_pure ⟨rfl, h₅⟩)) fun _ _ h' => h')) fun _ _ h' => h'))

section
variable {X : Cx}
def tLc (wi : TI) (g : TG) (tt : TT) (te : TE) (vs : List Nat) : TE := fun σ H Q => wi σ H fun J H1 => ∀ D, H1 D = none → ∃ W : Nat → Nat → Hp → Prop, (∃ m, W 0 m (upd H1 D (.lst []))) ∧ ∀ i m H, W i m H →
  (J.stop i H ∧ Q (.ref D) H) ∨ (J.go i H ∧ ∃ Nx : Hp → Prop, (∀ H', Nx H' → ∃ m', m' < m ∧ W (i + 1) m' H') ∧ ∀ x H', J.yld i H x H' → g x (wipe σ vs) H' fun σ2 H2 => wipe σ2 vs = wipe σ vs ∧ tt σ2 H2 fun b H3 =>
    if b = true then te σ2 H3 fun y H4 => ∃ acc, H4 D = some (.lst acc) ∧ acc.length < sizeLine ∧ Nx (upd H4 D (.lst (acc ++ [y]))) else Nx H3)
theorem lc_core {pins : List (Addr × Obj)} {s : Shared} {σ : St} {H : Hp} {Q : VK} {elt tg iter : Expr} {ifs : List Expr} {scope : Scope} {own : List (Str × Nat)} {pos pos' : Pos} {wi : TI} {g : TG} {tt : TT} {te : TE} {use : Option (Value → Sem Unit)} {Qf : Value → Shared → Prop}
    (hc : X.calm = true) (hN : X.N.Nodup) (I : Inv X pins σ H s) (hi : PI X tg iter wi) (ok : BlkOk X.N X.env.scope scope own)
    (hg : ∀ (s : Shared) (H : Hp) (C : Addr) (cl : List (Str × Addr)) (fp : List Addr), PG (X.blk s H scope (compEnvC scope cl C X.env) fp) tg g) (ht : ∀ (s : Shared) (H : Hp) (C : Addr) (cl : List (Str × Addr)) (fp : List Addr), PTs (X.blk s H scope (compEnvC scope cl C X.env) fp) ifs tt)
    (he : ∀ (s : Shared) (H : Hp) (C : Addr) (cl : List (Str × Addr)) (fp : List Addr), PE (X.blk s H scope (compEnvC scope cl C X.env) fp) elt te) (hs : ∀ x, foldedSetIterable iter X.env x = pure x)
    (h : tLc wi g tt te (own.map (·.2)) σ H Q)
    (hRR : ∀ D C s' m H', Inv X pins σ H' s' → Q (.ref D) H' → s'.heap.Ns C m → FpOk X pins H' C → compPost (model X.prog X.w) X.A X.xe use Qf (.ref D) C (.ok .next) s') :
    wpAny (model X.prog X.w) X.A (comprehension (.ListComp elt [⟨tg, iter, ifs, 0⟩] scope pos) scope X.env pos' (newList []) false (eval iter X.env) use) Qf X.xe s := by
  have hfree : ∀ y ∈ scope.names, y.2 = .free → ∃ c, X.env.cells.lookup y.1 = some c := fun y hy e => by
    rcases ok.free y hy e with k | k
    · exact I.ok.has _ (.inl k)
    · exact I.ok.has _ (.inr k)
  refine wpAny_comprehension_free (use := use) rfl hs (closure_ok hfree) ok.kind (fun y hy e => by rw [ok.uniq y hy, e])
    (thn (hi pins s σ H _ I h) fun xv s1 hx => thn hx fun itv s2 h2 => ?_)
  obtain ⟨it, fp, tn, J, H2, e, I2, T, st2, f2, q⟩ := h2
  subst e
  refine wpAny_newObj_type (newEnv_comp ?_) (by show 0 ≤ sizeLine; decide)
  generalize hD : s2.heap.objs.size = D
  have hDn : H2 D = none := I2.hok.fresh (Nat.le_of_eq hD)
  obtain ⟨W, ⟨m0, w0⟩, turn⟩ := q D hDn
  -- the new list
  generalize hs3 : ({ s2 with heap := s2.heap.push { cls := .type "list", data := .seq ([] : List Value).toArray } } : Shared) = s3
  have I3 : Inv X pins σ (upd H2 D (.lst [])) s3 := by
    rw [← hs3]
    refine I2.laid (t' := s2.toks) (fun b o e => Heap.get?_push_of_some _ e) (Nat.le_of_eq hD) ⟨Nat.zero_le _, [], 0, .nil, ?_⟩
    rw [← hD]
    exact Heap.get?_push_size _ rfl
  have h3 : s3.heap = s2.heap.push { cls := .type "list", data := .seq ([] : List Value).toArray } := by rw [← hs3]
  have sz : ∀ b ∈ fp, b < s2.heap.objs.size := fun b hb => by
    obtain ⟨o, e, _⟩ := T.obj _ _ st2 b hb
    exact Heap.lt_size e
  have f3 : ∀ b ∈ fp, FpOk X pins (upd H2 D (.lst [])) b ∧ b < s3.heap.objs.size := fun b hb => by
    have hlt := sz b hb
    refine ⟨⟨?_, (f2 b hb).2⟩, by rw [h3, Heap.size_push]; exact Nat.lt_succ_of_lt hlt⟩
    rw [upd_ne (by rw [← hD]; exact Nat.ne_of_lt hlt)]
    exact (f2 b hb).1
  have st3 : tn 0 s3.heap := T.keep _ _ _ st2 fun b _ o e => by rw [h3]; exact Heap.get?_push_of_some _ e
  have I4 := block_start I3 ok hN f3
  have pg := hg s3 (upd H2 D (.lst [])) s3.heap.objs.size (cellsFrom (s3.heap.objs.size + 1) scope.names (cloFrom X.env.cells scope.names [])) fp
  have pt := ht s3 (upd H2 D (.lst [])) s3.heap.objs.size (cellsFrom (s3.heap.objs.size + 1) scope.names (cloFrom X.env.cells scope.names [])) fp
  have pe := he s3 (upd H2 D (.lst [])) s3.heap.objs.size (cellsFrom (s3.heap.objs.size + 1) scope.names (cloFrom X.env.cells scope.names [])) fp
  show codeAny _ _ (.compStart (.ListComp elt [⟨tg, iter, ifs, 0⟩] scope pos) 0 (.ref it) (.ref D) (compEnvC scope (cellsFrom (s3.heap.objs.size + 1) scope.names (cloFrom X.env.cells scope.names [])) s3.heap.objs.size X.env)) (compPost (model X.prog X.w) X.A X.xe use Qf (.ref D) s3.heap.objs.size) { s3 with heap := pushCells (s3.heap.push { cls := .type "dict", data := .dict #[] }) scope.names }
  have nfp : ∀ b ∈ fp, (upd H2 D (.lst [])) b = none := fun b hb => (f3 b hb).1.1
  generalize hce : compEnvC scope (cellsFrom (s3.heap.objs.size + 1) scope.names (cloFrom X.env.cells scope.names [])) s3.heap.objs.size X.env = ce at I4 pg pt pe ⊢
  have cL : ce.locals = s3.heap.objs.size := by subst hce; rfl
  generalize hH3 : upd H2 D (.lst []) = H3 at I3 I4 pg pt pe w0 nfp f3
  generalize hs4 : ({ s3 with heap := pushCells (s3.heap.push { cls := .type "dict", data := .dict #[] }) scope.names } : Shared) = s4 at I4 ⊢
  have st4 : tn 0 s4.heap := T.keep _ _ _ st3 fun b _ o e => by rw [← hs4]; exact pushCells_keeps _ _ _ _ (Heap.get?_push_of_some _ e)
  have stat : ∀ {σ' : St} {H' : Hp} {s' : Shared}, Inv (X.blk s3 H3 scope ce fp) [] σ' H' s' → (∀ b ∈ fp, H' b = none) → ∀ b ∈ fp, FpOk (X.blk s3 H3 scope ce fp) [] H' b := fun {σ' H' s'} I' hn b hb =>
    ⟨hn b hb, (I'.ok.exf b hb).1, I'.ok.exfs b hb, .inl hb, fun x c e => (I'.ok.exf b hb).2 x c e, fun p hp => absurd (show p ∈ ([] : List (Addr × Obj)) ++ [] from hp) (by simp)⟩
  have loop : codeAny (model X.prog X.w) X.A (.compLoop (.ListComp elt [⟨tg, iter, ifs, 0⟩] scope pos) 0 (.ref it) (.ref D) ce) (compPost (model X.prog X.w) X.A X.xe use Qf (.ref D) s3.heap.objs.size) s4 := by
    refine compLoop_any (fun n s' => ∃ i H', Inv (X.blk s3 H3 scope ce fp) [] (wipe σ (own.map (·.2))) H' s' ∧ tn i s'.heap ∧ (∀ b ∈ fp, H' b = none) ∧ W i n H') ?_ m0 ⟨0, H3, I4, st4, nfp, w0⟩
    rintro n s5 ⟨i, H5, I5, st5, n5, w5⟩
    rcases turn i n H5 w5 with ⟨stop, qq⟩ | ⟨go, Nx, hNx, step⟩
    · have td := T.done (X.blk s3 H3 scope ce fp) rfl rfl rfl hc i [] s5 _ H5 (fun _ _ => False) I5 (stat I5 n5) st5 stop
      refine thnF td fun r s6 ⟨hr, I6⟩ => ?_
      subst hr
      -- back in the def's context
      have I7 : Inv X pins σ H5 s6 := I3.call' (ch := fp) I6.os I6.base I6.hok I6.bare fun b hb => ⟨(f3 b hb).1.2.2.2.1, (f3 b hb).1.2.1, (f3 b hb).1.2.2.2.2.1, (f3 b hb).1.2.2.2.2.2⟩
      have nC : H5 s3.heap.objs.size = none := by
        have z : H5 ce.locals = none := I6.free
        rw [cL] at z
        exact z
      obtain ⟨m, hn, _⟩ := I6.loc
      have hn : s6.heap.Ns ce.locals m := hn
      rw [cL] at hn
      exact hRR D s3.heap.objs.size s6 m H5 I7 qq hn (I3.fpOk (Nat.le_refl _) nC)
    · have ti := T.item (X.blk s3 H3 scope ce fp) rfl rfl rfl hc i [] s5 _ H5 (fun _ _ => False) I5 (stat I5 n5) st5 go
      refine thnF ti fun r s6 ⟨u, hr, h6⟩ => ?_
      subst hr
      refine thnF h6 fun _ s7 ⟨x, H7, I7, r7, y7, st7, n7⟩ => ?_
      have I7' := I7.pinned (stat I7 n7) (T.obj _ _ st7)
      refine thnF (pg _ s7 _ H7 x u _ I7' r7 (step x H7 y7)) fun _ s8 ⟨σ8, H8, I8, hw8, q8⟩ => ?_
      refine thnF (pt _ s8 σ8 H8 _ I8 q8) fun b s9 ⟨H9, I9, q9⟩ => ?_
      -- the turn's end
      have fin : ∀ {s' : Shared} {H' : Hp}, Inv (X.blk s3 H3 scope ce fp) ([] ++ pinsAt fp s7.heap) σ8 H' s' → Nx H' → ∃ m, m < n ∧ ∃ i H', Inv (X.blk s3 H3 scope ce fp) [] (wipe σ (own.map (·.2))) H' s' ∧ tn i s'.heap ∧ (∀ b ∈ fp, H' b = none) ∧ W i m H' := fun {s' H'} I' nx => by
        obtain ⟨m', hm, w'⟩ := hNx H' nx
        have pin' : ∀ b ∈ fp, ∀ o, s7.heap.get? b = some o → s'.heap.get? b = some o ∧ H' b = none := fun b hb o e =>
          let z := I'.pin (b, o) (List.mem_append_right _ (List.mem_append_right _ (mem_pinsAt hb e)))
          ⟨z.1, z.2.1⟩
        have hl : (wipe σ (own.map (·.2))).length = σ8.length := by rw [← hw8, wipe_length]
        refine ⟨m', hm, i + 1, H', (I'.unpinned (pins := [])).weak hl (fun j v e => ?_), T.keep _ _ _ st7 fun b hb o e => (pin' b hb o e).1, fun b hb => ?_, w'⟩
        · rw [← hw8] at e
          exact (wipe_some e).1
        · obtain ⟨o, e, _⟩ := T.obj _ _ st7 b hb
          exact (pin' b hb o e).2
      cases b with
      | false =>
        simp only [Bool.false_eq_true, if_false] at q9 ⊢
        exact fin I9 q9
      | true =>
        simp only [if_true] at q9 ⊢
        refine thnF (pe _ s9 σ8 H9 _ I9 q9) fun z s10 ⟨yv, H10, I10, r10, acc, hD10, hz10, nx⟩ => ?_
        exact app_ok (X := X.blk s3 H3 scope ce fp) I10 hD10 hz10 r10 fun s11 I11 => fin I11 nx
  exact codeAny_compStart_list loop (T.self X.A 0 _ _ _ st4 loop)
theorem pe_lc {elt tg iter : Expr} {ifs : List Expr} {scope : Scope} {own : List (Str × Nat)} {pos : Pos} {wi : TI} {g : TG} {tt : TT} {te : TE} (hc : X.calm = true) (hN : X.N.Nodup) (hi : PI X tg iter wi) (ok : BlkOk X.N X.env.scope scope own)
    (hg : ∀ (s : Shared) (H : Hp) (C : Addr) (cl : List (Str × Addr)) (fp : List Addr), PG (X.blk s H scope (compEnvC scope cl C X.env) fp) tg g) (ht : ∀ (s : Shared) (H : Hp) (C : Addr) (cl : List (Str × Addr)) (fp : List Addr), PTs (X.blk s H scope (compEnvC scope cl C X.env) fp) ifs tt)
    (he : ∀ (s : Shared) (H : Hp) (C : Addr) (cl : List (Str × Addr)) (fp : List Addr), PE (X.blk s H scope (compEnvC scope cl C X.env) fp) elt te) (hs : ∀ x, foldedSetIterable iter X.env x = pure x := by intro _; rfl) :
    PE X (.ListComp elt [⟨tg, iter, ifs, 0⟩] scope pos) (tLc wi g tt te (own.map (·.2))) := by
  intro pins s σ H Q I h
  rw [eval_ListComp]
  refine lc_core hc hN I hi ok hg ht he hs h fun D C s' m H' I' q hn f => ⟨m, hn, fun h'' sb => ?_⟩
  obtain ⟨f0, f1, f2, f3, f4, f5⟩ := f
  exact ⟨.ref D, H', I'.turned (t' := s'.toks) (fun b o hb e => (sb.2 b hb).trans e) f0 f1 f3 f4 f5, rfl, q⟩
theorem ps_setLc {i : Nat} {y : Str} {py : Pos} {elt tg iter : Expr} {ifs : List Expr} {scope : Scope} {own : List (Str × Nat)} {pos spos : Pos} {wi : TI} {g : TG} {tt : TT} {te : TE} (hc : X.calm = true) (hN : X.N.Nodup) (hy : X.N[i]? = some y) (hyl : X.env.scope.names.lookup y = some .local)
    (hsw : swapsWith (.ListComp elt [⟨tg, iter, ifs, 0⟩] scope pos) (some (.Name y py)) spos.line X.env = pure true) (hi : PI X tg iter wi) (ok : BlkOk X.N X.env.scope scope own)
    (hg : ∀ (s : Shared) (H : Hp) (C : Addr) (cl : List (Str × Addr)) (fp : List Addr), PG (X.blk s H scope (compEnvC scope cl C X.env) fp) tg g) (ht : ∀ (s : Shared) (H : Hp) (C : Addr) (cl : List (Str × Addr)) (fp : List Addr), PTs (X.blk s H scope (compEnvC scope cl C X.env) fp) ifs tt)
    (he : ∀ (s : Shared) (H : Hp) (C : Addr) (cl : List (Str × Addr)) (fp : List Addr), PE (X.blk s H scope (compEnvC scope cl C X.env) fp) elt te) (hs : ∀ x, foldedSetIterable iter X.env x = pure x := by intro _; rfl) :
    PS X (.Assign [.Name y py] (.ListComp elt [⟨tg, iter, ifs, 0⟩] scope pos) spos) (tAsg (tLc wi g tt te (own.map (·.2))) (gName i)) := by
  intro pins s σ H D I h
  rw [exec_Assign_Name_used _ _ _ _ hsw]
  refine wpAny_bind (wpAny_standAt (wpAny_bind ?_))
  show wpAny _ X.A (do let _ ← comprehension (.ListComp elt [⟨tg, iter, ifs, 0⟩] scope pos) scope X.env (firstIterPos [⟨tg, iter, ifs, 0⟩] pos) (newList []) false (eval iter X.env) (some (assign (.Name y py) X.env))) _ _ s
  have h : tLc wi g tt te (own.map (·.2)) σ H (fun x H1 => gName i x σ H1 D.nx) := h
  refine wpAny_bind (thn (lc_core (Qf := fun _ s' => SP X pins D .next s') hc hN I hi ok hg ht he hs h fun L C s' m H' I' q hn f => ?_) fun _ s' hq => wpAny_pure (wpAny_pure hq))
  show wpAny _ _ (assign (.Name y py) X.env (.ref L)) _ _ _
  refine wpAny_assign_Name (store_ok2 (v := V.ref L) I' hN hy (.inl hyl) rfl (fun s2 I2 ⟨a, sb, ha⟩ => ?_) (.inr hyl))
  obtain ⟨f0, f1, f2, f3, f4, f5⟩ := f
  have haC : C ≠ a := by
    rcases ha with z | z
    · rw [z]; exact f1
    · exact fun e => f4 y a z e.symm
  refine ⟨m, hn.sameBut sb haC, fun h3 sb3 => ?_⟩
  exact ⟨_, H', I2.turned (t' := s2.toks) (fun b o hb e => (sb3.2 b hb).trans e) f0 f1 f3 f4 f5, q⟩
theorem sw_true {elt : Expr} {gs : List Comprehension} {scope : Scope} {pos py : Pos} {y : Str} {l : Nat} {env : Env} (hk : env.scope.kind = .function) (hy : env.scope.names.lookup y = some .local) (hl : (py.line == pos.line) = true)
    (ha : (scope.names.any fun (n, k) => n == y && (k == .local || k == .cell)) = false) : swapsWith (.ListComp elt gs scope pos) (some (.Name y py)) l env = pure true := by
  have ky : env.kindOf y = some .local := hy
  have hb : env.blockKind = .function := by unfold Env.blockKind; rw [hk]; rfl
  unfold swapsWith
  simp only [hb, ky, ha, Expr.pos, hl]
  rfl
end

theorem lc_range {lo : Int} {n : Nat} {g : TG} {tt : TT} {te : TE} {vs : List Nat} {σ : St} {H1 : Hp} {D : Addr} {Qd : Hp → Prop} (Pv : Nat → Hp → Prop) (h0 : Pv 0 (upd H1 D (.lst [])))
    (hs : ∀ i H, i < n → Pv i H → g (.int (lo + i)) (wipe σ vs) H fun σ2 H2 => wipe σ2 vs = wipe σ vs ∧ tt σ2 H2 fun b H3 =>
      if b = true then te σ2 H3 fun y H4 => ∃ acc, H4 D = some (.lst acc) ∧ acc.length < sizeLine ∧ Pv (i + 1) (upd H4 D (.lst (acc ++ [y]))) else Pv (i + 1) H3) (hd : ∀ H, Pv n H → Qd H) :
    ∃ W : Nat → Nat → Hp → Prop, (∃ m, W 0 m (upd H1 D (.lst []))) ∧ ∀ i m H, W i m H →
      ((Itr lo n).stop i H ∧ Qd H) ∨ ((Itr lo n).go i H ∧ ∃ Nx : Hp → Prop, (∀ H', Nx H' → ∃ m', m' < m ∧ W (i + 1) m' H') ∧ ∀ x H', (Itr lo n).yld i H x H' → g x (wipe σ vs) H' fun σ2 H2 => wipe σ2 vs = wipe σ vs ∧ tt σ2 H2 fun b H3 =>
        if b = true then te σ2 H3 fun y H4 => ∃ acc, H4 D = some (.lst acc) ∧ acc.length < sizeLine ∧ Nx (upd H4 D (.lst (acc ++ [y]))) else Nx H3) := by
  refine ⟨fun i m H => m = n - i ∧ i ≤ n ∧ Pv i H, ⟨n, by simp, Nat.zero_le _, h0⟩, ?_⟩
  rintro i m H ⟨rfl, hi, p⟩
  by_cases hlt : i < n
  · refine .inr ⟨hlt, Pv (i + 1), fun H' p' => ⟨n - (i + 1), by omega, rfl, hlt, p'⟩, fun x H' y => ?_⟩
    obtain ⟨e, y⟩ := y
    subst e y
    exact hs i _ hlt p
  · have e : i = n := by omega
    subst e
    exact .inl ⟨Nat.le_refl _, hd H p⟩
theorem lc_list {K : PySem.W.Frag} {a : Addr} {xs : List V} {g : TG} {tt : TT} {te : TE} {vs : List Nat} {σ : St} {H1 : Hp} {D : Addr} {Qd : Hp → Prop} (Pv : Nat → Hp → Prop) (h0 : Pv 0 (upd H1 D (.lst []))) (hl : ∀ i H, i ≤ xs.length → Pv i H → SqL K H a xs)
    (hs : ∀ i x H, xs[i]? = some x → Pv i H → g x (wipe σ vs) H fun σ2 H2 => wipe σ2 vs = wipe σ vs ∧ tt σ2 H2 fun b H3 =>
      if b = true then te σ2 H3 fun y H4 => ∃ acc, H4 D = some (.lst acc) ∧ acc.length < sizeLine ∧ Pv (i + 1) (upd H4 D (.lst (acc ++ [y]))) else Pv (i + 1) H3) (hd : ∀ H, Pv xs.length H → Qd H) :
    ∃ W : Nat → Nat → Hp → Prop, (∃ m, W 0 m (upd H1 D (.lst []))) ∧ ∀ i m H, W i m H →
      ((Itl K a).stop i H ∧ Qd H) ∨ ((Itl K a).go i H ∧ ∃ Nx : Hp → Prop, (∀ H', Nx H' → ∃ m', m' < m ∧ W (i + 1) m' H') ∧ ∀ x H', (Itl K a).yld i H x H' → g x (wipe σ vs) H' fun σ2 H2 => wipe σ2 vs = wipe σ vs ∧ tt σ2 H2 fun b H3 =>
        if b = true then te σ2 H3 fun y H4 => ∃ acc, H4 D = some (.lst acc) ∧ acc.length < sizeLine ∧ Nx (upd H4 D (.lst (acc ++ [y]))) else Nx H3) := by
  refine ⟨fun i m H => m = xs.length - i ∧ i ≤ xs.length ∧ Pv i H, ⟨xs.length, by simp, Nat.zero_le _, h0⟩, ?_⟩
  rintro i m H ⟨rfl, hi, p⟩
  have q := hl i H hi p
  by_cases hlt : i < xs.length
  · refine .inr ⟨⟨xs, xs[i], q, by simp [hlt]⟩, Pv (i + 1), fun H' p' => ⟨xs.length - (i + 1), by omega, rfl, hlt, p'⟩, fun x H' y => ?_⟩
    obtain ⟨e, y⟩ := y
    subst e
    exact hs i x _ (y xs q) p
  · have e : i = xs.length := by omega
    subst e
    exact .inl ⟨⟨xs, q, Nat.le_refl _⟩, hd H p⟩
def blkC (N : List Str) (sc scope : Scope) (own : List (Str × Nat)) : Bool :=
  (match scope.kind with | .function => true | _ => false) && (scope.names.all fun y => decide (scope.names.lookup y.1 = some y.2)) && (own.all fun p => decide (N[p.2]? = some p.1)) &&
    (scope.names.all fun y => match y.2 with
      | .free => (match sc.names.lookup y.1 with | some .cell => true | some .free => true | _ => false)
      | .local => decide (y.1 ∈ own.map (·.1)) || decide (y.1 ∉ N)
      | .cell => decide (y.1 ∈ own.map (·.1)) || decide (y.1 ∉ N)
      | _ => true)
theorem blkOk_by {N : List Str} {sc scope : Scope} {own : List (Str × Nat)} (h : blkC N sc scope own = true) : BlkOk N sc scope own := by
  unfold blkC at h
  simp only [Bool.and_eq_true, List.all_eq_true, decide_eq_true_eq] at h
  obtain ⟨⟨⟨h1, h2⟩, h3⟩, h4⟩ := h
  refine ⟨?_, h2, h3, fun y hy e => ?_, fun y hy e => ?_⟩
  · split at h1
    · assumption
    · cases h1
  · have q := h4 y hy
    simp only [e] at q
    split at q <;> first | exact .inl (by assumption) | exact .inr (by assumption) | cases q
  · have q := h4 y hy
    rcases e with e | e <;> (simp only [e, Bool.or_eq_true, decide_eq_true_eq] at q; exact q)
end L2

namespace L2
open PySem PySem.Spec PyProof.Rows

section
variable {prog : Program} {w : World} {A : Around} {R : Result → Shared → Prop} {s : Shared} {elt t0 i0 t1 i1 : Expr} {ifs0 ifs1 : List Expr} {scope : Scope} {pos : Pos} {it acc : Value} {env : Env}
end

section
variable {X : Cx}
end
end L2

namespace L2
open PySem PySem.Spec PyProof.Rows

section
variable {κ : Type} [DecidableEq κ]
def valV (kvs : List (κ × V)) (k : κ) : Option V := (kvs.find? fun kv => decide (kv.1 = k)).map (·.2)
def putK (kvs : List (κ × V)) (k : κ) (v : V) : List (κ × V) :=
  if (kvs.any fun kv => decide (kv.1 = k)) = true then kvs.map (fun kv => if kv.1 = k then (kv.1, v) else kv) else kvs ++ [(k, v)]
def dropK (kvs : List (κ × V)) (k : κ) : List (κ × V) := kvs.filter fun kv => decide (kv.1 ≠ k)

theorem valV_pos {p : κ × V} {r : List (κ × V)} {k : κ} (e : p.1 = k) : valV (p :: r) k = some p.2 := by simp [valV, List.find?_cons, e]
theorem valV_neg {p : κ × V} {r : List (κ × V)} {k : κ} (e : ¬ p.1 = k) : valV (p :: r) k = valV r k := by simp [valV, List.find?_cons, e]
theorem valV_any (k : κ) : ∀ kvs : List (κ × V), (kvs.any fun kv => decide (kv.1 = k)) = (valV kvs k).isSome
  | [] => rfl
  | p :: r => by
    rw [List.any_cons]
    by_cases e : p.1 = k
    · simp only [valV_pos e, decide_eq_true e, Bool.true_or, Option.isSome_some]
    · rw [valV_neg e, decide_eq_false e, Bool.false_or]; exact valV_any k r
theorem length_putK (kvs : List (κ × V)) (k : κ) (v : V) : (putK kvs k v).length ≤ kvs.length + 1 := by
  unfold putK
  split
  · rw [List.length_map]; omega
  · rw [List.length_append, List.length_cons, List.length_nil]; omega
theorem putK_new {kvs : List (κ × V)} {k : κ} (v : V) (h : valV kvs k = none) : putK kvs k v = kvs ++ [(k, v)] := by
  unfold putK
  rw [valV_any, h]
  exact if_neg (by decide)

theorem RelO.isSome_eq {o : Option V} {u : Option Value} (r : RelO o u) : o.isSome = u.isSome := by
  cases o with
  | none => cases u with
    | none => rfl
    | some _ => exact (show False from r).elim
  | some _ => cases u with
    | none => exact (show False from r).elim
    | some _ => rfl
theorem RelO.getD {o : Option V} {u : Option Value} {d : V} {d' : Value} (r : RelO o u) (rd : RelV d d') : RelV (o.getD d) (u.getD d') := by
  cases o with
  | none => cases u with
    | none => exact rd
    | some _ => exact (show False from r).elim
  | some _ => cases u with
    | none => exact (show False from r).elim
    | some _ => exact r

theorem KV.val {kvs : List (κ × V)} {vs : List (κ × Value)} (r : KV kvs vs) (k : κ) : RelO (valV kvs k) (valueAt vs k) := by
  unfold KV at r
  induction r with
  | nil => exact True.intro
  | @cons p q ps qs h t ih =>
    obtain ⟨h1, h2⟩ := h
    by_cases e : p.1 = k
    · have e' : q.1 = k := h1.symm.trans e
      have b : valueAt (q :: qs) k = some q.2 := by simp [valueAt, List.find?_cons, e']
      rw [valV_pos e, b]; exact h2
    · have e' : ¬ q.1 = k := fun z => e (h1.trans z)
      have b : valueAt (q :: qs) k = valueAt qs k := by simp [valueAt, List.find?_cons, e']
      rw [valV_neg e, b]; exact ih
theorem KV.any {kvs : List (κ × V)} {vs : List (κ × Value)} (r : KV kvs vs) (k : κ) : (kvs.any fun kv => decide (kv.1 = k)) = vs.any fun kv => decide (kv.1 = k) := by
  unfold KV at r
  induction r with
  | nil => rfl
  | cons h t ih => rw [List.any_cons, List.any_cons, ih, h.1]
theorem KV.repl {kvs : List (κ × V)} {vs : List (κ × Value)} (r : KV kvs vs) (k : κ) {y : V} {u : Value} (ry : RelV y u) :
    KV (kvs.map fun kv => if kv.1 = k then (kv.1, y) else kv) (vs.map fun kv => if kv.1 = k then (kv.1, u) else kv) := by
  unfold KV at r ⊢
  induction r with
  | nil => exact .nil
  | @cons p q ps qs h t ih =>
    rw [List.map_cons, List.map_cons]
    refine .cons ?_ ih
    obtain ⟨h1, h2⟩ := h
    by_cases e : p.1 = k
    · rw [if_pos e, if_pos (h1.symm.trans e)]; exact ⟨h1, ry⟩
    · rw [if_neg e, if_neg (fun z => e (h1.trans z))]; exact ⟨h1, h2⟩
theorem KV.put {kvs : List (κ × V)} {vs : List (κ × Value)} (r : KV kvs vs) (k : κ) {y : V} {u : Value} (ry : RelV y u) : KV (putK kvs k y) (stored vs k u) := by
  unfold putK stored
  rw [r.any k]
  by_cases e : (vs.any fun kv => decide (kv.1 = k)) = true
  · rw [if_pos e, if_pos e]; exact r.repl k ry
  · rw [if_neg e, if_neg e]; exact Paired.snoc r ⟨rfl, ry⟩
theorem KV.drop {kvs : List (κ × V)} {vs : List (κ × Value)} (r : KV kvs vs) (k : κ) : KV (dropK kvs k) (without vs k) := by
  unfold KV at r ⊢
  unfold dropK without
  induction r with
  | nil => exact .nil
  | @cons p q ps qs h t ih =>
    obtain ⟨h1, h2⟩ := h
    rw [List.filter_cons, List.filter_cons]
    by_cases e : p.1 = k
    · have a : ¬ decide (p.1 ≠ k) = true := by simp [e]
      have b : ¬ decide (q.1 ≠ k) = true := by simp [h1.symm.trans e]
      rw [if_neg a, if_neg b]; exact ih
    · have e' : ¬ q.1 = k := fun z => e (h1.trans z)
      have a : decide (p.1 ≠ k) = true := by simp [e]
      have b : decide (q.1 ≠ k) = true := by simp [e']
      rw [if_pos a, if_pos b]; exact .cons ⟨h1, h2⟩ ih
theorem KV.keys {kvs : List (κ × V)} {vs : List (κ × Value)} (r : KV kvs vs) : kvs.map (·.1) = vs.map (·.1) := by
  unfold KV at r
  induction r with
  | nil => rfl
  | cons h t ih => rw [List.map_cons, List.map_cons, ih, h.1]
theorem KV.length {kvs : List (κ × V)} {vs : List (κ × Value)} (r : KV kvs vs) : kvs.length = vs.length := Paired.length r
end


theorem kV_is {P : Program} {w : World} {k : Key} {u : Value} (r : RelV (kV k) u) : (mixKind P w).is k u = true := by
  cases k with
  | inl i => obtain ⟨t, e⟩ := (show ∃ t, u = Value.int i t from r); subst e; exact mixKind_int P w i t
  | inr x => obtain ⟨t, e⟩ := (show ∃ t, u = Value.str x t from r); subst e; exact mixKind_str P w x t
theorem items_are {P : Program} {w : World} : ∀ {ks : List Key} {us : List Value}, Vals (ks.map kV) us → ItemsAre (mixKind P w) ks us
  | [], _, r => by rw [List.map_nil] at r; cases r; exact .nil
  | k :: ks, _, r => by
    rw [List.map_cons] at r
    cases r with
    | cons h t => exact .cons (kV_is h) (items_are t)

abbrev KT (H : Hp) : List (List Key × V) → List (List Key × Addr × Value) → Prop := Paired fun p q => p.1 = q.1 ∧ H q.2.1 = some (.tup (p.1.map kV)) ∧ RelV p.2 q.2.2
theorem KT.val {H : Hp} {kvs : List (List Key × V)} {xs : List (List Key × Addr × Value)} (r : KT H kvs xs) (k : List Key) : RelO (valV kvs k) ((atKey xs k).map (·.2)) := by
  induction r with
  | nil => exact True.intro
  | @cons p q ps qs h t ih =>
    obtain ⟨h1, _, h2⟩ := h
    by_cases e : p.1 = k
    · have e' : q.1 = k := h1.symm.trans e
      have b : atKey (q :: qs) k = some q.2 := by simp [atKey, List.find?_cons, e']
      rw [valV_pos e, b]; exact h2
    · have e' : ¬ q.1 = k := fun z => e (h1.trans z)
      have b : atKey (q :: qs) k = atKey qs k := by simp [atKey, List.find?_cons, e']
      rw [valV_neg e, b]; exact ih
theorem KT.repl {H : Hp} {kvs : List (List Key × V)} {xs : List (List Key × Addr × Value)} (r : KT H kvs xs) (k : List Key) {y : V} {u : Value} (ry : RelV y u) :
    KT H (kvs.map fun kv => if kv.1 = k then (kv.1, y) else kv) (xs.map (putAt k u)) := by
  induction r with
  | nil => exact .nil
  | @cons p q ps qs h t ih =>
    rw [List.map_cons, List.map_cons]
    refine .cons ?_ ih
    obtain ⟨h1, h2, h3⟩ := h
    unfold putAt
    by_cases e : p.1 = k
    · rw [if_pos e, if_pos (h1.symm.trans e)]; exact ⟨h1, h2, ry⟩
    · rw [if_neg e, if_neg (fun z => e (h1.trans z))]; exact ⟨h1, h2, h3⟩
theorem KT.put {H : Hp} {kvs : List (List Key × V)} {xs : List (List Key × Addr × Value)} (r : KT H kvs xs) (k : List Key) {b : Addr} {y : V} {u : Value} (hb : H b = some (.tup (k.map kV))) (ry : RelV y u) :
    KT H (putK kvs k y) (storedH xs k b u) := by
  have e : (kvs.any fun kv => decide (kv.1 = k)) = (atKey xs k).isSome := by
    rw [valV_any, (r.val k).isSome_eq, Option.isSome_map]
  unfold putK storedH
  rw [e]
  by_cases q : (atKey xs k).isSome = true
  · rw [if_pos q, if_pos q]; exact r.repl k ry
  · rw [if_neg q, if_neg q]; exact Paired.snoc r ⟨rfl, hb, ry⟩
theorem KT.keeps {H H' : Hp} {kvs : List (List Key × V)} {xs : List (List Key × Addr × Value)} (r : KT H kvs xs) (ht : ∀ b ys, H b = some (.tup ys) → H' b = some (.tup ys)) : KT H' kvs xs :=
  Paired.mapP r fun _ _ z => ⟨z.1, ht _ _ z.2.1, z.2.2⟩

section
variable {P : Program} {w : World} {H : Hp} {h : Heap} {a : Addr}
theorem rd_of {u : HO} (ok : HOk P w H h) (e : Rd H a u) : ObjOk P w H h a u := e.ok ok
theorem dk_rd {kvs : List (Key × V)} (ok : HOk P w H h) (e : Rd H a (.dK kvs)) : kvs.length ≤ sizeLine ∧ (a == sysModules) = false ∧ ∃ vs, KV kvs vs ∧ h.DictOf (mixKind P w) a vs :=
  show ObjOk P w H h a (.dK kvs) from rd_of ok e
theorem dk_of {kvs : List (Key × V)} (ok : HOk P w H h) (e : H a = some (.dK kvs)) : kvs.length ≤ sizeLine ∧ (a == sysModules) = false ∧ ∃ vs, KV kvs vs ∧ h.DictOf (mixKind P w) a vs := dk_rd ok (.inl e)
theorem key_of {ks : List Key} (ok : HOk P w H h) (e : H a = some (.tup (ks.map kV))) : (tupleKind (mixKind P w)).is h ks a := by
  obtain ⟨_, its, r, o, h1, h2, n, h3⟩ := (show ObjOk P w H h a (.tup (ks.map kV)) from ok a _ e)
  exact ⟨o, its.toArray, n, h1, h2, h3, by simpa using items_are r⟩
theorem dt_rd {kvs : List (List Key × V)} (ok : HOk P w H h) (e : Rd H a (.dT kvs)) : kvs.length ≤ sizeLine ∧ (a == sysModules) = false ∧
    ∃ xs, KT H kvs xs ∧ h.DictOfH (tupleKind (mixKind P w)) a xs := by
  obtain ⟨z, y, xs, r, o, es, ep, h1, h2, h3, h4, h5⟩ := (show ObjOk P w H h a (.dT kvs) from rd_of ok e)
  refine ⟨z, y, xs, r, o, es, ep, h1, h2, h3, h4, fun x hx => ?_, h5⟩
  have all : ∀ {l : List (List Key × V)} {m : List (List Key × Addr × Value)}, KT H l m → ∀ x ∈ m, (tupleKind (mixKind P w)).is h x.1 x.2.1 := by
    intro l m q
    induction q with
    | nil => intro x hx; exact nomatch hx
    | @cons p q ps qs hq t ih =>
      intro x hx
      rcases List.mem_cons.mp hx with e | hx
      · subst e
        exact key_of ok (by rw [← hq.1]; exact hq.2.1)
      · exact ih x hx
  exact all r x hx
theorem dt_of {kvs : List (List Key × V)} (ok : HOk P w H h) (e : H a = some (.dT kvs)) : kvs.length ≤ sizeLine ∧ (a == sysModules) = false ∧
    ∃ xs, KT H kvs xs ∧ h.DictOfH (tupleKind (mixKind P w)) a xs := dt_rd ok (.inl e)
end

def DGet (H : Hp) (a : Addr) (y : V) (r : Option V) : Prop :=
  (∃ kvs k, Rd H a (.dK kvs) ∧ y = kV k ∧ r = valV kvs k) ∨ ∃ kvs k b, Rd H a (.dT kvs) ∧ y = .ref b ∧ H b = some (.tup (k.map kV)) ∧ r = valV kvs k
def DPut (H : Hp) (a : Addr) (y v : V) (H' : Hp) : Prop :=
  (∃ kvs k, H a = some (.dK kvs) ∧ y = kV k ∧ kvs.length < sizeLine ∧ H' = upd H a (.dK (putK kvs k v))) ∨
  ∃ kvs k b, H a = some (.dT kvs) ∧ y = .ref b ∧ H b = some (.tup (k.map kV)) ∧ kvs.length < sizeLine ∧ H' = upd H a (.dT (putK kvs k v))
theorem DGet.k {H : Hp} {a : Addr} {kvs : List (Key × V)} {k : Key} (e : H a = some (.dK kvs)) : DGet H a (kV k) (valV kvs k) := .inl ⟨kvs, k, .inl e, rfl, rfl⟩
theorem DGet.t {H : Hp} {a b : Addr} {kvs : List (List Key × V)} {k : List Key} (e : H a = some (.dT kvs)) (eb : H b = some (.tup (k.map kV))) : DGet H a (.ref b) (valV kvs k) := .inr ⟨kvs, k, b, .inl e, rfl, eb, rfl⟩
theorem DPut.k {H : Hp} {a : Addr} {kvs : List (Key × V)} {k : Key} {v : V} (e : H a = some (.dK kvs)) (hl : kvs.length < sizeLine) : DPut H a (kV k) v (upd H a (.dK (putK kvs k v))) := .inl ⟨kvs, k, e, rfl, hl, rfl⟩
theorem DPut.t {H : Hp} {a b : Addr} {kvs : List (List Key × V)} {k : List Key} {v : V} (e : H a = some (.dT kvs)) (eb : H b = some (.tup (k.map kV))) (hl : kvs.length < sizeLine) :
    DPut H a (.ref b) v (upd H a (.dT (putK kvs k v))) := .inr ⟨kvs, k, b, e, rfl, eb, hl, rfl⟩


section
variable {X : Cx} {pins : List (Addr × Obj)} {σ : St} {H : Hp} {s : Shared} {a : Addr} {y v : V} {u r : Value} {o : Option V} {A : Around} {E : Value → Shared → Prop}

theorem Inv.big (I : Inv X pins σ H s) : sysModules < s.heap.objs.size := by
  have h : mainGlobals < s.heap.objs.size := (I.mod.glob.keeps I.bk).lt
  exact Nat.lt_trans (by decide) h

theorem d_getItem {Q : Value → Shared → Prop} (hu : A.units + 1 < cLine) (I : Inv X pins σ H s) (g : DGet H a y (some v)) (ry : RelV y u) (h : ∀ w' s', Inv X pins σ H s' → RelV v w' → Q w' s') :
    wpAny (model X.prog X.w) A (getItem (.ref a) u) Q E s := by
  rcases g with ⟨kvs, k, e, ey, l⟩ | ⟨kvs, k, b, e, ey, eb, l⟩
  · subst ey
    obtain ⟨z, hd, vs, rel, dd⟩ := dk_rd I.hok e
    obtain ⟨w', hw, rw'⟩ := RelO.some_of (v := v) (o := valueAt vs k) (by rw [l]; exact rel.val k)
    exact wpAny_getItem_of (kV_is ry) dd.mapOf hw (h w' _ (I.tok _) rw')
  · subst ey
    cases (show u = Value.ref b from ry)
    obtain ⟨z, hd, xs, rel, dd⟩ := dt_rd I.hok e
    obtain ⟨w', hw, rw'⟩ := RelO.some_of (v := v) (o := (atKey xs k).map (·.2)) (by rw [l]; exact rel.val k)
    obtain ⟨p, hp, hp2⟩ := Option.map_eq_some_iff.mp hw
    refine wpAny_getItem_heap (tupleKind_room_in1 hu) (key_of I.hok eb) dd hp ?_
    rw [hp2]
    exact h w' _ (I.tok _) rw'
theorem d_notIn {Q : Value → Shared → Prop} (hu : A.units + 1 < cLine) (I : Inv X pins σ H s) (g : DGet H a y o) (ry : RelV y u) (h : ∀ s', Inv X pins σ H s' → Q (.bool (!o.isSome)) s') :
    wpAny (model X.prog X.w) A (compareOp .NotIn u (.ref a)) Q E s := by
  rcases g with ⟨kvs, k, e, ey, l⟩ | ⟨kvs, k, b, e, ey, eb, l⟩
  · subst ey
    obtain ⟨z, hd, vs, rel, dd⟩ := dk_rd I.hok e
    refine wpAny_notIn_of (kV_is ry) hd dd.mapOf ?_
    rw [← (rel.val k).isSome_eq, ← l]
    exact h _ (I.tok _)
  · subst ey
    cases (show u = Value.ref b from ry)
    obtain ⟨z, hd, xs, rel, dd⟩ := dt_rd I.hok e
    refine wpAny_notIn_heap (tupleKind_room_in1 hu) (key_of I.hok eb) hd dd ?_
    have q := (rel.val k).isSome_eq
    rw [Option.isSome_map] at q
    rw [← q, ← l]
    exact h _ (I.tok _)
theorem d_write {h' : Heap} {t' : Nat} {ob : HO} (I : Inv X pins σ H s) (mu : Mut (H a)) (hs : Heap.SameBut a s.heap h') (he : ∃ q, h'.get? a = some q) (new : ObjOk X.prog X.w (upd H a ob) h' a ob) :
    Inv X pins σ (upd H a ob) { s with heap := h', toks := t' } :=
  I.write (x := a) (e := a) mu (.inl rfl) (fun b q hb z => (hs.2 b hb).trans z) he new
theorem dk_new {P : Program} {w : World} {H' : Hp} {h' : Heap} {kvs : List (Key × V)} {vs : List (Key × Value)} (z : kvs.length ≤ sizeLine) (hd : (a == sysModules) = false) (rel : KV kvs vs) (dd : h'.DictOf (mixKind P w) a vs) :
    ObjOk P w H' h' a (.dK kvs) := ⟨z, hd, vs, rel, dd⟩
theorem d_setItem {H' : Hp} {Q : Unit → Shared → Prop} (hu : A.units + 1 < cLine) (I : Inv X pins σ H s) (g : DPut H a y v H') (ry : RelV y u) (rv : RelV v r) (h : ∀ s', Inv X pins σ H' s' → Q () s') :
    wpAny (model X.prog X.w) A (setItem (.ref a) u r) Q E s := by
  rcases g with ⟨kvs, k, e, ey, l, eH⟩ | ⟨kvs, k, b, e, ey, eb, l, eH⟩
  · subst ey eH
    obtain ⟨z, hd, vs, rel, dd⟩ := dk_of I.hok e
    have hz : vs.length ≤ sizeLine := by rw [← rel.length]; exact z
    have hl : (putK kvs k v).length ≤ sizeLine := by have := length_putK kvs k v; omega
    refine wpAny_setItem_pairs (hsz := hz) (kV_is ry) dd fun h' dd' hs => h _ ?_
    have he : ∃ q, h'.get? a = some q := let ⟨q, _, _, hq, _⟩ := dd'; ⟨q, hq⟩
    exact d_write I (by rw [e]; exact True.intro) hs he (dk_new hl hd (rel.put k rv) dd')
  · subst ey eH
    cases (show u = Value.ref b from ry)
    obtain ⟨z, hd, xs, rel, dd⟩ := dt_of I.hok e
    have hz : xs.length ≤ sizeLine := by rw [← Paired.length rel]; exact z
    have hl : (putK kvs k v).length ≤ sizeLine := by have := length_putK kvs k v; omega
    refine wpAny_setItem_heap (hsz := hz) (tupleKind_room_in1 hu) (key_of I.hok eb) dd fun h' dd' hs => h _ ?_
    obtain ⟨q, es, ep, hq, h2, h3, h4, _, h5⟩ := dd'
    refine d_write I (by rw [e]; exact True.intro) hs ⟨q, hq⟩ ⟨hl, hd, _, (rel.put k eb rv).keeps fun c ys ec => ?_, q, es, ep, hq, h2, h3, h4, h5⟩
    rw [upd_ne (ne_of ec e (fun z => nomatch z))]
    exact ec
end

section
variable {X : Cx} {pins : List (Addr × Obj)} {σ : St} {H : Hp} {s : Shared} {a : Addr} {kvs : List (Key × V)} {k : Key} {u : Value} {A : Around} {E : Value → Shared → Prop}
end


def NoSl (i : Expr) : Prop := ∀ ov iv, subscripted i false ov iv = operate [ov, iv] (getItem ov iv)
theorem subD_of {prog : Program} {w : World} {A : Around} {E : Value → Shared → Prop} {s : Shared} {env : Env} {value slice : Expr} {pos : Pos} {T id : String} {Q : Value → Shared → Prop}
    (hl : typeLookup (.type T) "__getitem__" = pure (some (.builtin id))) (hs : NoSl slice)
    (h : wpAny (model prog w) A (eval value env) (fun o s₁ => wpAny (model prog w) A (eval slice env) (fun i s₂ => s₂.TypeIs o T ∧ wpAny (model prog w) A (getItem o i) Q E s₂) E s₁) E s) :
    wpAny (model prog w) A (eval (.Subscript value slice pos) env) Q E s := by
  refine Subscript_ (wpAny_mono h (fun o s₁ h₁ => wpAny_mono h₁ (fun i s₂ h₂ => ?_) fun _ _ x => x) fun _ _ x => x)
  obtain ⟨hT, h₂⟩ := h₂
  unfold subscriptTail
  refine wpAny_bind ?_
  rw [getitemInPython_of_ne hT.not_modules]
  refine wpAny_bind (wpAny_specialOf hT hl ?_)
  have fin : wpAny (model prog w) A (subscripted slice false o i) (fun r s₃ => wpAny (model prog w) A (letTemporaryGo value o r >>= fun _ => pure r) Q E s₃) E s₂ := by
    rw [hs o i]
    exact wpAny_operating (wpAny_mono h₂ (fun r s₃ h₃ => wpAny_bind (wpAny_letTemporaryGo (wpAny_pure h₃))) fun _ _ x => x)
  first
    | exact wpAny_pure (wpAny_bind fin)
    | exact wpAny_bind (wpAny_pure (wpAny_bind fin))
    | exact wpAny_bind fin

theorem dict_typeIs {X : Cx} {pins : List (Addr × Obj)} {σ : St} {H : Hp} {s : Shared} {a : Addr} {y : V} {o : Option V} (I : Inv X pins σ H s) (g : DGet H a y o) : s.TypeIs (.ref a) "dict" := by
  rcases g with ⟨kvs, k, e, _, _⟩ | ⟨kvs, k, b, e, _, _, _⟩
  · obtain ⟨_, _, vs, _, dd⟩ := dk_rd I.hok e
    exact dd.typeIs
  · obtain ⟨_, _, xs, _, dd⟩ := dt_rd I.hok e
    exact dd.typeIs
def tDGet (td ty : TE) : TE := fun σ H Q => td σ H fun x H1 => ty σ H1 fun y H2 => ∃ a v, x = .ref a ∧ DGet H2 a y (some v) ∧ Q v H2
def tDNotIn (ty td : TE) : TE := fun σ H Q => ty σ H fun y H1 => td σ H1 fun x H2 => ∃ a o, x = .ref a ∧ DGet H2 a y o ∧ Q (.bl (!o.isSome)) H2
def sDPut (td ty tv : TE) : TS := fun D σ H => tv σ H fun v H1 => td σ H1 fun x H2 => ty σ H2 fun y H3 => ∃ a H4, x = .ref a ∧ DPut H3 a y v H4 ∧ D.nx σ H4
section
variable {X : Cx} {o i e value : Expr} {pos pos' tpos : Pos} {td ty tv : TE}
theorem pe_dget (hu : X.A.units + 1 < cLine) (ho : PE X o td) (hi : PE X i ty) (hs : NoSl i) : PE X (.Subscript o i pos) (tDGet td ty) := by
  intro pins s σ H Q I h
  refine subD_of PySem.F.slot_dict_getitem.lookup hs (thn (ho pins s σ H _ I h) fun u s1 ⟨x, H1, I1, rx, q1⟩ => thn (hi pins s1 σ H1 _ I1 q1) fun iv s2 ⟨y, H2, I2, ry, a, v, ex, g, q2⟩ => ?_)
  subst ex
  obtain rfl : u = Value.ref a := rx
  exact ⟨dict_typeIs I2 g, d_getItem hu I2 g ry fun w' s3 I3 rw' => ⟨v, H2, I3, rw', q2⟩⟩
theorem pc_dnotin (hu : X.A.units + 1 < cLine) (hi : PE X i ty) (ho : PE X o td) : PC X .NotIn i o (tDNotIn ty td) := by
  intro pins s σ H Q I h
  refine thn (hi pins s σ H _ I h) fun iv s1 ⟨y, H1, I1, ry, q1⟩ => thn (ho pins s1 σ H1 _ I1 q1) fun u s2 ⟨x, H2, I2, rx, a, ov, ex, g, q2⟩ => ?_
  subst ex
  obtain rfl : u = Value.ref a := rx
  exact d_notIn hu I2 g ry fun s3 I3 => ⟨.bl (!ov.isSome), H2, I3, rfl, q2⟩
theorem ps_dput (hu : X.A.units + 1 < cLine) (ho : PE X o td) (hi : PE X i ty) (hv : PE X value tv) (hs : swapsWith value (some (.Subscript o i pos')) pos.line X.env = pure false) :
    PS X (.Assign [.Subscript o i pos'] value pos) (sDPut td ty tv) := by
  intro pins s σ H D I h
  refine wpAny_Assign_Subscript (thn (hv pins s σ H _ I h) fun r s1 ⟨v, H1, I1, rv, q1⟩ => thn (ho pins s1 σ H1 _ I1 q1) fun u s2 ⟨x, H2, I2, rx, q2⟩ => thn (hi pins s2 σ H2 _ I2 q2) fun iv s3 ⟨y, H3, I3, ry, a, H4, ex, g, q3⟩ => ?_) hs
  subst ex
  obtain rfl : u = Value.ref a := rx
  exact d_setItem hu I3 g ry rv fun s4 I4 => ⟨σ, H4, I4, q3⟩
end


theorem dk_empty {P : Program} {w : World} {H : Hp} (h : Heap) (hb : sysModules < h.objs.size) : ObjOk P w H (h.push { cls := .type "dict", data := .dict #[] }) h.objs.size (.dK []) :=
  ⟨Nat.zero_le _, beq_eq_false_iff_ne.mpr (Ne.symm (Nat.ne_of_lt hb)), [], .nil, Heap.DictOf.new h⟩
def tDNewK : TE := fun _ H Q => ∀ p, H p = none → Q (.ref p) (upd H p (.dK []))
section
variable {X : Cx} {pos : Pos}
theorem pe_dnewK : PE X (.Dict [] [] pos) tDNewK := fun pins s σ H Q I h =>
  wpAny_Dict_empty ⟨.ref s.heap.objs.size, _, I.laid (a := s.heap.objs.size) (o := .dK []) (t' := s.toks) (fun _ _ q => Heap.get?_push_of_some _ q) (Nat.le_refl _) (dk_empty s.heap I.big), rfl, h _ (I.hok.fresh (Nat.le_refl _))⟩
end

def tPairs : List (TE × TE) → St → Hp → (List (V × V) → Hp → Prop) → Prop
  | [], _, H, Q => Q [] H
  | (tk, tv) :: r, σ, H, Q => tk σ H fun x H1 => tv σ H1 fun y H2 => tPairs r σ H2 fun ps H3 => Q ((x, y) :: ps) H3
abbrev VV : List (V × V) → List (Value × Value) → Prop := Paired fun p q => RelV p.1 q.1 ∧ RelV p.2 q.2
def PPs (X : Cx) (pos : Pos) (keys : List (Option Expr)) (values : List Expr) (trs : List (TE × TE)) : Prop :=
  ∀ (pins : List (Addr × Obj)) (s : Shared) (σ : St) (H : Hp) (Q : List (V × V) → Hp → Prop), Inv X pins σ H s → tPairs trs σ H Q →
    wpAny (model X.prog X.w) X.A (evalPairs (pairTrees keys values X.env pos)) (fun vs s' => ∃ ps H', Inv X pins σ H' s' ∧ VV ps vs ∧ Q ps H') X.xe s
theorem pps_nil {X : Cx} {pos : Pos} : PPs X pos [] [] [] := fun pins s σ H Q I h => pairTrees_nil_walk ⟨[], H, I, .nil, h⟩
theorem pps_cons {X : Cx} {pos : Pos} {k v : Expr} {ks : List (Option Expr)} {vs : List Expr} {tk tv : TE} {trs : List (TE × TE)} (hk : PE X k tk) (hv : PE X v tv) (hr : PPs X pos ks vs trs) :
    PPs X pos (some k :: ks) (v :: vs) ((tk, tv) :: trs) := fun pins s σ H Q I h =>
  pairTrees_cons_walk (thn (hk pins s σ H _ I h) fun u s1 ⟨x, H1, I1, rx, q1⟩ => thn (hv pins s1 σ H1 _ I1 q1) fun w2 s2 ⟨y, H2, I2, ry, q2⟩ =>
    thn (hr pins s2 σ H2 _ I2 q2) fun ws s3 ⟨ps, H3, I3, rel, q3⟩ => ⟨(x, y) :: ps, H3, I3, .cons ⟨rx, ry⟩ rel, q3⟩)

def mergeK (kvs more : List (Key × V)) : List (Key × V) := more.foldl (fun acc kv => putK acc kv.1 kv.2) kvs
theorem KV.merge : ∀ {more : List (Key × V)} {rs : List (Key × Value)} {kvs : List (Key × V)} {vs : List (Key × Value)}, KV more rs → KV kvs vs → KV (mergeK kvs more) (merged vs rs) := by
  intro more rs kvs vs r
  unfold KV at r
  induction r generalizing kvs vs with
  | nil => intro q; exact q
  | @cons p q ps qs h t ih =>
    intro r0
    have e : KV (putK kvs p.1 p.2) (stored vs q.1 q.2) := by
      have := r0.put p.1 h.2
      rw [← h.1]; exact this
    exact ih e
theorem length_mergeK : ∀ (more kvs : List (Key × V)), (mergeK kvs more).length ≤ kvs.length + more.length
  | [], kvs => by show kvs.length ≤ kvs.length + 0; omega
  | p :: r, kvs => by
    have h1 := length_mergeK r (putK kvs p.1 p.2)
    have h2 := length_putK kvs p.1 p.2
    show (mergeK (putK kvs p.1 p.2) r).length ≤ _
    rw [List.length_cons]; omega
theorem carries_of {P : Program} {w : World} : ∀ {kvs : List (Key × V)} {ws : List (Value × Value)}, VV (kvs.map fun kv => (kV kv.1, kv.2)) ws → ∃ rs, Carries (mixKind P w) ws rs ∧ KV kvs rs
  | [], _, r => by rw [List.map_nil] at r; cases r; exact ⟨[], True.intro, .nil⟩
  | p :: kvs, _, r => by
    rw [List.map_cons] at r
    cases r with
    | @cons a b as bs h t =>
      obtain ⟨rs, c, q⟩ := carries_of (P := P) (w := w) t
      obtain ⟨b1, b2⟩ := b
      exact ⟨(p.1, b2) :: rs, ⟨kV_is h.1, rfl, c⟩, .cons ⟨rfl, h.2⟩ q⟩
def tDisp (trs : List (TE × TE)) : TE := fun σ H Q => ∀ p, H p = none → tPairs trs σ (upd H p (.dK [])) fun ps H2 => H2 p = some (.dK []) ∧ ∃ kvs : List (Key × V), ps = kvs.map (fun kv => (kV kv.1, kv.2)) ∧ kvs.length ≤ 15 ∧ Q (.ref p) (upd H2 p (.dK (mergeK [] kvs)))
theorem pe_disp {X : Cx} {pos : Pos} {keys : List (Option Expr)} {values : List Expr} {trs : List (TE × TE)} (h : PPs X pos keys values trs) (hall : keys.all (·.isSome) = true) (hl : keys.length = values.length) (h0 : keys ≠ [])
    (h15 : keys.length ≤ 15) : PE X (.Dict keys values pos) (tDisp trs) := by
  intro pins s σ H Q I q
  have hn := I.hok.fresh (Nat.le_refl s.heap.objs.size)
  have I1 := I.laid (a := s.heap.objs.size) (o := .dK []) (h' := s.heap.push { cls := .type "dict", data := .dict #[] }) (t' := s.toks) (fun _ _ q => Heap.get?_push_of_some _ q) (Nat.le_refl _) (dk_empty s.heap I.big)
  refine wpAny_Dict_walk (knd := mixKind X.prog X.w) hall hl h0 h15 (thn (h pins _ σ _ _ I1 (q _ hn)) fun ws s2 ⟨ps, H2, I2, rel, e, kvs, ep, lk, q2⟩ => ?_)
  subst ep
  obtain ⟨rs, c, rk⟩ := carries_of (P := X.prog) (w := X.w) rel
  obtain ⟨z, hd, vs0, r0, dd⟩ := dk_of I2.hok e
  cases r0
  refine ⟨rs, c, dd, fun h' dd' hs => ⟨.ref s.heap.objs.size, _, ?_, rfl, q2⟩⟩
  have hz : (mergeK [] kvs).length ≤ sizeLine := by
    have h1 := length_mergeK kvs []
    rw [List.length_nil] at h1
    rw [sizeLine_eq]; omega
  have he : ∃ q, h'.get? s.heap.objs.size = some q := let ⟨q, _, _, hq, _⟩ := dd'; ⟨q, hq⟩
  exact d_write I2 (by rw [e]; exact True.intro) hs he (dk_new hz hd (rk.merge .nil) dd')


structure M1 (X : Cx) (o : Expr) (m : Str) (apos : Pos) (e : Expr) (cpos : Pos) : Prop where
  base : attributeBase o m X.env (eval o X.env) = eval o X.env
  few : ((backTo cpos (starEach [e] X.env)).all (fun x => !x.1) && (backToKw cpos (keywordEach [] X.env)).all (fun x => x.1.isSome)
    && decide (([e] : List Expr).length + ([] : List Keyword).length + (if ([] : List Keyword).isEmpty then 0 else 1) < 30)) = true
  line : (apos.endLine == cpos.line) = true
  trees : backTo cpos (starEach [e] X.env) = [(false, eval e X.env)]
structure M2 (X : Cx) (o : Expr) (m : Str) (apos : Pos) (e f : Expr) (cpos : Pos) : Prop where
  base : attributeBase o m X.env (eval o X.env) = eval o X.env
  few : ((backTo cpos (starEach [e, f] X.env)).all (fun x => !x.1) && (backToKw cpos (keywordEach [] X.env)).all (fun x => x.1.isSome)
    && decide (([e, f] : List Expr).length + ([] : List Keyword).length + (if ([] : List Keyword).isEmpty then 0 else 1) < 30)) = true
  line : (apos.endLine == cpos.line) = true
  trees : backTo cpos (starEach [e, f] X.env) = [(false, eval e X.env), (false, eval f X.env)]

def IsD (H : Hp) (a : Addr) : Prop := (∃ kvs, Rd H a (.dK kvs)) ∨ ∃ kvs, Rd H a (.dT kvs)
theorem isD_at {X : Cx} {pins : List (Addr × Obj)} {σ : St} {H : Hp} {s : Shared} {a : Addr} (I : Inv X pins σ H s) (d : IsD H a) :
    s.TypeIs (.ref a) "dict" ∧ (∀ b, Value.ref a = .ref b → ∃ ob, s.heap.get? b = some ob ∧ ob.dict = none) ∧ (a == sysModules) = false := by
  rcases d with ⟨kvs, e⟩ | ⟨kvs, e⟩
  · obtain ⟨_, hd, vs, _, dd⟩ := dk_rd I.hok e
    refine ⟨dd.typeIs, fun b q => ?_, hd⟩
    cases q
    obtain ⟨ob, _, _, h1, h2, _⟩ := dd
    exact ⟨ob, h1, h2.2.1⟩
  · obtain ⟨_, hd, xs, _, dd⟩ := dt_rd I.hok e
    refine ⟨dd.typeIs, fun b q => ?_, hd⟩
    cases q
    obtain ⟨ob, _, _, h1, h2, _⟩ := dd
    exact ⟨ob, h1, h2.2.1⟩

section
variable {X : Cx} {pins : List (Addr × Obj)} {σ : St} {H : Hp} {s : Shared} {a : Addr} {y d : V} {u r : Value} {o : Option V} {A : Around} {E : Value → Shared → Prop}
theorem d_get1 {Q : Value → Shared → Prop} (hu : A.units + 1 < cLine) (I : Inv X pins σ H s) (g : DGet H a y o) (ry : RelV y u) (h : ∀ w' s', Inv X pins σ H s' → RelV (o.getD .non) w' → Q w' s') :
    wpAny (model X.prog X.w) A (call (.builtin "dict.get") [.ref a, u]) Q E s := by
  rcases g with ⟨kvs, k, e, ey, l⟩ | ⟨kvs, k, b, e, ey, eb, l⟩
  · subst ey
    obtain ⟨z, hd, vs, rel, dd⟩ := dk_rd I.hok e
    refine call_meetsIn PySem.F.slot_dict_get dd.typeIs PySem.F.entry_dict_get (PySem.F.args_dict_get_2 _ _) (meets_dict_get (mixKind X.prog X.w) a (kV_is ry) hd) ⟨_, dd.mapOf, h _ _ (I.tok _) ?_⟩
    rw [l]
    exact (rel.val k).getD rfl
  · subst ey
    cases (show u = Value.ref b from ry)
    obtain ⟨z, hd, xs, rel, dd⟩ := dt_rd I.hok e
    refine call_meetsIn PySem.F.slot_dict_get dd.typeIs PySem.F.entry_dict_get (PySem.F.args_dict_get_2 _ _) (meetsH_dict_get (tupleKind (mixKind X.prog X.w)) a b hd) ⟨tupleKind_room_in1 hu, k, xs, key_of I.hok eb, dd, h _ _ (I.tok _) ?_⟩
    rw [l]
    exact (rel.val k).getD rfl
end

def tDGet1 (td ty : TE) : TE := fun σ H Q => td σ H fun x H1 => ∃ a, x = .ref a ∧ IsD H1 a ∧ ty σ H1 fun y H2 => ∃ o, DGet H2 a y o ∧ Q (o.getD .non) H2
section
variable {X : Cx} {o e f : Expr} {apos cpos : Pos} {td ty tx : TE}
theorem pe_dget1 (hu : X.A.units + 1 < cLine) (ho : PE X o td) (he : PE X e ty) (m : M1 X o "get" apos e cpos) : PE X (.Call (.Attribute o "get" apos) [e] [] cpos) (tDGet1 td ty) := by
  intro pins s σ H Q I h
  refine wpAny_Call_method m.base m.few m.line PySem.F.plainAttrs_dict PySem.F.slot_dict_get PySem.F.type_dict_get (thn (ho pins s σ H _ I h) fun u s1 ⟨x, H1, I1, rx, a, ex, d, q1⟩ => ?_)
  subst ex
  obtain rfl : u = Value.ref a := rx
  obtain ⟨t1, t2, _⟩ := isD_at I1 d
  refine ⟨t1, t2, ?_⟩
  rw [m.trees]
  refine Calls.callWith_builtin rfl (Calls.evalArgs_plain (Calls.spliced_cons (thn (he pins s1 σ H1 _ I1 q1) fun iv s2 ⟨y, H2, I2, ry, ov, g, q2⟩ => Calls.spliced_nil ?_)))
  exact d_get1 hu I2 g ry fun w' s3 I3 rw' => ⟨_, H2, I3, rw', q2⟩
end

section
variable {X : Cx} {pins : List (Addr × Obj)} {σ : St} {H : Hp} {s : Shared} {a : Addr} {kvs : List (Key × V)} {A : Around} {E : Value → Shared → Prop}
end


section
variable {X : Cx} {pins : List (Addr × Obj)} {σ : St} {H : Hp} {s : Shared} {a : Addr} {y : V} {u : Value} {A : Around} {E : Value → Shared → Prop}
end
end L2

namespace L2
open PySem PySem.Spec PyProof.Rows

section
variable {prog : Program} {w : World} {A : Around} {E : Value → Shared → Prop}
end

section
variable {X : Cx}
end
end L2

namespace L2
open PySem PySem.Spec PyProof.Rows

section
variable {X : Cx} {pins : List (Addr × Obj)} {σ : St} {H : Hp} {s : Shared} {h' : Heap}
theorem Inv.turnedNew {t' : Nat} {ch : List Addr} {T : Addr} {ob : HO} (I : Inv X pins σ H s) (k : ∀ b o, b ∉ ch → s.heap.get? b = some o → h'.get? b = some o) (hf : ∀ b ∈ ch, FpOk X pins H b) (hT : s.heap.objs.size ≤ T)
    (new : ObjOk X.prog X.w (upd H T ob) h' T ob) : Inv X pins σ (upd H T ob) { s with heap := h', toks := t' } := by
  have hn : H T = none := I.hok.fresh hT
  have nit : ∀ b u, H b = some u → b ∉ ch := fun b u e z => by
    have q := (hf b z).1
    rw [q] at e; cases e
  refine I.step (g' := s.gens) (d' := s.drawn) (ch := ch) (fun b hb => ⟨(hf b hb).2.2.2.1, (hf b hb).2.1, (hf b hb).2.2.2.2.1, (hf b hb).2.2.2.2.2⟩) (fun b o _ _ hc e _ => k b o hc e) (fun b o _ _ hc e _ => ⟨o.slots, k b o hc e⟩)
    (fun b o _ e n => ?_) (fun b o hc e => ⟨o, k b o hc e⟩) (fun b xs e => ?_) (fun b o u e => ?_) (fun b ps e => ⟨#[], ?_⟩) (fun m hm => ?_) (fun b u e => ?_) I.bare
  · rw [upd_ne (Nat.ne_of_lt (Nat.lt_of_lt_of_le (Heap.lt_size e) hT))]; exact n
  · rw [upd_ne (ne_of_none e hn)]; exact e
  · rw [upd_ne (ne_of_none e hn)]; exact e
  · rw [upd_ne (ne_of_none e hn), e]; simp
  · obtain ⟨o, es, ep, ho, r⟩ := hm
    exact ⟨o, es, ep, k _ o (fun z => (hf _ z).2.1 rfl) ho, r⟩
  · by_cases hb : b = T
    · subst hb
      rw [upd_same] at e
      cases e
      exact new
    · rw [upd_ne hb] at e
      refine (I.hok b u e).stay (fun c v hc q => k c v ?_ q) (fun c q => by rw [upd_ne (ne_of_none q hn)]; exact q) fun c xs q => by rw [upd_ne (ne_of_none q hn)]; exact q
      rcases hc with z | z
      · rw [z]; exact nit b u e
      · exact nit c _ z

theorem Inv.lock {d : Addr} {u : HO} (I : Inv X pins σ H s) (h : H d = some u) (mu : Mut (some u)) : ∃ od, Inv X pins σ (upd H d (.frz od u)) s := by
  have x := I.hok d u h
  have ex : ∃ od, s.heap.get? d = some od := by
    cases u with
    | lst xs => obtain ⟨_, _, _, _, e⟩ := x; exact ⟨_, e⟩
    | dK kvs => obtain ⟨_, _, _, _, o, _, _, e, _⟩ := x; exact ⟨o, e⟩
    | dT kvs => obtain ⟨_, _, _, _, o, _, _, e, _⟩ := x; exact ⟨o, e⟩
    | set S n => obtain ⟨o, _, _, _, e, _⟩ := x; exact ⟨o, e⟩
    | ins C dx fs => obtain ⟨_, _, _, e, _⟩ := x; exact ⟨_, e⟩
    | ext φ => obtain ⟨_, ⟨_, e⟩, _⟩ := x; exact ⟨_, e⟩
    | _ => exact False.elim mu
  obtain ⟨od, e⟩ := ex
  have new : ObjOk X.prog X.w (upd H d (.frz od u)) s.heap d (.frz od u) := by
    refine ⟨e, x.stay (fun b v _ q => q) (fun b q => ?_) fun b xs q => ?_⟩
    · rw [upd_ne (fun z => by rw [z, h] at q; cases q; exact mu)]; exact q
    · rw [upd_ne (fun z => by rw [z, h] at q; cases q; exact mu)]; exact q
  exact ⟨od, I.write (x := d) (e := d) (t' := s.toks) (h' := s.heap) (by rw [h]; exact mu) (.inl rfl) (fun b v _ q => q) ⟨od, e⟩ new⟩
theorem Inv.nofrz {d : Addr} {u : HO} (I : Inv X pins σ H s) (h : H d = some u) (mu : Mut (some u)) : ∀ o' u', X.H_0 d ≠ some (.frz o' u') := fun o' u' e => by
  have q := I.base.frzs d o' u' e
  rw [h] at q
  cases q
  exact mu
theorem Inv.unlock {d : Addr} {od : Obj} {u : HO} (I : Inv X pins σ H s) (h : H d = some (.frz od u)) (hn : ∀ o' u', X.H_0 d ≠ some (.frz o' u')) : Inv X pins σ (upd H d u) s := by
  have neH : ∀ b o, H b = some o → (∀ o' u', o ≠ .frz o' u') → b ≠ d := fun b o e hne z => by
    rw [z, h] at e
    cases e
    exact hne _ _ rfl
  have neN : ∀ b, H b = none → b ≠ d := fun b e z => by rw [z, h] at e; cases e
  refine ⟨I.ok, I.os, I.bare, ⟨I.base.keep, I.base.slot, fun b o e n hx => ?_, I.base.there, fun b xs e => ?_, fun b o x e => ?_, fun b ps e => ?_⟩, I.loc, I.cell, ?_, fun x c e => ?_, fun p hp => ?_, fun b o e => ?_, I.len⟩
  · rw [upd_ne (neN b (I.base.free b o e n hx))]; exact I.base.free b o e n hx
  · have q := I.base.tups b xs e
    rw [upd_ne (neH b _ q (fun _ _ z => nomatch z))]; exact q
  · have q := I.base.frzs b o x e
    rw [upd_ne (fun z => by rw [z] at e; exact hn _ _ e)]; exact q
  · obtain ⟨m, q⟩ := I.base.tbls b ps e
    exact ⟨m, by rw [upd_ne (neH b _ q (fun _ _ z => nomatch z))]; exact q⟩
  · rw [upd_ne (neN _ I.free)]; exact I.free
  · rw [upd_ne (neN c (I.freeC x c e))]; exact I.freeC x c e
  · obtain ⟨e, n, r⟩ := I.pin p hp
    exact ⟨e, by rw [upd_ne (neN _ n)]; exact n, r⟩
  · by_cases hb : b = d
    · rw [hb, upd_same] at e
      cases e
      rw [hb]
      obtain ⟨_, x⟩ := I.hok d _ h
      exact x.stay (fun c v _ q => q) (fun c q => by rw [upd_ne (neH c _ q (fun _ _ z => nomatch z))]; exact q) fun c xs q => by rw [upd_ne (neH c _ q (fun _ _ z => nomatch z))]; exact q
    · rw [upd_ne hb] at e
      exact (I.hok b o e).stay (fun c v _ q => q) (fun c q => by rw [upd_ne (neH c _ q (fun _ _ z => nomatch z))]; exact q) fun c xs q => by rw [upd_ne (neH c _ q (fun _ _ z => nomatch z))]; exact q
end
def tLock (t : TS) : TS := fun D σ H => ∃ d u, H d = some u ∧ Mut (some u) ∧ ∀ od, t ⟨fun σ' H' => H' d = some (.frz od u) ∧ D.nx σ' (upd H' d u), fun v H' => H' d = some (.frz od u) ∧ D.rt v (upd H' d u), fun σ' H' => H' d = some (.frz od u) ∧ D.bk σ' (upd H' d u), fun σ' H' => H' d = some (.frz od u) ∧ D.ct σ' (upd H' d u)⟩ σ (upd H d (.frz od u))
section
variable {X : Cx}
theorem ps_lock {st : Stmt} {t : TS} (h : PS X st t) : PS X st (tLock t) := by
  intro pins s σ H D I hw
  obtain ⟨d, u, hd, mu, hw⟩ := hw
  obtain ⟨od, I1⟩ := I.lock hd mu
  refine thn (h pins s σ _ _ I1 (hw od)) fun f s1 q => ?_
  cases f with
  | next => obtain ⟨σ', H', I2, e, q⟩ := q; exact ⟨σ', _, I2.unlock e (I.nofrz hd mu), q⟩
  | brk => obtain ⟨σ', H', I2, e, q⟩ := q; exact ⟨σ', _, I2.unlock e (I.nofrz hd mu), q⟩
  | cont => obtain ⟨σ', H', I2, e, q⟩ := q; exact ⟨σ', _, I2.unlock e (I.nofrz hd mu), q⟩
  | ret v => obtain ⟨x, σ', H', I2, r, e, q⟩ := q; exact ⟨x, σ', _, I2.unlock e (I.nofrz hd mu), r, q⟩
theorem pi_one {tg : Expr} {pins : List (Addr × Obj)} {σ : St} {H : Hp} {s : Shared} {R : It → Hp → Prop} {J : It} {tn : Nat → Heap → Prop} {tk : Nat} (I : Inv X pins σ H s) (o : Obj)
    (T : Turn X.prog X.w X.K tg J [s.heap.objs.size] s.heap.objs.size tn) (st : tn 0 (s.heap.push o)) (q : R J H) : PIE X pins σ tg R (.ref s.heap.objs.size) { s with heap := s.heap.push o, toks := tk } := by
  refine ⟨s.heap.objs.size, [s.heap.objs.size], tn, J, H, rfl, I.kept fun b ob e => Heap.get?_push_of_some _ e, T, st, fun b hb => ?_, q⟩
  have e : b = s.heap.objs.size := by simpa using hb
  subst e
  exact I.fpOk (Nat.le_refl _) (I.hok.fresh (Nat.le_refl _))
end

def RgC (i j c : Int) (n : Nat) : Prop := c ≠ 0 ∧ c.natAbs < 1073741824 ∧ Builtin.Range.small i j c = true ∧ Builtin.Range.rangeSize i j c = n
section
variable {X : Cx} {tg : Expr}
end
section
variable {X : Cx} {tg : Expr}
end

section
variable {prog : Program} {w : World} {A : Around} {E : Value → Shared → Prop} {s : Shared}
end

theorem kv_get {κ : Type} {kvs : List (κ × V)} {vs : List (κ × Value)} (h : KV kvs vs) : ∀ {i : Nat} {k : κ} {v : V}, kvs[i]? = some (k, v) → ∃ u, vs[i]? = some (k, u) ∧ RelV v u := by
  unfold KV at h
  induction h with
  | nil => intro i k v e; simp at e
  | @cons a b l₁ l₂ r t ih =>
    intro i k v e
    cases i with
    | zero =>
      simp only [List.getElem?_cons_zero, Option.some.injEq] at e
      subst e
      refine ⟨b.2, ?_, r.2⟩
      simp only [List.getElem?_cons_zero]
      exact congrArg some (Prod.ext r.1.symm rfl)
    | succ j =>
      simp only [List.getElem?_cons_succ] at e ⊢
      exact ih e
theorem relV_key {k : Key} {u : Value} (h : keyIs k u = true) : RelV (kV k) u := by
  rcases keyIs_shape h with ⟨i, t, rfl, rfl⟩ | ⟨x, t, rfl, rfl⟩
  · exact ⟨t, rfl⟩
  · exact ⟨t, rfl⟩
section
variable {X : Cx} {pins : List (Addr × Obj)} {σ : St} {H : Hp} {s : Shared} {d : Addr} {o : Obj}
theorem Inv.frzK {kvs : List (Key × V)} (I : Inv X pins σ H s) (h : H d = some (.frz o (.dK kvs))) :
    (d == sysModules) = false ∧ s.heap.get? d = some o ∧ o.ExactDict ∧ ∃ (es : Array DictEntry) (ep : Nat) (vs : List (Key × Value)), o.data = .dict es ep ∧ es.size = kvs.length ∧ KV kvs vs ∧ s.heap.DictAt (mixKind X.prog X.w) d vs ep := by
  obtain ⟨hd, z, hs, vs, kv, o', es, ep, ho, hx, hdt, r⟩ := I.hok d _ h
  rw [hd] at ho
  cases ho
  refine ⟨hs, hd, hx, es, ep, vs, hdt, ?_, kv, o, es, hd, hx, hdt, r⟩
  have l1 := r.2.1.length
  have l2 : kvs.length = vs.length := Paired.length kv
  rw [Array.length_toList] at l1
  omega
end

def Iti (d : Addr) (o : Obj) (kvs : List (Key × V)) : It :=
  ⟨fun i H => H d = some (.frz o (.dK kvs)) ∧ i < kvs.length, fun i H x H' => ∃ T k v, kvs[i]? = some (k, v) ∧ x = .ref T ∧ H T = none ∧ H' = upd H T (.tup [kV k, v]), fun i H => H d = some (.frz o (.dK kvs)) ∧ kvs.length ≤ i⟩
theorem dict_ep {o : Obj} {es es' : Array DictEntry} {ep ep' : Nat} (h : o.data = .dict es ep) (h' : o.data = .dict es' ep') : es' = es ∧ ep' = ep := by
  rw [h] at h'
  cases h'
  exact ⟨rfl, rfl⟩
section
variable {P : Program} {w : World} {K : PySem.W.Frag} {tg : Expr} {d : Addr} {o : Obj} {es : Array DictEntry} {ep : Nat}
theorem turn_items {kvs : List (Key × V)} {elts : List Expr} {kk : Nat} {tpos : Pos} (it : Addr) (hod : o.data = .dict es ep) :
    Turn P w K (.Tuple elts kk tpos) (Iti d o kvs) [it] it (fun i h => ∃ ok ov, IsItemIter h it d i kvs.length ep ok ov) where
  mem := by simp
  obj := fun i h st b hb => by
    have e : b = it := by simpa using hb
    subst e
    obtain ⟨ok, ov, e⟩ := st
    exact ⟨_, e, fun v z => nomatch z⟩
  keep := fun i h h' st k => let ⟨ok, ov, e⟩ := st; ⟨ok, ov, k it (by simp) _ e⟩
  item := by
    intro X hP hw hK hc i pins s σ H E I hf st hg
    subst hP hw hK
    obtain ⟨hd, hi⟩ := hg
    obtain ⟨hs, hgd, hx, es', ep', vs, hdt, hsz, kv, hm⟩ := I.frzK hd
    obtain ⟨rfl, rfl⟩ := dict_ep hod hdt
    obtain ⟨⟨k, v⟩, hkv⟩ : ∃ p, kvs[i]? = some p := ⟨kvs[i], List.getElem?_eq_getElem hi⟩
    obtain ⟨u, hu, ru⟩ := kv_get kv hkv
    have hl : kvs.length = vs.length := Paired.length kv
    obtain ⟨ok, ov, he⟩ := st
    rw [hl] at he
    have hlt : it < s.heap.objs.size := Heap.lt_size he
    refine wpAny_pyNext_items_item he hm hu fun key h' hkey ho hT hz hk => ?_
    refine ⟨_, rfl, wpAny_letOwnedTupleGo_items (s := { s with heap := h' }) ho fun h'' he' sb => ?_⟩
    have hT2 : h''.get? s.heap.objs.size = some { cls := .type "tuple", data := .seq #[key, u] } := (sb.2 _ (Nat.ne_of_gt hlt)).trans hT
    have new : ObjOk X.prog X.w (upd H s.heap.objs.size (.tup [kV k, v])) h'' s.heap.objs.size (.tup [kV k, v]) :=
      ⟨by show 2 ≤ sizeLine; decide, [key, u], .cons (relV_key (show keyIs k key = true from hkey)) (.cons ru .nil), ⟨_, hT2, rfl, _, rfl⟩⟩
    have I1 : Inv X pins σ (upd H s.heap.objs.size (.tup [kV k, v])) { s with heap := h'' } :=
      I.turnedNew (t' := s.toks) (ch := [it]) (fun b ob hb e => (sb.2 b (by simpa using hb)).trans (hk b ob (by simpa using hb) e)) hf (Nat.le_refl _) new
    refine ⟨.ref s.heap.objs.size, _, I1, rfl, ⟨_, k, v, hkv, rfl, I.hok.fresh (Nat.le_refl _), rfl⟩, ⟨key, u, ?_⟩, fun b hb => ?_⟩
    · rw [hl]; exact he'
    · have e : b = it := by simpa using hb
      rw [e, upd_ne (Nat.ne_of_lt hlt)]
      exact (hf it (by simp)).1
  done := by
    intro X hP hw hK hc i pins s σ H E I hf st hg
    subst hP hw hK
    obtain ⟨hd, hi⟩ := hg
    obtain ⟨f0, f1, f2, f3, f4, f5⟩ := hf it (by simp)
    obtain ⟨hs, hgd, hx, es', ep', vs, hdt, hsz, kv, hm⟩ := I.frzK hd
    obtain ⟨rfl, rfl⟩ := dict_ep hod hdt
    have hl : kvs.length = vs.length := Paired.length kv
    obtain ⟨ok, ov, he⟩ := st
    rw [hl] at he
    exact wpAny_pyNext_items_end (I.ok.hd hc) he hm (List.getElem?_eq_none (by omega)) fun h' eb => ⟨rfl, I.turned (t' := s.toks) (fun b ob hb e => eb b ob hb e) f0 f1 f3 f4 f5⟩
  self := fun A i s Q E st h => let ⟨_, _, e⟩ := st; PySem.W.kcp_self e h
end

def iItems (td : TE) : TI := fun σ H R => td σ H fun x H1 => ∃ d o kvs, x = .ref d ∧ H1 d = some (.frz o (.dK kvs)) ∧ R (Iti d o kvs) H1
section
variable {X : Cx} {tg e : Expr} {td : TE} {apos cpos : Pos}
theorem pi_items {elts : List Expr} {kk : Nat} {tpos : Pos} (he : PE X e td) (hbase : attributeBase e "items" X.env (eval e X.env) = eval e X.env := by rfl) (hline : (apos.endLine == cpos.line) = true := by rfl) :
    PI X (.Tuple elts kk tpos) (.Call (.Attribute e "items" apos) [] [] cpos) (iItems td) := by
  intro pins s σ H R I h
  refine wpAny_Call_method (T := "dict") (id := "dict.items") hbase rfl hline F.plainAttrs_dict F.slot_dict_items F.type_dict_items (thn (he pins s σ H _ I h) fun u s1 ⟨x, H1, I1, rx, d, o, kvs, ex, hd, q⟩ => ?_)
  subst ex
  obtain rfl : u = Value.ref d := rx
  obtain ⟨hs, hgd, hx, es, ep, vs, hdt, hsz, kv, hm⟩ := I1.frzK hd
  have hl : kvs.length = vs.length := Paired.length kv
  refine ⟨hm.dictOf.typeIs, hm.dictOf.mapOf.noDict, ?_⟩
  have I2 : Inv X pins σ H1 { s1 with heap := s1.heap.push { cls := .type "dict_items", data := .fields #[.ref d] } } := I1.kept (t' := s1.toks) fun b ob q => Heap.get?_push_of_some _ q
  have fin : wpAny (model X.prog X.w) X.A (pyIter (.ref s1.heap.objs.size)) (PIE X pins σ (.Tuple elts kk tpos) R) X.xe { s1 with heap := s1.heap.push { cls := .type "dict_items", data := .fields #[.ref d] } } := by
    refine wpAny_pyIter_items (d := d) (knd := mixKind X.prog X.w) ⟨_, Heap.get?_push_size _ rfl, rfl, rfl⟩ (hm.push _) (pi_one (tk := s1.toks) I2 _ (turn_items _ hdt) ⟨.none, .none, ?_⟩ q)
    rw [hl]
    exact Heap.get?_push_size _ rfl
  show wpAny _ _ (callWith cpos (.builtin "dict.items") [.ref d] [] []) _ X.xe s1
  exact method_meetsIn F.slot_dict_items F.entry_dict_items rfl (PySem.evalArgs_none ⟨rfl, hm.dictOf.typeIs, F.args_dict_items_1 _, _, meets_dict_items (mixKind X.prog X.w) d hs, ⟨vs, hm.dictOf⟩, fin⟩)
end

def Ite (K : PySem.W.Frag) (a : Addr) : It :=
  ⟨fun i H => ∃ (xs : List V) (x : V), SqL K H a xs ∧ xs[i]? = some x, fun i H v H' => ∃ T x, v = .ref T ∧ H T = none ∧ H' = upd H T (.tup [.int (i : Nat), x]) ∧ ∀ xs, SqL K H a xs → xs[i]? = some x, fun i H => ∃ xs : List V, SqL K H a xs ∧ xs.length ≤ i⟩
theorem turn_enum {P : Program} {w : World} {K : PySem.W.Frag} {elts : List Expr} {kk : Nat} {tpos : Pos} (a e it : Addr) :
    Turn P w K (.Tuple elts kk tpos) (Ite K a) [e, it] e (fun i h => (∃ old, IsEnum h e it ((i : Nat) : Int) old) ∧ h.IsListIter it a i ∧ e ≠ it) where
  mem := by simp
  obj := fun i h st b hb => by
    obtain ⟨⟨old, he⟩, ⟨o, ho, hc, hd⟩, _⟩ := st
    have e' : b = e ∨ b = it := by simpa using hb
    rcases e' with z | z
    · rw [z]; exact ⟨_, he, fun v q => nomatch q⟩
    · rw [z]; exact ⟨o, ho, fun v q => by rw [hd] at q; cases q⟩
  keep := fun i h h' st k => let ⟨⟨old, he⟩, hi, hne⟩ := st; ⟨⟨old, k e (by simp) _ he⟩, hi.at fun o q => k it (by simp) o q, hne⟩
  item := by
    intro X hP hw hK hc i pins s σ H E I hf st hg
    subst hP hw hK
    obtain ⟨⟨old, he⟩, hit, hne⟩ := st
    obtain ⟨xs, x, hq, hx⟩ := hg
    obtain ⟨its, rv, p, hz⟩ := I.list hq
    obtain ⟨u, hu, ru⟩ := rv.get hx
    have hel : e < s.heap.objs.size := Heap.lt_size he
    have hil : it < s.heap.objs.size := by obtain ⟨_, q, _⟩ := hit; exact Heap.lt_size q
    refine wpAny_pyNext_enum_item he hit p.isList (x := u) (by simpa using hu) hne fun h' ho hit' hT hsz hk => ?_
    refine ⟨_, rfl, wpAny_letOwnedTupleGo_enum (s := { s with heap := h', toks := s.toks + 1 }) ho fun h'' he' sb => ?_⟩
    have hT2 : h''.get? s.heap.objs.size = some { cls := .type "tuple", data := .seq #[.int i s.toks, u] } := (sb.2 _ (Nat.ne_of_gt hel)).trans hT
    have new : ObjOk X.prog X.w (upd H s.heap.objs.size (.tup [.int (i : Nat), x])) h'' s.heap.objs.size (.tup [.int (i : Nat), x]) :=
      ⟨by show 2 ≤ sizeLine; decide, [.int i s.toks, u], .cons ⟨_, rfl⟩ (.cons ru .nil), ⟨_, hT2, rfl, _, rfl⟩⟩
    have I1 : Inv X pins σ (upd H s.heap.objs.size (.tup [.int (i : Nat), x])) { s with heap := h'', toks := s.toks + 1 } :=
      I.turnedNew (ch := [e, it]) (fun b ob hb q => (sb.2 b (fun z => hb (by simp [z]))).trans (hk b ob (fun z => hb (by simp [z])) (fun z => hb (by simp [z])) q)) hf (Nat.le_refl _) new
    refine ⟨.ref s.heap.objs.size, _, I1, rfl, ⟨_, x, rfl, I.hok.fresh (Nat.le_refl _), rfl, fun ys hy => by rw [I.list_inj hy hq]; exact hx⟩, ⟨⟨u, ?_⟩, hit'.at fun o q => (sb.2 it (Ne.symm hne)).trans q, hne⟩, fun b hb => ?_⟩
    · have e1 : ((i + 1 : Nat) : Int) = (i : Int) + 1 := by omega
      rw [e1]; exact he'
    · have hb' : b < s.heap.objs.size := by
        have e' : b = e ∨ b = it := by simpa using hb
        rcases e' with z | z
        · rw [z]; exact hel
        · rw [z]; exact hil
      rw [upd_ne (Nat.ne_of_lt hb')]
      exact (hf b hb).1
  done := by
    intro X hP hw hK hc i pins s σ H E I hf st hg
    subst hP hw hK
    obtain ⟨⟨old, he⟩, hit, hne⟩ := st
    obtain ⟨xs, hq, hx⟩ := hg
    obtain ⟨its, rv, p, hz⟩ := I.list hq
    obtain ⟨f0, f1, f2, f3, f4, f5⟩ := hf it (by simp)
    have hl := rv.length
    exact wpAny_pyNext_enum_end (I.ok.hd hc) he hit p.isList (by simp; omega) fun h' eb => ⟨rfl, I.turned (t' := s.toks) (fun b o hb q => eb b o hb q) f0 f1 f3 f4 f5⟩
  self := fun A i s Q E st h => let ⟨⟨_, he⟩, _⟩ := st; wpAny_pyIter_enum he h
def iEnum (K : PySem.W.Frag) (ta : TA) : TI := fun σ H R => ta σ H fun vs H1 => ∃ a xs, vs = [.ref a] ∧ SqL K H1 a xs ∧ R (Ite K a) H1
theorem pi_enum {X : Cx} {e : Expr} {ta : TA} {p pos tpos : Pos} {elts : List Expr} {kk : Nat} (hg : Gl X "enumerate") (hm : X.mg "enumerate" = none) (ha : PA X [e] ta) (hs : starEach [e] X.env = [(false, eval e X.env)] := by rfl) :
    PI X (.Tuple elts kk tpos) (.Call (.Name "enumerate" p) [e] [] pos) (iEnum X.K ta) := by
  intro pins s σ H R I h
  refine Call_ (ld_blt I hg hm boot_enumerate (PyProof.Rows.callWith_type1 (thn (ha pos pins s σ H _ I h) fun us s1 ⟨vs, H1, I1, r1, q1⟩ => ?_) hs rfl))
  obtain ⟨a, xs, ex, hq, q⟩ := q1
  subst ex
  cases r1 with
  | cons r rr =>
    cases rr
    cases r
    obtain ⟨its, rv, p', hz⟩ := I1.list hq
    refine call_enumerate_list p'.isList fun h' he hit hsz hk => wpAny_pyIter_enum he ?_
    have I2 : Inv X pins σ H1 { s1 with heap := h' } := I1.kept (t' := s1.toks) hk
    refine ⟨s1.heap.objs.size + 1, [s1.heap.objs.size + 1, s1.heap.objs.size], _, _, H1, rfl, I2, turn_enum a (s1.heap.objs.size + 1) s1.heap.objs.size, ⟨⟨.none, he⟩, hit, Nat.succ_ne_self _⟩, fun b hb => ?_, q⟩
    have e' : b = s1.heap.objs.size + 1 ∨ b = s1.heap.objs.size := by simpa using hb
    have hle : s1.heap.objs.size ≤ b := by
      rcases e' with z | z
      · rw [z]; exact Nat.le_add_right _ _
      · rw [z]; exact Nat.le_refl _
    exact I1.fpOk hle (I1.hok.fresh hle)
end L2

section 
namespace Bits
open PySem PyProof.Rows

theorem nat_xor_add_and (m : Nat) : ∀ n : Nat, (m ^^^ n) + 2 * (m &&& n) = m + n := by
  induction m using Nat.strongRecOn with
  | _ m ih =>
    intro n
    by_cases h0 : m = 0
    · subst h0
      simp
    · have ih' := ih (m / 2) (by omega) (n / 2)
      rw [← Nat.xor_div_two, ← Nat.and_div_two] at ih'
      have o1 := @Nat.xor_mod_two_eq_one m n
      have a1 := @Nat.and_mod_two_eq_one m n
      omega

theorem bitXor_pp {x y : Int} (hx : 0 ≤ x) (hy : 0 ≤ y) : Builtin.bitXor x y = ((x.toNat ^^^ y.toNat : Nat) : Int) := by
  have e := nat_xor_add_and x.toNat y.toNat
  rw [bitXor_and, bitAnd_pp hx hy]
  omega
theorem bitOr_pp {x y : Int} (hx : 0 ≤ x) (hy : 0 ≤ y) : Builtin.bitOr x y = ((x.toNat ||| y.toNat : Nat) : Int) := by
  have e := nat_or_add_and x.toNat y.toNat
  rw [bitOr_and, bitAnd_pp hx hy]
  omega
end Bits
end 

section 
namespace TL
open PySem PySem.Builtin PySem.Builtin.Str PySem.StrLaws

abbrev tl (x : Str) : List Nat := x.cps.toList
def pre (S l : List Nat) : Bool := l.take S.length == S
def par (S : List Nat) : List Nat → List Nat → Option (List Nat × List Nat)
  | _, [] => none
  | acc, c :: r => if pre S (c :: r) = true then some (acc, (c :: r).drop S.length) else par S (acc ++ [c]) r

end TL
end 

namespace L2
open PySem PySem.Spec PyProof.Rows

section
variable {X : Cx} {pins : List (Addr × Obj)} {σ : St} {H : Hp} {s : Shared} {Q : VK}
end

section
variable {X : Cx}

end

section
variable {X : Cx} {o e : Expr} {to te : TE}
end
end L2

namespace L2
open PySem PySem.Spec PyProof.Rows

section
variable {X : Cx}
end

theorem IsPart.raw {v : Value} {o : Option Int} (p : IsPart v o) : ∃ l : Option (Int × Tok), v = partValue l ∧ l.map (·.1) = o := by
  cases p with
  | none => exact ⟨none, rfl, rfl⟩
  | int i t => exact ⟨some (i, t), rfl, rfl⟩

end L2

namespace Att
open PySem PySem.W PySem.Calls PyProof.Rows

section
variable {prog : Program} {w : World} {A : Around} {E : Value → Shared → Prop} {s : Shared} {K : Frag}

end
end Att

namespace L2
open PySem PySem.Spec PyProof.Rows

end L2

namespace L2
open PySem PySem.Spec PyProof.Rows

end L2


namespace L2
open PySem PySem.Spec PyProof.Rows

def inClass (s : Stmt) (j : Nat) : Stmt := match s with
  | .ClassDef _ _ _ body _ _ _ _ _ _ _ => body.getD j (.Pass ⟨0, 0, 0, 0⟩)
  | _ => .Pass ⟨0, 0, 0, 0⟩
def defArgs (s : Stmt) : Arguments := match s with
  | .FunctionDef _ a _ _ _ _ _ _ _ _ => a
  | _ => { posonlyargs := [], args := [], vararg := none, kwonlyargs := [], kw_defaults := [], kwarg := none, defaults := [] }
def defBody (s : Stmt) : List Stmt := match s with
  | .FunctionDef _ _ b _ _ _ _ _ _ _ => b
  | _ => []
def defScope (s : Stmt) : Scope := match s with
  | .FunctionDef _ _ _ _ _ _ sc _ _ _ => sc
  | _ => { kind := .function, names := [], isGenerator := false, isCoroutine := false }

abbrev CX0 : CXT := fun _ _ _ _ _ _ => False
abbrev E0 : XK := fun _ _ _ => False
theorem pass0 {X : Cx} : Passes CX0 X E0 := fun _ _ _ _ _ _ _ h => h.elim

structure Fun (K : PySem.W.Frag) (x qual : Str) (st : Stmt) (f : Addr) (fd : FuncData) : Prop where
  ex : ∃ (oc : Value) (od : Option Addr) (kV doc pm : Value) (an : Option Addr) (cdv ct : Value) (osl : Array (Option Value)),
    fd = PySem.W.fnOf x qual (defArgs st) (defBody st) (defScope st) .none kV doc pm an cdv ct ∧ K.lookup f = some ⟨oc, od, .func fd, osl⟩ ∧ PySem.W.codeIn K cdv qual = true
  kp : PySem.W.keepIn K (.ref f) = true
section
variable {P : Program} {w : World} {K : PySem.W.Frag} {mg : Str → Option Value} {base : Heap}
theorem Fun.ok {x qual : Str} {st : Stmt} {f : Addr} {fd : FuncData} {N ps : List Str} {k : Nat} {sp : Sp} (F : Fun K x qual st f fd) (S : FnScope N ps (defScope st)) (len : ∀ vs H Q E, sp vs H Q E → vs.length = ps.length)
    (hbody : ∀ (cdv : Value) (A : Around) (outer : List Env) (s : Shared) (H : Hp) (vs : List V) (Q : VK) (E : XK), Room k (A.deeper (envOfC qual (defScope st) s.heap.objs.size f cdv)) → sp vs H Q E →
      ∃ t, PSs (cxOf CX0 P w K mg base N qual (defScope st) f cdv A outer s H E).nox (defBody st) t ∧ t { nx := fun _ H' => Q .non H', rt := Q } (start N vs) H) : FnOk P w K mg base CX0 (k + 1) f fd ps sp := by
  obtain ⟨oc, od, kV, doc, pm, an, cdv, ct, osl, rfl, lk, hcd⟩ := F.ex
  refine fn_of lk hcd S len fun A outer s H vs Q E hr hsp => ?_
  obtain ⟨t, h, q⟩ := hbody cdv A outer s H vs Q E hr hsp
  exact ⟨t, h.nox, q⟩
theorem Fun.binds {x qual : Str} {st : Stmt} {f : Addr} {fd : FuncData} {ps : List Str} (F : Fun K x qual st f fd)
    (h : ∀ (kV doc pm : Value) (an : Option Addr) (cdv ct : Value) (us : List Value), us.length = ps.length → bindArgs (PySem.W.fnOf x qual (defArgs st) (defBody st) (defScope st) .none kV doc pm an cdv ct) ⟨us, []⟩ = pure (ps.zip us)) : Binds K fd ps [] := by
  obtain ⟨oc, od, kV, doc, pm, an, cdv, ct, osl, rfl, lk, hcd⟩ := F.ex
  exact .all (h kV doc pm an cdv ct)
theorem fun_mk {x qual : Str} {st : Stmt} {f : Addr} {oc : Value} {od an : Option Addr} {osl : Array (Option Value)} {kV doc pm cdv ct : Value} (l : K.lookup f = some ⟨oc, od, .func (PySem.W.fnOf x qual (defArgs st) (defBody st) (defScope st) .none kV doc pm an cdv ct), osl⟩)
    (c : PySem.W.codeIn K cdv qual = true) (k : PySem.W.keepIn K (.ref f) = true) : Fun K x qual st f (PySem.W.fnOf x qual (defArgs st) (defBody st) (defScope st) .none kV doc pm an cdv ct) := ⟨⟨oc, od, kV, doc, pm, an, cdv, ct, osl, rfl, l, c⟩, k⟩
end
theorem hu_of {A : Around} {k : Nat} (hr : Room k A) : A.units + 1 < cLine := Nat.lt_of_le_of_lt (Nat.add_le_add_left (by decide : 1 ≤ 64) _) hr.units
theorem small1000 {n : Nat} (h : n ≤ 1000) : n < sizeLine := Nat.lt_of_le_of_lt h (by decide)

section
variable {X : Cx}
theorem pv (i : Nat) {x : Str} {pos : Pos} (hN : X.N[i]? = some x := by rfl) (hv : Vis X.env.scope x := by first | exact Or.inl rfl | exact Or.inr (Or.inl rfl) | exact Or.inr (Or.inr rfl)) (hd : (x == ("__debug__" : Str)) = false := by decide)
    (hcd : (x == ("__classdict__" : Str)) = false := by decide) : PE X (.Name x pos) (tVar i) := pe_var hN hv hd hcd
end

theorem iteF {A B : Prop} (h : B) : if false = true then A else B := by
  rw [if_neg Bool.false_ne_true]
  exact h
theorem iteT {A B : Prop} (h : A) : if true = true then A else B := by
  rw [if_pos rfl]
  exact h
theorem ite2 {c A B : Prop} [Decidable c] (h1 : c → A) (h2 : ¬ c → B) : if c then A else B := by
  by_cases h : c
  · rw [if_pos h]
    exact h1 h
  · rw [if_neg h]
    exact h2 h
def Same (H H' : Hp) : Prop := ∀ b o, H b = some o → H' b = some o
theorem Same.refl (H : Hp) : Same H H := fun _ _ h => h
theorem Same.trans {H H1 H2 : Hp} (a : Same H H1) (b : Same H1 H2) : Same H H2 := fun c o h => b c o (a c o h)
theorem Same.free {H H' : Hp} (e : Same H H') {l : Addr} (h : H' l = Option.none) : H l = Option.none := by
  cases q : H l with
  | none => rfl
  | some o =>
    rw [e l o q] at h
    cases h
theorem Same.seq {K : PySem.W.Frag} {H H' : Hp} {a : Addr} {xs : List V} (e : Same H H') (h : SqL K H a xs) : SqL K H' a xs := by
  rcases h with (h | ⟨o, h⟩) | h
  · exact .inl (.inl (e _ _ h))
  · exact .inl (.inr ⟨o, e _ _ h⟩)
  · exact .inr h

section
variable {κ : Type} [DecidableEq κ]
end
theorem at_of {xs : List V} {z : Int} {j : Nat} {v : V} (e : z = (j : Int)) (h : xs[j]? = some v) : atI xs z = some v := by
  rw [e]
  exact atI_nat h
theorem nd_ix {α : Type} {l : List α} (hN : l.Nodup) {i j : Nat} {x : α} (a : l[i]? = some x) (b : l[j]? = some x) : i = j := by
  obtain ⟨h1, e1⟩ := List.getElem?_eq_some_iff.mp a
  obtain ⟨h2, e2⟩ := List.getElem?_eq_some_iff.mp b
  exact (List.getElem_inj hN).mp (e1.trans e2.symm)
theorem Same.made {H H1 : Hp} {x dx C : Addr} (nx : H x = Option.none) (nd : H dx = Option.none) (k : ∀ b o, (upd (upd H dx (.own x)) x (.ins C dx [])) b = some o → b ≠ x → H1 b = some o) : Same H H1 := fun b o e =>
  k b o (by rw [upd_ne (ne_of_none e nx), upd_ne (ne_of_none e nd)]; exact e) (ne_of_none e nx)
end L2

end

section
section
set_option Elab.async false
set_option linter.all false
set_option maxRecDepth 100000
set_option maxHeartbeats 2000000
namespace L2
open PySem PySem.Spec PyProof.Rows
open PySem.W (WData Codec OpenSpec Well WellAll ReadsW ReadsAllW)
/-! ### an answer as data -/
mutual
/-- x stands for the datum d, lists and tuples all the way -/
inductive Dw (K : PySem.W.Frag) (H : Hp) : V → WData → Prop
  | non : Dw K H .non .none
  | bl (b : Bool) : Dw K H (.bl b) (.bool b)
  | int (i : Int) : Dw K H (.int i) (.int i)
  | str (x : Str) : Dw K H (.str x) (.str x)
  | byt (b : Array UInt8) : Dw K H (.byt b) (.bytes b.toList)
  | lst {a : Addr} {xs : List V} {ds : List WData} : SqL K H a xs → DwAll K H xs ds → Dw K H (.ref a) (.list ds)
  | tup {a : Addr} {xs : List V} {ds : List WData} : SqT K H a xs → DwAll K H xs ds → Dw K H (.ref a) (.tuple ds)
inductive DwAll (K : PySem.W.Frag) (H : Hp) : List V → List WData → Prop
  | nil : DwAll K H [] []
  | cons {v : V} {vs : List V} {d : WData} {ds : List WData} : Dw K H v d → DwAll K H vs ds → DwAll K H (v :: vs) (d :: ds)
end
theorem dw_ints {K : PySem.W.Frag} {H : Hp} : ∀ ns : List Int, DwAll K H (ns.map V.int) (ns.map WData.int)
  | [] => .nil
  | n :: r => .cons (.int n) (dw_ints r)
theorem ints_dw {K : PySem.W.Frag} {H : Hp} : ∀ (ns : List Int) (xs : List V), DwAll K H xs (ns.map WData.int) → xs = ns.map V.int
  | [], xs, h => by
    cases h
    rfl
  | n :: r, xs, h => by
    cases h with
    | cons h1 h2 =>
      cases h1
      rw [ints_dw r _ h2] <;> rfl
section
variable {P : Program} {w : World} {K : PySem.W.Frag} {H : Hp} {h : Heap} {R : PySem.W.WRecords} {cl : Str → Option Addr}
theorem sqL_at {a : Addr} {xs : List V} (hok : HOk P w H h) (KX : K.In h) (q : SqL K H a xs) : ∃ (its : List Value) (o : Obj) (n : Nat), Vals xs its ∧ h.get? a = some o ∧ o.cls = .type "list" ∧ o.data = .seq its.toArray n := by
  rcases q with q | ⟨o, its, n, e, hc, _, hd, _, hv⟩
  · obtain ⟨_, its, n, hv, e⟩ := (show ObjOk P w H h a (.lst xs) from q.ok hok)
    exact ⟨its, _, n, hv, e, rfl, rfl⟩
  · exact ⟨its.toList, o, n, hv, KX _ _ e, hc, by simp [hd]⟩
theorem sqT_at {a : Addr} {xs : List V} (hok : HOk P w H h) (KX : K.In h) (q : SqT K H a xs) : ∃ (its : List Value) (o : Obj) (n : Nat), Vals xs its ∧ h.get? a = some o ∧ o.cls = .type "tuple" ∧ o.data = .seq its.toArray n := by
  rcases q with q | ⟨o, its, n, e, hc, hd, _, hv⟩
  · obtain ⟨_, its, hv, o, e, hc, n, hd⟩ := (show ObjOk P w H h a (.tup xs) from q.ok hok)
    exact ⟨its, o, n, hv, e, hc, hd⟩
  · exact ⟨its.toList, o, n, hv, KX _ _ e, hc, by simp [hd]⟩
mutual
theorem Dw.reads (hok : HOk P w H h) (KX : K.In h) : ∀ (d : WData) (v : V) (u : Value), Dw K H v d → RelV v u → ∃ as, ReadsW R cl h u d as
  | .none, _, _, x, r => by
    cases x
    cases r
    exact ⟨_, ReadsW.none⟩
  | .bool b, _, _, x, r => by
    cases x
    cases r
    exact ⟨_, ReadsW.bool b⟩
  | .int i, _, _, x, r => by
    cases x
    obtain ⟨t, rfl⟩ := r
    exact ⟨_, ReadsW.int i t⟩
  | .str s, _, _, x, r => by
    cases x
    obtain ⟨t, rfl⟩ := r
    exact ⟨_, ReadsW.str s t⟩
  | .bytes b, _, _, x, r => by
    cases x
    obtain ⟨t, rfl⟩ := r
    exact ⟨_, ReadsW.bytes _ t⟩
  | .list ds, _, _, x, r => by
    cases x with
    | lst hs ha =>
      cases r
      obtain ⟨its, o, n, rv, ho, hc, hd⟩ := sqL_at hok KX hs
      obtain ⟨as, hr⟩ := Dw.readsAll hok KX ds _ its ha rv
      exact ⟨_, ReadsW.list ho hc hd hr⟩
  | .tuple ds, _, _, x, r => by
    cases x with
    | tup hs ha =>
      cases r
      obtain ⟨its, o, n, rv, ho, hc, hd⟩ := sqT_at hok KX hs
      obtain ⟨as, hr⟩ := Dw.readsAll hok KX ds _ its ha rv
      exact ⟨_, ReadsW.tuple ho hc hd hr⟩
  | .float _, _, _, x, _ => by cases x
  | .dict _, _, _, x, _ => by cases x
  | .bytearray _, _, _, x, _ => by cases x
  | .set _, _, _, x, _ => by cases x
  | .frozenset _, _, _, x, _ => by cases x
  | .obj _ _, _, _, x, _ => by cases x
theorem Dw.readsAll (hok : HOk P w H h) (KX : K.In h) : ∀ (ds : List WData) (vs : List V) (us : List Value), DwAll K H vs ds → Vals vs us → ∃ as, ReadsAllW R cl h us ds as
  | [], _, _, x, r => by
    cases x
    cases r
    exact ⟨_, ReadsAllW.nil⟩
  | d :: ds, _, _, x, r => by
    cases x with
    | cons h1 h2 =>
      cases r with
      | cons r1 r2 =>
        obtain ⟨as, q1⟩ := Dw.reads hok KX d _ _ h1 r1
        obtain ⟨bs, q2⟩ := Dw.readsAll hok KX ds _ _ h2 r2
        exact ⟨_, ReadsAllW.cons q1 q2⟩
end
end
/-! ### the arguments -/
mutual
/-- data that a codec tells -/
def plW : WData → Bool
  | .none => true
  | .bool _ => true
  | .int _ => true
  | .str _ => true
  | .bytes _ => true
  | .list xs => plWs xs
  | .tuple xs => plWs xs
  | _ => false
def plWs : List WData → Bool
  | [] => true
  | x :: r => plW x && plWs r
end
theorem plWs_map {α : Type} {f : α → WData} (h : ∀ a, plW (f a) = true) : ∀ l : List α, plWs (l.map f) = true
  | [] => rfl
  | x :: r => by
    show (plW (f x) && plWs (r.map f)) = true
    rw [h x, plWs_map h r] <;> rfl
theorem pl_enc : ∀ (c : Codec) (a : c.denote), plW (c.enc a) = true
  | .unit, _ => rfl
  | .bool, _ => rfl
  | .int _ _, _ => rfl
  | .nat _ _, _ => rfl
  | .u8, _ => rfl
  | .bytes _ _, _ => rfl
  | .text _ _ _ _, _ => rfl
  | .list _ _ c, a => plWs_map (fun x => pl_enc c x) a
  | .pair c d, a => by
    show (plW (c.enc a.1) && (plW (d.enc a.2) && true)) = true
    rw [pl_enc c a.1, pl_enc d a.2] <;> rfl
  | .triple c d e, a => by
    show (plW (c.enc a.1) && (plW (d.enc a.2.1) && (plW (e.enc a.2.2) && true))) = true
    rw [pl_enc c a.1, pl_enc d a.2.1, pl_enc e a.2.2] <;> rfl
  | .option c, none => rfl
  | .option c, some x => pl_enc c x
theorem pl_encAll : ∀ (cs : List Codec) (a : Codec.denoteAll cs), plWs (Codec.encAll cs a) = true
  | [], _ => rfl
  | c :: cs, a => by
    show (plW (c.enc a.1) && plWs (Codec.encAll cs a.2)) = true
    rw [pl_enc c a.1, pl_encAll cs a.2] <;> rfl
theorem weight_mem : ∀ {xs : List WData} {d : WData}, d ∈ xs → d.weight ≤ WData.weightAll xs
  | [], d, h => absurd h (by simp)
  | x :: r, d, h => by
    show d.weight ≤ x.weight + 1 + WData.weightAll r
    rcases List.mem_cons.mp h with e | m
    · rw [e]
      omega
    · have z := weight_mem m
      omega
def toV : Value → V
  | .none => .non
  | .bool b => .bl b
  | .int i _ => .int i
  | .str x _ => .str x
  | .bytes b _ => .byt b
  | .ref a => .ref a
  | _ => .non
/-- a value of the arguments, its objects among A -/
def OkU (A : List Addr) : Value → Prop
  | .none => True
  | .bool _ => True
  | .int _ _ => True
  | .str _ _ => True
  | .bytes _ _ => True
  | .ref a => a ∈ A
  | _ => False
theorem OkU.mono {A B : List Addr} (h : ∀ a ∈ A, a ∈ B) : ∀ {u : Value}, OkU A u → OkU B u := fun {u} x => by
  cases u with
  | ref a => exact h a x
  | none => trivial
  | bool b => trivial
  | int i t => trivial
  | str s t => trivial
  | bytes b t => trivial
  | _ => exact False.elim x
theorem relV_toV {A : List Addr} {u : Value} (x : OkU A u) : RelV (toV u) u := by
  cases u with
  | ref a => rfl
  | none => rfl
  | bool b => rfl
  | int i t => exact ⟨t, rfl⟩
  | str s t => exact ⟨t, rfl⟩
  | bytes b t => exact ⟨t, rfl⟩
  | _ => exact False.elim x
theorem vals_toV {A : List Addr} : ∀ {vs : List Value}, (∀ u ∈ vs, OkU A u) → Vals (vs.map toV) vs
  | [], _ => .nil
  | u :: r, h => .cons (relV_toV (h u (List.mem_cons_self ..))) (vals_toV fun x hx => h x (List.mem_cons_of_mem _ hx))
/-- an object of the arguments -/
def ArgOb (h : Heap) (A : List Addr) (a : Addr) : Prop := ∃ vs : List Value, vs.length ≤ sizeLine ∧ (∀ u ∈ vs, OkU A u) ∧
  (h.get? a = some { cls := .type "list", data := .seq vs.toArray } ∨ h.get? a = some { cls := .type "tuple", data := .seq vs.toArray })
theorem ArgOb.mono {h : Heap} {A B : List Addr} {a : Addr} (k : ∀ a ∈ A, a ∈ B) (x : ArgOb h A a) : ArgOb h B a := by
  obtain ⟨vs, h1, h2, h3⟩ := x
  exact ⟨vs, h1, fun u hu => (h2 u hu).mono k, h3⟩
theorem wellAll_len {P : Params} {h : Heap} : ∀ {vs : List Value} {ds : List WData}, WellAll P h vs ds → vs.length = ds.length
  | _, _, .nil => rfl
  | _, _, .cons _ b => by
    show _ + 1 = _ + 1
    rw [wellAll_len b]
theorem well_list {P : Params} {h : Heap} {v : Value} {ds : List WData} (x : Well P h v (.list ds)) : ∃ (a : Addr) (vs : List Value), v = .ref a ∧ h.get? a = some { cls := .type "list", data := .seq vs.toArray } ∧ WellAll P h vs ds := by
  cases x with
  | list ho hall => exact ⟨_, _, rfl, ho, hall⟩
theorem well_tuple {P : Params} {h : Heap} {v : Value} {ds : List WData} (x : Well P h v (.tuple ds)) : ∃ (a : Addr) (vs : List Value), v = .ref a ∧ h.get? a = some { cls := .type "tuple", data := .seq vs.toArray } ∧ WellAll P h vs ds := by
  cases x with
  | tuple ho hall => exact ⟨_, _, rfl, ho, hall⟩
theorem well_cons {P : Params} {h : Heap} {us : List Value} {d : WData} {ds : List WData} (x : WellAll P h us (d :: ds)) : ∃ (v : Value) (vs : List Value), us = v :: vs ∧ Well P h v d ∧ WellAll P h vs ds := by
  cases x with
  | cons a b => exact ⟨_, _, rfl, a, b⟩
theorem line_of {n : Nat} (h : n ≤ 1048576) : n ≤ sizeLine := Nat.le_trans h (by decide)
section
variable {P : Params} {h : Heap}
mutual
theorem area_one : ∀ (d : WData) (v : Value), Well P h v d → plW d = true → d.weight ≤ 1048576 → ∃ A : List Addr, OkU A v ∧ ∀ a ∈ A, ArgOb h A a
  | .none, _, x, _, _ => by
    cases x
    exact ⟨[], trivial, fun a m => absurd m (by simp)⟩
  | .bool b, _, x, _, _ => by
    cases x
    exact ⟨[], trivial, fun a m => absurd m (by simp)⟩
  | .int i, _, x, _, _ => by
    cases x
    exact ⟨[], trivial, fun a m => absurd m (by simp)⟩
  | .str s, _, x, _, _ => by
    cases x
    exact ⟨[], trivial, fun a m => absurd m (by simp)⟩
  | .bytes b, _, x, _, _ => by
    cases x
    exact ⟨[], trivial, fun a m => absurd m (by simp)⟩
  | .list ds, _, x, p, z => by
    obtain ⟨a, vs, rfl, ho, hall⟩ := well_list x
    have z2 : WData.weightAll ds ≤ 1048576 := z
    obtain ⟨A, h1, h2⟩ := area_all ds _ hall p fun d hd => Nat.le_trans (weight_mem hd) z2
    have k : ∀ b ∈ A, b ∈ a :: A := fun b hb => List.mem_cons_of_mem _ hb
    refine ⟨a :: A, List.mem_cons_self .., fun b hb => ?_⟩
    rcases List.mem_cons.mp hb with e | m
    · rw [e]
      exact ⟨vs, line_of (by rw [wellAll_len hall]; exact Nat.le_trans (PySem.W.length_le_weightAllW ds) z2), fun u hu => (h1 u hu).mono k, .inl ho⟩
    · exact (h2 b m).mono k
  | .tuple ds, _, x, p, z => by
    obtain ⟨a, vs, rfl, ho, hall⟩ := well_tuple x
    have z2 : WData.weightAll ds ≤ 1048576 := z
    obtain ⟨A, h1, h2⟩ := area_all ds _ hall p fun d hd => Nat.le_trans (weight_mem hd) z2
    have k : ∀ b ∈ A, b ∈ a :: A := fun b hb => List.mem_cons_of_mem _ hb
    refine ⟨a :: A, List.mem_cons_self .., fun b hb => ?_⟩
    rcases List.mem_cons.mp hb with e | m
    · rw [e]
      exact ⟨vs, line_of (by rw [wellAll_len hall]; exact Nat.le_trans (PySem.W.length_le_weightAllW ds) z2), fun u hu => (h1 u hu).mono k, .inr ho⟩
    · exact (h2 b m).mono k
  | .float _, _, _, p, _ => Bool.noConfusion (show false = true from p)
  | .dict _, _, _, p, _ => Bool.noConfusion (show false = true from p)
  | .bytearray _, _, _, p, _ => Bool.noConfusion (show false = true from p)
  | .set _, _, _, p, _ => Bool.noConfusion (show false = true from p)
  | .frozenset _, _, _, p, _ => Bool.noConfusion (show false = true from p)
  | .obj _ _, _, _, p, _ => Bool.noConfusion (show false = true from p)
theorem area_all : ∀ (ds : List WData) (vs : List Value), WellAll P h vs ds → plWs ds = true → (∀ d ∈ ds, d.weight ≤ 1048576) → ∃ A : List Addr, (∀ u ∈ vs, OkU A u) ∧ ∀ a ∈ A, ArgOb h A a
  | [], _, x, _, _ => by
    cases x
    exact ⟨[], fun u m => absurd m (by simp), fun a m => absurd m (by simp)⟩
  | d :: ds, _, x, p, z => by
    obtain ⟨v, vs, rfl, x1, x2⟩ := well_cons x
    have q : plW d = true ∧ plWs ds = true := Bool.and_eq_true_iff.mp p
    obtain ⟨A, a1, a2⟩ := area_one d v x1 q.1 (z d (List.mem_cons_self ..))
    obtain ⟨B, b1, b2⟩ := area_all ds vs x2 q.2 fun e he => z e (List.mem_cons_of_mem _ he)
    have kA : ∀ b ∈ A, b ∈ A ++ B := fun b hb => List.mem_append.mpr (.inl hb)
    have kB : ∀ b ∈ B, b ∈ A ++ B := fun b hb => List.mem_append.mpr (.inr hb)
    refine ⟨A ++ B, fun u hu => ?_, fun b hb => ?_⟩
    · rcases List.mem_cons.mp hu with e | m
      · rw [e]
        exact a1.mono kA
      · exact (b1 u m).mono kB
    · rcases List.mem_append.mp hb with m | m
      · exact (a2 b m).mono kA
      · exact (b2 b m).mono kB
end
end
/-- what is tracked of an argument's object -/
def hoOf (o : Obj) : Option HO := match o.data with
  | .seq vs _ => if (o.cls == Value.type "list") = true then some (.frz o (.lst (vs.toList.map toV))) else some (.frz o (.tup (vs.toList.map toV)))
  | _ => none
def argH (K : PySem.W.Frag) (h : Heap) (A : List Addr) : Hp := fun b => if b ∈ A then (if (K.lookup b).isNone = true then (h.get? b).bind hoOf else none) else none
/-- nothing is tracked but what is known to the object -/
def OnlyF (H : Hp) : Prop := ∀ b, H b = none ∨ ∃ o u, H b = some (.frz o u)
theorem hoOf_lst (vs : List Value) : hoOf { cls := .type "list", data := .seq vs.toArray } = some (.frz { cls := .type "list", data := .seq vs.toArray } (.lst (vs.map toV))) := by
  show (if (Value.type "list" == Value.type "list") = true then some (HO.frz { cls := .type "list", data := .seq vs.toArray } (.lst (vs.toArray.toList.map toV))) else some (HO.frz { cls := .type "list", data := .seq vs.toArray } (.tup (vs.toArray.toList.map toV)))) = _
  rw [if_pos (beq_self_eq_true _)]
theorem hoOf_tup (vs : List Value) : hoOf { cls := .type "tuple", data := .seq vs.toArray } = some (.frz { cls := .type "tuple", data := .seq vs.toArray } (.tup (vs.map toV))) := by
  show (if (Value.type "tuple" == Value.type "list") = true then some (HO.frz { cls := .type "tuple", data := .seq vs.toArray } (.lst (vs.toArray.toList.map toV))) else some (HO.frz { cls := .type "tuple", data := .seq vs.toArray } (.tup (vs.toArray.toList.map toV)))) = _
  rw [if_neg (by decide)]
section
variable {P : Program} {w : World} {K : PySem.W.Frag} {h : Heap} {A : List Addr}
theorem argH_at {b : Addr} {o : Obj} (hb : b ∈ A) (hk : K.lookup b = none) (e : h.get? b = some o) : argH K h A b = hoOf o := by
  unfold argH
  rw [if_pos hb, hk, if_pos (show (none : Option Obj).isNone = true from rfl), e] <;> rfl
theorem of_argH {b : Addr} {u : HO} (q : argH K h A b = some u) : b ∈ A ∧ K.lookup b = none := by
  unfold argH at q
  by_cases hb : b ∈ A
  · rw [if_pos hb] at q
    cases hk : K.lookup b with
    | none => exact ⟨hb, rfl⟩
    | some o =>
      rw [hk, if_neg (by simp)] at q
      cases q
  · rw [if_neg hb] at q
    cases q
/-- what stands tracked -/
theorem argH_is (ar : ∀ a ∈ A, ArgOb h A a) {b : Addr} {u : HO} (q : argH K h A b = some u) : K.lookup b = none ∧ ∃ vs : List Value, vs.length ≤ sizeLine ∧ (∀ u ∈ vs, OkU A u) ∧
    ((h.get? b = some { cls := .type "list", data := .seq vs.toArray } ∧ u = .frz { cls := .type "list", data := .seq vs.toArray } (.lst (vs.map toV))) ∨
     (h.get? b = some { cls := .type "tuple", data := .seq vs.toArray } ∧ u = .frz { cls := .type "tuple", data := .seq vs.toArray } (.tup (vs.map toV)))) := by
  obtain ⟨hb, hk⟩ := of_argH q
  obtain ⟨vs, h1, h2, h3⟩ := ar b hb
  refine ⟨hk, vs, h1, h2, ?_⟩
  rcases h3 with e | e
  · rw [argH_at hb hk e, hoOf_lst] at q
    exact .inl ⟨e, (Option.some.inj q).symm⟩
  · rw [argH_at hb hk e, hoOf_tup] at q
    exact .inr ⟨e, (Option.some.inj q).symm⟩
theorem argH_only (ar : ∀ a ∈ A, ArgOb h A a) : OnlyF (argH K h A) := fun b => by
  cases q : argH K h A b with
  | none => exact .inl rfl
  | some u =>
    obtain ⟨_, vs, _, _, ⟨_, e⟩ | ⟨_, e⟩⟩ := argH_is ar q
    · exact .inr ⟨_, _, by rw [e]⟩
    · exact .inr ⟨_, _, by rw [e]⟩
theorem argH_ok (ar : ∀ a ∈ A, ArgOb h A a) : HOk P w (argH K h A) h := fun b u q => by
  obtain ⟨_, vs, h1, h2, ⟨e, rfl⟩ | ⟨e, rfl⟩⟩ := argH_is ar q
  · exact ⟨e, by rw [List.length_map]; exact h1, vs, _, vals_toV h2, e⟩
  · exact ⟨e, by rw [List.length_map]; exact h1, vs, vals_toV h2, _, e, rfl, _, rfl⟩
theorem seq_inj {c c' : Value} {vs us : List Value} (e : (some { cls := c, data := .seq vs.toArray } : Option Obj) = some { cls := c', data := .seq us.toArray }) : c = c' ∧ vs = us := by
  have e1 := Option.some.inj e
  have e2 : c = c' := congrArg Obj.cls e1
  have e3 : Data.seq vs.toArray = Data.seq us.toArray := congrArg Obj.data e1
  injection e3 with e4
  refine ⟨e2, ?_⟩
  have e5 := congrArg Array.toList e4
  simpa using e5
/-- a list argument -/
theorem argL (KX : K.In h) (ar : ∀ a ∈ A, ArgOb h A a) {a : Addr} {vs : List Value} (ha : a ∈ A) (e : h.get? a = some { cls := .type "list", data := .seq vs.toArray }) : (∀ u ∈ vs, OkU A u) ∧ SqL K (argH K h A) a (vs.map toV) := by
  obtain ⟨us, h1, h2, h3⟩ := ar a ha
  have hu : us = vs := by
    rcases h3 with q | q
    · rw [e] at q
      exact (seq_inj q).2.symm
    · rw [e] at q
      exact absurd (Value.type.inj (seq_inj q).1) (by decide)
  subst hu
  refine ⟨h2, ?_⟩
  cases hk : K.lookup a with
  | none => exact .inl (.inr ⟨_, by rw [argH_at ha hk e, hoOf_lst]⟩)
  | some o =>
    have e2 := KX a o hk
    rw [e] at e2
    obtain rfl := Option.some.inj e2
    exact .inr ⟨_, us.toArray, _, hk, rfl, rfl, rfl, by rw [List.size_toArray]; exact h1, by simpa using vals_toV h2⟩
theorem argT (KX : K.In h) (ar : ∀ a ∈ A, ArgOb h A a) {a : Addr} {vs : List Value} (ha : a ∈ A) (e : h.get? a = some { cls := .type "tuple", data := .seq vs.toArray }) : (∀ u ∈ vs, OkU A u) ∧ SqT K (argH K h A) a (vs.map toV) := by
  obtain ⟨us, h1, h2, h3⟩ := ar a ha
  have hu : us = vs := by
    rcases h3 with q | q
    · rw [e] at q
      exact absurd (Value.type.inj (seq_inj q).1) (by decide)
    · rw [e] at q
      exact (seq_inj q).2.symm
  subst hu
  refine ⟨h2, ?_⟩
  cases hk : K.lookup a with
  | none => exact .inl (.inr ⟨_, by rw [argH_at ha hk e, hoOf_tup]⟩)
  | some o =>
    have e2 := KX a o hk
    rw [e] at e2
    obtain rfl := Option.some.inj e2
    exact .inr ⟨_, us.toArray, _, hk, rfl, rfl, by rw [List.size_toArray]; exact h1, by simpa using vals_toV h2⟩
mutual
theorem dw_one {Pm : Params} (KX : K.In h) (ar : ∀ a ∈ A, ArgOb h A a) : ∀ (d : WData) (v : Value), Well Pm h v d → plW d = true → OkU A v → Dw K (argH K h A) (toV v) d
  | .none, _, x, _, _ => by
    cases x
    exact .non
  | .bool b, _, x, _, _ => by
    cases x
    exact .bl b
  | .int i, _, x, _, _ => by
    cases x
    exact .int i
  | .str s, _, x, _, _ => by
    cases x
    exact .str s
  | .bytes b, _, x, _, _ => by
    cases x
    have z := Dw.byt (K := K) (H := argH K h A) b.toArray
    exact z
  | .list ds, _, x, p, hu => by
    obtain ⟨a, vs, rfl, ho, hall⟩ := well_list x
    obtain ⟨h2, hs⟩ := argL KX ar hu ho
    exact .lst hs (dw_all KX ar ds _ hall p h2)
  | .tuple ds, _, x, p, hu => by
    obtain ⟨a, vs, rfl, ho, hall⟩ := well_tuple x
    obtain ⟨h2, hs⟩ := argT KX ar hu ho
    exact .tup hs (dw_all KX ar ds _ hall p h2)
  | .float _, _, _, p, _ => Bool.noConfusion (show false = true from p)
  | .dict _, _, _, p, _ => Bool.noConfusion (show false = true from p)
  | .bytearray _, _, _, p, _ => Bool.noConfusion (show false = true from p)
  | .set _, _, _, p, _ => Bool.noConfusion (show false = true from p)
  | .frozenset _, _, _, p, _ => Bool.noConfusion (show false = true from p)
  | .obj _ _, _, _, p, _ => Bool.noConfusion (show false = true from p)
theorem dw_all {Pm : Params} (KX : K.In h) (ar : ∀ a ∈ A, ArgOb h A a) : ∀ (ds : List WData) (vs : List Value), WellAll Pm h vs ds → plWs ds = true → (∀ u ∈ vs, OkU A u) → DwAll K (argH K h A) (vs.map toV) ds
  | [], _, x, _, _ => by
    cases x
    exact .nil
  | d :: ds, _, x, p, hu => by
    obtain ⟨v, vs, rfl, x1, x2⟩ := well_cons x
    have q : plW d = true ∧ plWs ds = true := Bool.and_eq_true_iff.mp p
    exact .cons (dw_one KX ar d v x1 q.1 (hu _ (List.mem_cons_self ..))) (dw_all KX ar ds vs x2 q.2 fun u m => hu u (List.mem_cons_of_mem _ m))
end
end
/-! ### the call -/
theorem spec_call {P : Program} {w : World} {K : PySem.W.Frag} {mg mb : Str → Option Value} {CX : CXT} {k : Nat} {fa : Addr} {fd : FuncData} {ps : List Str} {sp : Sp} {s₁ : Shared} {vals : List Value} {ds : List WData} {R : PySem.W.WRecords} {cl : Str → Option Addr} {d0 : WData}
    (KX : K.In s₁.heap) (hns : s₁.heap.Ns mainGlobals mg) (hb : s₁.heap.Ns builtinsNs mb) (hbb : ∀ x : Str, x ≠ "__name__" → mb x = bootBuiltins x) (hlim : s₁.heap.NoLimit) (hg : s₁.gens = #[])
    (hwl : WellAll w.params s₁.heap vals ds) (hpl : plWs ds = true) (hwt : ∀ d ∈ ds, d.weight ≤ 1048576) (hr : Room k callerA)
    (F : ∀ base : Heap, K.In base → base.Ns mainGlobals mg → FnOk P w K mg base CX k fa fd ps sp) (hbind : ∀ (s : Shared) (us : List Value), us.length = ps.length → BindsTo s fd ⟨us, []⟩ (ps.zip us)) (hlen : ds.length = ps.length)
    (hsp : ∀ (H : Hp) (xs : List V), OnlyF H → DwAll K H xs ds → sp xs H (fun v H' => Dw K H' v d0) fun _ _ _ => False)
    (hCX : ∀ H e s', CX [] H s₁ (fun _ _ _ => False) e s' → False) :
    codeAny (model P w) callerA (.call (.ref fa) ⟨vals, []⟩) (fun r s' => ∃ u as, r = .ok (.ret u) ∧ ReadsW R cl s'.heap u d0 as ∧ OldK s₁.heap s'.heap ∧ s'.os = s₁.os ∧ AllBare s'.gens) s₁ := by
  obtain ⟨A, ho, ar⟩ := area_all ds vals hwl hpl hwt
  have hO : OnlyF (argH K s₁.heap A) := argH_only ar
  have hok : HOk P w (argH K s₁.heap A) s₁.heap := argH_ok ar
  have hS := dw_all KX ar ds vals hwl hpl ho
  have hV := vals_toV ho
  have hK : ∀ b u, argH K s₁.heap A b = some u → K.lookup b = none := fun b u q => (argH_is ar q).1
  have noA : ∀ {b : Addr} {o : Obj} {es : Array DictEntry} {ep : Nat}, s₁.heap.get? b = some o → o.data = .dict es ep → argH K s₁.heap A b = none := fun {b o es ep} e d => by
    cases q : argH K s₁.heap A b with
    | none => rfl
    | some u =>
      obtain ⟨_, vs, _, _, ⟨e2, _⟩ | ⟨e2, _⟩⟩ := argH_is ar q
      · rw [e2] at e
        cases e
        have d' : Data.seq vs.toArray _ = Data.dict es ep := d
        cases d'
      · rw [e2] at e
        cases e
        have d' : Data.seq vs.toArray _ = Data.dict es ep := d
        cases d'
  generalize argH K s₁.heap A = H at hO hok hS hK noA
  have base_of : ∀ {b : Addr} {o : Obj}, s₁.heap.get? b = some o → H b = none → (hidT s₁.heap H).get? b = some o := fun e n => hidT_get e n
  have nsK : ∀ {b : Addr} {m : Str → Option Value}, s₁.heap.Ns b m → (hidT s₁.heap H).Ns b m := fun {b m} ⟨o, es, ep, e, d, r⟩ => ⟨o, es, ep, base_of e (noA e d), d, r⟩
  have nK : ∀ b o, K.lookup b = some o → H b = none := fun b o e => by
    cases q : H b with
    | none => rfl
    | some u =>
      rw [hK b u q] at e
      cases e
  have hKb : K.In (hidT s₁.heap H) := fun b o e => base_of (KX b o e) (nK b o e)
  have hM : Mod K mg (hidT s₁.heap H) := ⟨hKb, nsK hns, ⟨mb, nsK hb, hbb⟩, let ⟨mc, h1, h2⟩ := hlim; ⟨mc, nsK h1, h2⟩⟩
  have e0 : Env0 P w K mg (hidT s₁.heap H) callerA [] s₁ H := ⟨rfl, hM, fun b o e => of_hidT e, Nat.le_of_eq (hidT_size _ _), trivial, fun b hb => absurd (show b ∈ ([] : List Addr) from hb) (by simp), hok, .of_eq hg⟩
  have hl : vals.length = ps.length := by rw [wellAll_len hwl]; exact hlen
  refine codeAny_mono ((F _ hKb (nsK hns)).run callerA [] s₁ H ⟨vals, []⟩ vals (vals.map toV) _ _ hr e0 (hbind s₁ vals hl) hV (hsp H _ hO hS)) fun r s' x => ?_
  cases r with
  | error e => exact (hCX H e s' x).elim
  | ok fl =>
    cases fl with
    | next => exact False.elim x
    | brk => exact False.elim x
    | cont => exact False.elim x
    | ret u =>
      obtain ⟨v, H', os, bare, un, hok', r', q⟩ := x
      have kept : ∀ b o, s₁.heap.get? b = some o → s'.heap.get? b = some o := fun b o e => by
        cases q2 : H b with
        | none => exact un.keep b o e q2 (by intro z; exact absurd (show b ∈ ([] : List Addr) from z) (by simp)) (by simp)
        | some u2 =>
          rcases hO b with z | ⟨ob, u3, z⟩
          · rw [q2] at z
            cases z
          · have z2 := un.frzs b ob _ z
            obtain ⟨e1, _⟩ := hok b _ z
            obtain ⟨e2, _⟩ := hok' b _ z2
            rw [e] at e1
            cases e1
            exact e2
      have KX' : K.In s'.heap := fun b o e => kept b o (KX b o e)
      obtain ⟨as, hrd⟩ := Dw.reads (R := R) (cl := cl) hok' KX' d0 v u q r'
      exact ⟨u, as, rfl, hrd, OldK.of_keep kept, os, bare⟩
/-! ### the row -/
theorem layable_weight {ds : List WData} (h : WData.layableAll ds = true) : ∀ d ∈ ds, d.weight ≤ 1048576 := fun d hd =>
  (PySem.W.layableW_iff.mp (List.all_eq_true.mp h d hd)).2.2
theorem encAll_len : ∀ (cs : List Codec) (a : Codec.denoteAll cs), (Codec.encAll cs a).length = cs.length
  | [], _ => rfl
  | c :: cs, a => by
    show (Codec.encAll cs a.2).length + 1 = cs.length + 1
    rw [encAll_len cs a.2]
/-- the goal that k_headS leaves (case hc), from the promise of the row's def: whatever the arguments that the codecs let and the row asks for, the def gives what stands for enc (f ..) -/
theorem walk_spec {r : OpenSpec} {k : Nat} {q : Program} {loose : List Str} {XP : (Str → Option Value) → Heap → Prop} {YP : World → Heap → Prop} {d : DefRec} {K : Params → PySem.W.Frag} {CX : World → CXT} {ps : List Str} {sp : World → Sp}
    (hwell : r.wellSaid = true) (hdf : d.params.defaults = []) (hlen : r.args.length = ps.length) (hr : Room k callerA)
    (hY : ∀ (w : World) (h : Heap), YP w h → (K w.params).In h)
    (F : ∀ (w : World) (mg : Str → Option Value) (fa : Addr) (h : Heap), YP w h → (K w.params).In h → h.Ns mainGlobals mg → mg d.name = some (.ref fa) →
      ∃ fd : FuncData, (∀ (s : Shared) (us : List Value), us.length = ps.length → BindsTo s fd ⟨us, []⟩ (ps.zip us)) ∧
        ∀ base : Heap, (K w.params).In base → base.Ns mainGlobals mg → FnOk r.prog w (K w.params) mg base (CX w) k fa fd ps (sp w))
    (hsp : ∀ (w : World) (H : Hp) (xs : List V) (a : Codec.denoteAll r.args), OnlyF H → Codec.withinAll r.args a = true → Codec.app r.args r.asked a = true → DwAll (K w.params) H xs (Codec.encAll r.args a) →
      sp w xs H (fun v H' => Dw (K w.params) H' v (r.ret.enc (Codec.app r.args r.f a))) fun _ _ _ => False)
    (hCX : ∀ (w : World) (H : Hp) (s : Shared) (e : Value) (s' : Shared), CX w [] H s (fun _ _ _ => False) e s' → False) :
    PySem.W.WalkOS q loose XP YP r d [] (fun f vs => PySem.call f vs) := by
  intro w s_0 s₁ mg mb G Y fa o pm cd doc dV kV ho hd hcd hD hmg hg args vals as hpre hlay hrd hwl hlo
  obtain ⟨a, e1, e2⟩ := PySem.W.os_pre_some hpre
  obtain ⟨e3, hwi⟩ := Codec.encAll_of_decAll r.args args a e1
  subst e3
  have KX := hY w _ Y
  obtain ⟨fd, hb, hF⟩ := F w mg fa _ Y KX G.T.g hmg
  refine PySem.W.enter_call (codeAny_mono (spec_call (R := []) (cl := classAt s_0.heap) (d0 := r.ret.enc (Codec.app r.args r.f a)) KX G.T.g G.T.b G.T.builtins G.T.nolimit hg hwl (pl_encAll _ _) (layable_weight hlay) hr hF hb (by rw [encAll_len]; exact hlen)
    (fun H xs hO hS => hsp w H xs a hO hwi e2 hS) fun H e s' => hCX w H s₁ e s') fun r' s' hq => ?_)
  obtain ⟨u, as', rfl, h1, h2, h3, h4⟩ := hq
  exact ⟨.inl ⟨u, _, as', rfl, fun _ => rfl, h1, (OpenSpec.post_iff hwell hwi _ _).mpr rfl, fun z => Bool.noConfusion (show false = true from z)⟩, h2, h3, h4⟩
/-- the same where the promise hangs on the written part alone -/
theorem walk_specK {r : OpenSpec} {k : Nat} {q : Program} {loose : List Str} {XP : (Str → Option Value) → Heap → Prop} {YP : World → Heap → Prop} {d : DefRec} {K : Params → PySem.W.Frag} {CX : CXT} {ps : List Str} {sp : PySem.W.Frag → Sp}
    (hwell : r.wellSaid = true) (hdf : d.params.defaults = []) (hlen : r.args.length = ps.length) (hr : Room k callerA)
    (hY : ∀ (w : World) (h : Heap), YP w h → (K w.params).In h)
    (F : ∀ (w : World) (mg : Str → Option Value) (fa : Addr) (h : Heap), YP w h → (K w.params).In h → h.Ns mainGlobals mg → mg d.name = some (.ref fa) →
      ∃ fd : FuncData, (∀ (s : Shared) (us : List Value), us.length = ps.length → BindsTo s fd ⟨us, []⟩ (ps.zip us)) ∧
        ∀ base : Heap, (K w.params).In base → base.Ns mainGlobals mg → FnOk r.prog w (K w.params) mg base CX k fa fd ps (sp (K w.params)))
    (hsp : ∀ (K : PySem.W.Frag) (H : Hp) (xs : List V) (a : Codec.denoteAll r.args), OnlyF H → Codec.withinAll r.args a = true → Codec.app r.args r.asked a = true → DwAll K H xs (Codec.encAll r.args a) →
      sp K xs H (fun v H' => Dw K H' v (r.ret.enc (Codec.app r.args r.f a))) fun _ _ _ => False)
    (hCX : ∀ (H : Hp) (s : Shared) (e : Value) (s' : Shared), CX [] H s (fun _ _ _ => False) e s' → False) :
    PySem.W.WalkOS q loose XP YP r d [] (fun f vs => PySem.call f vs) :=
  walk_spec (K := K) (CX := fun _ => CX) (sp := fun w => sp (K w.params)) hwell hdf hlen hr hY F (fun w H xs a h1 h2 h3 h4 => hsp (K w.params) H xs a h1 h2 h3 h4) fun _ H s e s' => hCX H s e s'
end L2
-- rests on (row put in by the clerk, for the bench that shows a file only what it spells): KE.SpHead KE.OsShapes
end

end

section
set_option linter.all false
namespace LF
open Su120

/-! ### bits and ordered lists -/
def ofBits (n b : Nat) : List Nat := (List.range n).filter fun p => b.testBit p

theorem mem_ofBits {n b q : Nat} : q ∈ ofBits n b ↔ q < n ∧ b.testBit q = true := by
  unfold ofBits; rw [List.mem_filter, List.mem_range]

theorem ofBits_congr {n b c : Nat} (h : ∀ q, q < n → b.testBit q = c.testBit q) : ofBits n b = ofBits n c := by
  unfold ofBits
  exact List.filter_congr fun q hq => h q (List.mem_range.mp hq)

theorem contains_ofBits {n b q : Nat} (hq : q < n) : (ofBits n b).contains q = b.testBit q := by
  rw [Bool.eq_iff_iff, List.contains_iff_mem, mem_ofBits]
  simp [hq]

theorem filter_eq_ofBits {n b : Nat} {f : Nat → Bool} (h : ∀ q, q < n → f q = b.testBit q) : (List.range n).filter f = ofBits n b :=
  List.filter_congr fun q hq => h q (List.mem_range.mp hq)

theorem ofBits_inj {n b c : Nat} (hb : b < 2 ^ n) (hc : c < 2 ^ n) (h : ofBits n b = ofBits n c) : b = c := by
  apply Nat.eq_of_testBit_eq
  intro q
  by_cases hq : q < n
  · have e : (ofBits n b).contains q = (ofBits n c).contains q := by rw [h]
    rwa [contains_ofBits hq, contains_ofBits hq] at e
  · have h1 : 2 ^ n ≤ 2 ^ q := Nat.pow_le_pow_right (by decide) (by omega)
    rw [Nat.testBit_lt_two_pow (Nat.lt_of_lt_of_le hb h1), Nat.testBit_lt_two_pow (Nat.lt_of_lt_of_le hc h1)]

theorem two_pow_bit (p q : Nat) : (2 ^ p).testBit q = decide (p = q) := by
  rw [Nat.testBit_two_pow]

theorem ofBits_one {n p : Nat} (hp : p < n) : ofBits n (2 ^ p) = [p] := by
  have h : ∀ (m : Nat), (List.range m).filter (fun q => decide (p = q)) = if p < m then [p] else [] := by
    intro m
    induction m with
    | zero => simp
    | succ m ih =>
      rw [List.range_succ, List.filter_append, ih]
      by_cases h1 : p < m
      · have h2 : ¬ p = m := by omega
        simp [h1, h2]; omega
      · by_cases h2 : p = m
        · subst h2; simp
        · simp [h1, h2]; omega
  unfold ofBits
  have e : (fun q => (2 ^ p).testBit q) = fun q => decide (p = q) := funext fun q => two_pow_bit p q
  show List.filter (fun q => (2 ^ p).testBit q) (List.range n) = [p]
  rw [e, h n, if_pos hp]

theorem all_bits (n q : Nat) : (2 ^ n - 1).testBit q = decide (q < n) := by
  rw [Nat.testBit_two_pow_sub_one]

theorem ofBits_all (n : Nat) : ofBits n (2 ^ n - 1) = List.range n := by
  unfold ofBits
  rw [List.filter_eq_self]
  intro q hq
  rw [all_bits]
  simpa using hq

/-! ### the places' joins as bits -/
structure NearOk (a : Abs) (near : List Nat) : Prop where
  len : near.length = a.n
  bit : ∀ p, p < a.n → ∀ q, (near.getD p 0).testBit q = (decide (q < a.n) && (decide (p = q) || a.joined p q))

def orAll (near : List Nat) : List Nat → Nat → Nat
  | [], w => w
  | p :: r, w => orAll near r (w ||| near.getD p 0)
def spreadM (near : List Nat) (b : Nat) : Nat := orAll near (ofBits near.length b) 0
def burntM (near : List Nat) (row : List Nat) : Nat := row.foldl (fun b p => spreadM near b ||| 2 ^ p) 0

theorem orAll_bit (near : List Nat) (q : Nat) : ∀ (l : List Nat) (w : Nat), (orAll near l w).testBit q = (w.testBit q || l.any fun p => (near.getD p 0).testBit q)
  | [], w => by simp [orAll]
  | p :: r, w => by
    rw [orAll, orAll_bit near q r, Nat.testBit_or, List.any_cons, Bool.or_assoc]

theorem pair_comm {p q : Nat} (h : p ≠ q) : pair p q = pair q p := by
  unfold pair
  split <;> split <;> first | rfl | omega

theorem joined_comm (a : Abs) {p q : Nat} (h : p ≠ q) : a.joined p q = a.joined q p := by
  unfold Abs.joined; rw [pair_comm h]

theorem spread_bit {a : Abs} {near : List Nat} (N : NearOk a near) (b q : Nat) : (spreadM near b).testBit q = (decide (q < a.n) && (ofBits a.n b).any fun p => decide (p = q) || a.joined p q) := by
  unfold spreadM
  rw [orAll_bit, Nat.zero_testBit, Bool.false_or, N.len]
  rw [Bool.eq_iff_iff]
  simp only [List.any_eq_true, Bool.and_eq_true, decide_eq_true_eq]
  constructor
  · rintro ⟨p, hp, h⟩
    have hp' := (mem_ofBits.mp hp).1
    rw [N.bit p hp' q, Bool.and_eq_true, decide_eq_true_eq] at h
    exact ⟨h.1, p, hp, h.2⟩
  · rintro ⟨hq, p, hp, h⟩
    have hp' := (mem_ofBits.mp hp).1
    refine ⟨p, hp, ?_⟩
    rw [N.bit p hp' q, Bool.and_eq_true, decide_eq_true_eq]
    exact ⟨hq, h⟩

theorem spread_ofBits {a : Abs} {near : List Nat} (N : NearOk a near) (b : Nat) : a.spread (ofBits a.n b) = ofBits a.n (spreadM near b) := by
  unfold Abs.spread Abs.ps
  refine filter_eq_ofBits fun q hq => ?_
  rw [spread_bit N, contains_ofBits hq]
  rw [Bool.eq_iff_iff]
  simp only [Bool.or_eq_true, List.any_eq_true, Bool.and_eq_true, decide_eq_true_eq]
  constructor
  · rintro (h | ⟨r, hr, h⟩)
    · exact ⟨hq, q, mem_ofBits.mpr ⟨hq, h⟩, Or.inl rfl⟩
    · unfold Abs.near Abs.ps at hr
      rw [List.mem_filter, List.mem_range] at hr
      obtain ⟨hrn, hj⟩ := hr
      simp only [Bool.and_eq_true, bne_iff_ne, ne_eq] at hj
      rw [contains_ofBits hrn] at h
      exact ⟨hq, r, mem_ofBits.mpr ⟨hrn, h⟩, Or.inr (by rw [joined_comm a (Ne.symm hj.1)]; exact hj.2)⟩
  · rintro ⟨_, p, hp, h⟩
    have hp' := mem_ofBits.mp hp
    by_cases e : p = q
    · subst e; exact Or.inl hp'.2
    · refine Or.inr ⟨p, ?_, ?_⟩
      · unfold Abs.near Abs.ps
        rw [List.mem_filter, List.mem_range]
        refine ⟨hp'.1, ?_⟩
        simp only [Bool.and_eq_true, bne_iff_ne, ne_eq]
        refine ⟨fun z => e z.symm, ?_⟩
        rcases h with h | h
        · exact absurd h e
        · rw [joined_comm a (Ne.symm e)]; exact h
      · rw [contains_ofBits hp'.1]; exact hp'.2

theorem burn_step {a : Abs} {near : List Nat} (N : NearOk a near) (b x : Nat) : (a.ps.filter fun q => (a.spread (ofBits a.n b)).contains q || q == x) = ofBits a.n (spreadM near b ||| 2 ^ x) := by
  unfold Abs.ps
  refine filter_eq_ofBits fun q hq => ?_
  rw [spread_ofBits N, contains_ofBits hq, Nat.testBit_or, two_pow_bit]
  congr 1
  by_cases e : q = x
  · subst e; simp
  · have : ¬ x = q := fun z => e z.symm
    simp [e, this]

theorem burn_foldl {a : Abs} {near : List Nat} (N : NearOk a near) : ∀ (row : List Nat) (b : Nat), row.foldl (fun s x => a.ps.filter fun q => (a.spread s).contains q || q == x) (ofBits a.n b) = ofBits a.n (row.foldl (fun b p => spreadM near b ||| 2 ^ p) b)
  | [], b => rfl
  | x :: r, b => by
    rw [List.foldl_cons, List.foldl_cons, burn_step N, burn_foldl N r]

theorem ofBits_zero (n : Nat) : ofBits n 0 = [] := by
  unfold ofBits
  rw [List.filter_eq_nil_iff]
  intro q _; simp

theorem burn_eq {a : Abs} {near : List Nat} (N : NearOk a near) (row : List Nat) : a.burn row = ofBits a.n (burntM near row) := by
  unfold Abs.burn burntM
  rw [← burn_foldl N row 0, ofBits_zero]

/-- a mask stays below 2^n -/
theorem spread_lt {a : Abs} {near : List Nat} (N : NearOk a near) (b : Nat) : spreadM near b < 2 ^ a.n := by
  apply Nat.lt_pow_two_of_testBit
  intro q hq
  rw [spread_bit N]
  have : ¬ q < a.n := by omega
  simp [this]
theorem or_lt {n b c : Nat} (hb : b < 2 ^ n) (hc : c < 2 ^ n) : b ||| c < 2 ^ n := Nat.or_lt_two_pow hb hc
theorem one_lt {n p : Nat} (hp : p < n) : 2 ^ p < 2 ^ n := Nat.pow_lt_pow_right (by decide) hp
theorem burnt_lt {a : Abs} {near : List Nat} (N : NearOk a near) : ∀ (row : List Nat) (b : Nat), (∀ p ∈ row, p < a.n) → b < 2 ^ a.n → row.foldl (fun b p => spreadM near b ||| 2 ^ p) b < 2 ^ a.n
  | [], b, _, h => h
  | x :: r, b, hr, _ => by
    rw [List.foldl_cons]
    exact burnt_lt N r _ (fun p hp => hr p (List.mem_cons_of_mem _ hp)) (or_lt (spread_lt N b) (one_lt (hr x (List.mem_cons_self ..))))

/-! ### balls -/
def ballM (near : List Nat) : Nat → Nat → Nat
  | 0, p => 2 ^ p
  | k + 1, p => spreadM near (ballM near k p)

theorem spreads_succ (a : Abs) : ∀ (k : Nat) (s : List Nat), a.spreads (k + 1) s = a.spread (a.spreads k s)
  | 0, s => rfl
  | k + 1, s => by
    show a.spreads (k + 1) (a.spread s) = a.spread (a.spreads k (a.spread s))
    exact spreads_succ a k (a.spread s)

theorem within_eq {a : Abs} {near : List Nat} (N : NearOk a near) {p : Nat} (hp : p < a.n) : ∀ k, a.within k p = ofBits a.n (ballM near k p)
  | 0 => by
    show [p] = _
    rw [ballM, ofBits_one hp]
  | k + 1 => by
    show a.spreads (k + 1) [p] = _
    rw [spreads_succ, show a.spreads k [p] = ofBits a.n (ballM near k p) from within_eq N hp k, spread_ofBits N, ballM]

theorem ball_lt {a : Abs} {near : List Nat} (N : NearOk a near) {p : Nat} (hp : p < a.n) : ∀ k, ballM near k p < 2 ^ a.n
  | 0 => one_lt hp
  | _ + 1 => spread_lt N _

theorem spread_self {a : Abs} {near : List Nat} (N : NearOk a near) {b q : Nat} (hq : q < a.n) (h : b.testBit q = true) : (spreadM near b).testBit q = true := by
  rw [spread_bit N]
  simp only [Bool.and_eq_true, decide_eq_true_eq, List.any_eq_true, Bool.or_eq_true]
  exact ⟨hq, q, mem_ofBits.mpr ⟨hq, h⟩, Or.inl rfl⟩

theorem ball_self {a : Abs} {near : List Nat} (N : NearOk a near) {p : Nat} (hp : p < a.n) : ∀ k, (ballM near k p).testBit p = true
  | 0 => by rw [ballM, two_pow_bit]; simp
  | k + 1 => spread_self N hp (ball_self N hp k)

/-! ### rows -/
def allRows (n : Nat) : Nat → List (List Nat)
  | 0 => [[]]
  | k + 1 => (List.range n).flatMap fun p => (allRows n k).map fun r => p :: r

theorem mem_allRows {n : Nat} : ∀ {k : Nat} {r : List Nat}, r ∈ allRows n k ↔ r.length = k ∧ ∀ p ∈ r, p < n
  | 0, r => by
    rw [allRows, List.mem_singleton]
    constructor
    · rintro rfl; simp
    · rintro ⟨h, _⟩; exact List.length_eq_zero_iff.mp h
  | k + 1, r => by
    rw [allRows, List.mem_flatMap]
    constructor
    · rintro ⟨p, hp, h⟩
      obtain ⟨r', hr', rfl⟩ := List.mem_map.mp h
      obtain ⟨h1, h2⟩ := mem_allRows.mp hr'
      refine ⟨by simp [h1], fun q hq => ?_⟩
      rcases List.mem_cons.mp hq with rfl | hq
      · exact List.mem_range.mp hp
      · exact h2 q hq
    · rintro ⟨h1, h2⟩
      cases r with
      | nil => simp at h1
      | cons p r =>
        refine ⟨p, List.mem_range.mpr (h2 p (List.mem_cons_self ..)), List.mem_map.mpr ⟨r, mem_allRows.mpr ⟨by simpa using h1, fun q hq => h2 q (List.mem_cons_of_mem _ hq)⟩, rfl⟩⟩

theorem find_map_cons {p : Nat} (f : List Nat → Bool) : ∀ l : List (List Nat), (l.map fun r => p :: r).find? f = (l.find? fun r => f (p :: r)).map fun r => p :: r
  | [] => rfl
  | r :: l => by
    rw [List.map_cons, List.find?_cons, List.find?_cons]
    cases f (p :: r) with
    | true => rfl
    | false => exact find_map_cons f l

theorem find_flatMap {α β : Type} (g : α → List β) (f : β → Bool) : ∀ l : List α, (l.flatMap g).find? f = l.findSome? fun x => (g x).find? f
  | [] => rfl
  | x :: l => by
    rw [List.flatMap_cons, List.find?_append, List.findSome?_cons, find_flatMap g f l]
    cases (g x).find? f <;> rfl

theorem find_allRows (n k : Nat) (f : List Nat → Bool) : (allRows n (k + 1)).find? f = (List.range n).findSome? fun p => ((allRows n k).find? fun r => f (p :: r)).map fun r => p :: r := by
  rw [allRows, find_flatMap]
  congr 1
  funext p
  exact find_map_cons f _

/-! ### the specification's search -/
abbrev Tab := List (List (List Nat))
def leftOf (c : Tab) : List Nat → List Nat → List Nat
  | l, [] => l
  | l, p :: r => leftOf c (l.filter fun q => !(((c.getD r.length []).getD p []).contains q)) r

theorem foldl_max_le : ∀ (l : List Nat) (m : Nat), m ≤ l.foldl max m
  | [], m => Nat.le_refl _
  | x :: l, m => Nat.le_trans (Nat.le_max_left m x) (foldl_max_le l (max m x))
theorem le_foldl_max : ∀ (l : List Nat) (m x : Nat), x ∈ l → x ≤ l.foldl max m
  | [], m, x, h => by cases h
  | y :: l, m, x, h => by
    rw [List.foldl_cons]
    rcases List.mem_cons.mp h with rfl | h
    · exact Nat.le_trans (Nat.le_max_right m x) (foldl_max_le l _)
    · exact le_foldl_max l _ x h

theorem len_le_max (t : List (List Nat)) (p : Nat) : (t.getD p []).length ≤ (t.map List.length).foldl max 0 := by
  by_cases h : p < t.length
  · refine le_foldl_max _ _ _ ?_
    rw [List.getD_eq_getElem?_getD, List.getElem?_eq_getElem h]
    exact List.mem_map.mpr ⟨_, List.getElem_mem h, rfl⟩
  · rw [List.getD_eq_getElem?_getD, List.getElem?_eq_none (by omega)]
    exact Nat.zero_le _
theorem wide_ge (c : Tab) (k p : Nat) : ((c.getD k []).getD p []).length ≤ wide c k := len_le_max _ p

theorem nodup_sub_len : ∀ {l b : List Nat}, l.Nodup → (∀ x ∈ l, x ∈ b) → l.length ≤ b.length
  | [], b, _, _ => Nat.zero_le _
  | x :: l, b, hn, hs => by
    have hx := hs x (List.mem_cons_self ..)
    obtain ⟨h1, h2⟩ := List.nodup_cons.mp hn
    have ih := nodup_sub_len (b := b.erase x) h2 fun y hy => by
      have hne : y ≠ x := fun e => h1 (e ▸ hy)
      exact (List.mem_erase_of_ne hne).mpr (hs y (List.mem_cons_of_mem _ hy))
    have e := List.length_erase_of_mem hx
    have hp : 0 < b.length := List.length_pos_of_mem hx
    rw [List.length_cons]
    omega

theorem split_len (f : Nat → Bool) : ∀ l : List Nat, l.length = (l.filter f).length + (l.filter fun q => !(f q)).length
  | [] => rfl
  | x :: l => by
    have ih := split_len f l
    rw [List.filter_cons, List.filter_cons]
    cases h : f x <;> simp <;> omega

theorem cover_bound (c : Tab) : ∀ (r l : List Nat), l.Nodup → leftOf c l r = [] → l.length ≤ ((List.range r.length).map (wide c)).sum
  | [], l, _, h => by
    rw [leftOf] at h
    subst h; simp
  | p :: r, l, hn, h => by
    rw [leftOf] at h
    have ih := cover_bound c r _ (hn.filter _) h
    have e := split_len (fun q => ((c.getD r.length []).getD p []).contains q) l
    have h1 : (l.filter fun q => ((c.getD r.length []).getD p []).contains q).length ≤ ((c.getD r.length []).getD p []).length :=
      nodup_sub_len (hn.filter _) fun x hx => by
        have := (List.mem_filter.mp hx).2
        simpa using this
    have h2 := wide_ge c r.length p
    rw [List.length_cons, List.range_succ, List.map_append, List.sum_append]
    simp only [List.map_cons, List.map_nil, List.sum_cons, List.sum_nil]
    omega

theorem rowFrom_find (c : Tab) (n : Nat) : ∀ (k : Nat) (l : List Nat), l.Nodup → rowFrom c n k l = (allRows n k).find? fun r => decide (leftOf c l r = [])
  | 0, l, _ => by
    rw [rowFrom, allRows, List.find?_cons, leftOf]
    by_cases h : l = []
    · simp [h]
    · simp [h]
  | k + 1, l, hn => by
    have e : (allRows n (k + 1)).find? (fun r => decide (leftOf c l r = [])) = (List.range n).findSome? fun p => (rowFrom c n k (l.filter fun q => !(((c.getD k []).getD p []).contains q))).map fun r => p :: r := by
      rw [find_allRows]
      congr 1
      funext p
      rw [rowFrom_find c n k _ (hn.filter _)]
      congr 1
      have hh : ∀ (L : List (List Nat)), (∀ r ∈ L, r.length = k) → L.find? (fun r => decide (leftOf c l (p :: r) = [])) = L.find? fun r => decide (leftOf c (l.filter fun q => !(((c.getD k []).getD p []).contains q)) r = []) := by
        intro L hL
        induction L with
        | nil => rfl
        | cons r L ih =>
          have hr := hL r (List.mem_cons_self ..)
          rw [List.find?_cons, List.find?_cons, leftOf, hr, ih fun x hx => hL x (List.mem_cons_of_mem _ hx)]
      exact hh _ fun r hr => (mem_allRows.mp hr).1
    rw [rowFrom]
    by_cases hp : ((List.range (k + 1)).map (wide c)).sum < l.length
    · rw [if_pos hp]
      symm
      rw [List.find?_eq_none]
      intro r hr hcov
      have hl := (mem_allRows.mp hr).1
      have := cover_bound c r l hn (of_decide_eq_true hcov)
      rw [hl] at this
      omega
    · rw [if_neg hp, e]

end LF

end

section
set_option linter.all false
namespace LF
open Su120

/-! ### what a row burns, from its end -/
def covM (near : List Nat) : List Nat → Nat
  | [] => 0
  | p :: r => covM near r ||| ballM near r.length p

theorem covM_lt {a : Abs} {near : List Nat} (N : NearOk a near) : ∀ r : List Nat, (∀ p ∈ r, p < a.n) → covM near r < 2 ^ a.n
  | [], _ => Nat.two_pow_pos _
  | p :: r, h => or_lt (covM_lt N r fun q hq => h q (List.mem_cons_of_mem _ hq)) (ball_lt N (h p (List.mem_cons_self ..)) _)

theorem getD_map_range {α : Type} (f : Nat → α) (d : α) {m k : Nat} (h : k < m) : ((List.range m).map f).getD k d = f k := by
  rw [List.getD_eq_getElem?_getD, List.getElem?_map, List.getElem?_range h] <;> rfl

theorem table_at (a : Abs) {k p : Nat} (hk : k ≤ a.n) (hp : p < a.n) : ((a.table).getD k []).getD p [] = a.within k p := by
  have e : (a.table).getD k [] = a.ps.map fun p => a.within k p := getD_map_range (fun k => a.ps.map fun p => a.within k p) [] (by omega)
  rw [e]
  exact getD_map_range (fun p => a.within k p) [] hp

theorem left_eq {a : Abs} {near : List Nat} (N : NearOk a near) : ∀ (r l : List Nat), (∀ p ∈ r, p < a.n) → r.length ≤ a.n + 1 → (∀ q ∈ l, q < a.n) → leftOf a.table l r = l.filter fun q => !(covM near r).testBit q
  | [], l, _, _, _ => by
    rw [leftOf, covM]
    symm
    rw [List.filter_eq_self]
    intro q _; simp
  | p :: r, l, hr, hl, hb => by
    have hp := hr p (List.mem_cons_self ..)
    rw [List.length_cons] at hl
    rw [leftOf, table_at a (by omega) hp, left_eq N r _ (fun q hq => hr q (List.mem_cons_of_mem _ hq)) (by omega) (fun q hq => hb q (List.mem_filter.mp hq).1), List.filter_filter, covM]
    refine List.filter_congr fun q hq => ?_
    rw [within_eq N hp, contains_ofBits (hb q hq), Nat.testBit_or]
    cases (covM near r).testBit q <;> cases (ballM near r.length p).testBit q <;> rfl

theorem all_of {n m : Nat} (hm : m < 2 ^ n) : ((List.range n).filter fun q => !m.testBit q) = [] ↔ m = 2 ^ n - 1 := by
  rw [List.filter_eq_nil_iff]
  constructor
  · intro h
    apply Nat.eq_of_testBit_eq
    intro q
    rw [all_bits]
    by_cases hq : q < n
    · have := h q (List.mem_range.mpr hq)
      simp at this
      simp [hq, this]
    · have h1 : 2 ^ n ≤ 2 ^ q := Nat.pow_le_pow_right (by decide) (by omega)
      rw [Nat.testBit_lt_two_pow (Nat.lt_of_lt_of_le hm h1)]
      simp [hq]
  · rintro rfl q hq
    rw [all_bits]
    have := List.mem_range.mp hq
    simp [this]

theorem find_congr {α : Type} {f g : α → Bool} : ∀ {L : List α}, (∀ x ∈ L, f x = g x) → L.find? f = L.find? g
  | [], _ => rfl
  | x :: L, h => by
    rw [List.find?_cons, List.find?_cons, h x (List.mem_cons_self ..), find_congr fun y hy => h y (List.mem_cons_of_mem _ hy)]

theorem nodup_range_filter (n : Nat) (f : Nat → Bool) : ((List.range n).filter f).Nodup := List.nodup_range.filter _

/-- the specification's row of k -/
theorem row_eq {a : Abs} {near : List Nat} (N : NearOk a near) {k : Nat} (hk : k ≤ a.n + 1) : a.row k = (allRows a.n k).find? fun r => decide (covM near r = 2 ^ a.n - 1) := by
  unfold Abs.row
  rw [rowFrom_find _ _ _ _ (by unfold Abs.ps; exact List.nodup_range)]
  refine find_congr fun r hr => ?_
  obtain ⟨h1, h2⟩ := mem_allRows.mp hr
  unfold Abs.ps
  rw [left_eq N r _ h2 (by omega) fun q hq => List.mem_range.mp hq]
  exact decide_eq_decide.mpr (all_of (covM_lt N r h2))

/-- a row of all the places burns all -/
theorem cov_bits {a : Abs} {near : List Nat} (N : NearOk a near) : ∀ (r : List Nat), (∀ p ∈ r, p < a.n) → ∀ q ∈ r, (covM near r).testBit q = true
  | [], _, q, h => by cases h
  | p :: r, hr, q, h => by
    rw [covM, Nat.testBit_or]
    rcases List.mem_cons.mp h with rfl | h
    · rw [ball_self N (hr q (List.mem_cons_self ..)), Bool.or_true]
    · rw [cov_bits N r (fun x hx => hr x (List.mem_cons_of_mem _ hx)) q h, Bool.true_or]

theorem cov_range {a : Abs} {near : List Nat} (N : NearOk a near) : covM near (List.range a.n) = 2 ^ a.n - 1 := by
  have h : ∀ p ∈ List.range a.n, p < a.n := fun p hp => List.mem_range.mp hp
  refine (all_of (covM_lt N _ h)).mp ?_
  rw [List.filter_eq_nil_iff]
  intro q hq
  rw [cov_bits N _ h q hq]
  simp

/-! ### rows kept by what they burn -/
abbrev Ent := Nat × List Nat
def insAbs (acc : List Ent) (e : Ent) : List Ent := if acc.any (fun x => x.1 == e.1) then acc else acc ++ [e]
def turnOf (rows : List Ent) (p ball : Nat) (acc : List Ent) : List Ent := rows.foldl (fun acc e => insAbs acc (e.1 ||| ball, p :: e.2)) acc
def longerFrom (rows : List Ent) : List Nat → Nat → List Ent → List Ent
  | [], _, acc => acc
  | ball :: r, p, acc => longerFrom rows r (p + 1) (turnOf rows p ball acc)
def longerM (rows : List Ent) (balls : List Nat) : List Ent := longerFrom rows balls 0 []

theorem ins_find (f : Nat → Bool) (acc L : List Ent) (e : Ent) : ((insAbs acc e) ++ L).find? (fun x => f x.1) = (acc ++ e :: L).find? (fun x => f x.1) := by
  unfold insAbs
  split
  · rename_i h
    rw [List.find?_append, List.find?_append, List.find?_cons]
    cases hf : f e.1 with
    | false => rfl
    | true =>
      obtain ⟨x, hx, hk⟩ := List.any_eq_true.mp h
      have hk' : x.1 = e.1 := by simpa using hk
      have : ((acc.find? fun x => f x.1)).isSome = true := by
        rw [List.find?_isSome]
        exact ⟨x, hx, by rw [hk']; exact hf⟩
      obtain ⟨y, hy⟩ := Option.isSome_iff_exists.mp this
      rw [hy] <;> rfl
  · rw [List.append_assoc] <;> rfl

theorem foldl_ins_find (f : Nat → Bool) : ∀ (L acc : List Ent), (L.foldl insAbs acc).find? (fun x => f x.1) = (acc ++ L).find? (fun x => f x.1)
  | [], acc => by rw [List.append_nil, List.foldl_nil]
  | e :: L, acc => by rw [List.foldl_cons, foldl_ins_find f L, ins_find]

theorem turnOf_eq (rows : List Ent) (p ball : Nat) (acc : List Ent) : turnOf rows p ball acc = (rows.map fun e => ((e.1 ||| ball, p :: e.2) : Ent)).foldl insAbs acc := by
  unfold turnOf
  rw [List.foldl_map]

def pieces (rows : List Ent) : List Nat → Nat → List Ent
  | [], _ => []
  | ball :: r, p => (rows.map fun e => ((e.1 ||| ball, p :: e.2) : Ent)) ++ pieces rows r (p + 1)

theorem longerFrom_eq (rows : List Ent) : ∀ (balls : List Nat) (p : Nat) (acc : List Ent), longerFrom rows balls p acc = (pieces rows balls p).foldl insAbs acc
  | [], p, acc => rfl
  | ball :: r, p, acc => by rw [longerFrom, pieces, List.foldl_append, ← turnOf_eq, longerFrom_eq rows r]

/-- what the dict of length k holds -/
structure RowsAt (near : List Nat) (n k : Nat) (rows : List Ent) : Prop where
  find : ∀ f : Nat → Bool, (rows.find? fun e => f e.1).map (·.2) = (allRows n k).find? fun r => f (covM near r)
  mem : ∀ e ∈ rows, e.2 ∈ allRows n k ∧ e.1 = covM near e.2
  nd : (rows.map (·.1)).Nodup

theorem rows_zero (near : List Nat) (n : Nat) : RowsAt near n 0 [(0, [])] := by
  refine ⟨fun f => ?_, fun e he => ?_, by simp⟩
  · rw [allRows, List.find?_cons, List.find?_cons, covM]
    cases f 0 <;> rfl
  · rw [List.mem_singleton] at he
    subst he
    exact ⟨by simp [allRows], rfl⟩

theorem nodup_snoc {α : Type} {l : List α} {x : α} (h : l.Nodup) (hx : ¬ x ∈ l) : (l ++ [x]).Nodup := by
  rw [List.nodup_append]
  refine ⟨h, by simp, fun a ha b hb => ?_⟩
  rw [List.mem_singleton] at hb
  subst hb
  exact fun e => hx (e ▸ ha)

theorem ins_nd {acc : List Ent} {e : Ent} (h : (acc.map (·.1)).Nodup) : ((insAbs acc e).map (·.1)).Nodup := by
  unfold insAbs
  split
  · exact h
  · rename_i hn
    rw [List.map_append]
    refine nodup_snoc h fun hm => hn ?_
    obtain ⟨x, hx, e1⟩ := List.mem_map.mp hm
    exact List.any_eq_true.mpr ⟨x, hx, by simp [e1]⟩
theorem foldl_ins_nd : ∀ (L acc : List Ent), (acc.map (·.1)).Nodup → ((L.foldl insAbs acc).map (·.1)).Nodup
  | [], _, h => h
  | e :: L, acc, h => by rw [List.foldl_cons]; exact foldl_ins_nd L _ (ins_nd h)
theorem ins_mem {acc : List Ent} {e x : Ent} (h : x ∈ insAbs acc e) : x ∈ acc ∨ x = e := by
  unfold insAbs at h
  split at h
  · exact .inl h
  · rcases List.mem_append.mp h with h | h
    · exact .inl h
    · exact .inr (List.mem_singleton.mp h)
theorem foldl_ins_mem : ∀ {L acc : List Ent} {x : Ent}, x ∈ L.foldl insAbs acc → x ∈ acc ∨ x ∈ L
  | [], _, _, h => .inl h
  | e :: L, acc, x, h => by
    rw [List.foldl_cons] at h
    rcases foldl_ins_mem h with h | h
    · rcases ins_mem h with h | rfl
      · exact .inl h
      · exact .inr (List.mem_cons_self ..)
    · exact .inr (List.mem_cons_of_mem _ h)

theorem pieces_map (rows : List Ent) (b : Nat → Nat) : ∀ (m p : Nat), pieces rows ((List.range' p m).map b) p = (List.range' p m).flatMap fun x => rows.map fun e => ((e.1 ||| b x, x :: e.2) : Ent)
  | 0, p => rfl
  | m + 1, p => by
    rw [List.range'_succ, List.map_cons, pieces, List.flatMap_cons, pieces_map rows b m (p + 1)]

theorem longer_ok {near : List Nat} {n k : Nat} {rows : List Ent} (R : RowsAt near n k rows) : RowsAt near n (k + 1) (longerM rows ((List.range n).map (ballM near k))) := by
  have eb : longerM rows ((List.range n).map (ballM near k)) = ((List.range n).flatMap fun x => rows.map fun e => ((e.1 ||| ballM near k x, x :: e.2) : Ent)).foldl insAbs [] := by
    unfold longerM
    rw [longerFrom_eq, List.range_eq_range', pieces_map rows (ballM near k) n 0]
  rw [eb]
  refine ⟨fun f => ?_, fun e he => ?_, foldl_ins_nd _ _ (by simp)⟩
  · rw [foldl_ins_find, List.nil_append, find_flatMap, find_allRows]
    have h2 : ∀ l : List Nat, (l.findSome? fun x => (rows.map fun e => ((e.1 ||| ballM near k x, x :: e.2) : Ent)).find? fun e => f e.1).map (·.2) = l.findSome? fun p => ((allRows n k).find? fun r => f (covM near (p :: r))).map fun r => p :: r := by
      intro l
      induction l with
      | nil => rfl
      | cons p l ih =>
        rw [List.findSome?_cons, List.findSome?_cons]
        have e1 : ((rows.map fun e => ((e.1 ||| ballM near k p, p :: e.2) : Ent)).find? fun e => f e.1) = (rows.find? fun e => f (e.1 ||| ballM near k p)).map fun e => ((e.1 ||| ballM near k p, p :: e.2) : Ent) := by
          rw [List.find?_map]
          rfl
        have e2 : ((allRows n k).find? fun r => f (covM near (p :: r))) = (rows.find? fun e => f (e.1 ||| ballM near k p)).map (·.2) := by
          rw [R.find fun m => f (m ||| ballM near k p)]
          refine find_congr fun r hr => ?_
          rw [covM, (mem_allRows.mp hr).1]
        rw [e1, e2]
        cases rows.find? fun e => f (e.1 ||| ballM near k p) with
        | none => exact ih
        | some e => rfl
    exact h2 _
  · rcases foldl_ins_mem he with h | h
    · cases h
    · obtain ⟨p, hp, h⟩ := List.mem_flatMap.mp h
      obtain ⟨e', he', rfl⟩ := List.mem_map.mp h
      obtain ⟨h1, h2⟩ := R.mem e' he'
      have h3 := mem_allRows.mp h1
      refine ⟨mem_allRows.mpr ⟨by simp [h3.1], fun q hq => ?_⟩, ?_⟩
      · rcases List.mem_cons.mp hq with rfl | hq
        · exact List.mem_range.mp hp
        · exact h3.2 q hq
      · show e'.1 ||| _ = _
        rw [covM, h2, h3.1]

theorem rows_len {a : Abs} {near : List Nat} (N : NearOk a near) {k : Nat} {rows : List Ent} (R : RowsAt near a.n k rows) : rows.length ≤ 2 ^ a.n := by
  have h := nodup_sub_len R.nd (b := List.range (2 ^ a.n)) fun x hx => by
    obtain ⟨e, he, rfl⟩ := List.mem_map.mp hx
    obtain ⟨h1, h2⟩ := R.mem e he
    rw [List.mem_range, h2]
    exact covM_lt N _ (mem_allRows.mp h1).2
  rwa [List.length_map, List.length_range] at h

/-! ### the fewest turns, the row told -/
def hasKey (rows : List Ent) (m : Nat) : Option (List Nat) := (rows.find? fun e => e.1 == m).map (·.2)

theorem has_row {a : Abs} {near : List Nat} (N : NearOk a near) {k : Nat} {rows : List Ent} (R : RowsAt near a.n k rows) (hk : k ≤ a.n + 1) : hasKey rows (2 ^ a.n - 1) = a.row k := by
  unfold hasKey
  rw [R.find fun m => m == 2 ^ a.n - 1, row_eq N hk]
  refine find_congr fun r _ => ?_
  rw [Bool.eq_iff_iff]; simp

theorem row_n {a : Abs} {near : List Nat} (N : NearOk a near) : (a.row a.n).isSome = true := by
  rw [row_eq N (by omega), List.find?_isSome]
  exact ⟨List.range a.n, mem_allRows.mpr ⟨List.length_range, fun p hp => List.mem_range.mp hp⟩, decide_eq_true (cov_range N)⟩

theorem turns_eq {a : Abs} {near : List Nat} (N : NearOk a near) {k : Nat} {r : List Nat} (hk : k ≤ a.n) (h : a.row k = some r) (hno : ∀ j, j < k → a.row j = none) : a.turns = k := by
  unfold Abs.turns
  have hf : ((List.range (a.n + 1)).find? fun j => (rowFrom a.table a.n j a.ps).isSome) = some k := by
    rw [List.find?_range_eq_some]
    refine ⟨?_, List.mem_range.mpr (by omega), fun j hj => ?_⟩
    · show (a.row k).isSome = true
      rw [h] <;> rfl
    · show (!(a.row j).isSome) = true
      rw [hno j hj] <;> rfl
  show (((List.range (a.n + 1)).find? fun j => (rowFrom a.table a.n j a.ps).isSome)).getD a.n = k
  rw [hf] <;> rfl

theorem best_eq {a : Abs} {near : List Nat} (N : NearOk a near) {k : Nat} {r : List Nat} (hk : k ≤ a.n) (h : a.row k = some r) (hno : ∀ j, j < k → a.row j = none) : a.best = r ∧ r.length = k := by
  refine ⟨?_, ?_⟩
  · unfold Abs.best
    rw [turns_eq N hk h hno, h] <;> rfl
  · rw [row_eq N (by omega)] at h
    exact (mem_allRows.mp (List.mem_of_find?_eq_some h)).1

end LF

end

section
set_option linter.all false
namespace LF
open Su120

/-! ### the joins as bits, built one by one -/
def orAt (near : List Nat) (x y : Nat) : List Nat := near.set x (near.getD x 0 ||| 2 ^ y)
def nearStep (near : List Nat) (j : Nat × Nat) : List Nat := orAt (orAt near j.1 j.2) j.2 j.1
def nearM (n : Nat) (js : List (Nat × Nat)) : List Nat := js.foldl nearStep ((List.range n).map fun p => 2 ^ p)

theorem orAt_len (near : List Nat) (x y : Nat) : (orAt near x y).length = near.length := by unfold orAt; rw [List.length_set]
theorem nearStep_len (near : List Nat) (j : Nat × Nat) : (nearStep near j).length = near.length := by unfold nearStep; rw [orAt_len, orAt_len]
theorem foldl_near_len : ∀ (js : List (Nat × Nat)) (near : List Nat), (js.foldl nearStep near).length = near.length
  | [], _ => rfl
  | j :: js, near => by rw [List.foldl_cons, foldl_near_len js, nearStep_len]
theorem nearM_len (n : Nat) (js : List (Nat × Nat)) : (nearM n js).length = n := by
  unfold nearM
  rw [foldl_near_len, List.length_map, List.length_range]

theorem getD_set (l : List Nat) (x v p : Nat) (hx : x < l.length) : (l.set x v).getD p 0 = if p = x then v else l.getD p 0 := by
  rw [List.getD_eq_getElem?_getD, List.getD_eq_getElem?_getD, List.getElem?_set]
  by_cases h : x = p
  · subst h; simp [hx]
  · have h' : ¬ p = x := fun e => h e.symm
    simp [h, h']

theorem orAt_bit {near : List Nat} {x y p q : Nat} (hx : x < near.length) : ((orAt near x y).getD p 0).testBit q = ((near.getD p 0).testBit q || (decide (p = x) && decide (y = q))) := by
  unfold orAt
  rw [getD_set _ _ _ _ hx]
  by_cases h : p = x
  · subst h; simp [Nat.testBit_or, two_pow_bit]
  · simp [h]

theorem nearStep_bit {near : List Nat} {j : Nat × Nat} {p q : Nat} (h1 : j.1 < near.length) (h2 : j.2 < near.length) :
    ((nearStep near j).getD p 0).testBit q = ((near.getD p 0).testBit q || (decide (p = j.1) && decide (j.2 = q)) || (decide (p = j.2) && decide (j.1 = q))) := by
  unfold nearStep
  rw [orAt_bit (by rw [orAt_len]; exact h2), orAt_bit h1]

def NearB (n : Nat) (js : List (Nat × Nat)) (near : List Nat) : Prop :=
  near.length = n ∧ ∀ p, p < n → ∀ q, (near.getD p 0).testBit q = (decide (q < n) && (decide (p = q) || js.contains (pair p q)))

theorem pair_is {p q x y : Nat} (h : x < y) : (pair p q = (x, y)) ↔ (p = x ∧ q = y) ∨ (p = y ∧ q = x) := by
  unfold pair
  split
  · rename_i hl
    constructor
    · intro e; injection e with e1 e2; exact .inl ⟨e1, e2⟩
    · rintro (⟨rfl, rfl⟩ | ⟨rfl, rfl⟩)
      · rfl
      · omega
  · rename_i hl
    constructor
    · intro e; injection e with e1 e2; exact .inr ⟨e2, e1⟩
    · rintro (⟨rfl, rfl⟩ | ⟨rfl, rfl⟩)
      · omega
      · rfl

theorem near_foldl (n : Nat) : ∀ (js pre : List (Nat × Nat)) (near : List Nat), (∀ x ∈ js, x.1 < x.2 ∧ x.2 < n) → NearB n pre near → NearB n (pre ++ js) (js.foldl nearStep near)
  | [], pre, near, _, h => by rw [List.append_nil]; exact h
  | j :: js, pre, near, hj, h => by
    obtain ⟨hl, hb⟩ := h
    obtain ⟨h1, h2⟩ := hj j (List.mem_cons_self ..)
    have : pre ++ j :: js = (pre ++ [j]) ++ js := by simp
    rw [this, List.foldl_cons]
    refine near_foldl n js _ _ (fun x hx => hj x (List.mem_cons_of_mem _ hx)) ⟨by rw [nearStep_len, hl], fun p hp q => ?_⟩
    rw [nearStep_bit (by omega) (by omega), hb p hp q]
    have e : (pre ++ [j]).contains (pair p q) = (pre.contains (pair p q) || decide (pair p q = j)) := by
      rw [Bool.eq_iff_iff]
      simp
    rw [e, Bool.eq_iff_iff]
    have hpi := @pair_is p q j.1 j.2 h1
    simp only [Bool.or_eq_true, Bool.and_eq_true, decide_eq_true_eq]
    constructor
    · rintro ((⟨hq, hh⟩ | ⟨rfl, rfl⟩) | ⟨rfl, rfl⟩)
      · rcases hh with hh | hh
        · exact ⟨hq, .inl hh⟩
        · exact ⟨hq, .inr (.inl hh)⟩
      · exact ⟨h2, .inr (.inr (hpi.mpr (.inl ⟨rfl, rfl⟩)))⟩
      · exact ⟨by omega, .inr (.inr (hpi.mpr (.inr ⟨rfl, rfl⟩)))⟩
    · rintro ⟨hq, hh | hh | hh⟩
      · exact .inl (.inl ⟨hq, .inl hh⟩)
      · exact .inl (.inl ⟨hq, .inr hh⟩)
      · rcases hpi.mp hh with ⟨z1, z2⟩ | ⟨z1, z2⟩
        · exact .inl (.inr ⟨z1, z2.symm⟩)
        · exact .inr ⟨z1, z2.symm⟩

structure JoinsOk (a : Abs) : Prop where
  lt : ∀ x ∈ a.joins, x.1 < x.2 ∧ x.2 < a.n

theorem nearM_ok {a : Abs} (J : JoinsOk a) : NearOk a (nearM a.n a.joins) := by
  have h0 : NearB a.n [] ((List.range a.n).map fun p => 2 ^ p) := by
    refine ⟨by simp, fun p hp q => ?_⟩
    rw [getD_map_range (fun p => 2 ^ p) 0 hp, two_pow_bit]
    by_cases e : p = q
    · subst e; simp [hp]
    · simp [e]
  have h := near_foldl a.n a.joins [] _ J.lt h0
  rw [List.nil_append] at h
  exact ⟨h.1, h.2⟩
end LF

end

section
set_option linter.all false
namespace LF
open Su120
/-! ### the list of calls, call by call -/
def nb : List Nat := [1, 2, 2, 1, 1, 1, 0, 0, 0, 0, 0, 1, 1, 2, 2, 2, 2, 1, 0, 0, 0, 0]
def callOf' : Nat → List Nat → Option Call
  | 0, [x] => some (.begin_ x)
  | 1, [x, y] => some (.join x y)
  | 2, [x, y] => some (.part x y)
  | 3, [x] => some (.line x)
  | 4, [x] => some (.ring x)
  | 5, [x] => some (.light x)
  | 6, [] => some .out
  | 7, [] => some .burns
  | 8, [] => some .left
  | 9, [] => some .turns
  | 10, [] => some .best
  | 11, _ :: l => some (.row l)
  | 12, [x] => some (.can x)
  | 13, [x, y] => some (.within x y)
  | 14, [x, y] => some (.with_ x y)
  | 15, [x, y] => some (.without x y)
  | 16, [x, y] => some (.far x y)
  | 17, [x] => some (.root x)
  | 18, [] => some .finish
  | 19, [] => some .parts
  | 20, [] => some .tree
  | 21, [] => some .state
  | _, _ => none
/-- one call as it stands in the list: its number, what is behind it, what it means -/
structure Chunk where
  k : Nat
  given : List Nat
  c : Call
def Chunk.flat (x : Chunk) : List Int := (x.k : Int) :: x.given.map Int.ofNat
structure Chunk.Ok (x : Chunk) : Prop where
  k : x.k ≤ 21
  len : x.given.length = nb.getD x.k 0 + (if x.k = 11 then x.given.headD 0 else 0)
  call : callOf' x.k x.given = some x.c
  few : x.given.length ≤ 12
theorem ar0 {p : Int} {r t : List Int} {c : List (List Int)} (hs : PySu120.shape p = some (0, 0)) (h : PyFlat.call PySu120.shape (p :: r) = some (c, t)) : c = [[p]] ∧ t = r := by
  simp only [PyFlat.call, hs] at h
  simp [PyFlat.rows] at h
  exact ⟨h.1.symm, h.2.symm⟩
theorem ar1 {p : Int} {r t : List Int} {c : List (List Int)} (hs : PySu120.shape p = some (1, 0)) (h : PyFlat.call PySu120.shape (p :: r) = some (c, t)) : ∃ x, r = x :: t ∧ c = [[p, x]] := by
  simp only [PyFlat.call, hs] at h
  match r, h with
  | [], h => simp at h
  | x :: r, h =>
    simp [PyFlat.rows] at h
    exact ⟨x, by rw [h.2], h.1.symm⟩
theorem ar2 {p : Int} {r t : List Int} {c : List (List Int)} (hs : PySu120.shape p = some (2, 0)) (h : PyFlat.call PySu120.shape (p :: r) = some (c, t)) : ∃ x y, r = x :: y :: t ∧ c = [[p, x, y]] := by
  simp only [PyFlat.call, hs] at h
  match r, h with
  | [], h => simp at h
  | [_], h => simp at h
  | x :: y :: r, h =>
    simp [PyFlat.rows] at h
    exact ⟨x, y, by rw [h.2], h.1.symm⟩
theorem ar11 {r t : List Int} {c : List (List Int)} (h : PyFlat.call PySu120.shape (11 :: r) = some (c, t)) : ∃ n l, r = n :: (l ++ t) ∧ 0 ≤ n ∧ n.toNat = l.length ∧ c = [[11], l] := by
  simp only [PyFlat.call, show PySu120.shape 11 = some (0, 1) from rfl] at h
  match r, h with
  | [], h => simp [PyFlat.rows, PyFlat.row] at h
  | n :: r, h =>
    simp only [List.length_cons, Nat.not_lt_zero, if_false, List.drop_zero, PyFlat.rows, PyFlat.row] at h
    by_cases hn : 0 ≤ n ∧ n.toNat ≤ r.length
    · rw [if_pos hn] at h
      simp at h
      exact ⟨n, r.take n.toNat, by rw [← h.2, List.take_append_drop], hn.1, by rw [List.length_take]; omega, h.1.symm⟩
    · rw [if_neg hn] at h
      simp at h
theorem within_pos {x : Int} (h : PyInside.within 0 4294967295 x = true) : x = Int.ofNat x.toNat := by
  unfold PyInside.within at h
  rw [Bool.and_eq_true, decide_eq_true_eq] at h
  show x = ((x.toNat : Nat) : Int)
  omega
theorem map_pos : ∀ {l : List Int}, l.all (PyInside.within 0 4294967295) = true → l = (l.map Int.toNat).map Int.ofNat
  | [], _ => rfl
  | x :: l, h => by
    rw [List.all_cons, Bool.and_eq_true] at h
    rw [List.map_cons, List.map_cons, ← within_pos h.1, ← map_pos h.2]
theorem shape_in {p : Int} (h : PySu120.shape p ≠ none) : 0 ≤ p ∧ p ≤ 21 := by
  by_cases z : 0 ≤ p ∧ p ≤ 21
  · exact z
  · exfalso
    apply h
    unfold PySu120.shape
    repeat rw [if_neg (by omega)]
theorem call_dec {p : Int} {r t : List Int} {c : List (List Int)} (h : PyFlat.call PySu120.shape (p :: r) = some (c, t)) (hb : PyInside.call PySu120.bound c = true) (ha : Su120Neutral.asked1 ((PySu120.whole c).headD []) = true) :
    ∃ x : Chunk, x.Ok ∧ p :: r = x.flat ++ t ∧ Su120Neutral.callOf ((PySu120.whole c).headD []) = some x.c := by
  have hp : p = 0 ∨ p = 1 ∨ p = 2 ∨ p = 3 ∨ p = 4 ∨ p = 5 ∨ p = 6 ∨ p = 7 ∨ p = 8 ∨ p = 9 ∨ p = 10 ∨ p = 11 ∨ p = 12 ∨ p = 13 ∨ p = 14 ∨ p = 15 ∨ p = 16 ∨ p = 17 ∨ p = 18 ∨ p = 19 ∨ p = 20 ∨ p = 21 := by
    have hs : PySu120.shape p ≠ none := by
      intro hs
      simp only [PyFlat.call, hs] at h
      cases h
    have := shape_in hs
    omega
  have g1 : ∀ {x : Int}, PyInside.call PySu120.bound [[p, x]] = true → PySu120.bound p = ([(0, 4294967295)], []) → x = Int.ofNat x.toNat := by
    intro x hx hbd
    have hx' : (PyInside.each (PySu120.bound p).1 [x] && PyInside.lists (PySu120.bound p).2 []) = true := hx
    rw [hbd] at hx'
    simp [PyInside.each, PyInside.lists] at hx'
    exact within_pos hx'
  have g2 : ∀ {x y : Int}, PyInside.call PySu120.bound [[p, x, y]] = true → PySu120.bound p = ([(0, 4294967295), (0, 4294967295)], []) → x = Int.ofNat x.toNat ∧ y = Int.ofNat y.toNat := by
    intro x y hx hbd
    have hx' : (PyInside.each (PySu120.bound p).1 [x, y] && PyInside.lists (PySu120.bound p).2 []) = true := hx
    rw [hbd] at hx'
    simp [PyInside.each, PyInside.lists] at hx'
    exact ⟨within_pos hx'.1, within_pos hx'.2⟩
  have m0 : ∀ (k : Nat) (cc : Call), p = (k : Int) → k ≤ 21 → ¬ k = 11 → nb.getD k 0 = 0 → PySu120.shape p = some (0, 0) → callOf' k [] = some cc → Su120Neutral.callOf ((PySu120.whole [[p]]).headD []) = some cc → ∃ x : Chunk, x.Ok ∧ p :: r = x.flat ++ t ∧ Su120Neutral.callOf ((PySu120.whole c).headD []) = some x.c := by
    intro k cc hk h21 h11 hn hs h1 h2
    obtain ⟨e1, e2⟩ := ar0 hs h
    subst e1 e2
    exact ⟨⟨k, [], cc⟩, ⟨h21, by rw [hn, if_neg h11] <;> rfl, h1, by simp⟩, by rw [hk] <;> rfl, h2⟩
  have m1 : ∀ (k : Nat) (f : Nat → Call), p = (k : Int) → k ≤ 21 → ¬ k = 11 → nb.getD k 0 = 1 → PySu120.shape p = some (1, 0) → PySu120.bound p = ([(0, 4294967295)], []) → (∀ x, callOf' k [x] = some (f x)) → (∀ x : Int, Su120Neutral.callOf ((PySu120.whole [[p, x]]).headD []) = some (f x.toNat)) → ∃ x : Chunk, x.Ok ∧ p :: r = x.flat ++ t ∧ Su120Neutral.callOf ((PySu120.whole c).headD []) = some x.c := by
    intro k f hk h21 h11 hn hs hbd h1 h2
    obtain ⟨x, e1, e2⟩ := ar1 hs h
    subst e1 e2
    have e := g1 hb hbd
    exact ⟨⟨k, [x.toNat], f x.toNat⟩, ⟨h21, by rw [hn, if_neg h11] <;> rfl, h1 _, by simp⟩, by rw [hk]; show _ = ((k : Int) :: Int.ofNat x.toNat :: t); rw [← e], h2 _⟩
  have m2 : ∀ (k : Nat) (f : Nat → Nat → Call), p = (k : Int) → k ≤ 21 → ¬ k = 11 → nb.getD k 0 = 2 → PySu120.shape p = some (2, 0) → PySu120.bound p = ([(0, 4294967295), (0, 4294967295)], []) → (∀ x y, callOf' k [x, y] = some (f x y)) → (∀ x y : Int, Su120Neutral.callOf ((PySu120.whole [[p, x, y]]).headD []) = some (f x.toNat y.toNat)) → ∃ x : Chunk, x.Ok ∧ p :: r = x.flat ++ t ∧ Su120Neutral.callOf ((PySu120.whole c).headD []) = some x.c := by
    intro k f hk h21 h11 hn hs hbd h1 h2
    obtain ⟨x, y, e1, e2⟩ := ar2 hs h
    subst e1 e2
    obtain ⟨e, e'⟩ := g2 hb hbd
    exact ⟨⟨k, [x.toNat, y.toNat], f x.toNat y.toNat⟩, ⟨h21, by rw [hn, if_neg h11] <;> rfl, h1 _ _, by simp⟩, by rw [hk]; show _ = ((k : Int) :: Int.ofNat x.toNat :: Int.ofNat y.toNat :: t); rw [← e, ← e'], h2 _ _⟩
  rcases hp with e | e | e | e | e | e | e | e | e | e | e | e | e | e | e | e | e | e | e | e | e | e <;> subst e
  · exact m1 0 .begin_ rfl (by decide) (by decide) rfl rfl rfl (fun _ => rfl) (fun _ => rfl)
  · exact m2 1 .join rfl (by decide) (by decide) rfl rfl rfl (fun _ _ => rfl) (fun _ _ => rfl)
  · exact m2 2 .part rfl (by decide) (by decide) rfl rfl rfl (fun _ _ => rfl) (fun _ _ => rfl)
  · exact m1 3 .line rfl (by decide) (by decide) rfl rfl rfl (fun _ => rfl) (fun _ => rfl)
  · exact m1 4 .ring rfl (by decide) (by decide) rfl rfl rfl (fun _ => rfl) (fun _ => rfl)
  · exact m1 5 .light rfl (by decide) (by decide) rfl rfl rfl (fun _ => rfl) (fun _ => rfl)
  · exact m0 6 .out rfl (by decide) (by decide) rfl rfl rfl rfl
  · exact m0 7 .burns rfl (by decide) (by decide) rfl rfl rfl rfl
  · exact m0 8 .left rfl (by decide) (by decide) rfl rfl rfl rfl
  · exact m0 9 .turns rfl (by decide) (by decide) rfl rfl rfl rfl
  · exact m0 10 .best rfl (by decide) (by decide) rfl rfl rfl rfl
  · obtain ⟨n, l, e1, hn, hl, e2⟩ := ar11 h
    subst e1 e2
    have hb' : (decide (0 ≤ l.length) && decide (l.length ≤ 11) && l.all (PyInside.within 0 4294967295)) = true := by
      have hx' : (PyInside.each (PySu120.bound 11).1 [] && PyInside.lists (PySu120.bound 11).2 [l]) = true := hb
      rw [show PySu120.bound 11 = ([], [(0, 4294967295, 0, 11)]) from rfl] at hx'
      simp only [PyInside.each, PyInside.lists, Bool.true_and, Bool.and_true] at hx'
      exact hx'
    rw [Bool.and_eq_true, Bool.and_eq_true, decide_eq_true_eq, decide_eq_true_eq] at hb'
    have e := map_pos hb'.2
    refine ⟨⟨11, n.toNat :: l.map Int.toNat, .row (l.map Int.toNat)⟩, ⟨by show 11 ≤ 21; decide, ?_, rfl, ?_⟩, ?_, ?_⟩
    · show (n.toNat :: l.map Int.toNat).length = 1 + n.toNat
      rw [List.length_cons, List.length_map]; omega
    · show (n.toNat :: l.map Int.toNat).length ≤ 12
      rw [List.length_cons, List.length_map]; omega
    · show 11 :: n :: (l ++ t) = (11 : Int) :: Int.ofNat n.toNat :: ((l.map Int.toNat).map Int.ofNat ++ t)
      rw [← e, show Int.ofNat n.toNat = n from by show ((n.toNat : Nat) : Int) = n; omega]
    · rfl
  · exact m1 12 .can rfl (by decide) (by decide) rfl rfl rfl (fun _ => rfl) (fun _ => rfl)
  · exact m2 13 .within rfl (by decide) (by decide) rfl rfl rfl (fun _ _ => rfl) (fun _ _ => rfl)
  · exact m2 14 .with_ rfl (by decide) (by decide) rfl rfl rfl (fun _ _ => rfl) (fun _ _ => rfl)
  · exact m2 15 .without rfl (by decide) (by decide) rfl rfl rfl (fun _ _ => rfl) (fun _ _ => rfl)
  · exact m2 16 .far rfl (by decide) (by decide) rfl rfl rfl (fun _ _ => rfl) (fun _ _ => rfl)
  · exact m1 17 .root rfl (by decide) (by decide) rfl rfl rfl (fun _ => rfl) (fun _ => rfl)
  · exact m0 18 .finish rfl (by decide) (by decide) rfl rfl rfl rfl
  · exact m0 19 .parts rfl (by decide) (by decide) rfl rfl rfl rfl
  · exact m0 20 .tree rfl (by decide) (by decide) rfl rfl rfl rfl
  · exact m0 21 .state rfl (by decide) (by decide) rfl rfl rfl rfl
def ansOf (z : Ans) : List Int := z.value :: z.out.map fun (x : Nat) => (x : Int)
def runs : Option Abs → List Chunk → List Int
  | _, [] => []
  | s, x :: cs => (((ansOf (step s x.c).2).length : Nat) : Int) :: (ansOf (step s x.c).2 ++ runs (step s x.c).1 cs)
def flats (cs : List Chunk) : List Int := cs.flatMap Chunk.flat
theorem nstep {s : Option Abs} {l : List Int} {c : Call} (h : Su120Neutral.callOf l = some c) : Su120Neutral.step s l = ((step s c).1, ansOf (step s c).2) := by
  unfold Su120Neutral.step
  rw [h] <;> rfl
theorem decode : ∀ (f : Nat) (l : List Int) (raw : List (List (List Int))), PyFlat.calls PySu120.shape f l = some raw → PyInside.calls PySu120.bound raw = true → (∀ c ∈ raw, Su120Neutral.asked1 ((PySu120.whole c).headD []) = true) →
    ∃ cs : List Chunk, (∀ x ∈ cs, x.Ok) ∧ l = flats cs ∧ cs.length = raw.length ∧ ∀ s, PyFlat.told (PyFlat.played (fun s c => Su120Neutral.step s (c.headD [])) s (raw.map PySu120.whole)) = runs s cs
  | f, [], raw, h, _, _ => by
    have e : raw = [] := by
      cases f <;> (simp only [PyFlat.calls] at h; exact (Option.some.inj h).symm)
    subst e
    exact ⟨[], fun x hx => (by cases hx), rfl, rfl, fun s => rfl⟩
  | 0, p :: r, raw, h, _, _ => by simp only [PyFlat.calls] at h; cases h
  | f + 1, p :: r, raw, h, hb, ha => by
    simp only [PyFlat.calls] at h
    cases hc : PyFlat.call PySu120.shape (p :: r) with
    | none => rw [hc] at h; cases h
    | some ct =>
      obtain ⟨c, t⟩ := ct
      rw [hc] at h
      simp only at h
      cases hcs : PyFlat.calls PySu120.shape f t with
      | none => rw [hcs] at h; cases h
      | some cs0 =>
        rw [hcs] at h
        have e : raw = c :: cs0 := (Option.some.inj h).symm
        subst e
        have hb' : (PyInside.call PySu120.bound c && PyInside.calls PySu120.bound cs0) = true := hb
        rw [Bool.and_eq_true] at hb'
        obtain ⟨x, hx, e1, e2⟩ := call_dec hc hb'.1 (ha c (List.mem_cons_self ..))
        obtain ⟨cs, h1, h2, h3, h4⟩ := decode f t cs0 hcs hb'.2 fun c' hc' => ha c' (List.mem_cons_of_mem _ hc')
        refine ⟨x :: cs, fun y hy => ?_, ?_, by rw [List.length_cons, List.length_cons, h3], fun s => ?_⟩
        · rcases List.mem_cons.mp hy with rfl | hy
          · exact hx
          · exact h1 y hy
        · rw [e1, h2] <;> rfl
        · show (((Su120Neutral.step s ((PySu120.whole c).headD [])).2.length : Nat) : Int) :: ((Su120Neutral.step s ((PySu120.whole c).headD [])).2 ++ PyFlat.told (PyFlat.played _ (Su120Neutral.step s ((PySu120.whole c).headD [])).1 (cs0.map PySu120.whole))) = _
          rw [nstep e2, h4] <;> rfl
theorem answers_runs {l : List Int} (h : PySu120.answers_asked l = true) : ∃ cs : List Chunk, (∀ x ∈ cs, x.Ok) ∧ l = flats cs ∧ cs.length ≤ 400 ∧ PySu120.answers l = runs none cs ∧ (PySu120.answers l).length ≤ 10000000 := by
  unfold PySu120.answers_asked at h
  cases hc : PyFlat.calls PySu120.shape l.length l with
  | none => rw [hc] at h; cases h
  | some raw =>
    rw [hc] at h
    simp only [Bool.and_eq_true] at h
    obtain ⟨⟨⟨⟨h1, h2⟩, h3⟩, h4⟩, h5⟩ := h
    have h4' := (Bool.and_eq_true_iff.mp h4).2
    obtain ⟨cs, g1, g2, g3, g4⟩ := decode _ _ raw hc h3 fun c hc' => by
      rw [List.all_eq_true] at h4'
      exact h4' _ (List.mem_map.mpr ⟨_, List.mem_map.mpr ⟨c, hc', rfl⟩, rfl⟩)
    refine ⟨cs, g1, g2, by rw [g3]; exact of_decide_eq_true h2, ?_, of_decide_eq_true h5⟩
    unfold PySu120.answers PySu120.calls
    rw [hc]
    exact g4 none
end LF

end

section
set_option linter.all false
namespace LF
open Su120
/-! ### spreading k times -/
def spreadK (near : List Nat) : Nat → Nat → Nat
  | 0, b => b
  | k + 1, b => spreadM near (spreadK near k b)
theorem spreadK_in (near : List Nat) : ∀ (k b : Nat), spreadK near k (spreadM near b) = spreadM near (spreadK near k b)
  | 0, _ => rfl
  | k + 1, b => by
    show spreadM near (spreadK near k (spreadM near b)) = spreadM near (spreadM near (spreadK near k b))
    rw [spreadK_in near k b]
theorem ball_spreadK (near : List Nat) (p : Nat) : ∀ k, ballM near k p = spreadK near k (2 ^ p)
  | 0 => rfl
  | k + 1 => by
    show spreadM near (ballM near k p) = spreadM near (spreadK near k (2 ^ p))
    rw [ball_spreadK near p k]
theorem spreads_ofBits {a : Abs} {near : List Nat} (N : NearOk a near) (b : Nat) : ∀ k, a.spreads k (ofBits a.n b) = ofBits a.n (spreadK near k b)
  | 0 => rfl
  | k + 1 => by rw [spreads_succ, spreads_ofBits N b k, spread_ofBits N] <;> rfl
theorem spreadK_lt {a : Abs} {near : List Nat} (N : NearOk a near) {b : Nat} (hb : b < 2 ^ a.n) : ∀ k, spreadK near k b < 2 ^ a.n
  | 0 => hb
  | _ + 1 => spread_lt N _
/-! ### it comes to rest -/
theorem spread_sub {a : Abs} {near : List Nat} (N : NearOk a near) {b : Nat} : ∀ q ∈ ofBits a.n b, q ∈ ofBits a.n (spreadM near b) := fun q hq => by
  obtain ⟨h1, h2⟩ := mem_ofBits.mp hq
  exact mem_ofBits.mpr ⟨h1, spread_self N h1 h2⟩
theorem ofBits_nodup (n b : Nat) : (ofBits n b).Nodup := nodup_range_filter n _
theorem sub_eq {n b c : Nat} (hs : ∀ q ∈ ofBits n b, q ∈ ofBits n c) (hl : (ofBits n c).length ≤ (ofBits n b).length) (hb : b < 2 ^ n) (hc : c < 2 ^ n) : b = c := by
  refine ofBits_inj hb hc ?_
  unfold ofBits at hs hl ⊢
  have key : ∀ (L : List Nat) (f g : Nat → Bool), (∀ q ∈ L.filter f, q ∈ L.filter g) → L.Nodup → (L.filter g).length ≤ (L.filter f).length → L.filter f = L.filter g := by
    intro L f g
    induction L with
    | nil => intros; rfl
    | cons x L ih =>
      intro hs hn hl
      obtain ⟨h1, h2⟩ := List.nodup_cons.mp hn
      have sub : ∀ q ∈ L.filter f, q ∈ L.filter g := fun q hq => by
        have hqL := (List.mem_filter.mp hq).1
        have := hs q (List.mem_filter.mpr ⟨List.mem_cons_of_mem _ hqL, (List.mem_filter.mp hq).2⟩)
        obtain ⟨m1, m2⟩ := List.mem_filter.mp this
        exact List.mem_filter.mpr ⟨hqL, m2⟩
      have le : (L.filter f).length ≤ (L.filter g).length := nodup_sub_len (h2.filter _) sub
      rw [List.filter_cons, List.filter_cons] at hl ⊢
      by_cases hf : f x = true
      · have hg : g x = true := by
          have := hs x (List.mem_filter.mpr ⟨List.mem_cons_self .., hf⟩)
          exact (List.mem_filter.mp this).2
        rw [if_pos hf, if_pos hg] at hl ⊢
        rw [ih sub h2 (by simpa using hl)]
      · rw [if_neg hf] at hl ⊢
        by_cases hg : g x = true
        · rw [if_pos hg, List.length_cons] at hl
          omega
        · rw [if_neg hg] at hl ⊢
          exact ih sub h2 hl
  exact key _ _ _ hs List.nodup_range hl
theorem grows_or_rests {a : Abs} {near : List Nat} (N : NearOk a near) {b : Nat} (hb : b < 2 ^ a.n) : ∀ k, (spreadM near (spreadK near k b) = spreadK near k b) ∨ (ofBits a.n b).length + k ≤ (ofBits a.n (spreadK near k b)).length
  | 0 => .inr (Nat.le_refl _)
  | k + 1 => by
    rcases grows_or_rests N hb k with h | h
    · left
      show spreadM near (spreadM near (spreadK near k b)) = spreadM near (spreadK near k b)
      rw [h]; exact h
    · by_cases e : spreadM near (spreadK near k b) = spreadK near k b
      · left
        show spreadM near (spreadM near (spreadK near k b)) = spreadM near (spreadK near k b)
        rw [e]; exact e
      · right
        have hlt := spreadK_lt N hb k
        have hne : ¬ (ofBits a.n (spreadM near (spreadK near k b))).length ≤ (ofBits a.n (spreadK near k b)).length := fun z => e (sub_eq (spread_sub N) z hlt (spread_lt N _)).symm
        show (ofBits a.n b).length + (k + 1) ≤ (ofBits a.n (spreadM near (spreadK near k b))).length
        omega
theorem len_ofBits_le (n b : Nat) : (ofBits n b).length ≤ n := by
  have := List.length_filter_le (fun p => b.testBit p) (List.range n)
  rwa [List.length_range] at this
theorem rests {a : Abs} {near : List Nat} (N : NearOk a near) {b : Nat} (hb : b < 2 ^ a.n) {k : Nat} (hk : a.n ≤ k + (ofBits a.n b).length) : spreadM near (spreadK near k b) = spreadK near k b := by
  rcases grows_or_rests N hb k with h | h
  · exact h
  · have h1 := len_ofBits_le a.n (spreadK near k b)
    have h2 := len_ofBits_le a.n (spreadM near (spreadK near k b))
    exact (sub_eq (spread_sub N) (by omega) (spreadK_lt N hb k) (spread_lt N _)).symm
theorem rest_all {a : Abs} {near : List Nat} (N : NearOk a near) {b : Nat} (hb : b < 2 ^ a.n) {k : Nat} (hk : a.n ≤ k + (ofBits a.n b).length) : ∀ j, spreadK near (k + j) b = spreadK near k b
  | 0 => rfl
  | j + 1 => by
    show spreadM near (spreadK near (k + j) b) = _
    rw [rest_all N hb hk j, rests N hb hk]
theorem ball_rests {a : Abs} {near : List Nat} (N : NearOk a near) {p : Nat} (hp : p < a.n) {k : Nat} (hk : a.n ≤ k + 1) : ballM near k p = ballM near (a.n - 1) p := by
  rw [ball_spreadK, ball_spreadK]
  have h1 : (ofBits a.n (2 ^ p)).length = 1 := by rw [ofBits_one hp] <;> rfl
  have := rest_all N (one_lt hp) (k := a.n - 1) (by rw [h1]; omega) (k - (a.n - 1))
  rw [show a.n - 1 + (k - (a.n - 1)) = k by omega] at this
  exact this
/-- within k, however great k is -/
theorem within_min {a : Abs} {near : List Nat} (N : NearOk a near) {p : Nat} (hp : p < a.n) (k : Nat) : a.within (min k a.n) p = ofBits a.n (ballM near k p) := by
  rw [within_eq N hp]
  by_cases h : k ≤ a.n
  · rw [Nat.min_eq_left h]
  · rw [Nat.min_eq_right (by omega), ball_rests N hp (k := k) (by omega), ball_rests N hp (k := a.n) (by omega)]
/-! ### rows of k, also of more than there are places -/
theorem find_first {α : Type} {f g : α → Bool} : ∀ {L : List α} {r : α}, (∀ x ∈ L, f x = true → g x = true) → L.find? g = some r → f r = true → L.find? f = some r
  | [], _, _, h, _ => by cases h
  | x :: L, r, hs, h, hr => by
    rw [List.find?_cons] at h ⊢
    cases hg : g x with
    | true =>
      rw [hg] at h
      have e : x = r := Option.some.inj h
      subst e
      rw [hr]
    | false =>
      rw [hg] at h
      have hf : f x = false := by
        cases q : f x with
        | false => rfl
        | true => rw [hs x (List.mem_cons_self ..) q] at hg; cases hg
      rw [hf]
      exact find_first (fun y hy => hs y (List.mem_cons_of_mem _ hy)) h hr
/-- the row told of k, by what it burns -/
def rowB (near : List Nat) (n k : Nat) : Option (List Nat) := (allRows n k).find? fun r => decide (covM near r = 2 ^ n - 1)
theorem findSome_zero {β : Type} {n : Nat} (hn : 1 ≤ n) {f : Nat → Option β} {b : β} (h : f 0 = some b) : (List.range n).findSome? f = some b := by
  obtain ⟨m, rfl⟩ : ∃ m, n = m + 1 := ⟨n - 1, by omega⟩
  rw [List.range_succ_eq_map, List.findSome?_cons, h]
theorem or_all {n m b : Nat} (hm : m < 2 ^ n) (h : m = 2 ^ n - 1) (hb : b < 2 ^ n) : m ||| b = 2 ^ n - 1 := by
  refine (all_of (or_lt hm hb)).mp ?_
  rw [List.filter_eq_nil_iff]
  intro q hq
  have := List.mem_range.mp hq
  rw [Nat.testBit_or, h, all_bits]
  simp [this]
/-- behind n + 1 the row told begins with place 0 again and again -/
theorem rowB_succ {a : Abs} {near : List Nat} (N : NearOk a near) (hn : 1 ≤ a.n) {k : Nat} (hk : a.n + 1 ≤ k) {r : List Nat} (h : rowB near a.n k = some r) : rowB near a.n (k + 1) = some (0 :: r) := by
  unfold rowB at h ⊢
  have hr := List.mem_of_find?_eq_some h
  obtain ⟨hr1, hr2⟩ := mem_allRows.mp hr
  have hcov : covM near r = 2 ^ a.n - 1 := of_decide_eq_true (List.find?_some (p := fun r => decide (covM near r = 2 ^ a.n - 1)) h)
  rw [find_allRows]
  refine findSome_zero hn ?_
  have h0 : 0 < a.n := hn
  -- the first row of k that burns all but what place 0 comes to
  have hex : ((allRows a.n k).find? fun r' => decide (covM near (0 :: r') = 2 ^ a.n - 1)).isSome = true := by
    rw [List.find?_isSome]
    refine ⟨r, hr, decide_eq_true ?_⟩
    rw [covM]
    exact or_all (covM_lt N r hr2) hcov (ball_lt N h0 _)
  obtain ⟨r', hr'⟩ := Option.isSome_iff_exists.mp hex
  have hm' := List.mem_of_find?_eq_some hr'
  obtain ⟨m1, m2⟩ := mem_allRows.mp hm'
  have hc' : covM near (0 :: r') = 2 ^ a.n - 1 := of_decide_eq_true (List.find?_some (p := fun r' => decide (covM near (0 :: r') = 2 ^ a.n - 1)) hr')
  -- it begins with place 0
  have hk1 : ∃ k', k = k' + 1 := ⟨k - 1, by omega⟩
  obtain ⟨k', rfl⟩ := hk1
  have hhead : ∃ t, r' = 0 :: t := by
    rw [find_allRows] at hr'
    have hz : ((allRows a.n k').find? fun t => decide (covM near (0 :: 0 :: t) = 2 ^ a.n - 1)).isSome = true := by
      rw [List.find?_isSome]
      refine ⟨List.replicate (k' - a.n) 0 ++ List.range a.n, mem_allRows.mpr ⟨by rw [List.length_append, List.length_replicate, List.length_range]; omega, fun p hp => ?_⟩, decide_eq_true ?_⟩
      · rcases List.mem_append.mp hp with z | z
        · rw [(List.mem_replicate.mp z).2]; exact h0
        · exact List.mem_range.mp z
      · have hall : ∀ p ∈ (0 :: 0 :: (List.replicate (k' - a.n) 0 ++ List.range a.n)), p < a.n := by
          intro p hp
          rcases List.mem_cons.mp hp with rfl | hp
          · exact h0
          · rcases List.mem_cons.mp hp with rfl | hp
            · exact h0
            · rcases List.mem_append.mp hp with z | z
              · rw [(List.mem_replicate.mp z).2]; exact h0
              · exact List.mem_range.mp z
        refine (all_of (covM_lt N _ hall)).mp ?_
        rw [List.filter_eq_nil_iff]
        intro q hq
        rw [cov_bits N _ hall q (by simp [List.mem_range.mp hq])]
        simp
    obtain ⟨t, ht⟩ := Option.isSome_iff_exists.mp hz
    have := findSome_zero (n := a.n) hn (f := fun p => ((allRows a.n k').find? fun t => decide (covM near (0 :: p :: t) = 2 ^ a.n - 1)).map fun t => p :: t) (b := 0 :: t) (by
      show (((allRows a.n k').find? fun t => decide (covM near (0 :: 0 :: t) = 2 ^ a.n - 1)).map fun t => 0 :: t) = _
      rw [ht] <;> rfl)
    rw [this] at hr'
    exact ⟨t, (Option.some.inj hr').symm⟩
  obtain ⟨t, rfl⟩ := hhead
  -- so place 0's own part burns by it anyway
  have hb : ballM near (0 :: t).length 0 = ballM near t.length 0 := by
    have e : t.length = k' := by simpa using m1
    rw [List.length_cons, ball_rests N h0 (k := t.length + 1) (by omega), ball_rests N h0 (k := t.length) (by omega)]
  have hfull : covM near (0 :: t) = 2 ^ a.n - 1 := by
    have : covM near (0 :: 0 :: t) = covM near (0 :: t) := by
      show covM near (0 :: t) ||| ballM near (0 :: t).length 0 = covM near (0 :: t)
      rw [hb]
      show (covM near t ||| ballM near t.length 0) ||| ballM near t.length 0 = _
      rw [Nat.or_assoc, Nat.or_self] <;> rfl
    rw [← this]; exact hc'
  have hsame := find_first (L := allRows a.n (k' + 1)) (f := fun r => decide (covM near r = 2 ^ a.n - 1)) (g := fun r' => decide (covM near (0 :: r') = 2 ^ a.n - 1)) (r := 0 :: t) (fun x hxm hx => ?_) hr' (decide_eq_true hfull)
  · rw [hsame] at h
    rw [hr', Option.some.inj h] <;> rfl
  · have hx2 := (mem_allRows.mp hxm).2
    refine decide_eq_true ?_
    rw [covM]
    exact or_all (covM_lt N x hx2) (of_decide_eq_true hx) (ball_lt N h0 _)
theorem row_succ {a : Abs} (hn : 1 ≤ a.n) {k : Nat} (hk : a.n + 1 ≤ k) {r : List Nat} (h : a.row k = some r) : a.row (k + 1) = some (0 :: r) := by
  unfold Abs.row at h ⊢
  have hnd : a.ps.Nodup := by unfold Abs.ps; exact List.nodup_range
  rw [rowFrom_find _ _ _ _ hnd] at h ⊢
  rw [find_allRows]
  refine findSome_zero hn ?_
  have e0 : (a.table).getD k [] = [] := by
    unfold Abs.table
    rw [List.getD_eq_getElem?_getD, List.getElem?_eq_none (by rw [List.length_map, List.length_range]; omega)] <;> rfl
  have e : ((allRows a.n k).find? fun r' => decide (leftOf a.table a.ps (0 :: r') = [])) = (allRows a.n k).find? fun r' => decide (leftOf a.table a.ps r' = []) := by
    refine find_congr fun r' hr' => ?_
    have hl := (mem_allRows.mp hr').1
    rw [leftOf, hl, e0]
    congr 3
    rw [List.filter_eq_self]
    intro q _
    rfl
  rw [e, h] <;> rfl
theorem rowB_n1 {a : Abs} {near : List Nat} (N : NearOk a near) (hn : 1 ≤ a.n) : (rowB near a.n (a.n + 1)).isSome = true := by
  unfold rowB
  rw [List.find?_isSome]
  have h : ∀ p ∈ (0 :: List.range a.n), p < a.n := fun p hp => by
    rcases List.mem_cons.mp hp with rfl | hp
    · omega
    · exact List.mem_range.mp hp
  refine ⟨0 :: List.range a.n, mem_allRows.mpr ⟨by simp, h⟩, decide_eq_true ?_⟩
  rw [covM, cov_range N]
  exact or_all (by have := Nat.two_pow_pos a.n; omega) rfl (ball_lt N (by omega) _)
/-- the row told of k, for every k -/
theorem row_any {a : Abs} {near : List Nat} (N : NearOk a near) (hn : 1 ≤ a.n) (k : Nat) : a.row k = rowB near a.n k := by
  by_cases hk : k ≤ a.n + 1
  · exact row_eq N hk
  · have key : ∀ j, ∃ r, a.row (a.n + 1 + j) = some r ∧ rowB near a.n (a.n + 1 + j) = some r := by
      intro j
      induction j with
      | zero =>
        obtain ⟨r, hr⟩ := Option.isSome_iff_exists.mp (rowB_n1 N hn)
        exact ⟨r, by rw [Nat.add_zero, row_eq N (Nat.le_refl _)]; exact hr, hr⟩
      | succ j ih =>
        obtain ⟨r, h1, h2⟩ := ih
        exact ⟨0 :: r, row_succ hn (Nat.le_add_right _ _) h1, rowB_succ N hn (Nat.le_add_right _ _) h2⟩
    obtain ⟨r, h1, h2⟩ := key (k - (a.n + 1))
    rw [show a.n + 1 + (k - (a.n + 1)) = k by omega] at h1 h2
    rw [h1, h2]
/-- the dict of rows of k holds it -/
theorem has_any_row {a : Abs} {near : List Nat} (N : NearOk a near) (hn : 1 ≤ a.n) {k : Nat} {rows : List Ent} (R : RowsAt near a.n k rows) : hasKey rows (2 ^ a.n - 1) = a.row k := by
  unfold hasKey
  rw [R.find fun m => m == 2 ^ a.n - 1, row_any N hn k]
  refine find_congr fun r _ => ?_
  rw [Bool.eq_iff_iff]; simp
/-! ### from what burns now -/
theorem rest_row {a : Abs} {near : List Nat} (N : NearOk a near) {k b : Nat} (hk : k ≤ a.n + 1) (hb : b < 2 ^ a.n) :
    rowFrom a.table a.n k (a.ps.filter fun q => !((a.spreads k (ofBits a.n b)).contains q)) = (allRows a.n k).find? fun r => decide (covM near r ||| spreadK near k b = 2 ^ a.n - 1) := by
  have hnd : (a.ps.filter fun q => !((a.spreads k (ofBits a.n b)).contains q)).Nodup := by unfold Abs.ps; exact nodup_range_filter _ _
  rw [rowFrom_find _ _ _ _ hnd]
  refine find_congr fun r hr => ?_
  obtain ⟨h1, h2⟩ := mem_allRows.mp hr
  rw [left_eq N r (a.ps.filter fun q => !((a.spreads k (ofBits a.n b)).contains q)) h2 (by omega) fun q hq => List.mem_range.mp (List.mem_filter.mp hq).1, List.filter_filter]
  have e : (a.ps.filter fun q => (!(covM near r).testBit q && !((a.spreads k (ofBits a.n b)).contains q))) = (List.range a.n).filter fun q => !(covM near r ||| spreadK near k b).testBit q := by
    unfold Abs.ps
    refine List.filter_congr fun q hq => ?_
    rw [spreads_ofBits N, contains_ofBits (List.mem_range.mp hq), Nat.testBit_or]
    cases (covM near r).testBit q <;> cases (spreadK near k b).testBit q <;> rfl
  rw [e]
  exact decide_eq_decide.mpr (all_of (or_lt (covM_lt N r h2) (spreadK_lt N hb k)))
/-- in how few turns more: the least k by which some row of k and what spreads burn all -/
theorem rest_eq {a : Abs} {near : List Nat} (N : NearOk a near) {b k : Nat} (hb : a.burn a.lit = ofBits a.n b) (hlt : b < 2 ^ a.n) (hk : k ≤ a.n) (hyes : ∃ r ∈ allRows a.n k, covM near r ||| spreadK near k b = 2 ^ a.n - 1)
    (hno : ∀ j, j < k → ∀ r ∈ allRows a.n j, covM near r ||| spreadK near j b ≠ 2 ^ a.n - 1) : a.rest = k := by
  have hf : ((List.range (a.n + 1)).find? fun k => (rowFrom a.table a.n k (a.ps.filter fun q => !((a.spreads k (a.burn a.lit)).contains q))).isSome) = some k := by
    rw [List.find?_range_eq_some]
    refine ⟨?_, List.mem_range.mpr (by omega), fun j hj => ?_⟩
    · rw [hb, rest_row N (by omega) hlt, List.find?_isSome]
      obtain ⟨r, hr, e⟩ := hyes
      exact ⟨r, hr, decide_eq_true e⟩
    · rw [hb, rest_row N (by omega) hlt]
      have : ((allRows a.n j).find? fun r => decide (covM near r ||| spreadK near j b = 2 ^ a.n - 1)) = none := by
        rw [List.find?_eq_none]
        intro r hr z
        exact hno j hj r hr (of_decide_eq_true z)
      rw [this] <;> rfl
  show (((List.range (a.n + 1)).find? fun k => (rowFrom a.table a.n k (a.ps.filter fun q => !((a.spreads k (a.burn a.lit)).contains q))).isSome)).getD a.n = k
  rw [hf] <;> rfl
/-! ### the root -/
theorem root_eq {n k : Nat} (h : n ≤ k * k) (hno : ∀ j, j < k → j * j < n) : Su120.root n = k := by
  have hk : k ≤ n := by
    rcases Nat.lt_or_ge n k with z | z
    · have h1 := hno n z
      have : n ≤ n * n := by
        cases n with
        | zero => omega
        | succ m => exact Nat.le_mul_of_pos_right _ (by omega)
      omega
    · exact z
  unfold Su120.root
  have hf : ((List.range (n + 1)).find? fun k => decide (n ≤ k * k)) = some k := by
    rw [List.find?_range_eq_some]
    refine ⟨decide_eq_true h, List.mem_range.mpr (by omega), fun j hj => ?_⟩
    have := hno j hj
    simp; omega
  rw [hf] <;> rfl
/-! ### how far -/
theorem far_some {a : Abs} {near : List Nat} (N : NearOk a near) {p q k : Nat} (hp : p < a.n) (hq : q < a.n) (hk : k ≤ a.n) (h : (ballM near k p).testBit q = true) (hno : ∀ j, j < k → (ballM near j p).testBit q = false) : a.far p q = some k := by
  unfold Abs.far
  rw [List.find?_range_eq_some]
  refine ⟨?_, List.mem_range.mpr (by omega), fun j hj => ?_⟩
  · rw [within_eq N hp, contains_ofBits hq]; exact h
  · rw [within_eq N hp, contains_ofBits hq, hno j hj] <;> rfl
theorem far_none {a : Abs} {near : List Nat} (N : NearOk a near) {p q : Nat} (hp : p < a.n) (hq : q < a.n) (hno : ∀ j, j ≤ a.n → (ballM near j p).testBit q = false) : a.far p q = none := by
  unfold Abs.far
  rw [List.find?_eq_none]
  intro j hj
  have := List.mem_range.mp hj
  rw [within_eq N hp, contains_ofBits hq, hno j (by omega)]
  simp
end LF

end

section
set_option linter.all false
namespace LF
open Su120
/-! ### who comes to whom -/
def Adj (a : Abs) (p q : Nat) : Prop := p = q ∨ a.joined p q = true
theorem Adj.symm {a : Abs} {p q : Nat} (h : Adj a p q) : Adj a q p := by
  by_cases e : p = q
  · exact .inl e.symm
  · rcases h with z | z
    · exact absurd z e
    · exact .inr (by rw [joined_comm a (Ne.symm e)]; exact z)
theorem spread_iff {a : Abs} {near : List Nat} (N : NearOk a near) {b q : Nat} : (spreadM near b).testBit q = true ↔ q < a.n ∧ ∃ p, p < a.n ∧ b.testBit p = true ∧ Adj a p q := by
  rw [spread_bit N]
  simp only [Bool.and_eq_true, decide_eq_true_eq, List.any_eq_true, Bool.or_eq_true]
  constructor
  · rintro ⟨h1, p, hp, h⟩
    obtain ⟨g1, g2⟩ := mem_ofBits.mp hp
    exact ⟨h1, p, g1, g2, h⟩
  · rintro ⟨h1, p, g1, g2, h⟩
    exact ⟨h1, p, mem_ofBits.mpr ⟨g1, g2⟩, h⟩
/-- q within k of p -/
def Reach (a : Abs) : Nat → Nat → Nat → Prop
  | 0, p, q => p = q
  | k + 1, p, q => ∃ r, r < a.n ∧ Reach a k p r ∧ Adj a r q
theorem ball_iff {a : Abs} {near : List Nat} (N : NearOk a near) {p : Nat} (hp : p < a.n) : ∀ {k q : Nat}, q < a.n → ((ballM near k p).testBit q = true ↔ Reach a k p q)
  | 0, q, hq => by
    rw [ballM, two_pow_bit, decide_eq_true_eq] <;> exact Iff.rfl
  | k + 1, q, hq => by
    rw [ballM, spread_iff N]
    constructor
    · rintro ⟨_, r, hr, h1, h2⟩
      exact ⟨r, hr, (ball_iff N hp hr).mp h1, h2⟩
    · rintro ⟨r, hr, h1, h2⟩
      exact ⟨hq, r, hr, (ball_iff N hp hr).mpr h1, h2⟩
theorem Reach.front {a : Abs} {p : Nat} (hp : p < a.n) : ∀ {k r q : Nat}, r < a.n → Adj a p r → Reach a k r q → Reach a (k + 1) p q
  | 0, r, q, hr, h, e => ⟨p, hp, rfl, by rw [← e]; exact h⟩
  | k + 1, r, q, hr, h, ⟨t, ht, h1, h2⟩ => ⟨t, ht, Reach.front hp hr h h1, h2⟩
theorem Reach.symm {a : Abs} : ∀ {k p q : Nat}, p < a.n → q < a.n → Reach a k p q → Reach a k q p
  | 0, _, _, _, _, e => Eq.symm e
  | k + 1, p, q, hp, hq, ⟨r, hr, h1, h2⟩ => Reach.front hq hr h2.symm (Reach.symm hp hr h1)
theorem Reach.trans {a : Abs} {p q : Nat} {j : Nat} (h1 : Reach a j p q) : ∀ {k t : Nat}, Reach a k q t → Reach a (j + k) p t
  | 0, t, e => by rw [← e]; exact h1
  | k + 1, t, ⟨r, hr, h2, h3⟩ => ⟨r, hr, Reach.trans h1 h2, h3⟩
theorem part_bits {a : Abs} {near : List Nat} (N : NearOk a near) {p : Nat} (hp : p < a.n) : a.part p = ofBits a.n (ballM near a.n p) := within_eq N hp a.n
/-- all of p's part -/
abbrev compM (near : List Nat) (n p : Nat) : Nat := ballM near n p
theorem comp_any {a : Abs} {near : List Nat} (N : NearOk a near) {p q k : Nat} (hp : p < a.n) (hq : q < a.n) (h : Reach a k p q) : (compM near a.n p).testBit q = true := by
  by_cases hk : a.n ≤ k + 1
  · have h1 := (ball_iff N hp hq).mpr h
    rw [ball_rests N hp hk] at h1
    show (ballM near a.n p).testBit q = true
    rw [ball_rests N hp (k := a.n) (by omega)]
    exact h1
  · have : ∀ j, (ballM near (k + j) p).testBit q = true := by
      intro j
      induction j with
      | zero => exact (ball_iff N hp hq).mpr h
      | succ j ih => exact spread_self N hq ih
    have h2 := this (a.n - k)
    rw [show k + (a.n - k) = a.n by omega] at h2
    exact h2
theorem comp_symm {a : Abs} {near : List Nat} (N : NearOk a near) {p q : Nat} (hp : p < a.n) (hq : q < a.n) (h : (compM near a.n p).testBit q = true) : (compM near a.n q).testBit p = true :=
  comp_any N hq hp (((ball_iff N hp hq).mp h).symm hp hq)
theorem comp_trans {a : Abs} {near : List Nat} (N : NearOk a near) {p q t : Nat} (hp : p < a.n) (hq : q < a.n) (ht : t < a.n) (h1 : (compM near a.n p).testBit q = true) (h2 : (compM near a.n q).testBit t = true) : (compM near a.n p).testBit t = true :=
  comp_any N hp ht (((ball_iff N hp hq).mp h1).trans ((ball_iff N hq ht).mp h2))
/-- the least of a part -/
theorem head_ofBits {n m p : Nat} (hp : p < n) (hm : m.testBit p = true) : ((ofBits n m).headD p == p) = true ↔ ∀ q, q < p → m.testBit q = false := by
  have hmem : p ∈ ofBits n m := mem_ofBits.mpr ⟨hp, hm⟩
  have hs : (ofBits n m).Pairwise (· < ·) := by
    unfold ofBits
    exact List.Pairwise.filter _ List.pairwise_lt_range
  cases e : ofBits n m with
  | nil => rw [e] at hmem; cases hmem
  | cons x l =>
    rw [e] at hs hmem
    have hx := mem_ofBits.mp (show x ∈ ofBits n m by rw [e]; exact List.mem_cons_self ..)
    obtain ⟨hs1, _⟩ := List.pairwise_cons.mp hs
    show (x == p) = true ↔ _
    rw [beq_iff_eq]
    constructor
    · rintro rfl q hq
      cases hb : m.testBit q with
      | false => rfl
      | true =>
        have hq2 : q ∈ ofBits n m := mem_ofBits.mpr ⟨by omega, hb⟩
        rw [e] at hq2
        rcases List.mem_cons.mp hq2 with z | z
        · omega
        · have := hs1 q z
          omega
    · intro h
      rcases List.mem_cons.mp hmem with z | z
      · exact z.symm
      · have h1 := hs1 p z
        rw [h x h1] at hx
        exact absurd hx.2 (by simp)
/-- the places that are the least of their parts -/
def leasts (near : List Nat) (n : Nat) : List Nat := (List.range n).filter fun p => decide (∀ q, q < p → (compM near n p).testBit q = false)
theorem parts_filter {a : Abs} {near : List Nat} (N : NearOk a near) : (a.ps.filter fun p => (a.part p).headD p == p) = leasts near a.n := by
  unfold leasts Abs.ps
  refine List.filter_congr fun p hp => ?_
  have hp' := List.mem_range.mp hp
  rw [part_bits N hp', Bool.eq_iff_iff, head_ofBits hp' (ball_self N hp' _), decide_eq_true_eq]
theorem parts_eq {a : Abs} {near : List Nat} (N : NearOk a near) : a.parts = (leasts near a.n).length := by
  unfold Abs.parts
  rw [parts_filter N]
theorem part_sizes {a : Abs} {near : List Nat} (N : NearOk a near) : ((a.ps.filter fun p => (a.part p).headD p == p).map fun p => (a.part p).length) = (leasts near a.n).map fun p => (ofBits a.n (compM near a.n p)).length := by
  rw [parts_filter N]
  refine List.map_congr_left fun p hp => ?_
  have hp' := List.mem_range.mp (List.mem_filter.mp hp).1
  rw [part_bits N hp']
/-- walking through the places, a new part begins just at those that no part seen so far holds -/
def seenBy (near : List Nat) (n i : Nat) : Nat := ((leasts near n).filter fun p => decide (p < i)).foldl (fun m p => m ||| compM near n p) 0
theorem foldl_or_bit (f : Nat → Nat) (q : Nat) : ∀ (l : List Nat) (m : Nat), (l.foldl (fun m p => m ||| f p) m).testBit q = (m.testBit q || l.any fun p => (f p).testBit q)
  | [], m => by simp
  | x :: l, m => by rw [List.foldl_cons, foldl_or_bit f q l, Nat.testBit_or, List.any_cons, Bool.or_assoc]
theorem has_least {a : Abs} {near : List Nat} (N : NearOk a near) {p : Nat} (hp : p < a.n) : ∃ r ∈ leasts near a.n, r ≤ p ∧ (compM near a.n r).testBit p = true := by
  have key : ∀ m, ∀ p, p < a.n → p ≤ m → ∃ r ∈ leasts near a.n, r ≤ p ∧ (compM near a.n r).testBit p = true := by
    intro m
    induction m with
    | zero =>
      intro p hp hm
      have : p = 0 := by omega
      subst this
      exact ⟨0, List.mem_filter.mpr ⟨List.mem_range.mpr hp, decide_eq_true fun q hq => absurd hq (Nat.not_lt_zero _)⟩, Nat.le_refl _, ball_self N hp _⟩
    | succ m ih =>
      intro p hp hm
      by_cases h : ∀ q, q < p → (compM near a.n p).testBit q = false
      · exact ⟨p, List.mem_filter.mpr ⟨List.mem_range.mpr hp, decide_eq_true h⟩, Nat.le_refl _, ball_self N hp _⟩
      · have : ∃ q, q < p ∧ (compM near a.n p).testBit q = true := by
          apply Classical.byContradiction
          intro z
          apply h
          intro q hq
          cases e : (compM near a.n p).testBit q with
          | false => rfl
          | true => exact absurd ⟨q, hq, e⟩ z
        obtain ⟨q, hq, hb⟩ := this
        have hqn : q < a.n := by omega
        obtain ⟨r, h1, h2, h3⟩ := ih q hqn (by omega)
        exact ⟨r, h1, by omega, comp_trans N (List.mem_range.mp (List.mem_filter.mp h1).1) hqn hp h3 (comp_symm N hp hqn hb)⟩
  exact key p p hp (Nat.le_refl _)
theorem seen_iff {a : Abs} {near : List Nat} (N : NearOk a near) {i : Nat} (hi : i < a.n) : (seenBy near a.n i).testBit i = false ↔ i ∈ leasts near a.n := by
  unfold seenBy
  rw [foldl_or_bit, Nat.zero_testBit, Bool.false_or]
  constructor
  · intro h
    obtain ⟨r, h1, h2, h3⟩ := has_least N hi
    by_cases e : r = i
    · rw [← e]; exact h1
    · exfalso
      have hany : ((leasts near a.n).filter fun p => decide (p < i)).any (fun p => (compM near a.n p).testBit i) = true := List.any_eq_true.mpr ⟨r, List.mem_filter.mpr ⟨h1, decide_eq_true (by omega)⟩, h3⟩
      rw [h] at hany
      cases hany
  · intro h
    have hl := of_decide_eq_true (List.mem_filter.mp h).2
    cases e : ((leasts near a.n).filter fun p => decide (p < i)).any (fun p => (compM near a.n p).testBit i) with
    | false => rfl
    | true =>
      obtain ⟨r, h1, h2⟩ := List.any_eq_true.mp e
      obtain ⟨g1, g2⟩ := List.mem_filter.mp h1
      have hri := of_decide_eq_true g2
      have hrn := List.mem_range.mp (List.mem_filter.mp g1).1
      have := hl r hri
      rw [comp_symm N hrn hi h2] at this
      cases this
end LF

end

section
set_option linter.all false
namespace LF
open Su120
/-! ### what a row burns, from what burns already -/
def burntF (near : List Nat) (b : Nat) (row : List Nat) : Nat := row.foldl (fun b p => spreadM near b ||| 2 ^ p) b
theorem burntF_snoc (near : List Nat) (b : Nat) (r : List Nat) (p : Nat) : burntF near b (r ++ [p]) = spreadM near (burntF near b r) ||| 2 ^ p := by
  unfold burntF
  rw [List.foldl_append] <;> rfl
theorem spreadM_bit (near : List Nat) (b q : Nat) : (spreadM near b).testBit q = (List.range near.length).any fun p => b.testBit p && (near.getD p 0).testBit q := by
  unfold spreadM
  rw [orAll_bit, Nat.zero_testBit, Bool.false_or]
  unfold ofBits
  rw [List.any_filter]
theorem spread_or (near : List Nat) (x y : Nat) : spreadM near (x ||| y) = spreadM near x ||| spreadM near y := by
  apply Nat.eq_of_testBit_eq
  intro q
  rw [Nat.testBit_or, spreadM_bit, spreadM_bit, spreadM_bit, Bool.eq_iff_iff, Bool.or_eq_true, List.any_eq_true, List.any_eq_true, List.any_eq_true]
  constructor
  · rintro ⟨p, hp, h⟩
    rw [Nat.testBit_or, Bool.and_eq_true, Bool.or_eq_true] at h
    rcases h with ⟨h | h, h2⟩
    · exact .inl ⟨p, hp, by rw [h, h2]; rfl⟩
    · exact .inr ⟨p, hp, by rw [h, h2]; rfl⟩
  · rintro (⟨p, hp, h⟩ | ⟨p, hp, h⟩)
    · refine ⟨p, hp, ?_⟩
      rw [Bool.and_eq_true] at h
      rw [Nat.testBit_or, h.1, h.2]; simp
    · refine ⟨p, hp, ?_⟩
      rw [Bool.and_eq_true] at h
      rw [Nat.testBit_or, h.1, h.2]; simp
theorem spreadK_or (near : List Nat) : ∀ k x y, spreadK near k (x ||| y) = spreadK near k x ||| spreadK near k y
  | 0, _, _ => rfl
  | k + 1, x, y => by
    show spreadM near (spreadK near k (x ||| y)) = spreadM near (spreadK near k x) ||| spreadM near (spreadK near k y)
    rw [spreadK_or near k, spread_or]
theorem spread_zero (near : List Nat) : spreadM near 0 = 0 := by
  unfold spreadM
  rw [ofBits_zero] <;> rfl
theorem spreadK_zero (near : List Nat) : ∀ k, spreadK near k 0 = 0
  | 0 => rfl
  | k + 1 => by
    show spreadM near (spreadK near k 0) = 0
    rw [spreadK_zero near k, spread_zero]
theorem burntF_eq (near : List Nat) : ∀ (r : List Nat) (b : Nat), burntF near b r = covM near r ||| spreadK near r.length b
  | [], b => by
    show b = 0 ||| b
    rw [Nat.zero_or]
  | p :: r, b => by
    show burntF near (spreadM near b ||| 2 ^ p) r = (covM near r ||| ballM near r.length p) ||| spreadM near (spreadK near r.length b)
    rw [burntF_eq near r, spreadK_or, spreadK_in, ball_spreadK, Nat.or_assoc, Nat.or_comm (spreadM near _)]
theorem burntF_zero (near : List Nat) (r : List Nat) : burntF near 0 r = covM near r := by
  rw [burntF_eq, spreadK_zero, Nat.or_zero]
theorem burntM_F (near r : List Nat) : burntM near r = burntF near 0 r := rfl
theorem burntF_lt {a : Abs} {near : List Nat} (N : NearOk a near) {r : List Nat} {b : Nat} (h : ∀ p ∈ r, p < a.n) (hb : b < 2 ^ a.n) : burntF near b r < 2 ^ a.n := burnt_lt N r b h hb
/-! ### rows by their last place -/
theorem allRows_snoc (n : Nat) : ∀ k, allRows n (k + 1) = (allRows n k).flatMap fun r => (List.range n).map fun p => r ++ [p]
  | 0 => by
    show ((List.range n).flatMap fun p => [[p]]) = ((List.range n).map fun p => [] ++ [p]) ++ []
    rw [List.append_nil]
    generalize List.range n = l
    induction l with
    | nil => rfl
    | cons x l ih => rw [List.flatMap_cons, List.map_cons, ih] <;> rfl
  | k + 1 => by
    have ih := allRows_snoc n k
    show ((List.range n).flatMap fun p => (allRows n (k + 1)).map fun r => p :: r) = ((List.range n).flatMap fun p => (allRows n k).map fun r => p :: r).flatMap fun r => (List.range n).map fun p => r ++ [p]
    rw [ih, List.flatMap_assoc]
    refine congrArg (fun f => (List.range n).flatMap f) ?_
    funext p
    rw [List.map_flatMap, List.flatMap_map]
    refine congrArg (fun f => (allRows n k).flatMap f) ?_
    funext r
    rw [List.map_map] <;> rfl
theorem findSome_bind {α β : Type} {F : α → Option β} {s : α → Bool} : ∀ {l : List α}, (∀ x ∈ l, (F x).isSome = s x) → l.findSome? F = (l.find? s).bind F
  | [], _ => rfl
  | x :: l, h => by
    rw [List.findSome?_cons, List.find?_cons]
    have hx := h x (List.mem_cons_self ..)
    cases e : F x with
    | none =>
      rw [e] at hx
      rw [← hx]
      exact findSome_bind fun y hy => h y (List.mem_cons_of_mem _ hy)
    | some b =>
      rw [e] at hx
      rw [← hx]
      exact e.symm
/-! ### the dict of rows, one longer at the end -/
structure RowsF (near : List Nat) (n b k : Nat) (rows : List Ent) : Prop where
  find : ∀ f : Nat → Bool, (rows.find? fun e => f e.1).map (·.2) = (allRows n k).find? fun r => f (burntF near b r)
  mem : ∀ e ∈ rows, e.2 ∈ allRows n k ∧ e.1 = burntF near b e.2
  nd : (rows.map (·.1)).Nodup
theorem rowsF_zero (near : List Nat) (n b : Nat) : RowsF near n b 0 [(b, [])] := by
  refine ⟨fun f => ?_, fun e he => ?_, by simp⟩
  · rw [allRows, List.find?_cons, List.find?_cons]
    show _ = (match f b with | true => some [] | false => _)
    cases f b <;> rfl
  · rw [List.mem_singleton] at he
    subst he
    exact ⟨by simp [allRows], rfl⟩
def pieceF (near : List Nat) (n : Nat) (e : Ent) : List Ent := (List.range n).map fun p => (spreadM near e.1 ||| 2 ^ p, e.2 ++ [p])
def longF (near : List Nat) (n : Nat) (rows : List Ent) : List Ent := (rows.flatMap (pieceF near n)).foldl insAbs []
theorem any_isSome {α : Type} (l : List α) (f : α → Bool) : (l.find? f).isSome = l.any f := by
  rw [Bool.eq_iff_iff, List.find?_isSome, List.any_eq_true]
theorem longF_ok {near : List Nat} {n b k : Nat} {rows : List Ent} (R : RowsF near n b k rows) : RowsF near n b (k + 1) (longF near n rows) := by
  refine ⟨fun f => ?_, fun e he => ?_, foldl_ins_nd _ _ (by simp)⟩
  · unfold longF
    rw [foldl_ins_find, List.nil_append, find_flatMap, allRows_snoc, find_flatMap]
    have e1 : ∀ e : Ent, ((pieceF near n e).find? fun x => f x.1) = ((List.range n).find? fun p => f (spreadM near e.1 ||| 2 ^ p)).map fun p => ((spreadM near e.1 ||| 2 ^ p, e.2 ++ [p]) : Ent) := fun e => by
      unfold pieceF
      rw [List.find?_map] <;> rfl
    have e2 : ∀ r : List Nat, (((List.range n).map fun p => r ++ [p]).find? fun r => f (burntF near b r)) = ((List.range n).find? fun p => f (spreadM near (burntF near b r) ||| 2 ^ p)).map fun p => r ++ [p] := fun r => by
      rw [List.find?_map]
      congr 1
      refine find_congr fun p _ => ?_
      show f (burntF near b (r ++ [p])) = _
      rw [burntF_snoc]
    rw [findSome_bind (F := fun x => (pieceF near n x).find? fun x => f x.1) (s := fun e => (fun m => (List.range n).any fun p => f (spreadM near m ||| 2 ^ p)) e.1) fun e _ => by
      show ((pieceF near n e).find? fun x => f x.1).isSome = _
      rw [e1, Option.isSome_map, any_isSome]]
    rw [findSome_bind (F := fun r => ((List.range n).map fun p => r ++ [p]).find? fun r => f (burntF near b r)) (s := fun r => (fun m => (List.range n).any fun p => f (spreadM near m ||| 2 ^ p)) (burntF near b r)) fun r _ => by
      show (((List.range n).map fun p => r ++ [p]).find? fun r => f (burntF near b r)).isSome = _
      rw [e2, Option.isSome_map, any_isSome]]
    rw [← R.find fun m => (List.range n).any fun p => f (spreadM near m ||| 2 ^ p)]
    cases hf : rows.find? fun e => (fun m => (List.range n).any fun p => f (spreadM near m ||| 2 ^ p)) e.1 with
    | none => rfl
    | some e =>
      obtain ⟨_, h2⟩ := R.mem e (List.mem_of_find?_eq_some hf)
      show ((pieceF near n e).find? fun x => f x.1).map (·.2) = (((List.range n).map fun p => e.2 ++ [p]).find? fun r => f (burntF near b r))
      rw [e1, e2, ← h2, Option.map_map] <;> rfl
  · rcases foldl_ins_mem he with h | h
    · cases h
    · obtain ⟨e', he', h⟩ := List.mem_flatMap.mp h
      obtain ⟨p, hp, rfl⟩ := List.mem_map.mp h
      obtain ⟨h1, h2⟩ := R.mem e' he'
      have h3 := mem_allRows.mp h1
      refine ⟨mem_allRows.mpr ⟨by simp [h3.1], fun q hq => ?_⟩, ?_⟩
      · rcases List.mem_append.mp hq with hq | hq
        · exact h3.2 q hq
        · rw [List.mem_singleton.mp hq]; exact List.mem_range.mp hp
      · show spreadM near e'.1 ||| 2 ^ p = _
        rw [burntF_snoc, h2]
theorem RowsF.lt {a : Abs} {near : List Nat} (N : NearOk a near) {b k : Nat} {rows : List Ent} (hb : b < 2 ^ a.n) (R : RowsF near a.n b k rows) : ∀ e ∈ rows, e.1 < 2 ^ a.n ∧ e.2.length = k := fun e he => by
  obtain ⟨h1, h2⟩ := R.mem e he
  obtain ⟨h3, h4⟩ := mem_allRows.mp h1
  rw [h2]
  exact ⟨burntF_lt N h4 hb, h3⟩
def rowF (near : List Nat) (n b k : Nat) : Option (List Nat) := (allRows n k).find? fun r => burntF near b r == 2 ^ n - 1
theorem RowsF.has {near : List Nat} {n b k : Nat} {rows : List Ent} (R : RowsF near n b k rows) : hasKey rows (2 ^ n - 1) = rowF near n b k := by
  unfold hasKey
  exact R.find fun m => m == 2 ^ n - 1
theorem rowF_row {a : Abs} {near : List Nat} (N : NearOk a near) (hn : 1 ≤ a.n) (k : Nat) : rowF near a.n 0 k = a.row k := by
  rw [row_any N hn k]
  unfold rowF rowB
  refine find_congr fun r _ => ?_
  rw [burntF_zero, Bool.eq_iff_iff]; simp
theorem rowF_n {a : Abs} {near : List Nat} (N : NearOk a near) {b : Nat} (hb : b < 2 ^ a.n) : (rowF near a.n b a.n).isSome = true := by
  unfold rowF
  rw [List.find?_isSome]
  refine ⟨List.range a.n, mem_allRows.mpr ⟨List.length_range, fun p hp => List.mem_range.mp hp⟩, ?_⟩
  rw [burntF_eq, cov_range N, beq_iff_eq]
  exact or_all (Nat.sub_lt (Nat.two_pow_pos _) (by decide)) rfl (spreadK_lt N hb _)
/-- the least k by which some row of k burns all, from b on; and the first such row -/
structure Short (near : List Nat) (n b k : Nat) (r : List Nat) : Prop where
  le : k ≤ n
  is : rowF near n b k = some r
  no : ∀ j, j < k → rowF near n b j = none
theorem Short.len {near : List Nat} {n b k : Nat} {r : List Nat} (S : Short near n b k r) : r.length = k :=
  (mem_allRows.mp (List.mem_of_find?_eq_some S.is)).1
theorem Short.best {a : Abs} {near : List Nat} (N : NearOk a near) (hn : 1 ≤ a.n) {k : Nat} {r : List Nat} (S : Short near a.n 0 k r) : a.best = r ∧ a.turns = k := by
  have h1 := S.is
  rw [rowF_row N hn] at h1
  have h2 : ∀ j, j < k → a.row j = none := fun j hj => by rw [← rowF_row N hn]; exact S.no j hj
  exact ⟨(best_eq N S.le h1 h2).1, turns_eq N S.le h1 h2⟩
theorem Short.rest {a : Abs} {near : List Nat} (N : NearOk a near) {b k : Nat} {r : List Nat} (hb : a.burn a.lit = ofBits a.n b) (hlt : b < 2 ^ a.n) (S : Short near a.n b k r) : a.rest = k := by
  refine rest_eq N hb hlt S.le ⟨r, List.mem_of_find?_eq_some S.is, ?_⟩ fun j hj r' hr' z => ?_
  · have h := List.find?_some S.is
    rw [beq_iff_eq, burntF_eq, S.len] at h
    exact h
  · have h := S.no j hj
    unfold rowF at h
    rw [List.find?_eq_none] at h
    refine h r' hr' ?_
    rw [beq_iff_eq, burntF_eq, (mem_allRows.mp hr').1]
    exact z
/-! ### what spreads, of all that may burn -/
def spStep (s : List Nat) (x : Nat) : List Nat := s ++ s.map fun w => w ||| x
def allSp (near : List Nat) : List Nat := near.foldl spStep [0]
theorem take_snoc' {α : Type} : ∀ {l : List α} {i : Nat} {x : α}, l[i]? = some x → l.take (i + 1) = l.take i ++ [x]
  | [], i, x, h => by simp at h
  | a :: l, 0, x, h => by
    have e : a = x := Option.some.inj h
    subst e
    rfl
  | a :: l, i + 1, x, h => by
    have ih := take_snoc' (l := l) (i := i) (x := x) h
    show a :: l.take (i + 1) = a :: l.take i ++ [x]
    rw [ih]
    rfl
theorem orAll_snoc' (near : List Nat) (p : Nat) : ∀ (l : List Nat) (w : Nat), orAll near (l ++ [p]) w = orAll near l w ||| near.getD p 0
  | [], w => rfl
  | x :: l, w => by
    show orAll near (l ++ [p]) (w ||| near.getD x 0) = orAll near l (w ||| near.getD x 0) ||| near.getD p 0
    exact orAll_snoc' near p l _
theorem ofBits_succ' (i b : Nat) : ofBits (i + 1) b = if b.testBit i = true then ofBits i b ++ [i] else ofBits i b := by
  unfold ofBits
  rw [List.range_succ, List.filter_append]
  by_cases h : b.testBit i = true
  · rw [if_pos h]; simp [h]
  · rw [if_neg h]; simp [h]
theorem allSp_ok (near : List Nat) : ∀ i, i ≤ near.length → ((near.take i).foldl spStep [0]).length = 2 ^ i ∧ ∀ b, b < 2 ^ i → ((near.take i).foldl spStep [0]).getD b 0 = orAll near (ofBits i b) 0
  | 0, _ => by
    refine ⟨by simp, fun b hb => ?_⟩
    have e : b = 0 := by simpa using hb
    subst e
    rw [ofBits_zero] <;> rfl
  | i + 1, h => by
    obtain ⟨h1, h2⟩ := allSp_ok near i (by omega)
    have hx : near[i]? = some (near.getD i 0) := by
      rw [List.getD_eq_getElem?_getD, List.getElem?_eq_getElem (by omega)] <;> rfl
    rw [take_snoc' hx, List.foldl_append]
    show (spStep _ _).length = _ ∧ ∀ b, b < 2 ^ (i + 1) → (spStep _ _).getD b 0 = _
    generalize (near.take i).foldl spStep [0] = s at h1 h2
    unfold spStep
    refine ⟨by rw [List.length_append, List.length_map, h1, Nat.pow_succ]; omega, fun b hb => ?_⟩
    rw [ofBits_succ']
    rcases Nat.lt_or_ge b (2 ^ i) with z | z
    · rw [if_neg (by rw [Nat.testBit_lt_two_pow z]; simp), List.getD_eq_getElem?_getD, List.getElem?_append_left (by omega), ← List.getD_eq_getElem?_getD, h2 b z]
    · have hz : b - 2 ^ i < 2 ^ i := by
        rw [Nat.pow_succ] at hb
        omega
      have eb : b = 2 ^ i + (b - 2 ^ i) := by omega
      have hbit : b.testBit i = true := by rw [eb, Nat.testBit_two_pow_add_eq, Nat.testBit_lt_two_pow hz]; rfl
      have hlow : ofBits i b = ofBits i (b - 2 ^ i) := ofBits_congr fun q hq => by
        conv => lhs; rw [eb]
        rw [Nat.testBit_two_pow_add_gt hq]
      rw [if_pos hbit, orAll_snoc', hlow, ← h2 _ hz, List.getD_eq_getElem?_getD, List.getElem?_append_right (by omega), h1, List.getElem?_map, List.getD_eq_getElem?_getD, List.getD_eq_getElem?_getD, List.getElem?_eq_getElem (l := s) (i := b - 2 ^ i) (by omega)] <;> rfl
theorem allSp_len (near : List Nat) : (allSp near).length = 2 ^ near.length := by
  have := (allSp_ok near near.length (Nat.le_refl _)).1
  rwa [List.take_length] at this
theorem allSp_at (near : List Nat) {b : Nat} (hb : b < 2 ^ near.length) : (allSp near).getD b 0 = spreadM near b := by
  have := (allSp_ok near near.length (Nat.le_refl _)).2 b hb
  rwa [List.take_length] at this
end LF

end

section
set_option linter.all false
namespace LF
open Su120
/-! ### the parts, one by one -/
def leastB (near : List Nat) (n p : Nat) : Bool := decide (∀ q, q < p → (compM near n p).testBit q = false)
theorem range_cut (f : Nat → Bool) {n : Nat} : ∀ {i : Nat}, i ≤ n → ((List.range n).filter f).filter (fun p => decide (p < i)) = (List.range i).filter f := by
  intro i hi
  rw [List.filter_filter]
  obtain ⟨m, rfl⟩ : ∃ m, n = i + m := ⟨n - i, by omega⟩
  rw [List.range_add, List.filter_append]
  have h1 : (List.range i).filter (fun p => decide (p < i) && f p) = (List.range i).filter f := List.filter_congr fun x hx => by
    have := List.mem_range.mp hx
    simp [this]
  have h2 : ((List.range m).map fun x => i + x).filter (fun p => decide (p < i) && f p) = [] := by
    rw [List.filter_eq_nil_iff]
    intro x hx
    obtain ⟨y, _, rfl⟩ := List.mem_map.mp hx
    simp
    omega
  rw [h1, h2, List.append_nil]
def sizesTo (near : List Nat) (n i : Nat) : List Nat := ((List.range i).filter (leastB near n)).map fun p => (ofBits n (compM near n p)).length
def seenTo (near : List Nat) (n i : Nat) : Nat := ((List.range i).filter (leastB near n)).foldl (fun m p => m ||| compM near n p) 0
theorem leasts_eq (near : List Nat) (n : Nat) : leasts near n = (List.range n).filter (leastB near n) := rfl
theorem seenTo_eq (near : List Nat) {n i : Nat} (hi : i ≤ n) : seenBy near n i = seenTo near n i := by
  unfold seenBy seenTo
  rw [leasts_eq, range_cut (leastB near n) hi]
theorem seenTo_iff {a : Abs} {near : List Nat} (N : NearOk a near) {i : Nat} (hi : i < a.n) : (seenTo near a.n i).testBit i = false ↔ leastB near a.n i = true := by
  rw [← seenTo_eq near (Nat.le_of_lt hi), seen_iff N hi, leasts_eq, List.mem_filter, List.mem_range]
  exact ⟨fun h => h.2, fun h => ⟨hi, h⟩⟩
theorem upTo_succ (near : List Nat) (n i : Nat) : (List.range (i + 1)).filter (leastB near n) = if leastB near n i = true then (List.range i).filter (leastB near n) ++ [i] else (List.range i).filter (leastB near n) := by
  rw [List.range_succ, List.filter_append]
  by_cases h : leastB near n i = true
  · rw [if_pos h]; simp [h]
  · rw [if_neg h]; simp [h]
theorem sizes_eq {a : Abs} {near : List Nat} (N : NearOk a near) : sizesTo near a.n a.n = (a.ps.filter fun p => (a.part p).headD p == p).map fun p => (a.part p).length := by
  rw [part_sizes N] <;> rfl
theorem sizes_len {a : Abs} {near : List Nat} (N : NearOk a near) : (sizesTo near a.n a.n).length = a.parts := by
  rw [parts_eq N, leasts_eq]
  unfold sizesTo
  rw [List.length_map]
theorem sizesTo_len (near : List Nat) (n i : Nat) : (sizesTo near n i).length ≤ i := by
  unfold sizesTo
  rw [List.length_map]
  have := List.length_filter_le (leastB near n) (List.range i)
  rwa [List.length_range] at this
theorem parts_le (a : Abs) : a.parts ≤ a.n := by
  have := List.length_filter_le (fun p => (a.part p).headD p == p) a.ps
  unfold Abs.ps at this
  rwa [List.length_range] at this
/-! ### choices -/
theorem subsets_len {α : Type} : ∀ (l : List α) (k : Nat), (subsets l k).length ≤ 2 ^ l.length
  | l, 0 => by
    have e : subsets l 0 = [[]] := by cases l <;> rfl
    rw [e]
    exact Nat.two_pow_pos _
  | [], k + 1 => by
    exact Nat.zero_le _
  | x :: l, k + 1 => by
    show ((subsets l k).map (fun s => x :: s) ++ subsets l (k + 1)).length ≤ 2 ^ (l.length + 1)
    rw [List.length_append, List.length_map, Nat.pow_succ]
    have h1 := subsets_len l k
    have h2 := subsets_len l (k + 1)
    omega
theorem subsets_zero {α : Type} (l : List α) : subsets l 0 = [[]] := by cases l <;> rfl
theorem subsets_mem {α : Type} : ∀ {l : List α} {k : Nat} {s : List α}, s ∈ subsets l k → s.length = k ∧ ∀ x ∈ s, x ∈ l
  | l, 0, s, h => by
    rw [subsets_zero, List.mem_singleton] at h
    subst h
    exact ⟨rfl, fun x hx => by cases hx⟩
  | [], k + 1, s, h => by cases h
  | x :: l, k + 1, s, h => by
    have h : s ∈ (subsets l k).map (fun s => x :: s) ++ subsets l (k + 1) := h
    rcases List.mem_append.mp h with h | h
    · obtain ⟨t, ht, rfl⟩ := List.mem_map.mp h
      obtain ⟨h1, h2⟩ := subsets_mem ht
      refine ⟨by simp [h1], fun y hy => ?_⟩
      rcases List.mem_cons.mp hy with rfl | hy
      · exact List.mem_cons_self ..
      · exact List.mem_cons_of_mem _ (h2 y hy)
    · obtain ⟨h1, h2⟩ := subsets_mem h
      exact ⟨h1, fun y hy => List.mem_cons_of_mem _ (h2 y hy)⟩
theorem subsets_short {α : Type} : ∀ {l : List α} {k : Nat} {s : List α}, s ∈ subsets l k → s.length ≤ l.length
  | l, 0, s, h => by
    rw [subsets_zero, List.mem_singleton] at h
    subst h
    exact Nat.zero_le _
  | [], k + 1, s, h => by cases h
  | x :: l, k + 1, s, h => by
    have h : s ∈ (subsets l k).map (fun s => x :: s) ++ subsets l (k + 1) := h
    rcases List.mem_append.mp h with h | h
    · obtain ⟨t, ht, rfl⟩ := List.mem_map.mp h
      have := subsets_short ht
      rw [List.length_cons, List.length_cons]; omega
    · have := subsets_short h
      rw [List.length_cons]; omega
/-! ### two lists alike -/
def All2 {α β : Type} (R : α → β → Prop) : List α → List β → Prop
  | [], [] => True
  | x :: xs, y :: ys => R x y ∧ All2 R xs ys
  | _, _ => False
theorem All2.app {α β : Type} {R : α → β → Prop} : ∀ {xs : List α} {ys : List β} {xs' : List α} {ys' : List β}, All2 R xs ys → All2 R xs' ys' → All2 R (xs ++ xs') (ys ++ ys')
  | [], [], _, _, _, h => h
  | _ :: _, _ :: _, _, _, h, h' => ⟨h.1, h.2.app h'⟩
  | [], _ :: _, _, _, h, _ => h.elim
  | _ :: _, [], _, _, h, _ => h.elim
theorem All2.map {α β α' β' : Type} {R : α → β → Prop} {R' : α' → β' → Prop} {f : α → α'} {g : β → β'} (hf : ∀ x y, R x y → R' (f x) (g y)) : ∀ {xs : List α} {ys : List β}, All2 R xs ys → All2 R' (xs.map f) (ys.map g)
  | [], [], _ => trivial
  | _ :: _, _ :: _, h => ⟨hf _ _ h.1, h.2.map hf⟩
  | [], _ :: _, h => h.elim
  | _ :: _, [], h => h.elim
theorem All2.mono {α β : Type} {R R' : α → β → Prop} (hf : ∀ x y, R x y → R' x y) : ∀ {xs : List α} {ys : List β}, All2 R xs ys → All2 R' xs ys
  | [], [], _ => trivial
  | _ :: _, _ :: _, h => ⟨hf _ _ h.1, h.2.mono hf⟩
  | [], _ :: _, h => h.elim
  | _ :: _, [], h => h.elim
theorem All2.at {α β : Type} {R : α → β → Prop} : ∀ {xs : List α} {ys : List β} {i : Nat} {x : α}, All2 R xs ys → xs[i]? = some x → ∃ y, ys[i]? = some y ∧ R x y
  | x :: xs, y :: ys, 0, u, h, e => by
    have e' : x = u := Option.some.inj e
    subst e'
    exact ⟨y, rfl, h.1⟩
  | _ :: _, _ :: _, i + 1, u, h, e => h.2.at (i := i) e
  | [], _, _, _, _, e => by cases e
  | _ :: _, [], _, _, h, _ => h.elim
theorem All2.len {α β : Type} {R : α → β → Prop} : ∀ {xs : List α} {ys : List β}, All2 R xs ys → xs.length = ys.length
  | [], [], _ => rfl
  | _ :: _, _ :: _, h => by rw [List.length_cons, List.length_cons, h.2.len]
  | [], _ :: _, h => h.elim
  | _ :: _, [], h => h.elim
theorem All2.subs {α β : Type} {R : α → β → Prop} : ∀ {xs : List α} {ys : List β} (k : Nat), All2 R xs ys → All2 (All2 R) (subsets xs k) (subsets ys k)
  | xs, ys, 0, _ => by rw [subsets_zero, subsets_zero]; exact ⟨trivial, trivial⟩
  | [], [], k + 1, _ => trivial
  | x :: xs, y :: ys, k + 1, h => All2.app ((h.2.subs k).map fun s t hs => ⟨h.1, hs⟩) (h.2.subs (k + 1))
  | [], _ :: _, _ + 1, h => h.elim
  | _ :: _, [], _ + 1, h => h.elim
/-! ### the first of a list -/
theorem find_at {α : Type} {f : α → Bool} : ∀ {L : List α} {i : Nat} {x : α}, L[i]? = some x → f x = true → (∀ m y, m < i → L[m]? = some y → f y = false) → L.find? f = some x
  | [], _, _, h, _, _ => by cases h
  | a :: L, 0, x, h, hf, _ => by
    have e : a = x := Option.some.inj h
    subst e
    rw [List.find?_cons, hf]
  | a :: L, i + 1, x, h, hf, hno => by
    rw [List.find?_cons, hno 0 a (by omega) rfl]
    exact find_at (i := i) h hf fun m y hm hy => hno (m + 1) y (by omega) hy
theorem find_no {α : Type} {f : α → Bool} {L : List α} (hno : ∀ m y, m < L.length → L[m]? = some y → f y = false) : L.find? f = none := by
  rw [List.find?_eq_none]
  intro x hx
  obtain ⟨i, hi⟩ := List.getElem?_of_mem hx
  rw [hno i x (List.getElem?_eq_some_iff.mp hi).1 hi]
  simp
/-! ### the first tree -/
def treeOk (a : Abs) (s : List (Nat × Nat)) : Bool := (⟨a.n, s, []⟩ : Abs).parts == a.parts && (⟨a.n, s, []⟩ : Abs).turns == a.turns
theorem trees_find (a : Abs) : (a.trees.find? fun t => t.turns == a.turns) = ((subsets a.joins (a.n - a.parts)).find? (treeOk a)).map fun j => (⟨a.n, j, []⟩ : Abs) := by
  unfold Abs.trees
  rw [List.find?_filter, List.find?_map]
  congr 1
  refine find_congr fun s _ => ?_
  unfold treeOk
  rw [Bool.eq_iff_iff]
  simp [Function.comp]
end LF

end

section
set_option Elab.async false
set_option linter.all false
set_option maxRecDepth 100000
set_option maxHeartbeats 2000000
namespace LF
open PySem PySem.Spec PyProof.Rows L2
open PySem.W (Codec)
def top (i : Nat) : Stmt := PySem.Challenge.pw_litfires_s01_answers.main.body.getD i (.Pass ⟨0, 0, 0, 0⟩)
abbrev sEvery : Stmt := top 1
abbrev sPlaces : Stmt := top 2
def nat (n : Nat) : V := .int (n : Int)
def nats (l : List Nat) : List V := l.map nat

theorem shl_one (n : Nat) : (1 : Int) * 2 ^ ((n : Int)).toNat = ((2 ^ n : Nat) : Int) := by
  rw [Int.toNat_natCast, Int.one_mul]; push_cast; rfl
theorem cpow_one {n : Int} (h0 : 0 ≤ n) (h : n ≤ 1000) : CPow 1 n := ⟨h0, by omega, by decide⟩

def spEvery : Sp := fun vs H Q _ => ∃ n : Nat, vs = [nat n] ∧ n ≤ 9 ∧ Q (nat (2 ^ n - 1)) H
/-- places_of -/
def spPlaces : Sp := fun vs H Q _ => ∃ b n : Nat, vs = [nat b, nat n] ∧ n ≤ 9 ∧ ∀ p (H' : Hp), H p = none → H' = upd H p (.lst (nats (ofBits n b))) → Q (.ref p) H'

structure TxtB (mg : Str → Option Value) : Prop where
  range : mg "range" = none
  len : mg "len" = none
section
variable {P : Program} {w : World} {K : PySem.W.Frag} {mg : Str → Option Value} {base : Heap}
theorem scEvery : FnScope ["size"] ["size"] (defScope sEvery) := ⟨rfl, rfl, rfl, by decide +kernel, rfl, by decide +kernel, by decide +kernel⟩
theorem ok_every {f : Addr} {fd : FuncData} (F : Fun K "everything" "everything" sEvery f fd) : FnOk P w K mg base CX0 1 f fd ["size"] spEvery := by
  refine F.ok scEvery (fun vs H Q E h => ?_) (fun cdv A outer s H vs Q E hr h => ?_)
  · obtain ⟨n, rfl, _⟩ := h
    rfl
  · obtain ⟨n, rfl, hn, k⟩ := h
    refine ⟨_, pss_one (ps_ret (pe_op op_sub (pe_op op_shl pe_int (pv 0)) pe_int)), ?_⟩
    refine ⟨_, rfl, _, _, rfl, rfl, cpow_one (by omega) (by omega), _, _, rfl, rfl, ?_⟩
    have e : (1 : Int) * 2 ^ ((n : Int)).toNat - 1 = ((2 ^ n - 1 : Nat) : Int) := by
      rw [shl_one]
      have := Nat.two_pow_pos n
      omega
    show Q (V.int ((1 : Int) * 2 ^ ((n : Int)).toNat - 1)) H
    rw [e]
    exact k
theorem and_bit (b p : Nat) : decide (V.int (Builtin.bitAnd (b : Int) ((2 ^ p : Nat) : Int)) = V.int 0) = !b.testBit p := by
  have e : Builtin.bitAnd (b : Int) ((2 ^ p : Nat) : Int) = ((b &&& 2 ^ p : Nat) : Int) := rfl
  rw [e]
  by_cases h : b.testBit p = true
  · rw [h]
    refine decide_eq_false fun z => ?_
    have z2 : ((b &&& 2 ^ p : Nat) : Int) = 0 := V.int.inj z
    have z3 : b &&& 2 ^ p = 0 := by omega
    have z4 : (b &&& 2 ^ p).testBit p = false := by rw [z3]; simp
    rw [Nat.testBit_and, h, two_pow_bit] at z4
    simp at z4
  · have h' : b.testBit p = false := by simpa using h
    rw [h']
    refine decide_eq_true ?_
    have z3 : b &&& 2 ^ p = 0 := by
      apply Nat.eq_of_testBit_eq
      intro q
      rw [Nat.testBit_and, two_pow_bit, Nat.zero_testBit]
      by_cases e : p = q
      · subst e; simp [h']
      · simp [e]
    rw [z3]; rfl
theorem ofBits_succ (i b : Nat) : ofBits (i + 1) b = if b.testBit i = true then ofBits i b ++ [i] else ofBits i b := by
  unfold ofBits
  rw [List.range_succ, List.filter_append]
  by_cases h : b.testBit i = true
  · rw [if_pos h]; simp [h]
  · rw [if_neg h]; simp [h]
theorem ofBits_len (n b : Nat) : (ofBits n b).length ≤ n := by
  have := List.length_filter_le (fun p => b.testBit p) (List.range n)
  rwa [List.length_range] at this
theorem scPlaces : FnScope ["burnt", "size", "place"] ["burnt", "size"] (defScope sPlaces) := ⟨rfl, rfl, rfl, by decide +kernel, rfl, by decide +kernel, by decide +kernel⟩
theorem Same.upd {H H' : Hp} {p : Addr} {o : HO} (s : Same H H') (hp : H p = none) : Same H (upd H' p o) := fun b u e => by
  rw [upd_ne (ne_of_none e hp)]; exact s b u e
theorem ok_places {f : Addr} {fd : FuncData} (F : Fun K "places_of" "places_of" sPlaces f fd) (T : TxtB mg) : FnOk P w K mg base CX0 1 f fd ["burnt", "size"] spPlaces := by
  refine F.ok scPlaces (fun vs H Q E h => ?_) (fun cdv A outer s H vs Q E hr h => ?_)
  · obtain ⟨b, n, rfl, _⟩ := h
    rfl
  · obtain ⟨b, n, rfl, hn, k⟩ := h
    refine ⟨_, pss_one (ps_ret (pe_lc (own := [("place", 2)]) rfl scPlaces.nd (pi_range1 rfl T.range (pa_cons (pv 1) pa_nil)) (blkOk_by (by show blkC ["burnt", "size", "place"] (defScope sPlaces) _ _ = true; decide +kernel))
      (fun _ _ _ _ _ => pg_name (i := 2) scPlaces.nd rfl (Or.inl rfl)) (fun _ _ _ _ _ => pts_one (pt_cmpR op_ne (pe_op op_and (pv 0) (pe_op op_shl pe_int (pv 2))) pe_int (nomark _))) (fun _ _ _ _ _ => pv 2))), ?_⟩
    refine ⟨_, rfl, (n : Int), rfl, by omega, by omega, fun D hD => ?_⟩
    refine lc_range (Qd := fun H' => Q (.ref D) H') (fun i H' => H' = L2.upd H D (.lst (nats (ofBits i b)))) ?_ ?_ ?_
    · rw [ofBits]; rfl
    · rintro i H' hi rfl
      have hi' : i < n := by simpa using hi
      refine ⟨rfl, _, rfl, _, rfl, _, _, rfl, rfl, cpow_one (by omega) (by omega), _, _, rfl, rfl, rfl, _, rfl, ?_⟩
      rw [show (1 : Int) * 2 ^ (0 + (i : Int)).toNat = ((2 ^ i : Nat) : Int) by rw [Int.zero_add]; exact shl_one i, and_bit, Bool.not_not, ofBits_succ]
      refine ite2 (fun h => ?_) fun h => ?_
      · refine ⟨_, rfl, _, upd_same, ?_, ?_⟩
        · have := ofBits_len i b
          rw [nats, List.length_map]
          exact small1000 (by omega)
        · rw [if_pos h, upd_upd, nats, nats, List.map_append, Int.zero_add] <;> rfl
      · rw [if_neg h]
    · rintro H' rfl
      exact k D _ hD rfl
end
end LF

end

section
set_option Elab.async false
set_option linter.all false
set_option maxRecDepth 100000
set_option maxHeartbeats 2000000
namespace LF
open PySem PySem.Spec PyProof.Rows L2
open PySem.W (Codec)
/-! ### a list's item, by values -/
section
variable {X : Cx}
def rGetL (K : PySem.W.Frag) : V → V → Hp → VK → Prop := fun x y H Q => ∃ p xs k v, x = .ref p ∧ y = nat k ∧ SqL K H p xs ∧ xs[k]? = some v ∧ Q v H
theorem get_listN : PGet X (rGetL X.K) := by
  intro pins s σ H x y v u Q I rx ry h
  obtain ⟨p, xs, k, z, rfl, rfl, hq, he, q⟩ := h
  cases rx
  obtain ⟨t, rfl⟩ := ry
  obtain ⟨its, r, pl, hz⟩ := I.list hq
  obtain ⟨w, ew, rw'⟩ := r.get he
  have hl := r.length
  have hk : k < xs.length := (List.getElem?_eq_some_iff.mp he).1
  have hn := line63
  exact wpAny_getItem_list pl.isList (by omega) (by omega) (by simpa using ew) ⟨z, H, I, rw', q⟩
end
/-! ### joins -/
abbrev sNear : Stmt := top 3
abbrev sSpread : Stmt := top 4
abbrev sBurnt : Stmt := top 6
/-- the tuples of a list of pairs -/
def Pairs (H : Hp) : List Addr → List (Nat × Nat) → Prop
  | [], [] => True
  | t :: ts, x :: xs => H t = some (.tup [nat x.1, nat x.2]) ∧ Pairs H ts xs
  | _, _ => False
def JoinsAt (H : Hp) (j : Addr) (js : List (Nat × Nat)) : Prop := ∃ ts, H j = some (.lst (ts.map V.ref)) ∧ Pairs H ts js
theorem Pairs.len {H : Hp} : ∀ {ts : List Addr} {js : List (Nat × Nat)}, Pairs H ts js → ts.length = js.length
  | [], [], _ => rfl
  | _ :: _, _ :: _, h => by rw [List.length_cons, List.length_cons, h.2.len]
  | [], _ :: _, h => h.elim
  | _ :: _, [], h => h.elim
theorem Pairs.same {H H' : Hp} (s : Same H H') : ∀ {ts : List Addr} {js : List (Nat × Nat)}, Pairs H ts js → Pairs H' ts js
  | [], [], _ => trivial
  | _ :: _, _ :: _, h => ⟨s _ _ h.1, h.2.same s⟩
  | [], _ :: _, h => h.elim
  | _ :: _, [], h => h.elim
theorem Pairs.at {H : Hp} : ∀ {ts : List Addr} {js : List (Nat × Nat)} {i : Nat} {t : Addr}, Pairs H ts js → ts[i]? = some t → ∃ x, js[i]? = some x ∧ H t = some (.tup [nat x.1, nat x.2])
  | t :: ts, x :: js, 0, u, h, e => by
    have e' : t = u := Option.some.inj e
    subst e'
    exact ⟨x, rfl, h.1⟩
  | t :: ts, x :: js, i + 1, u, h, e => h.2.at (i := i) e
  | [], _, _, _, _, e => by cases e
  | _ :: _, [], _, _, h, _ => h.elim
theorem JoinsAt.same {H H' : Hp} {j : Addr} {js : List (Nat × Nat)} (s : Same H H') (h : JoinsAt H j js) : JoinsAt H' j js := by
  obtain ⟨ts, h1, h2⟩ := h
  exact ⟨ts, s _ _ h1, h2.same s⟩
theorem take_snoc {α : Type} : ∀ {l : List α} {i : Nat} {x : α}, l[i]? = some x → l.take (i + 1) = l.take i ++ [x]
  | [], i, x, h => by simp at h
  | a :: l, 0, x, h => by
    have e : a = x := Option.some.inj h
    subst e
    rfl
  | a :: l, i + 1, x, h => by
    have ih := take_snoc (l := l) (i := i) (x := x) h
    show a :: l.take (i + 1) = a :: l.take i ++ [x]
    rw [ih]
    rfl
theorem nats_at {l : List Nat} {k : Nat} (h : k < l.length) : (nats l)[k]? = some (nat (l.getD k 0)) := by
  unfold nats
  rw [List.getElem?_map, List.getElem?_eq_getElem h, List.getD_eq_getElem?_getD, List.getElem?_eq_getElem h] <;> rfl
theorem yes_ {σ : L2.St} {H : Hp} {Q : Bool → Hp → Prop} (h : Q true H) : tYes σ H Q := h
theorem nats_len (l : List Nat) : (nats l).length = l.length := by unfold nats; rw [List.length_map]
theorem nats_set (l : List Nat) (k v : Nat) : (nats l).set k (nat v) = nats (l.set k v) := by unfold nats; rw [List.map_set]
theorem ixN_nat {n k : Nat} (h : k < n) : ixN n (k : Int) = some k := by
  unfold ixN
  rw [if_pos (by omega), if_pos (by omega), Int.toNat_natCast]
theorem or_nat (a b : Nat) : V.int (Builtin.bitOr (a : Int) (b : Int)) = nat (a ||| b) := by
  rw [Bits.bitOr_pp (by omega) (by omega), Int.toNat_natCast, Int.toNat_natCast]; rfl
theorem or_reads {K : PySem.W.Frag} {a b c : Nat} {Dn : Ends} {σ : L2.St} {H : Hp} {D : Addr} {l : List Nat} {x y : Nat} (ha : σ[a]? = some (some (.ref D))) (hb : σ[b]? = some (some (nat x))) (hc : σ[c]? = some (some (nat y)))
    (hl : H D = some (.lst (nats l))) (hx : x < l.length) (hy : y ≤ 1000) (h : Dn.nx σ (L2.upd H D (.lst (nats (orAt l x y))))) :
    tAugS (tVar a) (tVar b) (tOp (rI CPow fun i j => .int (i * 2 ^ j.toNat)) (tC (.int 1)) (tVar c)) (rGetL K) (rI0 fun i j => .int (Builtin.bitOr i j)) rSetL Dn σ H := by
  refine ⟨_, ha, _, hb, D, _, x, _, rfl, rfl, SqL.of hl, nats_at hx, _, hc, _, _, rfl, rfl, cpow_one (by omega) (by omega), _, _, rfl, rfl, D, _, (x : Int), x, rfl, rfl, hl, by rw [nats_len]; exact ixN_nat hx, ?_⟩
  have e : (nats l).set x (V.int (Builtin.bitOr ((l.getD x 0 : Nat) : Int) (1 * 2 ^ ((y : Int)).toNat))) = nats (orAt l x y) := by rw [shl_one, or_nat, nats_set] <;> rfl
  rw [← e] at h
  exact h
/-- a new list of numbers comes out, all that was tracked stays -/
def gives (H : Hp) (l : List Nat) (Q : VK) : Prop := ∀ p (H' : Hp), H p = none → Same H H' → H' p = some (.lst (nats l)) → Q (.ref p) H'
def spNear : Sp := fun vs H Q _ => ∃ (n : Nat) (j : Addr) (js : List (Nat × Nat)), vs = [nat n, .ref j] ∧ n ≤ 9 ∧ JoinsAt H j js ∧ (∀ x ∈ js, x.1 < x.2 ∧ x.2 < n) ∧ gives H (nearM n js) Q
section
variable {P : Program} {w : World} {K : PySem.W.Frag} {mg : Str → Option Value} {base : Heap}
theorem scNear : FnScope ["size", "joins", "near", "lesser", "greater", "place"] ["size", "joins"] (defScope sNear) := ⟨rfl, rfl, rfl, by decide +kernel, rfl, by decide +kernel, by decide +kernel⟩
theorem ok_near {f : Addr} {fd : FuncData} (F : Fun K "near_places" "near_places" sNear f fd) (T : TxtB mg) : FnOk P w K mg base CX0 1 f fd ["size", "joins"] spNear := by
  refine F.ok scNear (fun vs H Q E h => ?_) (fun cdv A outer s H vs Q E hr h => ?_)
  · obtain ⟨n, j, js, rfl, _⟩ := h
    rfl
  · obtain ⟨n, j, js, rfl, hn, hJ, hlt, k⟩ := h
    refine ⟨_, pss_cons (ps_setLc (i := 2) (own := [("place", 5)]) rfl scNear.nd rfl rfl (sw_true rfl rfl rfl (by decide +kernel)) (pi_range1 rfl T.range (pa_cons (pv 0) pa_nil)) (blkOk_by (by show blkC ["size", "joins", "near", "lesser", "greater", "place"] (defScope sNear) _ _ = true; decide +kernel))
      (fun _ _ _ _ _ => pg_name (i := 5) scNear.nd rfl (Or.inl rfl)) (fun _ _ _ _ _ => pts_nil) (fun _ _ _ _ _ => pe_op op_shl pe_int (pv 5)))
      (pss_cons (ps_for PassesOwn.never rfl (pi_list (pv 1)) (pg_tup rfl (pgs_cons (pg_name (i := 3) scNear.nd rfl (Or.inl rfl)) (pgs_cons (pg_name (i := 4) scNear.nd rfl (Or.inl rfl)) pgs_nil)))
        (pss_cons (ps_augS (pv 2) (pv 3) get_listN (pe_op op_shl pe_int (pv 4)) iop_or set_list) (pss_one (ps_augS (pv 2) (pv 4) get_listN (pe_op op_shl pe_int (pv 3)) iop_or set_list))))
      (pss_one (ps_ret (pv 2)))), ?_⟩
    refine ⟨_, rfl, (n : Int), rfl, by omega, by omega, fun D hD => ?_⟩
    refine lc_range (fun i H' => H' = L2.upd H D (.lst (nats ((List.range i).map fun p => 2 ^ p)))) rfl ?_ ?_
    · rintro i H' hi rfl
      have hi' : i < n := by simpa using hi
      refine ⟨rfl, ?_⟩
      refine yes_ ?_
      rw [if_pos rfl]
      refine ⟨_, rfl, _, _, rfl, rfl, cpow_one (by omega) (by omega), _, upd_same, ?_, ?_⟩
      · rw [nats_len, List.length_map, List.length_range]
        exact small1000 (by omega)
      · rw [upd_upd, List.range_succ, List.map_append, nats, nats, List.map_append]
        show L2.upd H D (.lst (_ ++ [V.int ((1 : Int) * 2 ^ (0 + (i : Int)).toNat)])) = _
        rw [Int.zero_add, shl_one] <;> rfl
    · rintro H' rfl
      have s0 : Same H (L2.upd H D (.lst (nats ((List.range (n : Int).toNat).map fun p => 2 ^ p)))) := Same.upd (Same.refl H) hD
      obtain ⟨ts, hj, hp⟩ := hJ
      have hDj : j ≠ D := ne_of_none hj hD
      refine ⟨_, rfl, j, rfl, ⟨_, SqL.of (s0 _ _ hj)⟩, for_list (K := K) (a := j) (xs := ts.map V.ref) (fun i σ H' => ∃ v3 v4 v5, σ = [some (nat n), some (.ref j), some (.ref D), v3, v4, v5] ∧ Same H H' ∧ H' D = some (.lst (nats ((js.take i).foldl nearStep ((List.range n).map fun p => 2 ^ p)))))
        ⟨_, _, _, rfl, s0, by rw [upd_same, Int.toNat_natCast]; rfl⟩ (fun i σ H' _ ⟨_, _, _, _, s1, _⟩ => SqL.of (s1 _ _ hj)) ?_ ?_⟩
      · rintro i y σ H' hi ⟨v3, v4, v5, rfl, s1, hl⟩
        rw [List.getElem?_map] at hi
        cases ht : ts[i]? with
        | none => rw [ht] at hi; cases hi
        | some t =>
          rw [ht] at hi
          obtain rfl : V.ref t = y := Option.some.inj hi
          obtain ⟨x, hx, htp⟩ := hp.at ht
          have hxm := hlt x (List.mem_of_getElem? hx)
          have hlen : ((js.take i).foldl nearStep ((List.range n).map fun p => 2 ^ p)).length = n := by rw [foldl_near_len, List.length_map, List.length_range]
          generalize he : (js.take i).foldl nearStep ((List.range n).map fun p => 2 ^ p) = cur at hl hlen
          refine ⟨t, _, rfl, SqT.of (s1 _ _ htp), rfl, _, _, rfl, _, _, rfl, rfl, ?_⟩
          refine or_reads (D := D) (l := cur) (x := x.1) (y := x.2) rfl rfl rfl hl (by omega) (by omega) ?_
          refine or_reads (D := D) (l := orAt cur x.1 x.2) (x := x.2) (y := x.1) rfl rfl rfl upd_same (by rw [orAt_len]; omega) (by omega) ?_
          refine ⟨_, _, _, rfl, Same.upd (Same.upd s1 hD) hD, ?_⟩
          rw [upd_same, take_snoc hx, List.foldl_append, he] <;> rfl
      · rintro σ H' ⟨v3, v4, v5, rfl, s1, hl⟩
        rw [List.length_map, hp.len, List.take_length] at hl
        exact ⟨_, rfl, k D H' hD s1 hl⟩
end
end LF

end

section
set_option Elab.async false
set_option linter.all false
set_option maxRecDepth 100000
set_option maxHeartbeats 2000000
namespace LF
open PySem PySem.Spec PyProof.Rows L2
open PySem.W (Codec)
/-! ### a def of the module, as it is called -/
structure Def (P : Program) (w : World) (K : PySem.W.Frag) (mg : Str → Option Value) (base : Heap) (k : Nat) (x : Str) (ps : List Str) (sp : Sp) : Prop where
  ex : ∃ (f : Addr) (fd : FuncData), FnOk P w K mg base CX0 k f fd ps sp ∧ mg x = some (.ref f) ∧ PySem.W.keepIn K (.ref f) = true ∧ Binds K fd ps []
theorem pe_def {X : Cx} {k j : Nat} {x : Str} {ps : List Str} {sp : Sp} {p pos : Pos} {e : Expr} {es : List Expr} {t : TA} (d : Def X.prog X.w X.K X.mg X.base k x ps sp) (hr : Room j X.A) (hj : k ≤ j) (hg : Gl X x) (ha : PA X (e :: es) t)
    (hdb : (x == ("__debug__" : Str)) = false := by decide) (he : starEach (e :: es) X.env = (false, eval e X.env) :: starEach es X.env := by rfl) (hpl : (backTo pos (starEach es X.env)).any (·.1) = false := by rfl) :
    PE X (.Call (.Name x p) (e :: es) [] pos) (tCall sp [] E0 t) := by
  obtain ⟨f, fd, F, hm, hk, hb⟩ := d.ex
  exact pe_call F (hr.mono hj) hg hm hk hb .nil pass0 ha hdb he hpl
/-- len(x) -/
theorem pe_len {X : Cx} {p pos : Pos} {e : Expr} {t : TA} (hg : Gl X "len") (hm : X.mg "len" = none) (ha : PA X [e] t) (he : starEach [e] X.env = (false, eval e X.env) :: starEach [] X.env := by rfl) (hpl : (backTo pos (starEach [] X.env)).any (·.1) = false := by rfl) :
    PE X (.Call (.Name "len" p) [e] [] pos) (tCB (fun xs H Q => ∃ p ys, xs = [.ref p] ∧ (SqL X.K H p ys ∨ SqT X.K H p ys) ∧ Q (.int ys.length) H) t) :=
  pe_callB call_len_seq hg hm PySem.boot_len ha (by decide) (by decide) he hpl
/-! ### enumerate, as a loop -/
theorem for_enum {K : PySem.W.Frag} {a : Addr} {xs : List V} {g : TG} {tb : TS} {D : Ends} {σ : L2.St} {H : Hp} (Pv : Nat → L2.St → Hp → Prop) (h0 : Pv 0 σ H) (hl : ∀ i σ H, i ≤ xs.length → Pv i σ H → SqL K H a xs)
    (hs : ∀ i x σ H T, xs[i]? = some x → Pv i σ H → H T = none → g (.ref T) σ (L2.upd H T (.tup [.int (i : Nat), x])) fun σ2 H2 => tb { D with nx := Pv (i + 1), ct := Pv (i + 1), bk := D.nx } σ2 H2) (hd : ∀ σ H, Pv xs.length σ H → D.nx σ H) :
    ∃ W : Nat → Nat → L2.St → Hp → Prop, (∃ m, W 0 m σ H) ∧ ∀ i m σ H, W i m σ H →
      ((Ite K a).stop i H ∧ D.nx σ H) ∨ ((Ite K a).go i H ∧ ∃ N : L2.St → Hp → Prop, (∀ σ' H', N σ' H' → ∃ m', m' < m ∧ W (i + 1) m' σ' H') ∧ ∀ x H', (Ite K a).yld i H x H' → g x σ H' fun σ2 H2 => tb { D with nx := N, ct := N, bk := D.nx } σ2 H2) := by
  refine ⟨fun i m σ H => m = xs.length - i ∧ i ≤ xs.length ∧ Pv i σ H, ⟨xs.length, by simp, Nat.zero_le _, h0⟩, ?_⟩
  rintro i m σ H ⟨rfl, hi, p⟩
  have q := hl i σ H hi p
  by_cases hlt : i < xs.length
  · refine .inr ⟨⟨xs, xs[i], q, by simp [hlt]⟩, Pv (i + 1), fun σ' H' p' => ⟨xs.length - (i + 1), by omega, rfl, hlt, p'⟩, fun x H' y => ?_⟩
    obtain ⟨T, z, rfl, hT, rfl, y⟩ := y
    exact hs i z σ H T (y xs q) p hT
  · have e : i = xs.length := by omega
    subst e
    exact .inl ⟨⟨xs, q, Nat.le_refl _⟩, hd σ H p⟩
structure TxtC (mg : Str → Option Value) : Prop extends TxtB mg where
  enum : mg "enumerate" = none
theorem orAll_snoc (near : List Nat) (p : Nat) : ∀ (l : List Nat) (w : Nat), orAll near (l ++ [p]) w = orAll near l w ||| near.getD p 0
  | [], w => rfl
  | x :: l, w => by
    show orAll near (l ++ [p]) (w ||| near.getD x 0) = orAll near l (w ||| near.getD x 0) ||| near.getD p 0
    exact orAll_snoc near p l _
theorem nats_get {l : List Nat} {i : Nat} {y : V} (h : (nats l)[i]? = some y) : ∃ p, l[i]? = some p ∧ y = nat p := by
  unfold nats at h
  rw [List.getElem?_map] at h
  cases e : l[i]? with
  | none => rw [e] at h; cases h
  | some p => rw [e] at h; exact ⟨p, rfl, (Option.some.inj h).symm⟩
def spSpread : Sp := fun vs H Q _ => ∃ (a : Addr) (near : List Nat) (b : Nat), vs = [.ref a, nat b] ∧ H a = some (.lst (nats near)) ∧ near.length ≤ 9 ∧ ∀ H', Same H H' → Q (nat (spreadM near b)) H'
def spBurnt : Sp := fun vs H Q _ => ∃ (a r : Addr) (near row : List Nat), vs = [.ref a, .ref r] ∧ H a = some (.lst (nats near)) ∧ near.length ≤ 9 ∧ H r = some (.lst (nats row)) ∧ (∀ p ∈ row, p ≤ 9) ∧ ∀ H', Same H H' → Q (nat (burntM near row)) H'
section
variable {P : Program} {w : World} {K : PySem.W.Frag} {mg : Str → Option Value} {base : Heap}
theorem scSpread : FnScope ["near", "burnt", "wider", "place", "beside"] ["near", "burnt"] (defScope sSpread) := ⟨rfl, rfl, rfl, by decide +kernel, rfl, by decide +kernel, by decide +kernel⟩
theorem getD_of {l : List Nat} {i x : Nat} (h : l[i]? = some x) : l.getD i 0 = x := by rw [List.getD_eq_getElem?_getD, h] <;> rfl
theorem ok_spread {f : Addr} {fd : FuncData} (F : Fun K "spread" "spread" sSpread f fd) (T : TxtC mg) : FnOk P w K mg base CX0 1 f fd ["near", "burnt"] spSpread := by
  refine F.ok scSpread (fun vs H Q E h => ?_) (fun cdv A outer s H vs Q E hr h => ?_)
  · obtain ⟨a, near, b, rfl, _⟩ := h
    rfl
  · obtain ⟨a, near, b, rfl, ha, hn, k⟩ := h
    refine ⟨_, pss_cons (ps_set (i := 2) scSpread.nd rfl (Or.inl rfl) pe_int)
      (pss_cons (ps_for PassesOwn.never rfl (pi_enum rfl T.enum (pa_cons (pv 0) pa_nil)) (pg_tup rfl (pgs_cons (pg_name (i := 3) scSpread.nd rfl (Or.inl rfl)) (pgs_cons (pg_name (i := 4) scSpread.nd rfl (Or.inl rfl)) pgs_nil)))
        (pss_one (ps_if (pt_cmpR op_ne (pe_op op_and (pv 1) (pe_op op_shl pe_int (pv 3))) pe_int (nomark _)) (pss_one (ps_aug (i := 2) scSpread.nd rfl (Or.inl rfl) (pv 4) iop_or)) pss_nil)))
      (pss_one (ps_ret (pv 2)))), ?_⟩
    refine ⟨_, rfl, a, _, rfl, SqL.of ha, for_enum (K := K) (a := a) (xs := nats near) (fun i σ H' => ∃ v3 v4, σ = [some (.ref a), some (nat b), some (nat (orAll near (ofBits i b) 0)), v3, v4] ∧ Same H H')
      ⟨_, _, rfl, Same.refl H⟩ (fun i σ H' _ ⟨_, _, _, s⟩ => SqL.of (s _ _ ha)) ?_ ?_⟩
    · rintro i y σ H' T1 hi ⟨v3, v4, rfl, s1⟩ hT1
      obtain ⟨x, hx, rfl⟩ := nats_get hi
      have hi9 : i < near.length := (List.getElem?_eq_some_iff.mp hx).1
      refine ⟨T1, _, rfl, SqT.of upd_same, rfl, _, _, rfl, _, _, rfl, rfl, ?_⟩
      have s2 : Same H (L2.upd H' T1 (.tup [.int (i : Nat), nat x])) := Same.upd s1 (s1.free hT1)
      refine ⟨_, rfl, _, rfl, _, _, rfl, rfl, cpow_one (by omega) (by omega), _, _, rfl, rfl, rfl, _, rfl, ?_⟩
      rw [shl_one, and_bit, Bool.not_not]
      refine ite2 (fun h => ?_) fun h => ?_
      · refine ⟨_, rfl, _, rfl, _, _, rfl, rfl, ?_⟩
        refine ⟨some (nat i), some (nat x), ?_, s2⟩
        rw [ofBits_succ, if_pos h, orAll_snoc, getD_of hx, ← or_nat] <;> rfl
      · refine ⟨some (nat i), some (nat x), ?_, s2⟩
        rw [ofBits_succ, if_neg h] <;> rfl
    · rintro σ H' ⟨v3, v4, rfl, s1⟩
      rw [nats_len]
      exact ⟨_, rfl, k _ s1⟩
theorem scBurnt : FnScope ["near", "row", "burnt", "place"] ["near", "row"] (defScope sBurnt) := ⟨rfl, rfl, rfl, by decide +kernel, rfl, by decide +kernel, by decide +kernel⟩
theorem burntM_snoc (near : List Nat) (l : List Nat) (p : Nat) : burntM near (l ++ [p]) = spreadM near (burntM near l) ||| 2 ^ p := by
  unfold burntM
  rw [List.foldl_append] <;> rfl
theorem ok_burnt {f : Addr} {fd : FuncData} (F : Fun K "burnt_by" "burnt_by" sBurnt f fd) (dS : Def P w K mg base 1 "spread" ["near", "burnt"] spSpread) : FnOk P w K mg base CX0 2 f fd ["near", "row"] spBurnt := by
  refine F.ok scBurnt (fun vs H Q E h => ?_) (fun cdv A outer s H vs Q E hr h => ?_)
  · obtain ⟨a, r, near, row, rfl, _⟩ := h
    rfl
  · obtain ⟨a, r, near, row, rfl, ha, hn, hr', hb, k⟩ := h
    refine ⟨_, pss_cons (ps_set (i := 2) scBurnt.nd rfl (Or.inl rfl) pe_int)
      (pss_cons (ps_for PassesOwn.never rfl (pi_list (pv 1)) (pg_name (i := 3) scBurnt.nd rfl (Or.inl rfl))
        (pss_one (ps_set (i := 2) scBurnt.nd rfl (Or.inl rfl) (pe_op op_or (pe_def dS hr (Nat.le_refl _) rfl (pa_cons (pv 0) (pa_cons (pv 2) pa_nil))) (pe_op op_shl pe_int (pv 3))))))
      (pss_one (ps_ret (pv 2)))), ?_⟩
    refine ⟨_, rfl, r, rfl, ⟨_, SqL.of hr'⟩, for_list (K := K) (a := r) (xs := nats row) (fun i σ H' => ∃ v3, σ = [some (.ref a), some (.ref r), some (nat (burntM near (row.take i))), v3] ∧ Same H H')
      ⟨_, rfl, Same.refl H⟩ (fun i σ H' _ ⟨_, _, e⟩ => SqL.of (e _ _ hr')) ?_ ?_⟩
    · rintro i y σ H' hi ⟨v3, rfl, s1⟩
      obtain ⟨p, hp, rfl⟩ := nats_get hi
      have hp9 := hb p (List.mem_of_getElem? hp)
      refine ⟨_, rfl, _, rfl, a, near, _, rfl, s1 _ _ ha, hn, fun H2 s2 => ?_⟩
      refine ⟨_, rfl, _, _, rfl, rfl, cpow_one (by omega) (by omega), _, _, rfl, rfl, ?_⟩
      refine ⟨some (nat p), ?_, s1.trans s2⟩
      rw [take_snoc hp, burntM_snoc, ← or_nat, ← shl_one] <;> rfl
    · rintro σ H' ⟨v3, rfl, s1⟩
      rw [nats_len, List.take_length]
      exact ⟨_, rfl, k _ s1⟩
end
end LF

end

section
set_option Elab.async false
set_option linter.all false
set_option maxRecDepth 100000
set_option maxHeartbeats 2000000
namespace LF
open PySem PySem.Spec PyProof.Rows L2
open PySem.W (Codec)
/-! ### enumerate and items, as loops -/
theorem for_items {d : Addr} {o : Obj} {kvs : List (Key × V)} {g : TG} {tb : TS} {D : Ends} {σ : L2.St} {H : Hp} (Pv : Nat → L2.St → Hp → Prop) (h0 : Pv 0 σ H) (hl : ∀ i σ H, i ≤ kvs.length → Pv i σ H → H d = some (.frz o (.dK kvs)))
    (hs : ∀ i k v σ H T, kvs[i]? = some (k, v) → Pv i σ H → H T = none → g (.ref T) σ (L2.upd H T (.tup [kV k, v])) fun σ2 H2 => tb { D with nx := Pv (i + 1), ct := Pv (i + 1), bk := D.nx } σ2 H2) (hd : ∀ σ H, Pv kvs.length σ H → D.nx σ H) :
    ∃ W : Nat → Nat → L2.St → Hp → Prop, (∃ m, W 0 m σ H) ∧ ∀ i m σ H, W i m σ H →
      ((Iti d o kvs).stop i H ∧ D.nx σ H) ∨ ((Iti d o kvs).go i H ∧ ∃ N : L2.St → Hp → Prop, (∀ σ' H', N σ' H' → ∃ m', m' < m ∧ W (i + 1) m' σ' H') ∧ ∀ x H', (Iti d o kvs).yld i H x H' → g x σ H' fun σ2 H2 => tb { D with nx := N, ct := N, bk := D.nx } σ2 H2) := by
  refine ⟨fun i m σ H => m = kvs.length - i ∧ i ≤ kvs.length ∧ Pv i σ H, ⟨kvs.length, by simp, Nat.zero_le _, h0⟩, ?_⟩
  rintro i m σ H ⟨rfl, hi, p⟩
  have q := hl i σ H hi p
  by_cases hlt : i < kvs.length
  · refine .inr ⟨⟨q, hlt⟩, Pv (i + 1), fun σ' H' p' => ⟨kvs.length - (i + 1), by omega, rfl, hlt, p'⟩, fun x H' y => ?_⟩
    obtain ⟨T, k, v, hk, rfl, hT, rfl⟩ := y
    exact hs i k v σ H T hk p hT
  · have e : i = kvs.length := by omega
    subst e
    exact .inl ⟨⟨q, Nat.le_refl _⟩, hd σ H p⟩
/-! ### a dict of rows -/
def Ents (H : Hp) : List (Key × V) → List Ent → Prop
  | [], [] => True
  | kv :: kvs, e :: es => kv.1 = Sum.inl (e.1 : Int) ∧ (∃ r, kv.2 = .ref r ∧ H r = some (.lst (nats e.2))) ∧ Ents H kvs es
  | _, _ => False
theorem Ents.len {H : Hp} : ∀ {kvs : List (Key × V)} {es : List Ent}, Ents H kvs es → kvs.length = es.length
  | [], [], _ => rfl
  | _ :: _, _ :: _, h => by rw [List.length_cons, List.length_cons, h.2.2.len]
  | [], _ :: _, h => h.elim
  | _ :: _, [], h => h.elim
theorem Ents.mono {H H' : Hp} (s : ∀ b l, H b = some (.lst l) → H' b = some (.lst l)) : ∀ {kvs : List (Key × V)} {es : List Ent}, Ents H kvs es → Ents H' kvs es
  | [], [], _ => trivial
  | _ :: _, _ :: _, ⟨h1, ⟨r, h2, h3⟩, h4⟩ => ⟨h1, ⟨r, h2, s _ _ h3⟩, h4.mono s⟩
  | [], _ :: _, h => h.elim
  | _ :: _, [], h => h.elim
theorem Ents.snoc {H : Hp} {k : Key} {v : V} {e : Ent} (hk : k = Sum.inl (e.1 : Int)) (hv : ∃ r, v = .ref r ∧ H r = some (.lst (nats e.2))) : ∀ {kvs : List (Key × V)} {es : List Ent}, Ents H kvs es → Ents H (kvs ++ [(k, v)]) (es ++ [e])
  | [], [], _ => ⟨hk, hv, trivial⟩
  | _ :: _, _ :: _, h => ⟨h.1, h.2.1, h.2.2.snoc hk hv⟩
  | [], _ :: _, h => h.elim
  | _ :: _, [], h => h.elim
theorem Ents.at {H : Hp} : ∀ {kvs : List (Key × V)} {es : List Ent} {i : Nat} {k : Key} {v : V}, Ents H kvs es → kvs[i]? = some (k, v) → ∃ e, es[i]? = some e ∧ k = Sum.inl (e.1 : Int) ∧ ∃ r, v = .ref r ∧ H r = some (.lst (nats e.2))
  | kv :: kvs, x :: es, 0, k, v, h, e => by
    have e' : kv = (k, v) := Option.some.inj e
    subst e'
    exact ⟨x, rfl, h.1, h.2.1⟩
  | kv :: kvs, x :: es, i + 1, k, v, h, e => h.2.2.at (i := i) e
  | [], _, _, _, _, _, e => by cases e
  | _ :: _, [], _, _, _, h, _ => h.elim
theorem Ents.find {H : Hp} (m : Nat) : ∀ {kvs : List (Key × V)} {es : List Ent}, Ents H kvs es → (∀ l, hasKey es m = some l → ∃ r, valV kvs (Sum.inl (m : Int)) = some (.ref r) ∧ H r = some (.lst (nats l))) ∧ (hasKey es m = none → valV kvs (Sum.inl (m : Int)) = none)
  | [], [], _ => ⟨fun l h => (by cases h), fun _ => rfl⟩
  | kv :: kvs, e :: es, ⟨h1, ⟨r, h2, h3⟩, h4⟩ => by
    obtain ⟨i1, i2⟩ := Ents.find m h4
    unfold hasKey at i1 i2 ⊢
    rw [List.find?_cons]
    by_cases hm : e.1 = m
    · have hb : (e.1 == m) = true := by simpa using hm
      rw [hb]
      refine ⟨fun l hl => ?_, fun hl => by cases hl⟩
      have hl' : e.2 = l := Option.some.inj hl
      subst hl'
      refine ⟨r, ?_, h3⟩
      rw [valV_pos (by rw [h1, hm]), h2]
    · have hb : (e.1 == m) = false := by simpa using hm
      rw [hb]
      have hne : ¬ kv.1 = Sum.inl (m : Int) := by
        rw [h1]
        intro z
        have := Sum.inl.inj z
        omega
      rw [valV_neg hne]
      exact ⟨i1, i2⟩
  | [], _ :: _, h => h.elim
  | _ :: _, [], h => h.elim
theorem has_any (es : List Ent) (m : Nat) : (hasKey es m).isSome = es.any fun x => x.1 == m := by
  unfold hasKey
  rw [Option.isSome_map, Bool.eq_iff_iff, List.find?_isSome, List.any_eq_true]
theorem Ents.any {H : Hp} {kvs : List (Key × V)} {es : List Ent} (h : Ents H kvs es) (m : Nat) : (valV kvs (Sum.inl (m : Int))).isSome = es.any fun x => x.1 == m := by
  obtain ⟨h1, h2⟩ := h.find m
  rw [← has_any]
  cases e : hasKey es m with
  | none => rw [h2 e] <;> rfl
  | some l =>
    obtain ⟨r, h3, _⟩ := h1 l e
    rw [h3] <;> rfl
def RowsD (H : Hp) (d : Addr) (es : List Ent) : Prop := ∃ kvs, H d = some (.dK kvs) ∧ Ents H kvs es
theorem RowsD.same {H H' : Hp} {d : Addr} {es : List Ent} (s : Same H H') (h : RowsD H d es) : RowsD H' d es := by
  obtain ⟨kvs, h1, h2⟩ := h
  exact ⟨kvs, s _ _ h1, h2.mono fun b l e => s b _ e⟩
/-- keys apart and small -/
structure AccOk (es : List Ent) : Prop where
  nd : (es.map (·.1)).Nodup
  lt : ∀ e ∈ es, e.1 < 512
theorem AccOk.len {es : List Ent} (h : AccOk es) : es.length ≤ 512 := by
  have := nodup_sub_len h.nd (b := List.range 512) fun x hx => by
    obtain ⟨e, he, rfl⟩ := List.mem_map.mp hx
    exact List.mem_range.mpr (h.lt e he)
  rwa [List.length_map, List.length_range] at this
theorem AccOk.ins {es : List Ent} {e : Ent} (h : AccOk es) (he : e.1 < 512) : AccOk (insAbs es e) := ⟨ins_nd h.nd, fun x hx => by
  rcases ins_mem hx with hx | rfl
  · exact h.lt x hx
  · exact he⟩
theorem or512 {a b : Nat} (ha : a < 512) (hb : b < 512) : a ||| b < 512 := Nat.or_lt_two_pow (n := 9) ha hb
abbrev sLonger : Stmt := top 7
def spLonger : Sp := fun vs H Q _ => ∃ (n : Nat) (sp d : Addr) (near spr : List Nat) (rows : List Ent), vs = [nat n, .ref sp, .ref d] ∧ n ≤ 9 ∧ H sp = some (.lst (nats spr)) ∧ spr.length = 2 ^ n ∧ (∀ b, b < 2 ^ n → spr.getD b 0 = spreadM near b ∧ spreadM near b < 2 ^ n) ∧ RowsD H d rows ∧
  (∀ e ∈ rows, e.1 < 2 ^ n ∧ e.2.length ≤ 9) ∧ ∀ p H', H p = none → Same H H' → RowsD H' p (longF near n rows) → Q (.ref p) H'
theorem pow512 {n : Nat} (h : n ≤ 9) : 2 ^ n ≤ 512 := Nat.pow_le_pow_right (n := 2) (by decide) h
def accF (near : List Nat) (n : Nat) (rows : List Ent) (m : Nat) : List Ent := ((rows.take m).flatMap (pieceF near n)).foldl insAbs []
def accI (near : List Nat) (e : Ent) (acc : List Ent) (i : Nat) : List Ent := ((List.range i).map fun p => ((spreadM near e.1 ||| 2 ^ p, e.2 ++ [p]) : Ent)).foldl insAbs acc
theorem accI_succ (near : List Nat) (e : Ent) (acc : List Ent) (i : Nat) : accI near e acc (i + 1) = insAbs (accI near e acc i) (spreadM near e.1 ||| 2 ^ i, e.2 ++ [i]) := by
  unfold accI
  rw [List.range_succ, List.map_append, List.foldl_append] <;> rfl
theorem accF_succ {near : List Nat} {n : Nat} {rows : List Ent} {m : Nat} {e : Ent} (h : rows[m]? = some e) : accF near n rows (m + 1) = accI near e (accF near n rows m) n := by
  unfold accF accI
  rw [take_snoc h, List.flatMap_append, List.foldl_append, List.flatMap_cons, List.flatMap_nil, List.append_nil] <;> rfl
section
variable {P : Program} {w : World} {K : PySem.W.Frag} {mg : Str → Option Value} {base : Heap}
theorem scLonger : FnScope ["size", "spreads", "rows", "longer", "burnt", "row", "place", "together"] ["size", "spreads", "rows"] (defScope sLonger) := ⟨rfl, rfl, rfl, by decide +kernel, rfl, by decide +kernel, by decide +kernel⟩
theorem ok_longer {f : Addr} {fd : FuncData} (F : Fun K "one_longer" "one_longer" sLonger f fd) (T : TxtC mg) : FnOk P w K mg base CX0 1 f fd ["size", "spreads", "rows"] spLonger := by
  refine F.ok scLonger (fun vs H Q E h => ?_) (fun cdv A outer s H vs Q E hr h => ?_)
  · obtain ⟨n, sp, d, near, spr, rows, rfl, _⟩ := h
    rfl
  · obtain ⟨n, sp, d, near, spr, rows, rfl, hn, hsp, hlen, hspr, ⟨kvs, hd, hE⟩, hrows, k⟩ := h
    have hu := hu_of hr
    have h512 := pow512 hn
    refine ⟨_, pss_cons (ps_set (i := 3) scLonger.nd rfl (Or.inl rfl) pe_dnewK)
      (pss_cons (ps_lock (ps_for PassesOwn.never rfl (pi_items (pv 2)) (pg_tup rfl (pgs_cons (pg_name (i := 4) scLonger.nd rfl (Or.inl rfl)) (pgs_cons (pg_name (i := 5) scLonger.nd rfl (Or.inl rfl)) pgs_nil)))
        (pss_one (ps_for PassesOwn.never rfl (pi_range1 rfl T.range (pa_cons (pv 0) pa_nil)) (pg_name (i := 6) scLonger.nd rfl (Or.inl rfl))
          (pss_cons (ps_set (i := 7) scLonger.nd rfl (Or.inl rfl) (pe_op op_or (pe_ix ix_list (pv 1) (pv 4) (fun _ _ => rfl)) (pe_op op_shl pe_int (pv 6))))
          (pss_one (ps_if (pt_cmp (pc_dnotin hu (pv 7) (pv 3))) (pss_one (ps_dput hu (pv 3) (pv 7) (pe_op op_cat (pv 5) (pe_lst (pa_cons (pv 6) pa_nil))) rfl)) pss_nil)))))))
      (pss_one (ps_ret (pv 3)))), ?_⟩
    intro g hg
    have hdg : d ≠ g := ne_of_none hd hg
    have hspg : sp ≠ g := ne_of_none hsp hg
    have hspd : sp ≠ d := ne_of hsp hd (by intro z; cases z)
    refine ⟨d, .dK kvs, by rw [upd_ne hdg]; exact hd, trivial, fun od => ?_⟩
    let KP : Hp → Prop := fun H' => H' d = some (.frz od (.dK kvs)) ∧ ∀ b o, H b = some o → b ≠ d → H' b = some o
    have kp0 : KP (L2.upd (L2.upd H g (.dK [])) d (.frz od (.dK kvs))) := ⟨upd_same, fun b o e hb => by rw [upd_ne hb, upd_ne (ne_of_none e hg)]; exact e⟩
    have kpu : ∀ {H' : Hp} {p : Addr} {o : HO}, KP H' → H p = none → p ≠ d → KP (L2.upd H' p o) := fun {H' p o} ⟨h1, h2⟩ hp hpd => ⟨by rw [upd_ne (Ne.symm hpd)]; exact h1, fun b u e hb => by rw [upd_ne (ne_of_none e hp)]; exact h2 b u e hb⟩
    have kpn : ∀ {H' : Hp} {p : Addr}, KP H' → H' p = none → H p = none ∧ p ≠ d := fun {H' p} ⟨h1, h2⟩ hp => by
      have hpd : p ≠ d := fun z => by rw [z, h1] at hp; cases hp
      refine ⟨?_, hpd⟩
      cases q : H p with
      | none => rfl
      | some u => rw [h2 p u q hpd] at hp; cases hp
    refine ⟨_, rfl, d, od, kvs, rfl, kp0.1, for_items (Pv := fun m σ H2 => ∃ v4 v5 v6 v7, σ = [some (nat n), some (.ref sp), some (.ref d), some (.ref g), v4, v5, v6, v7] ∧ KP H2 ∧ RowsD H2 g (accF near n rows m) ∧ AccOk (accF near n rows m))
      ⟨_, _, _, _, rfl, kp0, ⟨[], by rw [upd_ne (Ne.symm hdg), upd_same], trivial⟩, ⟨by simp [accF], fun e he => by cases he⟩⟩ (fun m σ H2 _ ⟨_, _, _, _, _, kp, _⟩ => kp.1) ?_ ?_⟩
    · rintro m kk vv σ H2 T2 hkv ⟨v4, v5, v6, v7, rfl, kp2, R2, ok2⟩ hT2
      obtain ⟨e, he, rfl, r, rfl, hr1⟩ := hE.at hkv
      obtain ⟨hen, he9⟩ := hrows e (List.mem_of_getElem? he)
      obtain ⟨hs1, hs2⟩ := hspr e.1 hen
      have hrd : r ≠ d := ne_of hr1 hd (by intro z; cases z)
      obtain ⟨hT2a, hT2d⟩ := kpn kp2 hT2
      refine ⟨T2, _, rfl, SqT.of upd_same, rfl, _, _, rfl, _, _, rfl, rfl, ?_⟩
      have kp3 : KP (L2.upd H2 T2 (.tup [kV (Sum.inl (e.1 : Int)), .ref r])) := kpu kp2 hT2a hT2d
      have R3 : RowsD (L2.upd H2 T2 (.tup [kV (Sum.inl (e.1 : Int)), .ref r])) g _ := R2.same (Same.upd (Same.refl H2) hT2)
      generalize L2.upd H2 T2 (.tup [kV (Sum.inl (e.1 : Int)), .ref r]) = H3 at kp3 R3
      refine ⟨_, rfl, (n : Int), rfl, by omega, by omega, ?_⟩
      rw [Int.toNat_natCast]
      refine for_range (fun i σ H' => ∃ v6 v7, σ = [some (nat n), some (.ref sp), some (.ref d), some (.ref g), some (nat e.1), some (.ref r), v6, v7] ∧ KP H' ∧ RowsD H' g (accI near e (accF near n rows m) i) ∧ AccOk (accI near e (accF near n rows m) i))
        ⟨_, _, rfl, kp3, R3, ok2⟩ ?_ ?_
      · rintro i σ H4 hi ⟨w6, w7, rfl, kp4, R4, ok4⟩
        have hr4 := kp4.2 _ _ hr1 hrd
        have hsp4 := kp4.2 _ _ hsp hspd
        have step := accI_succ near e (accF near n rows m) i
        generalize accI near e (accF near n rows m) i = acc at R4 ok4 step
        have h2i : 2 ^ i < 512 := Nat.lt_of_lt_of_le (one_lt hi) h512
        rw [Int.zero_add]
        refine ⟨_, rfl, _, rfl, sp, _, (e.1 : Int), _, rfl, rfl, SqL.of hsp4, atI_nat (nats_at (by omega)), _, rfl, _, _, rfl, rfl, cpow_one (by omega) (by omega), _, _, rfl, rfl, ?_⟩
        rw [hs1, shl_one]
        obtain ⟨ks, hks, hEn⟩ := R4
        have hany := hEn.any (spreadM near e.1 ||| 2 ^ i)
        have hlen' := hEn.len
        have hacc := ok4.len
        have ok5 : AccOk (insAbs acc (spreadM near e.1 ||| 2 ^ i, e.2 ++ [i])) := ok4.ins (or512 (Nat.lt_of_lt_of_le hs2 h512) h2i)
        have hkey : kV (Sum.inl ((spreadM near e.1 ||| 2 ^ i : Nat) : Int)) = V.int (Builtin.bitOr ((spreadM near e.1 : Nat) : Int) ((2 ^ i : Nat) : Int)) := (or_nat _ _).symm
        have hget := DGet.k (k := Sum.inl ((spreadM near e.1 ||| 2 ^ i : Nat) : Int)) hks
        rw [hkey] at hget
        refine ⟨_, rfl, _, rfl, g, _, rfl, hget, _, rfl, ?_⟩
        rw [hany]
        refine ite2 (fun hc => ?_) fun hc => ?_
        · have hno : valV ks (Sum.inl ((spreadM near e.1 ||| 2 ^ i : Nat) : Int)) = none := by
            cases q : valV ks (Sum.inl ((spreadM near e.1 ||| 2 ^ i : Nat) : Int)) with
            | none => rfl
            | some z =>
              rw [q] at hany
              rw [← hany] at hc
              cases hc
          have hins : insAbs acc (spreadM near e.1 ||| 2 ^ i, e.2 ++ [i]) = acc ++ [(spreadM near e.1 ||| 2 ^ i, e.2 ++ [i])] := by
            unfold insAbs
            rw [if_neg (by intro z; rw [z] at hc; cases hc)]
          refine ⟨_, rfl, _, rfl, (by show 1 ≤ sizeLine; decide), fun l hl => ?_⟩
          have hlr : r ≠ l := ne_of_none hr4 hl
          have hgl : g ≠ l := ne_of_none hks hl
          refine ⟨r, l, _, _, rfl, rfl, by rw [upd_ne hlr]; exact hr4, upd_same, ?_, fun q hq => ?_⟩
          · rw [nats_len]
            exact Nat.le_of_lt (small1000 (by show e.2.length + 1 ≤ 1000; omega))
          · have hql : q ≠ l := fun z => by rw [z, upd_same] at hq; cases hq
            have hq3 : H4 q = none := by rw [upd_ne hql] at hq; exact hq
            have hgq : g ≠ q := ne_of_none hks hq3
            have hput := DPut.k (k := Sum.inl ((spreadM near e.1 ||| 2 ^ i : Nat) : Int)) (v := .ref q) (H := L2.upd (L2.upd H4 l (.lst [nat i])) q (.lst (nats e.2 ++ [nat i]))) (a := g) (kvs := ks) (by rw [upd_ne hgq, upd_ne hgl]; exact hks) (small1000 (by omega))
            rw [hkey] at hput
            refine ⟨_, rfl, _, rfl, g, _, rfl, hput, ?_⟩
            have hg0 : H g = none := hg
            obtain ⟨hla, hld⟩ := kpn kp4 hl
            obtain ⟨hqa, hqd⟩ := kpn kp4 hq3
            refine ⟨_, _, rfl, kpu (kpu (kpu kp4 hla hld) hqa hqd) hg0 (Ne.symm hdg), ?_, ?_⟩
            · rw [step, hins, putK_new _ hno]
              refine ⟨_, upd_same, Ents.snoc (e := (spreadM near e.1 ||| 2 ^ i, e.2 ++ [i])) rfl ⟨q, rfl, ?_⟩ (hEn.mono fun b l' e' => ?_)⟩
              · rw [upd_ne (Ne.symm hgq), upd_same]
                show some (HO.lst (nats e.2 ++ [nat i])) = some (HO.lst (nats (e.2 ++ [i])))
                rw [nats, nats, List.map_append] <;> rfl
              · have h1 : b ≠ g := ne_of e' hks (by intro z; cases z)
                rw [upd_ne h1, upd_ne (ne_of_none e' hq3), upd_ne (ne_of_none e' hl)]
                exact e'
            · rw [step]; exact ok5
        · refine ⟨_, _, rfl, kp4, ?_, ?_⟩
          · have hins : insAbs acc (spreadM near e.1 ||| 2 ^ i, e.2 ++ [i]) = acc := by
              unfold insAbs
              rw [if_pos (by simpa using hc)]
            rw [step, hins]
            exact ⟨ks, hks, hEn⟩
          · rw [step]; exact ok5
      · rintro σ H4 ⟨w6, w7, rfl, kp4, R4, ok4⟩
        rw [← accF_succ he] at R4 ok4
        exact ⟨_, _, _, _, rfl, kp4, R4, ok4⟩
    · rintro σ H' ⟨v4, v5, v6, v7, rfl, kp, R, ok⟩
      rw [hE.len] at R
      have R : RowsD H' g (longF near n rows) := by
        unfold accF at R
        rw [List.take_length] at R
        exact R
      refine ⟨kp.1, _, rfl, k g _ hg (fun b o e => ?_) ?_⟩
      · by_cases hb : b = d
        · subst hb
          rw [upd_same, ← hd, e]
        · rw [upd_ne hb]; exact kp.2 b o e hb
      · obtain ⟨ks, hks, hEn⟩ := R
        refine ⟨ks, by rw [upd_ne (Ne.symm hdg)]; exact hks, hEn.mono fun b l e => ?_⟩
        have hb : b ≠ d := ne_of e kp.1 (by intro z; cases z)
        rw [upd_ne hb]; exact e
end
end LF

end

section
set_option Elab.async false
set_option linter.all false
set_option maxRecDepth 100000
set_option maxHeartbeats 2000000
namespace LF
open PySem PySem.Spec PyProof.Rows L2
open PySem.W (Codec)
abbrev sAllSp : Stmt := top 5
abbrev sShort : Stmt := top 8
abbrev sFewest : Stmt := top 9
abbrev sFirst : Stmt := top 10
theorem RowsD.upd {H : Hp} {d p : Addr} {o : HO} {es : List Ent} (h : RowsD H d es) (hp : H p = none) : RowsD (L2.upd H p o) d es := h.same (Same.upd (Same.refl H) hp)
/-! a display is kept from being run while its rule is written down: its parts are letters -/
theorem pss_of {X : Cx} {b b' : List Stmt} {t : TS} (e : b = b') (h : PSs X b' t) : PSs X b t := e ▸ h
theorem ps_rowsE {X : Cx} {i : Nat} {x : Str} {pp p2 pos pos' : Pos} {ke : Expr} {tk : TE} {keys : List (Option Expr)} {values : List Expr} (hk : keys = [some ke]) (hv : values = [.List [] p2]) (he : PE X ke tk) (hN : X.N.Nodup) (hi : X.N[i]? = some x) (hx : Loc X.env.scope x)
    (hf : X.fn x = true ∨ X.env.scope.names.lookup x = some .local) : PS X (.Assign [.Name x pp] (.Dict keys values pos) pos') (tAsg (tDisp [(tk, tLst tNil)]) (gName i)) := by
  have hp : PPs X pos keys values [(tk, tLst tNil)] := by
    rw [hk, hv]
    exact pps_cons he (pe_lst pa_nil) pps_nil
  exact ps_set hN hi hx (pe_disp hp (by rw [hk]; rfl) (by rw [hk, hv]; rfl) (by rw [hk]; intro z; cases z) (by rw [hk]; show 1 ≤ 15; decide)) rfl hf
def bShort (i : Nat) : Stmt := (defBody sShort).getD i (.Pass ⟨0, 0, 0, 0⟩)
theorem bodyShort : ∃ (keys : List (Option Expr)) (values : List Expr) (pp p1 p2 pos pos' : Pos), keys = [some (.Name "burnt" p1)] ∧ values = [.List [] p2] ∧ defBody sShort = [bShort 0, bShort 1, .Assign [.Name "rows" pp] (.Dict keys values pos) pos', bShort 3, bShort 4] :=
  ⟨_, _, _, _, _, _, _, rfl, rfl, rfl⟩
def bFirst (i : Nat) : Stmt := (defBody sFirst).getD i (.Pass ⟨0, 0, 0, 0⟩)
theorem bodyFirst : ∃ (keys : List (Option Expr)) (values : List Expr) (pp p1 p2 pos pos' : Pos), keys = [some (.Constant (.int 0) 0 p1)] ∧ values = [.List [] p2] ∧ defBody sFirst = [bFirst 0, .Assign [.Name "rows" pp] (.Dict keys values pos) pos', bFirst 2, bFirst 3] :=
  ⟨_, _, _, _, _, _, _, rfl, rfl, rfl⟩
def spAllSp : Sp := fun vs H Q _ => ∃ (a : Addr) (near : List Nat), vs = [.ref a] ∧ H a = some (.lst (nats near)) ∧ near.length ≤ 9 ∧ gives H (allSp near) Q
def spShort : Sp := fun vs H Q _ => ∃ (a : Addr) (near : List Nat) (ab : Su120.Abs) (b : Nat), vs = [.ref a, nat b] ∧ H a = some (.lst (nats near)) ∧ NearOk ab near ∧ ab.n ≤ 9 ∧ b < 2 ^ ab.n ∧ ∀ r H' k row, Same H H' → H' r = some (.lst (nats row)) → Short near ab.n b k row → Q (.ref r) H'
def spFewest : Sp := fun vs H Q _ => ∃ (ab : Su120.Abs) (j : Addr), vs = [nat ab.n, .ref j] ∧ JoinsAt H j ab.joins ∧ 1 ≤ ab.n ∧ ab.n ≤ 9 ∧ (∀ x ∈ ab.joins, x.1 < x.2 ∧ x.2 < ab.n) ∧ ∀ H', Same H H' → Q (nat ab.turns) H'
def rowV (H : Hp) (r : Option (List Nat)) (v : V) : Prop := match r with
  | none => v = .non
  | some l => ∃ p, v = .ref p ∧ H p = some (.lst (nats l))
def spFirst : Sp := fun vs H Q _ => ∃ (a : Addr) (near : List Nat) (ab : Su120.Abs) (k : Nat), vs = [.ref a, nat k] ∧ H a = some (.lst (nats near)) ∧ NearOk ab near ∧ 1 ≤ ab.n ∧ ab.n ≤ 9 ∧ k ≤ 9 ∧ ∀ v H', Same H H' → rowV H' (ab.row k) v → Q v H'
section
variable {P : Program} {w : World} {K : PySem.W.Frag} {mg : Str → Option Value} {base : Heap}
theorem scAllSp : FnScope ["near", "spreads", "beside", "wider"] ["near"] (defScope sAllSp) := ⟨rfl, rfl, rfl, by decide +kernel, rfl, by decide +kernel, by decide +kernel⟩
theorem ok_allSp {f : Addr} {fd : FuncData} (F : Fun K "all_spreads" "all_spreads" sAllSp f fd) : FnOk P w K mg base CX0 1 f fd ["near"] spAllSp := by
  refine F.ok scAllSp (fun vs H Q E h => ?_) (fun cdv A outer s H vs Q E hr h => ?_)
  · obtain ⟨a, near, rfl, _⟩ := h
    rfl
  · obtain ⟨a, near, rfl, ha, hn, k⟩ := h
    refine ⟨_, pss_cons (ps_set (i := 1) scAllSp.nd rfl (Or.inl rfl) (pe_lst (pa_cons pe_int pa_nil)))
      (pss_cons (ps_for PassesOwn.never rfl (pi_list (pv 0)) (pg_name (i := 2) scAllSp.nd rfl (Or.inr rfl))
        (pss_one (ps_set (i := 1) scAllSp.nd rfl (Or.inl rfl) (pe_op op_cat (pv 1) (pe_lc (own := [("wider", 3)]) rfl scAllSp.nd (pi_list (pv 1)) (blkOk_by (by show blkC ["near", "spreads", "beside", "wider"] (defScope sAllSp) _ _ = true; decide +kernel))
          (fun _ _ _ _ _ => pg_name (i := 3) scAllSp.nd rfl (Or.inl rfl)) (fun _ _ _ _ _ => pts_nil) (fun _ _ _ _ _ => pe_op op_or (pv 3) (pv 2)))))))
      (pss_one (ps_ret (pv 1)))), ?_⟩
    refine ⟨(by show 1 ≤ sizeLine; decide), fun s0 hs0 => ?_⟩
    have S0 : Same H (L2.upd H s0 (.lst [.int 0])) := Same.upd (Same.refl H) hs0
    refine ⟨_, rfl, a, rfl, ⟨_, SqL.of (S0 _ _ ha)⟩, for_list (K := K) (a := a) (xs := nats near) (fun i σ H' => ∃ s1 v2 v3, σ = [some (.ref a), some (.ref s1), v2, v3] ∧ Same H H' ∧ H s1 = none ∧ H' s1 = some (.lst (nats ((near.take i).foldl spStep [0]))))
      ⟨s0, _, _, rfl, S0, hs0, upd_same⟩ (fun i σ H' _ ⟨_, _, _, _, S, _⟩ => SqL.of (S _ _ ha)) ?_ ?_⟩
    · rintro i y σ H' hi ⟨s1, v2, v3, rfl, S1, hs1, hl1⟩
      obtain ⟨x, hx, rfl⟩ := nats_get hi
      have hi9 : i < near.length := (List.getElem?_eq_some_iff.mp hx).1
      obtain ⟨hz, _⟩ := allSp_ok near i (by omega)
      obtain ⟨hz2, _⟩ := allSp_ok near (i + 1) (by omega)
      have h512 := pow512 (n := i) (by omega)
      have h512' := pow512 (n := i + 1) (by omega)
      have est : (near.take (i + 1)).foldl spStep [0] = spStep ((near.take i).foldl spStep [0]) x := by
        rw [take_snoc hx, List.foldl_append] <;> rfl
      rw [est] at hz2
      generalize (near.take i).foldl spStep [0] = cur at hl1 hz est hz2
      refine ⟨_, rfl, _, rfl, s1, rfl, ⟨_, SqL.of hl1⟩, fun D hD => ?_⟩
      have hs1D : s1 ≠ D := ne_of_none hl1 hD
      refine lc_list (K := K) (a := s1) (xs := nats cur) (fun m H2 => H2 = L2.upd H' D (.lst (nats ((cur.take m).map fun w => w ||| x)))) rfl (fun m H2 _ e => by rw [e]; exact SqL.of (by rw [upd_ne hs1D]; exact hl1)) ?_ ?_
      · rintro m y H2 hm rfl
        obtain ⟨c, hc, rfl⟩ := nats_get hm
        have hm5 : m < cur.length := (List.getElem?_eq_some_iff.mp hc).1
        refine ⟨rfl, ?_⟩
        refine yes_ ?_
        rw [if_pos rfl]
        refine ⟨_, rfl, _, rfl, _, _, rfl, rfl, _, upd_same, ?_, ?_⟩
        · rw [nats_len, List.length_map, List.length_take]
          exact small1000 (by omega)
        · rw [upd_upd, take_snoc hc, List.map_append, nats, nats, List.map_append]
          show L2.upd H' D (.lst (_ ++ [V.int (Builtin.bitOr (c : Int) (x : Int))])) = _
          rw [or_nat] <;> rfl
      · rintro H2 rfl
        rw [nats_len, List.take_length]
        refine ⟨s1, D, _, _, rfl, rfl, by rw [upd_ne hs1D]; exact hl1, upd_same, ?_, fun q hq => ?_⟩
        · rw [nats_len, nats_len, List.length_map]
          exact Nat.le_of_lt (small1000 (by omega))
        · have hD0 : H D = none := S1.free hD
          have hqD : q ≠ D := fun z => by rw [z, upd_same] at hq; cases hq
          rw [upd_ne hqD] at hq
          refine ⟨q, some (nat x), _, rfl, Same.upd (Same.upd S1 hD0) (S1.free hq), S1.free hq, ?_⟩
          rw [upd_same, est]
          unfold spStep nats
          rw [List.map_append]
    · rintro σ H' ⟨s1, v2, v3, rfl, S1, hs1, hl1⟩
      rw [nats_len, List.take_length] at hl1
      exact ⟨_, rfl, k s1 H' hs1 S1 hl1⟩
theorem scShort : FnScope ["near", "burnt", "whole", "spreads", "rows"] ["near", "burnt"] (defScope sShort) := ⟨rfl, rfl, rfl, by decide +kernel, rfl, by decide +kernel, by decide +kernel⟩
theorem rows9 {ab : Su120.Abs} {near : List Nat} {b k : Nat} {rows : List Ent} (N : NearOk ab near) (hb : b < 2 ^ ab.n) (hk : k ≤ 9) (RF : RowsF near ab.n b k rows) : ∀ e ∈ rows, e.1 < 2 ^ ab.n ∧ e.2.length ≤ 9 := fun e he => by
  obtain ⟨h1, h2⟩ := RF.lt N hb e he
  exact ⟨h1, by omega⟩
theorem spr_at {ab : Su120.Abs} {near : List Nat} (N : NearOk ab near) : ∀ c, c < 2 ^ ab.n → (allSp near).getD c 0 = spreadM near c ∧ spreadM near c < 2 ^ ab.n := fun c hc => ⟨allSp_at near (by rw [N.len]; exact hc), spread_lt N c⟩
theorem ok_short {f : Addr} {fd : FuncData} (F : Fun K "shortest_row" "shortest_row" sShort f fd) (T : TxtC mg) (dE : Def P w K mg base 1 "everything" ["size"] spEvery) (dS : Def P w K mg base 1 "all_spreads" ["near"] spAllSp) (dL : Def P w K mg base 1 "one_longer" ["size", "spreads", "rows"] spLonger) :
    FnOk P w K mg base CX0 2 f fd ["near", "burnt"] spShort := by
  refine F.ok scShort (fun vs H Q E h => ?_) (fun cdv A outer s H vs Q E hr h => ?_)
  · obtain ⟨a, near, ab, b, rfl, _⟩ := h
    rfl
  · obtain ⟨a, near, ab, b, rfl, ha, N, hn, hb, k⟩ := h
    have hu := hu_of hr
    obtain ⟨keys, values, pp, p1, p2, pos, pos', hk, hv, hbd⟩ := bodyShort
    refine ⟨_, pss_of hbd (pss_cons (ps_set (i := 2) scShort.nd rfl (Or.inl rfl) (pe_def dE hr (by decide) rfl (pa_cons (pe_len rfl T.len (pa_cons (pv 0) pa_nil)) pa_nil)))
      (pss_cons (ps_set (i := 3) scShort.nd rfl (Or.inl rfl) (pe_def dS hr (by decide) rfl (pa_cons (pv 0) pa_nil)))
      (pss_cons (ps_rowsE (i := 4) hk hv (pv 1) scShort.nd rfl (Or.inl rfl) (.inl rfl))
      (pss_cons (ps_while PassesOwn.never (pt_cmp (pc_dnotin hu (pv 2) (pv 4)))
        (pss_one (ps_set (i := 4) scShort.nd rfl (Or.inl rfl) (pe_def dL hr (by decide) rfl (pa_cons (pe_len rfl T.len (pa_cons (pv 0) pa_nil)) (pa_cons (pv 3) (pa_cons (pv 4) pa_nil)))))))
      (pss_one (ps_ret (pe_dget hu (pv 4) (pv 2) (fun _ _ => rfl)))))))), ?_⟩
    refine ⟨_, rfl, a, _, rfl, .inl (SqL.of ha), ab.n, by rw [nats_len, N.len] <;> rfl, hn, ?_⟩
    refine ⟨_, rfl, a, near, rfl, ha, by rw [N.len]; exact hn, fun sp H0 hsp S00 hsp0 => ?_⟩
    intro d hd
    refine ⟨_, rfl, Nat.zero_le _, fun e0 he0 => ?_⟩
    have hde0 : d ≠ e0 := fun z => by rw [← z, upd_same] at he0; cases he0
    have he0H : H0 e0 = none := by rw [upd_ne (Ne.symm hde0)] at he0; exact he0
    refine ⟨by rw [upd_ne hde0]; exact upd_same, [(Sum.inl (b : Int), .ref e0)], rfl, by show 1 ≤ 15; decide, ?_⟩
    have R0 : RowsD (L2.upd (L2.upd (L2.upd H0 d (.dK [])) e0 (.lst [])) d (.dK (mergeK [] [(Sum.inl (b : Int), .ref e0)]))) d [(b, [])] :=
      ⟨_, upd_same, rfl, ⟨e0, rfl, by rw [upd_ne (Ne.symm hde0), upd_same]; rfl⟩, trivial⟩
    have S01 : Same H0 (L2.upd (L2.upd (L2.upd H0 d (.dK [])) e0 (.lst [])) d (.dK (mergeK [] [(Sum.inl (b : Int), .ref e0)]))) := Same.upd (Same.upd (Same.upd (Same.refl H0) hd) he0H) hd
    have S0 := S00.trans S01
    have hsp1 := S01 _ _ hsp0
    generalize L2.upd (L2.upd (L2.upd H0 d (.dK [])) e0 (.lst [])) d (.dK (mergeK [] [(Sum.inl (b : Int), .ref e0)])) = H1 at R0 S0 hsp1
    refine ⟨fun m σ H' => ∃ (k : Nat) (d' : Addr) (rows : List Ent), m = ab.n - k ∧ k ≤ ab.n ∧ σ = [some (.ref a), some (nat b), some (nat (2 ^ ab.n - 1)), some (.ref sp), some (.ref d')] ∧ Same H H' ∧ H' sp = some (.lst (nats (allSp near))) ∧ RowsD H' d' rows ∧ RowsF near ab.n b k rows ∧ ∀ j, j < k → rowF near ab.n b j = none,
      ⟨ab.n, 0, d, _, rfl, Nat.zero_le _, rfl, S0, hsp1, R0, rowsF_zero near ab.n b, fun j hj => absurd hj (Nat.not_lt_zero _)⟩, ?_⟩
    rintro m σ H' ⟨k', d', rows, rfl, hk', rfl, S, hsp', ⟨kvs, hd', hE⟩, R, hno⟩
    have hrow := R.has
    have hget := DGet.k (k := Sum.inl ((2 ^ ab.n - 1 : Nat) : Int)) hd'
    obtain ⟨hf1, hf2⟩ := hE.find (2 ^ ab.n - 1)
    refine ⟨_, rfl, _, rfl, d', _, rfl, hget, _, rfl, ?_⟩
    cases hc : hasKey rows (2 ^ ab.n - 1) with
    | some l =>
      obtain ⟨r, hv1, hr1⟩ := hf1 l hc
      rw [hc] at hrow
      rw [hv1]
      refine iteF ?_
      rw [hv1] at hget
      exact ⟨_, rfl, _, rfl, d', _, rfl, hget, k r H' k' l S hr1 ⟨hk', hrow.symm, hno⟩⟩
    | none =>
      rw [hf2 hc]
      refine iteT ?_
      rw [hc] at hrow
      have hk2 : k' < ab.n := by
        rcases Nat.lt_or_ge k' ab.n with z | z
        · exact z
        · have : k' = ab.n := by omega
          have h3 := rowF_n N hb
          have h4 : rowF near ab.n b ab.n = none := by rw [this] at hrow; exact hrow.symm
          rw [h4] at h3
          cases h3
      refine ⟨fun σ' H'' => ∃ (d2 : Addr) (rows2 : List Ent), σ' = [some (.ref a), some (nat b), some (nat (2 ^ ab.n - 1)), some (.ref sp), some (.ref d2)] ∧ Same H H'' ∧ H'' sp = some (.lst (nats (allSp near))) ∧ RowsD H'' d2 rows2 ∧ RowsF near ab.n b (k' + 1) rows2, ?_, ?_⟩
      · rintro σ' H'' ⟨d2, rows2, rfl, S2, hsp2, RD2, RA2⟩
        refine ⟨ab.n - (k' + 1), by omega, k' + 1, d2, rows2, rfl, by omega, rfl, S2, hsp2, RD2, RA2, fun j hj => ?_⟩
        rcases Nat.lt_or_ge j k' with z | z
        · exact hno j z
        · have : j = k' := by omega
          rw [this]; exact hrow.symm
      · refine ⟨_, rfl, a, _, rfl, .inl (SqL.of (S _ _ ha)), _, rfl, _, rfl, ?_⟩
        exact ⟨ab.n, sp, d', near, allSp near, rows, by rw [nats_len, N.len] <;> rfl, hn, hsp', by rw [allSp_len, N.len], spr_at N, ⟨kvs, hd', hE⟩, rows9 N hb (by omega) R, fun p H2 hp S2 RD => ⟨p, _, rfl, S.trans S2, S2 _ _ hsp', RD, longF_ok R⟩⟩
theorem scFewest : FnScope ["size", "joins"] ["size", "joins"] (defScope sFewest) := ⟨rfl, rfl, rfl, by decide +kernel, rfl, by decide +kernel, by decide +kernel⟩
theorem ok_fewest {f : Addr} {fd : FuncData} (F : Fun K "fewest_turns" "fewest_turns" sFewest f fd) (T : TxtB mg) (dN : Def P w K mg base 1 "near_places" ["size", "joins"] spNear) (dS : Def P w K mg base 2 "shortest_row" ["near", "burnt"] spShort) : FnOk P w K mg base CX0 3 f fd ["size", "joins"] spFewest := by
  refine F.ok scFewest (fun vs H Q E h => ?_) (fun cdv A outer s H vs Q E hr h => ?_)
  · obtain ⟨ab, j, rfl, _⟩ := h
    rfl
  · obtain ⟨ab, j, rfl, hJ, h1, h9, hlt, k⟩ := h
    refine ⟨_, pss_one (ps_ret (pe_len rfl T.len (pa_cons (pe_def dS hr (by decide) rfl (pa_cons (pe_def dN hr (by decide) rfl (pa_cons (pv 0) (pa_cons (pv 1) pa_nil))) (pa_cons pe_int pa_nil))) pa_nil))), ?_⟩
    have N : NearOk ab (nearM ab.n ab.joins) := nearM_ok ⟨hlt⟩
    refine ⟨_, rfl, _, rfl, ab.n, j, ab.joins, rfl, h9, hJ, hlt, fun p H1 hp S1 hp1 => ?_⟩
    refine ⟨p, _, ab, 0, rfl, hp1, N, h9, Nat.two_pow_pos _, fun r H2 kk row S2 hr2 Sh => ?_⟩
    refine ⟨r, _, rfl, .inl (SqL.of hr2), ?_⟩
    rw [nats_len, Sh.len, ← (Sh.best N h1).2]
    exact k _ (S1.trans S2)
theorem scFirst : FnScope ["near", "length", "spreads", "rows", "turn"] ["near", "length"] (defScope sFirst) := ⟨rfl, rfl, rfl, by decide +kernel, rfl, by decide +kernel, by decide +kernel⟩
theorem ok_first {f : Addr} {fd : FuncData} (F : Fun K "first_row_of" "first_row_of" sFirst f fd) (T : TxtC mg) (dE : Def P w K mg base 1 "everything" ["size"] spEvery) (dS : Def P w K mg base 1 "all_spreads" ["near"] spAllSp) (dL : Def P w K mg base 1 "one_longer" ["size", "spreads", "rows"] spLonger) :
    FnOk P w K mg base CX0 2 f fd ["near", "length"] spFirst := by
  refine F.ok scFirst (fun vs H Q E h => ?_) (fun cdv A outer s H vs Q E hr h => ?_)
  · obtain ⟨a, near, ab, b, rfl, _⟩ := h
    rfl
  · obtain ⟨a, near, ab, len, rfl, ha, N, h1, hn, hlen, k⟩ := h
    have hu := hu_of hr
    have hb : 0 < 2 ^ ab.n := Nat.two_pow_pos _
    obtain ⟨keys, values, pp, p1, p2, pos, pos', hk, hv, hbd⟩ := bodyFirst
    refine ⟨_, pss_of hbd (pss_cons (ps_set (i := 2) scFirst.nd rfl (Or.inl rfl) (pe_def dS hr (by decide) rfl (pa_cons (pv 0) pa_nil)))
      (pss_cons (ps_rowsE (i := 3) hk hv pe_int scFirst.nd rfl (Or.inl rfl) (.inl rfl))
      (pss_cons (ps_for PassesOwn.never rfl (pi_range1 rfl T.range (pa_cons (pv 1) pa_nil)) (pg_name (i := 4) scFirst.nd rfl (Or.inl rfl))
        (pss_one (ps_set (i := 3) scFirst.nd rfl (Or.inl rfl) (pe_def dL hr (by decide) rfl (pa_cons (pe_len rfl T.len (pa_cons (pv 0) pa_nil)) (pa_cons (pv 2) (pa_cons (pv 3) pa_nil)))))))
      (pss_one (ps_ret (pe_dget1 hu (pv 3) (pe_def dE hr (by decide) rfl (pa_cons (pe_len rfl T.len (pa_cons (pv 0) pa_nil)) pa_nil)) ⟨rfl, rfl, rfl, rfl⟩)))))), ?_⟩
    refine ⟨_, rfl, a, near, rfl, ha, by rw [N.len]; exact hn, fun sp H0 hsp S00 hsp0 => ?_⟩
    intro d hd
    refine ⟨Nat.zero_le _, fun e0 he0 => ?_⟩
    have hde0 : d ≠ e0 := fun z => by rw [← z, upd_same] at he0; cases he0
    have he0H : H0 e0 = none := by rw [upd_ne (Ne.symm hde0)] at he0; exact he0
    refine ⟨by rw [upd_ne hde0]; exact upd_same, [(Sum.inl 0, .ref e0)], rfl, by show 1 ≤ 15; decide, ?_⟩
    have R0 : RowsD (L2.upd (L2.upd (L2.upd H0 d (.dK [])) e0 (.lst [])) d (.dK (mergeK [] [(Sum.inl 0, .ref e0)]))) d [(0, [])] :=
      ⟨_, upd_same, rfl, ⟨e0, rfl, by rw [upd_ne (Ne.symm hde0), upd_same]; rfl⟩, trivial⟩
    have S01 : Same H0 (L2.upd (L2.upd (L2.upd H0 d (.dK [])) e0 (.lst [])) d (.dK (mergeK [] [(Sum.inl 0, .ref e0)]))) := Same.upd (Same.upd (Same.upd (Same.refl H0) hd) he0H) hd
    have S0 := S00.trans S01
    have hsp1 := S01 _ _ hsp0
    generalize L2.upd (L2.upd (L2.upd H0 d (.dK [])) e0 (.lst [])) d (.dK (mergeK [] [(Sum.inl 0, .ref e0)])) = H1 at R0 S0 hsp1
    refine ⟨_, rfl, (len : Int), rfl, by omega, by omega, ?_⟩
    rw [Int.toNat_natCast]
    refine for_range (fun i σ H' => ∃ (d' : Addr) (rows : List Ent) (v4 : Option V), σ = [some (.ref a), some (nat len), some (.ref sp), some (.ref d'), v4] ∧ Same H H' ∧ H' sp = some (.lst (nats (allSp near))) ∧ RowsD H' d' rows ∧ RowsF near ab.n 0 i rows)
      ⟨d, _, _, rfl, S0, hsp1, R0, rowsF_zero near ab.n 0⟩ ?_ ?_
    · rintro i σ H' hi ⟨d', rows, v4, rfl, S, hsp', RD, RF⟩
      refine ⟨_, rfl, a, _, rfl, .inl (SqL.of (S _ _ ha)), _, rfl, _, rfl, ?_⟩
      exact ⟨ab.n, sp, d', near, allSp near, rows, by rw [nats_len, N.len] <;> rfl, hn, hsp', by rw [allSp_len, N.len], spr_at N, RD, rows9 N hb (by omega) RF, fun p H2 hp S2 RD2 => ⟨p, _, _, rfl, S.trans S2, S2 _ _ hsp', RD2, longF_ok RF⟩⟩
    · rintro σ H' ⟨d', rows, v4, rfl, S, hsp', ⟨kvs, hd', hE⟩, RF⟩
      have hget := DGet.k (k := Sum.inl ((2 ^ ab.n - 1 : Nat) : Int)) hd'
      obtain ⟨hf1, hf2⟩ := hE.find (2 ^ ab.n - 1)
      refine ⟨_, rfl, d', rfl, .inl ⟨kvs, .inl hd'⟩, _, rfl, a, _, rfl, .inl (SqL.of (S _ _ ha)), ab.n, by rw [nats_len, N.len] <;> rfl, hn, _, hget, k _ H' S ?_⟩
      have hrow := RF.has
      rw [rowF_row N h1] at hrow
      rw [← hrow]
      cases hc : hasKey rows (2 ^ ab.n - 1) with
      | none => rw [hf2 hc] <;> rfl
      | some l =>
        obtain ⟨r, hv1, hr1⟩ := hf1 l hc
        rw [hv1]
        exact ⟨r, rfl, hr1⟩
end
end LF

end

section
set_option Elab.async false
set_option linter.all false
set_option maxRecDepth 100000
set_option maxHeartbeats 2000000
namespace LF
open PySem PySem.Spec PyProof.Rows L2
open PySem.W (Codec)
abbrev sReached : Stmt := top 12
abbrev sDist : Stmt := top 13
abbrev sSizes : Stmt := top 14
def spReached : Sp := fun vs H Q _ => ∃ (a : Addr) (near : List Nat) (p s : Nat), vs = [.ref a, nat p, nat s] ∧ H a = some (.lst (nats near)) ∧ near.length ≤ 9 ∧ p ≤ 9 ∧ ∀ H', Same H H' → Q (nat (ballM near (min s near.length) p)) H'
def farV (r : Option Nat) : V := match r with
  | none => .non
  | some k => nat k
def spDist : Sp := fun vs H Q _ => ∃ (a : Addr) (near : List Nat) (ab : Su120.Abs) (p q : Nat), vs = [.ref a, nat p, nat q] ∧ H a = some (.lst (nats near)) ∧ NearOk ab near ∧ ab.n ≤ 9 ∧ p < ab.n ∧ q < ab.n ∧ ∀ H', Same H H' → Q (farV (ab.far p q)) H'
def spSizes : Sp := fun vs H Q _ => ∃ (a : Addr) (near : List Nat) (ab : Su120.Abs), vs = [.ref a] ∧ H a = some (.lst (nats near)) ∧ NearOk ab near ∧ ab.n ≤ 9 ∧ gives H (sizesTo near ab.n ab.n) Q
structure TxtD (mg : Str → Option Value) : Prop extends TxtC mg where
  min : mg "min" = none
theorem min_int (s n : Nat) : (if (n : Int) < (s : Int) then (n : Int) else (s : Int)) = ((min s n : Nat) : Int) := by
  rcases Nat.lt_or_ge n s with h | h
  · rw [if_pos (by omega), Nat.min_eq_right (by omega)]
  · rw [if_neg (by omega), Nat.min_eq_left (by omega)]
section
variable {P : Program} {w : World} {K : PySem.W.Frag} {mg : Str → Option Value} {base : Heap}
theorem scReached : FnScope ["near", "place", "steps", "within", "step"] ["near", "place", "steps"] (defScope sReached) := ⟨rfl, rfl, rfl, by decide +kernel, rfl, by decide +kernel, by decide +kernel⟩
theorem ok_reached {f : Addr} {fd : FuncData} (F : Fun K "reached" "reached" sReached f fd) (T : TxtD mg) (dS : Def P w K mg base 1 "spread" ["near", "burnt"] spSpread) : FnOk P w K mg base CX0 2 f fd ["near", "place", "steps"] spReached := by
  refine F.ok scReached (fun vs H Q E h => ?_) (fun cdv A outer s H vs Q E hr h => ?_)
  · obtain ⟨a, near, p, s, rfl, _⟩ := h
    rfl
  · obtain ⟨a, near, p, st, rfl, ha, hn, hp, k⟩ := h
    refine ⟨_, pss_cons (ps_set (i := 3) scReached.nd rfl (Or.inl rfl) (pe_op op_shl pe_int (pv 1)))
      (pss_cons (ps_for PassesOwn.never rfl (pi_range1 rfl T.range (pa_cons (pe_callB (call_min2 rfl) rfl T.min boot_min (pa_cons (pv 2) (pa_cons (pe_len rfl T.len (pa_cons (pv 0) pa_nil)) pa_nil))) pa_nil)) (pg_name (i := 4) scReached.nd rfl (Or.inl rfl))
        (pss_one (ps_set (i := 3) scReached.nd rfl (Or.inl rfl) (pe_def dS hr (by decide) rfl (pa_cons (pv 0) (pa_cons (pv 3) pa_nil))))))
      (pss_one (ps_ret (pv 3)))), ?_⟩
    refine ⟨_, rfl, _, _, rfl, rfl, cpow_one (by omega) (by omega), ?_⟩
    refine ⟨_, rfl, _, rfl, a, _, rfl, .inl (SqL.of ha), _, _, rfl, ?_⟩
    rw [nats_len, min_int]
    have hmn : min st near.length ≤ 9 := Nat.le_trans (Nat.min_le_right _ _) hn
    refine ⟨((min st near.length : Nat) : Int), rfl, by omega, by omega, ?_⟩
    rw [Int.toNat_natCast]
    refine for_range (fun i σ H' => ∃ v4, σ = [some (.ref a), some (nat p), some (nat st), some (nat (ballM near i p)), v4] ∧ Same H H') ⟨none, ?_, Same.refl H⟩ ?_ ?_
    · show [some (V.ref a), some (nat p), some (nat st), some (V.int ((1 : Int) * 2 ^ ((p : Int)).toNat)), none] = _
      rw [shl_one] <;> rfl
    · rintro i σ H' hi ⟨v4, rfl, S⟩
      exact ⟨_, rfl, _, rfl, a, near, _, rfl, S _ _ ha, hn, fun H2 S2 => ⟨_, rfl, S.trans S2⟩⟩
    · rintro σ H' ⟨v4, rfl, S⟩
      exact ⟨_, rfl, k _ S⟩
theorem scDist : FnScope ["near", "place", "another", "steps"] ["near", "place", "another"] (defScope sDist) := ⟨rfl, rfl, rfl, by decide +kernel, rfl, by decide +kernel, by decide +kernel⟩
theorem ok_dist {f : Addr} {fd : FuncData} (F : Fun K "distance" "distance" sDist f fd) (T : TxtB mg) (dR : Def P w K mg base 2 "reached" ["near", "place", "steps"] spReached) : FnOk P w K mg base CX0 3 f fd ["near", "place", "another"] spDist := by
  refine F.ok scDist (fun vs H Q E h => ?_) (fun cdv A outer s H vs Q E hr h => ?_)
  · obtain ⟨a, near, ab, p, q, rfl, _⟩ := h
    rfl
  · obtain ⟨a, near, ab, p, q, rfl, ha, N, hn, hp, hq, k⟩ := h
    refine ⟨_, pss_cons (ps_for PassesOwn.never rfl (pi_range1 rfl T.range (pa_cons (pe_len rfl T.len (pa_cons (pv 0) pa_nil)) pa_nil)) (pg_name (i := 3) scDist.nd rfl (Or.inl rfl))
        (pss_one (ps_if (pt_cmpR op_ne (pe_op op_and (pe_def dR hr (by decide) rfl (pa_cons (pv 0) (pa_cons (pv 1) (pa_cons (pv 3) pa_nil)))) (pe_op op_shl pe_int (pv 2))) pe_int (nomark _)) (pss_one (ps_ret (pv 3))) pss_nil)))
      (pss_one (ps_ret pe_non)), ?_⟩
    refine ⟨_, rfl, a, _, rfl, .inl (SqL.of ha), (ab.n : Int), by rw [nats_len, N.len], by omega, by omega, ?_⟩
    rw [Int.toNat_natCast]
    refine for_range (fun i σ H' => ∃ v3, σ = [some (.ref a), some (nat p), some (nat q), v3] ∧ Same H H' ∧ ∀ j, j < i → (ballM near j p).testBit q = false) ⟨_, rfl, Same.refl H, fun j hj => absurd hj (Nat.not_lt_zero _)⟩ ?_ ?_
    · rintro i σ H' hi ⟨v3, rfl, S, hno⟩
      rw [Int.zero_add]
      refine ⟨_, rfl, _, rfl, _, rfl, a, near, p, i, rfl, S _ _ ha, by rw [N.len]; exact hn, by omega, fun H2 S2 => ?_⟩
      have em : min i near.length = i := by rw [N.len]; exact Nat.min_eq_left (by omega)
      refine ⟨_, rfl, _, _, rfl, rfl, cpow_one (by omega) (by omega), _, _, rfl, rfl, rfl, _, rfl, ?_⟩
      rw [em, shl_one, and_bit, Bool.not_not]
      refine ite2 (fun h => ?_) fun h => ?_
      · refine ⟨_, rfl, ?_⟩
        have e := far_some N hp hq (by omega) h hno
        have kk := k H2 (S.trans S2)
        rw [e] at kk
        exact kk
      · refine ⟨_, rfl, S.trans S2, fun j hj => ?_⟩
        rcases Nat.lt_or_ge j i with z | z
        · exact hno j z
        · have : j = i := by omega
          rw [this]; simpa using h
    · rintro σ H' ⟨v3, rfl, S, hno⟩
      have e : ab.far p q = none := far_none N hp hq fun j hj => by
        rcases Nat.lt_or_ge j ab.n with z | z
        · exact hno j z
        · rw [ball_rests N hp (by omega)]
          exact hno _ (by omega)
      have kk := k H' S
      rw [e] at kk
      exact kk
theorem scSizes : FnScope ["near", "sizes", "seen", "place", "together"] ["near"] (defScope sSizes) := ⟨rfl, rfl, rfl, by decide +kernel, rfl, by decide +kernel, by decide +kernel⟩
theorem ok_sizes {f : Addr} {fd : FuncData} (F : Fun K "part_sizes" "part_sizes" sSizes f fd) (T : TxtB mg) (dR : Def P w K mg base 2 "reached" ["near", "place", "steps"] spReached) (dP : Def P w K mg base 1 "places_of" ["burnt", "size"] spPlaces) : FnOk P w K mg base CX0 3 f fd ["near"] spSizes := by
  refine F.ok scSizes (fun vs H Q E h => ?_) (fun cdv A outer s H vs Q E hr h => ?_)
  · obtain ⟨a, near, ab, rfl, _⟩ := h
    rfl
  · obtain ⟨a, near, ab, rfl, ha, N, hn, k⟩ := h
    refine ⟨_, pss_cons (ps_set (i := 1) scSizes.nd rfl (Or.inl rfl) (pe_lst pa_nil))
      (pss_cons (ps_set (i := 2) scSizes.nd rfl (Or.inl rfl) pe_int)
      (pss_cons (ps_for PassesOwn.never rfl (pi_range1 rfl T.range (pa_cons (pe_len rfl T.len (pa_cons (pv 0) pa_nil)) pa_nil)) (pg_name (i := 3) scSizes.nd rfl (Or.inl rfl))
        (pss_one (ps_if (pt_cmpR op_eq (pe_op op_and (pv 2) (pe_op op_shl pe_int (pv 3))) pe_int (nomark _))
          (pss_cons (ps_set (i := 4) scSizes.nd rfl (Or.inl rfl) (pe_def dR hr (by decide) rfl (pa_cons (pv 0) (pa_cons (pv 3) (pa_cons (pe_len rfl T.len (pa_cons (pv 0) pa_nil)) pa_nil)))))
          (pss_cons (ps_aug (i := 2) scSizes.nd rfl (Or.inl rfl) (pv 4) iop_or)
          (pss_one (ps_expr (pe_bm PySem.F.plainAttrs_list PySem.F.slot_list_append PySem.F.type_list_append mt_append (pv 1) (pa_cons (pe_len rfl T.len (pa_cons (pe_def dP hr (by decide) rfl (pa_cons (pv 4) (pa_cons (pe_len rfl T.len (pa_cons (pv 0) pa_nil)) pa_nil))) pa_nil)) pa_nil))))))
          pss_nil)))
      (pss_one (ps_ret (pv 1))))), ?_⟩
    refine ⟨Nat.zero_le _, fun D hD => ?_⟩
    have S0 : Same H (L2.upd H D (.lst [])) := Same.upd (Same.refl H) hD
    have haD : a ≠ D := ne_of_none ha hD
    refine ⟨_, rfl, a, _, rfl, .inl (SqL.of (S0 _ _ ha)), (ab.n : Int), by rw [nats_len, N.len], by omega, by omega, ?_⟩
    rw [Int.toNat_natCast]
    refine for_range (fun i σ H' => ∃ v3 v4, σ = [some (.ref a), some (.ref D), some (nat (seenTo near ab.n i)), v3, v4] ∧ Same H H' ∧ H' D = some (.lst (nats (sizesTo near ab.n i)))) ⟨_, _, rfl, S0, upd_same⟩ ?_ ?_
    · rintro i σ H' hi ⟨v3, v4, rfl, S, hD'⟩
      rw [Int.zero_add]
      refine ⟨_, rfl, _, rfl, _, _, rfl, rfl, cpow_one (by omega) (by omega), _, _, rfl, rfl, rfl, _, rfl, ?_⟩
      rw [shl_one, and_bit]
      have hiff := seenTo_iff N hi
      have hup := upTo_succ near ab.n i
      refine ite2 (fun h => ?_) fun h => ?_
      · have hl : leastB near ab.n i = true := hiff.mp (by simpa using h)
        rw [if_pos hl] at hup
        refine ⟨_, rfl, _, rfl, _, rfl, a, _, rfl, .inl (SqL.of (S _ _ ha)), a, near, i, ab.n, by rw [nats_len, N.len] <;> rfl, S _ _ ha, by rw [N.len]; exact hn, by omega, fun H2 S2 => ?_⟩
        have em : min ab.n near.length = ab.n := by rw [N.len]; exact Nat.min_self _
        rw [em]
        refine ⟨_, rfl, _, rfl, _, _, rfl, rfl, ?_⟩
        have hD2 := S2 _ _ hD'
        refine ⟨_, rfl, .inl ⟨rfl, _, SqL.of hD2⟩, _, rfl, _, rfl, a, _, rfl, .inl (SqL.of (S2 _ _ (S _ _ ha))), compM near ab.n i, ab.n, by rw [nats_len, N.len] <;> rfl, hn, fun q H3 hq hH3 => ?_⟩
        have S3 : Same H2 H3 := by rw [hH3]; exact Same.upd (Same.refl H2) hq
        have hq3 : H3 q = some (.lst (nats (ofBits ab.n (compM near ab.n i)))) := by rw [hH3]; exact upd_same
        have hlen := sizesTo_len near ab.n i
        refine ⟨q, _, rfl, .inl (SqL.of hq3), D, _, _, rfl, rfl, S3 _ _ hD2, small1000 (by rw [nats_len]; omega), ?_⟩
        refine ⟨some (nat i), some (nat (compM near ab.n i)), ?_, Same.upd ((S.trans S2).trans S3) hD, ?_⟩
        · unfold seenTo
          rw [hup, List.foldl_append]
          show [some (V.ref a), some (V.ref D), some (V.int (Builtin.bitOr ((((List.range i).filter (leastB near ab.n)).foldl (fun m p => m ||| compM near ab.n p) 0 : Nat) : Int) ((compM near ab.n i : Nat) : Int))), _, _] = _
          rw [or_nat] <;> rfl
        · rw [upd_same, nats_len]
          unfold sizesTo
          rw [hup, List.map_append, nats, nats, List.map_append] <;> rfl
      · have hl : ¬ leastB near ab.n i = true := fun z => h (by rw [hiff.mpr z] <;> rfl)
        rw [if_neg hl] at hup
        refine ⟨some (nat i), v4, ?_, S, ?_⟩
        · unfold seenTo
          rw [hup] <;> rfl
        · unfold sizesTo
          rw [hup]; exact hD'
    · rintro σ H' ⟨v3, v4, rfl, S, hD'⟩
      exact ⟨_, rfl, k D H' hD S hD'⟩
end
end LF

end

section
set_option Elab.async false
set_option linter.all false
set_option maxRecDepth 100000
set_option maxHeartbeats 2000000
namespace LF
open PySem PySem.Spec PyProof.Rows L2
open PySem.W (Codec)
abbrev sChoices : Stmt := top 16
abbrev sHow : Stmt := top 17
abbrev sTree1 : Stmt := top 18
/-- lists at addresses -/
def Subs (H : Hp) : List Addr → List (List V) → Prop := All2 fun r l => H r = some (.lst l)
/-- choices, of just c -/
def spC (c : Nat) : Sp := fun vs H Q _ => ∃ (j : Addr) (xs : List V), vs = [.ref j, nat c] ∧ H j = some (.lst xs) ∧ xs.length ≤ 9 ∧ ∀ p H' rs, H p = none → Same H H' → H' p = some (.lst (rs.map V.ref)) → (∀ r ∈ rs, H r = none) → Subs H' rs (Su120.subsets xs c) → Q (.ref p) H'
def spChoices (d : Nat) : Sp := fun vs H Q E => ∃ c, c ≤ d ∧ spC c vs H Q E
theorem subs_keep {D : Addr} {H H' : Hp} : ∀ {rs : List Addr} {ls : List (List V)}, (∀ r ∈ rs, r ≠ D) → (∀ r l, H r = some (.lst l) → r ≠ D → H' r = some (.lst l)) → Subs H rs ls → Subs H' rs ls
  | [], [], _, _, _ => trivial
  | r :: rs, l :: ls, h, k, hs => ⟨k r l hs.1 (h r (List.mem_cons_self ..)), subs_keep (fun r hr => h r (List.mem_cons_of_mem _ hr)) k hs.2⟩
  | [], _ :: _, _, _, h => h.elim
  | _ :: _, [], _, _, h => h.elim
theorem cut_from {xs : List V} {i : Nat} (h : i ≤ xs.length) : cutV xs (some (i : Int)) none = xs.drop i := by
  unfold cutV
  have e1 : HT.sIx xs.length 0 (some (i : Int)) = i := by
    rw [HT.sIx_nat]
    omega
  have e2 : HT.sIx xs.length xs.length none = xs.length := rfl
  rw [e1, e2, List.take_of_length_le (by rw [List.length_drop]; omega)]
theorem subs_step {x : V} {xs : List V} {i c : Nat} (h : xs[i]? = some x) : Su120.subsets (xs.drop i) (c + 1) = (Su120.subsets (xs.drop (i + 1)) c).map (fun s => x :: s) ++ Su120.subsets (xs.drop (i + 1)) (c + 1) := by
  obtain ⟨hi, e⟩ := List.getElem?_eq_some_iff.mp h
  rw [List.drop_eq_getElem_cons hi, e] <;> rfl
section
variable {P : Program} {w : World} {K : PySem.W.Frag} {mg : Str → Option Value} {base : Heap}
theorem scChoices : FnScope ["joins", "count", "chosen", "at", "first", "others"] ["joins", "count"] (defScope sChoices) := ⟨rfl, rfl, rfl, by decide +kernel, rfl, by decide +kernel, by decide +kernel⟩
theorem ok_choices_step {f : Addr} {fd : FuncData} {m d : Nat} {sp' : Sp} (F : Fun K "choices" "choices" sChoices f fd) (T : TxtC mg) (dC : Def P w K mg base m "choices" ["joins", "count"] sp') (hs : ∀ c, c + 1 ≤ d → ∀ vs H Q E, spC c vs H Q E → sp' vs H Q E) :
    FnOk P w K mg base CX0 (m + 1) f fd ["joins", "count"] (spChoices d) := by
  refine F.ok scChoices (fun vs H Q E h => ?_) (fun cdv A outer s H vs Q E hr h => ?_)
  · obtain ⟨c, _, j, xs, rfl, _⟩ := h
    rfl
  · obtain ⟨c, hcd, j, xs, rfl, hj, hx9, k⟩ := h
    refine ⟨_, pss_cons (ps_if (pt_cmpR op_eq (pv 1) pe_int (nomark _)) (pss_one (ps_ret (pe_lst (pa_cons (pe_lst pa_nil) pa_nil)))) pss_nil)
      (pss_cons (ps_set (i := 2) scChoices.nd rfl (Or.inl rfl) (pe_lst pa_nil))
      (pss_cons (ps_for PassesOwn.never rfl (pi_enum rfl T.enum (pa_cons (pv 0) pa_nil)) (pg_tup rfl (pgs_cons (pg_name (i := 3) scChoices.nd rfl (Or.inl rfl)) (pgs_cons (pg_name (i := 4) scChoices.nd rfl (Or.inl rfl)) pgs_nil)))
        (pss_one (ps_for PassesOwn.never rfl (pi_list (pe_def dC hr (Nat.le_refl _) rfl (pa_cons (pe_slice sl_list (pv 0) (po_some (pe_op op_add (pv 3) pe_int)) po_none) (pa_cons (pe_op op_sub (pv 1) pe_int) pa_nil)))) (pg_name (i := 5) scChoices.nd rfl (Or.inl rfl))
          (pss_one (ps_expr (pe_bm PySem.F.plainAttrs_list PySem.F.slot_list_append PySem.F.type_list_append mt_append (pv 2) (pa_cons (pe_op op_cat (pe_lst (pa_cons (pv 4) pa_nil)) (pv 5)) pa_nil)))))))
      (pss_one (ps_ret (pv 2))))), ?_⟩
    refine ⟨_, rfl, rfl, _, rfl, ite2 (fun h => ?_) fun h => ?_⟩
    · have hc : c = 0 := by
        have := V.int.inj (of_decide_eq_true h)
        omega
      subst hc
      refine ⟨Nat.zero_le _, fun e0 he0 => ⟨(by show 1 ≤ sizeLine; decide), fun p hp => ?_⟩⟩
      have hpe : p ≠ e0 := fun z => by rw [z, upd_same] at hp; cases hp
      have hp0 : H p = none := by rw [upd_ne hpe] at hp; exact hp
      refine k p _ [e0] hp0 (Same.upd (Same.upd (Same.refl H) he0) hp0) upd_same (fun r hr => by rw [List.mem_singleton.mp hr]; exact he0) ?_
      rw [subsets_zero]
      exact ⟨by show (L2.upd (L2.upd H e0 (.lst [])) p (.lst [V.ref e0])) e0 = _; rw [upd_ne (Ne.symm hpe), upd_same], trivial⟩
    · obtain ⟨c', rfl⟩ : ∃ c', c = c' + 1 := ⟨c - 1, by
        have : c ≠ 0 := fun z => h (decide_eq_true (by rw [z] <;> rfl))
        omega⟩
      refine ⟨Nat.zero_le _, fun D hD => ?_⟩
      have hjD : j ≠ D := ne_of_none hj hD
      have S0 : Same H (L2.upd H D (.lst [])) := Same.upd (Same.refl H) hD
      have hall := subsets_len xs (c' + 1)
      have h512 := pow512 hx9
      refine ⟨_, rfl, j, _, rfl, SqL.of (S0 _ _ hj), for_enum (K := K) (a := j) (xs := xs) (fun i σ H' => ∃ v3 v4 v5 rs ls, σ = [some (.ref j), some (nat (c' + 1)), some (.ref D), v3, v4, v5] ∧ Same H H' ∧ H' D = some (.lst (rs.map V.ref)) ∧ (∀ r ∈ rs, H r = none ∧ r ≠ D) ∧ Subs H' rs ls ∧ ls ++ Su120.subsets (xs.drop i) (c' + 1) = Su120.subsets xs (c' + 1))
        ⟨_, _, _, [], [], rfl, S0, upd_same, fun r hr => (by cases hr), trivial, rfl⟩ (fun i σ H' _ ⟨_, _, _, _, _, _, S, _⟩ => SqL.of (S _ _ hj)) ?_ ?_⟩
      · rintro i x σ H' T1 hi ⟨v3, v4, v5, rs, ls, rfl, S, hD', hrs, hsub, hls⟩ hT1
        obtain ⟨hilt, _⟩ := List.getElem?_eq_some_iff.mp hi
        refine ⟨T1, _, rfl, SqT.of upd_same, rfl, _, _, rfl, _, _, rfl, rfl, ?_⟩
        have hT1H : H T1 = none := S.free hT1
        have S1 : Same H' (L2.upd H' T1 (.tup [.int (i : Nat), x])) := Same.upd (Same.refl H') hT1
        have SH1 := S.trans S1
        have hD1 := S1 _ _ hD'
        have hsub1 : Subs (L2.upd H' T1 (.tup [.int (i : Nat), x])) rs ls := All2.mono (fun r l e => S1 _ _ e) hsub
        generalize L2.upd H' T1 (.tup [.int (i : Nat), x]) = H1 at S1 SH1 hD1 hsub1
        refine ⟨_, rfl, _, rfl, _, _, rfl, rfl, _, rfl, j, _, rfl, SqL.of (SH1 _ _ hj), fun sl hsl => ?_⟩
        rw [show ((i : Int) + 1) = ((i + 1 : Nat) : Int) by push_cast; rfl, cut_from (by omega)]
        refine ⟨_, rfl, _, _, rfl, rfl, ?_⟩
        have S2 : Same H1 (L2.upd H1 sl (.lst (xs.drop (i + 1)))) := Same.upd (Same.refl H1) hsl
        have hD2 := S2 _ _ hD1
        refine hs c' (by omega) _ _ _ _ ⟨sl, xs.drop (i + 1), by show [V.ref sl, V.int (((c' + 1 : Nat) : Int) - 1)] = [V.ref sl, nat c']; rw [show ((c' + 1 : Nat) : Int) - 1 = ((c' : Nat) : Int) by omega] <;> rfl, upd_same, by rw [List.length_drop]; omega, fun p H3 rs' hp S3 hp3 hrs' hsub' => ?_⟩
        have SH2 := SH1.trans S2
        have SH3 := SH2.trans S3
        have hpD : p ≠ D := fun z => by rw [z, hD2] at hp; cases hp
        have hsub3 : Subs H3 rs ls := All2.mono (fun r l e => S3 _ _ (S2 _ _ e)) hsub1
        have hfit := subs_step (c := c') hi
        have hlen2 := All2.len hsub'
        have hlen1 := All2.len hsub
        have htot : ls.length + (Su120.subsets (xs.drop (i + 1)) c').length ≤ 512 := by
          rw [← hls, hfit, List.length_append, List.length_append, List.length_map] at hall
          omega
        refine ⟨p, rfl, ⟨_, SqL.of hp3⟩, for_list (K := K) (a := p) (xs := rs'.map V.ref) (fun m σ H' => ∃ v5 rs2, σ = [some (.ref j), some (nat (c' + 1)), some (.ref D), some (nat i), some x, v5] ∧ Same H H' ∧ H' D = some (.lst (rs2.map V.ref)) ∧ (∀ r ∈ rs2, H r = none ∧ r ≠ D) ∧ Subs H' rs2 (ls ++ ((Su120.subsets (xs.drop (i + 1)) c').take m).map fun s => x :: s) ∧
          H' p = some (.lst (rs'.map V.ref)) ∧ Subs H' rs' (Su120.subsets (xs.drop (i + 1)) c'))
          ⟨_, rs, rfl, SH3, S3 _ _ hD2, hrs, by rw [List.take_zero, List.map_nil, List.append_nil]; exact hsub3, hp3, hsub'⟩ (fun m σ H' _ ⟨_, _, _, _, _, _, _, e, _⟩ => SqL.of e) ?_ ?_⟩
        · rintro m y σ H4 hm ⟨w5, rs2, rfl, S4, hD4, hrs2, hsub4, hp4, hsubp⟩
          rw [List.getElem?_map] at hm
          cases hr' : rs'[m]? with
          | none => rw [hr'] at hm; cases hm
          | some r' =>
            rw [hr'] at hm
            obtain rfl : V.ref r' = y := Option.some.inj hm
            obtain ⟨l, hl, hrl⟩ := All2.at hsubp hr'
            have hl9 : l.length ≤ 9 := by
              have h1 := (subsets_mem (List.mem_of_getElem? hl)).1
              have h2 := subsets_short (List.mem_of_getElem? hl)
              rw [List.length_drop] at h2
              omega
            have hr'H : r' ≠ D := fun z => by
              have := hrs' r' (List.mem_of_getElem? hr')
              rw [z, hD2] at this
              cases this
            refine ⟨_, rfl, .inl ⟨rfl, _, SqL.of hD4⟩, _, rfl, (by show 1 ≤ sizeLine; decide), fun t ht => ?_⟩
            have htr : r' ≠ t := ne_of_none hrl ht
            have htD : D ≠ t := ne_of_none hD4 ht
            refine ⟨_, rfl, t, r', _, _, rfl, rfl, upd_same, by rw [upd_ne htr]; exact hrl, Nat.le_of_lt (small1000 (by show 1 + l.length ≤ 1000; omega)), fun q hq => ?_⟩
            have hqt : q ≠ t := fun z => by rw [z, upd_same] at hq; cases hq
            have hq4 : H4 q = none := by rw [upd_ne hqt] at hq; exact hq
            have hqD : D ≠ q := ne_of_none hD4 hq4
            have hm' : m < (Su120.subsets (xs.drop (i + 1)) c').length := (List.getElem?_eq_some_iff.mp hl).1
            have hl4 := All2.len hsub4
            rw [List.length_append, List.length_map, List.length_take] at hl4
            refine ⟨D, _, _, rfl, rfl, by rw [upd_ne hqD, upd_ne htD]; exact hD4, small1000 (by rw [List.length_map]; omega), ?_⟩
            have keep : ∀ b o, H4 b = some o → b ≠ D → (L2.upd (L2.upd (L2.upd H4 t (.lst [x])) q (.lst ([x] ++ l))) D (.lst (rs2.map V.ref ++ [V.ref q]))) b = some o := fun b o e hb => by
              rw [upd_ne hb, upd_ne (ne_of_none e hq4), upd_ne (ne_of_none e ht)]; exact e
            refine ⟨some (.ref r'), rs2 ++ [q], rfl, Same.upd (Same.upd (Same.upd S4 (S4.free ht)) (S4.free hq4)) hD, ?_, fun r hr => ?_, ?_, keep _ _ hp4 hpD, ?_⟩
            · rw [upd_same, List.map_append] <;> rfl
            · rcases List.mem_append.mp hr with z | z
              · exact hrs2 r z
              · rw [List.mem_singleton.mp z]; exact ⟨S4.free hq4, Ne.symm hqD⟩
            · rw [take_snoc hl, List.map_append, ← List.append_assoc]
              refine All2.app ?_ ⟨?_, trivial⟩
              · exact subs_keep (D := D) (fun r hr => (hrs2 r hr).2) (fun r l e hr => keep r _ e hr) hsub4
              · show (L2.upd (L2.upd (L2.upd H4 t (.lst [x])) q (.lst ([x] ++ l))) D (.lst (rs2.map V.ref ++ [V.ref q]))) q = some (.lst (x :: l))
                rw [upd_ne (Ne.symm hqD), upd_same] <;> rfl
            · exact subs_keep (D := D) (fun r hr => by
                have := hrs' r hr
                exact fun z => by rw [z, hD2] at this; cases this) (fun r l e hr => keep r _ e hr) hsubp
        · rintro σ H4 ⟨w5, rs2, rfl, S4, hD4, hrs2, hsub4, hp4, hsubp⟩
          rw [List.length_map, hlen2, List.take_length] at hsub4
          refine ⟨_, _, _, rs2, _, rfl, S4, hD4, hrs2, hsub4, ?_⟩
          rw [List.append_assoc, ← hfit, hls]
      · rintro σ H' ⟨v3, v4, v5, rs, ls, rfl, S, hD', hrs, hsub, hls⟩
        rw [List.drop_length] at hls
        have hls : ls ++ [] = Su120.subsets xs (c' + 1) := hls
        rw [List.append_nil] at hls
        rw [hls] at hsub
        exact ⟨_, rfl, k D H' rs hD S hD' (fun r hr => (hrs r hr).1) hsub⟩
theorem ok_choices_no {f : Addr} {fd : FuncData} (F : Fun K "choices" "choices" sChoices f fd) : FnOk P w K mg base CX0 1 f fd ["joins", "count"] (fun _ _ _ _ => False) :=
  F.ok scChoices (fun vs H Q E h => h.elim) (fun cdv A outer s H vs Q E hr h => h.elim)
theorem def_choices {f : Addr} {fd : FuncData} {m : Nat} {sp : Sp} (F : Fun K "choices" "choices" sChoices f fd) (hm : mg "choices" = some (.ref f)) (ok : FnOk P w K mg base CX0 m f fd ["joins", "count"] sp) : Def P w K mg base m "choices" ["joins", "count"] sp :=
  ⟨f, fd, ok, hm, F.kp, F.binds fun _ _ _ _ _ _ us hl => match us, hl with | [_, _], _ => rfl⟩
theorem ok_choices {f : Addr} {fd : FuncData} (F : Fun K "choices" "choices" sChoices f fd) (T : TxtC mg) (hm : mg "choices" = some (.ref f)) : ∀ d, FnOk P w K mg base CX0 (d + 2) f fd ["joins", "count"] (spChoices d)
  | 0 => ok_choices_step F T (def_choices F hm (ok_choices_no F)) fun c hc => absurd hc (by omega)
  | d + 1 => ok_choices_step F T (def_choices F hm (ok_choices F T hm d)) fun c hc vs H Q E h => ⟨c, by omega, h⟩
def spHow : Sp := fun vs H Q _ => ∃ (ab : Su120.Abs) (j : Addr), vs = [nat ab.n, .ref j] ∧ JoinsAt H j ab.joins ∧ ab.n ≤ 9 ∧ (∀ x ∈ ab.joins, x.1 < x.2 ∧ x.2 < ab.n) ∧ ∀ H', Same H H' → Q (nat ab.parts) H'
theorem scHow : FnScope ["size", "joins"] ["size", "joins"] (defScope sHow) := ⟨rfl, rfl, rfl, by decide +kernel, rfl, by decide +kernel, by decide +kernel⟩
theorem ok_how {f : Addr} {fd : FuncData} (F : Fun K "how_many_parts" "how_many_parts" sHow f fd) (T : TxtB mg) (dN : Def P w K mg base 1 "near_places" ["size", "joins"] spNear) (dS : Def P w K mg base 3 "part_sizes" ["near"] spSizes) : FnOk P w K mg base CX0 4 f fd ["size", "joins"] spHow := by
  refine F.ok scHow (fun vs H Q E h => ?_) (fun cdv A outer s H vs Q E hr h => ?_)
  · obtain ⟨ab, j, rfl, _⟩ := h
    rfl
  · obtain ⟨ab, j, rfl, hJ, h9, hlt, k⟩ := h
    refine ⟨_, pss_one (ps_ret (pe_len rfl T.len (pa_cons (pe_def dS hr (by decide) rfl (pa_cons (pe_def dN hr (by decide) rfl (pa_cons (pv 0) (pa_cons (pv 1) pa_nil))) pa_nil)) pa_nil))), ?_⟩
    have N : NearOk ab (nearM ab.n ab.joins) := nearM_ok ⟨hlt⟩
    refine ⟨_, rfl, _, rfl, ab.n, j, ab.joins, rfl, h9, hJ, hlt, fun p H1 hp S1 hp1 => ?_⟩
    refine ⟨p, _, ab, rfl, hp1, N, h9, fun r H2 hr' S2 hr2 => ?_⟩
    refine ⟨r, _, rfl, .inl (SqL.of hr2), ?_⟩
    rw [nats_len, sizes_len N]
    exact k _ (S1.trans S2)
def treeV (H : Hp) (t : Option Su120.Abs) (v : V) : Prop := match t with
  | none => v = .non
  | some t => ∃ r, v = .ref r ∧ JoinsAt H r t.joins
def spTree1 : Sp := fun vs H Q _ => ∃ (ab : Su120.Abs) (j : Addr), vs = [nat ab.n, .ref j] ∧ JoinsAt H j ab.joins ∧ 1 ≤ ab.n ∧ ab.n ≤ 7 ∧ ab.joins.length ≤ 9 ∧ (∀ x ∈ ab.joins, x.1 < x.2 ∧ x.2 < ab.n) ∧ ∀ v H', Same H H' → treeV H' (ab.trees.find? fun t => t.turns == ab.turns) v → Q v H'
theorem Pairs.all2 {H : Hp} : ∀ {ts : List Addr} {js : List (Nat × Nat)}, Pairs H ts js → All2 (fun (v : V) x => ∃ t, v = .ref t ∧ H t = some (.tup [nat x.1, nat x.2])) (ts.map V.ref) js
  | [], [], _ => trivial
  | _ :: _, _ :: _, h => ⟨⟨_, rfl, h.1⟩, h.2.all2⟩
  | [], _ :: _, h => h.elim
  | _ :: _, [], h => h.elim
theorem pairs_of_all2 {H : Hp} : ∀ {vs : List V} {js : List (Nat × Nat)}, All2 (fun (v : V) x => ∃ t, v = .ref t ∧ H t = some (.tup [nat x.1, nat x.2])) vs js → ∃ ts, vs = ts.map V.ref ∧ Pairs H ts js
  | [], [], _ => ⟨[], rfl, trivial⟩
  | _ :: _, _ :: _, ⟨⟨t, e, ht⟩, h⟩ => by
    obtain ⟨ts, e2, hp⟩ := pairs_of_all2 h
    exact ⟨t :: ts, by rw [e, e2] <;> rfl, ht, hp⟩
  | [], _ :: _, h => h.elim
  | _ :: _, [], h => h.elim
theorem scTree1 : FnScope ["size", "joins", "parts", "turns", "chosen"] ["size", "joins"] (defScope sTree1) := ⟨rfl, rfl, rfl, by decide +kernel, rfl, by decide +kernel, by decide +kernel⟩
theorem ok_tree1 {f : Addr} {fd : FuncData} (F : Fun K "first_tree" "first_tree" sTree1 f fd) (dH : Def P w K mg base 4 "how_many_parts" ["size", "joins"] spHow) (dF : Def P w K mg base 3 "fewest_turns" ["size", "joins"] spFewest) (dC : Def P w K mg base 9 "choices" ["joins", "count"] (spChoices 7)) : FnOk P w K mg base CX0 10 f fd ["size", "joins"] spTree1 := by
  refine F.ok scTree1 (fun vs H Q E h => ?_) (fun cdv A outer s H vs Q E hr h => ?_)
  · obtain ⟨ab, j, rfl, _⟩ := h
    rfl
  · obtain ⟨ab, j, rfl, hJ, h1, h7, hj9, hlt, k⟩ := h
    refine ⟨_, pss_cons (ps_set (i := 2) scTree1.nd rfl (Or.inl rfl) (pe_def dH hr (by decide) rfl (pa_cons (pv 0) (pa_cons (pv 1) pa_nil))))
      (pss_cons (ps_set (i := 3) scTree1.nd rfl (Or.inl rfl) (pe_def dF hr (by decide) rfl (pa_cons (pv 0) (pa_cons (pv 1) pa_nil))))
      (pss_cons (ps_for PassesOwn.never rfl (pi_list (pe_def dC hr (by decide) rfl (pa_cons (pv 1) (pa_cons (pe_op op_sub (pv 0) (pv 2)) pa_nil)))) (pg_name (i := 4) scTree1.nd rfl (Or.inl rfl))
        (pss_one (ps_if (PW.pt (pw_and (pt_cmpR op_eq (pe_def dH hr (by decide) rfl (pa_cons (pv 0) (pa_cons (pv 4) pa_nil))) (pv 2) (nomark _)) (pw_and1 (pt_cmpR op_eq (pe_def dF hr (by decide) rfl (pa_cons (pv 0) (pa_cons (pv 4) pa_nil))) (pv 3) (nomark _))))) (pss_one (ps_ret (pv 4))) pss_nil)))
      (pss_one (ps_ret pe_non)))), ?_⟩
    refine ⟨_, rfl, _, rfl, ab, j, rfl, hJ, by omega, hlt, fun H1 S1 => ?_⟩
    refine ⟨_, rfl, _, rfl, ab, j, rfl, hJ.same S1, h1, by omega, hlt, fun H2 S2 => ?_⟩
    have hJ2 := (hJ.same S1).same S2
    obtain ⟨ts, hts, hpt⟩ := hJ2
    have hple := parts_le ab
    refine ⟨_, rfl, _, rfl, _, rfl, _, _, rfl, rfl, ?_⟩
    refine ⟨ab.n - ab.parts, by omega, j, _, by show [V.ref j, V.int ((ab.n : Int) - (ab.parts : Int))] = [V.ref j, nat (ab.n - ab.parts)]; rw [show (ab.n : Int) - (ab.parts : Int) = ((ab.n - ab.parts : Nat) : Int) by omega] <;> rfl, hts, by rw [List.length_map, hpt.len]; exact hj9, fun p H3 rs hp S3 hp3 hrs hsub => ?_⟩
    have SH := (S1.trans S2).trans S3
    have hA := All2.subs (ab.n - ab.parts) hpt.all2
    have hl1 := All2.len hsub
    have hl2 := All2.len hA
    have hfind := trees_find ab
    have hat : ∀ m r, rs[m]? = some r → ∃ l js' ts', (Su120.subsets ab.joins (ab.n - ab.parts))[m]? = some js' ∧ H3 r = some (.lst (ts'.map V.ref)) ∧ Pairs H2 ts' js' ∧ l = ts'.map V.ref := fun m r hr => by
      obtain ⟨l, hl, hrl⟩ := All2.at hsub hr
      obtain ⟨js', hjs', ha⟩ := All2.at hA hl
      obtain ⟨ts', rfl, hp'⟩ := pairs_of_all2 ha
      exact ⟨_, js', ts', hjs', hrl, hp', rfl⟩
    refine ⟨p, rfl, ⟨_, SqL.of hp3⟩, for_list (K := K) (a := p) (xs := rs.map V.ref) (fun i σ H' => ∃ v4, σ = [some (nat ab.n), some (.ref j), some (nat ab.parts), some (nat ab.turns), v4] ∧ Same H3 H' ∧ ∀ m js', m < i → (Su120.subsets ab.joins (ab.n - ab.parts))[m]? = some js' → treeOk ab js' = false)
      ⟨_, rfl, Same.refl H3, fun m _ hm => absurd hm (Nat.not_lt_zero _)⟩ (fun i σ H' _ ⟨_, _, S, _⟩ => SqL.of (S _ _ hp3)) ?_ ?_⟩
    · rintro i y σ H4 hi ⟨v4, rfl, S4, hno⟩
      rw [List.getElem?_map] at hi
      cases hr' : rs[i]? with
      | none => rw [hr'] at hi; cases hi
      | some r =>
        rw [hr'] at hi
        obtain rfl : V.ref r = y := Option.some.inj hi
        obtain ⟨_, js', ts', hjs', hrl, hp', _⟩ := hat i r hr'
        obtain ⟨hlen', hmem'⟩ := subsets_mem (List.mem_of_getElem? hjs')
        have hlt' : ∀ x ∈ (⟨ab.n, js', []⟩ : Su120.Abs).joins, x.1 < x.2 ∧ x.2 < ab.n := fun x hx => hlt x (hmem' x hx)
        have hJ3 : JoinsAt H3 r js' := ⟨ts', hrl, hp'.same S3⟩
        have hJ4 : JoinsAt H4 r js' := hJ3.same S4
        refine ⟨_, rfl, _, rfl, ⟨ab.n, js', []⟩, r, rfl, hJ4, by show ab.n ≤ 9; omega, hlt', fun H5 S5 => ?_⟩
        refine ⟨_, rfl, rfl, _, rfl, ite2 (fun h => ?_) fun h => ?_⟩
        · have hparts : (⟨ab.n, js', []⟩ : Su120.Abs).parts = ab.parts := by
            have := V.int.inj (of_decide_eq_true h)
            omega
          refine ⟨_, rfl, _, rfl, ⟨ab.n, js', []⟩, r, rfl, hJ4.same S5, h1, by show ab.n ≤ 9; omega, hlt', fun H6 S6 => ?_⟩
          refine ⟨_, rfl, rfl, _, rfl, ite2 (fun h2 => ?_) fun h2 => ?_⟩
          · have hturns : (⟨ab.n, js', []⟩ : Su120.Abs).turns = ab.turns := by
              have := V.int.inj (of_decide_eq_true h2)
              omega
            have hok : treeOk ab js' = true := by
              unfold treeOk
              rw [hparts, hturns]; simp
            rw [find_at hjs' hok hno] at hfind
            refine ⟨_, rfl, k _ H6 (((SH.trans S4).trans S5).trans S6) ?_⟩
            rw [hfind]
            exact ⟨r, rfl, (hJ4.same S5).same S6⟩
          · refine ⟨_, rfl, (S4.trans S5).trans S6, fun m y hm hy => ?_⟩
            rcases Nat.lt_or_ge m i with z | z
            · exact hno m y z hy
            · have : m = i := by omega
              subst this
              have e := Option.some.inj (hy.symm.trans hjs')
              subst e
              have hne : ¬ (⟨ab.n, y, []⟩ : Su120.Abs).turns = ab.turns := fun z => h2 (decide_eq_true (by rw [z]))
              unfold treeOk
              rw [beq_eq_false_iff_ne.mpr hne, Bool.and_false]
        · refine ⟨_, rfl, S4.trans S5, fun m y hm hy => ?_⟩
          rcases Nat.lt_or_ge m i with z | z
          · exact hno m y z hy
          · have : m = i := by omega
            subst this
            have e := Option.some.inj (hy.symm.trans hjs')
            subst e
            have hne : ¬ (⟨ab.n, y, []⟩ : Su120.Abs).parts = ab.parts := fun z => h (decide_eq_true (by rw [z]))
            unfold treeOk
            rw [beq_eq_false_iff_ne.mpr hne, Bool.false_and]
    · rintro σ H4 ⟨v4, rfl, S4, hno⟩
      rw [List.length_map, hl1, hl2] at hno
      rw [find_no hno] at hfind
      refine k _ H4 (SH.trans S4) ?_
      rw [hfind]
      rfl
end
end LF

end

section
set_option Elab.async false
set_option linter.all false
set_option maxRecDepth 100000
set_option maxHeartbeats 2000000
namespace LF
open PySem PySem.Spec PyProof.Rows L2
open AutoSeq1 (wpAny_loadPart')
open MeetsSeq MeetsSeq2 MeetsSeq3 SeqRoads2
/-! ### list.remove, items compared by what stands on the heap -/
theorem remove_loopAt (l : Addr) (items : Array Value) (n : Nat) (x : Value) (e : Value → Bool) (j : Nat) (hj : j < items.size) (hit : e items[j] = true) (hs1 : items.size ≤ sizeLine) (k : Nat) :
    ∀ i : Nat, j - i = k → i ≤ j → (∀ m (hm : m < items.size), i ≤ m → m < j → e items[m] = false) → Meets (Builtin.«list.remove.loop» ⟨[.ref l, x, rawInt i], []⟩)
      (fun A R s => s.heap.get? l = some { cls := .type "list", dict := none, data := .seq items n, slots := #[] } ∧ (∀ y, y ∈ items → SeqAt.EqAt A.in1 s y x (e y)) ∧ R (.ok (.ret .none)) { s with heap := s.heap.update l (Obj.mapSeq fun xs => xs.eraseIdxIfInBounds j) }) := by
  induction k with
  | zero =>
    intro i hk hij hno prog w A R s h
    obtain ⟨hp, g, d, tk, os⟩ := s; obtain ⟨hl, he, h⟩ := h
    have hij' : i = j := by omega
    subst hij'
    wp_walk using wpAny_loadPart' hl
    have hi : items[((i : Nat) : Int).toNat]? = some items[i] := by simp [hj]
    rw [hi]
    refine wpAny_bind (he _ (Array.getElem_mem hj) prog w _ _ ?_)
    rw [hit]
    have hz' : (items.eraseIdxIfInBounds i).size ≤ sizeLine + 1 := Nat.le_trans (size_erased items _) (Nat.le_succ_of_le hs1)
    wp_walk using (wpAny_updateSeq hl rfl (hz := hs1) (_hz' := hz')), wpAny_loadPart' hl
    simpa using h
  | succ k ih =>
    intro i hk hij hno prog w A R s h
    obtain ⟨hp, g, d, tk, os⟩ := s; obtain ⟨hl, he, h⟩ := h
    have hlt : i < items.size := by omega
    wp_walk using wpAny_loadPart' hl
    have hi : items[((i : Nat) : Int).toNat]? = some items[i] := by simp [hlt]
    have hc : ((i : Int) + 1) = ((i + 1 : Nat) : Int) := by push_cast; rfl
    rw [hi]
    refine wpAny_bind (he _ (Array.getElem_mem hlt) prog w _ _ ?_)
    rw [hno i hlt (Nat.le_refl _) (by omega)]
    wp_walk
    rw [hc]
    exact ⟨plainId_quiet plain_remove_loop _, codeAny_builtin entry_remove_loop (by
      rw [Around.under_plainId plain_remove_loop _]
      exact ih (i + 1) (by omega) (by omega) (fun m hm h1 h2 => hno m hm (by omega) h2) prog w A R _ ⟨hl, he, h⟩)⟩
theorem list_removeAt (l : Addr) (items : Array Value) (n : Nat) (x : Value) (e : Value → Bool) (j : Nat) (hj : j < items.size) (hit : e items[j] = true) (hno : ∀ m (hm : m < items.size), m < j → e items[m] = false) (hs1 : items.size ≤ sizeLine) :
    Meets (Builtin.«list.remove» ⟨[.ref l, x], []⟩)
      (fun A R s => s.heap.get? l = some { cls := .type "list", dict := none, data := .seq items n, slots := #[] } ∧ (∀ y, y ∈ items → SeqAt.EqAt A.in1 s y x (e y)) ∧ R (.ok (.ret .none)) { s with heap := s.heap.update l (Obj.mapSeq fun xs => xs.eraseIdxIfInBounds j) }) := by
  intro prog w A R s h
  obtain ⟨hp, g, d, tk, os⟩ := s; obtain ⟨hl, he, h⟩ := h
  wp_walk using wpAny_loadPart' hl
  exact ⟨plainId_quiet plain_remove_loop _, codeAny_builtin entry_remove_loop (by
    rw [Around.under_plainId plain_remove_loop _]
    exact remove_loopAt l items n x e j hj hit hs1 _ 0 rfl (Nat.zero_le _) (fun m hm _ h2 => hno m hm h2) prog w A R _ ⟨hl, he, h⟩)⟩
/-! ### pairs as data -/
def pd (x : Nat × Nat) : PyData := .tuple [.int (x.1 : Int), .int (x.2 : Int)]
theorem eqv_pd (x y : Nat × Nat) : PyData.eqv (pd x) (pd y) = decide (x = y) := by
  show ((x.1 : Int) == (y.1 : Int) && ((x.2 : Int) == (y.2 : Int) && true)) = decide (x = y)
  rw [Bool.and_true, Bool.eq_iff_iff]
  simp only [Bool.and_eq_true, beq_iff_eq, decide_eq_true_eq]
  constructor
  · rintro ⟨h1, h2⟩
    exact Prod.ext (by omega) (by omega)
  · rintro rfl
    exact ⟨rfl, rfl⟩
theorem canLay_pd (x : Nat × Nat) : (pd x).canLay0 = true := rfl
theorem canLays_pd : ∀ js : List (Nat × Nat), PyData.canLayAll0 (js.map pd) = true
  | [] => rfl
  | x :: js => by
    show (PyData.canLay0 (pd x) && PyData.canLayAll0 (js.map pd)) = true
    rw [canLay_pd, canLays_pd js] <;> rfl
theorem dp_pair {K : PySem.W.Frag} {H : Hp} {t : Addr} {x : Nat × Nat} (h : H t = some (.tup [nat x.1, nat x.2])) : Dp K H (.ref t) (pd x) := .tup (SqT.of h) (.cons (.int _) (.cons (.int _) .nil))
theorem dp_pairs {K : PySem.W.Frag} {H : Hp} : ∀ {ts : List Addr} {js : List (Nat × Nat)}, Pairs H ts js → DpAll K H (ts.map V.ref) (js.map pd)
  | [], [], _ => .nil
  | _ :: _, _ :: _, h => .cons (dp_pair h.1) (dp_pairs h.2)
  | [], _ :: _, h => h.elim
  | _ :: _, [], h => h.elim
theorem any_pd (js : List (Nat × Nat)) (x : Nat × Nat) : ((js.map pd).any fun y => PyData.eqv y (pd x)) = js.contains x := by
  rw [List.any_map, Bool.eq_iff_iff, List.any_eq_true, List.contains_iff_mem]
  constructor
  · rintro ⟨y, hy, h⟩
    have : PyData.eqv (pd y) (pd x) = true := h
    rw [eqv_pd, decide_eq_true_eq] at this
    exact this ▸ hy
  · intro h
    exact ⟨x, h, by show PyData.eqv (pd x) (pd x) = true; rw [eqv_pd]; simp⟩
theorem map_erase {α β : Type} (f : α → β) : ∀ (l : List α) (k : Nat), (l.map f).eraseIdx k = (l.eraseIdx k).map f
  | [], _ => rfl
  | _ :: _, 0 => rfl
  | x :: l, k + 1 => by
    show f x :: (l.map f).eraseIdx k = f x :: (l.eraseIdx k).map f
    rw [map_erase f l k]
section
variable {X : Cx}
/-- a pair in a list of pairs -/
def rInP (neg : Bool) : R2 := fun x y H Q => ∃ t j z ts js, x = .ref t ∧ y = .ref j ∧ H t = some (.tup [nat z.1, nat z.2]) ∧ H j = some (.lst (ts.map V.ref)) ∧ Pairs H ts js ∧ Q (.bl (if neg then !js.contains z else js.contains z)) H
theorem depth_room {u : Nat} {xs : List PyData} (hu : u + 64 < cLine) (z : Nat × Nat) : u + 1 + min (PyData.depthAll xs) (pd z).depth < cLine := by
  have h1 : (pd z).depth ≤ 2 := by show PyData.depth (.tuple [.int _, .int _]) ≤ 2; simp [PyData.depth, PyData.depthAll]
  have h2 := Nat.min_le_right (PyData.depthAll xs) (pd z).depth
  omega
theorem op_inP (hu : X.A.units + 64 < cLine) : OpR X (compareOp .In) (rInP false) := by
  intro pins s σ H x y v u Q I rx ry h
  obtain ⟨t, j, z, ts, js, rfl, rfl, ht, hj, hp, q⟩ := h
  obtain ⟨as, r1⟩ := Dp.reads I _ _ v (dp_pair (K := X.K) ht) rx
  obtain ⟨bs, r2⟩ := Dp.reads I _ _ u (.lst (K := X.K) (SqL.of hj) (dp_pairs hp)) ry
  exact SeqAt.in_list_reads r2 r1 (canLays_pd js) (canLay_pd z) (depth_room hu z) ⟨.bl _, H, I, rfl, by rw [any_pd]; exact q⟩
theorem op_notInP (hu : X.A.units + 64 < cLine) : OpR X (compareOp .NotIn) (rInP true) := by
  intro pins s σ H x y v u Q I rx ry h
  obtain ⟨t, j, z, ts, js, rfl, rfl, ht, hj, hp, q⟩ := h
  obtain ⟨as, r1⟩ := Dp.reads I _ _ v (dp_pair (K := X.K) ht) rx
  obtain ⟨bs, r2⟩ := Dp.reads I _ _ u (.lst (K := X.K) (SqL.of hj) (dp_pairs hp)) ry
  exact SeqAt.notIn_list_reads r2 r1 (canLays_pd js) (canLay_pd z) (depth_room hu z) ⟨.bl _, H, I, rfl, by rw [any_pd]; exact q⟩
/-- xs.remove(pair): its first place goes -/
def rRemP : V → List V → Hp → VK → Prop := fun x vs H Q => ∃ t l z ts js k, x = .ref l ∧ vs = [.ref t] ∧ H t = some (.tup [nat z.1, nat z.2]) ∧ H l = some (.lst (ts.map V.ref)) ∧ Pairs H ts js ∧ js[k]? = some z ∧ (∀ m, m < k → js[m]? ≠ some z) ∧
  Q .non (L2.upd H l (.lst ((ts.eraseIdx k).map V.ref)))
theorem mt_removeP (hu : X.A.units + 64 < cLine) : MtM X "list.remove" rRemP := by
  intro pins s σ H x vs v us Q I rx rvs h
  obtain ⟨t, l, z, ts, js, k, rfl, rfl, ht, hl, hp, hk, hno, q⟩ := h
  obtain ⟨u, rfl, ru⟩ := Vals.one rvs
  cases rx
  obtain ⟨hz, its, n, hv, hlen, ho⟩ := I.lstM hl
  have hJ := hp.len
  obtain ⟨as, r1⟩ := Dp.reads I _ _ u (dp_pair (K := X.K) ht) ru
  obtain ⟨bs, r2⟩ := Dp.readsAll I _ _ its (dp_pairs (K := X.K) hp) hv
  have hmap := SeqAt.readsAll_map _ _ _ (canLays_pd js) r2
  have hkl : k < js.length := (List.getElem?_eq_some_iff.mp hk).1
  have hits : its.length = js.length := by rw [← hlen, List.length_map, hJ]
  have hkj : k < its.toArray.size := by simpa [hits] using hkl
  have hval : ∀ (m : Nat) (hm : m < its.toArray.size), PyData.eqv (SeqAt.readOf s.heap its.toArray[m]) (pd z) = decide (js[m]? = some z) := by
    intro m hm
    have hm' : m < its.length := by simpa using hm
    have e1 : (its.map (SeqAt.readOf s.heap))[m]? = (js.map pd)[m]? := by rw [hmap]
    rw [List.getElem?_map, List.getElem?_map, List.getElem?_eq_getElem hm', List.getElem?_eq_getElem (by omega)] at e1
    have e2 : SeqAt.readOf s.heap its[m] = pd js[m] := Option.some.inj e1
    show PyData.eqv (SeqAt.readOf s.heap its[m]) (pd z) = _
    rw [e2, eqv_pd, List.getElem?_eq_getElem (by omega)]
    exact decide_eq_decide.mpr (by simp)
  refine call_meets PySem.F.slot_list_remove ⟨_, ho, rfl⟩ PySem.F.entry_list_remove (PySem.F.args_list_remove_2 _ _)
    (list_removeAt l its.toArray n u (fun y => PyData.eqv (SeqAt.readOf s.heap y) (pd z)) k hkj ?_ ?_ ?_) ⟨ho, SeqAt.items_eqAt (by simpa using r2) r1 (canLays_pd js) (canLay_pd z) ?_, ?_⟩
  · show PyData.eqv (SeqAt.readOf s.heap its.toArray[k]) (pd z) = true
    rw [hval k hkj, hk]; simp
  · intro m hm hmk
    show PyData.eqv (SeqAt.readOf s.heap its.toArray[m]) (pd z) = false
    rw [hval m hm]
    exact decide_eq_false (hno m hmk)
  · rw [List.size_toArray, ← hlen]; exact hz
  · exact depth_room hu z
  · refine ⟨.non, _, I.lset (its' := its.eraseIdx k) (ys := (ts.eraseIdx k).map V.ref) hl ho ?_ ?_ ?_, rfl, q⟩
    · show its.toArray.eraseIdxIfInBounds k = (its.eraseIdx k).toArray
      rw [List.eraseIdxIfInBounds_toArray]
    · have e := hv.eraseIdx k
      rw [map_erase] at e
      exact e
    · rw [List.length_map]
      have := len_erase ts k
      rw [List.length_map] at hz
      omega
end
end LF

end

section
set_option Elab.async false
set_option linter.all false
set_option maxRecDepth 100000
set_option maxHeartbeats 2000000
namespace LF
open PySem PySem.Spec PyProof.Rows L2
abbrev Abs := Su120.Abs
abbrev sClass : Stmt := top 69
abbrev sInit : Stmt := inClass sClass 0
abbrev sLay : Stmt := inClass sClass 1
/-! ### the object -/
def gf (n : Nat) (j l : Addr) : List (Str × V) := [("size", nat n), ("joins", .ref j), ("lit", .ref l)]
theorem ne1 : (("joins" : Str) == ("size" : Str)) = false := by decide +kernel
theorem ne2 : (("lit" : Str) == ("size" : Str)) = false := by decide +kernel
theorem ne3 : (("lit" : Str) == ("joins" : Str)) = false := by decide +kernel
theorem gf_size (n : Nat) (j l : Addr) : (gf n j l).lookup ("size" : Str) = some (nat n) := by
  unfold gf
  rw [List.lookup_cons, beq_self_eq_true]
theorem gf_joins (n : Nat) (j l : Addr) : (gf n j l).lookup ("joins" : Str) = some (V.ref j) := by
  unfold gf
  rw [List.lookup_cons, ne1, List.lookup_cons, beq_self_eq_true]
theorem gf_lit (n : Nat) (j l : Addr) : (gf n j l).lookup ("lit" : Str) = some (V.ref l) := by
  unfold gf
  rw [List.lookup_cons, ne2, List.lookup_cons, ne3, List.lookup_cons, beq_self_eq_true]
theorem sj : ¬ ("size" : Str) = "joins" := by decide +kernel
theorem sl : ¬ ("size" : Str) = "lit" := by decide +kernel
theorem jl_ : ¬ ("joins" : Str) = "lit" := by decide +kernel
theorem put_size (n m : Nat) (j l : Addr) : putF "size" (nat m) (gf n j l) = gf m j l := by
  show (if ("size" : Str) = "size" then _ else _) = _
  rw [if_pos rfl] <;> rfl
theorem put_joins (n : Nat) (j j' l : Addr) : putF "joins" (.ref j') (gf n j l) = gf n j' l := by
  show (if ("size" : Str) = "joins" then _ else _ :: (if ("joins" : Str) = "joins" then _ else _)) = _
  rw [if_neg sj, if_pos rfl] <;> rfl
theorem put_lit (n : Nat) (j l l' : Addr) : putF "lit" (.ref l') (gf n j l) = gf n j l' := by
  show (if ("size" : Str) = "lit" then _ else _ :: (if ("joins" : Str) = "lit" then _ else _ :: (if ("lit" : Str) = "lit" then _ else _))) = _
  rw [if_neg sl, if_neg jl_, if_pos rfl] <;> rfl
theorem put_new (n : Nat) (j l : Addr) : putF "lit" (.ref l) (putF "joins" (.ref j) (putF "size" (nat n) [])) = gf n j l := by
  show putF "lit" (.ref l) (if ("size" : Str) = "joins" then _ else _ :: _) = _
  rw [if_neg sj]
  show (if ("size" : Str) = "lit" then _ else _ :: (if ("joins" : Str) = "lit" then _ else _ :: _)) = _
  rw [if_neg sl, if_neg jl_] <;> rfl
structure GAt (C : Addr) (H : Hp) (g j l : Addr) (a : Abs) : Prop where
  ins : ∃ dx, H g = some (.ins C dx (gf a.n j l))
  jl : j ≠ l
  js : JoinsAt H j a.joins
  lit : H l = some (.lst (nats a.lit))
/-- all but the object stays -/
def But (g : Addr) (H H' : Hp) : Prop := ∀ b o, H b = some o → b ≠ g → H' b = some o
theorem But.upd {g p : Addr} {H H' : Hp} {o : HO} (s : But g H H') (hp : H p = none) : But g H (L2.upd H' p o) := fun b u e hb => by
  rw [upd_ne (ne_of_none e hp)]; exact s b u e hb
theorem But.self {g : Addr} {H H' : Hp} {o : HO} (s : But g H H') : But g H (L2.upd H' g o) := fun b u e hb => by
  rw [upd_ne hb]; exact s b u e hb
def spInit (C : Addr) : Sp := fun vs H Q _ => ∃ (p dx : Addr), vs = [.ref p] ∧ H p = some (.ins C dx []) ∧ ∀ (H' : Hp) (j l : Addr), H j = none → H l = none → But p H H' → GAt C H' p j l ⟨0, [], []⟩ → Q .non H'
def spLay (C : Addr) : Sp := fun vs H Q _ => ∃ (g j l j' : Addr) (a : Abs) (n : Nat) (js : List (Nat × Nat)), vs = [.ref g, nat n, .ref j'] ∧ GAt C H g j l a ∧ JoinsAt H j' js ∧ ∀ (H' : Hp) (l' : Addr), H l' = none → But g H H' → GAt C H' g j' l' ⟨n, js, []⟩ → Q .non H'
structure TxtG (K : PySem.W.Frag) (C : Addr) : Prop where
  cl : Cls K C
  nS : NoAttr K C "size"
  nJ : NoAttr K C "joins"
  nL : NoAttr K C "lit"
theorem Pairs.but {g : Addr} {H H' : Hp} {C dx : Addr} {fs : List (Str × V)} (hg : H g = some (.ins C dx fs)) (s : But g H H') : ∀ {ts : List Addr} {js : List (Nat × Nat)}, Pairs H ts js → Pairs H' ts js
  | [], [], _ => trivial
  | _ :: _, _ :: _, h => ⟨s _ _ h.1 (ne_of h.1 hg (by intro z; cases z)), h.2.but hg s⟩
  | [], _ :: _, h => h.elim
  | _ :: _, [], h => h.elim
theorem JoinsAt.but {g j : Addr} {H H' : Hp} {C dx : Addr} {fs : List (Str × V)} {js : List (Nat × Nat)} (hg : H g = some (.ins C dx fs)) (s : But g H H') (h : JoinsAt H j js) : JoinsAt H' j js := by
  obtain ⟨ts, h1, h2⟩ := h
  exact ⟨ts, s _ _ h1 (ne_of h1 hg (by intro z; cases z)), h2.but hg s⟩
section
variable {P : Program} {w : World} {K : PySem.W.Frag} {mg : Str → Option Value} {base : Heap}
theorem scInit : FnScope ["self"] ["self"] (defScope sInit) := ⟨rfl, rfl, rfl, by decide +kernel, rfl, by decide +kernel, by decide +kernel⟩
theorem ok_init {f C : Addr} {fd : FuncData} (F : Fun K "__init__" "Ground.__init__" sInit f fd) (T : TxtG K C) : FnOk P w K mg base CX0 1 f fd ["self"] (spInit C) := by
  refine F.ok scInit (fun vs H Q E h => ?_) (fun cdv A outer s H vs Q E hr h => ?_)
  · obtain ⟨p, dx, rfl, _⟩ := h
    rfl
  · obtain ⟨p, dx, rfl, hp, k⟩ := h
    refine ⟨_, pss_cons (ps_fld (pv 0) pe_int rfl) (pss_cons (ps_fld (pv 0) (pe_lst pa_nil) rfl) (pss_one (ps_fld (pv 0) (pe_lst pa_nil) rfl))), ?_⟩
    refine ⟨_, rfl, p, C, dx, [], rfl, hp, T.cl, T.nS, (by show 0 < 1000; decide), ?_⟩
    refine ⟨Nat.zero_le _, fun j hj => ⟨_, rfl, p, C, dx, putF "size" (.int 0) [], rfl, ?_, T.cl, T.nJ, (by show 1 < 1000; decide), ?_⟩⟩
    · have hpj : p ≠ j := fun z => by rw [← z, upd_same] at hj; cases hj
      rw [upd_ne hpj, upd_same]
    · have hpj : p ≠ j := fun z => by rw [← z, upd_same] at hj; cases hj
      refine ⟨Nat.zero_le _, fun l hl => ⟨_, rfl, p, C, dx, putF "joins" (.ref j) (putF "size" (.int 0) []), rfl, ?_, T.cl, T.nL, ?_, ?_⟩⟩
      · have hpl : p ≠ l := fun z => by rw [← z, upd_same] at hl; cases hl
        rw [upd_ne hpl, upd_same]
      · have := length_putF "joins" (.ref j) (putF "size" (.int 0) [])
        have h2 := length_putF "size" (.int 0) ([] : List (Str × V))
        have h3 : ([] : List (Str × V)).length = 0 := rfl
        omega
      · have hpl : p ≠ l := fun z => by rw [← z, upd_same] at hl; cases hl
        rw [upd_ne (Ne.symm hpl)] at hl
        have hjl : j ≠ l := fun z => by rw [← z, upd_same] at hl; cases hl
        rw [upd_ne (Ne.symm hjl), upd_ne (Ne.symm hpl)] at hl
        rw [upd_ne (Ne.symm hpj)] at hj
        refine k _ j l hj hl ?_ ⟨⟨dx, ?_⟩, hjl, ⟨[], ?_, trivial⟩, ?_⟩
        · exact (((But.self (But.upd (But.self (But.upd (But.self (fun b o e _ => e)) hj)) hl))))
        · rw [upd_same]
          exact congrArg (fun q => some (HO.ins C dx q)) (put_new 0 j l)
        · rw [upd_ne (Ne.symm hpj), upd_ne hjl, upd_ne (Ne.symm hpj), upd_same] <;> rfl
        · rw [upd_ne (Ne.symm hpl), upd_same] <;> rfl
theorem scLay : FnScope ["self", "size", "joins"] ["self", "size", "joins"] (defScope sLay) := ⟨rfl, rfl, rfl, by decide +kernel, rfl, by decide +kernel, by decide +kernel⟩
theorem gf_len (n : Nat) (j l : Addr) : (gf n j l).length < 1000 := by show 3 < 1000; decide
theorem ok_lay {f C : Addr} {fd : FuncData} (F : Fun K "lay" "Ground.lay" sLay f fd) (T : TxtG K C) : FnOk P w K mg base CX0 1 f fd ["self", "size", "joins"] (spLay C) := by
  refine F.ok scLay (fun vs H Q E h => ?_) (fun cdv A outer s H vs Q E hr h => ?_)
  · obtain ⟨g, j, l, j', a, n, js, rfl, _⟩ := h
    rfl
  · obtain ⟨g, j, l, j', a, n, js, rfl, G, hJ, k⟩ := h
    obtain ⟨⟨dx, hg⟩, hjl, hjs, hlit⟩ := G
    refine ⟨_, pss_cons (ps_fld (pv 0) (pv 1) rfl) (pss_cons (ps_fld (pv 0) (pv 2) rfl) (pss_one (ps_fld (pv 0) (pe_lst pa_nil) rfl))), ?_⟩
    refine ⟨_, rfl, _, rfl, g, C, dx, _, rfl, hg, T.cl, T.nS, gf_len _ _ _, ?_⟩
    rw [put_size]
    refine ⟨_, rfl, _, rfl, g, C, dx, _, rfl, upd_same, T.cl, T.nJ, gf_len _ _ _, ?_⟩
    rw [put_joins, upd_upd]
    refine ⟨Nat.zero_le _, fun l' hl' => ⟨_, rfl, g, C, dx, gf n j' l, rfl, ?_, T.cl, T.nL, gf_len _ _ _, ?_⟩⟩
    · have hgl : g ≠ l' := fun z => by rw [← z, upd_same] at hl'; cases hl'
      rw [upd_ne hgl, upd_same]
    · have hgl : g ≠ l' := fun z => by rw [← z, upd_same] at hl'; cases hl'
      rw [upd_ne (Ne.symm hgl)] at hl'
      have hjl' : j' ≠ l' := by
        obtain ⟨ts, h1, _⟩ := hJ
        exact ne_of_none h1 hl'
      have hB : But g H (L2.upd (L2.upd (L2.upd H g (.ins C dx (gf n j' l))) l' (.lst [])) g (.ins C dx (putF "lit" (.ref l') (gf n j' l)))) := But.self (But.upd (But.self (fun b o e _ => e)) hl')
      refine k _ l' hl' hB ⟨⟨dx, ?_⟩, hjl', hJ.but hg hB, ?_⟩
      · rw [upd_same, put_lit]
      · rw [upd_ne (Ne.symm hgl), upd_same] <;> rfl
end
end LF

end

section
set_option Elab.async false
set_option linter.all false
set_option maxRecDepth 100000
set_option maxHeartbeats 2000000
namespace LF
open PySem PySem.Spec PyProof.Rows L2
/-! ### constants of the module, methods -/
def KI (mg : Str → Option Value) (x : Str) (i : Int) : Prop := ∃ t, mg x = some (.int i t)
theorem pe_ki {X : Cx} {x : Str} {i : Int} {pos : Pos} (c : KI X.mg x i) (hg : Gl X x) (hd : (x == ("__debug__" : Str)) = false := by decide) : PE X (.Name x pos) (tC (.int i)) := by
  obtain ⟨t, e⟩ := c
  exact pe_glob hg e ⟨t, rfl⟩ hd
structure MDef (P : Program) (w : World) (K : PySem.W.Frag) (mg : Str → Option Value) (base : Heap) (k : Nat) (C : Addr) (m : Str) (ps : List Str) (sp : Sp) : Prop where
  ex : ∃ (f : Addr) (fd : FuncData), FnOk P w K mg base CX0 k f fd ps sp ∧ Meth K C m f ∧ Binds K fd ps []
theorem pe_mdef {X : Cx} {k j : Nat} {C : Addr} {m : Str} {ps : List Str} {sp : Sp} {apos pos : Pos} {o e : Expr} {es : List Expr} {ta : TE} {t : TA} {pl : Sem Bool} (d : MDef X.prog X.w X.K X.mg X.base k C m ps sp) (he : PE X o ta) (c : Cls X.K C) (hr : Room j X.A) (hj : k ≤ j) (ha : PA X (e :: es) t)
    (hst : starEach (e :: es) X.env = (false, eval e X.env) :: starEach es X.env := by rfl) (hpl : (backTo pos (starEach es X.env)).any (·.1) = false := by rfl)
    (ht : eval (.Call (.Attribute o m apos) (e :: es) [] pos) X.env = (do
      let ov ← eval o X.env
      standAt apos.atName
      let (f, first) ← holding [ov] (getMethod ov m pl)
      callWith pos f first (backTo pos (starEach (e :: es) X.env)) (backToKw pos (keywordEach [] X.env))) := by rfl) :
    PE X (.Call (.Attribute o m apos) (e :: es) [] pos) (tMeth C m sp [] E0 ta t) := by
  obtain ⟨f, fd, F, hm, hb⟩ := d.ex
  exact pe_meth he c hm F (hr.mono hj) hb .nil pass0 ha hst hpl ht
abbrev sMiss : Stmt := top 34
abbrev sNearG : Stmt := top 35
abbrev sNow : Stmt := top 36
abbrev sCounted : Stmt := top 38
abbrev sRowJ : Stmt := top 41
def spMiss (C : Addr) : Sp := fun vs H Q _ => ∃ (g v j l : Addr) (a : Abs) (given : List Nat), vs = [.ref g, .ref v] ∧ GAt C H g j l a ∧ H v = some (.lst (nats given)) ∧ given ≠ [] ∧ Q (.bl (given.any fun p => decide (a.n ≤ p))) H
def spNearG (C : Addr) : Sp := fun vs H Q _ => ∃ (g j l : Addr) (a : Abs), vs = [.ref g] ∧ GAt C H g j l a ∧ a.n ≤ 9 ∧ (∀ x ∈ a.joins, x.1 < x.2 ∧ x.2 < a.n) ∧ gives H (nearM a.n a.joins) Q
def spNow (C : Addr) : Sp := fun vs H Q _ => ∃ (g j l : Addr) (a : Abs), vs = [.ref g] ∧ GAt C H g j l a ∧ a.n ≤ 9 ∧ (∀ x ∈ a.joins, x.1 < x.2 ∧ x.2 < a.n) ∧ (∀ p ∈ a.lit, p < a.n) ∧ ∀ H', Same H H' → Q (nat (burntM (nearM a.n a.joins) a.lit)) H'
def spCounted : Sp := fun vs H Q _ => ∃ (v : Addr) (xs : List V), vs = [.ref v] ∧ H v = some (.lst xs) ∧ xs.length < 1000 ∧ ∀ p H', H p = none → Same H H' → H' p = some (.lst (nat xs.length :: xs)) → Q (.ref p) H'
def rowJ (n : Nat) : List (Nat × Nat) := (List.range (n - 1)).map fun i => (i, i + 1)
def spRowJ : Sp := fun vs H Q _ => ∃ n : Nat, vs = [nat n] ∧ 1 ≤ n ∧ n ≤ 9 ∧ ∀ p H', H p = none → Same H H' → JoinsAt H' p (rowJ n) → Q (.ref p) H'
theorem GAt.same {C : Addr} {H H' : Hp} {g j l : Addr} {a : Abs} (s : Same H H') (h : GAt C H g j l a) : GAt C H' g j l a := by
  obtain ⟨⟨dx, h1⟩, h2, h3, h4⟩ := h
  exact ⟨⟨dx, s _ _ h1⟩, h2, h3.same s, s _ _ h4⟩
section
variable {P : Program} {w : World} {K : PySem.W.Frag} {mg : Str → Option Value} {base : Heap}
theorem scMiss : FnScope ["ground", "places"] ["ground", "places"] (defScope sMiss) := ⟨rfl, rfl, rfl, by decide +kernel, rfl, by decide +kernel, by decide +kernel⟩
theorem ok_miss {f C : Addr} {fd : FuncData} (F : Fun K "is_missing" "is_missing" sMiss f fd) (T : TxtG K C) (hmax : mg "max" = none) : FnOk P w K mg base CX0 1 f fd ["ground", "places"] (spMiss C) := by
  refine F.ok scMiss (fun vs H Q E h => ?_) (fun cdv A outer s H vs Q E hr h => ?_)
  · obtain ⟨g, v, j, l, a, given, rfl, _⟩ := h
    rfl
  · obtain ⟨g, v, j, l, a, given, rfl, ⟨⟨dx, hg⟩, _, _, _⟩, hv, hne, k⟩ := h
    refine ⟨_, pss_one (ps_ret (pe_cmpR op_ge (pe_callB (cr_max rfl) rfl hmax boot_max (pa_cons (pv 1) pa_nil)) (pe_fld (pv 0) rfl) (nomark _))), ?_⟩
    refine ⟨_, rfl, v, given.map Int.ofNat, rfl, SqL.of (by rw [hv, nats, List.map_map]; rfl), by rw [List.length_map]; exact List.length_pos_iff.mpr hne, fun m hm hmax => ?_⟩
    refine ⟨_, rfl, g, C, dx, _, _, rfl, hg, T.cl, T.nS, gf_size _ _ _, _, _, rfl, rfl, ?_⟩
    have e : decide ((a.n : Int) ≤ m) = given.any fun p => decide (a.n ≤ p) := by
      rw [Bool.eq_iff_iff, List.any_eq_true]
      obtain ⟨p, hp, rfl⟩ := List.mem_map.mp hm
      constructor
      · intro h
        exact ⟨p, hp, decide_eq_true (by have h' : (a.n : Int) ≤ (p : Int) := of_decide_eq_true h; omega)⟩
      · rintro ⟨q, hq, h⟩
        have h1 := of_decide_eq_true h
        have h2 : (q : Int) ≤ (p : Int) := hmax (q : Int) (List.mem_map.mpr ⟨q, hq, rfl⟩)
        exact decide_eq_true (show (a.n : Int) ≤ (p : Int) by omega)
    rw [← e] at k
    exact k
theorem scNearG : FnScope ["ground"] ["ground"] (defScope sNearG) := ⟨rfl, rfl, rfl, by decide +kernel, rfl, by decide +kernel, by decide +kernel⟩
theorem ok_nearG {f C : Addr} {fd : FuncData} (F : Fun K "near" "near" sNearG f fd) (T : TxtG K C) (dN : Def P w K mg base 1 "near_places" ["size", "joins"] spNear) : FnOk P w K mg base CX0 2 f fd ["ground"] (spNearG C) := by
  refine F.ok scNearG (fun vs H Q E h => ?_) (fun cdv A outer s H vs Q E hr h => ?_)
  · obtain ⟨g, j, l, a, rfl, _⟩ := h
    rfl
  · obtain ⟨g, j, l, a, rfl, ⟨⟨dx, hg⟩, _, hj, _⟩, hn, hlt, k⟩ := h
    refine ⟨_, pss_one (ps_ret (pe_def dN hr (by decide) rfl (pa_cons (pe_fld (pv 0) rfl) (pa_cons (pe_fld (pv 0) rfl) pa_nil)))), ?_⟩
    exact ⟨_, rfl, g, C, dx, _, _, rfl, hg, T.cl, T.nS, gf_size _ _ _, _, rfl, g, C, dx, _, _, rfl, hg, T.cl, T.nJ, gf_joins _ _ _, a.n, j, a.joins, rfl, hn, hj, hlt, k⟩
theorem scNow : FnScope ["ground"] ["ground"] (defScope sNow) := ⟨rfl, rfl, rfl, by decide +kernel, rfl, by decide +kernel, by decide +kernel⟩
theorem ok_now {f C : Addr} {fd : FuncData} (F : Fun K "burnt_now" "burnt_now" sNow f fd) (T : TxtG K C) (dN : Def P w K mg base 2 "near" ["ground"] (spNearG C)) (dB : Def P w K mg base 2 "burnt_by" ["near", "row"] spBurnt) : FnOk P w K mg base CX0 3 f fd ["ground"] (spNow C) := by
  refine F.ok scNow (fun vs H Q E h => ?_) (fun cdv A outer s H vs Q E hr h => ?_)
  · obtain ⟨g, j, l, a, rfl, _⟩ := h
    rfl
  · obtain ⟨g, j, l, a, rfl, G, hn, hlt, hlit, k⟩ := h
    refine ⟨_, pss_one (ps_ret (pe_def dB hr (by decide) rfl (pa_cons (pe_def dN hr (by decide) rfl (pa_cons (pv 0) pa_nil)) (pa_cons (pe_fld (pv 0) rfl) pa_nil)))), ?_⟩
    refine ⟨_, rfl, g, j, l, a, rfl, G, hn, hlt, fun p H1 hp S1 hp1 => ?_⟩
    obtain ⟨⟨dx, hg⟩, _, hj, hl⟩ := G.same S1
    exact ⟨_, rfl, g, C, dx, _, _, rfl, hg, T.cl, T.nL, gf_lit _ _ _, p, l, _, _, rfl, hp1, by rw [nearM_len]; exact hn, hl, fun q hq => by have := hlit q hq; omega, fun H2 S2 => k H2 (S1.trans S2)⟩
theorem scCounted : FnScope ["numbers"] ["numbers"] (defScope sCounted) := ⟨rfl, rfl, rfl, by decide +kernel, rfl, by decide +kernel, by decide +kernel⟩
theorem ok_counted {f : Addr} {fd : FuncData} (F : Fun K "counted" "counted" sCounted f fd) (T : TxtB mg) : FnOk P w K mg base CX0 1 f fd ["numbers"] spCounted := by
  refine F.ok scCounted (fun vs H Q E h => ?_) (fun cdv A outer s H vs Q E hr h => ?_)
  · obtain ⟨v, xs, rfl, _⟩ := h
    rfl
  · obtain ⟨v, xs, rfl, hv, hlen, k⟩ := h
    refine ⟨_, pss_one (ps_ret (pe_op op_cat (pe_lst (pa_cons (pe_len rfl T.len (pa_cons (pv 0) pa_nil)) pa_nil)) (pv 0))), ?_⟩
    refine ⟨_, rfl, v, _, rfl, .inl (SqL.of hv), (by show 1 ≤ sizeLine; decide), fun q hq => ?_⟩
    have hvq : v ≠ q := ne_of_none hv hq
    refine ⟨_, rfl, q, v, _, _, rfl, rfl, upd_same, by rw [upd_ne hvq]; exact hv, Nat.le_of_lt (small1000 (n := 1 + xs.length) ?_), fun p hp => ?_⟩
    · omega
    · have hpq : p ≠ q := fun z => by rw [z, upd_same] at hp; cases hp
      rw [upd_ne hpq] at hp
      exact k p _ hp (Same.upd (Same.upd (Same.refl H) hq) hp) upd_same
theorem scRowJ : FnScope ["size", "place"] ["size"] (defScope sRowJ) := ⟨rfl, rfl, rfl, by decide +kernel, rfl, by decide +kernel, by decide +kernel⟩
theorem Pairs.snoc {H : Hp} {t : Addr} {x : Nat × Nat} (ht : H t = some (.tup [nat x.1, nat x.2])) : ∀ {ts : List Addr} {js : List (Nat × Nat)}, Pairs H ts js → Pairs H (ts ++ [t]) (js ++ [x])
  | [], [], _ => ⟨ht, trivial⟩
  | _ :: _, _ :: _, h => ⟨h.1, h.2.snoc ht⟩
  | [], _ :: _, h => h.elim
  | _ :: _, [], h => h.elim
theorem Pairs.tups {H H' : Hp} (s : ∀ b xs, H b = some (.tup xs) → H' b = some (.tup xs)) : ∀ {ts : List Addr} {js : List (Nat × Nat)}, Pairs H ts js → Pairs H' ts js
  | [], [], _ => trivial
  | _ :: _, _ :: _, h => ⟨s _ _ h.1, h.2.tups s⟩
  | [], _ :: _, h => h.elim
  | _ :: _, [], h => h.elim
theorem ok_rowJ {f : Addr} {fd : FuncData} (F : Fun K "joins_of_a_line" "joins_of_a_line" sRowJ f fd) (T : TxtB mg) : FnOk P w K mg base CX0 1 f fd ["size"] spRowJ := by
  refine F.ok scRowJ (fun vs H Q E h => ?_) (fun cdv A outer s H vs Q E hr h => ?_)
  · obtain ⟨n, rfl, _⟩ := h
    rfl
  · obtain ⟨n, rfl, h1, h9, k⟩ := h
    refine ⟨_, pss_one (ps_ret (pe_lc (own := [("place", 1)]) rfl scRowJ.nd (pi_range1 rfl T.range (pa_cons (pe_op op_sub (pv 0) pe_int) pa_nil)) (blkOk_by (by show blkC ["size", "place"] (defScope sRowJ) _ _ = true; decide +kernel))
      (fun _ _ _ _ _ => pg_name (i := 1) scRowJ.nd rfl (Or.inl rfl)) (fun _ _ _ _ _ => pts_nil) (fun _ _ _ _ _ => pe_tup (pa_cons (pv 1) (pa_cons (pe_op op_add (pv 1) pe_int) pa_nil))))), ?_⟩
    refine ⟨_, rfl, _, _, rfl, rfl, (n : Int) - 1, rfl, by omega, by omega, fun D hD => ?_⟩
    refine lc_range (Qd := fun H' => Q (.ref D) H') (fun i H' => Same H H' ∧ ∃ ts, H' D = some (.lst (ts.map V.ref)) ∧ Pairs H' ts ((List.range i).map fun i => (i, i + 1))) ⟨Same.upd (Same.refl H) hD, [], upd_same, trivial⟩ ?_ ?_
    · rintro i H' hi ⟨S, ts, hD1, hp⟩
      have hi' : i < n - 1 := by omega
      refine ⟨rfl, ?_⟩
      refine yes_ ?_
      rw [if_pos rfl]
      refine ⟨_, rfl, _, rfl, _, _, rfl, rfl, (by show 2 ≤ sizeLine; decide), fun t ht => ⟨ts.map V.ref, by rw [upd_ne (ne_of_none hD1 ht)]; exact hD1, ?_, ?_⟩⟩
      · have := hp.len
        rw [List.length_map, List.length_range] at this
        rw [List.length_map]
        exact small1000 (by omega)
      · have hDt : D ≠ t := ne_of_none hD1 ht
        refine ⟨?_, ts ++ [t], ?_, ?_⟩
        · have hHt : H t = none := S.free ht
          exact Same.upd (Same.upd S hHt) hD
        · rw [upd_same, List.map_append] <;> rfl
        · rw [List.range_succ, List.map_append]
          refine Pairs.snoc (x := (i, i + 1)) ?_ (hp.tups fun b xs e => ?_)
          · rw [upd_ne (Ne.symm hDt), upd_same]
            show some (HO.tup [V.int (0 + (i : Int)), V.int (0 + (i : Int) + 1)]) = _
            rw [Int.zero_add] <;> rfl
          · rw [upd_ne (ne_of e hD1 (by intro z; cases z)), upd_ne (ne_of_none e ht)]
            exact e
    · rintro H' ⟨S, ts, hD1, hp⟩
      have e : ((n : Int) - 1).toNat = n - 1 := by omega
      rw [e] at hp
      exact k D H' hD S ⟨ts, hD1, hp⟩
end
end LF

end

section
set_option Elab.async false
set_option linter.all false
set_option maxRecDepth 100000
set_option maxHeartbeats 2000000
namespace LF
open PySem PySem.Spec PyProof.Rows L2
structure Wf (a : Abs) : Prop where
  n1 : 1 ≤ a.n
  n9 : a.n ≤ 9
  lt : ∀ x ∈ a.joins, x.1 < x.2 ∧ x.2 < a.n
  nd : a.joins.Nodup
  lit : ∀ p ∈ a.lit, p < a.n
  ll : a.lit.length ≤ a.n
theorem Wf.near {a : Abs} (W : Wf a) : NearOk a (nearM a.n a.joins) := nearM_ok ⟨W.lt⟩
def But3 (g j l : Addr) (H H' : Hp) : Prop := ∀ b o, H b = some o → b ≠ g → b ≠ j → b ≠ l → H' b = some o
def Post (C : Addr) (H : Hp) (g j l : Addr) (r : Abs × Su120.Ans) (Q : VK) : Prop :=
  ∀ p H' j' l', H p = none → But3 g j l H H' → (j' = j ∨ H j' = none) → (l' = l ∨ H l' = none) → GAt C H' g j' l' r.1 → H' p = some (.lst ((ansOf r.2).map V.int)) → Q (.ref p) H'
def spCall (C : Addr) (mk : List Nat → Option Su120.Call) (needs : Abs → Prop) : Sp := fun vs H Q _ => ∃ (g v j l : Addr) (a : Abs) (given : List Nat) (c : Su120.Call), vs = [.ref g, .ref v] ∧ GAt C H g j l a ∧ needs a ∧ H v = some (.lst (nats given)) ∧ v ≠ j ∧ v ≠ l ∧ mk given = some c ∧ Post C H g j l (Su120.does a c) Q
/-- a call that changes nothing -/
theorem Post.still {C : Addr} {H : Hp} {g j l : Addr} {r : Abs × Su120.Ans} {Q : VK} {a : Abs} {z : Su120.Ans} (k : Post C H g j l r Q) (e : r = (a, z)) (G : GAt C H g j l a) {p : Addr} {H' : Hp} (hp : H p = none) (S : Same H H') (h : H' p = some (.lst ((ansOf z).map V.int))) : Q (.ref p) H' := by
  subst e
  exact k p H' j l hp (fun b o e _ _ _ => S b o e) (.inl rfl) (.inl rfl) (G.same S) h
theorem Post.no {C : Addr} {H : Hp} {g j l : Addr} {r : Abs × Su120.Ans} {Q : VK} {a : Abs} {v : Int} (k : Post C H g j l r Q) (e : r = (a, Su120.no v)) (G : GAt C H g j l a) {p : Addr} (hp : H p = none) : Q (.ref p) (L2.upd H p (.lst [.int v])) :=
  k.still e G hp (Same.upd (Same.refl H) hp) upd_same
theorem gf_no {n : Nat} {j l : Addr} {m : Str} (h1 : (m == ("size" : Str)) = false := by decide +kernel) (h2 : (m == ("joins" : Str)) = false := by decide +kernel) (h3 : (m == ("lit" : Str)) = false := by decide +kernel) : (gf n j l).lookup m = none := by
  unfold gf
  rw [List.lookup_cons, h1, List.lookup_cons, h2, List.lookup_cons, h3] <;> rfl
structure TxtK (mg : Str → Option Value) : Prop where
  c2 : KI mg "NO_SUCH_PLACE" (-2)
  c6 : KI mg "NOT_SO" (-6)
  c17 : KI mg "SO_ALREADY" (-17)
  c22 : KI mg "OUT_OF_RANGE" (-22)
  c28 : KI mg "TOO_MANY" (-28)
  c33 : KI mg "THERE_IS_NONE" (-33)
  longest : KI mg "LONGEST_ROW" 9
  rooted : KI mg "MOST_ROOTED" 1000
  treeP : KI mg "MOST_PLACES_OF_A_TREE" 7
  treeJ : KI mg "MOST_JOINS_OF_A_TREE" 9
  most : KI mg "MOST_PLACES" 9
  least : KI mg "LEAST_RING" 3
  max : mg "max" = none
  min : mg "min" = none
abbrev sBegin : Stmt := top 44
abbrev sLine : Stmt := top 45
abbrev sRing : Stmt := top 46
abbrev sJoin : Stmt := top 47
abbrev sPart : Stmt := top 48
abbrev sLight : Stmt := top 49
abbrev sOut : Stmt := top 50
abbrev sBurns : Stmt := top 51
abbrev sLeft : Stmt := top 52
abbrev sTurns : Stmt := top 53
abbrev sBestC : Stmt := top 54
def mk1 (f : Nat → Su120.Call) : List Nat → Option Su120.Call
  | [x] => some (f x)
  | _ => none
def mk2 (f : Nat → Nat → Su120.Call) : List Nat → Option Su120.Call
  | [x, y] => some (f x y)
  | _ => none
def mk0 (c : Su120.Call) : List Nat → Option Su120.Call
  | [] => some c
  | _ => none
theorem mk1_of {f : Nat → Su120.Call} {l : List Nat} {c : Su120.Call} (h : mk1 f l = some c) : ∃ x, l = [x] ∧ c = f x := by
  match l, h with
  | [x], h => exact ⟨x, rfl, (Option.some.inj h).symm⟩
theorem mk2_of {f : Nat → Nat → Su120.Call} {l : List Nat} {c : Su120.Call} (h : mk2 f l = some c) : ∃ x y, l = [x, y] ∧ c = f x y := by
  match l, h with
  | [x, y], h => exact ⟨x, y, rfl, (Option.some.inj h).symm⟩
theorem mk0_of {d : Su120.Call} {l : List Nat} {c : Su120.Call} (h : mk0 d l = some c) : l = [] ∧ c = d := by
  match l, h with
  | [], h => exact ⟨rfl, (Option.some.inj h).symm⟩
abbrev any_ : Abs → Prop := fun _ => True
section
variable {P : Program} {w : World} {K : PySem.W.Frag} {mg : Str → Option Value} {base : Heap}
theorem scBegin : FnScope ["ground", "given", "size"] ["ground", "given"] (defScope sBegin) := ⟨rfl, rfl, rfl, by decide +kernel, rfl, by decide +kernel, by decide +kernel⟩
theorem lay_post {C : Addr} {H H1 H2 : Hp} {g j l j' l' p : Addr} {r : Abs × Su120.Ans} {Q : VK} {n : Nat} {js : List (Nat × Nat)} {z : Su120.Ans} (k : Post C H g j l r Q) (e : r = (⟨n, js, []⟩, z)) (S1 : Same H H1) (hj : H j' = none) (hl : H1 l' = none) (B : But g H1 H2)
    (G : GAt C H2 g j' l' ⟨n, js, []⟩) (hp : H2 p = none) : Q (.ref p) (L2.upd H2 p (.lst ((ansOf z).map V.int))) := by
  subst e
  have hp0 : H p = none := by
    cases q : H p with
    | none => rfl
    | some u =>
      by_cases hpg : p = g
      · obtain ⟨dx, hg⟩ := G.ins
        rw [hpg, hg] at hp
        cases hp
      · rw [B p u (S1 p u q) hpg] at hp
        cases hp
  refine k p _ j' l' hp0 (fun b o e hb _ _ => ?_) (.inr hj) (.inr (S1.free hl)) (G.same (Same.upd (Same.refl H2) hp)) upd_same
  have h2 := B b o (S1 b o e) hb
  rw [upd_ne (ne_of_none h2 hp)]
  exact h2
theorem ok_begin {f C : Addr} {fd : FuncData} (F : Fun K "begin" "begin" sBegin f fd) (T : TxtG K C) (TK : TxtK mg) (dL : MDef P w K mg base 1 C "lay" ["self", "size", "joins"] (spLay C)) : FnOk P w K mg base CX0 2 f fd ["ground", "given"] (spCall C (mk1 .begin_) any_) := by
  refine F.ok scBegin (fun vs H Q E h => ?_) (fun cdv A outer s H vs Q E hr h => ?_)
  · obtain ⟨g, v, j, l, a, given, c, rfl, _⟩ := h
    rfl
  · obtain ⟨g, v, j, l, a, given, c, rfl, G, _, hv, _, _, hc, k⟩ := h
    obtain ⟨n, rfl, rfl⟩ := mk1_of hc
    refine ⟨_, pss_cons (ps_set (i := 2) scBegin.nd rfl (Or.inl rfl) (pe_ix ix_list (pv 1) pe_int (fun _ _ => rfl)))
      (pss_cons (ps_if (PW.pt (pw_or (pt_cmpR op_lt (pv 2) pe_int (nomark _)) (pw_or1 (pt_cmpR op_gt (pv 2) (pe_ki TK.most rfl) (nomark _))))) (pss_one (ps_ret (pe_lst (pa_cons (pe_ki TK.c22 rfl) pa_nil)))) pss_nil)
      (pss_cons (ps_expr (pe_mdef dL (pv 0) T.cl hr (by decide) (pa_cons (pv 2) (pa_cons (pe_lst pa_nil) pa_nil))))
      (pss_one (ps_ret (pe_lst (pa_cons pe_int pa_nil)))))), ?_⟩
    refine ⟨_, rfl, v, _, _, _, rfl, rfl, SqL.of hv, at_of (j := 0) rfl rfl, ?_⟩
    obtain ⟨dx, hg⟩ := G.ins
    have ret : Su120.does a (.begin_ n) = (a, Su120.no (-22)) → 1 ≤ sizeLine ∧ ∀ p, H p = none → Q (.ref p) (L2.upd H p (.lst [.int (-22)])) := fun e => ⟨by decide, fun p hp => k.no e G hp⟩
    refine ⟨_, rfl, _, _, rfl, rfl, _, rfl, ite2 (fun h => iteT (ret ?_)) fun h => ⟨_, rfl, _, _, rfl, rfl, _, rfl, ite2 (fun h2 => ret ?_) fun h2 => ?_⟩⟩
    · have h := of_decide_eq_true h
      exact if_pos (.inl (by omega))
    · have h2 := of_decide_eq_true h2
      exact if_pos (.inr (show 9 < n by omega))
    · have h := of_decide_eq_false (Bool.eq_false_iff.mpr h)
      have h2 := of_decide_eq_false (Bool.eq_false_iff.mpr h2)
      refine ⟨_, rfl, g, dx, _, rfl, hg, gf_no, _, rfl, Nat.zero_le _, fun j' hj' => ?_⟩
      have S1 : Same H (L2.upd H j' (.lst [])) := Same.upd (Same.refl H) hj'
      refine ⟨g, j, l, j', a, n, [], rfl, G.same S1, ⟨[], upd_same, trivial⟩, fun H2 l' hl' B G2 => ?_⟩
      refine ⟨(by show 1 ≤ sizeLine; decide), fun p hp => lay_post (z := Su120.no 0) k (if_neg ?_) S1 hj' hl' B G2 hp⟩
      rintro (z | z)
      · omega
      · have z : 9 < n := z
        omega
theorem scLine : FnScope ["ground", "given", "size"] ["ground", "given"] (defScope sLine) := ⟨rfl, rfl, rfl, by decide +kernel, rfl, by decide +kernel, by decide +kernel⟩
theorem one_ans (ts : List Addr) (n : Nat) (h : ts.length = n) : [V.int (((ts.map V.ref).length : Nat) : Int)] = (ansOf (Su120.num n [])).map V.int := by
  rw [List.length_map, h] <;> rfl
theorem rowJ_len (n : Nat) : (rowJ n).length = n - 1 := by unfold rowJ; rw [List.length_map, List.length_range]
theorem ok_line {f C : Addr} {fd : FuncData} (F : Fun K "line" "line" sLine f fd) (T : TxtG K C) (TB : TxtB mg) (TK : TxtK mg) (dL : MDef P w K mg base 1 C "lay" ["self", "size", "joins"] (spLay C)) (dR : Def P w K mg base 1 "joins_of_a_line" ["size"] spRowJ) : FnOk P w K mg base CX0 2 f fd ["ground", "given"] (spCall C (mk1 .line) any_) := by
  refine F.ok scLine (fun vs H Q E h => ?_) (fun cdv A outer s H vs Q E hr h => ?_)
  · obtain ⟨g, v, j, l, a, given, c, rfl, _⟩ := h
    rfl
  · obtain ⟨g, v, j, l, a, given, c, rfl, G, _, hv, _, _, hc, k⟩ := h
    obtain ⟨n, rfl, rfl⟩ := mk1_of hc
    refine ⟨_, pss_cons (ps_set (i := 2) scLine.nd rfl (Or.inl rfl) (pe_ix ix_list (pv 1) pe_int (fun _ _ => rfl)))
      (pss_cons (ps_if (PW.pt (pw_or (pt_cmpR op_lt (pv 2) pe_int (nomark _)) (pw_or1 (pt_cmpR op_gt (pv 2) (pe_ki TK.most rfl) (nomark _))))) (pss_one (ps_ret (pe_lst (pa_cons (pe_ki TK.c22 rfl) pa_nil)))) pss_nil)
      (pss_cons (ps_expr (pe_mdef dL (pv 0) T.cl hr (by decide) (pa_cons (pv 2) (pa_cons (pe_def dR hr (by decide) rfl (pa_cons (pv 2) pa_nil)) pa_nil))))
      (pss_one (ps_ret (pe_lst (pa_cons (pe_len rfl TB.len (pa_cons (pe_fld (pv 0) rfl) pa_nil)) pa_nil)))))), ?_⟩
    refine ⟨_, rfl, v, _, _, _, rfl, rfl, SqL.of hv, at_of (j := 0) rfl rfl, ?_⟩
    obtain ⟨dx, hg⟩ := G.ins
    have ret : Su120.does a (.line n) = (a, Su120.no (-22)) → 1 ≤ sizeLine ∧ ∀ p, H p = none → Q (.ref p) (L2.upd H p (.lst [.int (-22)])) := fun e => ⟨by decide, fun p hp => k.no e G hp⟩
    refine ⟨_, rfl, _, _, rfl, rfl, _, rfl, ite2 (fun h => iteT (ret ?_)) fun h => ⟨_, rfl, _, _, rfl, rfl, _, rfl, ite2 (fun h2 => ret ?_) fun h2 => ?_⟩⟩
    · have h := of_decide_eq_true h
      exact if_pos (.inl (by omega))
    · have h2 := of_decide_eq_true h2
      exact if_pos (.inr (show 9 < n by omega))
    · have h := of_decide_eq_false (Bool.eq_false_iff.mpr h)
      have h2 := of_decide_eq_false (Bool.eq_false_iff.mpr h2)
      refine ⟨_, rfl, g, dx, _, rfl, hg, gf_no, _, rfl, _, rfl, n, rfl, by omega, by omega, fun j' H1 hj' S1 hJ => ?_⟩
      refine ⟨g, j, l, j', a, n, _, rfl, G.same S1, hJ, fun H2 l' hl' B G2 => ?_⟩
      obtain ⟨dx2, hg2⟩ := G2.ins
      obtain ⟨ts, hts, hpt⟩ := G2.js
      have hlen : ts.length = n - 1 := by rw [hpt.len]; exact rowJ_len n
      refine ⟨_, rfl, g, C, dx2, _, _, rfl, hg2, T.cl, T.nJ, gf_joins _ _ _, j', _, rfl, .inl (SqL.of hts), (by show 1 ≤ sizeLine; decide), fun p hp => ?_⟩
      have q := lay_post (z := Su120.num (n - 1) []) k (if_neg (fun z => z.elim (fun z => by omega) (fun z => absurd (show 9 < n from z) (by omega)))) S1 hj' hl' B G2 hp
      rw [← one_ans ts _ hlen] at q
      exact q
theorem scRing : FnScope ["ground", "given", "size"] ["ground", "given"] (defScope sRing) := ⟨rfl, rfl, rfl, by decide +kernel, rfl, by decide +kernel, by decide +kernel⟩
theorem ok_ring {f C : Addr} {fd : FuncData} (F : Fun K "ring" "ring" sRing f fd) (T : TxtG K C) (TB : TxtB mg) (TK : TxtK mg) (dL : MDef P w K mg base 1 C "lay" ["self", "size", "joins"] (spLay C)) (dR : Def P w K mg base 1 "joins_of_a_line" ["size"] spRowJ) : FnOk P w K mg base CX0 2 f fd ["ground", "given"] (spCall C (mk1 .ring) any_) := by
  refine F.ok scRing (fun vs H Q E h => ?_) (fun cdv A outer s H vs Q E hr h => ?_)
  · obtain ⟨g, v, j, l, a, given, c, rfl, _⟩ := h
    rfl
  · obtain ⟨g, v, j, l, a, given, c, rfl, G, _, hv, _, _, hc, k⟩ := h
    obtain ⟨n, rfl, rfl⟩ := mk1_of hc
    refine ⟨_, pss_cons (ps_set (i := 2) scRing.nd rfl (Or.inl rfl) (pe_ix ix_list (pv 1) pe_int (fun _ _ => rfl)))
      (pss_cons (ps_if (PW.pt (pw_or (pt_cmpR op_lt (pv 2) (pe_ki TK.least rfl) (nomark _)) (pw_or1 (pt_cmpR op_gt (pv 2) (pe_ki TK.most rfl) (nomark _))))) (pss_one (ps_ret (pe_lst (pa_cons (pe_ki TK.c22 rfl) pa_nil)))) pss_nil)
      (pss_cons (ps_expr (pe_mdef dL (pv 0) T.cl hr (by decide) (pa_cons (pv 2) (pa_cons (pe_op op_cat (pe_def dR hr (by decide) rfl (pa_cons (pv 2) pa_nil)) (pe_lst (pa_cons (pe_tup (pa_cons pe_int (pa_cons (pe_op op_sub (pv 2) pe_int) pa_nil))) pa_nil))) pa_nil))))
      (pss_one (ps_ret (pe_lst (pa_cons (pe_len rfl TB.len (pa_cons (pe_fld (pv 0) rfl) pa_nil)) pa_nil)))))), ?_⟩
    refine ⟨_, rfl, v, _, _, _, rfl, rfl, SqL.of hv, at_of (j := 0) rfl rfl, ?_⟩
    obtain ⟨dx, hg⟩ := G.ins
    have ret : Su120.does a (.ring n) = (a, Su120.no (-22)) → 1 ≤ sizeLine ∧ ∀ p, H p = none → Q (.ref p) (L2.upd H p (.lst [.int (-22)])) := fun e => ⟨by decide, fun p hp => k.no e G hp⟩
    refine ⟨_, rfl, _, _, rfl, rfl, _, rfl, ite2 (fun h => iteT (ret ?_)) fun h => ⟨_, rfl, _, _, rfl, rfl, _, rfl, ite2 (fun h2 => ret ?_) fun h2 => ?_⟩⟩
    · have h := of_decide_eq_true h
      exact if_pos (.inl (by omega))
    · have h2 := of_decide_eq_true h2
      exact if_pos (.inr (show 9 < n by omega))
    · have h := of_decide_eq_false (Bool.eq_false_iff.mpr h)
      have h2 := of_decide_eq_false (Bool.eq_false_iff.mpr h2)
      refine ⟨_, rfl, g, dx, _, rfl, hg, gf_no, _, rfl, _, rfl, n, rfl, by omega, by omega, fun j0 H1 hj0 S1 hJ => ?_⟩
      obtain ⟨ts, hts, hpt⟩ := hJ
      have hlen : ts.length = n - 1 := by rw [hpt.len, rowJ_len]
      refine ⟨_, rfl, _, _, rfl, rfl, (by show 2 ≤ sizeLine; decide), fun t ht => ⟨(by show 1 ≤ sizeLine; decide), fun q hq => ?_⟩⟩
      have hqt : q ≠ t := fun z => by rw [z, upd_same] at hq; cases hq
      rw [upd_ne hqt] at hq
      have htj : j0 ≠ t := ne_of_none hts ht
      have htq : j0 ≠ q := ne_of_none hts hq
      refine ⟨j0, q, ts.map V.ref, [.ref t], rfl, rfl, by rw [upd_ne htq, upd_ne htj]; exact hts, upd_same, Nat.le_of_lt (small1000 (by rw [List.length_map]; show ts.length + 1 ≤ 1000; omega)), fun j' hj' => ?_⟩
      have hjq : j' ≠ q := fun z => by rw [z, upd_same] at hj'; cases hj'
      rw [upd_ne hjq] at hj'
      have hjt : j' ≠ t := fun z => by rw [z, upd_same] at hj'; cases hj'
      rw [upd_ne hjt] at hj'
      have S2 : Same H (L2.upd (L2.upd (L2.upd H1 t (.tup [.int 0, .int ((n : Int) - 1)])) q (.lst [.ref t])) j' (.lst (ts.map V.ref ++ [.ref t]))) :=
        Same.upd (Same.upd (Same.upd S1 (S1.free ht)) (S1.free hq)) (S1.free hj')
      have hJ2 : JoinsAt (L2.upd (L2.upd (L2.upd H1 t (.tup [.int 0, .int ((n : Int) - 1)])) q (.lst [.ref t])) j' (.lst (ts.map V.ref ++ [.ref t]))) j' (rowJ n ++ [(0, n - 1)]) := by
        refine ⟨ts ++ [t], by rw [upd_same, List.map_append] <;> rfl, Pairs.snoc ?_ (hpt.tups fun b xs e => ?_)⟩
        · rw [upd_ne (Ne.symm hjt), upd_ne (Ne.symm hqt), upd_same]
          have e : (n : Int) - 1 = ((n - 1 : Nat) : Int) := by omega
          rw [e] <;> rfl
        · rw [upd_ne (ne_of_none e hj'), upd_ne (ne_of_none e hq), upd_ne (ne_of_none e ht)]; exact e
      refine ⟨g, j, l, j', a, n, _, rfl, G.same S2, hJ2, fun H2 l' hl' B G2 => ?_⟩
      obtain ⟨dx2, hg2⟩ := G2.ins
      obtain ⟨ts2, hts2, hpt2⟩ := G2.js
      have hlen2 : ts2.length = n := by rw [hpt2.len]; show (rowJ n ++ [(0, n - 1)]).length = n; rw [List.length_append, rowJ_len]; show n - 1 + 1 = n; omega
      refine ⟨_, rfl, g, C, dx2, _, _, rfl, hg2, T.cl, T.nJ, gf_joins _ _ _, j', _, rfl, .inl (SqL.of hts2), (by show 1 ≤ sizeLine; decide), fun p hp => ?_⟩
      have hj0' : H j' = none := S1.free hj'
      have er : Su120.does a (.ring n) = (⟨n, rowJ n ++ [(0, n - 1)], []⟩, Su120.num n []) := by
        show (if n < 3 ∨ Su120.PLACES < n then _ else _) = _
        rw [if_neg (fun z => z.elim (fun z => by omega) (fun z => absurd (show 9 < n from z) (by omega)))]
        show (Su120.Abs.mk n ((Su120.line n).joins ++ (if 3 ≤ n then [(0, n - 1)] else [])) [], _) = _
        rw [if_pos (by omega)] <;> rfl
      have q := lay_post (z := Su120.num n []) k er S2 hj0' hl' B G2 hp
      rw [← one_ans ts2 _ hlen2] at q
      exact q
end
end LF

end

section
set_option Elab.async false
set_option linter.all false
set_option maxRecDepth 100000
set_option maxHeartbeats 2000000
namespace LF
open PySem PySem.Spec PyProof.Rows L2
/-! ### two places -/
theorem lo_of {p q : Nat} {m : Int} (hm : m ∈ ([p, q] : List Nat).map Int.ofNat) (h : ∀ y, y ∈ ([p, q] : List Nat).map Int.ofNat → m ≤ y) : V.int m = nat (Su120.pair p q).1 := by
  have h1 := h (p : Int) (by simp)
  have h2 := h (q : Int) (by simp)
  have hm' : m = (p : Int) ∨ m = (q : Int) := by simpa using hm
  unfold Su120.pair nat
  congr 1
  split
  · show m = (p : Int); omega
  · show m = (q : Int); omega
theorem hi_of {p q : Nat} {m : Int} (hm : m ∈ ([p, q] : List Nat).map Int.ofNat) (h : ∀ y, y ∈ ([p, q] : List Nat).map Int.ofNat → y ≤ m) : V.int m = nat (Su120.pair p q).2 := by
  have h1 := h (p : Int) (by simp)
  have h2 := h (q : Int) (by simp)
  have hm' : m = (p : Int) ∨ m = (q : Int) := by simpa using hm
  unfold Su120.pair nat
  congr 1
  split
  · show m = (q : Int); omega
  · show m = (p : Int); omega
theorem miss2 (a : Abs) (p q : Nat) : (([p, q] : List Nat).any fun p => decide (a.n ≤ p)) = true ↔ (a.isP p = false ∨ a.isP q = false) := by
  unfold Su120.Abs.isP
  simp [Nat.not_lt]
theorem given_ints (v : Addr) (H : Hp) (l : List Nat) (K : PySem.W.Frag) (h : H v = some (.lst (nats l))) : SqL K H v ((l.map Int.ofNat).map V.int) := SqL.of (by rw [h, nats, List.map_map] <;> rfl)
theorem erase_filter {z : Nat × Nat} : ∀ {js : List (Nat × Nat)} {k : Nat}, js.Nodup → js[k]? = some z → js.eraseIdx k = js.filter fun x => x != z
  | [], _, _, h => by cases h
  | x :: js, 0, hn, h => by
    have e : x = z := Option.some.inj h
    subst e
    obtain ⟨h1, h2⟩ := List.nodup_cons.mp hn
    show js = _
    rw [List.filter_cons, if_neg (by simp), List.filter_eq_self.mpr]
    intro y hy
    have : y ≠ x := fun e => h1 (e ▸ hy)
    simpa using this
  | x :: js, k + 1, hn, h => by
    obtain ⟨h1, h2⟩ := List.nodup_cons.mp hn
    have hz : z ∈ js := List.mem_of_getElem? (i := k) h
    have hx : x ≠ z := fun e => h1 (e ▸ hz)
    show x :: js.eraseIdx k = _
    rw [List.filter_cons, if_pos (by simpa using hx), erase_filter h2 (k := k) h]
theorem Pairs.erase {H : Hp} : ∀ {ts : List Addr} {js : List (Nat × Nat)} (k : Nat), Pairs H ts js → Pairs H (ts.eraseIdx k) (js.eraseIdx k)
  | [], [], _, _ => trivial
  | _ :: _, _ :: _, 0, h => h.2
  | _ :: _, _ :: _, k + 1, h => ⟨h.1, h.2.erase k⟩
  | [], _ :: _, _, h => h.elim
  | _ :: _, [], _, h => h.elim
theorem joins_few {a : Abs} (W : Wf a) : a.joins.length ≤ 81 := by
  have hn : (a.joins.map fun x => x.1 * 9 + x.2).Nodup := by
    rw [List.nodup_iff_pairwise_ne, List.pairwise_map]
    refine (List.nodup_iff_pairwise_ne.mp W.nd).imp_of_mem fun {x y} hx hy hne e => hne ?_
    have h1 := W.lt x hx
    have h2 := W.lt y hy
    have h9 := W.n9
    exact Prod.ext (by omega) (by omega)
  have := nodup_sub_len hn (b := List.range 81) fun z hz => by
    obtain ⟨x, hx, rfl⟩ := List.mem_map.mp hz
    have h1 := W.lt x hx
    have h9 := W.n9
    exact List.mem_range.mpr (by omega)
  rwa [List.length_map, List.length_range] at this
/-- the joins' list is written, then the answer laid -/
theorem joins_post {C : Addr} {H H1 : Hp} {g j l p : Addr} {a a' : Abs} {r : Abs × Su120.Ans} {Q : VK} {z : Su120.Ans} {ts' : List Addr} (k : Post C H g j l r Q) (e : r = (a', z)) (G : GAt C H g j l a) (S1 : Same H H1) (hp2 : Pairs H1 ts' a'.joins) (hn : a'.n = a.n) (hl : a'.lit = a.lit)
    (hp : (L2.upd H1 j (.lst (ts'.map V.ref))) p = none) : Q (.ref p) (L2.upd (L2.upd H1 j (.lst (ts'.map V.ref))) p (.lst ((ansOf z).map V.int))) := by
  subst e
  obtain ⟨dx, hg⟩ := G.ins
  obtain ⟨ts, hts, _⟩ := G.js
  have hgj : g ≠ j := ne_of hg hts (by intro z; cases z)
  have hpj : p ≠ j := fun z => by rw [z, upd_same] at hp; cases hp
  rw [upd_ne hpj] at hp
  have hts1 := S1 _ _ hts
  refine k p _ j l (S1.free hp) (fun b o e hb hbj hbl => ?_) (.inl rfl) (.inl rfl) ⟨⟨dx, ?_⟩, G.jl, ⟨ts', ?_, hp2.tups fun b xs e => ?_⟩, ?_⟩ upd_same
  · have h1 := S1 _ _ e
    rw [upd_ne (ne_of_none h1 hp), upd_ne hbj]; exact h1
  · have h1 := S1 _ _ hg
    rw [upd_ne (ne_of_none h1 hp), upd_ne hgj, h1, hn]
  · rw [upd_ne (Ne.symm hpj), upd_same]
  · have hbj : b ≠ j := ne_of e hts1 (by intro z; cases z)
    rw [upd_ne (ne_of_none e hp), upd_ne hbj]; exact e
  · have h1 := S1 _ _ G.lit
    rw [upd_ne (ne_of_none h1 hp), upd_ne (Ne.symm G.jl), h1, hl]
theorem isP_lt {a : Abs} {p : Nat} (h : ¬ a.isP p = false) : p < a.n := by
  unfold Su120.Abs.isP at h
  simpa using h
theorem pair_lt {p q n : Nat} (h : p ≠ q) (hp : p < n) (hq : q < n) : (Su120.pair p q).1 < (Su120.pair p q).2 ∧ (Su120.pair p q).2 < n := by
  unfold Su120.pair
  split
  · exact ⟨by assumption, hq⟩
  · exact ⟨by show q < p; omega, hp⟩
/-! ### extend, by a tuple -/
section
open AutoSeq1 (wpAny_loadPart')
open MeetsSeq MeetsSeq2 MeetsSeq3 SeqRoads2
theorem extend_tup (l b : Addr) (xs ys : Array Value) (n m : Nat) (od : Option Addr) (osl : Array (Option Value)) (h0 : ¬(!xs.isEmpty && Builtin.List.listTooLong (xs.size + ys.size)) = true) (h1 : xs.size ≤ sizeLine) (h2 : (xs ++ ys).size ≤ sizeLine + 1) :
    Meets (Builtin.«list.extend» ⟨[.ref l, .ref b], []⟩) (fun _ R s => s.heap.get? l = some ⟨.type "list", none, .seq xs n, #[]⟩ ∧ s.heap.get? b = some ⟨.type "tuple", od, .seq ys m, osl⟩ ∧ R (.ok (.ret Value.none)) { s with heap := s.heap.update l (Obj.mapSeq fun x => x ++ ys), toks := s.toks }) :=
  .of_wp fun prog w A R s q => by
    obtain ⟨hp, g, d, tk, os⟩ := s
    obtain ⟨hl, hb, q⟩ := q
    have f1 := AutoSeq1.idx_int
    have f2 := AutoSeq1.sub_tuple_tuple
    have f3 := AutoSeq1.sub_list_list
    have f4 := AutoSeq1.sub_tuple_list
    have f5 := AutoSeq1.sub_list_tuple
    wp_walk using (wpAny_updateSeq hl rfl (hz := h1) (_hz' := h2)), wpAny_loadPart' hl, wpAny_loadPart' hb
    exact ⟨_, rfl, q⟩
end
section
variable {X : Cx}
def rExtendT : V → List V → Hp → VK → Prop := fun x vs H Q => ∃ l b xs zs, x = .ref l ∧ vs = [.ref b] ∧ H l = some (.lst xs) ∧ H b = some (.tup zs) ∧ xs.length + zs.length ≤ sizeLine ∧ Q .non (L2.upd H l (.lst (xs ++ zs)))
theorem mt_extendT : MtM X "list.extend" rExtendT := by
  intro pins s σ H x vs v us Q I rx rv q
  obtain ⟨l, b, xs, zs, rfl, rfl, hl, hb, hz, q⟩ := q
  cases rx
  obtain ⟨u, rfl, ru⟩ := Vals.one rv
  cases ru
  obtain ⟨_, its, n, r, hn, e⟩ := I.lstM hl
  obtain ⟨its2, r2, ⟨⟨oc, od, dt, osl⟩, e2, hc, m, hd⟩, _⟩ := I.tuple (SqT.of (K := X.K) hb)
  have hc : oc = .type "tuple" := hc
  have hd : dt = .seq its2.toArray m := hd
  subst hc hd
  have hn2 := r2.length
  have hsz : its.toArray.size + its2.toArray.size ≤ sizeLine := by rw [List.size_toArray, List.size_toArray]; omega
  have hlong : ¬ (!its.toArray.isEmpty && Builtin.List.listTooLong (its.toArray.size + its2.toArray.size)) = true := by
    rw [notLongL hsz, Bool.and_false]
    exact Bool.false_ne_true
  refine call_meets F.slot_list_extend ⟨_, e, rfl⟩ F.entry_list_extend (F.args_list_extend_2 _ _) (extend_tup l b its.toArray its2.toArray n m od osl hlong (by rw [List.size_toArray]; omega) (by rw [Array.size_append]; omega)) ⟨e, e2, ?_⟩
  refine ⟨.non, _, I.lset (its' := its ++ its2) hl e (by simp) (r.append r2) ?_, rfl, q⟩
  rw [List.length_append]
  omega
end
abbrev sTurnsNow : Stmt := top 37
abbrev sPairOf : Stmt := top 39
abbrev sInRow : Stmt := top 40
abbrev sJoinR : Stmt := top 42
abbrev sPartR : Stmt := top 43
def flatJ (js : List (Nat × Nat)) : List Nat := js.flatMap fun x => [x.1, x.2]
theorem flatJ_len (js : List (Nat × Nat)) : (flatJ js).length = 2 * js.length := by
  induction js with
  | nil => rfl
  | cons x js ih =>
    show (x.1 :: x.2 :: flatJ js).length = _
    rw [List.length_cons, List.length_cons, List.length_cons, ih]; omega
theorem flatJ_snoc (js : List (Nat × Nat)) (x : Nat × Nat) : flatJ (js ++ [x]) = flatJ js ++ [x.1, x.2] := by
  unfold flatJ
  rw [List.flatMap_append] <;> rfl
def spTurnsNow (C : Addr) : Sp := fun vs H Q _ => ∃ (g j l : Addr) (a : Abs), vs = [.ref g] ∧ GAt C H g j l a ∧ 1 ≤ a.n ∧ a.n ≤ 9 ∧ (∀ x ∈ a.joins, x.1 < x.2 ∧ x.2 < a.n) ∧ ∀ H', Same H H' → Q (nat a.turns) H'
def spPairOf : Sp := fun vs H Q _ => ∃ (v : Addr) (p q : Nat), vs = [.ref v] ∧ H v = some (.lst (nats [p, q])) ∧ ∀ t, H t = none → Q (.ref t) (L2.upd H t (.tup [nat (Su120.pair p q).1, nat (Su120.pair p q).2]))
def spInRow : Sp := fun vs H Q _ => ∃ (j : Addr) (js : List (Nat × Nat)), vs = [.ref j] ∧ JoinsAt H j js ∧ js.length ≤ 81 ∧ gives H (flatJ js) Q
def joinR (a : Abs) (p q : Nat) : Int := if a.isP p = false ∨ a.isP q = false then -2 else if p = q then -22 else if a.joined p q = true then -17 else 0
def partR (a : Abs) (p q : Nat) : Int := if a.isP p = false ∨ a.isP q = false then -2 else if a.joined p q = false then -6 else 0
def spRef (C : Addr) (r : Abs → Nat → Nat → Int) : Sp := fun vs H Q _ => ∃ (g v j l : Addr) (a : Abs) (p q : Nat), vs = [.ref g, .ref v] ∧ GAt C H g j l a ∧ H v = some (.lst (nats [p, q])) ∧ ∀ H', Same H H' → Q (.int (r a p q)) H'
section
variable {P : Program} {w : World} {K : PySem.W.Frag} {mg : Str → Option Value} {base : Heap}
theorem scTurnsNow : FnScope ["ground"] ["ground"] (defScope sTurnsNow) := ⟨rfl, rfl, rfl, by decide +kernel, rfl, by decide +kernel, by decide +kernel⟩
theorem ok_turnsNow {f C : Addr} {fd : FuncData} (F : Fun K "turns_now" "turns_now" sTurnsNow f fd) (T : TxtG K C) (dF : Def P w K mg base 3 "fewest_turns" ["size", "joins"] spFewest) : FnOk P w K mg base CX0 4 f fd ["ground"] (spTurnsNow C) := by
  refine F.ok scTurnsNow (fun vs H Q E h => ?_) (fun cdv A outer s H vs Q E hr h => ?_)
  · obtain ⟨g, j, l, a, rfl, _⟩ := h
    rfl
  · obtain ⟨g, j, l, a, rfl, ⟨⟨dx, hg⟩, _, hj, _⟩, h1, hn, hlt, k⟩ := h
    refine ⟨_, pss_one (ps_ret (pe_def dF hr (by decide) rfl (pa_cons (pe_fld (pv 0) rfl) (pa_cons (pe_fld (pv 0) rfl) pa_nil)))), ?_⟩
    exact ⟨_, rfl, g, C, dx, _, _, rfl, hg, T.cl, T.nS, gf_size _ _ _, _, rfl, g, C, dx, _, _, rfl, hg, T.cl, T.nJ, gf_joins _ _ _, a, j, rfl, hj, h1, hn, hlt, k⟩
theorem scPairOf : FnScope ["places"] ["places"] (defScope sPairOf) := ⟨rfl, rfl, rfl, by decide +kernel, rfl, by decide +kernel, by decide +kernel⟩
theorem ok_pairOf {f : Addr} {fd : FuncData} (F : Fun K "pair_of" "pair_of" sPairOf f fd) (TK : TxtK mg) : FnOk P w K mg base CX0 1 f fd ["places"] spPairOf := by
  refine F.ok scPairOf (fun vs H Q E h => ?_) (fun cdv A outer s H vs Q E hr h => ?_)
  · obtain ⟨v, p, q, rfl, _⟩ := h
    rfl
  · obtain ⟨v, p, q, rfl, hv, k⟩ := h
    refine ⟨_, pss_one (ps_ret (pe_tup (pa_cons (pe_callB (cr_min rfl) rfl TK.min boot_min (pa_cons (pv 0) pa_nil)) (pa_cons (pe_callB (cr_max rfl) rfl TK.max boot_max (pa_cons (pv 0) pa_nil)) pa_nil)))), ?_⟩
    refine ⟨_, rfl, v, [p, q].map Int.ofNat, rfl, given_ints v _ _ _ hv, by simp, fun m hm hm2 => ⟨_, rfl, v, [p, q].map Int.ofNat, rfl, given_ints v _ _ _ hv, by simp, fun M hM hM2 => ⟨(by show 2 ≤ sizeLine; decide), fun t ht => ?_⟩⟩⟩
    rw [lo_of hm hm2, hi_of hM hM2]
    exact k t ht
theorem scInRow : FnScope ["joins", "numbers", "pair"] ["joins"] (defScope sInRow) := ⟨rfl, rfl, rfl, by decide +kernel, rfl, by decide +kernel, by decide +kernel⟩
theorem ok_inRow {f : Addr} {fd : FuncData} (F : Fun K "in_a_row" "in_a_row" sInRow f fd) : FnOk P w K mg base CX0 1 f fd ["joins"] spInRow := by
  refine F.ok scInRow (fun vs H Q E h => ?_) (fun cdv A outer s H vs Q E hr h => ?_)
  · obtain ⟨j, js, rfl, _⟩ := h
    rfl
  · obtain ⟨j, js, rfl, ⟨ts, hj, hp⟩, h81, k⟩ := h
    refine ⟨_, pss_cons (ps_set (i := 1) scInRow.nd rfl (Or.inl rfl) (pe_lst pa_nil))
      (pss_cons (ps_for PassesOwn.never rfl (pi_list (pv 0)) (pg_name (i := 2) scInRow.nd rfl (Or.inl rfl))
        (pss_one (ps_expr (pe_bm PySem.F.plainAttrs_list PySem.F.slot_list_extend PySem.F.type_list_extend mt_extendT (pv 1) (pa_cons (pv 2) pa_nil)))))
      (pss_one (ps_ret (pv 1)))), ?_⟩
    refine ⟨Nat.zero_le _, fun D hD => ?_⟩
    have S0 : Same H (L2.upd H D (.lst [])) := Same.upd (Same.refl H) hD
    refine ⟨_, rfl, j, rfl, ⟨_, SqL.of (S0 _ _ hj)⟩, for_list (K := K) (a := j) (xs := ts.map V.ref) (fun i σ H' => ∃ v2, σ = [some (.ref j), some (.ref D), v2] ∧ Same H H' ∧ H' D = some (.lst (nats (flatJ (js.take i)))))
      ⟨_, rfl, S0, upd_same⟩ (fun i σ H' _ ⟨_, _, S, _⟩ => SqL.of (S _ _ hj)) ?_ ?_⟩
    · rintro i y σ H' hi ⟨v2, rfl, S, hD'⟩
      rw [List.getElem?_map] at hi
      cases ht : ts[i]? with
      | none => rw [ht] at hi; cases hi
      | some t =>
        rw [ht] at hi
        obtain rfl : V.ref t = y := Option.some.inj hi
        obtain ⟨x, hx, htp⟩ := hp.at ht
        have hl := flatJ_len (js.take i)
        rw [List.length_take] at hl
        refine ⟨_, rfl, .inl ⟨rfl, _, SqL.of hD'⟩, _, rfl, D, t, _, _, rfl, rfl, hD', S _ _ htp, ?_, ?_⟩
        · rw [nats_len]
          exact Nat.le_of_lt (small1000 (by show (flatJ (js.take i)).length + 2 ≤ 1000; omega))
        · refine ⟨_, rfl, Same.upd S hD, ?_⟩
          rw [upd_same, take_snoc hx, flatJ_snoc, nats, nats, List.map_append] <;> rfl
    · rintro σ H' ⟨v2, rfl, S, hD'⟩
      rw [List.length_map, hp.len, List.take_length] at hD'
      exact ⟨_, rfl, k D H' hD S hD'⟩
theorem scJoinR : FnScope ["ground", "places"] ["ground", "places"] (defScope sJoinR) := ⟨rfl, rfl, rfl, by decide +kernel, rfl, by decide +kernel, by decide +kernel⟩
theorem ok_joinR {f C : Addr} {fd : FuncData} (F : Fun K "joining_refused" "joining_refused" sJoinR f fd) (T : TxtG K C) (TK : TxtK mg) (dM : Def P w K mg base 1 "is_missing" ["ground", "places"] (spMiss C)) (dP : Def P w K mg base 1 "pair_of" ["places"] spPairOf) : FnOk P w K mg base CX0 2 f fd ["ground", "places"] (spRef C joinR) := by
  refine F.ok scJoinR (fun vs H Q E h => ?_) (fun cdv A outer s H vs Q E hr h => ?_)
  · obtain ⟨g, v, j, l, a, p, q, rfl, _⟩ := h
    rfl
  · obtain ⟨g, v, j, l, a, p, q, rfl, G, hv, k⟩ := h
    have hu := hr.units
    refine ⟨_, pss_cons (ps_if (pt_val (pe_def dM hr (by decide) rfl (pa_cons (pv 0) (pa_cons (pv 1) pa_nil)))) (pss_one (ps_ret (pe_ki TK.c2 rfl))) pss_nil)
      (pss_cons (ps_if (pt_cmpR op_eq (pe_ix ix_list (pv 1) pe_int (fun _ _ => rfl)) (pe_ix ix_list (pv 1) pe_int (fun _ _ => rfl)) (nomark _)) (pss_one (ps_ret (pe_ki TK.c22 rfl))) pss_nil)
      (pss_cons (ps_if (pt_cmpR (op_inP hu) (pe_def dP hr (by decide) rfl (pa_cons (pv 1) pa_nil)) (pe_fld (pv 0) rfl) (by with_unfolding_all rfl)) (pss_one (ps_ret (pe_ki TK.c17 rfl))) pss_nil)
      (pss_one (ps_ret pe_int)))), ?_⟩
    obtain ⟨dx, hg⟩ := G.ins
    have ed : joinR a p q = if a.isP p = false ∨ a.isP q = false then -2 else if p = q then -22 else if a.joined p q = true then -17 else 0 := rfl
    refine ⟨_, rfl, _, rfl, g, v, j, l, a, [p, q], rfl, G, hv, by simp, _, rfl, ite2 (fun h => ?_) fun h => ?_⟩
    · rw [if_pos ((miss2 a p q).mp h)] at ed
      rw [ed] at k
      exact k H (Same.refl H)
    have h1 : ¬ (a.isP p = false ∨ a.isP q = false) := fun z => h ((miss2 a p q).mpr z)
    rw [if_neg h1] at ed
    refine ⟨_, rfl, v, _, _, _, rfl, rfl, SqL.of hv, at_of (j := 0) rfl rfl, _, rfl, v, _, _, _, rfl, rfl, SqL.of hv, at_of (j := 1) rfl rfl, rfl, _, rfl, ite2 (fun h => ?_) fun h => ?_⟩
    · have hpq : p = q := by
        have := V.int.inj (of_decide_eq_true h)
        omega
      rw [if_pos hpq] at ed
      rw [ed] at k
      exact k H (Same.refl H)
    have h2 : ¬ p = q := fun z => h (decide_eq_true (by rw [z]))
    rw [if_neg h2] at ed
    obtain ⟨ts, hts, hpt⟩ := G.js
    refine ⟨_, rfl, v, p, q, rfl, hv, fun t ht => ?_⟩
    have S1 : Same H (L2.upd H t (.tup [nat (Su120.pair p q).1, nat (Su120.pair p q).2])) := Same.upd (Same.refl H) ht
    refine ⟨_, rfl, g, C, dx, _, _, rfl, S1 _ _ hg, T.cl, T.nJ, gf_joins _ _ _, t, j, Su120.pair p q, ts, a.joins, rfl, rfl, upd_same, S1 _ _ hts, hpt.same S1, _, rfl, ite2 (fun h => ?_) fun h => ?_⟩
    · have hj : a.joined p q = true := h
      rw [if_pos hj] at ed
      rw [ed] at k
      exact k _ S1
    · have hj : ¬ a.joined p q = true := h
      rw [if_neg hj] at ed
      rw [ed] at k
      exact k _ S1
theorem scPartR : FnScope ["ground", "places"] ["ground", "places"] (defScope sPartR) := ⟨rfl, rfl, rfl, by decide +kernel, rfl, by decide +kernel, by decide +kernel⟩
theorem ok_partR {f C : Addr} {fd : FuncData} (F : Fun K "parting_refused" "parting_refused" sPartR f fd) (T : TxtG K C) (TK : TxtK mg) (dM : Def P w K mg base 1 "is_missing" ["ground", "places"] (spMiss C)) (dP : Def P w K mg base 1 "pair_of" ["places"] spPairOf) : FnOk P w K mg base CX0 2 f fd ["ground", "places"] (spRef C partR) := by
  refine F.ok scPartR (fun vs H Q E h => ?_) (fun cdv A outer s H vs Q E hr h => ?_)
  · obtain ⟨g, v, j, l, a, p, q, rfl, _⟩ := h
    rfl
  · obtain ⟨g, v, j, l, a, p, q, rfl, G, hv, k⟩ := h
    have hu := hr.units
    refine ⟨_, pss_cons (ps_if (pt_val (pe_def dM hr (by decide) rfl (pa_cons (pv 0) (pa_cons (pv 1) pa_nil)))) (pss_one (ps_ret (pe_ki TK.c2 rfl))) pss_nil)
      (pss_cons (ps_if (pt_cmpR (op_notInP hu) (pe_def dP hr (by decide) rfl (pa_cons (pv 1) pa_nil)) (pe_fld (pv 0) rfl) (by with_unfolding_all rfl)) (pss_one (ps_ret (pe_ki TK.c6 rfl))) pss_nil)
      (pss_one (ps_ret pe_int))), ?_⟩
    obtain ⟨dx, hg⟩ := G.ins
    have ed : partR a p q = if a.isP p = false ∨ a.isP q = false then -2 else if a.joined p q = false then -6 else 0 := rfl
    refine ⟨_, rfl, _, rfl, g, v, j, l, a, [p, q], rfl, G, hv, by simp, _, rfl, ite2 (fun h => ?_) fun h => ?_⟩
    · rw [if_pos ((miss2 a p q).mp h)] at ed
      rw [ed] at k
      exact k H (Same.refl H)
    have h1 : ¬ (a.isP p = false ∨ a.isP q = false) := fun z => h ((miss2 a p q).mpr z)
    rw [if_neg h1] at ed
    obtain ⟨ts, hts, hpt⟩ := G.js
    refine ⟨_, rfl, v, p, q, rfl, hv, fun t ht => ?_⟩
    have S1 : Same H (L2.upd H t (.tup [nat (Su120.pair p q).1, nat (Su120.pair p q).2])) := Same.upd (Same.refl H) ht
    refine ⟨_, rfl, g, C, dx, _, _, rfl, S1 _ _ hg, T.cl, T.nJ, gf_joins _ _ _, t, j, Su120.pair p q, ts, a.joins, rfl, rfl, upd_same, S1 _ _ hts, hpt.same S1, _, rfl, ite2 (fun h => ?_) fun h => ?_⟩
    · have hj : a.joined p q = false := by
        have : (!a.joins.contains (Su120.pair p q)) = true := h
        simpa [Su120.Abs.joined] using this
      rw [if_pos hj] at ed
      rw [ed] at k
      exact k _ S1
    · have hj : ¬ a.joined p q = false := by
        have : ¬ (!a.joins.contains (Su120.pair p q)) = true := h
        unfold Su120.Abs.joined
        simpa using this
      rw [if_neg hj] at ed
      rw [ed] at k
      exact k _ S1
end
end LF

end

section
set_option Elab.async false
set_option linter.all false
set_option maxRecDepth 100000
set_option maxHeartbeats 2000000
namespace LF
open PySem PySem.Spec PyProof.Rows L2
theorem joinR_cases (a : Abs) (p q : Nat) : (joinR a p q < 0 ∧ Su120.does a (.join p q) = (a, Su120.no (joinR a p q)) ∧ Su120.does a (.with_ p q) = (a, Su120.no (joinR a p q))) ∨
    (¬ joinR a p q < 0 ∧ p < a.n ∧ q < a.n ∧ p ≠ q ∧ Su120.does a (.join p q) = (a.add p q, Su120.num (a.joins.length + 1) []) ∧ Su120.does a (.with_ p q) = (a, Su120.num (a.add p q).turns [a.turns])) := by
  unfold joinR Su120.does
  by_cases h1 : a.isP p = false ∨ a.isP q = false
  · simp only [if_pos h1]
    exact .inl ⟨by decide, (by first | trivial | rfl), (by first | trivial | rfl)⟩
  · simp only [if_neg h1]
    by_cases h2 : p = q
    · simp only [if_pos h2]
      exact .inl ⟨by decide, (by first | trivial | rfl), (by first | trivial | rfl)⟩
    · simp only [if_neg h2]
      by_cases h3 : a.joined p q = true
      · simp only [if_pos h3]
        exact .inl ⟨by decide, (by first | trivial | rfl), (by first | trivial | rfl)⟩
      · simp only [if_neg h3]
        exact .inr ⟨by decide, isP_lt fun z => h1 (.inl z), isP_lt fun z => h1 (.inr z), h2, (by first | trivial | rfl), (by first | trivial | rfl)⟩
theorem partR_cases (a : Abs) (p q : Nat) : (partR a p q < 0 ∧ Su120.does a (.part p q) = (a, Su120.no (partR a p q)) ∧ Su120.does a (.without p q) = (a, Su120.no (partR a p q))) ∨
    (¬ partR a p q < 0 ∧ Su120.pair p q ∈ a.joins ∧ Su120.does a (.part p q) = (a.cut p q, Su120.num (a.joins.length - 1) []) ∧ Su120.does a (.without p q) = (a, Su120.num (a.cut p q).turns [a.turns])) := by
  unfold partR Su120.does
  by_cases h1 : a.isP p = false ∨ a.isP q = false
  · simp only [if_pos h1]
    exact .inl ⟨by decide, (by first | trivial | rfl), (by first | trivial | rfl)⟩
  · simp only [if_neg h1]
    by_cases h3 : a.joined p q = false
    · simp only [if_pos h3]
      exact .inl ⟨by decide, (by first | trivial | rfl), (by first | trivial | rfl)⟩
    · simp only [if_neg h3]
      refine .inr ⟨by decide, ?_, (by first | trivial | rfl), (by first | trivial | rfl)⟩
      unfold Su120.Abs.joined at h3
      simpa using h3
section
variable {P : Program} {w : World} {K : PySem.W.Frag} {mg : Str → Option Value} {base : Heap}
theorem scJoin : FnScope ["ground", "given", "refusal"] ["ground", "given"] (defScope sJoin) := ⟨rfl, rfl, rfl, by decide +kernel, rfl, by decide +kernel, by decide +kernel⟩
theorem ok_join {f C : Addr} {fd : FuncData} (F : Fun K "join" "join" sJoin f fd) (T : TxtG K C) (TB : TxtB mg) (dR : Def P w K mg base 2 "joining_refused" ["ground", "places"] (spRef C joinR)) (dP : Def P w K mg base 1 "pair_of" ["places"] spPairOf) : FnOk P w K mg base CX0 3 f fd ["ground", "given"] (spCall C (mk2 .join) Wf) := by
  refine F.ok scJoin (fun vs H Q E h => ?_) (fun cdv A outer s H vs Q E hr h => ?_)
  · obtain ⟨g, v, j, l, a, given, c, rfl, _⟩ := h
    rfl
  · obtain ⟨g, v, j, l, a, given, c, rfl, G, W, hv, hvj, hvl, hc, k⟩ := h
    obtain ⟨p, q, rfl, rfl⟩ := mk2_of hc
    refine ⟨_, pss_cons (ps_set (i := 2) scJoin.nd rfl (Or.inl rfl) (pe_def dR hr (by decide) rfl (pa_cons (pv 0) (pa_cons (pv 1) pa_nil))))
      (pss_cons (ps_if (pt_cmpR op_lt (pv 2) pe_int (nomark _)) (pss_one (ps_ret (pe_lst (pa_cons (pv 2) pa_nil)))) pss_nil)
      (pss_cons (ps_expr (pe_bm PySem.F.plainAttrs_list PySem.F.slot_list_append PySem.F.type_list_append mt_append (pe_fld (pv 0) rfl) (pa_cons (pe_def dP hr (by decide) rfl (pa_cons (pv 1) pa_nil)) pa_nil)))
      (pss_one (ps_ret (pe_lst (pa_cons (pe_len rfl TB.len (pa_cons (pe_fld (pv 0) rfl) pa_nil)) pa_nil)))))), ?_⟩
    refine ⟨_, rfl, _, rfl, g, v, j, l, a, p, q, rfl, G, hv, fun H1 S1 => ?_⟩
    obtain ⟨dx, hg⟩ := G.ins
    refine ⟨_, rfl, _, _, rfl, rfl, _, rfl, ?_⟩
    rcases joinR_cases a p q with ⟨hneg, ed, _⟩ | ⟨hpos, hp, hq, hne, ed, _⟩
    · rw [decide_eq_true hneg]
      refine iteT ⟨_, rfl, (by show 1 ≤ sizeLine; decide), fun p' hp => k.still ed G (S1.free hp) (Same.upd S1 (S1.free hp)) upd_same⟩
    · rw [decide_eq_false hpos]
      refine iteF ?_
      obtain ⟨ts, hts, hpt⟩ := G.js
      have hfew := joins_few W
      have hlen := hpt.len
      refine ⟨_, rfl, g, C, dx, _, _, rfl, S1 _ _ hg, T.cl, T.nJ, gf_joins _ _ _, .inl ⟨rfl, _, SqL.of (S1 _ _ hts)⟩, _, rfl, v, p, q, rfl, S1 _ _ hv, fun t ht => ?_⟩
      have S2 : Same H (L2.upd H1 t (.tup [nat (Su120.pair p q).1, nat (Su120.pair p q).2])) := Same.upd S1 (S1.free ht)
      refine ⟨j, _, _, rfl, rfl, S2 _ _ hts, small1000 (by rw [List.length_map]; omega), ?_⟩
      have hgj : g ≠ j := ne_of hg hts (by intro z; cases z)
      refine ⟨_, rfl, g, C, dx, _, _, rfl, by rw [upd_ne hgj]; exact S2 _ _ hg, T.cl, T.nJ, gf_joins _ _ _, j, _, rfl, .inl (SqL.of upd_same), (by show 1 ≤ sizeLine; decide), fun p' hp => ?_⟩
      have e1 : ts.map V.ref ++ [V.ref t] = (ts ++ [t]).map V.ref := by rw [List.map_append] <;> rfl
      rw [e1] at hp ⊢
      have q := joins_post (a' := a.add p q) (z := Su120.num (a.joins.length + 1) []) (ts' := ts ++ [t]) k ed G S2 ((hpt.same S2).snoc upd_same) rfl rfl hp
      rw [← one_ans (ts ++ [t]) _ (by rw [List.length_append, hlen] <;> rfl)] at q
      exact q
theorem scPart : FnScope ["ground", "given", "refusal"] ["ground", "given"] (defScope sPart) := ⟨rfl, rfl, rfl, by decide +kernel, rfl, by decide +kernel, by decide +kernel⟩
theorem ok_part {f C : Addr} {fd : FuncData} (F : Fun K "part" "part" sPart f fd) (T : TxtG K C) (TB : TxtB mg) (dR : Def P w K mg base 2 "parting_refused" ["ground", "places"] (spRef C partR)) (dP : Def P w K mg base 1 "pair_of" ["places"] spPairOf) : FnOk P w K mg base CX0 3 f fd ["ground", "given"] (spCall C (mk2 .part) Wf) := by
  refine F.ok scPart (fun vs H Q E h => ?_) (fun cdv A outer s H vs Q E hr h => ?_)
  · obtain ⟨g, v, j, l, a, given, c, rfl, _⟩ := h
    rfl
  · obtain ⟨g, v, j, l, a, given, c, rfl, G, W, hv, hvj, hvl, hc, k⟩ := h
    obtain ⟨p, q, rfl, rfl⟩ := mk2_of hc
    have hu := hr.units
    refine ⟨_, pss_cons (ps_set (i := 2) scPart.nd rfl (Or.inl rfl) (pe_def dR hr (by decide) rfl (pa_cons (pv 0) (pa_cons (pv 1) pa_nil))))
      (pss_cons (ps_if (pt_cmpR op_lt (pv 2) pe_int (nomark _)) (pss_one (ps_ret (pe_lst (pa_cons (pv 2) pa_nil)))) pss_nil)
      (pss_cons (ps_expr (pe_bm PySem.F.plainAttrs_list PySem.F.slot_list_remove PySem.F.type_list_remove (mt_removeP hu) (pe_fld (pv 0) rfl) (pa_cons (pe_def dP hr (by decide) rfl (pa_cons (pv 1) pa_nil)) pa_nil)))
      (pss_one (ps_ret (pe_lst (pa_cons (pe_len rfl TB.len (pa_cons (pe_fld (pv 0) rfl) pa_nil)) pa_nil)))))), ?_⟩
    refine ⟨_, rfl, _, rfl, g, v, j, l, a, p, q, rfl, G, hv, fun H1 S1 => ?_⟩
    obtain ⟨dx, hg⟩ := G.ins
    refine ⟨_, rfl, _, _, rfl, rfl, _, rfl, ?_⟩
    rcases partR_cases a p q with ⟨hneg, ed, _⟩ | ⟨hpos, hmem, ed, _⟩
    · rw [decide_eq_true hneg]
      refine iteT ⟨_, rfl, (by show 1 ≤ sizeLine; decide), fun p' hp => k.still ed G (S1.free hp) (Same.upd S1 (S1.free hp)) upd_same⟩
    · rw [decide_eq_false hpos]
      refine iteF ?_
      obtain ⟨ts, hts, hpt⟩ := G.js
      obtain ⟨i, hi⟩ := List.getElem?_of_mem hmem
      have huniq : ∀ m, m < i → a.joins[m]? ≠ some (Su120.pair p q) := fun m hm e => absurd (nd_ix W.nd e hi) (by omega)
      have hil : i < a.joins.length := (List.getElem?_eq_some_iff.mp hi).1
      have hlen := hpt.len
      refine ⟨_, rfl, g, C, dx, _, _, rfl, S1 _ _ hg, T.cl, T.nJ, gf_joins _ _ _, .inl ⟨rfl, _, SqL.of (S1 _ _ hts)⟩, _, rfl, v, p, q, rfl, S1 _ _ hv, fun t ht => ?_⟩
      have S2 : Same H (L2.upd H1 t (.tup [nat (Su120.pair p q).1, nat (Su120.pair p q).2])) := Same.upd S1 (S1.free ht)
      refine ⟨t, j, Su120.pair p q, ts, a.joins, i, rfl, rfl, upd_same, S2 _ _ hts, hpt.same S2, hi, huniq, ?_⟩
      have hgj : g ≠ j := ne_of hg hts (by intro z; cases z)
      refine ⟨_, rfl, g, C, dx, _, _, rfl, by rw [upd_ne hgj]; exact S2 _ _ hg, T.cl, T.nJ, gf_joins _ _ _, j, _, rfl, .inl (SqL.of upd_same), (by show 1 ≤ sizeLine; decide), fun p' hp => ?_⟩
      have hcut : (a.cut p q).joins = a.joins.eraseIdx i := (erase_filter W.nd hi).symm
      have q := joins_post (a' := a.cut p q) (z := Su120.num (a.joins.length - 1) []) (ts' := ts.eraseIdx i) k ed G S2 (by rw [hcut]; exact (hpt.same S2).erase i) rfl rfl hp
      rw [← one_ans (ts.eraseIdx i) _ (by rw [List.length_eraseIdx_of_lt (by omega), hlen])] at q
      exact q
end
end LF

end

section
set_option Elab.async false
set_option linter.all false
set_option maxRecDepth 100000
set_option maxHeartbeats 2000000
namespace LF
open PySem PySem.Spec PyProof.Rows L2
theorem best_len {a : Abs} {near : List Nat} (N : NearOk a near) : a.best.length = a.turns := by
  have h0 : a.turns = ((List.range (a.n + 1)).find? fun k => (a.row k).isSome).getD a.n := rfl
  cases hf : (List.range (a.n + 1)).find? fun k => (a.row k).isSome with
  | none =>
    have := List.find?_eq_none.mp hf a.n (List.mem_range.mpr (by omega))
    exact absurd (row_n N) this
  | some k =>
    have h1 : (a.row k).isSome = true := List.find?_some (p := fun k => (a.row k).isSome) hf
    have h2 : k < a.n + 1 := List.mem_range.mp (List.mem_of_find?_eq_some hf)
    rw [hf] at h0
    have h0 : a.turns = k := h0
    obtain ⟨r, hr⟩ := Option.isSome_iff_exists.mp h1
    have hb : a.best = r := by
      unfold Su120.Abs.best
      rw [h0, hr] <;> rfl
    rw [hb, h0]
    rw [row_eq N (by omega)] at hr
    exact (mem_allRows.mp (List.mem_of_find?_eq_some hr)).1
theorem burn_len_le {a : Abs} {near : List Nat} (N : NearOk a near) (l : List Nat) : (a.burn l).length ≤ a.n := by
  rw [burn_eq N]; exact ofBits_len _ _
theorem left_bits {n b : Nat} : (List.range n).filter (fun q => !((ofBits n b).contains q)) = ofBits n ((2 ^ n - 1) ^^^ b) := by
  refine filter_eq_ofBits fun q hq => ?_
  rw [contains_ofBits hq, Nat.testBit_xor, all_bits]
  simp [hq]
theorem xor_nat (a b : Nat) : V.int (Builtin.bitXor (a : Int) (b : Int)) = nat (a ^^^ b) := by
  rw [Bits.bitXor_pp (by omega) (by omega), Int.toNat_natCast, Int.toNat_natCast]; rfl
theorem ans_list (l : List Nat) : nat l.length :: nats l = (ansOf (Su120.list l)).map V.int := by
  show _ = V.int _ :: (l.map fun (x : Nat) => (x : Int)).map V.int
  rw [List.map_map] <;> rfl
theorem ans_one (n : Nat) : [nat n] = (ansOf (Su120.num n [])).map V.int := rfl
section
variable {P : Program} {w : World} {K : PySem.W.Frag} {mg : Str → Option Value} {base : Heap}
theorem scBurns : FnScope ["ground", "given"] ["ground", "given"] (defScope sBurns) := ⟨rfl, rfl, rfl, by decide +kernel, rfl, by decide +kernel, by decide +kernel⟩
theorem ok_burns {f C : Addr} {fd : FuncData} (F : Fun K "burns" "burns" sBurns f fd) (T : TxtG K C) (dC : Def P w K mg base 1 "counted" ["numbers"] spCounted) (dP : Def P w K mg base 1 "places_of" ["burnt", "size"] spPlaces) (dN : Def P w K mg base 3 "burnt_now" ["ground"] (spNow C)) : FnOk P w K mg base CX0 4 f fd ["ground", "given"] (spCall C (mk0 .burns) Wf) := by
  refine F.ok scBurns (fun vs H Q E h => ?_) (fun cdv A outer s H vs Q E hr h => ?_)
  · obtain ⟨g, v, j, l, a, given, c, rfl, _⟩ := h
    rfl
  · obtain ⟨g, v, j, l, a, given, c, rfl, G, W, hv, hvj, hvl, hc, k⟩ := h
    obtain ⟨rfl, rfl⟩ := mk0_of hc
    refine ⟨_, pss_one (ps_ret (pe_def dC hr (by decide) rfl (pa_cons (pe_def dP hr (by decide) rfl (pa_cons (pe_def dN hr (by decide) rfl (pa_cons (pv 0) pa_nil)) (pa_cons (pe_fld (pv 0) rfl) pa_nil))) pa_nil))), ?_⟩
    refine ⟨_, rfl, g, j, l, a, rfl, G, W.n9, W.lt, W.lit, fun H1 S1 => ?_⟩
    obtain ⟨dx, hg⟩ := (G.same S1).ins
    refine ⟨_, rfl, g, C, dx, _, _, rfl, hg, T.cl, T.nS, gf_size _ _ _, _, a.n, rfl, W.n9, fun q H2 hq hH2 => ?_⟩
    have S2 : Same H1 H2 := by rw [hH2]; exact Same.upd (Same.refl H1) hq
    have hb := burn_eq W.near a.lit
    have hlen := ofBits_len a.n (burntM (nearM a.n a.joins) a.lit)
    have hn := W.n9
    refine ⟨q, _, rfl, by rw [hH2]; exact upd_same, by rw [nats_len]; omega, fun p H3 hp S3 hp3 => ?_⟩
    refine k.still (a := a) (z := Su120.list (a.burn a.lit)) rfl G (S1.free (S2.free hp)) ((S1.trans S2).trans S3) ?_
    rw [hp3, nats_len, ← ans_list, hb]
theorem scLeft : FnScope ["ground", "given", "unburnt"] ["ground", "given"] (defScope sLeft) := ⟨rfl, rfl, rfl, by decide +kernel, rfl, by decide +kernel, by decide +kernel⟩
theorem ok_left {f C : Addr} {fd : FuncData} (F : Fun K "left" "left" sLeft f fd) (T : TxtG K C) (dE : Def P w K mg base 1 "everything" ["size"] spEvery) (dC : Def P w K mg base 1 "counted" ["numbers"] spCounted) (dP : Def P w K mg base 1 "places_of" ["burnt", "size"] spPlaces) (dN : Def P w K mg base 3 "burnt_now" ["ground"] (spNow C)) : FnOk P w K mg base CX0 4 f fd ["ground", "given"] (spCall C (mk0 .left) Wf) := by
  refine F.ok scLeft (fun vs H Q E h => ?_) (fun cdv A outer s H vs Q E hr h => ?_)
  · obtain ⟨g, v, j, l, a, given, c, rfl, _⟩ := h
    rfl
  · obtain ⟨g, v, j, l, a, given, c, rfl, G, W, hv, hvj, hvl, hc, k⟩ := h
    obtain ⟨rfl, rfl⟩ := mk0_of hc
    refine ⟨_, pss_cons (ps_set (i := 2) scLeft.nd rfl (Or.inl rfl) (pe_op op_xor (pe_def dE hr (by decide) rfl (pa_cons (pe_fld (pv 0) rfl) pa_nil)) (pe_def dN hr (by decide) rfl (pa_cons (pv 0) pa_nil))))
      (pss_one (ps_ret (pe_def dC hr (by decide) rfl (pa_cons (pe_def dP hr (by decide) rfl (pa_cons (pv 2) (pa_cons (pe_fld (pv 0) rfl) pa_nil))) pa_nil)))), ?_⟩
    obtain ⟨dx0, hg0⟩ := G.ins
    have hn := W.n9
    refine ⟨_, rfl, g, C, dx0, _, _, rfl, hg0, T.cl, T.nS, gf_size _ _ _, a.n, rfl, hn, _, rfl, g, j, l, a, rfl, G, hn, W.lt, W.lit, fun H1 S1 => ?_⟩
    obtain ⟨dx, hg⟩ := (G.same S1).ins
    refine ⟨_, _, rfl, rfl, _, rfl, _, rfl, g, C, dx, _, _, rfl, hg, T.cl, T.nS, gf_size _ _ _, (2 ^ a.n - 1) ^^^ burntM (nearM a.n a.joins) a.lit, a.n, by rw [← xor_nat] <;> rfl, hn, fun q H2 hq hH2 => ?_⟩
    have S2 : Same H1 H2 := by rw [hH2]; exact Same.upd (Same.refl H1) hq
    have hlen := ofBits_len a.n ((2 ^ a.n - 1) ^^^ burntM (nearM a.n a.joins) a.lit)
    refine ⟨q, _, rfl, by rw [hH2]; exact upd_same, by rw [nats_len]; omega, fun p H3 hp S3 hp3 => ?_⟩
    refine k.still (a := a) (z := Su120.list (a.ps.filter fun q => !((a.burn a.lit).contains q))) rfl G (S1.free (S2.free hp)) ((S1.trans S2).trans S3) ?_
    rw [hp3, nats_len, ← ans_list, burn_eq W.near, Su120.Abs.ps, left_bits]
theorem scTurns : FnScope ["ground", "given"] ["ground", "given"] (defScope sTurns) := ⟨rfl, rfl, rfl, by decide +kernel, rfl, by decide +kernel, by decide +kernel⟩
theorem ok_turns {f C : Addr} {fd : FuncData} (F : Fun K "turns" "turns" sTurns f fd) (dT : Def P w K mg base 4 "turns_now" ["ground"] (spTurnsNow C)) : FnOk P w K mg base CX0 5 f fd ["ground", "given"] (spCall C (mk0 .turns) Wf) := by
  refine F.ok scTurns (fun vs H Q E h => ?_) (fun cdv A outer s H vs Q E hr h => ?_)
  · obtain ⟨g, v, j, l, a, given, c, rfl, _⟩ := h
    rfl
  · obtain ⟨g, v, j, l, a, given, c, rfl, G, W, hv, hvj, hvl, hc, k⟩ := h
    obtain ⟨rfl, rfl⟩ := mk0_of hc
    refine ⟨_, pss_one (ps_ret (pe_lst (pa_cons (pe_def dT hr (by decide) rfl (pa_cons (pv 0) pa_nil)) pa_nil))), ?_⟩
    refine ⟨_, rfl, g, j, l, a, rfl, G, W.n1, W.n9, W.lt, fun H1 S1 => ⟨(by show 1 ≤ sizeLine; decide), fun p hp => ?_⟩⟩
    exact k.still (a := a) (z := Su120.num a.turns []) rfl G (S1.free hp) (Same.upd S1 (S1.free hp)) upd_same
theorem scBestC : FnScope ["ground", "given"] ["ground", "given"] (defScope sBestC) := ⟨rfl, rfl, rfl, by decide +kernel, rfl, by decide +kernel, by decide +kernel⟩
theorem turns_le {a : Abs} {near : List Nat} (N : NearOk a near) : a.turns ≤ a.n := by
  have h0 : a.turns = ((List.range (a.n + 1)).find? fun k => (a.row k).isSome).getD a.n := rfl
  cases hf : (List.range (a.n + 1)).find? fun k => (a.row k).isSome with
  | none => rw [h0, hf]; exact Nat.le_refl _
  | some k =>
    have h2 : k < a.n + 1 := List.mem_range.mp (List.mem_of_find?_eq_some hf)
    rw [h0, hf]
    show k ≤ a.n
    omega
theorem ok_bestC {f C : Addr} {fd : FuncData} (F : Fun K "best" "best" sBestC f fd) (dC : Def P w K mg base 1 "counted" ["numbers"] spCounted) (dB : Def P w K mg base 2 "shortest_row" ["near", "burnt"] spShort) (dN : Def P w K mg base 2 "near" ["ground"] (spNearG C)) : FnOk P w K mg base CX0 3 f fd ["ground", "given"] (spCall C (mk0 .best) Wf) := by
  refine F.ok scBestC (fun vs H Q E h => ?_) (fun cdv A outer s H vs Q E hr h => ?_)
  · obtain ⟨g, v, j, l, a, given, c, rfl, _⟩ := h
    rfl
  · obtain ⟨g, v, j, l, a, given, c, rfl, G, W, hv, hvj, hvl, hc, k⟩ := h
    obtain ⟨rfl, rfl⟩ := mk0_of hc
    refine ⟨_, pss_one (ps_ret (pe_def dC hr (by decide) rfl (pa_cons (pe_def dB hr (by decide) rfl (pa_cons (pe_def dN hr (by decide) rfl (pa_cons (pv 0) pa_nil)) (pa_cons pe_int pa_nil))) pa_nil))), ?_⟩
    refine ⟨_, rfl, g, j, l, a, rfl, G, W.n9, W.lt, fun p1 H1 hp1 S1 hn1 => ?_⟩
    refine ⟨p1, _, a, 0, rfl, hn1, W.near, W.n9, Nat.two_pow_pos _, fun r H2 kk row S2 hr2 Sh => ?_⟩
    have h1 := Sh.len
    have h2 := Sh.le
    have h3 := W.n9
    have hb := (Sh.best W.near W.n1).1
    refine ⟨r, _, rfl, hr2, by rw [nats_len]; omega, fun p H3 hp S3 hp3 => ?_⟩
    refine k.still (a := a) (z := Su120.list a.best) rfl G (S1.free (S2.free hp)) ((S1.trans S2).trans S3) ?_
    rw [hp3, nats_len, hb, ← ans_list]
end
end LF

end

section
set_option Elab.async false
set_option linter.all false
set_option maxRecDepth 100000
set_option maxHeartbeats 2000000
namespace LF
open PySem PySem.Spec PyProof.Rows L2
theorem miss1 (a : Abs) (p : Nat) : (([p] : List Nat).any fun p => decide (a.n ≤ p)) = true ↔ a.isP p = false := by
  unfold Su120.Abs.isP
  simp [Nat.not_lt]
theorem nats_snoc (l : List Nat) (p : Nat) : nats l ++ [nat p] = nats (l ++ [p]) := by
  unfold nats
  rw [List.map_append] <;> rfl
section
variable {P : Program} {w : World} {K : PySem.W.Frag} {mg : Str → Option Value} {base : Heap}
theorem scLight : FnScope ["ground", "given"] ["ground", "given"] (defScope sLight) := ⟨rfl, rfl, rfl, by decide +kernel, rfl, by decide +kernel, by decide +kernel⟩
theorem ok_light {f C : Addr} {fd : FuncData} (F : Fun K "light" "light" sLight f fd) (T : TxtG K C) (TB : TxtB mg) (TK : TxtK mg) (dM : Def P w K mg base 1 "is_missing" ["ground", "places"] (spMiss C)) (dP : Def P w K mg base 1 "places_of" ["burnt", "size"] spPlaces) (dN : Def P w K mg base 3 "burnt_now" ["ground"] (spNow C)) : FnOk P w K mg base CX0 4 f fd ["ground", "given"] (spCall C (mk1 .light) Wf) := by
  refine F.ok scLight (fun vs H Q E h => ?_) (fun cdv A outer s H vs Q E hr h => ?_)
  · obtain ⟨g, v, j, l, a, given, c, rfl, _⟩ := h
    rfl
  · obtain ⟨g, v, j, l, a, given, c, rfl, G, W, hv, hvj, hvl, hc, k⟩ := h
    obtain ⟨p, rfl, rfl⟩ := mk1_of hc
    refine ⟨_, pss_cons (ps_if (pt_val (pe_def dM hr (by decide) rfl (pa_cons (pv 0) (pa_cons (pv 1) pa_nil)))) (pss_one (ps_ret (pe_lst (pa_cons (pe_ki TK.c2 rfl) pa_nil)))) pss_nil)
      (pss_cons (ps_if (pt_cmpR op_eq (pe_len rfl TB.len (pa_cons (pe_fld (pv 0) rfl) pa_nil)) (pe_fld (pv 0) rfl) (nomark _)) (pss_one (ps_ret (pe_lst (pa_cons (pe_ki TK.c28 rfl) pa_nil)))) pss_nil)
      (pss_cons (ps_expr (pe_bm PySem.F.plainAttrs_list PySem.F.slot_list_append PySem.F.type_list_append mt_append (pe_fld (pv 0) rfl) (pa_cons (pe_ix ix_list (pv 1) pe_int (fun _ _ => rfl)) pa_nil)))
      (pss_one (ps_ret (pe_lst (pa_cons (pe_len rfl TB.len (pa_cons (pe_def dP hr (by decide) rfl (pa_cons (pe_def dN hr (by decide) rfl (pa_cons (pv 0) pa_nil)) (pa_cons (pe_fld (pv 0) rfl) pa_nil))) pa_nil)) pa_nil)))))), ?_⟩
    obtain ⟨dx, hg⟩ := G.ins
    have hn := W.n9
    have hll := W.ll
    have no : ∀ z, Su120.does a (.light p) = (a, Su120.no z) → 1 ≤ sizeLine ∧ ∀ p', H p' = none → Q (.ref p') (L2.upd H p' (.lst [.int z])) := fun z e => ⟨by decide, fun p' hp => k.no e G hp⟩
    have ed : Su120.does a (.light p) = if a.isP p = false then (a, Su120.no (-2)) else if a.n ≤ a.lit.length then (a, Su120.no (-28)) else ({ a with lit := a.lit ++ [p] }, Su120.num (a.burn (a.lit ++ [p])).length []) := rfl
    refine ⟨_, rfl, _, rfl, g, v, j, l, a, [p], rfl, G, hv, by simp, _, rfl, ite2 (fun h => no _ ?_) fun h => ?_⟩
    · rw [ed, if_pos ((miss1 a p).mp h)]
    have h1 : ¬ a.isP p = false := fun z => h ((miss1 a p).mpr z)
    rw [if_neg h1] at ed
    have hpn : p < a.n := by
      unfold Su120.Abs.isP at h1
      simpa using h1
    refine ⟨_, rfl, g, C, dx, _, _, rfl, hg, T.cl, T.nL, gf_lit _ _ _, l, _, rfl, .inl (SqL.of G.lit), _, rfl, g, C, dx, _, _, rfl, hg, T.cl, T.nS, gf_size _ _ _, rfl, _, rfl, ite2 (fun h => no _ ?_) fun h => ?_⟩
    · have := V.int.inj (of_decide_eq_true h)
      rw [nats_len] at this
      rw [ed, if_pos (by omega)]
    have h2 : ¬ a.n ≤ a.lit.length := fun z => h (decide_eq_true (by rw [nats_len, show a.lit.length = a.n by omega] <;> rfl))
    rw [if_neg h2] at ed
    refine ⟨_, rfl, g, C, dx, _, _, rfl, hg, T.cl, T.nL, gf_lit _ _ _, .inl ⟨rfl, _, SqL.of G.lit⟩, _, rfl, v, _, _, _, rfl, rfl, SqL.of hv, at_of (j := 0) rfl rfl, l, _, _, rfl, rfl, G.lit, small1000 (by rw [nats_len]; omega), ?_⟩
    rw [show nats a.lit ++ [nat p] = nats (a.lit ++ [p]) from nats_snoc _ _]
    have hgl : g ≠ l := ne_of hg G.lit (by intro z; cases z)
    obtain ⟨ts, hts, hpt⟩ := G.js
    have G1 : GAt C (L2.upd H l (.lst (nats (a.lit ++ [p])))) g j l { a with lit := a.lit ++ [p] } :=
      ⟨⟨dx, by rw [upd_ne hgl]; exact hg⟩, G.jl, ⟨ts, by rw [upd_ne G.jl]; exact hts, hpt.tups fun b xs e => by rw [upd_ne (ne_of e G.lit (by intro z; cases z))]; exact e⟩, upd_same⟩
    have B1 : But3 g j l H (L2.upd H l (.lst (nats (a.lit ++ [p])))) := fun b o e _ _ hb => by rw [upd_ne hb]; exact e
    have fr1 : ∀ {b}, (L2.upd H l (.lst (nats (a.lit ++ [p])))) b = none → H b = none := fun {b} hb => by
      have : b ≠ l := fun z => by rw [z, upd_same] at hb; cases hb
      rw [upd_ne this] at hb; exact hb
    generalize L2.upd H l (.lst (nats (a.lit ++ [p]))) = H1 at G1 B1 fr1
    refine ⟨_, rfl, g, j, l, _, rfl, G1, hn, W.lt, fun q hq => ?_, fun H2 S2 => ?_⟩
    · rcases List.mem_append.mp hq with z | z
      · exact W.lit q z
      · rw [List.mem_singleton.mp z]; exact hpn
    obtain ⟨dx2, hg2⟩ := (G1.same S2).ins
    refine ⟨_, rfl, g, C, dx2, _, _, rfl, hg2, T.cl, T.nS, gf_size _ _ _, _, a.n, rfl, hn, fun q H3 hq hH3 => ?_⟩
    have S3 : Same H2 H3 := by rw [hH3]; exact Same.upd (Same.refl H2) hq
    refine ⟨q, _, rfl, .inl (SqL.of (by rw [hH3]; exact upd_same)), (by show 1 ≤ sizeLine; decide), fun p' hp => ?_⟩
    rw [ed] at k
    have S4 : Same H1 (L2.upd H3 p' (.lst [V.int (((nats (ofBits a.n (burntM (nearM a.n a.joins) (a.lit ++ [p])))).length : Nat) : Int)])) := Same.upd (S2.trans S3) (S2.free (S3.free hp))
    refine k p' _ j l (fr1 (S2.free (S3.free hp))) (fun b o e h1 h2 h3 => S4 b o (B1 b o e h1 h2 h3)) (.inl rfl) (.inl rfl) (G1.same S4) ?_
    have hb : a.burn (a.lit ++ [p]) = ofBits a.n (burntM (nearM a.n a.joins) (a.lit ++ [p])) := burn_eq W.near _
    rw [upd_same, nats_len, ← hb] <;> rfl
theorem scOut : FnScope ["ground", "given", "were"] ["ground", "given"] (defScope sOut) := ⟨rfl, rfl, rfl, by decide +kernel, rfl, by decide +kernel, by decide +kernel⟩
theorem ok_out {f C : Addr} {fd : FuncData} (F : Fun K "out" "out" sOut f fd) (T : TxtG K C) (TB : TxtB mg) : FnOk P w K mg base CX0 1 f fd ["ground", "given"] (spCall C (mk0 .out) Wf) := by
  refine F.ok scOut (fun vs H Q E h => ?_) (fun cdv A outer s H vs Q E hr h => ?_)
  · obtain ⟨g, v, j, l, a, given, c, rfl, _⟩ := h
    rfl
  · obtain ⟨g, v, j, l, a, given, c, rfl, G, W, hv, hvj, hvl, hc, k⟩ := h
    obtain ⟨rfl, rfl⟩ := mk0_of hc
    refine ⟨_, pss_cons (ps_set (i := 2) scOut.nd rfl (Or.inl rfl) (pe_len rfl TB.len (pa_cons (pe_fld (pv 0) rfl) pa_nil)))
      (pss_cons (ps_fld (pv 0) (pe_lst pa_nil) rfl)
      (pss_one (ps_ret (pe_lst (pa_cons (pv 2) pa_nil))))), ?_⟩
    obtain ⟨dx, hg⟩ := G.ins
    refine ⟨_, rfl, g, C, dx, _, _, rfl, hg, T.cl, T.nL, gf_lit _ _ _, l, _, rfl, .inl (SqL.of G.lit), ?_⟩
    refine ⟨Nat.zero_le _, fun l' hl' => ⟨_, rfl, g, C, dx, gf a.n j l, rfl, by rw [upd_ne (ne_of_none hg hl')]; exact hg, T.cl, T.nL, gf_len _ _ _, ?_⟩⟩
    rw [put_lit]
    refine ⟨_, rfl, (by show 1 ≤ sizeLine; decide), fun p hp => ?_⟩
    have hgl : g ≠ l' := ne_of_none hg hl'
    obtain ⟨ts, hts, hpt⟩ := G.js
    have hjl : j ≠ l' := ne_of_none hts hl'
    have hgj : g ≠ j := ne_of hg hts (by intro z; cases z)
    have G1 : GAt C (L2.upd (L2.upd H l' (.lst [])) g (.ins C dx (gf a.n j l'))) g j l' { a with lit := [] } :=
      ⟨⟨dx, upd_same⟩, hjl, ⟨ts, by rw [upd_ne (Ne.symm hgj), upd_ne hjl]; exact hts, hpt.tups fun b xs e => by rw [upd_ne (ne_of e hg (by intro z; cases z)), upd_ne (ne_of_none e hl')]; exact e⟩, by rw [upd_ne (Ne.symm hgl), upd_same] <;> rfl⟩
    have B1 : But3 g j l H (L2.upd (L2.upd H l' (.lst [])) g (.ins C dx (gf a.n j l'))) := fun b o e hb _ _ => by rw [upd_ne hb, upd_ne (ne_of_none e hl')]; exact e
    have hp0 : H p = none := by
      have h1 : p ≠ g := fun z => by rw [z, upd_same] at hp; cases hp
      have h2 : p ≠ l' := fun z => by rw [z, upd_ne (Ne.symm hgl), upd_same] at hp; cases hp
      rw [upd_ne h1, upd_ne h2] at hp
      exact hp
    generalize L2.upd (L2.upd H l' (.lst [])) g (.ins C dx (gf a.n j l')) = H1 at G1 B1 hp
    have S2 : Same H1 (L2.upd H1 p (.lst [V.int (((nats a.lit).length : Nat) : Int)])) := Same.upd (Same.refl H1) hp
    refine k p _ j l' hp0 (fun b o e h1 h2 h3 => S2 b o (B1 b o e h1 h2 h3)) (.inl rfl) (.inr hl') (G1.same S2) ?_
    rw [upd_same, nats_len] <;> rfl
end
end LF

end

section
set_option Elab.async false
set_option linter.all false
set_option maxRecDepth 100000
set_option maxHeartbeats 2000000
namespace LF
open PySem PySem.Spec PyProof.Rows L2
abbrev sRow : Stmt := top 55
abbrev sCan : Stmt := top 56
abbrev sWithin : Stmt := top 57
abbrev sWith : Stmt := top 58
abbrev sWithout : Stmt := top 59
abbrev sFar : Stmt := top 60
abbrev sRoot : Stmt := top 61
abbrev sFinish : Stmt := top 62
abbrev sParts : Stmt := top 63
abbrev sTree : Stmt := top 64
abbrev sState : Stmt := top 65
def mkR : List Nat → Option Su120.Call
  | _ :: l => some (.row l)
  | _ => none
theorem mkR_of {l : List Nat} {c : Su120.Call} (h : mkR l = some c) : ∃ x r, l = x :: r ∧ c = .row r := by
  match l, h with
  | x :: r, h => exact ⟨x, r, rfl, (Option.some.inj h).symm⟩
theorem ans_two (n m : Nat) : [nat n, nat m] = (ansOf (Su120.num n [m])).map V.int := rfl
theorem any_miss (a : Abs) (l : List Nat) : (l.any fun p => decide (a.n ≤ p)) = l.any fun p => !(a.isP p) := by
  refine List.any_congr rfl fun p => ?_
  unfold Su120.Abs.isP
  rw [Bool.eq_iff_iff]
  simp
theorem cut_tail (x : Nat) (l : List Nat) : cutV (nats (x :: l)) (some 1) none = nats l := by
  rw [show (1 : Int) = ((1 : Nat) : Int) from rfl, cut_from (by rw [nats_len]; simp)]
  rfl
theorem row_len {a : Abs} {near : List Nat} (N : NearOk a near) (hn : 1 ≤ a.n) {k : Nat} {r : List Nat} (h : a.row k = some r) : r.length = k := by
  rw [row_any N hn] at h
  exact (mem_allRows.mp (List.mem_of_find?_eq_some h)).1
theorem and_if {b b2 : Bool} {W X Y : Prop} (hb : b = false → b2 = false) (hX : b2 = true → X) (hY : b2 = false → Y) (hW : b = true → (if b2 = true then X else Y) → W) : if b = true then W else (if (false : Bool) = true then X else Y) := by
  cases b with
  | true =>
    refine iteT (hW rfl ?_)
    cases b2 with
    | true => exact iteT (hX rfl)
    | false => exact iteF (hY rfl)
  | false => exact iteF (iteF (hY (hb rfl)))
section
variable {P : Program} {w : World} {K : PySem.W.Frag} {mg : Str → Option Value} {base : Heap}
theorem scRow : FnScope ["ground", "given", "places", "burnt"] ["ground", "given"] (defScope sRow) := ⟨rfl, rfl, rfl, by decide +kernel, rfl, by decide +kernel, by decide +kernel⟩
theorem ok_row {f C : Addr} {fd : FuncData} (F : Fun K "row" "row" sRow f fd) (T : TxtG K C) (TB : TxtB mg) (TK : TxtK mg) (dM : Def P w K mg base 1 "is_missing" ["ground", "places"] (spMiss C)) (dP : Def P w K mg base 1 "places_of" ["burnt", "size"] spPlaces) (dB : Def P w K mg base 2 "burnt_by" ["near", "row"] spBurnt) (dN : Def P w K mg base 2 "near" ["ground"] (spNearG C)) :
    FnOk P w K mg base CX0 3 f fd ["ground", "given"] (spCall C mkR Wf) := by
  refine F.ok scRow (fun vs H Q E h => ?_) (fun cdv A outer s H vs Q E hr h => ?_)
  · obtain ⟨g, v, j, l, a, given, c, rfl, _⟩ := h
    rfl
  · obtain ⟨g, v, j, l, a, given, c, rfl, G, W, hv, hvj, hvl, hc, k⟩ := h
    obtain ⟨x, r, rfl, rfl⟩ := mkR_of hc
    refine ⟨_, pss_cons (ps_set (i := 2) scRow.nd rfl (Or.inl rfl) (pe_slice sl_list (pv 1) (po_some pe_int) po_none))
      (pss_cons (ps_if (pt_cmpR op_gt (pe_len rfl TB.len (pa_cons (pv 2) pa_nil)) (pe_ki TK.longest rfl) (nomark _)) (pss_one (ps_ret (pe_lst (pa_cons (pe_ki TK.c22 rfl) pa_nil)))) pss_nil)
      (pss_cons (ps_if (PW.pt (pw_and (pt_cmpR op_gt (pe_len rfl TB.len (pa_cons (pv 2) pa_nil)) pe_int (nomark _)) (pw_and1 (pt_val (pe_def dM hr (by decide) rfl (pa_cons (pv 0) (pa_cons (pv 2) pa_nil))))))) (pss_one (ps_ret (pe_lst (pa_cons (pe_ki TK.c22 rfl) pa_nil)))) pss_nil)
      (pss_cons (ps_set (i := 3) scRow.nd rfl (Or.inl rfl) (pe_def dP hr (by decide) rfl (pa_cons (pe_def dB hr (by decide) rfl (pa_cons (pe_def dN hr (by decide) rfl (pa_cons (pv 0) pa_nil)) (pa_cons (pv 2) pa_nil))) (pa_cons (pe_fld (pv 0) rfl) pa_nil))))
      (pss_one (ps_ret (pe_lst (pa_cons (pe_ifExp (pt_cmpR op_eq (pe_len rfl TB.len (pa_cons (pv 3) pa_nil)) (pe_fld (pv 0) rfl) (nomark _)) pe_int pe_int) (pa_cons (pe_len rfl TB.len (pa_cons (pv 3) pa_nil)) pa_nil)))))))), ?_⟩
    have hn := W.n9
    have ed : Su120.does a (.row r) = if r.any (fun p => !(a.isP p)) = true ∨ Su120.PLACES < r.length then (a, Su120.no (-22)) else (a, Su120.num (Su120.bit ((a.burn r).length == a.n)) [(a.burn r).length]) := rfl
    refine ⟨_, rfl, _, rfl, v, _, rfl, SqL.of hv, fun pl hpl => ?_⟩
    rw [cut_tail]
    have S1 : Same H (L2.upd H pl (.lst (nats r))) := Same.upd (Same.refl H) hpl
    have hpl1 : (L2.upd H pl (.lst (nats r))) pl = some (.lst (nats r)) := upd_same
    generalize L2.upd H pl (.lst (nats r)) = H1 at S1 hpl1
    have no : Su120.does a (.row r) = (a, Su120.no (-22)) → 1 ≤ sizeLine ∧ ∀ p', H1 p' = none → Q (.ref p') (L2.upd H1 p' (.lst [.int (-22)])) := fun e => ⟨by decide, fun p' hp => k.still e G (S1.free hp) (Same.upd S1 (S1.free hp)) upd_same⟩
    refine ⟨_, rfl, pl, _, rfl, .inl (SqL.of hpl1), _, _, rfl, rfl, _, rfl, ite2 (fun h => no ?_) fun h => ?_⟩
    · have h := of_decide_eq_true h
      rw [nats_len] at h
      rw [ed, if_pos (.inr (show 9 < r.length by omega))]
    have h9 : r.length ≤ 9 := by
      have := of_decide_eq_false (Bool.eq_false_iff.mpr h)
      rw [nats_len] at this
      omega
    obtain ⟨dx, hg⟩ := G.ins
    refine ⟨_, rfl, pl, _, rfl, .inl (SqL.of hpl1), _, _, rfl, rfl, _, rfl, and_if (b2 := r.any fun p => decide (a.n ≤ p)) (fun hb => ?_) (fun hb => ?_) (fun hb => ?_) fun hb h => ?_⟩
    · have h0 := of_decide_eq_false hb
      rw [nats_len] at h0
      have : r = [] := List.length_eq_zero_iff.mp (by omega)
      rw [this] <;> rfl
    · refine no ?_
      rw [any_miss] at hb
      rw [ed, if_pos (.inl hb)]
    · rw [any_miss] at hb
      have hin : ∀ p ∈ r, p < a.n := fun p hp => by
        have := List.any_eq_false.mp hb p hp
        unfold Su120.Abs.isP at this
        simpa using this
      rw [if_neg (by
        rintro (z | z)
        · rw [hb] at z; cases z
        · have z : 9 < r.length := z
          omega)] at ed
      refine ⟨_, rfl, g, j, l, a, rfl, G.same S1, hn, W.lt, fun p2 H2 hp2 S2 hn2 => ?_⟩
      refine ⟨_, rfl, p2, pl, _, r, rfl, hn2, by rw [nearM_len]; exact hn, S2 _ _ hpl1, fun p hp => by have := hin p hp; omega, fun H3 S3 => ?_⟩
      have SH3 := (S1.trans S2).trans S3
      refine ⟨_, rfl, g, C, dx, _, _, rfl, SH3 _ _ hg, T.cl, T.nS, gf_size _ _ _, _, a.n, rfl, hn, fun q H4 hq hH4 => ?_⟩
      have S4 : Same H3 H4 := by rw [hH4]; exact Same.upd (Same.refl H3) hq
      have SH4 := SH3.trans S4
      have hq4 : H4 q = some (.lst (nats (ofBits a.n (burntM (nearM a.n a.joins) r)))) := by rw [hH4]; exact upd_same
      have hb' : a.burn r = ofBits a.n (burntM (nearM a.n a.joins) r) := burn_eq W.near r
      rw [← hb'] at hq4
      have fin : ∀ b : Nat, Su120.bit ((a.burn r).length == a.n) = b → ∀ p, H4 p = none → Q (.ref p) (L2.upd H4 p (.lst [.int (b : Int), .int (((nats (a.burn r)).length : Nat) : Int)])) := fun b e p hp => by
        refine k.still ed G (SH4.free hp) (Same.upd SH4 (SH4.free hp)) ?_
        rw [upd_same, nats_len, e] <;> rfl
      refine ⟨_, rfl, q, _, rfl, .inl (SqL.of hq4), _, rfl, g, C, dx, _, _, rfl, SH4 _ _ hg, T.cl, T.nS, gf_size _ _ _, rfl, _, rfl, ite2 (fun h => ?_) fun h => ?_⟩
      · refine ⟨_, rfl, q, _, rfl, .inl (SqL.of hq4), (by show 2 ≤ sizeLine; decide), fin 1 ?_⟩
        have := V.int.inj (of_decide_eq_true h)
        rw [nats_len] at this
        rw [beq_iff_eq.mpr (show (a.burn r).length = a.n by omega)] <;> rfl
      · refine ⟨_, rfl, q, _, rfl, .inl (SqL.of hq4), (by show 2 ≤ sizeLine; decide), fin 0 ?_⟩
        have : ¬ (a.burn r).length = a.n := fun z => h (decide_eq_true (by rw [nats_len, z] <;> rfl))
        rw [beq_eq_false_iff_ne.mpr this] <;> rfl
    · have hne : r ≠ [] := by
        rintro rfl
        have := of_decide_eq_true hb
        exact absurd this (by decide)
      exact ⟨_, rfl, _, rfl, g, pl, j, l, a, r, rfl, G.same S1, hpl1, hne, _, rfl, h⟩
theorem scCan : FnScope ["ground", "given", "length", "told"] ["ground", "given"] (defScope sCan) := ⟨rfl, rfl, rfl, by decide +kernel, rfl, by decide +kernel, by decide +kernel⟩
theorem ok_can {f C : Addr} {fd : FuncData} (F : Fun K "can" "can" sCan f fd) (TK : TxtK mg) (dC : Def P w K mg base 1 "counted" ["numbers"] spCounted) (dF : Def P w K mg base 2 "first_row_of" ["near", "length"] spFirst) (dN : Def P w K mg base 2 "near" ["ground"] (spNearG C)) :
    FnOk P w K mg base CX0 3 f fd ["ground", "given"] (spCall C (mk1 .can) Wf) := by
  refine F.ok scCan (fun vs H Q E h => ?_) (fun cdv A outer s H vs Q E hr h => ?_)
  · obtain ⟨g, v, j, l, a, given, c, rfl, _⟩ := h
    rfl
  · obtain ⟨g, v, j, l, a, given, c, rfl, G, W, hv, hvj, hvl, hc, k⟩ := h
    obtain ⟨n, rfl, rfl⟩ := mk1_of hc
    refine ⟨_, pss_cons (ps_set (i := 2) scCan.nd rfl (Or.inl rfl) (pe_ix ix_list (pv 1) pe_int (fun _ _ => rfl)))
      (pss_cons (ps_if (pt_cmpR op_gt (pv 2) (pe_ki TK.longest rfl) (nomark _)) (pss_one (ps_ret (pe_lst (pa_cons (pe_ki TK.c22 rfl) pa_nil)))) pss_nil)
      (pss_cons (ps_set (i := 3) scCan.nd rfl (Or.inl rfl) (pe_def dF hr (by decide) rfl (pa_cons (pe_def dN hr (by decide) rfl (pa_cons (pv 0) pa_nil)) (pa_cons (pv 2) pa_nil))))
      (pss_cons (ps_if (pt_cmp (pc_isN (pv 3))) (pss_one (ps_ret (pe_lst (pa_cons (pe_ki TK.c33 rfl) pa_nil)))) pss_nil)
      (pss_one (ps_ret (pe_def dC hr (by decide) rfl (pa_cons (pv 3) pa_nil))))))), ?_⟩
    have ed : Su120.does a (.can n) = if Su120.PLACES < n then (a, Su120.no (-22)) else (match a.row n with
      | none => (a, Su120.no (-33))
      | some r => (a, Su120.num n r)) := rfl
    refine ⟨_, rfl, v, _, _, _, rfl, rfl, SqL.of hv, at_of (j := 0) rfl rfl, ?_⟩
    refine ⟨_, rfl, _, _, rfl, rfl, _, rfl, ite2 (fun h => ?_) fun h => ?_⟩
    · have h := of_decide_eq_true h
      refine ⟨by decide, fun p' hp => k.no ?_ G hp⟩
      rw [ed, if_pos (show Su120.PLACES < n from (show 9 < n by omega))]
    have h9 : n ≤ 9 := by
      have := of_decide_eq_false (Bool.eq_false_iff.mpr h)
      omega
    rw [if_neg (show ¬ Su120.PLACES < n from (show ¬ 9 < n by omega))] at ed
    refine ⟨_, rfl, g, j, l, a, rfl, G, W.n9, W.lt, fun p1 H1 hp1 S1 hn1 => ?_⟩
    refine ⟨_, rfl, p1, _, a, n, rfl, hn1, W.near, W.n1, W.n9, h9, fun told H2 S2 hrow => ?_⟩
    have SH2 := S1.trans S2
    refine ⟨_, rfl, _, rfl, ?_⟩
    cases hr' : a.row n with
    | none =>
      rw [hr'] at hrow ed
      have e : told = .non := hrow
      subst e
      exact iteT ⟨by decide, fun p' hp => k.still ed G (SH2.free hp) (Same.upd SH2 (SH2.free hp)) upd_same⟩
    | some r =>
      have hlen := row_len W.near W.n1 hr'
      rw [hr'] at hrow ed
      obtain ⟨rp, e, hrp⟩ := (hrow : ∃ p, told = .ref p ∧ H2 p = some (.lst (nats r)))
      subst e
      refine iteF ⟨_, rfl, rp, _, rfl, hrp, by rw [nats_len]; omega, fun p H3 hp S3 hp3 => ?_⟩
      have ed : Su120.does a (.can n) = (a, Su120.list r) := by
        rw [ed]
        show (a, Su120.num n r) = (a, Su120.num r.length r)
        rw [hlen]
      refine k.still ed G (SH2.free hp) (SH2.trans S3) ?_
      rw [hp3, nats_len, ← ans_list]
theorem scWithin : FnScope ["ground", "given", "place"] ["ground", "given"] (defScope sWithin) := ⟨rfl, rfl, rfl, by decide +kernel, rfl, by decide +kernel, by decide +kernel⟩
theorem ok_within {f C : Addr} {fd : FuncData} (F : Fun K "within" "within" sWithin f fd) (T : TxtG K C) (TK : TxtK mg) (dM : Def P w K mg base 1 "is_missing" ["ground", "places"] (spMiss C)) (dC : Def P w K mg base 1 "counted" ["numbers"] spCounted) (dP : Def P w K mg base 1 "places_of" ["burnt", "size"] spPlaces) (dR : Def P w K mg base 2 "reached" ["near", "place", "steps"] spReached) (dN : Def P w K mg base 2 "near" ["ground"] (spNearG C)) :
    FnOk P w K mg base CX0 3 f fd ["ground", "given"] (spCall C (mk2 .within) Wf) := by
  refine F.ok scWithin (fun vs H Q E h => ?_) (fun cdv A outer s H vs Q E hr h => ?_)
  · obtain ⟨g, v, j, l, a, given, c, rfl, _⟩ := h
    rfl
  · obtain ⟨g, v, j, l, a, given, c, rfl, G, W, hv, hvj, hvl, hc, k⟩ := h
    obtain ⟨p, n, rfl, rfl⟩ := mk2_of hc
    refine ⟨_, pss_cons (ps_set (i := 2) scWithin.nd rfl (Or.inl rfl) (pe_ix ix_list (pv 1) pe_int (fun _ _ => rfl)))
      (pss_cons (ps_if (pt_val (pe_def dM hr (by decide) rfl (pa_cons (pv 0) (pa_cons (pe_lst (pa_cons (pv 2) pa_nil)) pa_nil)))) (pss_one (ps_ret (pe_lst (pa_cons (pe_ki TK.c2 rfl) pa_nil)))) pss_nil)
      (pss_one (ps_ret (pe_def dC hr (by decide) rfl (pa_cons (pe_def dP hr (by decide) rfl (pa_cons (pe_def dR hr (by decide) rfl (pa_cons (pe_def dN hr (by decide) rfl (pa_cons (pv 0) pa_nil)) (pa_cons (pv 2) (pa_cons (pe_ix ix_list (pv 1) pe_int (fun _ _ => rfl)) pa_nil)))) (pa_cons (pe_fld (pv 0) rfl) pa_nil))) pa_nil))))), ?_⟩
    have hn := W.n9
    have ed : Su120.does a (.within p n) = if a.isP p = false then (a, Su120.no (-2)) else (a, Su120.list (a.within (min n a.n) p)) := rfl
    obtain ⟨dx, hg⟩ := G.ins
    refine ⟨_, rfl, v, _, _, _, rfl, rfl, SqL.of hv, at_of (j := 0) rfl rfl, ?_⟩
    refine ⟨_, rfl, _, rfl, (by show 1 ≤ sizeLine; decide), fun q hq => ?_⟩
    have S1 : Same H (L2.upd H q (.lst (nats [p]))) := Same.upd (Same.refl H) hq
    have hq1 : (L2.upd H q (.lst (nats [p]))) q = some (.lst (nats [p])) := upd_same
    refine ⟨g, q, j, l, a, [p], rfl, G.same S1, hq1, by simp, _, rfl, ite2 (fun h => ?_) fun h => ?_⟩
    · refine ⟨by decide, fun p' hp => k.still (z := Su120.no (-2)) ?_ G (S1.free hp) (Same.upd S1 (S1.free hp)) upd_same⟩
      rw [ed, if_pos ((miss1 a p).mp h)]
    have h1 : ¬ a.isP p = false := fun z => h ((miss1 a p).mpr z)
    rw [if_neg h1] at ed
    have hp := isP_lt h1
    refine ⟨_, rfl, g, j, l, a, rfl, G.same S1, hn, W.lt, fun p2 H2 hp2 S2 hn2 => ?_⟩
    have SH2 := S1.trans S2
    refine ⟨_, rfl, _, rfl, v, _, _, _, rfl, rfl, SqL.of (SH2 _ _ hv), at_of (j := 1) rfl rfl, p2, _, p, n, rfl, hn2, by rw [nearM_len]; exact hn, by omega, fun H3 S3 => ?_⟩
    have SH3 := SH2.trans S3
    rw [nearM_len]
    refine ⟨_, rfl, g, C, dx, _, _, rfl, SH3 _ _ hg, T.cl, T.nS, gf_size _ _ _, _, a.n, rfl, hn, fun r H4 hr4 hH4 => ?_⟩
    have S4 : Same H3 H4 := by rw [hH4]; exact Same.upd (Same.refl H3) hr4
    have hlen := ofBits_len a.n (ballM (nearM a.n a.joins) (min n a.n) p)
    refine ⟨r, _, rfl, by rw [hH4]; exact upd_same, by rw [nats_len]; omega, fun p' H5 hp' S5 hp5 => ?_⟩
    refine k.still ed G (SH3.free (S4.free hp')) ((SH3.trans S4).trans S5) ?_
    rw [hp5, nats_len, within_eq W.near hp, ← ans_list]
theorem scWith : FnScope ["ground", "given", "refusal", "joins"] ["ground", "given"] (defScope sWith) := ⟨rfl, rfl, rfl, by decide +kernel, rfl, by decide +kernel, by decide +kernel⟩
theorem ok_with {f C : Addr} {fd : FuncData} (F : Fun K "with_join" "with_join" sWith f fd) (T : TxtG K C) (dR : Def P w K mg base 2 "joining_refused" ["ground", "places"] (spRef C joinR)) (dP : Def P w K mg base 1 "pair_of" ["places"] spPairOf) (dF : Def P w K mg base 3 "fewest_turns" ["size", "joins"] spFewest) (dT : Def P w K mg base 4 "turns_now" ["ground"] (spTurnsNow C)) :
    FnOk P w K mg base CX0 5 f fd ["ground", "given"] (spCall C (mk2 .with_) Wf) := by
  refine F.ok scWith (fun vs H Q E h => ?_) (fun cdv A outer s H vs Q E hr h => ?_)
  · obtain ⟨g, v, j, l, a, given, c, rfl, _⟩ := h
    rfl
  · obtain ⟨g, v, j, l, a, given, c, rfl, G, W, hv, hvj, hvl, hc, k⟩ := h
    obtain ⟨p, q, rfl, rfl⟩ := mk2_of hc
    refine ⟨_, pss_cons (ps_set (i := 2) scWith.nd rfl (Or.inl rfl) (pe_def dR hr (by decide) rfl (pa_cons (pv 0) (pa_cons (pv 1) pa_nil))))
      (pss_cons (ps_if (pt_cmpR op_lt (pv 2) pe_int (nomark _)) (pss_one (ps_ret (pe_lst (pa_cons (pv 2) pa_nil)))) pss_nil)
      (pss_cons (ps_set (i := 3) scWith.nd rfl (Or.inl rfl) (pe_op op_cat (pe_fld (pv 0) rfl) (pe_lst (pa_cons (pe_def dP hr (by decide) rfl (pa_cons (pv 1) pa_nil)) pa_nil))))
      (pss_one (ps_ret (pe_lst (pa_cons (pe_def dF hr (by decide) rfl (pa_cons (pe_fld (pv 0) rfl) (pa_cons (pv 3) pa_nil))) (pa_cons (pe_def dT hr (by decide) rfl (pa_cons (pv 0) pa_nil)) pa_nil))))))), ?_⟩
    refine ⟨_, rfl, _, rfl, g, v, j, l, a, p, q, rfl, G, hv, fun H1 S1 => ?_⟩
    obtain ⟨dx, hg⟩ := G.ins
    refine ⟨_, rfl, _, _, rfl, rfl, _, rfl, ?_⟩
    rcases joinR_cases a p q with ⟨hneg, _, ed⟩ | ⟨hpos, hp, hq, hne, _, ed⟩
    · rw [decide_eq_true hneg]
      refine iteT ⟨_, rfl, (by show 1 ≤ sizeLine; decide), fun p' hp => k.still ed G (S1.free hp) (Same.upd S1 (S1.free hp)) upd_same⟩
    · rw [decide_eq_false hpos]
      refine iteF ?_
      obtain ⟨ts, hts, hpt⟩ := G.js
      have hfew := joins_few W
      have hlen := hpt.len
      refine ⟨_, rfl, g, C, dx, _, _, rfl, S1 _ _ hg, T.cl, T.nJ, gf_joins _ _ _, _, rfl, v, p, q, rfl, S1 _ _ hv, fun t ht => ⟨(by show 1 ≤ sizeLine; decide), fun q1 hq1 => ?_⟩⟩
      have S2 : Same H (L2.upd H1 t (.tup [nat (Su120.pair p q).1, nat (Su120.pair p q).2])) := Same.upd S1 (S1.free ht)
      have ht2 : (L2.upd H1 t (.tup [nat (Su120.pair p q).1, nat (Su120.pair p q).2])) t = some (.tup [nat (Su120.pair p q).1, nat (Su120.pair p q).2]) := upd_same
      generalize L2.upd H1 t (.tup [nat (Su120.pair p q).1, nat (Su120.pair p q).2]) = H2 at hq1 S2 ht2
      have S3' : Same H2 (L2.upd H2 q1 (.lst [.ref t])) := Same.upd (Same.refl H2) hq1
      have S3 := S2.trans S3'
      refine ⟨j, q1, _, _, rfl, rfl, S3 _ _ hts, upd_same, Nat.le_of_lt (small1000 (by rw [List.length_map]; show ts.length + 1 ≤ 1000; omega)), fun q2 hq2 => ?_⟩
      have S4' : Same (L2.upd H2 q1 (.lst [.ref t])) (L2.upd (L2.upd H2 q1 (.lst [.ref t])) q2 (.lst (ts.map V.ref ++ [V.ref t]))) := Same.upd (Same.refl _) hq2
      have hq2' : (L2.upd (L2.upd H2 q1 (.lst [.ref t])) q2 (.lst (ts.map V.ref ++ [V.ref t]))) q2 = some (.lst ((ts ++ [t]).map V.ref)) := by rw [upd_same, List.map_append] <;> rfl
      have ht4 := S4' _ _ (S3' _ _ ht2)
      have S4 := S3.trans S4'
      generalize L2.upd (L2.upd H2 q1 (.lst [.ref t])) q2 (.lst (ts.map V.ref ++ [V.ref t])) = H4 at hq2' ht4 S4
      have hl := pair_lt hne hp hq
      refine ⟨_, rfl, g, C, dx, _, _, rfl, S4 _ _ hg, T.cl, T.nS, gf_size _ _ _, _, rfl, a.add p q, q2, rfl, ⟨ts ++ [t], hq2', (hpt.same S4).snoc ht4⟩, W.n1, W.n9, fun x hx => ?_, fun H5 S5 => ?_⟩
      · rcases List.mem_append.mp hx with z | z
        · exact W.lt x z
        · rw [List.mem_singleton] at z
          subst z
          exact hl
      have SH5 := S4.trans S5
      refine ⟨_, rfl, g, j, l, a, rfl, G.same SH5, W.n1, W.n9, W.lt, fun H6 S6 => ⟨(by show 2 ≤ sizeLine; decide), fun p' hp' => ?_⟩⟩
      have SH6 := SH5.trans S6
      exact k.still ed G (SH6.free hp') (Same.upd SH6 (SH6.free hp')) upd_same
theorem scWithout : FnScope ["ground", "given", "refusal", "joins", "pair"] ["ground", "given"] (defScope sWithout) := ⟨rfl, rfl, rfl, by decide +kernel, rfl, by decide +kernel, by decide +kernel⟩
theorem ok_without {f C : Addr} {fd : FuncData} (F : Fun K "without_join" "without_join" sWithout f fd) (T : TxtG K C) (dR : Def P w K mg base 2 "parting_refused" ["ground", "places"] (spRef C partR)) (dP : Def P w K mg base 1 "pair_of" ["places"] spPairOf) (dF : Def P w K mg base 3 "fewest_turns" ["size", "joins"] spFewest) (dT : Def P w K mg base 4 "turns_now" ["ground"] (spTurnsNow C)) :
    FnOk P w K mg base CX0 5 f fd ["ground", "given"] (spCall C (mk2 .without) Wf) := by
  refine F.ok scWithout (fun vs H Q E h => ?_) (fun cdv A outer s H vs Q E hr h => ?_)
  · obtain ⟨g, v, j, l, a, given, c, rfl, _⟩ := h
    rfl
  · obtain ⟨g, v, j, l, a, given, c, rfl, G, W, hv, hvj, hvl, hc, k⟩ := h
    obtain ⟨p, q, rfl, rfl⟩ := mk2_of hc
    have hu := hr.units
    refine ⟨_, pss_cons (ps_set (i := 2) scWithout.nd rfl (Or.inl rfl) (pe_def dR hr (by decide) rfl (pa_cons (pv 0) (pa_cons (pv 1) pa_nil))))
      (pss_cons (ps_if (pt_cmpR op_lt (pv 2) pe_int (nomark _)) (pss_one (ps_ret (pe_lst (pa_cons (pv 2) pa_nil)))) pss_nil)
      (pss_cons (ps_setLc (i := 3) (own := [("pair", 4)]) rfl scWithout.nd rfl rfl (sw_true rfl rfl rfl (by decide +kernel)) (pi_list (pe_fld (pv 0) rfl)) (blkOk_by (by show blkC ["ground", "given", "refusal", "joins", "pair"] (defScope sWithout) _ _ = true; decide +kernel))
        (fun _ _ _ _ _ => pg_name (i := 4) scWithout.nd rfl (Or.inl rfl)) (fun _ _ _ _ _ => pts_one (pt_cmpR (r := rNeD K) (op_neD hu) (pv 4) (pe_def dP hr (by decide) rfl (pa_cons (pv 1) pa_nil)) (nomark _))) (fun _ _ _ _ _ => pv 4))
      (pss_one (ps_ret (pe_lst (pa_cons (pe_def dF hr (by decide) rfl (pa_cons (pe_fld (pv 0) rfl) (pa_cons (pv 3) pa_nil))) (pa_cons (pe_def dT hr (by decide) rfl (pa_cons (pv 0) pa_nil)) pa_nil))))))), ?_⟩
    refine ⟨_, rfl, _, rfl, g, v, j, l, a, p, q, rfl, G, hv, fun H1 S1 => ?_⟩
    obtain ⟨dx, hg⟩ := G.ins
    refine ⟨_, rfl, _, _, rfl, rfl, _, rfl, ?_⟩
    rcases partR_cases a p q with ⟨hneg, _, ed⟩ | ⟨hpos, hmem, _, ed⟩
    · rw [decide_eq_true hneg]
      refine iteT ⟨_, rfl, (by show 1 ≤ sizeLine; decide), fun p' hp => k.still ed G (S1.free hp) (Same.upd S1 (S1.free hp)) upd_same⟩
    · rw [decide_eq_false hpos]
      refine iteF ?_
      obtain ⟨ts, hts, hpt⟩ := G.js
      have hfew := joins_few W
      have hlen := hpt.len
      refine ⟨_, rfl, g, C, dx, _, _, rfl, S1 _ _ hg, T.cl, T.nJ, gf_joins _ _ _, j, rfl, ⟨_, SqL.of (S1 _ _ hts)⟩, fun D hD => ?_⟩
      have hDH : H D = none := S1.free hD
      refine lc_list (K := K) (a := j) (xs := ts.map V.ref) (fun i H2 => Same H H2 ∧ ∃ us, H2 D = some (.lst (us.map V.ref)) ∧ Pairs H2 us ((a.joins.take i).filter fun x => x != Su120.pair p q)) ⟨Same.upd S1 hDH, [], upd_same, trivial⟩ (fun i H2 _ ⟨S2, _⟩ => SqL.of (S2 _ _ hts)) ?_ ?_
      · rintro i y H2 hi ⟨S2, us, hD2, hus⟩
        rw [List.getElem?_map] at hi
        cases ht : ts[i]? with
        | none => rw [ht] at hi; cases hi
        | some t =>
          rw [ht] at hi
          obtain rfl : V.ref t = y := Option.some.inj hi
          obtain ⟨x, hx, htp⟩ := hpt.at ht
          refine ⟨rfl, _, rfl, _, rfl, v, p, q, rfl, S2 _ _ hv, fun u hu' => ?_⟩
          have S3' : Same H2 (L2.upd H2 u (.tup [nat (Su120.pair p q).1, nat (Su120.pair p q).2])) := Same.upd (Same.refl H2) hu'
          have hu3 : (L2.upd H2 u (.tup [nat (Su120.pair p q).1, nat (Su120.pair p q).2])) u = some (.tup [nat (Su120.pair p q).1, nat (Su120.pair p q).2]) := upd_same
          generalize L2.upd H2 u (.tup [nat (Su120.pair p q).1, nat (Su120.pair p q).2]) = H3 at S3' hu3
          have S3 := S2.trans S3'
          refine ⟨pd x, pd (Su120.pair p q), dp_pair (S3 _ _ htp), dp_pair hu3, rfl, rfl, _, rfl, ?_⟩
          rw [eqv_pd]
          have ef : (a.joins.take (i + 1)).filter (fun x => x != Su120.pair p q) = (a.joins.take i).filter (fun x => x != Su120.pair p q) ++ (if x = Su120.pair p q then [] else [x]) := by
            rw [take_snoc hx, List.filter_append]
            congr 1
            by_cases e : x = Su120.pair p q
            · rw [if_pos e]; simp [e]
            · rw [if_neg e]; simp [e]
          have hus3 := hus.same S3'
          have hlu := hus.len
          have hl1 := List.length_filter_le (fun x => x != Su120.pair p q) (a.joins.take i)
          rw [List.length_take] at hl1
          refine ite2 (fun h => ?_) fun h => ?_
          · have hne : ¬ x = Su120.pair p q := by simpa using h
            rw [if_neg hne] at ef
            refine ⟨_, rfl, _, S3' _ _ hD2, small1000 (by rw [List.length_map]; omega), Same.upd S3 hDH, us ++ [t], ?_, ?_⟩
            · rw [upd_same, List.map_append] <;> rfl
            · rw [ef]
              refine Pairs.tups (fun b xs e => ?_) (hus3.snoc (S3 _ _ htp))
              rw [upd_ne (ne_of e (S3' _ _ hD2) (by intro z; cases z))]
              exact e
          · have he : x = Su120.pair p q := by simpa using h
            rw [if_pos he, List.append_nil] at ef
            exact ⟨S3, us, S3' _ _ hD2, by rw [ef]; exact hus3⟩
      · rintro H2 ⟨S2, us, hD2, hus⟩
        rw [List.length_map, hlen, List.take_length] at hus
        refine ⟨_, rfl, g, C, dx, _, _, rfl, S2 _ _ hg, T.cl, T.nS, gf_size _ _ _, _, rfl, a.cut p q, D, rfl, ⟨us, hD2, hus⟩, W.n1, W.n9, fun x hx => W.lt x (List.mem_filter.mp hx).1, fun H5 S5 => ?_⟩
        have SH5 := S2.trans S5
        refine ⟨_, rfl, g, j, l, a, rfl, G.same SH5, W.n1, W.n9, W.lt, fun H6 S6 => ⟨(by show 2 ≤ sizeLine; decide), fun p' hp' => ?_⟩⟩
        have SH6 := SH5.trans S6
        exact k.still ed G (SH6.free hp') (Same.upd SH6 (SH6.free hp')) upd_same
end
end LF

end

section
set_option Elab.async false
set_option linter.all false
set_option maxRecDepth 100000
set_option maxHeartbeats 2000000
namespace LF
open PySem PySem.Spec PyProof.Rows L2
section
variable {P : Program} {w : World} {K : PySem.W.Frag} {mg : Str → Option Value} {base : Heap}
theorem scFar : FnScope ["ground", "given", "steps"] ["ground", "given"] (defScope sFar) := ⟨rfl, rfl, rfl, by decide +kernel, rfl, by decide +kernel, by decide +kernel⟩
theorem ok_far {f C : Addr} {fd : FuncData} (F : Fun K "far" "far" sFar f fd) (TK : TxtK mg) (dM : Def P w K mg base 1 "is_missing" ["ground", "places"] (spMiss C)) (dD : Def P w K mg base 3 "distance" ["near", "place", "another"] spDist) (dN : Def P w K mg base 2 "near" ["ground"] (spNearG C)) :
    FnOk P w K mg base CX0 4 f fd ["ground", "given"] (spCall C (mk2 .far) Wf) := by
  refine F.ok scFar (fun vs H Q E h => ?_) (fun cdv A outer s H vs Q E hr h => ?_)
  · obtain ⟨g, v, j, l, a, given, c, rfl, _⟩ := h
    rfl
  · obtain ⟨g, v, j, l, a, given, c, rfl, G, W, hv, hvj, hvl, hc, k⟩ := h
    obtain ⟨p, q, rfl, rfl⟩ := mk2_of hc
    refine ⟨_, pss_cons (ps_if (pt_val (pe_def dM hr (by decide) rfl (pa_cons (pv 0) (pa_cons (pv 1) pa_nil)))) (pss_one (ps_ret (pe_lst (pa_cons (pe_ki TK.c2 rfl) pa_nil)))) pss_nil)
      (pss_cons (ps_set (i := 2) scFar.nd rfl (Or.inl rfl) (pe_def dD hr (by decide) rfl (pa_cons (pe_def dN hr (by decide) rfl (pa_cons (pv 0) pa_nil)) (pa_cons (pe_ix ix_list (pv 1) pe_int (fun _ _ => rfl)) (pa_cons (pe_ix ix_list (pv 1) pe_int (fun _ _ => rfl)) pa_nil)))))
      (pss_cons (ps_if (pt_cmp (pc_isN (pv 2))) (pss_one (ps_ret (pe_lst (pa_cons (pe_ki TK.c33 rfl) pa_nil)))) pss_nil)
      (pss_one (ps_ret (pe_lst (pa_cons (pv 2) pa_nil)))))), ?_⟩
    have ed : Su120.does a (.far p q) = if a.isP p = false ∨ a.isP q = false then (a, Su120.no (-2)) else (match a.far p q with
      | none => (a, Su120.no (-33))
      | some k => (a, Su120.num k [])) := rfl
    refine ⟨_, rfl, _, rfl, g, v, j, l, a, [p, q], rfl, G, hv, by simp, _, rfl, ite2 (fun h => ?_) fun h => ?_⟩
    · refine ⟨by decide, fun p' hp => k.no ?_ G hp⟩
      rw [ed, if_pos ((miss2 a p q).mp h)]
    have h1 : ¬ (a.isP p = false ∨ a.isP q = false) := fun z => h ((miss2 a p q).mpr z)
    rw [if_neg h1] at ed
    have hp := isP_lt fun z => h1 (.inl z)
    have hq := isP_lt fun z => h1 (.inr z)
    refine ⟨_, rfl, g, j, l, a, rfl, G, W.n9, W.lt, fun p1 H1 hp1 S1 hn1 => ?_⟩
    refine ⟨_, rfl, v, _, _, _, rfl, rfl, SqL.of (S1 _ _ hv), at_of (j := 0) rfl rfl, _, rfl, v, _, _, _, rfl, rfl, SqL.of (S1 _ _ hv), at_of (j := 1) rfl rfl, p1, _, a, p, q, rfl, hn1, W.near, W.n9, hp, hq, fun H2 S2 => ?_⟩
    have SH := S1.trans S2
    refine ⟨_, rfl, _, rfl, ?_⟩
    cases hf : a.far p q with
    | none =>
      rw [hf] at ed
      exact iteT ⟨by decide, fun p' hp => k.still ed G (SH.free hp) (Same.upd SH (SH.free hp)) upd_same⟩
    | some n =>
      rw [hf] at ed
      exact iteF ⟨_, rfl, (by show 1 ≤ sizeLine; decide), fun p' hp => k.still ed G (SH.free hp) (Same.upd SH (SH.free hp)) upd_same⟩
theorem scRoot : FnScope ["ground", "given", "square", "side"] ["ground", "given"] (defScope sRoot) := ⟨rfl, rfl, rfl, by decide +kernel, rfl, by decide +kernel, by decide +kernel⟩
theorem ok_root {f C : Addr} {fd : FuncData} (F : Fun K "root" "root" sRoot f fd) (TK : TxtK mg) : FnOk P w K mg base CX0 1 f fd ["ground", "given"] (spCall C (mk1 .root) Wf) := by
  refine F.ok scRoot (fun vs H Q E h => ?_) (fun cdv A outer s H vs Q E hr h => ?_)
  · obtain ⟨g, v, j, l, a, given, c, rfl, _⟩ := h
    rfl
  · obtain ⟨g, v, j, l, a, given, c, rfl, G, W, hv, hvj, hvl, hc, k⟩ := h
    obtain ⟨n, rfl, rfl⟩ := mk1_of hc
    refine ⟨_, pss_cons (ps_set (i := 2) scRoot.nd rfl (Or.inl rfl) (pe_ix ix_list (pv 1) pe_int (fun _ _ => rfl)))
      (pss_cons (ps_if (pt_cmpR op_gt (pv 2) (pe_ki TK.rooted rfl) (nomark _)) (pss_one (ps_ret (pe_lst (pa_cons (pe_ki TK.c22 rfl) pa_nil)))) pss_nil)
      (pss_cons (ps_set (i := 3) scRoot.nd rfl (Or.inl rfl) pe_int)
      (pss_cons (ps_while PassesOwn.never (pt_cmpR op_lt (pe_op op_mul (pv 3) (pv 3)) (pv 2) (nomark _)) (pss_one (ps_aug (i := 3) scRoot.nd rfl (Or.inl rfl) pe_int iop_add)))
      (pss_one (ps_ret (pe_lst (pa_cons (pv 3) pa_nil))))))), ?_⟩
    have ed : Su120.does a (.root n) = if 1000 < n then (a, Su120.no (-22)) else (a, Su120.num (Su120.root n) []) := rfl
    refine ⟨_, rfl, v, _, _, _, rfl, rfl, SqL.of hv, at_of (j := 0) rfl rfl, ?_⟩
    refine ⟨_, rfl, _, _, rfl, rfl, _, rfl, ite2 (fun h => ?_) fun h => ?_⟩
    · have h := of_decide_eq_true h
      refine ⟨by decide, fun p' hp => k.no ?_ G hp⟩
      rw [ed, if_pos (by omega)]
    have h1000 : n ≤ 1000 := by
      have := of_decide_eq_false (Bool.eq_false_iff.mpr h)
      omega
    rw [if_neg (by omega)] at ed
    refine ⟨fun m σ H' => ∃ i : Nat, m = n - i ∧ i ≤ n ∧ σ = [some (.ref g), some (.ref v), some (nat n), some (nat i)] ∧ H' = H ∧ ∀ j, j < i → j * j < n, ⟨n, 0, rfl, Nat.zero_le _, rfl, rfl, fun j hj => absurd hj (Nat.not_lt_zero _)⟩, ?_⟩
    rintro m σ H' ⟨i, rfl, hi, rfl, rfl, hno⟩
    refine ⟨_, rfl, _, rfl, _, _, rfl, rfl, .inl ⟨by omega, by omega⟩, _, rfl, _, _, rfl, rfl, _, rfl, ite2 (fun h => ?_) fun h => ?_⟩
    · have h : (i : Int) * (i : Int) < (n : Int) := of_decide_eq_true h
      have h : i * i < n := by
        have : ((i * i : Nat) : Int) < (n : Int) := by push_cast; exact h
        omega
      have hin : i < n := by
        rcases Nat.eq_zero_or_pos i with z | z
        · omega
        · have := Nat.le_mul_of_pos_left i z
          omega
      refine ⟨fun σ' H'' => σ' = [some (.ref g), some (.ref v), some (nat n), some (nat (i + 1))] ∧ H'' = H', ?_, ?_⟩
      · rintro σ' H'' ⟨rfl, rfl⟩
        refine ⟨n - (i + 1), by omega, i + 1, rfl, by omega, rfl, rfl, fun j hj => ?_⟩
        rcases Nat.lt_or_ge j i with z | z
        · exact hno j z
        · have : j = i := by omega
          rw [this]; exact h
      · exact ⟨_, rfl, _, _, rfl, rfl, rfl, rfl⟩
    · have h : ¬ (i : Int) * (i : Int) < (n : Int) := fun z => h (decide_eq_true z)
      have h : n ≤ i * i := by
        have : ¬ ((i * i : Nat) : Int) < (n : Int) := by push_cast; exact h
        omega
      have er := root_eq h hno
      rw [er] at ed
      exact ⟨_, rfl, (by show 1 ≤ sizeLine; decide), fun p' hp => k.still ed G hp (Same.upd (Same.refl _) hp) upd_same⟩
theorem scFinish : FnScope ["ground", "given"] ["ground", "given"] (defScope sFinish) := ⟨rfl, rfl, rfl, by decide +kernel, rfl, by decide +kernel, by decide +kernel⟩
theorem ok_finish {f C : Addr} {fd : FuncData} (F : Fun K "finish" "finish" sFinish f fd) (T : TxtG K C) (TB : TxtB mg) (dS : Def P w K mg base 2 "shortest_row" ["near", "burnt"] spShort) (dN : Def P w K mg base 2 "near" ["ground"] (spNearG C)) (dB : Def P w K mg base 3 "burnt_now" ["ground"] (spNow C)) :
    FnOk P w K mg base CX0 4 f fd ["ground", "given"] (spCall C (mk0 .finish) Wf) := by
  refine F.ok scFinish (fun vs H Q E h => ?_) (fun cdv A outer s H vs Q E hr h => ?_)
  · obtain ⟨g, v, j, l, a, given, c, rfl, _⟩ := h
    rfl
  · obtain ⟨g, v, j, l, a, given, c, rfl, G, W, hv, hvj, hvl, hc, k⟩ := h
    obtain ⟨rfl, rfl⟩ := mk0_of hc
    refine ⟨_, pss_one (ps_ret (pe_lst (pa_cons (pe_len rfl TB.len (pa_cons (pe_def dS hr (by decide) rfl (pa_cons (pe_def dN hr (by decide) rfl (pa_cons (pv 0) pa_nil)) (pa_cons (pe_def dB hr (by decide) rfl (pa_cons (pv 0) pa_nil)) pa_nil))) pa_nil)) (pa_cons (pe_len rfl TB.len (pa_cons (pe_fld (pv 0) rfl) pa_nil)) pa_nil)))), ?_⟩
    obtain ⟨dx, hg⟩ := G.ins
    refine ⟨_, rfl, g, j, l, a, rfl, G, W.n9, W.lt, fun p1 H1 hp1 S1 hn1 => ?_⟩
    refine ⟨_, rfl, g, j, l, a, rfl, G.same S1, W.n9, W.lt, W.lit, fun H2 S2 => ?_⟩
    have SH2 := S1.trans S2
    have hlt : burntM (nearM a.n a.joins) a.lit < 2 ^ a.n := burntF_lt W.near W.lit (Nat.two_pow_pos _)
    refine ⟨p1, _, a, _, rfl, S2 _ _ hn1, W.near, W.n9, hlt, fun r H3 kk row S3 hr3 Sh => ?_⟩
    have SH3 := SH2.trans S3
    refine ⟨r, _, rfl, .inl (SqL.of hr3), _, rfl, g, C, dx, _, _, rfl, SH3 _ _ hg, T.cl, T.nL, gf_lit _ _ _, l, _, rfl, .inl (SqL.of (SH3 _ _ G.lit)), (by show 2 ≤ sizeLine; decide), fun p hp => ?_⟩
    refine k.still (a := a) (z := Su120.num a.rest [a.lit.length]) rfl G (SH3.free hp) (Same.upd SH3 (SH3.free hp)) ?_
    rw [upd_same, nats_len, nats_len, Sh.len, Sh.rest W.near (burn_eq W.near a.lit) hlt] <;> rfl
theorem scParts : FnScope ["ground", "given"] ["ground", "given"] (defScope sParts) := ⟨rfl, rfl, rfl, by decide +kernel, rfl, by decide +kernel, by decide +kernel⟩
theorem ok_parts {f C : Addr} {fd : FuncData} (F : Fun K "parts" "parts" sParts f fd) (dC : Def P w K mg base 1 "counted" ["numbers"] spCounted) (dS : Def P w K mg base 3 "part_sizes" ["near"] spSizes) (dN : Def P w K mg base 2 "near" ["ground"] (spNearG C)) :
    FnOk P w K mg base CX0 4 f fd ["ground", "given"] (spCall C (mk0 .parts) Wf) := by
  refine F.ok scParts (fun vs H Q E h => ?_) (fun cdv A outer s H vs Q E hr h => ?_)
  · obtain ⟨g, v, j, l, a, given, c, rfl, _⟩ := h
    rfl
  · obtain ⟨g, v, j, l, a, given, c, rfl, G, W, hv, hvj, hvl, hc, k⟩ := h
    obtain ⟨rfl, rfl⟩ := mk0_of hc
    refine ⟨_, pss_one (ps_ret (pe_def dC hr (by decide) rfl (pa_cons (pe_def dS hr (by decide) rfl (pa_cons (pe_def dN hr (by decide) rfl (pa_cons (pv 0) pa_nil)) pa_nil)) pa_nil))), ?_⟩
    refine ⟨_, rfl, g, j, l, a, rfl, G, W.n9, W.lt, fun p1 H1 hp1 S1 hn1 => ?_⟩
    refine ⟨p1, _, a, rfl, hn1, W.near, W.n9, fun r H2 hr' S2 hr2 => ?_⟩
    have h1 := sizes_len W.near
    have h2 := parts_le a
    have h3 := W.n9
    refine ⟨r, _, rfl, hr2, by rw [nats_len]; omega, fun p H3 hp S3 hp3 => ?_⟩
    refine k.still (a := a) (z := Su120.list (sizesTo (nearM a.n a.joins) a.n a.n)) ?_ G (S1.free (S2.free hp)) ((S1.trans S2).trans S3) ?_
    · show (a, Su120.num a.parts _) = (a, Su120.num _ _)
      rw [h1, sizes_eq W.near]
    · rw [hp3, nats_len, ← ans_list]
theorem scTree : FnScope ["ground", "given", "chosen"] ["ground", "given"] (defScope sTree) := ⟨rfl, rfl, rfl, by decide +kernel, rfl, by decide +kernel, by decide +kernel⟩
theorem ok_tree {f C : Addr} {fd : FuncData} (F : Fun K "tree" "tree" sTree f fd) (T : TxtG K C) (TB : TxtB mg) (TK : TxtK mg) (dT : Def P w K mg base 10 "first_tree" ["size", "joins"] spTree1) (dI : Def P w K mg base 1 "in_a_row" ["joins"] spInRow) :
    FnOk P w K mg base CX0 11 f fd ["ground", "given"] (spCall C (mk0 .tree) Wf) := by
  refine F.ok scTree (fun vs H Q E h => ?_) (fun cdv A outer s H vs Q E hr h => ?_)
  · obtain ⟨g, v, j, l, a, given, c, rfl, _⟩ := h
    rfl
  · obtain ⟨g, v, j, l, a, given, c, rfl, G, W, hv, hvj, hvl, hc, k⟩ := h
    obtain ⟨rfl, rfl⟩ := mk0_of hc
    refine ⟨_, pss_cons (ps_if (PW.pt (pw_or (pt_cmpR op_gt (pe_fld (pv 0) rfl) (pe_ki TK.treeP rfl) (nomark _)) (pw_or1 (pt_cmpR op_gt (pe_len rfl TB.len (pa_cons (pe_fld (pv 0) rfl) pa_nil)) (pe_ki TK.treeJ rfl) (nomark _))))) (pss_one (ps_ret (pe_lst (pa_cons (pe_ki TK.c28 rfl) pa_nil)))) pss_nil)
      (pss_cons (ps_set (i := 2) scTree.nd rfl (Or.inl rfl) (pe_def dT hr (by decide) rfl (pa_cons (pe_fld (pv 0) rfl) (pa_cons (pe_fld (pv 0) rfl) pa_nil))))
      (pss_cons (ps_if (pt_cmp (pc_isN (pv 2))) (pss_one (ps_ret (pe_lst (pa_cons (pe_ki TK.c33 rfl) pa_nil)))) pss_nil)
      (pss_one (ps_ret (pe_op op_cat (pe_lst (pa_cons (pe_len rfl TB.len (pa_cons (pv 2) pa_nil)) pa_nil)) (pe_def dI hr (by decide) rfl (pa_cons (pv 2) pa_nil))))))), ?_⟩
    have ed : Su120.does a .tree = if Su120.TREE < a.n ∨ 9 < a.joins.length then (a, Su120.no (-28)) else (match a.trees.find? fun t => t.turns == a.turns with
      | none => (a, Su120.no (-33))
      | some t => (a, Su120.num t.joins.length (t.joins.flatMap fun x => [x.1, x.2]))) := rfl
    obtain ⟨dx, hg⟩ := G.ins
    obtain ⟨ts, hts, hpt⟩ := G.js
    have hlen := hpt.len
    have no : Su120.does a .tree = (a, Su120.no (-28)) → 1 ≤ sizeLine ∧ ∀ p', H p' = none → Q (.ref p') (L2.upd H p' (.lst [.int (-28)])) := fun e => ⟨by decide, fun p' hp => k.no e G hp⟩
    refine ⟨_, rfl, g, C, dx, _, _, rfl, hg, T.cl, T.nS, gf_size _ _ _, _, _, rfl, rfl, _, rfl, ite2 (fun h => iteT (no ?_)) fun h => ⟨_, rfl, g, C, dx, _, _, rfl, hg, T.cl, T.nJ, gf_joins _ _ _, j, _, rfl, .inl (SqL.of hts), _, _, rfl, rfl, _, rfl, ite2 (fun h2 => no ?_) fun h2 => ?_⟩⟩
    · have h := of_decide_eq_true h
      rw [ed, if_pos (.inl (show 7 < a.n by omega))]
    · have h2 := of_decide_eq_true h2
      rw [List.length_map] at h2
      rw [ed, if_pos (.inr (by omega))]
    have h7 : a.n ≤ 7 := by
      have := of_decide_eq_false (Bool.eq_false_iff.mpr h)
      omega
    have hj9 : a.joins.length ≤ 9 := by
      have := of_decide_eq_false (Bool.eq_false_iff.mpr h2)
      rw [List.length_map] at this
      omega
    rw [if_neg (by
      rintro (z | z)
      · have z : 7 < a.n := z
        omega
      · omega)] at ed
    refine ⟨_, rfl, g, C, dx, _, _, rfl, hg, T.cl, T.nS, gf_size _ _ _, _, rfl, g, C, dx, _, _, rfl, hg, T.cl, T.nJ, gf_joins _ _ _, a, j, rfl, G.js, W.n1, h7, hj9, W.lt, fun ch H1 S1 hch => ?_⟩
    refine ⟨_, rfl, _, rfl, ?_⟩
    cases hf : a.trees.find? fun t => t.turns == a.turns with
    | none =>
      rw [hf] at hch ed
      have e : ch = .non := hch
      subst e
      exact iteT ⟨by decide, fun p' hp => k.still ed G (S1.free hp) (Same.upd S1 (S1.free hp)) upd_same⟩
    | some t =>
      have hl9 : t.joins.length ≤ 9 := by
        rw [trees_find] at hf
        obtain ⟨s', hs', rfl⟩ := Option.map_eq_some_iff.mp hf
        have := subsets_short (List.mem_of_find?_eq_some hs')
        show s'.length ≤ 9
        omega
      rw [hf] at hch ed
      obtain ⟨r, e, hJ⟩ := (hch : ∃ r, ch = .ref r ∧ JoinsAt H1 r t.joins)
      subst e
      obtain ⟨us, hus, hpu⟩ := hJ
      refine iteF ⟨_, rfl, r, _, rfl, .inl (SqL.of hus), (by show 1 ≤ sizeLine; decide), fun q hq => ?_⟩
      have S2 : Same H1 (L2.upd H1 q (.lst [.int (((us.map V.ref).length : Nat) : Int)])) := Same.upd (Same.refl H1) hq
      have hq2 : (L2.upd H1 q (.lst [.int (((us.map V.ref).length : Nat) : Int)])) q = some (.lst [.int (((us.map V.ref).length : Nat) : Int)]) := upd_same
      generalize L2.upd H1 q (.lst [.int (((us.map V.ref).length : Nat) : Int)]) = H2 at S2 hq2
      refine ⟨_, rfl, r, t.joins, rfl, ⟨us, S2 _ _ hus, hpu.same S2⟩, by omega, fun q2 H3 hq3 S3 hfl => ?_⟩
      have hfl2 := flatJ_len t.joins
      refine ⟨q, q2, _, _, rfl, rfl, S3 _ _ hq2, hfl, Nat.le_of_lt (small1000 (by rw [nats_len]; show 1 + (flatJ t.joins).length ≤ 1000; omega)), fun p hp => ?_⟩
      have SH := (S1.trans S2).trans S3
      refine k.still ed G (SH.free hp) (Same.upd SH (SH.free hp)) ?_
      rw [upd_same, List.length_map, hpu.len]
      show some (HO.lst (nat t.joins.length :: nats (flatJ t.joins))) = some (HO.lst (V.int _ :: ((flatJ t.joins).map fun (x : Nat) => (x : Int)).map V.int))
      rw [List.map_map] <;> rfl
theorem scState : FnScope ["ground", "given"] ["ground", "given"] (defScope sState) := ⟨rfl, rfl, rfl, by decide +kernel, rfl, by decide +kernel, by decide +kernel⟩
theorem ok_state {f C : Addr} {fd : FuncData} (F : Fun K "state" "state" sState f fd) (T : TxtG K C) (TB : TxtB mg) (dI : Def P w K mg base 1 "in_a_row" ["joins"] spInRow) : FnOk P w K mg base CX0 2 f fd ["ground", "given"] (spCall C (mk0 .state) Wf) := by
  refine F.ok scState (fun vs H Q E h => ?_) (fun cdv A outer s H vs Q E hr h => ?_)
  · obtain ⟨g, v, j, l, a, given, c, rfl, _⟩ := h
    rfl
  · obtain ⟨g, v, j, l, a, given, c, rfl, G, W, hv, hvj, hvl, hc, k⟩ := h
    obtain ⟨rfl, rfl⟩ := mk0_of hc
    refine ⟨_, pss_one (ps_ret (pe_op op_cat (pe_op op_cat (pe_lst (pa_cons (pe_fld (pv 0) rfl) (pa_cons (pe_len rfl TB.len (pa_cons (pe_fld (pv 0) rfl) pa_nil)) pa_nil))) (pe_def dI hr (by decide) rfl (pa_cons (pe_fld (pv 0) rfl) pa_nil))) (pe_fld (pv 0) rfl))), ?_⟩
    obtain ⟨dx, hg⟩ := G.ins
    obtain ⟨ts, hts, hpt⟩ := G.js
    have hfew := joins_few W
    have hlen := hpt.len
    have hll := W.ll
    have hn := W.n9
    refine ⟨_, rfl, g, C, dx, _, _, rfl, hg, T.cl, T.nS, gf_size _ _ _, _, rfl, g, C, dx, _, _, rfl, hg, T.cl, T.nJ, gf_joins _ _ _, j, _, rfl, .inl (SqL.of hts), (by show 2 ≤ sizeLine; decide), fun q hq => ?_⟩
    have S1 : Same H (L2.upd H q (.lst [nat a.n, .int (((ts.map V.ref).length : Nat) : Int)])) := Same.upd (Same.refl H) hq
    have hq1 : (L2.upd H q (.lst [nat a.n, .int (((ts.map V.ref).length : Nat) : Int)])) q = some (.lst [nat a.n, .int (((ts.map V.ref).length : Nat) : Int)]) := upd_same
    generalize L2.upd H q (.lst [nat a.n, .int (((ts.map V.ref).length : Nat) : Int)]) = H1 at S1 hq1
    refine ⟨_, rfl, g, C, dx, _, _, rfl, S1 _ _ hg, T.cl, T.nJ, gf_joins _ _ _, j, a.joins, rfl, G.js.same S1, hfew, fun q2 H2 hq2 S2 hfl => ?_⟩
    have hfl2 := flatJ_len a.joins
    have SH2 := S1.trans S2
    refine ⟨q, q2, _, _, rfl, rfl, S2 _ _ hq1, hfl, Nat.le_of_lt (small1000 (by rw [nats_len]; show 2 + (flatJ a.joins).length ≤ 1000; omega)), fun q3 hq3 => ?_⟩
    have S3 := Same.upd (o := .lst ([nat a.n, .int (((ts.map V.ref).length : Nat) : Int)] ++ nats (flatJ a.joins))) (Same.refl H2) hq3
    have hq3' : (L2.upd H2 q3 (.lst ([nat a.n, .int (((ts.map V.ref).length : Nat) : Int)] ++ nats (flatJ a.joins)))) q3 = some (.lst ([nat a.n, .int (((ts.map V.ref).length : Nat) : Int)] ++ nats (flatJ a.joins))) := upd_same
    have SH3 := SH2.trans S3
    generalize L2.upd H2 q3 (.lst ([nat a.n, .int (((ts.map V.ref).length : Nat) : Int)] ++ nats (flatJ a.joins))) = H3 at S3 SH3 hq3'
    refine ⟨_, rfl, g, C, dx, _, _, rfl, SH3 _ _ hg, T.cl, T.nL, gf_lit _ _ _, q3, l, _, _, rfl, rfl, hq3', SH3 _ _ G.lit, Nat.le_of_lt (small1000 (by rw [List.length_append, nats_len, nats_len]; show 2 + (flatJ a.joins).length + a.lit.length ≤ 1000; omega)), fun p hp => ?_⟩
    refine k.still (a := a) (z := Su120.num a.n (a.joins.length :: flatJ a.joins ++ a.lit)) rfl G (SH3.free hp) (Same.upd SH3 (SH3.free hp)) ?_
    rw [upd_same, List.length_map, hlen]
    show some (HO.lst (nat a.n :: nat a.joins.length :: (nats (flatJ a.joins) ++ nats a.lit))) = some (HO.lst (V.int _ :: V.int _ :: ((flatJ a.joins ++ a.lit).map fun (x : Nat) => (x : Int)).map V.int))
    rw [List.map_map, List.map_append] <;> rfl
end
end LF

end

section
set_option linter.all false
namespace LF
open Su120
theorem wf_new {n : Nat} (h1 : 1 ≤ n) (h9 : n ≤ 9) : Wf (new n) := ⟨h1, h9, fun x hx => (by cases hx), List.nodup_nil, fun x hx => (by cases hx), Nat.zero_le _⟩
theorem nodup_rowJ (n : Nat) : (rowJ n).Nodup := by
  unfold rowJ
  rw [List.nodup_iff_pairwise_ne, List.pairwise_map]
  exact (List.nodup_iff_pairwise_ne.mp List.nodup_range).imp fun {x y} hne e => hne (Prod.mk.inj e).1
theorem rowJ_lt {n : Nat} {x : Nat × Nat} (h : x ∈ rowJ n) : x.1 < x.2 ∧ x.2 < n ∧ x.2 = x.1 + 1 := by
  unfold rowJ at h
  obtain ⟨i, hi, rfl⟩ := List.mem_map.mp h
  have := List.mem_range.mp hi
  exact ⟨by show i < i + 1; omega, by show i + 1 < n; omega, rfl⟩
theorem wf_line {n : Nat} (h1 : 1 ≤ n) (h9 : n ≤ 9) : Wf (Su120.line n) :=
  ⟨h1, h9, fun x hx => ⟨(rowJ_lt hx).1, (rowJ_lt hx).2.1⟩, nodup_rowJ n, fun x hx => (by cases hx), Nat.zero_le _⟩
theorem wf_ring {n : Nat} (h3 : 3 ≤ n) (h9 : n ≤ 9) : Wf (Su120.ring n) := by
  have e : (Su120.ring n).joins = rowJ n ++ [(0, n - 1)] := by
    show (Su120.line n).joins ++ (if 3 ≤ n then [(0, n - 1)] else []) = _
    rw [if_pos h3] <;> rfl
  refine ⟨by show 1 ≤ n; omega, h9, fun x hx => ?_, ?_, fun x hx => (by cases hx), Nat.zero_le _⟩
  · rw [e] at hx
    show x.1 < x.2 ∧ x.2 < n
    rcases List.mem_append.mp hx with z | z
    · exact ⟨(rowJ_lt z).1, (rowJ_lt z).2.1⟩
    · rw [List.mem_singleton] at z
      subst z
      exact ⟨by show 0 < n - 1; omega, by show n - 1 < n; omega⟩
  · rw [e]
    refine nodup_snoc (nodup_rowJ n) fun z => ?_
    have h := (rowJ_lt z).2.2
    have h : n - 1 = 0 + 1 := h
    omega
theorem wf_does {a : Abs} (W : Wf a) (c : Call) : Wf (does a c).1 := by
  cases c with
  | begin_ n =>
    show Wf (if n = 0 ∨ PLACES < n then (a, no (-22)) else (new n, no 0)).1
    split
    · exact W
    · rename_i h
      exact wf_new (by omega) (by have : ¬ 9 < n := fun z => h (.inr z); omega)
  | line n =>
    show Wf (if n = 0 ∨ PLACES < n then (a, no (-22)) else (Su120.line n, num (n - 1) [])).1
    split
    · exact W
    · rename_i h
      exact wf_line (by omega) (by have : ¬ 9 < n := fun z => h (.inr z); omega)
  | ring n =>
    show Wf (if n < 3 ∨ PLACES < n then (a, no (-22)) else (Su120.ring n, num n [])).1
    split
    · exact W
    · rename_i h
      exact wf_ring (by omega) (by have : ¬ 9 < n := fun z => h (.inr z); omega)
  | join p q =>
    show Wf (if a.isP p = false ∨ a.isP q = false then (a, no (-2)) else if p = q then (a, no (-22)) else if a.joined p q = true then (a, no (-17)) else (a.add p q, num (a.joins.length + 1) [])).1
    split
    · exact W
    · rename_i h1
      split
      · exact W
      · rename_i h2
        split
        · exact W
        · rename_i h3
          have hp := isP_lt fun z => h1 (.inl z)
          have hq := isP_lt fun z => h1 (.inr z)
          have hl := pair_lt h2 hp hq
          refine ⟨W.n1, W.n9, fun x hx => ?_, ?_, W.lit, W.ll⟩
          · rcases List.mem_append.mp hx with z | z
            · exact W.lt x z
            · rw [List.mem_singleton] at z
              subst z
              exact hl
          · refine nodup_snoc W.nd fun z => h3 ?_
            exact List.contains_iff_mem.mpr z
  | part p q =>
    show Wf (if a.isP p = false ∨ a.isP q = false then (a, no (-2)) else if a.joined p q = false then (a, no (-6)) else (a.cut p q, num (a.joins.length - 1) [])).1
    split
    · exact W
    · split
      · exact W
      · exact ⟨W.n1, W.n9, fun x hx => W.lt x (List.mem_filter.mp hx).1, W.nd.filter _, W.lit, W.ll⟩
  | light p =>
    show Wf (if a.isP p = false then (a, no (-2)) else if a.n ≤ a.lit.length then (a, no (-28)) else ({ a with lit := a.lit ++ [p] }, num (a.burn (a.lit ++ [p])).length [])).1
    split
    · exact W
    · rename_i h1
      split
      · exact W
      · rename_i h2
        refine ⟨W.n1, W.n9, W.lt, W.nd, fun x hx => ?_, ?_⟩
        · rcases List.mem_append.mp hx with z | z
          · exact W.lit x z
          · rw [List.mem_singleton.mp z]; exact isP_lt h1
        · show (a.lit ++ [p]).length ≤ a.n
          rw [List.length_append]
          show a.lit.length + 1 ≤ a.n
          omega
  | out => exact ⟨W.n1, W.n9, W.lt, W.nd, fun x hx => (by cases hx), Nat.zero_le _⟩
  | burns => exact W
  | left => exact W
  | turns => exact W
  | best => exact W
  | row l =>
    show Wf (if l.any (fun p => !(a.isP p)) = true ∨ PLACES < l.length then (a, no (-22)) else (a, num (bit ((a.burn l).length == a.n)) [(a.burn l).length])).1
    split <;> exact W
  | can k =>
    show Wf (if PLACES < k then (a, no (-22)) else (match a.row k with
      | none => (a, no (-33))
      | some r => (a, num k r))).1
    split
    · exact W
    · cases a.row k <;> exact W
  | within p k =>
    show Wf (if a.isP p = false then (a, no (-2)) else (a, list (a.within (min k a.n) p))).1
    split <;> exact W
  | with_ p q =>
    show Wf (if a.isP p = false ∨ a.isP q = false then (a, no (-2)) else if p = q then (a, no (-22)) else if a.joined p q = true then (a, no (-17)) else (a, num (a.add p q).turns [a.turns])).1
    split
    · exact W
    · split
      · exact W
      · split <;> exact W
  | without p q =>
    show Wf (if a.isP p = false ∨ a.isP q = false then (a, no (-2)) else if a.joined p q = false then (a, no (-6)) else (a, num (a.cut p q).turns [a.turns])).1
    split
    · exact W
    · split <;> exact W
  | far p q =>
    show Wf (if a.isP p = false ∨ a.isP q = false then (a, no (-2)) else (match a.far p q with
      | none => (a, no (-33))
      | some k => (a, num k []))).1
    split
    · exact W
    · cases a.far p q <;> exact W
  | root n =>
    show Wf (if 1000 < n then (a, no (-22)) else (a, num (Su120.root n) [])).1
    split <;> exact W
  | finish => exact W
  | parts => exact W
  | tree =>
    show Wf (if TREE < a.n ∨ 9 < a.joins.length then (a, no (-28)) else (match a.trees.find? fun t => t.turns == a.turns with
      | none => (a, no (-33))
      | some t => (a, num t.joins.length (t.joins.flatMap fun x => [x.1, x.2])))).1
    split
    · exact W
    · cases a.trees.find? fun t => t.turns == a.turns <;> exact W
  | state => exact W
/-- .. and from the beginning -/
theorem wf_step {s : Option Abs} (W : ∀ a, s = some a → Wf a) (c : Call) : ∀ a, (step s c).1 = some a → Wf a := by
  intro a h
  cases s with
  | some b =>
    have e : some (does b c).1 = some a := h
    rw [← Option.some.inj e]
    exact wf_does (W b rfl) c
  | none =>
    cases c with
    | begin_ n =>
      have h : (if (does (new 1) (.begin_ n)).2.value < 0 then none else some (does (new 1) (.begin_ n)).1) = some a := h
      split at h
      · cases h
      · rw [← Option.some.inj h]
        exact wf_does (wf_new (by decide) (by decide)) _
    | _ => exact absurd h (by intro z; cases z)
end LF

end

section
set_option Elab.async false
set_option linter.all false
set_option maxRecDepth 100000
set_option maxHeartbeats 2000000
namespace LF
open PySem PySem.Spec PyProof.Rows L2
abbrev sEnd : Stmt := top 73
abbrev sAnswers : Stmt := top 74
def zs (l : List Int) : List V := l.map V.int
theorem zs_nats (l : List Nat) : zs (l.map Int.ofNat) = nats l := by
  unfold zs nats
  rw [List.map_map] <;> rfl
def StAt (C : Addr) (H : Hp) (g j l : Addr) (s : Option Abs) : Prop := GAt C H g j l (s.getD ⟨0, [], []⟩) ∧ ∀ a, s = some a → Wf a
def spAnswer (C : Addr) : Sp := fun vs H Q _ => ∃ (g v j l : Addr) (s : Option Abs) (k : Nat) (given : List Nat) (c : Su120.Call), vs = [.ref g, nat k, .ref v] ∧ StAt C H g j l s ∧ H v = some (.lst (nats given)) ∧ v ≠ j ∧ v ≠ l ∧ callOf' k given = some c ∧ k ≤ 21 ∧ given.length ≤ 12 ∧
  ∀ p H' j' l', H p = none → But3 g j l H H' → (j' = j ∨ H j' = none) → (l' = l ∨ H l' = none) → StAt C H' g j' l' (Su120.step s c).1 → H' p = some (.lst (zs (ansOf (Su120.step s c).2))) → Q (.ref p) H'
def spEnd (K : PySem.W.Frag) : Sp := fun vs H Q _ => ∃ (cl : Addr) (L pre t : List Int) (x : Chunk), vs = [.ref cl, nat pre.length] ∧ SqL K H cl (zs L) ∧ L = pre ++ x.flat ++ t ∧ x.Ok ∧ L.length ≤ 5600 ∧ Q (nat (pre.length + x.flat.length)) H
def spAnswers (K : PySem.W.Frag) : Sp := fun vs H Q _ => ∃ (cl : Addr) (cs : List Chunk), vs = [.ref cl] ∧ SqL K H cl (zs (flats cs)) ∧ (flats cs).length ≤ 5600 ∧ (∀ x ∈ cs, x.Ok) ∧ (runs none cs).length ≤ 10000000 ∧ ∀ p H', H' p = some (.lst (zs (runs none cs))) → Q (.ref p) H'
/-- the module's tuple of counts -/
def NbAt (K : PySem.W.Frag) (mg : Str → Option Value) : Prop := ∃ d, mg "NUMBERS_BEHIND" = some (.ref d) ∧ ∀ H, SqT K H d (nats nb)
theorem zs_at {L : List Int} {i : Nat} {z : Int} (h : L[i]? = some z) : (zs L)[i]? = some (.int z) := by
  unfold zs
  rw [List.getElem?_map, h] <;> rfl
theorem nb_at {k : Nat} (h : k ≤ 21) : (nats nb)[k]? = some (nat (nb.getD k 0)) := nats_at (by show k < 22; omega)
theorem chunk_at {L pre t : List Int} {x : Chunk} (h : L = pre ++ x.flat ++ t) (i : Nat) (hi : i < x.flat.length) : L[pre.length + i]? = x.flat[i]? := by
  rw [h, List.append_assoc, List.getElem?_append_right (by omega), show pre.length + i - pre.length = i by omega, List.getElem?_append_left hi]
theorem flat_len (x : Chunk) : x.flat.length = x.given.length + 1 := by
  unfold Chunk.flat
  rw [List.length_cons, List.length_map]
section
variable {P : Program} {w : World} {K : PySem.W.Frag} {mg : Str → Option Value} {base : Heap}
theorem scEnd : FnScope ["calls", "at", "end"] ["calls", "at"] (defScope sEnd) := ⟨rfl, rfl, rfl, by decide +kernel, rfl, by decide +kernel, by decide +kernel⟩
theorem ok_end {f : Addr} {fd : FuncData} (F : Fun K "end_of_call" "end_of_call" sEnd f fd) (hNb : NbAt K mg) (hRow : KI mg "ROW" 11) : FnOk P w K mg base CX0 1 f fd ["calls", "at"] (spEnd K) := by
  refine F.ok scEnd (fun vs H Q E h => ?_) (fun cdv A outer s H vs Q E hr h => ?_)
  · obtain ⟨cl, L, pre, t, x, rfl, _⟩ := h
    rfl
  · obtain ⟨cl, L, pre, t, x, rfl, hS, hL, ok, h56, k⟩ := h
    obtain ⟨dn, hdn, hnb⟩ := hNb
    refine ⟨_, pss_cons (ps_set (i := 2) scEnd.nd rfl (Or.inl rfl) (pe_op op_add (pe_op op_add (pv 1) pe_int) (pe_ix ix_tup (pe_glob rfl hdn (v := .ref dn) rfl) (pe_ix ix_list (pv 0) (pv 1) (fun _ _ => rfl)) (fun _ _ => rfl))))
      (pss_cons (ps_if (pt_cmpR op_eq (pe_ix ix_list (pv 0) (pv 1) (fun _ _ => rfl)) (pe_ki hRow rfl) (nomark _)) (pss_one (ps_aug (i := 2) scEnd.nd rfl (Or.inl rfl) (pe_ix ix_list (pv 0) (pe_op op_add (pv 1) pe_int) (fun _ _ => rfl)) iop_add)) pss_nil)
      (pss_one (ps_ret (pv 2)))), ?_⟩
    have h0 : L[pre.length]? = some (x.k : Int) := by
      have := chunk_at hL 0 (by rw [flat_len]; omega)
      rw [Nat.add_zero] at this
      rw [this] <;> rfl
    have hk := ok.k
    have hlen := ok.len
    refine ⟨_, rfl, _, _, rfl, rfl, _, rfl, _, rfl, cl, _, _, _, rfl, rfl, hS, atI_nat (zs_at h0), dn, _, (x.k : Int), _, rfl, rfl, hnb H, atI_nat (nb_at hk), _, _, rfl, rfl, ?_⟩
    refine ⟨_, rfl, _, rfl, cl, _, _, _, rfl, rfl, hS, atI_nat (zs_at h0), rfl, _, rfl, ite2 (fun h => ?_) fun h => ?_⟩
    · have h11 : x.k = 11 := by
        have := V.int.inj (of_decide_eq_true h)
        omega
      rw [if_pos h11] at hlen
      have hne : x.given ≠ [] := by
        intro z
        rw [z, h11] at hlen
        have hlen : (0 : Nat) = 1 + 0 := hlen
        omega
      obtain ⟨y, ys, hy⟩ := List.exists_cons_of_ne_nil hne
      rw [hy, h11] at hlen
      have hlen : (y :: ys).length = 1 + y := hlen
      have h1 : L[pre.length + 1]? = some (y : Int) := by
        rw [chunk_at hL 1 (by rw [flat_len, hy]; show 1 < ys.length + 1 + 1; omega)]
        show ((x.k : Int) :: x.given.map Int.ofNat)[1]? = _
        rw [hy] <;> rfl
      refine ⟨_, rfl, _, rfl, _, rfl, _, _, rfl, rfl, cl, _, _, _, rfl, rfl, hS, at_of (j := pre.length + 1) (by push_cast; rfl) (zs_at h1), _, _, rfl, rfl, ?_⟩
      refine ⟨_, rfl, ?_⟩
      have e : (pre.length : Int) + 1 + ((nb.getD x.k 0 : Nat) : Int) + (y : Int) = ((pre.length + x.flat.length : Nat) : Int) := by
        rw [flat_len, hy, h11, hlen]
        show (pre.length : Int) + 1 + ((1 : Nat) : Int) + (y : Int) = _
        omega
      show Q (V.int ((pre.length : Int) + 1 + ((nb.getD x.k 0 : Nat) : Int) + (y : Int))) H
      rw [e]
      exact k
    · have h11 : ¬ x.k = 11 := fun z => h (decide_eq_true (by rw [z] <;> rfl))
      rw [if_neg h11] at hlen
      refine ⟨_, rfl, ?_⟩
      have e : (pre.length : Int) + 1 + ((nb.getD x.k 0 : Nat) : Int) = ((pre.length + x.flat.length : Nat) : Int) := by
        rw [flat_len, hlen]
        omega
      show Q (V.int ((pre.length : Int) + 1 + ((nb.getD x.k 0 : Nat) : Int))) H
      rw [e]
      exact k
theorem scAnswers : FnScope ["calls", "ground", "said", "at", "end", "answered"] ["calls"] (defScope sAnswers) := ⟨rfl, rfl, rfl, by decide +kernel, rfl, by decide +kernel, by decide +kernel⟩
structure CDef (P : Program) (w : World) (K : PySem.W.Frag) (mg : Str → Option Value) (base : Heap) (C : Addr) : Prop where
  ex : ∃ (f : Addr) (fd : FuncData), Mk K C f ∧ FnOk P w K mg base CX0 1 f fd ["self"] (spInit C) ∧ mg "Ground" = some (.ref C) ∧ Binds K fd ["self"] []
theorem flats_snoc (done : List Chunk) (x : Chunk) : flats (done ++ [x]) = flats done ++ x.flat := by
  unfold flats
  rw [List.flatMap_append, List.flatMap_cons, List.flatMap_nil, List.append_nil]
theorem flats_split (done : List Chunk) (x : Chunk) (rest : List Chunk) : flats (done ++ x :: rest) = flats done ++ x.flat ++ flats rest := by
  unfold flats
  rw [List.flatMap_append, List.flatMap_cons, List.append_assoc]
theorem cut_chunk {L pre t : List Int} {x : Chunk} (h : L = pre ++ x.flat ++ t) : cutV (zs L) (some ((pre.length : Int) + 1)) (some ((pre.length + x.flat.length : Nat) : Int)) = nats x.given := by
  have e1 : HT.sIx (zs L).length 0 (some ((pre.length : Int) + 1)) = pre.length + 1 := by
    rw [show (pre.length : Int) + 1 = ((pre.length + 1 : Nat) : Int) by push_cast; rfl, HT.sIx_nat]
    have : pre.length + 1 ≤ (zs L).length := by
      unfold zs
      rw [List.length_map, h, List.length_append, List.length_append, flat_len]
      omega
    omega
  have e2 : HT.sIx (zs L).length (zs L).length (some ((pre.length + x.flat.length : Nat) : Int)) = pre.length + x.flat.length := by
    rw [HT.sIx_nat]
    have : pre.length + x.flat.length ≤ (zs L).length := by
      unfold zs
      rw [List.length_map, h, List.length_append, List.length_append]
      omega
    omega
  unfold cutV
  rw [e1, e2, ← zs_nats]
  unfold zs
  rw [← List.map_drop, ← List.map_take]
  congr 1
  rw [h, List.append_assoc, List.drop_append, List.drop_eq_nil_of_le (by omega), List.nil_append, show pre.length + 1 - pre.length = 1 by omega, flat_len]
  unfold Chunk.flat
  rw [List.cons_append, List.drop_succ_cons, List.drop_zero, List.take_append_of_le_length (by rw [List.length_map]; omega), List.take_of_length_le (by rw [List.length_map]; omega)]
theorem ok_answers {f C : Addr} {fd : FuncData} (F : Fun K "answers" "answers" sAnswers f fd) (TB : TxtB mg) {n : Nat} (cD : CDef P w K mg base C) (dE : Def P w K mg base 1 "end_of_call" ["calls", "at"] (spEnd K)) (dA : Def P w K mg base (n + 2) "answer" ["ground", "number", "given"] (spAnswer C)) : FnOk P w K mg base CX0 (n + 3) f fd ["calls"] (spAnswers K) := by
  refine F.ok scAnswers (fun vs H Q E h => ?_) (fun cdv A outer s H vs Q E hr h => ?_)
  · obtain ⟨cl, cs, rfl, _⟩ := h
    rfl
  · obtain ⟨cl, cs, rfl, hS, h56, hok, h10, k⟩ := h
    obtain ⟨fI, fdI, M, FI, hmC, bI⟩ := cD.ex
    refine ⟨_, pss_cons (ps_set (i := 1) scAnswers.nd rfl (Or.inl rfl) (pe_make0 M FI (hr.mono (by omega)) rfl hmC bI .nil pass0))
      (pss_cons (ps_set (i := 2) scAnswers.nd rfl (Or.inl rfl) (pe_lst pa_nil))
      (pss_cons (ps_set (i := 3) scAnswers.nd rfl (Or.inl rfl) pe_int)
      (pss_cons (ps_while PassesOwn.never (pt_cmpR op_lt (pv 3) (pe_len rfl TB.len (pa_cons (pv 0) pa_nil)) (nomark _))
        (pss_cons (ps_set (i := 4) scAnswers.nd rfl (Or.inl rfl) (pe_def dE hr (by omega) rfl (pa_cons (pv 0) (pa_cons (pv 3) pa_nil))))
        (pss_cons (ps_set (i := 5) scAnswers.nd rfl (Or.inl rfl) (pe_def dA hr (Nat.le_refl _) rfl (pa_cons (pv 1) (pa_cons (pe_ix ix_list (pv 0) (pv 3) (fun _ _ => rfl)) (pa_cons (pe_slice sl_list (pv 0) (po_some (pe_op op_add (pv 3) pe_int)) (po_some (pv 4))) pa_nil)))))
        (pss_cons (ps_expr (pe_bm PySem.F.plainAttrs_list PySem.F.slot_list_append PySem.F.type_list_append mt_append (pv 2) (pa_cons (pe_len rfl TB.len (pa_cons (pv 5) pa_nil)) pa_nil)))
        (pss_cons (ps_expr (pe_bm PySem.F.plainAttrs_list PySem.F.slot_list_extend PySem.F.type_list_extend mt_extend (pv 2) (pa_cons (pv 5) pa_nil)))
        (pss_one (ps_set (i := 3) scAnswers.nd rfl (Or.inl rfl) (pv 4))))))))
      (pss_one (ps_ret (pv 2)))))), ?_⟩
    intro g dx hg hdx hne
    refine ⟨g, dx, rfl, upd_same, fun H1 j l hj hl B G => ⟨rfl, ?_⟩⟩
    have hjg : H j = none ∧ j ≠ g := by
      have h1 : j ≠ g := fun z => by rw [z, upd_same] at hj; cases hj
      rw [upd_ne h1] at hj
      have h2 : j ≠ dx := fun z => by rw [z, upd_same] at hj; cases hj
      rw [upd_ne h2] at hj
      exact ⟨hj, h1⟩
    have hlg : H l = none ∧ l ≠ g := by
      have h1 : l ≠ g := fun z => by rw [z, upd_same] at hl; cases hl
      rw [upd_ne h1] at hl
      have h2 : l ≠ dx := fun z => by rw [z, upd_same] at hl; cases hl
      rw [upd_ne h2] at hl
      exact ⟨hl, h1⟩
    have S1 : Same H H1 := Same.made hg hdx B
    refine ⟨Nat.zero_le _, fun sd hsd => ?_⟩
    obtain ⟨dxg, hg1⟩ := G.ins
    obtain ⟨ts, hts, hpt⟩ := G.js
    refine ⟨fun m σ H' => ∃ (done rest : List Chunk) (st : Option Abs) (j l : Addr) (told : List Int) (v4 v5 : Option V), m = rest.length ∧ cs = done ++ rest ∧ σ = [some (.ref cl), some (.ref g), some (.ref sd), some (nat (flats done).length), v4, v5] ∧ Same H H' ∧ H g = none ∧ H j = none ∧ H l = none ∧ H sd = none ∧
      StAt C H' g j l st ∧ sd ≠ g ∧ sd ≠ j ∧ sd ≠ l ∧ H' sd = some (.lst (zs told)) ∧ runs none cs = told ++ runs st rest,
      ⟨cs.length, [], cs, none, j, l, [], _, _, rfl, rfl, rfl, Same.upd S1 (S1.free hsd), hg, hjg.1, hlg.1, S1.free hsd, ⟨G.same (Same.upd (Same.refl H1) hsd), fun a h => by cases h⟩, fun z => (by rw [z, hg1] at hsd; cases hsd), fun z => (by rw [z, hts] at hsd; cases hsd), fun z => (by rw [z, G.lit] at hsd; cases hsd), upd_same, rfl⟩, ?_⟩
    rintro m σ H' ⟨done, rest, st, j, l, told, v4, v5, rfl, hcs, rfl, S, hg0, hj0, hl0, hsd0, G', n1, n2, n3, hsd', hrun⟩
    have hS' := S.seq hS
    refine ⟨_, rfl, _, rfl, cl, _, rfl, .inl hS', _, _, rfl, rfl, _, rfl, ?_⟩
    cases rest with
    | nil =>
      rw [List.append_nil] at hcs
      have e : decide (((flats done).length : Int) < (((zs (flats cs)).length : Nat) : Int)) = false := by
        unfold zs
        rw [List.length_map, hcs]
        exact decide_eq_false (by omega)
      rw [e]
      refine iteF ⟨_, rfl, k sd H' ?_⟩
      rw [hsd', hrun] <;> (show some (HO.lst (zs told)) = some (HO.lst (zs (told ++ []))); rw [List.append_nil])
    | cons x rest =>
      have hx := hok x (by rw [hcs]; simp)
      have hL : flats cs = flats done ++ x.flat ++ flats rest := by rw [hcs]; exact flats_split _ _ _
      have hfl := flat_len x
      have e : decide (((flats done).length : Int) < (((zs (flats cs)).length : Nat) : Int)) = true := by
        unfold zs
        rw [List.length_map, hL, List.length_append, List.length_append]
        exact decide_eq_true (by omega)
      rw [e]
      refine iteT ⟨fun σ' H'' => ∃ (st : Option Abs) (j l : Addr) (told : List Int) (v4 v5 : Option V), σ' = [some (.ref cl), some (.ref g), some (.ref sd), some (nat (flats (done ++ [x])).length), v4, v5] ∧ Same H H'' ∧ H j = none ∧ H l = none ∧ StAt C H'' g j l st ∧ sd ≠ j ∧ sd ≠ l ∧ H'' sd = some (.lst (zs told)) ∧ runs none cs = told ++ runs st rest, ?_, ?_⟩
      · rintro σ' H'' ⟨st', j', l', told', w4, w5, rfl, S'', hj'', hl'', G'', n2', n3', hsd'', hrun''⟩
        exact ⟨rest.length, by show rest.length < rest.length + 1; omega, done ++ [x], rest, st', j', l', told', w4, w5, rfl, by rw [hcs]; simp, rfl, S'', hg0, hj'', hl'', hsd0, G'', n1, n2', n3', hsd'', hrun''⟩
      · have h0 : (flats cs)[(flats done).length]? = some (x.k : Int) := by
          have := chunk_at hL 0 (by omega)
          rw [Nat.add_zero] at this
          rw [this] <;> rfl
        refine ⟨_, rfl, _, rfl, cl, flats cs, flats done, flats rest, x, rfl, hS', hL, hx, h56, ?_⟩
        refine ⟨_, rfl, _, rfl, _, rfl, cl, _, _, _, rfl, rfl, hS', atI_nat (zs_at h0), _, rfl, _, rfl, _, _, rfl, rfl, _, rfl, _, rfl, _, rfl, cl, _, rfl, hS', fun v hv => ?_⟩
        have Sv := Same.upd (o := .lst (cutV (zs (flats cs)) (some (((flats done).length : Int) + 1)) (some (((flats done).length + x.flat.length : Nat) : Int)))) (Same.refl H') hv
        obtain ⟨dxg', hg'⟩ := G'.1.ins
        obtain ⟨ts', hts', _⟩ := G'.1.js
        refine ⟨g, v, j, l, st, x.k, x.given, x.c, rfl, ⟨G'.1.same Sv, G'.2⟩, by rw [upd_same, cut_chunk hL], ?_, ?_, hx.call, hx.k, hx.few, fun p H2 j2 l2 hp B2 hj2 hl2 G2 hp2 => ?_⟩
        · exact fun z => by rw [z, hts'] at hv; cases hv
        · exact fun z => by rw [z, G'.1.lit] at hv; cases hv
        have hpv := Sv.free hp
        have hsdp : sd ≠ p := fun z => by rw [← z, hsd'] at hpv; cases hpv
        have hsd2 : H2 sd = some (.lst (zs told)) := B2 sd _ (Sv _ _ hsd') n1 n2 n3
        have S2 : Same H H2 := fun b o e => B2 b o (Sv _ _ (S _ _ e)) (ne_of_none e hg0) (ne_of_none e hj0) (ne_of_none e hl0)
        have hrun2 : runs none cs = told ++ (((ansOf (Su120.step st x.c).2).length : Nat) : Int) :: (ansOf (Su120.step st x.c).2 ++ runs (Su120.step st x.c).1 rest) := hrun
        have hlen2 : told.length + 1 + (ansOf (Su120.step st x.c).2).length ≤ 10000000 := by
          rw [hrun2, List.length_append, List.length_cons, List.length_append] at h10
          omega
        have hline := sizeLine_eq
        refine ⟨_, rfl, .inl ⟨rfl, _, SqL.of hsd2⟩, _, rfl, p, _, rfl, .inl (SqL.of hp2), sd, _, _, rfl, rfl, hsd2, by unfold zs; rw [List.length_map]; omega, ?_⟩
        refine ⟨_, rfl, .inl ⟨rfl, _, SqL.of upd_same⟩, _, rfl, sd, p, _, _, rfl, rfl, upd_same, by rw [upd_ne (Ne.symm hsdp)]; exact hp2, ?_, ?_⟩
        · unfold zs
          rw [List.length_append, List.length_map, List.length_map]
          show told.length + 1 + _ ≤ _
          omega
        · rw [upd_upd]
          obtain ⟨⟨dx2, hg2⟩, hjl2, hjs2, hlit2⟩ := G2.1
          obtain ⟨ts2, hts2, hpt2⟩ := hjs2
          have n2' : sd ≠ j2 := by
            rcases hj2 with z | z
            · rw [z]; exact n2
            · exact fun e => by rw [← e, Sv _ _ hsd'] at z; cases z
          have n3' : sd ≠ l2 := by
            rcases hl2 with z | z
            · rw [z]; exact n3
            · exact fun e => by rw [← e, Sv _ _ hsd'] at z; cases z
          have hj2H : H j2 = none := by
            rcases hj2 with z | z
            · rw [z]; exact hj0
            · exact S.free (Sv.free z)
          have hl2H : H l2 = none := by
            rcases hl2 with z | z
            · rw [z]; exact hl0
            · exact S.free (Sv.free z)
          have eT : zs told ++ [V.int (((zs (ansOf (Su120.step st x.c).2)).length : Nat) : Int)] ++ zs (ansOf (Su120.step st x.c).2) = zs (told ++ (((ansOf (Su120.step st x.c).2).length : Nat) : Int) :: ansOf (Su120.step st x.c).2) := by
            unfold zs
            rw [List.length_map, List.map_append, List.map_cons, List.append_assoc] <;> rfl
          refine ⟨_, rfl, (Su120.step st x.c).1, j2, l2, _, some (nat ((flats done).length + x.flat.length)), some (.ref p), ?_, Same.upd S2 hsd0, hj2H, hl2H, ⟨⟨⟨dx2, by rw [upd_ne (Ne.symm n1)]; exact hg2⟩, hjl2, ⟨ts2, by rw [upd_ne (Ne.symm n2')]; exact hts2, hpt2.tups fun b xs e => by rw [upd_ne (ne_of e hsd2 (by intro z; cases z))]; exact e⟩, by rw [upd_ne (Ne.symm n3')]; exact hlit2⟩, G2.2⟩, n2', n3', by rw [upd_same, eT], ?_⟩
          · rw [flats_snoc, List.length_append] <;> rfl
          · rw [hrun2, List.append_assoc, List.cons_append]
end
end LF

end

section
set_option Elab.async false
set_option linter.all false
set_option maxRecDepth 100000
set_option maxHeartbeats 2000000
namespace LF
open PySem PySem.Spec PyProof.Rows L2
/-! ### a dict of the module, its keys ints, its values defs -/
def KDict (P : Program) (w : World) (K : PySem.W.Frag) (d : Addr) (kvs : List (Key × V)) : Prop := (d == sysModules) = false ∧ ∀ h : Heap, K.In h → ∃ vs, KV kvs vs ∧ h.DictOf (mixKind P w) d vs
inductive EntsK : List DictEntry → List (Int × Addr) → Prop
  | nil : EntsK [] []
  | cons {h k : Int} {t : Tok} {f : Addr} {es : List DictEntry} {l : List (Int × Addr)} : h = hashInt k → EntsK es l → EntsK (⟨h, .int k t, .ref f⟩ :: es) ((k, f) :: l)
def tabK (l : List (Int × Addr)) : List (Key × V) := l.map fun x => (Sum.inl x.1, .ref x.2)
def tabR (l : List (Int × Addr)) : List (Key × Value) := l.map fun x => (Sum.inl x.1, .ref x.2)
theorem entsK_pairs {P : Program} {w : World} : ∀ {es : List DictEntry} {l : List (Int × Addr)}, EntsK es l → PySem.Pairs (mixKind P w) es (tabR l)
  | _, _, .nil => .nil
  | _, _, @EntsK.cons _ k t _ _ _ _ r => .cons (keyIs_int k t) rfl (entsK_pairs r)
theorem entsK_keys {P : Program} {w : World} : ∀ {es : List DictEntry} {l : List (Int × Addr)}, EntsK es l → ∀ e ∈ es, ∃ k, (mixKind P w).is k e.key = true ∧ e.hash = (mixKind P w).hash k
  | _, _, .nil, e, he => by cases he
  | _, _, @EntsK.cons _ k t _ _ _ h r, e, he => by
    rcases List.mem_cons.mp he with rfl | he
    · exact ⟨Sum.inl k, keyIs_int k t, h⟩
    · exact entsK_keys r e he
theorem tab_kv : ∀ l : List (Int × Addr), KV (tabK l) (tabR l)
  | [] => .nil
  | x :: l => .cons ⟨rfl, rfl⟩ (tab_kv l)
theorem kdict_of {P : Program} {w : World} {K : PySem.W.Frag} {d : Addr} {es : Array DictEntry} {ep : Nat} {l : List (Int × Addr)} (hl : K.lookup d = some ⟨.type "dict", none, .dict es ep, #[]⟩) (he : EntsK es.toList l) (hn : (l.map (·.1)).Nodup) (hd : (d == sysModules) = false) : KDict P w K d (tabK l) := by
  refine ⟨hd, fun h hK => ⟨tabR l, tab_kv l, _, es, ep, hK _ _ hl, ⟨rfl, rfl, rfl⟩, rfl, fun e hm => entsK_keys he e (by simpa using hm), entsK_pairs he, ?_⟩⟩
  have e : (tabR l).map (·.1) = (l.map (·.1)).map (Sum.inl : Int → Key) := by
    unfold tabR
    rw [List.map_map, List.map_map] <;> rfl
  rw [e]
  rw [List.nodup_iff_pairwise_ne, List.pairwise_map]
  exact (List.nodup_iff_pairwise_ne.mp hn).imp fun {a b} hne z => hne (Sum.inl.inj z)
section
variable {X : Cx} {o i : Expr} {td ty : TE} {pos : Pos}
def tKGet (X : Cx) (td ty : TE) : TE := fun σ H Q => td σ H fun x H1 => ty σ H1 fun y H2 => ∃ d kvs k v, x = .ref d ∧ KDict X.prog X.w X.K d kvs ∧ y = kV k ∧ valV kvs k = some v ∧ Q v H2
def tKNotIn (X : Cx) (ty td : TE) : TE := fun σ H Q => ty σ H fun y H1 => td σ H1 fun x H2 => ∃ d kvs k, x = .ref d ∧ KDict X.prog X.w X.K d kvs ∧ y = kV k ∧ Q (.bl (!(valV kvs k).isSome)) H2
theorem pe_kget (ho : PE X o td) (hi : PE X i ty) (hs : NoSl i) : PE X (.Subscript o i pos) (tKGet X td ty) := by
  intro pins s σ H Q I h
  refine subD_of PySem.F.slot_dict_getitem.lookup hs (thn (ho pins s σ H _ I h) fun u s1 ⟨x, H1, I1, rx, q1⟩ => thn (hi pins s1 σ H1 _ I1 q1) fun iv s2 ⟨y, H2, I2, ry, d, kvs, k, v, ex, kd, ey, hv, q2⟩ => ?_)
  subst ex ey
  obtain rfl : u = Value.ref d := rx
  obtain ⟨hd, hK⟩ := kd
  obtain ⟨vs, rel, dd⟩ := hK _ I2.kIn
  obtain ⟨w', hw, rw'⟩ := RelO.some_of (v := v) (o := valueAt vs k) (by rw [← hv]; exact rel.val k)
  exact ⟨dd.typeIs, wpAny_getItem_of (kV_is ry) dd.mapOf hw ⟨v, H2, I2.tok _, rw', q2⟩⟩
theorem pc_knotin (hi : PE X i ty) (ho : PE X o td) : PC X .NotIn i o (tKNotIn X ty td) := by
  intro pins s σ H Q I h
  refine thn (hi pins s σ H _ I h) fun iv s1 ⟨y, H1, I1, ry, q1⟩ => thn (ho pins s1 σ H1 _ I1 q1) fun u s2 ⟨x, H2, I2, rx, d, kvs, k, ex, kd, ey, q2⟩ => ?_
  subst ex ey
  obtain rfl : u = Value.ref d := rx
  obtain ⟨hd, hK⟩ := kd
  obtain ⟨vs, rel, dd⟩ := hK _ I2.kIn
  refine wpAny_notIn_of (kV_is ry) hd dd.mapOf ?_
  rw [← (rel.val k).isSome_eq]
  exact ⟨.bl _, H2, I2.tok _, rfl, q2⟩
/-- f(e, ..), f a local name that holds a def of the module -/
def tCallV (X : Cx) (m i : Nat) (ps : List Str) (t : TA) : TE := fun σ H Q => ∃ f fd sp, σ[i]? = some (some (.ref f)) ∧ FnOk X.prog X.w X.K X.mg X.base CX0 m f fd ps sp ∧ PySem.W.keepIn X.K (.ref f) = true ∧ Binds X.K fd ps [] ∧ t σ H fun vs H1 => sp (vs ++ []) H1 Q E0
theorem pe_callV {m j : Nat} {x : Str} {ps : List Str} {p : Pos} {e : Expr} {es : List Expr} {t : TA} (hr : Room m X.A) (hN : X.N[j]? = some x) (hv : Vis X.env.scope x) (ha : PA X (e :: es) t)
    (hd : (x == ("__debug__" : Str)) = false := by decide) (hcd : (x == ("__classdict__" : Str)) = false := by decide) (he : starEach (e :: es) X.env = (false, eval e X.env) :: starEach es X.env := by rfl) (hpl : (backTo pos (starEach es X.env)).any (·.1) = false := by rfl) :
    PE X (.Call (.Name x p) (e :: es) [] pos) (tCallV X m j ps t) := by
  intro pins s σ H Q I h
  obtain ⟨f, fd, sp, hσ, F, hk, hb, h⟩ := h
  refine wpAny_Call_Name_kw (thn (pe_var hN hv hd hcd pins s σ H (fun v H1 => v = .ref f ∧ H1 = H) I ⟨_, hσ, rfl, rfl⟩) fun u s1 ⟨v, H1, I1, rv, ev, eH⟩ => ?_)
  subst ev eH
  obtain rfl : u = Value.ref f := rv
  refine PySem.W.callWith_K (h₀ := X.base) I.ok.mod.kin hk (thn (ha pos pins s1 σ H1 _ I1 h) fun us s2 ⟨vs, H2, I2, r, q⟩ => ⟨I2.kIn, ?_⟩) he hpl
  exact run_fn F hr hb .nil pass0 I2 r q
end
end LF

end

section
set_option Elab.async false
set_option linter.all false
set_option maxRecDepth 100000
set_option maxHeartbeats 2000000
namespace LF
open PySem PySem.Spec PyProof.Rows L2
/-! ### the module's defs, as they stand behind the top -/
def HasFn (K : PySem.W.Frag) (mg : Str → Option Value) (x : Str) (st : Stmt) : Prop := ∃ (f : Addr) (fd : FuncData), Fun K x x st f fd ∧ mg x = some (.ref f)
theorem fn_mk {K : PySem.W.Frag} {h : Heap} {mg : Str → Option Value} {x : Str} {st : Stmt} {f : Addr} {oc : Value} {od an : Option Addr} {osl : Array (Option Value)} {kV doc pm cdv ct : Value} (X : K.In h) (G : h.Ns mainGlobals mg)
    (a : PySem.W.nsIn K mainGlobals x = some (some (.ref f))) (l : K.lookup f = some ⟨oc, od, .func (PySem.W.fnOf x x (defArgs st) (defBody st) (defScope st) .none kV doc pm an cdv ct), osl⟩) (c : PySem.W.codeIn K cdv x = true) (k : PySem.W.keepIn K (.ref f) = true) : HasFn K mg x st :=
  ⟨f, _, fun_mk (st := st) l c k, PySem.W.mg_of X G a⟩
theorem def_of {P : Program} {w : World} {K : PySem.W.Frag} {mg : Str → Option Value} {base : Heap} {k : Nat} {x : Str} {ps : List Str} {sp : Sp} {st : Stmt} (h : HasFn K mg x st) (ok : ∀ f fd, Fun K x x st f fd → FnOk P w K mg base CX0 k f fd ps sp)
    (hb : ∀ (kV doc pm : Value) (an : Option Addr) (cdv ct : Value) (us : List Value), us.length = ps.length → bindArgs (PySem.W.fnOf x x (defArgs st) (defBody st) (defScope st) .none kV doc pm an cdv ct) ⟨us, []⟩ = pure (ps.zip us)) : Def P w K mg base k x ps sp := by
  obtain ⟨f, fd, F, hm⟩ := h
  exact ⟨f, fd, ok f fd F, hm, F.kp, F.binds hb⟩
def HasMeth (K : PySem.W.Frag) (C : Addr) (m qual : Str) (st : Stmt) : Prop := ∃ (f : Addr) (fd : FuncData), Fun K m qual st f fd ∧ Meth K C m f
theorem meth_mk {K : PySem.W.Frag} {C : Addr} {m qual : Str} {st : Stmt} {f : Addr} {oc : Value} {od an : Option Addr} {osl : Array (Option Value)} {kV doc pm cdv ct : Value}
    (a : PySem.W.findIn K (.ref C) m = some (some (.ref f))) (i : PySem.W.isFn K (.ref f) = true) (l : K.lookup f = some ⟨oc, od, .func (PySem.W.fnOf m qual (defArgs st) (defBody st) (defScope st) .none kV doc pm an cdv ct), osl⟩) (c : PySem.W.codeIn K cdv qual = true) (k : PySem.W.keepIn K (.ref f) = true) : HasMeth K C m qual st :=
  ⟨f, _, fun_mk (st := st) l c k, ⟨a, i, k⟩⟩
theorem mdef_of {P : Program} {w : World} {K : PySem.W.Frag} {mg : Str → Option Value} {base : Heap} {k : Nat} {C : Addr} {m qual : Str} {ps : List Str} {sp : Sp} {st : Stmt} (h : HasMeth K C m qual st) (ok : ∀ f fd, Fun K m qual st f fd → FnOk P w K mg base CX0 k f fd ps sp)
    (hb : ∀ (kV doc pm : Value) (an : Option Addr) (cdv ct : Value) (us : List Value), us.length = ps.length → bindArgs (PySem.W.fnOf m qual (defArgs st) (defBody st) (defScope st) .none kV doc pm an cdv ct) ⟨us, []⟩ = pure (ps.zip us)) : MDef P w K mg base k C m ps sp := by
  obtain ⟨f, fd, F, hm⟩ := h
  exact ⟨f, fd, ok f fd F, hm, F.binds hb⟩
/-- what the head shows of the text -/
structure Txt (K : PySem.W.Frag) (mg : Str → Option Value) (C : Addr) : Prop where
  g : TxtG K C
  c : TxtC mg
  k : TxtK mg
  row : KI mg "ROW" 11
  nbt : NbAt K mg
  mgC : mg "Ground" = some (.ref C)
  init : ∃ (f : Addr) (fd : FuncData), Mk K C f ∧ Fun K "__init__" "Ground.__init__" sInit f fd
  lay : HasMeth K C "lay" "Ground.lay" sLay
  h_everything : HasFn K mg "everything" sEvery
  h_places_of : HasFn K mg "places_of" sPlaces
  h_near_places : HasFn K mg "near_places" sNear
  h_spread : HasFn K mg "spread" sSpread
  h_all_spreads : HasFn K mg "all_spreads" sAllSp
  h_burnt_by : HasFn K mg "burnt_by" sBurnt
  h_one_longer : HasFn K mg "one_longer" sLonger
  h_shortest_row : HasFn K mg "shortest_row" sShort
  h_fewest_turns : HasFn K mg "fewest_turns" sFewest
  h_first_row_of : HasFn K mg "first_row_of" sFirst
  h_reached : HasFn K mg "reached" sReached
  h_distance : HasFn K mg "distance" sDist
  h_part_sizes : HasFn K mg "part_sizes" sSizes
  h_choices : HasFn K mg "choices" sChoices
  h_how_many_parts : HasFn K mg "how_many_parts" sHow
  h_first_tree : HasFn K mg "first_tree" sTree1
  h_is_missing : HasFn K mg "is_missing" sMiss
  h_near : HasFn K mg "near" sNearG
  h_burnt_now : HasFn K mg "burnt_now" sNow
  h_turns_now : HasFn K mg "turns_now" sTurnsNow
  h_counted : HasFn K mg "counted" sCounted
  h_pair_of : HasFn K mg "pair_of" sPairOf
  h_in_a_row : HasFn K mg "in_a_row" sInRow
  h_joins_of_a_line : HasFn K mg "joins_of_a_line" sRowJ
  h_joining_refused : HasFn K mg "joining_refused" sJoinR
  h_parting_refused : HasFn K mg "parting_refused" sPartR
  h_begin : HasFn K mg "begin" sBegin
  h_line : HasFn K mg "line" sLine
  h_ring : HasFn K mg "ring" sRing
  h_join : HasFn K mg "join" sJoin
  h_part : HasFn K mg "part" sPart
  h_light : HasFn K mg "light" sLight
  h_out : HasFn K mg "out" sOut
  h_burns : HasFn K mg "burns" sBurns
  h_left : HasFn K mg "left" sLeft
  h_turns : HasFn K mg "turns" sTurns
  h_best : HasFn K mg "best" sBestC
  h_row : HasFn K mg "row" sRow
  h_can : HasFn K mg "can" sCan
  h_within : HasFn K mg "within" sWithin
  h_with_join : HasFn K mg "with_join" sWith
  h_without_join : HasFn K mg "without_join" sWithout
  h_far : HasFn K mg "far" sFar
  h_root : HasFn K mg "root" sRoot
  h_finish : HasFn K mg "finish" sFinish
  h_parts : HasFn K mg "parts" sParts
  h_tree : HasFn K mg "tree" sTree
  h_state : HasFn K mg "state" sState
  h_end_of_call : HasFn K mg "end_of_call" sEnd
  h_answers : HasFn K mg "answers" sAnswers
section
variable {P : Program} {w : World} {K : PySem.W.Frag} {mg : Str → Option Value} {base : Heap} {C : Addr}
theorem Txt.d (T : Txt K mg C) : TxtD mg := ⟨T.c, T.k.min⟩
theorem dEvery (T : Txt K mg C) : Def P w K mg base 1 "everything" ["size"] spEvery := def_of T.h_everything (fun f fd F => ok_every F) (fun _ _ _ _ _ _ us hl => match us, hl with | [_], _ => rfl)
theorem dPlaces (T : Txt K mg C) : Def P w K mg base 1 "places_of" ["burnt", "size"] spPlaces := def_of T.h_places_of (fun f fd F => ok_places F T.c.toTxtB) (fun _ _ _ _ _ _ us hl => match us, hl with | [_, _], _ => rfl)
theorem dNear (T : Txt K mg C) : Def P w K mg base 1 "near_places" ["size", "joins"] spNear := def_of T.h_near_places (fun f fd F => ok_near F T.c.toTxtB) (fun _ _ _ _ _ _ us hl => match us, hl with | [_, _], _ => rfl)
theorem dSpread (T : Txt K mg C) : Def P w K mg base 1 "spread" ["near", "burnt"] spSpread := def_of T.h_spread (fun f fd F => ok_spread F T.c) (fun _ _ _ _ _ _ us hl => match us, hl with | [_, _], _ => rfl)
theorem dAllSp (T : Txt K mg C) : Def P w K mg base 1 "all_spreads" ["near"] spAllSp := def_of T.h_all_spreads (fun f fd F => ok_allSp F) (fun _ _ _ _ _ _ us hl => match us, hl with | [_], _ => rfl)
theorem dBurnt (T : Txt K mg C) : Def P w K mg base 2 "burnt_by" ["near", "row"] spBurnt := def_of T.h_burnt_by (fun f fd F => ok_burnt F (dSpread T)) (fun _ _ _ _ _ _ us hl => match us, hl with | [_, _], _ => rfl)
theorem dLonger (T : Txt K mg C) : Def P w K mg base 1 "one_longer" ["size", "spreads", "rows"] spLonger := def_of T.h_one_longer (fun f fd F => ok_longer F T.c) (fun _ _ _ _ _ _ us hl => match us, hl with | [_, _, _], _ => rfl)
theorem dShort (T : Txt K mg C) : Def P w K mg base 2 "shortest_row" ["near", "burnt"] spShort := def_of T.h_shortest_row (fun f fd F => ok_short F T.c (dEvery T) (dAllSp T) (dLonger T)) (fun _ _ _ _ _ _ us hl => match us, hl with | [_, _], _ => rfl)
theorem dFewest (T : Txt K mg C) : Def P w K mg base 3 "fewest_turns" ["size", "joins"] spFewest := def_of T.h_fewest_turns (fun f fd F => ok_fewest F T.c.toTxtB (dNear T) (dShort T)) (fun _ _ _ _ _ _ us hl => match us, hl with | [_, _], _ => rfl)
theorem dFirst (T : Txt K mg C) : Def P w K mg base 2 "first_row_of" ["near", "length"] spFirst := def_of T.h_first_row_of (fun f fd F => ok_first F T.c (dEvery T) (dAllSp T) (dLonger T)) (fun _ _ _ _ _ _ us hl => match us, hl with | [_, _], _ => rfl)
theorem dReached (T : Txt K mg C) : Def P w K mg base 2 "reached" ["near", "place", "steps"] spReached := def_of T.h_reached (fun f fd F => ok_reached F T.d (dSpread T)) (fun _ _ _ _ _ _ us hl => match us, hl with | [_, _, _], _ => rfl)
theorem dDist (T : Txt K mg C) : Def P w K mg base 3 "distance" ["near", "place", "another"] spDist := def_of T.h_distance (fun f fd F => ok_dist F T.c.toTxtB (dReached T)) (fun _ _ _ _ _ _ us hl => match us, hl with | [_, _, _], _ => rfl)
theorem dSizes (T : Txt K mg C) : Def P w K mg base 3 "part_sizes" ["near"] spSizes := def_of T.h_part_sizes (fun f fd F => ok_sizes F T.c.toTxtB (dReached T) (dPlaces T)) (fun _ _ _ _ _ _ us hl => match us, hl with | [_], _ => rfl)
theorem dHow (T : Txt K mg C) : Def P w K mg base 4 "how_many_parts" ["size", "joins"] spHow := def_of T.h_how_many_parts (fun f fd F => ok_how F T.c.toTxtB (dNear T) (dSizes T)) (fun _ _ _ _ _ _ us hl => match us, hl with | [_, _], _ => rfl)
theorem dMiss (T : Txt K mg C) : Def P w K mg base 1 "is_missing" ["ground", "places"] (spMiss C) := def_of T.h_is_missing (fun f fd F => ok_miss F T.g T.k.max) (fun _ _ _ _ _ _ us hl => match us, hl with | [_, _], _ => rfl)
theorem dNearG (T : Txt K mg C) : Def P w K mg base 2 "near" ["ground"] (spNearG C) := def_of T.h_near (fun f fd F => ok_nearG F T.g (dNear T)) (fun _ _ _ _ _ _ us hl => match us, hl with | [_], _ => rfl)
theorem dNow (T : Txt K mg C) : Def P w K mg base 3 "burnt_now" ["ground"] (spNow C) := def_of T.h_burnt_now (fun f fd F => ok_now F T.g (dNearG T) (dBurnt T)) (fun _ _ _ _ _ _ us hl => match us, hl with | [_], _ => rfl)
theorem dTurnsNow (T : Txt K mg C) : Def P w K mg base 4 "turns_now" ["ground"] (spTurnsNow C) := def_of T.h_turns_now (fun f fd F => ok_turnsNow F T.g (dFewest T)) (fun _ _ _ _ _ _ us hl => match us, hl with | [_], _ => rfl)
theorem dCounted (T : Txt K mg C) : Def P w K mg base 1 "counted" ["numbers"] spCounted := def_of T.h_counted (fun f fd F => ok_counted F T.c.toTxtB) (fun _ _ _ _ _ _ us hl => match us, hl with | [_], _ => rfl)
theorem dPairOf (T : Txt K mg C) : Def P w K mg base 1 "pair_of" ["places"] spPairOf := def_of T.h_pair_of (fun f fd F => ok_pairOf F T.k) (fun _ _ _ _ _ _ us hl => match us, hl with | [_], _ => rfl)
theorem dInRow (T : Txt K mg C) : Def P w K mg base 1 "in_a_row" ["joins"] spInRow := def_of T.h_in_a_row (fun f fd F => ok_inRow F) (fun _ _ _ _ _ _ us hl => match us, hl with | [_], _ => rfl)
theorem dRowJ (T : Txt K mg C) : Def P w K mg base 1 "joins_of_a_line" ["size"] spRowJ := def_of T.h_joins_of_a_line (fun f fd F => ok_rowJ F T.c.toTxtB) (fun _ _ _ _ _ _ us hl => match us, hl with | [_], _ => rfl)
theorem dJoinR (T : Txt K mg C) : Def P w K mg base 2 "joining_refused" ["ground", "places"] (spRef C joinR) := def_of T.h_joining_refused (fun f fd F => ok_joinR F T.g T.k (dMiss T) (dPairOf T)) (fun _ _ _ _ _ _ us hl => match us, hl with | [_, _], _ => rfl)
theorem dPartR (T : Txt K mg C) : Def P w K mg base 2 "parting_refused" ["ground", "places"] (spRef C partR) := def_of T.h_parting_refused (fun f fd F => ok_partR F T.g T.k (dMiss T) (dPairOf T)) (fun _ _ _ _ _ _ us hl => match us, hl with | [_, _], _ => rfl)
theorem dChoices (T : Txt K mg C) : Def P w K mg base 9 "choices" ["joins", "count"] (spChoices 7) := by
  obtain ⟨f, fd, F, hm⟩ := T.h_choices
  exact def_choices F hm (ok_choices F T.c hm 7)
theorem dTree1 (T : Txt K mg C) : Def P w K mg base 10 "first_tree" ["size", "joins"] spTree1 := def_of T.h_first_tree (fun f fd F => ok_tree1 F (dHow T) (dFewest T) (dChoices T)) (fun _ _ _ _ _ _ us hl => match us, hl with | [_, _], _ => rfl)
theorem dLay (T : Txt K mg C) : MDef P w K mg base 1 C "lay" ["self", "size", "joins"] (spLay C) := mdef_of T.lay (fun f fd F => ok_lay F T.g) (fun _ _ _ _ _ _ us hl => match us, hl with | [_, _, _], _ => rfl)
theorem two_b {x : Str} {st : Stmt} (h : ∀ (kV doc pm : Value) (an : Option Addr) (cdv ct : Value) (a b : Value), bindArgs (PySem.W.fnOf x x (defArgs st) (defBody st) (defScope st) .none kV doc pm an cdv ct) ⟨[a, b], []⟩ = pure ((["ground", "given"] : List Str).zip [a, b])) :
    ∀ (kV doc pm : Value) (an : Option Addr) (cdv ct : Value) (us : List Value), us.length = (["ground", "given"] : List Str).length → bindArgs (PySem.W.fnOf x x (defArgs st) (defBody st) (defScope st) .none kV doc pm an cdv ct) ⟨us, []⟩ = pure ((["ground", "given"] : List Str).zip us) :=
  fun kV doc pm an cdv ct us hl => match us, hl with | [a, b], _ => h kV doc pm an cdv ct a b
theorem dBegin (T : Txt K mg C) : Def P w K mg base 2 "begin" ["ground", "given"] (spCall C (mk1 .begin_) any_) := def_of T.h_begin (fun f fd F => ok_begin F T.g T.k (dLay T)) (two_b fun _ _ _ _ _ _ _ _ => rfl)
theorem dJoin (T : Txt K mg C) : Def P w K mg base 3 "join" ["ground", "given"] (spCall C (mk2 .join) Wf) := def_of T.h_join (fun f fd F => ok_join F T.g T.c.toTxtB (dJoinR T) (dPairOf T)) (two_b fun _ _ _ _ _ _ _ _ => rfl)
theorem dPart (T : Txt K mg C) : Def P w K mg base 3 "part" ["ground", "given"] (spCall C (mk2 .part) Wf) := def_of T.h_part (fun f fd F => ok_part F T.g T.c.toTxtB (dPartR T) (dPairOf T)) (two_b fun _ _ _ _ _ _ _ _ => rfl)
theorem dLine (T : Txt K mg C) : Def P w K mg base 2 "line" ["ground", "given"] (spCall C (mk1 .line) any_) := def_of T.h_line (fun f fd F => ok_line F T.g T.c.toTxtB T.k (dLay T) (dRowJ T)) (two_b fun _ _ _ _ _ _ _ _ => rfl)
theorem dRing (T : Txt K mg C) : Def P w K mg base 2 "ring" ["ground", "given"] (spCall C (mk1 .ring) any_) := def_of T.h_ring (fun f fd F => ok_ring F T.g T.c.toTxtB T.k (dLay T) (dRowJ T)) (two_b fun _ _ _ _ _ _ _ _ => rfl)
theorem dLight (T : Txt K mg C) : Def P w K mg base 4 "light" ["ground", "given"] (spCall C (mk1 .light) Wf) := def_of T.h_light (fun f fd F => ok_light F T.g T.c.toTxtB T.k (dMiss T) (dPlaces T) (dNow T)) (two_b fun _ _ _ _ _ _ _ _ => rfl)
theorem dOut (T : Txt K mg C) : Def P w K mg base 1 "out" ["ground", "given"] (spCall C (mk0 .out) Wf) := def_of T.h_out (fun f fd F => ok_out F T.g T.c.toTxtB) (two_b fun _ _ _ _ _ _ _ _ => rfl)
theorem dBurns (T : Txt K mg C) : Def P w K mg base 4 "burns" ["ground", "given"] (spCall C (mk0 .burns) Wf) := def_of T.h_burns (fun f fd F => ok_burns F T.g (dCounted T) (dPlaces T) (dNow T)) (two_b fun _ _ _ _ _ _ _ _ => rfl)
theorem dLeft (T : Txt K mg C) : Def P w K mg base 4 "left" ["ground", "given"] (spCall C (mk0 .left) Wf) := def_of T.h_left (fun f fd F => ok_left F T.g (dEvery T) (dCounted T) (dPlaces T) (dNow T)) (two_b fun _ _ _ _ _ _ _ _ => rfl)
theorem dTurns (T : Txt K mg C) : Def P w K mg base 5 "turns" ["ground", "given"] (spCall C (mk0 .turns) Wf) := def_of T.h_turns (fun f fd F => ok_turns F (dTurnsNow T)) (two_b fun _ _ _ _ _ _ _ _ => rfl)
theorem dBestC (T : Txt K mg C) : Def P w K mg base 3 "best" ["ground", "given"] (spCall C (mk0 .best) Wf) := def_of T.h_best (fun f fd F => ok_bestC F (dCounted T) (dShort T) (dNearG T)) (two_b fun _ _ _ _ _ _ _ _ => rfl)
theorem dRow (T : Txt K mg C) : Def P w K mg base 3 "row" ["ground", "given"] (spCall C mkR Wf) := def_of T.h_row (fun f fd F => ok_row F T.g T.c.toTxtB T.k (dMiss T) (dPlaces T) (dBurnt T) (dNearG T)) (two_b fun _ _ _ _ _ _ _ _ => rfl)
theorem dCan (T : Txt K mg C) : Def P w K mg base 3 "can" ["ground", "given"] (spCall C (mk1 .can) Wf) := def_of T.h_can (fun f fd F => ok_can F T.k (dCounted T) (dFirst T) (dNearG T)) (two_b fun _ _ _ _ _ _ _ _ => rfl)
theorem dWithin (T : Txt K mg C) : Def P w K mg base 3 "within" ["ground", "given"] (spCall C (mk2 .within) Wf) := def_of T.h_within (fun f fd F => ok_within F T.g T.k (dMiss T) (dCounted T) (dPlaces T) (dReached T) (dNearG T)) (two_b fun _ _ _ _ _ _ _ _ => rfl)
theorem dWith (T : Txt K mg C) : Def P w K mg base 5 "with_join" ["ground", "given"] (spCall C (mk2 .with_) Wf) := def_of T.h_with_join (fun f fd F => ok_with F T.g (dJoinR T) (dPairOf T) (dFewest T) (dTurnsNow T)) (two_b fun _ _ _ _ _ _ _ _ => rfl)
theorem dWithout (T : Txt K mg C) : Def P w K mg base 5 "without_join" ["ground", "given"] (spCall C (mk2 .without) Wf) := def_of T.h_without_join (fun f fd F => ok_without F T.g (dPartR T) (dPairOf T) (dFewest T) (dTurnsNow T)) (two_b fun _ _ _ _ _ _ _ _ => rfl)
theorem dFar (T : Txt K mg C) : Def P w K mg base 4 "far" ["ground", "given"] (spCall C (mk2 .far) Wf) := def_of T.h_far (fun f fd F => ok_far F T.k (dMiss T) (dDist T) (dNearG T)) (two_b fun _ _ _ _ _ _ _ _ => rfl)
theorem dRoot (T : Txt K mg C) : Def P w K mg base 1 "root" ["ground", "given"] (spCall C (mk1 .root) Wf) := def_of T.h_root (fun f fd F => ok_root F T.k) (two_b fun _ _ _ _ _ _ _ _ => rfl)
theorem dFinish (T : Txt K mg C) : Def P w K mg base 4 "finish" ["ground", "given"] (spCall C (mk0 .finish) Wf) := def_of T.h_finish (fun f fd F => ok_finish F T.g T.c.toTxtB (dShort T) (dNearG T) (dNow T)) (two_b fun _ _ _ _ _ _ _ _ => rfl)
theorem dParts (T : Txt K mg C) : Def P w K mg base 4 "parts" ["ground", "given"] (spCall C (mk0 .parts) Wf) := def_of T.h_parts (fun f fd F => ok_parts F (dCounted T) (dSizes T) (dNearG T)) (two_b fun _ _ _ _ _ _ _ _ => rfl)
theorem dTree (T : Txt K mg C) : Def P w K mg base 11 "tree" ["ground", "given"] (spCall C (mk0 .tree) Wf) := def_of T.h_tree (fun f fd F => ok_tree F T.g T.c.toTxtB T.k (dTree1 T) (dInRow T)) (two_b fun _ _ _ _ _ _ _ _ => rfl)
theorem dState (T : Txt K mg C) : Def P w K mg base 2 "state" ["ground", "given"] (spCall C (mk0 .state) Wf) := def_of T.h_state (fun f fd F => ok_state F T.g T.c.toTxtB (dInRow T)) (two_b fun _ _ _ _ _ _ _ _ => rfl)
theorem cGround (T : Txt K mg C) : CDef P w K mg base C := by
  obtain ⟨f, fd, M, F⟩ := T.init
  exact ⟨f, fd, M, ok_init F T.g, T.mgC, F.binds fun _ _ _ _ _ _ us hl => match us, hl with | [_], _ => rfl⟩
theorem init_mk {f : Addr} {oc : Value} {od an : Option Addr} {osl : Array (Option Value)} {kV doc pm cdv ct : Value} (mk : PySem.W.makesIn K C = true) (a : PySem.W.findIn K (.ref C) "__init__" = some (some (.ref f))) (i : PySem.W.isFn K (.ref f) = true) (kc : PySem.W.keepIn K (.ref C) = true)
    (l : K.lookup f = some ⟨oc, od, .func (PySem.W.fnOf "__init__" "Ground.__init__" (defArgs sInit) (defBody sInit) (defScope sInit) .none kV doc pm an cdv ct), osl⟩) (c : PySem.W.codeIn K cdv "Ground.__init__" = true) (k : PySem.W.keepIn K (.ref f) = true) : ∃ (f : Addr) (fd : FuncData), Mk K C f ∧ Fun K "__init__" "Ground.__init__" sInit f fd :=
  ⟨f, _, ⟨mk, a, i, kc⟩, fun_mk (st := sInit) l c k⟩
theorem dEnd (T : Txt K mg C) : Def P w K mg base 1 "end_of_call" ["calls", "at"] (spEnd K) := def_of T.h_end_of_call (fun f fd F => ok_end F T.nbt T.row) (fun _ _ _ _ _ _ us hl => match us, hl with | [_, _], _ => rfl)
end
end LF

end

section
set_option Elab.async false
set_option linter.all false
set_option maxRecDepth 100000
set_option maxHeartbeats 2000000
namespace LF
open PySem PySem.Spec PyProof.Rows L2
theorem cls_mk {K : PySem.W.Frag} {h : Heap} {mg : Str → Option Value} {C : Addr} {R : Prop} (X : K.In h) (G : h.Ns mainGlobals mg) (aC : PySem.W.nsIn K mainGlobals "Ground" = some (some (.ref C))) (k : mg "Ground" = some (.ref C) → R) : R := k (PySem.W.mg_of X G aC)
theorem ki_mk {K : PySem.W.Frag} {h : Heap} {mg : Str → Option Value} {x : Str} {i : Int} {t : Tok} (X : K.In h) (G : h.Ns mainGlobals mg) (a : PySem.W.nsIn K mainGlobals x = some (some (.int i t))) : KI mg x i := ⟨t, PySem.W.mg_of X G a⟩
theorem txtG_mk {K : PySem.W.Frag} {C : Addr} (pg : PySem.W.plainGet K C Str.empty = true) (hd : PySem.W.hasDictIn K C = true) (po : PySem.W.plainOver K C = true) (sa : PySem.W.findIn K (.ref C) "__setattr__" = some (some (.builtin "object.__setattr__")))
    (nS : PySem.W.findIn K (.ref C) "size" = some none) (nJ : PySem.W.findIn K (.ref C) "joins" = some none) (nL : PySem.W.findIn K (.ref C) "lit" = some none) : TxtG K C := ⟨⟨pg, hd, po, sa⟩, nS, nJ, nL⟩
theorem nb_mk {K : PySem.W.Frag} {h : Heap} {mg : Str → Option Value} {d : Addr} {oc : Value} {od : Option Addr} {es : Array Value} {ep : Nat} {sl : Array (Option Value)} (X : K.In h) (G : h.Ns mainGlobals mg) (a : PySem.W.nsIn K mainGlobals "NUMBERS_BEHIND" = some (some (.ref d)))
    (l : K.lookup d = some ⟨oc, od, .seq es ep, sl⟩) (hc : oc = .type "tuple") (hz : es.size = 22) (hv : Vals (nats nb) es.toList) : NbAt K mg := by
  refine ⟨d, PySem.W.mg_of X G a, fun H => .inr ⟨_, es, ep, l, hc, rfl, ?_, hv⟩⟩
  rw [hz, sizeLine_eq]; decide
theorem whole_of {P : Program} {w : World} {K : PySem.W.Frag} {mg : Str → Option Value} {C fa : Addr} {n : Nat} (T : Txt K mg C) (hfa : mg "answers" = some (.ref fa)) (dA : ∀ base : Heap, Def P w K mg base (n + 2) "answer" ["ground", "number", "given"] (spAnswer C)) :
    ∃ fd : FuncData, (∀ (s : Shared) (us : List Value), us.length = (["calls"] : List Str).length → BindsTo s fd ⟨us, []⟩ ((["calls"] : List Str).zip us)) ∧ ∀ base : Heap, K.In base → base.Ns mainGlobals mg → FnOk P w K mg base CX0 (n + 3) fa fd ["calls"] (spAnswers K) := by
  obtain ⟨f, fd, F, hm⟩ := T.h_answers
  have e := hm.symm.trans hfa
  cases e
  refine ⟨fd, ?_, fun base _ _ => ok_answers F T.c.toTxtB (cGround T) (dEnd T) (dA base)⟩
  obtain ⟨oc, od, kV, doc, pm, an, cdv, ct, osl, rfl, _, _⟩ := F.ex
  exact fun s us hu => match us, hu with | [_], _ => .of_eq rfl
end LF

end

section
set_option Elab.async false
set_option linter.all false
set_option maxRecDepth 100000
set_option maxHeartbeats 2000000
namespace LF
open PySem PySem.Spec PyProof.Rows L2
abbrev sAnswer : Stmt := top 67
/-- the def at f answers the calls of number k -/
def Disp (P : Program) (w : World) (K : PySem.W.Frag) (mg : Str → Option Value) (base : Heap) (m : Nat) (C : Addr) (k : Nat) (f : Addr) : Prop :=
  ∃ (fd : FuncData) (mk : List Nat → Option Su120.Call) (needs : Abs → Prop), FnOk P w K mg base CX0 m f fd ["ground", "given"] (spCall C mk needs) ∧ PySem.W.keepIn K (.ref f) = true ∧ Binds K fd ["ground", "given"] [] ∧
    (∀ given c, callOf' k given = some c → mk given = some c) ∧ (∀ a, Wf a → needs a) ∧ (k = 0 → ∀ a, needs a)
theorem disp_of {P : Program} {w : World} {K : PySem.W.Frag} {mg : Str → Option Value} {base : Heap} {m n : Nat} {C : Addr} {k : Nat} {f : Addr} {x : Str} {mk : List Nat → Option Su120.Call} {needs : Abs → Prop} (d : Def P w K mg base n x ["ground", "given"] (spCall C mk needs)) (hx : mg x = some (.ref f)) (hn : n ≤ m)
    (h1 : ∀ given c, callOf' k given = some c → mk given = some c) (h2 : ∀ a, Wf a → needs a) (h3 : k = 0 → ∀ a, needs a) : Disp P w K mg base m C k f := by
  obtain ⟨f', fd, F, hm, hk, hb⟩ := d.ex
  have e := hx.symm.trans hm
  cases e
  exact ⟨fd, mk, needs, F.mono hn, hk, hb, h1, h2, h3⟩
theorem not_begin {k : Nat} {given : List Nat} {c : Su120.Call} (h : callOf' k given = some c) (hk : k ≠ 0) : ∀ n, c ≠ .begin_ n := by
  rintro n rfl
  unfold callOf' at h
  split at h <;> first | exact hk rfl | cases h | (injection h with h; cases h)
theorem is_begin {given : List Nat} {c : Su120.Call} (h : callOf' 0 given = some c) : ∃ n, c = .begin_ n := by
  match given, h with
  | [x], h => exact ⟨x, (Option.some.inj h).symm⟩
  | [], h => cases h
  | _ :: _ :: _, h => cases h
theorem begin_none (n : Nat) : (Su120.does ⟨0, [], []⟩ (.begin_ n)).2 = (Su120.step none (.begin_ n)).2 ∧ (Su120.does ⟨0, [], []⟩ (.begin_ n)).1 = (Su120.step none (.begin_ n)).1.getD ⟨0, [], []⟩ := by
  by_cases h : n = 0 ∨ Su120.PLACES < n
  · have e1 : ∀ a : Abs, Su120.does a (.begin_ n) = (a, Su120.no (-22)) := fun a => if_pos h
    have e2 : Su120.step none (.begin_ n) = (if (Su120.does (Su120.new 1) (.begin_ n)).2.value < 0 then none else some (Su120.does (Su120.new 1) (.begin_ n)).1, (Su120.does (Su120.new 1) (.begin_ n)).2) := rfl
    rw [e2, e1, e1]
    exact ⟨rfl, rfl⟩
  · have e1 : ∀ a : Abs, Su120.does a (.begin_ n) = (Su120.new n, Su120.no 0) := fun a => if_neg h
    have e2 : Su120.step none (.begin_ n) = (if (Su120.does (Su120.new 1) (.begin_ n)).2.value < 0 then none else some (Su120.does (Su120.new 1) (.begin_ n)).1, (Su120.does (Su120.new 1) (.begin_ n)).2) := rfl
    rw [e2, e1, e1]
    exact ⟨rfl, rfl⟩
theorem step_none {c : Su120.Call} (h : ∀ n, c ≠ .begin_ n) : Su120.step none c = (none, Su120.no (-11)) := by
  cases c with
  | begin_ n => exact absurd rfl (h n)
  | _ => rfl
theorem size_nz {k : Nat} {given : List Nat} {c : Su120.Call} (h : callOf' k given = some c) : k ≤ 21 := by
  rcases Nat.lt_or_ge 21 k with z | z
  · exfalso
    unfold callOf' at h
    split at h <;> first | omega | cases h
  · exact z
section
variable {P : Program} {w : World} {K : PySem.W.Frag} {mg : Str → Option Value} {base : Heap} {C : Addr}
theorem scAnswer : FnScope ["ground", "number", "given", "call"] ["ground", "number", "given"] (defScope sAnswer) := ⟨rfl, rfl, rfl, by decide +kernel, rfl, by decide +kernel, by decide +kernel⟩
theorem ok_answer {f C d : Addr} {fd : FuncData} {m : Nat} {kvs : List (Key × V)} (F : Fun K "answer" "answer" sAnswer f fd) (T : TxtG K C) (c11 : KI mg "NOT_BEGUN" (-11)) (c0 : KI mg "BEGIN" 0) (hW : mg "BY_NUMBER" = some (.ref d)) (kd : KDict P w K d kvs)
    (hD : ∀ k : Nat, k ≤ 21 → ∃ f, valV kvs (Sum.inl (k : Int)) = some (.ref f) ∧ Disp P w K mg base m C k f) : FnOk P w K mg base CX0 (m + 1) f fd ["ground", "number", "given"] (spAnswer C) := by
  refine F.ok scAnswer (fun vs H Q E h => ?_) (fun cdv A outer s H vs Q E hr h => ?_)
  · obtain ⟨g, v, j, l, st, k, given, c, rfl, _⟩ := h
    rfl
  · obtain ⟨g, v, j, l, st, k, given, c, rfl, ⟨G, W⟩, hv, hvj, hvl, hc, hk21, hfew, q⟩ := h
    refine ⟨_, pss_cons (ps_if (PW.pt (pw_and (pt_cmpR op_ne (pv 1) (pe_ki c0 rfl) (nomark _)) (pw_and1 (pt_cmpR op_eq (pe_fld (pv 0) rfl) pe_int (nomark _))))) (pss_one (ps_ret (pe_lst (pa_cons (pe_ki c11 rfl) pa_nil)))) pss_nil)
      (pss_cons (ps_set (i := 3) scAnswer.nd rfl (Or.inl rfl) (pe_kget (pe_glob rfl hW (v := .ref d) rfl) (pv 1) (fun _ _ => rfl)))
      (pss_one (ps_ret (pe_callV (j := 3) (ps := ["ground", "given"]) hr rfl (Or.inl rfl) (pa_cons (pv 0) (pa_cons (pv 2) pa_nil)))))), ?_⟩
    obtain ⟨dx, hg⟩ := G.ins
    obtain ⟨fk, hval, fdk, mk, needs, FK, hkeep, hbind, hmk, hw, hz⟩ := hD k hk21
    -- behind the first test
    have go : needs (st.getD ⟨0, [], []⟩) → Post C H g j l (Su120.does (st.getD ⟨0, [], []⟩) c) Q → tSeq (tAsg (tKGet (cxOf CX0 P w K mg base ["ground", "number", "given", "call"] "answer" (defScope sAnswer) f cdv A outer s H E).nox (tC (.ref d)) (tVar 1)) (gName 3)) (tRet (tCallV (cxOf CX0 P w K mg base ["ground", "number", "given", "call"] "answer" (defScope sAnswer) f cdv A outer s H E).nox m 3 ["ground", "given"] (tCons (tVar 0) (tCons (tVar 2) tNil)))) { nx := fun _ H' => Q .non H', rt := Q } (start ["ground", "number", "given", "call"] [.ref g, nat k, .ref v]) H := by
      intro hn hp
      refine ⟨_, rfl, d, kvs, Sum.inl (k : Int), _, rfl, kd, rfl, hval, ?_⟩
      exact ⟨fk, fdk, _, rfl, FK, hkeep, hbind, _, rfl, _, rfl, g, v, j, l, _, given, c, rfl, G, hn, hv, hvj, hvl, hmk _ _ hc, hp⟩
    have wf' := wf_step W c
    cases hst : st with
    | some a =>
      subst hst
      have Wa := W a rfl
      have post : Post C H g j l (Su120.does a c) Q := fun p H' j' l' hp B hj hl G' h => q p H' j' l' hp B hj hl ⟨G', wf'⟩ h
      have n1 := Wa.n1
      refine ⟨_, rfl, rfl, _, rfl, ite2 (fun h => ?_) fun h => ?_⟩
      · refine ⟨_, rfl, g, C, dx, _, _, rfl, hg, T.cl, T.nS, gf_size _ _ _, rfl, _, rfl, ?_⟩
        have e : decide (nat a.n = V.int 0) = false := decide_eq_false fun z => by
          have := V.int.inj z
          omega
        show (if decide (nat a.n = V.int 0) = true then _ else _)
        rw [e]
        exact iteF (go (hw _ Wa) post)
      · exact iteF (go (hw _ Wa) post)
    | none =>
      subst hst
      by_cases hk0 : k = 0
      · subst hk0
        obtain ⟨n, rfl⟩ := is_begin hc
        obtain ⟨e1, e2⟩ := begin_none n
        have post : Post C H g j l (Su120.does ⟨0, [], []⟩ (.begin_ n)) Q := fun p H' j' l' hp B hj hl G' h => q p H' j' l' hp B hj hl ⟨by rw [e2] at G'; exact G', wf'⟩ (by rw [e1] at h; exact h)
        refine ⟨_, rfl, rfl, _, rfl, ?_⟩
        exact iteF (iteF (go (hz rfl _) post))
      · refine ⟨_, rfl, rfl, _, rfl, ?_⟩
        have e : decide (nat k = V.int 0) = false := decide_eq_false fun z => by
          have := V.int.inj z
          omega
        show (if (!decide (nat k = V.int 0)) = true then _ else _)
        rw [e]
        refine iteT ⟨_, rfl, g, C, dx, _, _, rfl, hg, T.cl, T.nS, gf_size _ _ _, rfl, _, rfl, ?_⟩
        refine iteT ⟨by decide, fun p hp => ?_⟩
        have es := step_none (not_begin hc hk0)
        rw [es] at q
        have S1 : Same H (L2.upd H p (.lst [.int (-11)])) := Same.upd (Same.refl H) hp
        exact q p _ j l hp (fun b o e _ _ _ => S1 b o e) (.inl rfl) (.inl rfl) ⟨G.same S1, fun a h => by cases h⟩ upd_same
/-! ### the table of the calls -/
def TabAt (P : Program) (w : World) (K : PySem.W.Frag) (mg : Str → Option Value) : Prop := ∃ f0 f1 f2 f3 f4 f5 f6 f7 f8 f9 f10 f11 f12 f13 f14 f15 f16 f17 f18 f19 f20 f21 d : Addr, mg "BY_NUMBER" = some (.ref d) ∧ KDict P w K d (tabK [(0, f0), (1, f1), (2, f2), (3, f3), (4, f4), (5, f5), (6, f6), (7, f7), (8, f8), (9, f9), (10, f10), (11, f11), (12, f12), (13, f13), (14, f14), (15, f15), (16, f16), (17, f17), (18, f18), (19, f19), (20, f20), (21, f21)]) ∧ mg "begin" = some (.ref f0) ∧ mg "join" = some (.ref f1) ∧ mg "part" = some (.ref f2) ∧ mg "line" = some (.ref f3) ∧ mg "ring" = some (.ref f4) ∧ mg "light" = some (.ref f5) ∧ mg "out" = some (.ref f6) ∧ mg "burns" = some (.ref f7) ∧ mg "left" = some (.ref f8) ∧ mg "turns" = some (.ref f9) ∧ mg "best" = some (.ref f10) ∧ mg "row" = some (.ref f11) ∧ mg "can" = some (.ref f12) ∧ mg "within" = some (.ref f13) ∧ mg "with_join" = some (.ref f14) ∧ mg "without_join" = some (.ref f15) ∧ mg "far" = some (.ref f16) ∧ mg "root" = some (.ref f17) ∧ mg "finish" = some (.ref f18) ∧ mg "parts" = some (.ref f19) ∧ mg "tree" = some (.ref f20) ∧ mg "state" = some (.ref f21)
theorem tab_mk {h : Heap} {f0 f1 f2 f3 f4 f5 f6 f7 f8 f9 f10 f11 f12 f13 f14 f15 f16 f17 f18 f19 f20 f21 d : Addr} {oc : Value} {od : Option Addr} {es : Array DictEntry} {ep : Nat} {sl : Array (Option Value)} (X : K.In h) (G : h.Ns mainGlobals mg) (a : PySem.W.nsIn K mainGlobals "BY_NUMBER" = some (some (.ref d))) (l : K.lookup d = some ⟨oc, od, .dict es ep, sl⟩) (hc : oc = .type "dict") (ho : od = none) (hs : sl = #[])
    (he : EntsK es.toList [(0, f0), (1, f1), (2, f2), (3, f3), (4, f4), (5, f5), (6, f6), (7, f7), (8, f8), (9, f9), (10, f10), (11, f11), (12, f12), (13, f13), (14, f14), (15, f15), (16, f16), (17, f17), (18, f18), (19, f19), (20, f20), (21, f21)]) (hd : (d == sysModules) = false)
    (m0 : PySem.W.nsIn K mainGlobals "begin" = some (some (.ref f0)))
    (m1 : PySem.W.nsIn K mainGlobals "join" = some (some (.ref f1)))
    (m2 : PySem.W.nsIn K mainGlobals "part" = some (some (.ref f2)))
    (m3 : PySem.W.nsIn K mainGlobals "line" = some (some (.ref f3)))
    (m4 : PySem.W.nsIn K mainGlobals "ring" = some (some (.ref f4)))
    (m5 : PySem.W.nsIn K mainGlobals "light" = some (some (.ref f5)))
    (m6 : PySem.W.nsIn K mainGlobals "out" = some (some (.ref f6)))
    (m7 : PySem.W.nsIn K mainGlobals "burns" = some (some (.ref f7)))
    (m8 : PySem.W.nsIn K mainGlobals "left" = some (some (.ref f8)))
    (m9 : PySem.W.nsIn K mainGlobals "turns" = some (some (.ref f9)))
    (m10 : PySem.W.nsIn K mainGlobals "best" = some (some (.ref f10)))
    (m11 : PySem.W.nsIn K mainGlobals "row" = some (some (.ref f11)))
    (m12 : PySem.W.nsIn K mainGlobals "can" = some (some (.ref f12)))
    (m13 : PySem.W.nsIn K mainGlobals "within" = some (some (.ref f13)))
    (m14 : PySem.W.nsIn K mainGlobals "with_join" = some (some (.ref f14)))
    (m15 : PySem.W.nsIn K mainGlobals "without_join" = some (some (.ref f15)))
    (m16 : PySem.W.nsIn K mainGlobals "far" = some (some (.ref f16)))
    (m17 : PySem.W.nsIn K mainGlobals "root" = some (some (.ref f17)))
    (m18 : PySem.W.nsIn K mainGlobals "finish" = some (some (.ref f18)))
    (m19 : PySem.W.nsIn K mainGlobals "parts" = some (some (.ref f19)))
    (m20 : PySem.W.nsIn K mainGlobals "tree" = some (some (.ref f20)))
    (m21 : PySem.W.nsIn K mainGlobals "state" = some (some (.ref f21))) : TabAt P w K mg := by
  subst hc ho hs
  refine ⟨f0, f1, f2, f3, f4, f5, f6, f7, f8, f9, f10, f11, f12, f13, f14, f15, f16, f17, f18, f19, f20, f21, d, PySem.W.mg_of X G a, kdict_of l he (by show ([0, 1, 2, 3, 4, 5, 6, 7, 8, 9, 10, 11, 12, 13, 14, 15, 16, 17, 18, 19, 20, 21] : List Int).Nodup; decide) hd, PySem.W.mg_of X G m0, PySem.W.mg_of X G m1, PySem.W.mg_of X G m2, PySem.W.mg_of X G m3, PySem.W.mg_of X G m4, PySem.W.mg_of X G m5, PySem.W.mg_of X G m6, PySem.W.mg_of X G m7, PySem.W.mg_of X G m8, PySem.W.mg_of X G m9, PySem.W.mg_of X G m10, PySem.W.mg_of X G m11, PySem.W.mg_of X G m12, PySem.W.mg_of X G m13, PySem.W.mg_of X G m14, PySem.W.mg_of X G m15, PySem.W.mg_of X G m16, PySem.W.mg_of X G m17, PySem.W.mg_of X G m18, PySem.W.mg_of X G m19, PySem.W.mg_of X G m20, PySem.W.mg_of X G m21⟩
theorem disp_all (T : Txt K mg C) {f0 f1 f2 f3 f4 f5 f6 f7 f8 f9 f10 f11 f12 f13 f14 f15 f16 f17 f18 f19 f20 f21 : Addr} (m0 : mg "begin" = some (.ref f0)) (m1 : mg "join" = some (.ref f1)) (m2 : mg "part" = some (.ref f2)) (m3 : mg "line" = some (.ref f3)) (m4 : mg "ring" = some (.ref f4)) (m5 : mg "light" = some (.ref f5)) (m6 : mg "out" = some (.ref f6)) (m7 : mg "burns" = some (.ref f7)) (m8 : mg "left" = some (.ref f8)) (m9 : mg "turns" = some (.ref f9)) (m10 : mg "best" = some (.ref f10)) (m11 : mg "row" = some (.ref f11)) (m12 : mg "can" = some (.ref f12)) (m13 : mg "within" = some (.ref f13)) (m14 : mg "with_join" = some (.ref f14)) (m15 : mg "without_join" = some (.ref f15)) (m16 : mg "far" = some (.ref f16)) (m17 : mg "root" = some (.ref f17)) (m18 : mg "finish" = some (.ref f18)) (m19 : mg "parts" = some (.ref f19)) (m20 : mg "tree" = some (.ref f20)) (m21 : mg "state" = some (.ref f21)) : ∀ k : Nat, k ≤ 21 → ∃ f, valV (tabK [(0, f0), (1, f1), (2, f2), (3, f3), (4, f4), (5, f5), (6, f6), (7, f7), (8, f8), (9, f9), (10, f10), (11, f11), (12, f12), (13, f13), (14, f14), (15, f15), (16, f16), (17, f17), (18, f18), (19, f19), (20, f20), (21, f21)]) (Sum.inl (k : Int)) = some (.ref f) ∧ Disp P w K mg base 11 C k f := by
  intro k hk
  match k, hk with
  | 0, _ => exact ⟨f0, rfl, disp_of (dBegin T) m0 (by decide) (fun given c h => match given, h with | [_], h => h) (fun _ _ => trivial) (fun _ _ => trivial)⟩
  | 1, _ => exact ⟨f1, rfl, disp_of (dJoin T) m1 (by decide) (fun given c h => match given, h with | [_, _], h => h) (fun _ h => h) (fun z => absurd z (by decide))⟩
  | 2, _ => exact ⟨f2, rfl, disp_of (dPart T) m2 (by decide) (fun given c h => match given, h with | [_, _], h => h) (fun _ h => h) (fun z => absurd z (by decide))⟩
  | 3, _ => exact ⟨f3, rfl, disp_of (dLine T) m3 (by decide) (fun given c h => match given, h with | [_], h => h) (fun _ _ => trivial) (fun z => absurd z (by decide))⟩
  | 4, _ => exact ⟨f4, rfl, disp_of (dRing T) m4 (by decide) (fun given c h => match given, h with | [_], h => h) (fun _ _ => trivial) (fun z => absurd z (by decide))⟩
  | 5, _ => exact ⟨f5, rfl, disp_of (dLight T) m5 (by decide) (fun given c h => match given, h with | [_], h => h) (fun _ h => h) (fun z => absurd z (by decide))⟩
  | 6, _ => exact ⟨f6, rfl, disp_of (dOut T) m6 (by decide) (fun given c h => match given, h with | [], h => h) (fun _ h => h) (fun z => absurd z (by decide))⟩
  | 7, _ => exact ⟨f7, rfl, disp_of (dBurns T) m7 (by decide) (fun given c h => match given, h with | [], h => h) (fun _ h => h) (fun z => absurd z (by decide))⟩
  | 8, _ => exact ⟨f8, rfl, disp_of (dLeft T) m8 (by decide) (fun given c h => match given, h with | [], h => h) (fun _ h => h) (fun z => absurd z (by decide))⟩
  | 9, _ => exact ⟨f9, rfl, disp_of (dTurns T) m9 (by decide) (fun given c h => match given, h with | [], h => h) (fun _ h => h) (fun z => absurd z (by decide))⟩
  | 10, _ => exact ⟨f10, rfl, disp_of (dBestC T) m10 (by decide) (fun given c h => match given, h with | [], h => h) (fun _ h => h) (fun z => absurd z (by decide))⟩
  | 11, _ => exact ⟨f11, rfl, disp_of (dRow T) m11 (by decide) (fun given c h => match given, h with | _ :: _, h => h) (fun _ h => h) (fun z => absurd z (by decide))⟩
  | 12, _ => exact ⟨f12, rfl, disp_of (dCan T) m12 (by decide) (fun given c h => match given, h with | [_], h => h) (fun _ h => h) (fun z => absurd z (by decide))⟩
  | 13, _ => exact ⟨f13, rfl, disp_of (dWithin T) m13 (by decide) (fun given c h => match given, h with | [_, _], h => h) (fun _ h => h) (fun z => absurd z (by decide))⟩
  | 14, _ => exact ⟨f14, rfl, disp_of (dWith T) m14 (by decide) (fun given c h => match given, h with | [_, _], h => h) (fun _ h => h) (fun z => absurd z (by decide))⟩
  | 15, _ => exact ⟨f15, rfl, disp_of (dWithout T) m15 (by decide) (fun given c h => match given, h with | [_, _], h => h) (fun _ h => h) (fun z => absurd z (by decide))⟩
  | 16, _ => exact ⟨f16, rfl, disp_of (dFar T) m16 (by decide) (fun given c h => match given, h with | [_, _], h => h) (fun _ h => h) (fun z => absurd z (by decide))⟩
  | 17, _ => exact ⟨f17, rfl, disp_of (dRoot T) m17 (by decide) (fun given c h => match given, h with | [_], h => h) (fun _ h => h) (fun z => absurd z (by decide))⟩
  | 18, _ => exact ⟨f18, rfl, disp_of (dFinish T) m18 (by decide) (fun given c h => match given, h with | [], h => h) (fun _ h => h) (fun z => absurd z (by decide))⟩
  | 19, _ => exact ⟨f19, rfl, disp_of (dParts T) m19 (by decide) (fun given c h => match given, h with | [], h => h) (fun _ h => h) (fun z => absurd z (by decide))⟩
  | 20, _ => exact ⟨f20, rfl, disp_of (dTree T) m20 (by decide) (fun given c h => match given, h with | [], h => h) (fun _ h => h) (fun z => absurd z (by decide))⟩
  | 21, _ => exact ⟨f21, rfl, disp_of (dState T) m21 (by decide) (fun given c h => match given, h with | [], h => h) (fun _ h => h) (fun z => absurd z (by decide))⟩
  | k + 22, h => exact absurd h (by omega)
theorem dAnswer (T : Txt K mg C) (hF : HasFn K mg "answer" sAnswer) (c11 : KI mg "NOT_BEGUN" (-11)) (c0 : KI mg "BEGIN" 0) (tab : TabAt P w K mg) : Def P w K mg base 12 "answer" ["ground", "number", "given"] (spAnswer C) := by
  obtain ⟨f0, f1, f2, f3, f4, f5, f6, f7, f8, f9, f10, f11, f12, f13, f14, f15, f16, f17, f18, f19, f20, f21, d, hW, kd, m0, m1, m2, m3, m4, m5, m6, m7, m8, m9, m10, m11, m12, m13, m14, m15, m16, m17, m18, m19, m20, m21⟩ := tab
  exact def_of hF (fun f fd F => ok_answer F T.g c11 c0 hW kd (disp_all T m0 m1 m2 m3 m4 m5 m6 m7 m8 m9 m10 m11 m12 m13 m14 m15 m16 m17 m18 m19 m20 m21)) (fun _ _ _ _ _ _ us hl => match us, hl with | [_, _, _], _ => rfl)
end
end LF

end

section
set_option linter.all false
open PySem PySem.W PyProof.Rows
set_option Elab.async false
/-! The head would lay a second form of each of these eight terms, each with an equation whose proof grows with the square of the heap: together 36 MB of the compiled file, and nothing below needs them. Names that are taken are passed over. -/
def PySem.W.Fast.tw10110197899359906258 : Unit := ()
def PySem.W.Fast.tw12108554778613761519 : Unit := ()
def PySem.W.Fast.tw8745128645725353562 : Unit := ()
def PySem.W.Fast.tw6310048059473802608 : Unit := ()
def PySem.W.Fast.tw13120857306722554905 : Unit := ()
def PySem.W.Fast.tw5403431252688494779 : Unit := ()
def PySem.W.Fast.tw17308339958203879905 : Unit := ()
def PySem.W.Fast.tw17127038214275598752 : Unit := ()
set_option maxRecDepth 100000 in
set_option maxHeartbeats 0 in
theorem PySem.Challenge.cw_litfires_s01_answers_holds : PySem.Challenge.rw_litfires_s01_answers.Holds := by
  w_on; k_headS; (case hw => exact ⟨[.list [.int 6]], by decide +kernel, by decide +kernel⟩)
  k_fillS
  refine L2.walk_specK (r := PySem.Challenge.rw_litfires_s01_answers) (k := 13) (CX := L2.CX0) (ps := ["calls"]) (sp := LF.spAnswers) (by decide +kernel) rfl rfl ⟨rfl, by decide, by decide⟩ (fun w h Y => PySem.W.kIn_of Y) ?F ?S (fun _ _ _ _ z => z)
  case F =>
    intro w mg fa h Y KX G hmg
    refine' LF.cls_mk KX G ?aC ?cont
    (case aC => k_is)
    intro mgC
    have f_everything : LF.HasFn (cw_litfires_s01_answers_holds.heap_1 w.params) mg "everything" LF.sEvery := by
      refine' LF.fn_mk KX G ?a ?l ?c ?k; (case a => k_is); (case l => k_is); (case c => k_is); (case k => k_is)
    have f_places_of : LF.HasFn (cw_litfires_s01_answers_holds.heap_1 w.params) mg "places_of" LF.sPlaces := by
      refine' LF.fn_mk KX G ?a ?l ?c ?k; (case a => k_is); (case l => k_is); (case c => k_is); (case k => k_is)
    have f_near_places : LF.HasFn (cw_litfires_s01_answers_holds.heap_1 w.params) mg "near_places" LF.sNear := by
      refine' LF.fn_mk KX G ?a ?l ?c ?k; (case a => k_is); (case l => k_is); (case c => k_is); (case k => k_is)
    have f_spread : LF.HasFn (cw_litfires_s01_answers_holds.heap_1 w.params) mg "spread" LF.sSpread := by
      refine' LF.fn_mk KX G ?a ?l ?c ?k; (case a => k_is); (case l => k_is); (case c => k_is); (case k => k_is)
    have f_all_spreads : LF.HasFn (cw_litfires_s01_answers_holds.heap_1 w.params) mg "all_spreads" LF.sAllSp := by
      refine' LF.fn_mk KX G ?a ?l ?c ?k; (case a => k_is); (case l => k_is); (case c => k_is); (case k => k_is)
    have f_burnt_by : LF.HasFn (cw_litfires_s01_answers_holds.heap_1 w.params) mg "burnt_by" LF.sBurnt := by
      refine' LF.fn_mk KX G ?a ?l ?c ?k; (case a => k_is); (case l => k_is); (case c => k_is); (case k => k_is)
    have f_one_longer : LF.HasFn (cw_litfires_s01_answers_holds.heap_1 w.params) mg "one_longer" LF.sLonger := by
      refine' LF.fn_mk KX G ?a ?l ?c ?k; (case a => k_is); (case l => k_is); (case c => k_is); (case k => k_is)
    have f_shortest_row : LF.HasFn (cw_litfires_s01_answers_holds.heap_1 w.params) mg "shortest_row" LF.sShort := by
      refine' LF.fn_mk KX G ?a ?l ?c ?k; (case a => k_is); (case l => k_is); (case c => k_is); (case k => k_is)
    have f_fewest_turns : LF.HasFn (cw_litfires_s01_answers_holds.heap_1 w.params) mg "fewest_turns" LF.sFewest := by
      refine' LF.fn_mk KX G ?a ?l ?c ?k; (case a => k_is); (case l => k_is); (case c => k_is); (case k => k_is)
    have f_first_row_of : LF.HasFn (cw_litfires_s01_answers_holds.heap_1 w.params) mg "first_row_of" LF.sFirst := by
      refine' LF.fn_mk KX G ?a ?l ?c ?k; (case a => k_is); (case l => k_is); (case c => k_is); (case k => k_is)
    have f_reached : LF.HasFn (cw_litfires_s01_answers_holds.heap_1 w.params) mg "reached" LF.sReached := by
      refine' LF.fn_mk KX G ?a ?l ?c ?k; (case a => k_is); (case l => k_is); (case c => k_is); (case k => k_is)
    have f_distance : LF.HasFn (cw_litfires_s01_answers_holds.heap_1 w.params) mg "distance" LF.sDist := by
      refine' LF.fn_mk KX G ?a ?l ?c ?k; (case a => k_is); (case l => k_is); (case c => k_is); (case k => k_is)
    have f_part_sizes : LF.HasFn (cw_litfires_s01_answers_holds.heap_1 w.params) mg "part_sizes" LF.sSizes := by
      refine' LF.fn_mk KX G ?a ?l ?c ?k; (case a => k_is); (case l => k_is); (case c => k_is); (case k => k_is)
    have f_choices : LF.HasFn (cw_litfires_s01_answers_holds.heap_1 w.params) mg "choices" LF.sChoices := by
      refine' LF.fn_mk KX G ?a ?l ?c ?k; (case a => k_is); (case l => k_is); (case c => k_is); (case k => k_is)
    have f_how_many_parts : LF.HasFn (cw_litfires_s01_answers_holds.heap_1 w.params) mg "how_many_parts" LF.sHow := by
      refine' LF.fn_mk KX G ?a ?l ?c ?k; (case a => k_is); (case l => k_is); (case c => k_is); (case k => k_is)
    have f_first_tree : LF.HasFn (cw_litfires_s01_answers_holds.heap_1 w.params) mg "first_tree" LF.sTree1 := by
      refine' LF.fn_mk KX G ?a ?l ?c ?k; (case a => k_is); (case l => k_is); (case c => k_is); (case k => k_is)
    have f_is_missing : LF.HasFn (cw_litfires_s01_answers_holds.heap_1 w.params) mg "is_missing" LF.sMiss := by
      refine' LF.fn_mk KX G ?a ?l ?c ?k; (case a => k_is); (case l => k_is); (case c => k_is); (case k => k_is)
    have f_near : LF.HasFn (cw_litfires_s01_answers_holds.heap_1 w.params) mg "near" LF.sNearG := by
      refine' LF.fn_mk KX G ?a ?l ?c ?k; (case a => k_is); (case l => k_is); (case c => k_is); (case k => k_is)
    have f_burnt_now : LF.HasFn (cw_litfires_s01_answers_holds.heap_1 w.params) mg "burnt_now" LF.sNow := by
      refine' LF.fn_mk KX G ?a ?l ?c ?k; (case a => k_is); (case l => k_is); (case c => k_is); (case k => k_is)
    have f_turns_now : LF.HasFn (cw_litfires_s01_answers_holds.heap_1 w.params) mg "turns_now" LF.sTurnsNow := by
      refine' LF.fn_mk KX G ?a ?l ?c ?k; (case a => k_is); (case l => k_is); (case c => k_is); (case k => k_is)
    have f_counted : LF.HasFn (cw_litfires_s01_answers_holds.heap_1 w.params) mg "counted" LF.sCounted := by
      refine' LF.fn_mk KX G ?a ?l ?c ?k; (case a => k_is); (case l => k_is); (case c => k_is); (case k => k_is)
    have f_pair_of : LF.HasFn (cw_litfires_s01_answers_holds.heap_1 w.params) mg "pair_of" LF.sPairOf := by
      refine' LF.fn_mk KX G ?a ?l ?c ?k; (case a => k_is); (case l => k_is); (case c => k_is); (case k => k_is)
    have f_in_a_row : LF.HasFn (cw_litfires_s01_answers_holds.heap_1 w.params) mg "in_a_row" LF.sInRow := by
      refine' LF.fn_mk KX G ?a ?l ?c ?k; (case a => k_is); (case l => k_is); (case c => k_is); (case k => k_is)
    have f_joins_of_a_line : LF.HasFn (cw_litfires_s01_answers_holds.heap_1 w.params) mg "joins_of_a_line" LF.sRowJ := by
      refine' LF.fn_mk KX G ?a ?l ?c ?k; (case a => k_is); (case l => k_is); (case c => k_is); (case k => k_is)
    have f_joining_refused : LF.HasFn (cw_litfires_s01_answers_holds.heap_1 w.params) mg "joining_refused" LF.sJoinR := by
      refine' LF.fn_mk KX G ?a ?l ?c ?k; (case a => k_is); (case l => k_is); (case c => k_is); (case k => k_is)
    have f_parting_refused : LF.HasFn (cw_litfires_s01_answers_holds.heap_1 w.params) mg "parting_refused" LF.sPartR := by
      refine' LF.fn_mk KX G ?a ?l ?c ?k; (case a => k_is); (case l => k_is); (case c => k_is); (case k => k_is)
    have f_begin : LF.HasFn (cw_litfires_s01_answers_holds.heap_1 w.params) mg "begin" LF.sBegin := by
      refine' LF.fn_mk KX G ?a ?l ?c ?k; (case a => k_is); (case l => k_is); (case c => k_is); (case k => k_is)
    have f_line : LF.HasFn (cw_litfires_s01_answers_holds.heap_1 w.params) mg "line" LF.sLine := by
      refine' LF.fn_mk KX G ?a ?l ?c ?k; (case a => k_is); (case l => k_is); (case c => k_is); (case k => k_is)
    have f_ring : LF.HasFn (cw_litfires_s01_answers_holds.heap_1 w.params) mg "ring" LF.sRing := by
      refine' LF.fn_mk KX G ?a ?l ?c ?k; (case a => k_is); (case l => k_is); (case c => k_is); (case k => k_is)
    have f_join : LF.HasFn (cw_litfires_s01_answers_holds.heap_1 w.params) mg "join" LF.sJoin := by
      refine' LF.fn_mk KX G ?a ?l ?c ?k; (case a => k_is); (case l => k_is); (case c => k_is); (case k => k_is)
    have f_part : LF.HasFn (cw_litfires_s01_answers_holds.heap_1 w.params) mg "part" LF.sPart := by
      refine' LF.fn_mk KX G ?a ?l ?c ?k; (case a => k_is); (case l => k_is); (case c => k_is); (case k => k_is)
    have f_light : LF.HasFn (cw_litfires_s01_answers_holds.heap_1 w.params) mg "light" LF.sLight := by
      refine' LF.fn_mk KX G ?a ?l ?c ?k; (case a => k_is); (case l => k_is); (case c => k_is); (case k => k_is)
    have f_out : LF.HasFn (cw_litfires_s01_answers_holds.heap_1 w.params) mg "out" LF.sOut := by
      refine' LF.fn_mk KX G ?a ?l ?c ?k; (case a => k_is); (case l => k_is); (case c => k_is); (case k => k_is)
    have f_burns : LF.HasFn (cw_litfires_s01_answers_holds.heap_1 w.params) mg "burns" LF.sBurns := by
      refine' LF.fn_mk KX G ?a ?l ?c ?k; (case a => k_is); (case l => k_is); (case c => k_is); (case k => k_is)
    have f_left : LF.HasFn (cw_litfires_s01_answers_holds.heap_1 w.params) mg "left" LF.sLeft := by
      refine' LF.fn_mk KX G ?a ?l ?c ?k; (case a => k_is); (case l => k_is); (case c => k_is); (case k => k_is)
    have f_turns : LF.HasFn (cw_litfires_s01_answers_holds.heap_1 w.params) mg "turns" LF.sTurns := by
      refine' LF.fn_mk KX G ?a ?l ?c ?k; (case a => k_is); (case l => k_is); (case c => k_is); (case k => k_is)
    have f_best : LF.HasFn (cw_litfires_s01_answers_holds.heap_1 w.params) mg "best" LF.sBestC := by
      refine' LF.fn_mk KX G ?a ?l ?c ?k; (case a => k_is); (case l => k_is); (case c => k_is); (case k => k_is)
    have f_row : LF.HasFn (cw_litfires_s01_answers_holds.heap_1 w.params) mg "row" LF.sRow := by
      refine' LF.fn_mk KX G ?a ?l ?c ?k; (case a => k_is); (case l => k_is); (case c => k_is); (case k => k_is)
    have f_can : LF.HasFn (cw_litfires_s01_answers_holds.heap_1 w.params) mg "can" LF.sCan := by
      refine' LF.fn_mk KX G ?a ?l ?c ?k; (case a => k_is); (case l => k_is); (case c => k_is); (case k => k_is)
    have f_within : LF.HasFn (cw_litfires_s01_answers_holds.heap_1 w.params) mg "within" LF.sWithin := by
      refine' LF.fn_mk KX G ?a ?l ?c ?k; (case a => k_is); (case l => k_is); (case c => k_is); (case k => k_is)
    have f_with_join : LF.HasFn (cw_litfires_s01_answers_holds.heap_1 w.params) mg "with_join" LF.sWith := by
      refine' LF.fn_mk KX G ?a ?l ?c ?k; (case a => k_is); (case l => k_is); (case c => k_is); (case k => k_is)
    have f_without_join : LF.HasFn (cw_litfires_s01_answers_holds.heap_1 w.params) mg "without_join" LF.sWithout := by
      refine' LF.fn_mk KX G ?a ?l ?c ?k; (case a => k_is); (case l => k_is); (case c => k_is); (case k => k_is)
    have f_far : LF.HasFn (cw_litfires_s01_answers_holds.heap_1 w.params) mg "far" LF.sFar := by
      refine' LF.fn_mk KX G ?a ?l ?c ?k; (case a => k_is); (case l => k_is); (case c => k_is); (case k => k_is)
    have f_root : LF.HasFn (cw_litfires_s01_answers_holds.heap_1 w.params) mg "root" LF.sRoot := by
      refine' LF.fn_mk KX G ?a ?l ?c ?k; (case a => k_is); (case l => k_is); (case c => k_is); (case k => k_is)
    have f_finish : LF.HasFn (cw_litfires_s01_answers_holds.heap_1 w.params) mg "finish" LF.sFinish := by
      refine' LF.fn_mk KX G ?a ?l ?c ?k; (case a => k_is); (case l => k_is); (case c => k_is); (case k => k_is)
    have f_parts : LF.HasFn (cw_litfires_s01_answers_holds.heap_1 w.params) mg "parts" LF.sParts := by
      refine' LF.fn_mk KX G ?a ?l ?c ?k; (case a => k_is); (case l => k_is); (case c => k_is); (case k => k_is)
    have f_tree : LF.HasFn (cw_litfires_s01_answers_holds.heap_1 w.params) mg "tree" LF.sTree := by
      refine' LF.fn_mk KX G ?a ?l ?c ?k; (case a => k_is); (case l => k_is); (case c => k_is); (case k => k_is)
    have f_state : LF.HasFn (cw_litfires_s01_answers_holds.heap_1 w.params) mg "state" LF.sState := by
      refine' LF.fn_mk KX G ?a ?l ?c ?k; (case a => k_is); (case l => k_is); (case c => k_is); (case k => k_is)
    have f_end_of_call : LF.HasFn (cw_litfires_s01_answers_holds.heap_1 w.params) mg "end_of_call" LF.sEnd := by
      refine' LF.fn_mk KX G ?a ?l ?c ?k; (case a => k_is); (case l => k_is); (case c => k_is); (case k => k_is)
    have f_answers : LF.HasFn (cw_litfires_s01_answers_holds.heap_1 w.params) mg "answers" LF.sAnswers := by
      refine' LF.fn_mk KX G ?a ?l ?c ?k; (case a => k_is); (case l => k_is); (case c => k_is); (case k => k_is)
    have f_answer : LF.HasFn (cw_litfires_s01_answers_holds.heap_1 w.params) mg "answer" LF.sAnswer := by
      refine' LF.fn_mk KX G ?a ?l ?c ?k; (case a => k_is); (case l => k_is); (case c => k_is); (case k => k_is)
    have kc2 : LF.KI mg "NO_SUCH_PLACE" (-2) := by
      refine' LF.ki_mk KX G ?a; (case a => k_is)
    have kc6 : LF.KI mg "NOT_SO" (-6) := by
      refine' LF.ki_mk KX G ?a; (case a => k_is)
    have kc17 : LF.KI mg "SO_ALREADY" (-17) := by
      refine' LF.ki_mk KX G ?a; (case a => k_is)
    have kc22 : LF.KI mg "OUT_OF_RANGE" (-22) := by
      refine' LF.ki_mk KX G ?a; (case a => k_is)
    have kc28 : LF.KI mg "TOO_MANY" (-28) := by
      refine' LF.ki_mk KX G ?a; (case a => k_is)
    have kc33 : LF.KI mg "THERE_IS_NONE" (-33) := by
      refine' LF.ki_mk KX G ?a; (case a => k_is)
    have klong : LF.KI mg "LONGEST_ROW" 9 := by
      refine' LF.ki_mk KX G ?a; (case a => k_is)
    have kroot : LF.KI mg "MOST_ROOTED" 1000 := by
      refine' LF.ki_mk KX G ?a; (case a => k_is)
    have ktp : LF.KI mg "MOST_PLACES_OF_A_TREE" 7 := by
      refine' LF.ki_mk KX G ?a; (case a => k_is)
    have ktj : LF.KI mg "MOST_JOINS_OF_A_TREE" 9 := by
      refine' LF.ki_mk KX G ?a; (case a => k_is)
    have kc11 : LF.KI mg "NOT_BEGUN" (-11) := by
      refine' LF.ki_mk KX G ?a; (case a => k_is)
    have kc0 : LF.KI mg "BEGIN" 0 := by
      refine' LF.ki_mk KX G ?a; (case a => k_is)
    have kmost : LF.KI mg "MOST_PLACES" (9) := by
      refine' LF.ki_mk KX G ?a; (case a => k_is)
    have kleast : LF.KI mg "LEAST_RING" (3) := by
      refine' LF.ki_mk KX G ?a; (case a => k_is)
    have kRow : LF.KI mg "ROW" 11 := by
      refine' LF.ki_mk KX G ?a; (case a => k_is)
    have mmax : mg "max" = none := by
      refine' PySem.W.mg_none_of KX G ?a; (case a => k_is)
    have mmin : mg "min" = none := by
      refine' PySem.W.mg_none_of KX G ?a; (case a => k_is)
    have mrange : mg "range" = none := by
      refine' PySem.W.mg_none_of KX G ?a; (case a => k_is)
    have mlen : mg "len" = none := by
      refine' PySem.W.mg_none_of KX G ?a; (case a => k_is)
    have menumerate : mg "enumerate" = none := by
      refine' PySem.W.mg_none_of KX G ?a; (case a => k_is)
    have tG : LF.TxtG (cw_litfires_s01_answers_holds.heap_1 w.params) 373 := by
      refine' LF.txtG_mk (C := 373) ?a1 ?a2 ?a3 ?a4 ?a5 ?a6 ?a7; (case a1 => k_is); (case a2 => k_is); (case a3 => k_is); (case a4 => k_is); (case a5 => k_is); (case a6 => k_is); (case a7 => k_is)
    have hI : ∃ (f : Addr) (fd : FuncData), L2.Mk (cw_litfires_s01_answers_holds.heap_1 w.params) 373 f ∧ L2.Fun (cw_litfires_s01_answers_holds.heap_1 w.params) "__init__" "Ground.__init__" LF.sInit f fd := by
      refine' LF.init_mk ?a1 ?a2 ?a3 ?a4 ?a5 ?a6 ?a7; (case a1 => k_is); (case a2 => k_is); (case a3 => k_is); (case a4 => k_is); (case a5 => k_is); (case a6 => k_is); (case a7 => k_is)
    have hLay : LF.HasMeth (cw_litfires_s01_answers_holds.heap_1 w.params) 373 "lay" "Ground.lay" LF.sLay := by
      refine' LF.meth_mk ?a1 ?a2 ?a3 ?a4 ?a5; (case a1 => k_is); (case a2 => k_is); (case a3 => k_is); (case a4 => k_is); (case a5 => k_is)
    have hNb : LF.NbAt (cw_litfires_s01_answers_holds.heap_1 w.params) mg := by
      refine' LF.nb_mk KX G ?a1 ?a2 ?a3 ?a4 ?a5; (case a1 => k_is); (case a2 => k_is); (case a3 => exact rfl); (case a4 => exact rfl); (case a5 => repeat (first | exact .nil | refine .cons ⟨_, rfl⟩ ?_))
    have tab : ∀ P : Program, LF.TabAt P w (cw_litfires_s01_answers_holds.heap_1 w.params) mg := by
      intro P
      refine' LF.tab_mk KX G ?a1 ?a2 ?a3 ?a4 ?a5 ?a6 ?a7 ?m0 ?m1 ?m2 ?m3 ?m4 ?m5 ?m6 ?m7 ?m8 ?m9 ?m10 ?m11 ?m12 ?m13 ?m14 ?m15 ?m16 ?m17 ?m18 ?m19 ?m20 ?m21
      (case a1 => k_is); (case a2 => k_is); (case a3 => exact rfl); (case a4 => exact rfl); (case a5 => exact rfl); (case a6 => repeat (first | exact .nil | refine .cons rfl ?_)); (case a7 => decide)
      all_goals k_is
    have T : LF.Txt (cw_litfires_s01_answers_holds.heap_1 w.params) mg 373 := ⟨tG, ⟨⟨mrange, mlen⟩, menumerate⟩, ⟨kc2, kc6, kc17, kc22, kc28, kc33, klong, kroot, ktp, ktj, kmost, kleast, mmax, mmin⟩, kRow, hNb, mgC, hI, hLay, f_everything, f_places_of, f_near_places, f_spread, f_all_spreads, f_burnt_by, f_one_longer, f_shortest_row, f_fewest_turns, f_first_row_of, f_reached, f_distance, f_part_sizes, f_choices, f_how_many_parts, f_first_tree, f_is_missing, f_near, f_burnt_now, f_turns_now, f_counted, f_pair_of, f_in_a_row, f_joins_of_a_line, f_joining_refused, f_parting_refused, f_begin, f_line, f_ring, f_join, f_part, f_light, f_out, f_burns, f_left, f_turns, f_best, f_row, f_can, f_within, f_with_join, f_without_join, f_far, f_root, f_finish, f_parts, f_tree, f_state, f_end_of_call, f_answers⟩
    exact LF.whole_of (n := 10) (C := 373) T hmg fun base => LF.dAnswer T f_answer kc11 kc0 (tab _)
  case S =>
    intro K H xs a hO hwi hask hx
    cases hx with
    | cons h1 h2 =>
      cases h2
      cases h1 with
      | lst hs ha =>
        have e := L2.ints_dw a.1 _ ha
        subst e
        have q : ((Codec.inLen 0 5600 a.1 && a.1.all (Codec.inInt 0 4294967295)) && true) = true := hwi
        rw [Bool.and_eq_true, Bool.and_eq_true] at q
        obtain ⟨cs, g1, g2, g3, g4, g5⟩ := LF.answers_runs (l := a.1) hask
        refine ⟨_, cs, rfl, ?_, ?_, g1, ?_, fun p H' hp => ?_⟩
        · rw [← g2]; exact hs
        · rw [← g2]; exact (Codec.inNat_iff.mp q.1.1).2
        · rw [← g4]; exact g5
        · show L2.Dw K H' (.ref p) (.list ((PySu120.answers a.1).map WData.int))
          rw [g4]
          exact .lst (L2.SqL.of hp) (L2.dw_ints _)

end

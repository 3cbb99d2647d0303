import PyProof.Rows.All
import Wide.All
import OpenK.AllK
import Wide.FinOn
import PyProof.EqAt
import PyProof.EqKinds
import PyProof.TupleCall
import KE.BitLaws
import Open.SpecLaws
import KE.OsHead
import KE.OsGo
import KE.KSortTupG
import KE.KMinKey
import PySem.Challenge.RW_roadsclosed_s01_answers
set_option Elab.async false
set_option linter.all false
set_option maxRecDepth 100000
namespace L2
open PySem PySem.Spec PyProof.Rows

abbrev Key := Sum Int Str
def keyIs : Key → Value → Bool
  | .inl k, v => Value.isInt k v
  | .inr x, v => Value.isStrOf x v
def keyH (w : World) : Key → Int
  | .inl k => hashInt k
  | .inr x => hashStr w x
theorem keyIs_shape : ∀ {k : Key} {v : Value}, keyIs k v = true → (∃ i t, k = Sum.inl i ∧ v = Value.int i t) ∨ (∃ x t, k = Sum.inr x ∧ v = Value.str x t)
  | .inl i, v, h => by
    obtain ⟨t, e⟩ := Value.isInt_shape (k := i) (v := v) h
    exact .inl ⟨i, t, rfl, e⟩
  | .inr x, v, h => by
    obtain ⟨t, e⟩ := Value.isStrOf_shape (x := x) (v := v) h
    exact .inr ⟨x, t, rfl, e⟩
theorem keyIs_int (i : Int) (t : Tok) : keyIs (.inl i) (.int i t) = true := by simp [keyIs, Value.isInt]
theorem keyIs_str (x : Str) (t : Tok) : keyIs (.inr x) (.str x t) = true := by simp [keyIs, Value.isStrOf]
theorem key_ll (a b : Int) : decide ((Sum.inl a : Key) = Sum.inl b) = (a == b) := by
  by_cases e : a = b
  · subst e; simp
  · have h : ¬ (Sum.inl a : Key) = Sum.inl b := fun q => e (Sum.inl.inj q)
    rw [decide_eq_false h]
    exact (beq_eq_false_iff_ne.mpr e).symm
theorem key_rr (a b : Str) : decide ((Sum.inr a : Key) = Sum.inr b) = decide (a = b) := by
  by_cases e : a = b
  · subst e; simp
  · have h : ¬ (Sum.inr a : Key) = Sum.inr b := fun q => e (Sum.inr.inj q)
    rw [decide_eq_false h, decide_eq_false e]
theorem key_lr (a : Int) (b : Str) : decide ((Sum.inl a : Key) = Sum.inr b) = false := decide_eq_false (fun q => nomatch q)
theorem key_rl (a : Str) (b : Int) : decide ((Sum.inr a : Key) = Sum.inl b) = false := decide_eq_false (fun q => nomatch q)

def mixKind (prog : Program) (w : World) : PySem.KeyKind prog w Key where
  is := keyIs
  hash := keyH w
  inj := fun v a b ha hb => by
    rcases keyIs_shape ha with ⟨i, t, rfl, rfl⟩ | ⟨x, t, rfl, rfl⟩
    · rcases keyIs_shape hb with ⟨j, u, rfl, e⟩ | ⟨y, u, rfl, e⟩
      · injection e with e1 _; rw [e1]
      · exact nomatch e
    · rcases keyIs_shape hb with ⟨j, u, rfl, e⟩ | ⟨y, u, rfl, e⟩
      · exact nomatch e
      · injection e with e1 _; rw [e1]
  byValue := fun k v h => by
    rcases keyIs_shape h with ⟨i, t, rfl, rfl⟩ | ⟨x, t, rfl, rfl⟩ <;> rfl
  pyHash := fun hv h => by
    rcases keyIs_shape hv with ⟨i, t, rfl, rfl⟩ | ⟨x, t, rfl, rfl⟩
    · exact wpAny_pyHash_int h
    · exact wpAny_pyHash_str h
  eqBool := fun hu hv h => by
    rcases keyIs_shape hu with ⟨i, t, rfl, rfl⟩ | ⟨x, t, rfl, rfl⟩
    · rcases keyIs_shape hv with ⟨j, u, rfl, rfl⟩ | ⟨y, u, rfl, rfl⟩
      · rw [key_ll] at h; exact wpAny_eqBool_int h
      · rw [key_lr] at h; exact SeqAt.EqAt.int_str i t y u _ _ _ _ h
    · rcases keyIs_shape hv with ⟨j, u, rfl, rfl⟩ | ⟨y, u, rfl, rfl⟩
      · rw [key_rl] at h; exact SeqAt.EqAt.str_int x t j u _ _ _ _ h
      · rw [key_rr] at h; exact wpAny_eqBool_str h
  «strs» := fun k x t v h => by
    rcases keyIs_shape h with ⟨i, u, rfl, e⟩ | ⟨y, u, rfl, e⟩
    · exact nomatch e
    · injection e with e1 _
      subst e1
      cases v <;> rfl

theorem mixKind_int (prog : Program) (w : World) (i : Int) (t : Tok) : (mixKind prog w).is (.inl i) (.int i t) = true := keyIs_int i t
theorem mixKind_str (prog : Program) (w : World) (x : Str) (t : Tok) : (mixKind prog w).is (.inr x) (.str x t) = true := keyIs_str x t
end L2

namespace L2
open PySem PySem.Spec PyProof.Rows

inductive V where
  | non | bl (b : Bool) | int (i : Int) | str (x : Str) | byt (b : Array UInt8) | flt (b : UInt64) | ref (a : Addr) | ty (n : String)
  deriving DecidableEq

def RelV : V → Value → Prop
  | .non, u => u = Value.none
  | .bl b, u => u = Value.bool b
  | .int i, u => ∃ t, u = Value.int i t
  | .str x, u => ∃ t, u = Value.str x t
  | .byt b, u => ∃ t, u = Value.bytes b t
  | .flt b, u => ∃ t, u = Value.float b t
  | .ref a, u => u = Value.ref a
  | .ty n, u => u = Value.type n

abbrev Vals : List V → List Value → Prop := Paired RelV
theorem Vals.length {xs : List V} {us : List Value} (r : Vals xs us) : xs.length = us.length := Paired.length r
theorem Vals.get : ∀ {xs : List V} {us : List Value} {i : Nat} {x : V}, Vals xs us → xs[i]? = some x → ∃ u, us[i]? = some u ∧ RelV x u
  | _, _, _, _, .nil, e => by simp at e
  | _, _, 0, _, .cons r _, e => by simp at e; subst e; exact ⟨_, rfl, r⟩
  | _, _, i + 1, x, .cons _ t, e => by
    obtain ⟨u, h1, h2⟩ := Vals.get (i := i) (x := x) t (by simpa using e)
    exact ⟨u, by simpa using h1, h2⟩
theorem Vals.set {x : V} {u : Value} (r : RelV x u) : ∀ {xs : List V} {us : List Value} (i : Nat), Vals xs us → Vals (xs.set i x) (us.set i u)
  | _, _, _, .nil => .nil
  | _, _, 0, .cons _ t => .cons r t
  | _, _, i + 1, .cons q t => .cons q (Vals.set r i t)
theorem Vals.append : ∀ {xs ys : List V} {us ws : List Value}, Vals xs us → Vals ys ws → Vals (xs ++ ys) (us ++ ws)
  | _, _, _, _, .nil, s => s
  | _, _, _, _, .cons r t, s => .cons r (Vals.append t s)
theorem Vals.take : ∀ {xs : List V} {us : List Value} (n : Nat), Vals xs us → Vals (xs.take n) (us.take n)
  | _, _, 0, _ => .nil
  | _, _, _ + 1, .nil => .nil
  | _, _, n + 1, .cons r t => .cons r (Vals.take n t)
theorem Vals.drop : ∀ {xs : List V} {us : List Value} (n : Nat), Vals xs us → Vals (xs.drop n) (us.drop n)
  | _, _, 0, r => r
  | _, _, _ + 1, .nil => .nil
  | _, _, n + 1, .cons _ t => Vals.drop n t
def RelO : Option V → Option Value → Prop
  | some v, some u => RelV v u
  | none, none => True
  | _, _ => False
def KV {κ : Type} : List (κ × V) → List (κ × Value) → Prop := Paired fun (p : κ × V) (q : κ × Value) => p.1 = q.1 ∧ RelV p.2 q.2

def kV : Key → V
  | .inl i => .int i
  | .inr x => .str x

inductive HO where
  /-- a list -/
  | lst (xs : List V)
  /-- a tuple (never changes) -/
  | tup (xs : List V)
  /-- a dict whose keys are ints and texts; one whose keys are tuples of ints and texts (the empty one is both) -/
  | dK (kvs : List (Key × V)) | dT (kvs : List (List Key × V))
  /-- a set of ints: its members, its size -/
  | set (S : Int → Bool) (n : Nat)
  /-- an instance of the class at C, its dict at dx, its attributes -/
  | ins (C dx : Addr) (fs : List (Str × V))
  /-- the dict of the instance at x -/
  | own (x : Addr)
  /-- the dict of an exception -/
  | xd (fs : List (Str × V))
  /-- a bound method, f of x -/
  | met (f x : Addr)
  /-- a range object lo, lo + 1, .. below hi -/
  | rng (lo hi : Int)
  /-- a thing that is known to the object (the script; a dict while a loop walks it): read, never written while it is so -/
  | frz (o : Obj) (u : HO)
  /-- a code object's table -/
  | tbl (ps : Array Value)
  /-- any other thing, by what is true of its one object (a def of one's own: SetO a S n := HO.ext fun h => ..) -/
  | ext (φ : Heap → Prop)

abbrev Hp := Addr → Option HO
def upd (H : Hp) (a : Addr) (o : HO) : Hp := fun b => if b = a then some o else H b
theorem upd_same {H : Hp} {a : Addr} {o : HO} : upd H a o a = some o := by unfold upd; rw [if_pos rfl]
theorem upd_ne {H : Hp} {a b : Addr} {o : HO} (h : b ≠ a) : upd H a o b = H b := by unfold upd; rw [if_neg h]
theorem upd_upd {H : Hp} {a : Addr} {o u : HO} : upd (upd H a o) a u = upd H a u := by
  funext b; unfold upd; split <;> rfl
theorem ne_of {H : Hp} {a b : Addr} {o u : HO} (h : H a = some o) (h' : H b = some u) (d : o ≠ u) : a ≠ b := by
  intro e; subst e; rw [h] at h'; exact d (Option.some.inj h')
theorem ne_of_none {H : Hp} {a b : Addr} {o : HO} (h : H a = some o) (h' : H b = none) : a ≠ b := by
  intro e; subst e; rw [h] at h'; cases h'

section
variable (P : Program) (w : World)
def ObjOk (H : Hp) (h : Heap) (a : Addr) : HO → Prop
  | .lst xs => xs.length ≤ sizeLine ∧ ∃ (its : List Value) (n : Nat), Vals xs its ∧ h.get? a = some { cls := .type "list", data := .seq its.toArray n }
  | .tup xs => xs.length ≤ sizeLine ∧ ∃ its : List Value, Vals xs its ∧ IsTup h a its.toArray
  | .dK kvs => kvs.length ≤ sizeLine ∧ (a == sysModules) = false ∧ ∃ vs, KV kvs vs ∧ h.DictOf (mixKind P w) a vs
  | .dT kvs => kvs.length ≤ sizeLine ∧ (a == sysModules) = false ∧ ∃ xs : List (List Key × Addr × Value),
      Paired (fun (p : List Key × V) (q : List Key × Addr × Value) => p.1 = q.1 ∧ H q.2.1 = some (.tup (p.1.map kV)) ∧ RelV p.2 q.2.2) kvs xs ∧
      ∃ o es ep, h.get? a = some o ∧ o.ExactDict ∧ o.data = .dict es ep ∧ es.toList = xs.map (entryOfKey (tupleKind (mixKind P w))) ∧ (xs.map (·.1)).Nodup
  | .set S n => h.SetOf (intKind P w) a S n
  | .ins C dx fs => H dx = some (.own a) ∧ fs.length ≤ 1000 ∧ dx ≠ a ∧ h.get? a = some (PySem.W.instObj C dx) ∧
      ∃ mA, h.Ns1 dx mA ∧ (∀ f, RelO (fs.lookup f) (mA f)) ∧ PySem.Within mA (fs.map (·.1))
  | .own _ => ∃ o, h.get? a = some o
  | .xd fs => ∃ mA, h.Ns1 a mA ∧ ∀ f, RelO (fs.lookup f) (mA f)
  | .rng lo hi => ∃ t u v, h.get? a = some { cls := .type "range", data := .fields #[.int lo t, .int hi u, .int 1 v] }
  | .frz o u => h.get? a = some o ∧ ObjOk H h a u
  | .tbl ps => h.get? a = some { cls := .none, data := .fields ps }
  | .met f x => h.get? a = some (PySem.W.methodObj (.ref f) (.ref x))
  | .ext φ => φ h ∧ (∃ o, h.get? a = some o) ∧ ∀ h1 h2 : Heap, φ h1 → (∀ o, h1.get? a = some o → h2.get? a = some o) → φ h2
def HOk (H : Hp) (h : Heap) : Prop := ∀ a o, H a = some o → ObjOk P w H h a o
end

section
variable {P : Program} {w : World} {H H' : Hp} {h h' : Heap} {a : Addr} {o : HO}
theorem ObjOk.lt (x : ObjOk P w H h a o) : a < h.objs.size := by
  cases o with
  | lst xs => obtain ⟨_, _, _, _, e⟩ := x; exact Heap.lt_size e
  | tup xs => obtain ⟨_, _, _, p⟩ := x; exact p.lt
  | dK kvs => obtain ⟨_, _, _, _, o, _, _, e, _⟩ := x; exact Heap.lt_size e
  | dT kvs => obtain ⟨_, _, _, _, o, _, _, e, _⟩ := x; exact Heap.lt_size e
  | set S n => obtain ⟨o, _, _, _, e, _⟩ := x; exact Heap.lt_size e
  | ins C dx fs => obtain ⟨_, _, _, e, _⟩ := x; exact Heap.lt_size e
  | own y => obtain ⟨_, e⟩ := x; exact Heap.lt_size e
  | xd fs => obtain ⟨_, ⟨_, _, _, e, _⟩, _⟩ := x; exact Heap.lt_size e
  | rng lo hi => obtain ⟨_, _, _, e⟩ := x; exact Heap.lt_size e
  | frz ob u => obtain ⟨e, _⟩ := x; exact Heap.lt_size e
  | tbl ps => exact Heap.lt_size (show h.get? a = some _ from x)
  | met f y => exact Heap.lt_size (show h.get? a = some _ from x)
  | ext φ => obtain ⟨_, ⟨_, e⟩, _⟩ := x; exact Heap.lt_size e
theorem Paired.mapP {α β : Type} {F G : α → β → Prop} : ∀ {l₁ : List α} {l₂ : List β}, Paired F l₁ l₂ → (∀ a b, F a b → G a b) → Paired G l₁ l₂
  | _, _, .nil, _ => .nil
  | _, _, .cons r t, f => .cons (f _ _ r) (Paired.mapP t f)
theorem Paired.imp' {α β : Type} {F G : α → β → Prop} (f : ∀ a b, F a b → G a b) {l₁ : List α} {l₂ : List β} (r : Paired F l₁ l₂) : Paired G l₁ l₂ := Paired.mapP r f
theorem ObjOk.stay (x : ObjOk P w H h a o) (k : ∀ b u, (b = a ∨ H b = some (.own a)) → h.get? b = some u → h'.get? b = some u)
    (ho : ∀ b, H b = some (.own a) → H' b = some (.own a)) (ht : ∀ b xs, H b = some (.tup xs) → H' b = some (.tup xs)) : ObjOk P w H' h' a o := by
  induction o with
  | lst xs => obtain ⟨z, its, n, r, e⟩ := x; exact ⟨z, its, n, r, k _ _ (.inl rfl) e⟩
  | tup xs => obtain ⟨z, its, r, ob, e, c⟩ := x; exact ⟨z, its, r, ob, k _ _ (.inl rfl) e, c⟩
  | dK kvs => obtain ⟨z, y, vs, r, ob, es, ep, e, c⟩ := x; exact ⟨z, y, vs, r, ob, es, ep, k _ _ (.inl rfl) e, c⟩
  | dT kvs =>
    obtain ⟨z, y, xs, r, ob, es, ep, e, c⟩ := x
    exact ⟨z, y, xs, Paired.mapP r fun p q z => ⟨z.1, ht _ _ z.2.1, z.2.2⟩, ob, es, ep, k _ _ (.inl rfl) e, c⟩
  | set S n => obtain ⟨ob, es, ep, t, e, c⟩ := x; exact ⟨ob, es, ep, t, k _ _ (.inl rfl) e, c⟩
  | ins C dx fs =>
    obtain ⟨d, z, ne, e, mA, ⟨od, es, ep, e2, c⟩, r⟩ := x
    exact ⟨ho _ d, z, ne, k _ _ (.inl rfl) e, mA, ⟨od, es, ep, k _ _ (.inr d) e2, c⟩, r⟩
  | own y => obtain ⟨ob, e⟩ := x; exact ⟨ob, k _ _ (.inl rfl) e⟩
  | xd fs => obtain ⟨mA, ⟨od, es, ep, e, c⟩, r⟩ := x; exact ⟨mA, ⟨od, es, ep, k _ _ (.inl rfl) e, c⟩, r⟩
  | rng lo hi => obtain ⟨t, u, v, e⟩ := x; exact ⟨t, u, v, k _ _ (.inl rfl) e⟩
  | frz ob u ih => obtain ⟨e, q⟩ := x; exact ⟨k _ _ (.inl rfl) e, ih q⟩
  | tbl ps =>
    have e : h.get? a = some { cls := .none, data := .fields ps } := x
    show h'.get? a = some { cls := .none, data := .fields ps }
    exact k a _ (.inl rfl) e
  | met f y =>
    have e : h.get? a = some (PySem.W.methodObj (.ref f) (.ref y)) := x
    show h'.get? a = some (PySem.W.methodObj (.ref f) (.ref y))
    exact k a _ (.inl rfl) e
  | ext φ => obtain ⟨p, ⟨o, e⟩, st⟩ := x; exact ⟨st _ _ p fun o q => k _ _ (.inl rfl) q, ⟨o, k _ _ (.inl rfl) e⟩, st⟩
theorem HOk.lt (x : HOk P w H h) (e : H a = some o) : a < h.objs.size := (x a o e).lt
theorem HOk.fresh (x : HOk P w H h) (e : h.objs.size ≤ a) : H a = none := by
  cases q : H a with
  | none => rfl
  | some u => exact absurd (Nat.lt_of_lt_of_le (x.lt q) e) (Nat.lt_irrefl _)
theorem HOk.kept (x : HOk P w H h) (k : ∀ b u, h.get? b = some u → h'.get? b = some u) : HOk P w H h' := fun a o e =>
  (x a o e).stay (fun b u _ q => k b u q) (fun _ q => q) fun _ _ q => q
theorem HOk.laid (x : HOk P w H h) (k : ∀ b u, h.get? b = some u → h'.get? b = some u) (hp : h.objs.size ≤ a) (new : ObjOk P w (upd H a o) h' a o) : HOk P w (upd H a o) h' := fun b u e => by
  have hn := x.fresh hp
  by_cases hb : b = a
  · subst hb; rw [upd_same] at e; cases e; exact new
  · rw [upd_ne hb] at e
    exact (x b u e).stay (fun c v _ q => k c v q) (fun c q => by rw [upd_ne (ne_of_none q hn)]; exact q) fun c xs q => by rw [upd_ne (ne_of_none q hn)]; exact q
end

def Rd (H : Hp) (a : Addr) (u : HO) : Prop := H a = some u ∨ ∃ o, H a = some (.frz o u)
theorem Rd.ok {P : Program} {w : World} {H : Hp} {h : Heap} {a : Addr} {u : HO} (r : Rd H a u) (x : HOk P w H h) : ObjOk P w H h a u := by
  rcases r with r | ⟨o, r⟩
  · exact x a u r
  · obtain ⟨_, q⟩ := x a _ r
    exact q
def Mut : Option HO → Prop
  | some (.lst _) => True
  | some (.dK _) => True
  | some (.dT _) => True
  | some (.set _ _) => True
  | some (.ins _ _ _) => True
  | some (.ext _) => True
  | _ => False
section
variable {P : Program} {w : World} {H : Hp} {h h' : Heap} {x e : Addr} {o' : HO}
theorem HOk.write (ok : HOk P w H h) (mu : Mut (H x)) (he : e = x ∨ H e = some (.own x)) (k : ∀ b u, b ≠ e → h.get? b = some u → h'.get? b = some u) (heo : ∃ u, h'.get? e = some u)
    (new : ObjOk P w (upd H x o') h' x o') : HOk P w (upd H x o') h' := fun b u q => by
  have nown : ∀ c y, H c = some (.own y) → c ≠ x := fun c y r z => by subst z; rw [r] at mu; exact mu
  have ntup : ∀ c xs, H c = some (.tup xs) → c ≠ x := fun c xs r z => by subst z; rw [r] at mu; exact mu
  by_cases hb : b = x
  · subst hb; rw [upd_same] at q; cases q; exact new
  · rw [upd_ne hb] at q
    by_cases hbe : b = e
    · have q' : H b = some (.own x) := by
        rcases he with z | z
        · exact absurd (hbe.trans z) hb
        · rw [hbe]; exact z
      rw [q] at q'; cases q'
      obtain ⟨v, hv⟩ := heo
      exact ⟨v, by rw [hbe]; exact hv⟩
    · refine (ok b u q).stay (fun c v hc r => k c v ?_ r) (fun c r => by rw [upd_ne (nown c b r)]; exact r) fun c xs r => by rw [upd_ne (ntup c xs r)]; exact r
      rcases hc with rfl | hc
      · exact hbe
      · rintro rfl
        rcases he with z | z
        · exact nown c b hc z
        · rw [hc] at z; cases z; exact hb rfl
end

structure Un (fs ex : List Addr) (H H' : Hp) (h h' : Heap) : Prop where
  keep : ∀ b o, h.get? b = some o → H b = none → b ∉ fs → b ∉ ex → h'.get? b = some o
  slot : ∀ b o, h.get? b = some o → H b = none → b ∈ fs → b ∉ ex → ∃ sl, h'.get? b = some { o with slots := sl }
  free : ∀ b o, h.get? b = some o → H b = none → b ∉ ex → H' b = none
  there : ∀ b o, h.get? b = some o → b ∉ ex → ∃ o', h'.get? b = some o'
  tups : ∀ b xs, H b = some (.tup xs) → H' b = some (.tup xs)
  frzs : ∀ b o u, H b = some (.frz o u) → H' b = some (.frz o u)
  tbls : ∀ b ps, H b = some (.tbl ps) → ∃ more, H' b = some (.tbl (ps ++ more))
section
variable {fs fs' ex ex' : List Addr} {H H1 H2 : Hp} {h h1 h2 h' : Heap} {a x e : Addr} {o : HO}
theorem Un.any (u : Un fs ex H H1 h h1) {b : Addr} {ob : Obj} (q : h.get? b = some ob) (n : H b = none) (hx : b ∉ ex) : ∃ sl, h1.get? b = some { ob with slots := sl } := by
  by_cases hb : b ∈ fs
  · exact u.slot b ob q n hb hx
  · exact ⟨ob.slots, u.keep b ob q n hb hx⟩
theorem Un.kept (k : ∀ b u, h.get? b = some u → h'.get? b = some u) : Un fs ex H H h h' :=
  ⟨fun b ob q _ _ _ => k b ob q, fun b ob q _ _ _ => ⟨ob.slots, k b ob q⟩, fun _ _ _ n _ => n, fun b ob q _ => ⟨ob, k b ob q⟩, fun _ _ q => q, fun _ _ _ q => q, fun _ ps q => ⟨#[], by rw [q]; simp⟩⟩
theorem Un.refl : Un fs ex H H h h := Un.kept fun _ _ q => q
theorem Un.laid (k : ∀ b u, h.get? b = some u → h'.get? b = some u) (hp : h.objs.size ≤ a) (hn : H a = none) : Un fs ex H (upd H a o) h h' where
  keep := fun b u q _ _ _ => k b u q
  slot := fun b u q _ _ _ => ⟨u.slots, k b u q⟩
  free := fun b u q n _ => by rw [upd_ne (Nat.ne_of_lt (Nat.lt_of_lt_of_le (Heap.lt_size q) hp))]; exact n
  there := fun b u q _ => ⟨u, k b u q⟩
  tups := fun b xs q => by rw [upd_ne (ne_of_none q hn)]; exact q
  frzs := fun b u xs q => by rw [upd_ne (ne_of_none q hn)]; exact q
  tbls := fun b ps q => ⟨#[], by rw [upd_ne (ne_of_none q hn), q]; simp⟩
theorem Un.write (mu : Mut (H x)) (he : e = x ∨ H e = some (.own x)) (k : ∀ b u, b ≠ e → h.get? b = some u → h'.get? b = some u) (heo : ∃ u, h'.get? e = some u) : Un fs ex H (upd H x o) h h' := by
  have hx : ∀ b, H b = none → b ≠ x := fun b n z => by subst z; rw [n] at mu; exact mu
  have hb : ∀ b, H b = none → b ≠ e := fun b n z => by
    subst z
    rcases he with r | r
    · exact hx b n r
    · rw [n] at r; cases r
  have hm : ∀ b u, H b = some u → ¬ Mut (some u) → b ≠ x := fun b u q nm z => by subst z; rw [q] at mu; exact nm mu
  refine ⟨fun b u q n _ _ => k b u (hb b n) q, fun b u q n _ _ => ⟨u.slots, k b u (hb b n) q⟩, fun b u q n _ => by rw [upd_ne (hx b n)]; exact n, fun b u q _ => ?_,
    fun b xs q => by rw [upd_ne (hm b _ q fun z => z)]; exact q, fun b u xs q => by rw [upd_ne (hm b _ q fun z => z)]; exact q, fun b ps q => ⟨#[], by rw [upd_ne (hm b _ q fun z => z), q]; simp⟩⟩
  by_cases hbe : b = e
  · subst hbe; exact heo
  · exact ⟨u, k b u hbe q⟩
end

def trk (h : Heap) (H : Hp) : List Addr := (List.range h.objs.size).filter fun a => (H a).isSome
def hidT (h : Heap) (H : Hp) : Heap := PySem.W.hideAll h (trk h H)
theorem hidT_size (h : Heap) (H : Hp) : (hidT h H).objs.size = h.objs.size := PySem.W.hideAll_size _ _
theorem hidT_get {h : Heap} {H : Hp} {b : Addr} {o : Obj} (e : h.get? b = some o) (n : H b = none) : (hidT h H).get? b = some o :=
  PySem.W.hideAll_get _ e fun hm => by
    have q : (H b).isSome = true := (List.mem_filter.mp hm).2
    rw [n] at q; simp at q
theorem of_hidT {h : Heap} {H : Hp} {b : Addr} {o : Obj} (e : (hidT h H).get? b = some o) : h.get? b = some o ∧ H b = none := by
  have e' : h.get? b = some o := PySem.W.of_hideAll (trk h H) e
  refine ⟨e', ?_⟩
  cases q : H b with
  | none => rfl
  | some x =>
    have hm : b ∈ trk h H := List.mem_filter.mpr ⟨List.mem_range.mpr (Heap.lt_size e'), by simp [q]⟩
    have z : (hidT h H).get? b = none := PySem.W.hideAll_none (trk h H) hm
    rw [z] at e; cases e

def allNews (g h : Heap) (L : Addr) : List (Addr × Obj) := (List.range h.objs.size).filterMap fun a => if a = L ∨ (g.get? a).isSome = true then none else (h.get? a).map fun o => (a, o)
def rest (g h : Heap) (L d : Addr) : List (Addr × Obj) := (allNews g h L).filter fun p => decide (p.1 ≠ d)
end L2

namespace L2
open PySem PySem.Spec PyProof.Rows

structure Mod (K : PySem.W.Frag) (mg : Str → Option Value) (base : Heap) : Prop where
  kin : K.In base
  glob : base.Ns mainGlobals mg
  blt : ∃ mb, base.Ns builtinsNs mb ∧ ∀ x : Str, x ≠ "__name__" → mb x = bootBuiltins x
  nolimit : base.NoLimit

structure Cx where
  prog : Program
  w : World
  K : PySem.W.Frag
  mg : Str → Option Value
  base : Heap
  A : Around
  N : List Str
  s_0 : Shared
  H_0 : Hp
  env : Env
  outer : List Env
  stack : List Env
  ex : List Addr
  fn : Str → Bool
  calm : Bool
  pn : List (Addr × Obj)
  xe : Value → Shared → Prop
def frs (l : List Env) : List Addr := l.filterMap (·.frame)
abbrev Cx.fs (X : Cx) : List Addr := frs X.outer

def Vis (sc : Scope) (x : Str) : Prop := sc.names.lookup x = some .local ∨ sc.names.lookup x = some .cell ∨ sc.names.lookup x = some .free
def Loc (sc : Scope) (x : Str) : Prop := sc.names.lookup x = some .local ∨ sc.names.lookup x = some .cell
def Look (env : Env) (h : Heap) (m : Str → Option Value) (x : Str) (u : Value) : Prop :=
  (env.kindOf x = some .local ∧ m x = some u) ∨ ((env.kindOf x = some .cell ∨ env.kindOf x = some .free) ∧ ∃ c, env.cells.lookup x = some c ∧ h.IsCell c (some u))

structure Cx.Ok (X : Cx) : Prop where
  mod : Mod X.K X.mg X.base
  kind : X.env.scope.kind = .function
  glob : X.env.globals = mainGlobals
  blt : X.env.builtins = builtinsNs
  above : X.s_0.heap.objs.size ≤ X.env.locals
  inj : ∀ x y c, X.env.cells.lookup x = some c → X.env.cells.lookup y = some c → x = y
  has : ∀ x, (X.env.kindOf x = some .cell ∨ X.env.kindOf x = some .free) → ∃ c, X.env.cells.lookup x = some c
  cab : ∀ x c, X.fn x = true → X.env.cells.lookup x = some c → X.s_0.heap.objs.size ≤ c
  hd : X.calm = true → X.A.handled = none
  frames : X.A.frames = some X.stack
  stk : X.stack = X.outer ∨ (X.stack = X.env :: X.outer ∧ X.env.frame = some X.env.locals)
  exf : ∀ b ∈ X.ex, b ≠ X.env.locals ∧ ∀ x c, X.env.cells.lookup x = some c → c ≠ b
  bs : ∀ b o, X.base.get? b = some o → X.s_0.heap.get? b = some o ∧ X.H_0 b = none
  bsz : X.base.objs.size ≤ X.s_0.heap.objs.size
  noex : ∀ b o, X.base.get? b = some o → b ∉ X.ex
  exfs : ∀ b ∈ X.ex, b ∉ X.fs
  funs : X.s_0.heap.FunFrames X.base X.outer
  frf : ∀ b ∈ X.fs, X.H_0 b = none

structure Inv (X : Cx) (pins : List (Addr × Obj)) (σ : List (Option V)) (H : Hp) (s : Shared) : Prop where
  ok : X.Ok
  os : s.os = X.s_0.os
  bare : AllBare s.gens
  base : Un X.fs X.ex X.H_0 H X.s_0.heap s.heap
  loc : ∃ m, s.heap.Ns X.env.locals m ∧ ∀ (i : Nat) (x : Str) (v : V), X.N[i]? = some x → σ[i]? = some (some v) → Vis X.env.scope x → ∃ u, RelV v u ∧ Look X.env s.heap m x u
  cell : ∀ x c, X.env.cells.lookup x = some c → ∃ v, s.heap.IsCell c v
  free : H X.env.locals = none
  freeC : ∀ x c, X.env.cells.lookup x = some c → H c = none
  pin : ∀ p ∈ X.pn ++ pins, s.heap.get? p.1 = some p.2 ∧ H p.1 = none ∧ p.1 ≠ X.env.locals ∧ p.1 ∉ X.fs ∧ ∀ v, p.2.data ≠ .cell v
  hok : HOk X.prog X.w H s.heap
  len : σ.length = X.N.length

section
variable {X : Cx} {pins : List (Addr × Obj)} {σ : List (Option V)} {H H' : Hp} {s : Shared} {h' : Heap}

theorem Cx.Ok.nofr (ok : X.Ok) {b : Addr} {o : Obj} (e : X.base.get? b = some o) : b ∉ X.fs := fun hb => by
  have := (ok.funs.mem hb).1
  rw [e] at this; cases this
theorem Inv.bs (I : Inv X pins σ H s) : ∀ b o, X.base.get? b = some o → s.heap.get? b = some o ∧ H b = none := fun b o e =>
  ⟨I.base.keep b o (I.ok.bs b o e).1 (I.ok.bs b o e).2 (I.ok.nofr e) (I.ok.noex b o e), I.base.free b o (I.ok.bs b o e).1 (I.ok.bs b o e).2 (I.ok.noex b o e)⟩
theorem Inv.bk (I : Inv X pins σ H s) : ∀ b o, X.base.get? b = some o → s.heap.get? b = some o := fun b o e => (I.bs b o e).1
theorem Inv.mod (I : Inv X pins σ H s) : Mod X.K X.mg X.base := I.ok.mod
theorem Inv.kIn (I : Inv X pins σ H s) : X.K.In s.heap := I.ok.mod.kin.keeps I.bk
theorem Inv.lt (I : Inv X pins σ H s) : X.env.locals < s.heap.objs.size := let ⟨_, hn, _⟩ := I.loc; hn.lt
theorem Inv.sz (I : Inv X pins σ H s) : X.s_0.heap.objs.size ≤ s.heap.objs.size := Nat.le_trans I.ok.above (Nat.le_of_lt I.lt)
theorem Inv.nofs (I : Inv X pins σ H s) {a : Addr} (h : s.heap.objs.size ≤ a) : a ∉ X.fs := fun hb => by
  obtain ⟨_, o, ho, _⟩ := I.ok.funs.mem hb
  exact absurd (Nat.lt_of_lt_of_le (Heap.lt_size ho) (Nat.le_trans I.sz h)) (Nat.lt_irrefl _)
theorem Inv.cne (I : Inv X pins σ H s) : ∀ x c, X.env.cells.lookup x = some c → c ≠ X.env.locals := fun x c e z => by
  obtain ⟨v, o, ho, hd⟩ := I.cell x c e
  obtain ⟨m, ⟨o', es, ep, ho', hd', _⟩, _⟩ := I.loc
  rw [z, ho'] at ho; cases ho; rw [hd'] at hd; cases hd
theorem Inv.funs (I : Inv X pins σ H s) : s.heap.FunFrames X.base X.outer := by
  have all : ∀ (l : List Env), (∀ b ∈ frs l, b ∈ X.fs) → X.s_0.heap.FunFrames X.base l → s.heap.FunFrames X.base l := by
    intro l
    induction l with
    | nil => intro _ _; trivial
    | cons env r ih =>
      intro hs hl
      obtain ⟨hk, ⟨L, o, hf, hn, ho, hd⟩, hr⟩ := hl
      have hL : L ∈ X.fs := hs L (by unfold frs; rw [List.filterMap_cons, hf]; exact List.mem_cons_self)
      obtain ⟨sl, e⟩ := I.base.slot L o ho (I.ok.frf L hL) hL fun z => I.ok.exfs L z hL
      exact ⟨hk, ⟨L, _, hf, hn, e, hd⟩, ih (fun b hb => hs b (by unfold frs; rw [List.filterMap_cons, hf]; exact List.mem_cons_of_mem _ hb)) hr⟩
  exact all X.outer (fun _ hb => hb) I.ok.funs

theorem Inv.stack (I : Inv X pins σ H s) : s.heap.FunFrames X.base X.stack := by
  rcases I.ok.stk with e | ⟨e, hf⟩
  · rw [e]; exact I.funs
  · rw [e]
    obtain ⟨m, hn, _⟩ := I.loc
    refine .cons (by rw [I.ok.kind]; decide) hf hn ?_ I.funs
    exact Heap.get?_none_of_le (Nat.le_trans I.ok.bsz I.ok.above)
theorem Inv.stkSub (I : Inv X pins σ H s) : ∀ b ∈ frs X.stack, b ∈ X.env.locals :: X.fs := fun b hb => by
  rcases I.ok.stk with e | ⟨e, hf⟩
  · rw [e] at hb; exact List.mem_cons_of_mem _ hb
  · rw [e] at hb
    unfold frs at hb
    rw [List.filterMap_cons, hf] at hb
    exact hb
theorem Inv.stkFree (I : Inv X pins σ H s) : ∀ b ∈ frs X.stack, H b = none := fun b hb => by
  rcases List.mem_cons.mp (I.stkSub b hb) with e | hb
  · rw [e]; exact I.free
  · obtain ⟨_, o, ho, _⟩ := I.ok.funs.mem hb
    exact I.base.free b o ho (I.ok.frf b hb) fun z => I.ok.exfs b z hb

theorem Inv.step {g' : Array GenState} {t' : Nat} {d' : Drawn} {ch : List Addr} (I : Inv X pins σ H s)
    (hch : ∀ b ∈ ch, (b ∈ X.ex ∨ X.s_0.heap.objs.size ≤ b) ∧ b ≠ X.env.locals ∧ (∀ x c, X.env.cells.lookup x = some c → c ≠ b) ∧ ∀ p ∈ X.pn ++ pins, p.1 ≠ b)
    (keep : ∀ b o, b ≠ X.env.locals → b ∉ X.fs → b ∉ ch → s.heap.get? b = some o → H b = none → h'.get? b = some o)
    (slot : ∀ b o, b ≠ X.env.locals → b ∈ X.fs → b ∉ ch → s.heap.get? b = some o → H b = none → ∃ sl, h'.get? b = some { o with slots := sl }) (free : ∀ b o, b ∉ ch → s.heap.get? b = some o → H b = none → H' b = none)
    (there : ∀ b o, b ∉ ch → s.heap.get? b = some o → ∃ o', h'.get? b = some o')
    (tups : ∀ b xs, H b = some (.tup xs) → H' b = some (.tup xs)) (frzs : ∀ b o u, H b = some (.frz o u) → H' b = some (.frz o u)) (tbls : ∀ b ps, H b = some (.tbl ps) → ∃ more, H' b = some (.tbl (ps ++ more)))
    (ns : ∀ m, s.heap.Ns X.env.locals m → h'.Ns X.env.locals m) (hok : HOk X.prog X.w H' h') (hg : AllBare g') :
    Inv X pins σ H' { s with heap := h', gens := g', drawn := d', toks := t' } := by
  have neL : ∀ b o, X.s_0.heap.get? b = some o → b ≠ X.env.locals := fun b o e => Nat.ne_of_lt (Nat.lt_of_lt_of_le (Heap.lt_size e) I.ok.above)
  have neC : ∀ b o, X.s_0.heap.get? b = some o → b ∉ X.ex → b ∉ ch := fun b o e hx hb => by
    rcases (hch b hb).1 with z | z
    · exact hx z
    · exact absurd (Nat.lt_of_lt_of_le (Heap.lt_size e) z) (Nat.lt_irrefl _)
  have cellK : ∀ x c, X.env.cells.lookup x = some c → ∀ v, s.heap.IsCell c v → h'.IsCell c v := fun x c e v ⟨o, ho, hd⟩ => by
    have nch : c ∉ ch := fun z => (hch c z).2.2.1 x c e rfl
    by_cases hc : c ∈ X.fs
    · obtain ⟨sl, q⟩ := slot c o (I.cne x c e) hc nch ho (I.freeC x c e)
      exact ⟨_, q, hd⟩
    · exact ⟨o, keep c o (I.cne x c e) hc nch ho (I.freeC x c e), hd⟩
  refine ⟨I.ok, I.os, hg, ⟨fun b o e n hb hx => ?_, fun b o e n hb hx => ?_, fun b o e n hx => ?_, fun b o e hx => ?_, fun b xs e => tups b xs (I.base.tups b xs e), fun b o xs e => frzs b o xs (I.base.frzs b o xs e), fun b ps e => ?_⟩, ?_, fun x c e => ?_, ?_, fun x c e => ?_, fun p hp => ?_, hok, I.len⟩
  · exact keep b o (neL b o e) hb (neC b o e hx) (I.base.keep b o e n hb hx) (I.base.free b o e n hx)
  · obtain ⟨sl, e1⟩ := I.base.slot b o e n hb hx
    obtain ⟨sl', e2⟩ := slot b _ (neL b o e) hb (neC b o e hx) e1 (I.base.free b o e n hx)
    exact ⟨sl', e2⟩
  · obtain ⟨o', e1⟩ := I.base.there b o e hx
    exact free b o' (neC b o e hx) e1 (I.base.free b o e n hx)
  · obtain ⟨o', e1⟩ := I.base.there b o e hx
    exact there b o' (neC b o e hx) e1
  · obtain ⟨m1, e1⟩ := I.base.tbls b ps e
    obtain ⟨m2, e2⟩ := tbls b _ e1
    exact ⟨m1 ++ m2, by rw [e2, Array.append_assoc]⟩
  · obtain ⟨m, hn, hl⟩ := I.loc
    refine ⟨m, ns m hn, fun i x v e1 e2 e3 => ?_⟩
    obtain ⟨u, r, l⟩ := hl i x v e1 e2 e3
    refine ⟨u, r, ?_⟩
    rcases l with l | ⟨k, c, e, z⟩
    · exact .inl l
    · exact .inr ⟨k, c, e, cellK x c e _ z⟩
  · obtain ⟨v, z⟩ := I.cell x c e
    exact ⟨v, cellK x c e v z⟩
  · obtain ⟨m, ⟨o, _, _, ho, _⟩, _⟩ := I.loc
    exact free _ o (fun z => (hch _ z).2.1 rfl) ho I.free
  · obtain ⟨v, o, ho, hd⟩ := I.cell x c e
    exact free c o (fun z => (hch c z).2.2.1 x c e rfl) ho (I.freeC x c e)
  · obtain ⟨e, n, ne, nf, d⟩ := I.pin p hp
    have nch : p.1 ∉ ch := fun z => (hch p.1 z).2.2.2 p hp rfl
    exact ⟨keep p.1 p.2 ne nf nch e n, free p.1 p.2 nch e n, ne, nf, d⟩
theorem Inv.un {t' : Nat} (I : Inv X pins σ H s) (u : Un X.fs [] H H' s.heap h') (hok : HOk X.prog X.w H' h') : Inv X pins σ H' { s with heap := h', toks := t' } := by
  obtain ⟨m, ⟨o, es, ep, ho, r⟩, _⟩ := id I.loc
  obtain ⟨sl, hL⟩ := u.any ho I.free (by simp)
  exact I.step (g' := s.gens) (d' := s.drawn) (ch := []) (fun _ z => nomatch z) (fun b o _ hb _ e n => u.keep b o e n hb (by simp)) (fun b o _ hb _ e n => u.slot b o e n hb (by simp)) (fun b o _ e n => u.free b o e n (by simp)) (fun b o _ e => u.there b o e (by simp)) u.tups u.frzs u.tbls (fun m' hm => by
    obtain ⟨o', es', ep', ho', r'⟩ := hm
    rw [ho] at ho'; cases ho'
    exact ⟨_, es', ep', hL, r'⟩) hok I.bare
theorem Inv.call {g' : Array GenState} {t' : Nat} {d' : Drawn} {ch : List Addr} (I : Inv X pins σ H s) (u : Un (frs X.stack) ch H H' s.heap h') (hok : HOk X.prog X.w H' h') (hg : AllBare g')
    (hch : ∀ b ∈ ch, (b ∈ X.ex ∨ X.s_0.heap.objs.size ≤ b) ∧ b ≠ X.env.locals ∧ (∀ x c, X.env.cells.lookup x = some c → c ≠ b) ∧ ∀ p ∈ X.pn ++ pins, p.1 ≠ b) :
    Inv X pins σ H' { s with heap := h', gens := g', drawn := d', toks := t' } := by
  obtain ⟨m, ⟨o, es, ep, ho, r⟩, _⟩ := id I.loc
  obtain ⟨sl, hL⟩ := u.any ho I.free fun z => (hch _ z).2.1 rfl
  exact I.step (ch := ch) hch (fun b o hL hb hc e n => u.keep b o e n (fun z => (List.mem_cons.mp (I.stkSub b z)).elim hL hb) hc) (fun b o _ _ hc e n => u.any e n hc) (fun b o hc e n => u.free b o e n hc) (fun b o hc e => u.there b o e hc) u.tups u.frzs u.tbls (fun m' hm => by
    obtain ⟨o', es', ep', ho', r'⟩ := hm
    rw [ho] at ho'; cases ho'
    exact ⟨_, es', ep', hL, r'⟩) hok hg
theorem Inv.turned {t' : Nat} {it : Addr} (I : Inv X pins σ H s) (k : ∀ b o, b ≠ it → s.heap.get? b = some o → h'.get? b = some o) (hn : H it = none) (hL : it ≠ X.env.locals)
    (h1 : it ∈ X.ex ∨ X.s_0.heap.objs.size ≤ it) (h2 : ∀ x c, X.env.cells.lookup x = some c → c ≠ it) (h3 : ∀ p ∈ X.pn ++ pins, p.1 ≠ it) : Inv X pins σ H { s with heap := h', toks := t' } := by
  have nit : ∀ b u, H b = some u → b ≠ it := fun b u e z => by rw [z, hn] at e; cases e
  refine I.step (g' := s.gens) (d' := s.drawn) (ch := [it]) (fun b hb => ?_) (fun b o _ _ hc e _ => k b o (fun z => hc (by simp [z])) e) (fun b o _ _ hc e _ => ⟨o.slots, k b o (fun z => hc (by simp [z])) e⟩) (fun _ _ _ _ n => n)
    (fun b o hc e => ⟨o, k b o (fun z => hc (by simp [z])) e⟩) (fun _ _ e => e) (fun _ _ _ e => e) (fun b ps e => ⟨#[], by rw [e]; simp⟩) (fun m hm => ?_) (fun b u e => ?_) I.bare
  · have e : b = it := by simpa using hb
    subst e
    exact ⟨h1, hL, h2, h3⟩
  · obtain ⟨o, es, ep, ho, r⟩ := hm
    exact ⟨o, es, ep, k _ o (Ne.symm hL) ho, r⟩
  · refine (I.hok b u e).stay (fun c v hc q => k c v ?_ q) (fun _ q => q) fun _ _ q => q
    rcases hc with z | z
    · rw [z]; exact nit b u e
    · exact nit c _ z
theorem Inv.tok (I : Inv X pins σ H s) (t : Nat) : Inv X pins σ H { s with toks := t } := I.un (h' := s.heap) (t' := t) Un.refl I.hok
theorem Inv.kept {t' : Nat} (I : Inv X pins σ H s) (k : ∀ b u, s.heap.get? b = some u → h'.get? b = some u) : Inv X pins σ H { s with heap := h', toks := t' } := I.un (Un.kept k) (I.hok.kept k)
theorem Inv.laid {a : Addr} {o : HO} {t' : Nat} (I : Inv X pins σ H s) (k : ∀ b u, s.heap.get? b = some u → h'.get? b = some u) (hp : s.heap.objs.size ≤ a) (new : ObjOk X.prog X.w (upd H a o) h' a o) :
    Inv X pins σ (upd H a o) { s with heap := h', toks := t' } := I.un (Un.laid k hp (I.hok.fresh hp)) (I.hok.laid k hp new)
theorem Inv.write {x e : Addr} {o : HO} {t' : Nat} (I : Inv X pins σ H s) (mu : Mut (H x)) (he : e = x ∨ H e = some (.own x)) (k : ∀ b u, b ≠ e → s.heap.get? b = some u → h'.get? b = some u) (heo : ∃ u, h'.get? e = some u)
    (new : ObjOk X.prog X.w (upd H x o) h' x o) : Inv X pins σ (upd H x o) { s with heap := h', toks := t' } := I.un (Un.write mu he k heo) (I.hok.write mu he k heo new)
theorem Inv.weak {σ' : List (Option V)} (I : Inv X pins σ H s) (hl : σ'.length = σ.length) (w : ∀ (i : Nat) v, σ'[i]? = some (some v) → σ[i]? = some (some v)) : Inv X pins σ' H s :=
  ⟨I.ok, I.os, I.bare, I.base, let ⟨m, hn, hl'⟩ := I.loc; ⟨m, hn, fun i x v e1 e2 e3 => hl' i x v e1 (w i v e2) e3⟩, I.cell, I.free, I.freeC, I.pin, I.hok, hl.trans I.len⟩
theorem Inv.pins_of {pins' : List (Addr × Obj)} (I : Inv X pins σ H s) (h : ∀ p ∈ pins', s.heap.get? p.1 = some p.2 ∧ H p.1 = none ∧ p.1 ≠ X.env.locals ∧ p.1 ∉ X.fs ∧ ∀ v, p.2.data ≠ .cell v) : Inv X pins' σ H s :=
  ⟨I.ok, I.os, I.bare, I.base, I.loc, I.cell, I.free, I.freeC, fun p hp => (List.mem_append.mp hp).elim (fun z => I.pin p (List.mem_append_left _ z)) (h p), I.hok, I.len⟩

theorem nodup_ix {N : List Str} (hN : N.Nodup) {i j : Nat} {x : Str} (a : N[i]? = some x) (b : N[j]? = some x) : i = j := by
  obtain ⟨h1, e1⟩ := List.getElem?_eq_some_iff.mp a
  obtain ⟨h2, e2⟩ := List.getElem?_eq_some_iff.mp b
  exact (List.getElem_inj hN).mp (e1.trans e2.symm)

theorem store_ok2 {M : Model} {A : Around} {E : Value → Shared → Prop} {i : Nat} {x : Str} {v : V} {u : Value} {Q : Unit → Shared → Prop} (I : Inv X pins σ H s) (hN : X.N.Nodup) (hi : X.N[i]? = some x) (hx : Loc X.env.scope x) (r : RelV v u)
    (h : ∀ s', Inv X pins (σ.set i (some v)) H s' → (∃ a, Heap.SameBut a s.heap s'.heap ∧ (a = X.env.locals ∨ X.env.cells.lookup x = some a)) → Q () s') (hf : X.fn x = true ∨ X.env.scope.names.lookup x = some .local := by first | exact .inl rfl | exact .inr rfl | assumption) : wpAny M A (storeName X.env x u) Q E s := by
  obtain ⟨m, hn, hl⟩ := id I.loc
  have hcls : (X.env.scope.kind == .class || (X.env.scope.kind == .module && X.env.locals != X.env.globals)) = false := by rw [I.ok.kind]; rfl
  have hiσ : i < σ.length := by rw [I.len]; exact (List.getElem?_eq_some_iff.mp hi).1
  have cne := I.cne
  have tracked : ∀ {a : Addr} {h' : Heap}, (∃ o, s.heap.get? a = some o ∧ H a = none) → Heap.SameBut a s.heap h' → HOk X.prog X.w H h' := fun {a h'} ha hs b ob e => by
    obtain ⟨_, _, hfree⟩ := ha
    refine (I.hok b ob e).stay (fun c w' hc q => (hs.2 c ?_).trans q) (fun _ q => q) fun _ _ q => q
    rintro rfl
    rcases hc with rfl | hc
    · rw [hfree] at e; cases e
    · rw [hfree] at hc; cases hc
  rcases hx with hk | hk
  · refine wpAny_storeName_local hk hn (fun h' hn' hs => ?_) hcls
    obtain ⟨oL, _, _, hoL, _⟩ := id hn
    refine h _ ⟨I.ok, I.os, I.bare, ⟨fun b o e n hb hx => ?_, fun b o e n hb hx => ?_, I.base.free, fun b o e hx => ?_, I.base.tups, I.base.frzs, I.base.tbls⟩, ⟨_, hn', fun j y v' e1 e2 e3 => ?_⟩, fun y c e => ?_, I.free, I.freeC, fun p hp => ?_, tracked ⟨oL, hoL, I.free⟩ hs, by simpa using I.len⟩ ⟨_, hs, .inl rfl⟩
    · exact (hs.2 b (Nat.ne_of_lt (Nat.lt_of_lt_of_le (Heap.lt_size e) I.ok.above))).trans (I.base.keep b o e n hb hx)
    · obtain ⟨sl, e1⟩ := I.base.slot b o e n hb hx
      exact ⟨sl, (hs.2 b (Nat.ne_of_lt (Nat.lt_of_lt_of_le (Heap.lt_size e) I.ok.above))).trans e1⟩
    · obtain ⟨o', e1⟩ := I.base.there b o e hx
      exact ⟨o', (hs.2 b (Nat.ne_of_lt (Nat.lt_of_lt_of_le (Heap.lt_size e) I.ok.above))).trans e1⟩
    · by_cases hj : j = i
      · subst hj
        rw [hi] at e1; cases e1
        rw [List.getElem?_set_self hiσ] at e2
        cases e2
        exact ⟨u, r, .inl ⟨hk, by simp⟩⟩
      · rw [List.getElem?_set_ne (Ne.symm hj)] at e2
        obtain ⟨u', r', q⟩ := hl j y v' e1 e2 e3
        refine ⟨u', r', ?_⟩
        rcases q with ⟨k, e⟩ | ⟨k, c, e, z⟩
        · refine .inl ⟨k, ?_⟩
          have : y ≠ x := fun e => hj (nodup_ix hN e1 (e ▸ hi))
          simp [this, e]
        · exact .inr ⟨k, c, e, z.sameBut hs (cne y c e)⟩
    · obtain ⟨w', z⟩ := I.cell y c e
      exact ⟨w', z.sameBut hs (cne y c e)⟩
    · obtain ⟨e, n, ne, nf, d⟩ := I.pin p hp
      exact ⟨(hs.2 p.1 ne).trans e, n, ne, nf, d⟩
  · have hfn : X.fn x = true := by
      rcases hf with z | z
      · exact z
      · rw [z] at hk; cases hk
    obtain ⟨c, hc⟩ := I.ok.has x (.inl hk)
    obtain ⟨w', z⟩ := I.cell x c hc
    refine wpAny_storeName_cell I.ok.kind hk hc z (fun h' hc' hs => ?_)
    obtain ⟨oc, hoc, hocd⟩ := id z
    refine h { s with heap := h' } ⟨I.ok, I.os, I.bare, ⟨fun b o e n hb hx => ?_, fun b o e n hb hx => ?_, I.base.free, fun b o e hx => ?_, I.base.tups, I.base.frzs, I.base.tbls⟩, ⟨m, hn.sameBut hs (Ne.symm (cne x c hc)), fun j y v' e1 e2 e3 => ?_⟩, fun y c' e => ?_, I.free, I.freeC, fun p hp => ?_, tracked ⟨oc, hoc, I.freeC x c hc⟩ hs, by simpa using I.len⟩ ⟨c, hs, .inr hc⟩
    · exact (hs.2 b (Nat.ne_of_lt (Nat.lt_of_lt_of_le (Heap.lt_size e) (I.ok.cab x c hfn hc)))).trans (I.base.keep b o e n hb hx)
    · obtain ⟨sl, e1⟩ := I.base.slot b o e n hb hx
      exact ⟨sl, (hs.2 b (Nat.ne_of_lt (Nat.lt_of_lt_of_le (Heap.lt_size e) (I.ok.cab x c hfn hc)))).trans e1⟩
    · obtain ⟨o', e1⟩ := I.base.there b o e hx
      exact ⟨o', (hs.2 b (Nat.ne_of_lt (Nat.lt_of_lt_of_le (Heap.lt_size e) (I.ok.cab x c hfn hc)))).trans e1⟩
    · by_cases hj : j = i
      · subst hj
        rw [hi] at e1; cases e1
        rw [List.getElem?_set_self hiσ] at e2
        cases e2
        exact ⟨u, r, .inr ⟨.inl hk, c, hc, hc'⟩⟩
      · rw [List.getElem?_set_ne (Ne.symm hj)] at e2
        obtain ⟨u', r', q⟩ := hl j y v' e1 e2 e3
        refine ⟨u', r', ?_⟩
        rcases q with q | ⟨k, c', e, z'⟩
        · exact .inl q
        · refine .inr ⟨k, c', e, z'.sameBut hs ?_⟩
          rintro rfl
          exact hj (nodup_ix hN e1 (I.ok.inj _ _ _ e hc ▸ hi))
    · by_cases hcc : c' = c
      · subst hcc; exact ⟨_, hc'⟩
      · obtain ⟨w2, z2⟩ := I.cell y c' e
        exact ⟨w2, z2.sameBut hs hcc⟩
    · obtain ⟨e, n, ne, nf, d⟩ := I.pin p hp
      refine ⟨(hs.2 p.1 ?_).trans e, n, ne, nf, d⟩
      intro q
      rw [q, hoc] at e
      have q' : oc = p.2 := Option.some.inj e
      exact d w' (by rw [← q']; exact hocd)
theorem store_ok {M : Model} {A : Around} {E : Value → Shared → Prop} {i : Nat} {x : Str} {v : V} {u : Value} {Q : Unit → Shared → Prop} (I : Inv X pins σ H s) (hN : X.N.Nodup) (hi : X.N[i]? = some x) (hx : Loc X.env.scope x) (r : RelV v u)
    (h : ∀ s', Inv X pins (σ.set i (some v)) H s' → Q () s') (hf : X.fn x = true ∨ X.env.scope.names.lookup x = some .local := by first | exact .inl rfl | exact .inr rfl | assumption) : wpAny M A (storeName X.env x u) Q E s :=
  store_ok2 I hN hi hx r (fun s' I' _ => h s' I') hf
theorem Inv.call' {s' : Shared} {ch : List Addr} (I : Inv X pins σ H s) (ho : s'.os = s.os) (u : Un (frs X.stack) ch H H' s.heap s'.heap) (hok : HOk X.prog X.w H' s'.heap) (hg : AllBare s'.gens)
    (hch : ∀ b ∈ ch, (b ∈ X.ex ∨ X.s_0.heap.objs.size ≤ b) ∧ b ≠ X.env.locals ∧ (∀ x c, X.env.cells.lookup x = some c → c ≠ b) ∧ ∀ p ∈ X.pn ++ pins, p.1 ≠ b) : Inv X pins σ H' s' := by
  obtain ⟨h', g', d', t', o'⟩ := s'
  have e : o' = s.os := ho
  subst e
  exact I.call (g' := g') (t' := t') (d' := d') u hok hg hch
end

abbrev XK := Value → Option Addr → Hp → Prop
abbrev St := List (Option V)
abbrev VK := V → Hp → Prop
abbrev TE := St → Hp → VK → Prop
abbrev TT := St → Hp → (Bool → Hp → Prop) → Prop
abbrev TA := St → Hp → (List V → Hp → Prop) → Prop
structure Ends where
  nx : St → Hp → Prop
  rt : VK
  bk : St → Hp → Prop := fun _ _ => False
  ct : St → Hp → Prop := fun _ _ => False
abbrev TS := Ends → St → Hp → Prop

def EP (X : Cx) (pins : List (Addr × Obj)) (σ : St) (Q : VK) (u : Value) (s' : Shared) : Prop := ∃ v H', Inv X pins σ H' s' ∧ RelV v u ∧ Q v H'
def TP (X : Cx) (pins : List (Addr × Obj)) (σ : St) (Q : Bool → Hp → Prop) (b : Bool) (s' : Shared) : Prop := ∃ H', Inv X pins σ H' s' ∧ Q b H'
def AP (X : Cx) (pins : List (Addr × Obj)) (σ : St) (Q : List V → Hp → Prop) (us : List Value) (s' : Shared) : Prop := ∃ vs H', Inv X pins σ H' s' ∧ Vals vs us ∧ Q vs H'
def SP (X : Cx) (pins : List (Addr × Obj)) (D : Ends) (f : Flow) (s' : Shared) : Prop :=
  match f with
  | .next => ∃ σ' H', Inv X pins σ' H' s' ∧ D.nx σ' H'
  | .brk => ∃ σ' H', Inv X pins σ' H' s' ∧ D.bk σ' H'
  | .cont => ∃ σ' H', Inv X pins σ' H' s' ∧ D.ct σ' H'
  | .ret u => ∃ v σ' H', Inv X pins σ' H' s' ∧ RelV v u ∧ D.rt v H'

def PE (X : Cx) (e : Expr) (t : TE) : Prop :=
  ∀ (pins : List (Addr × Obj)) (s : Shared) (σ : St) (H : Hp) (Q : VK), Inv X pins σ H s → t σ H Q → wpAny (model X.prog X.w) X.A (eval e X.env) (EP X pins σ Q) X.xe s
def PT (X : Cx) (e : Expr) (t : TT) : Prop :=
  ∀ (pins : List (Addr × Obj)) (s : Shared) (σ : St) (H : Hp) (Q : Bool → Hp → Prop), Inv X pins σ H s → t σ H Q → wpAny (model X.prog X.w) X.A (isTrue e X.env (eval e X.env)) (TP X pins σ Q) X.xe s
def PW (X : Cx) (e : Expr) (t : TT) : Prop :=
  ∀ (whole : Sem Value) (pins : List (Addr × Obj)) (s : Shared) (σ : St) (H : Hp) (Q : Bool → Hp → Prop), Inv X pins σ H s → t σ H Q → wpAny (model X.prog X.w) X.A (isTrue e X.env whole) (TP X pins σ Q) X.xe s
theorem PW.pt {X : Cx} {e : Expr} {t : TT} (h : PW X e t) : PT X e t := h _
def PA (X : Cx) (es : List Expr) (t : TA) : Prop :=
  ∀ (pos : Pos) (pins : List (Addr × Obj)) (s : Shared) (σ : St) (H : Hp) (Q : List V → Hp → Prop), Inv X pins σ H s → t σ H Q → wpAny (model X.prog X.w) X.A (spliced (backTo pos (starEach es X.env))) (AP X pins σ Q) X.xe s
def PS (X : Cx) (st : Stmt) (t : TS) : Prop :=
  ∀ (pins : List (Addr × Obj)) (s : Shared) (σ : St) (H : Hp) (D : Ends), Inv X pins σ H s → t D σ H → wpAny (model X.prog X.w) X.A (exec st X.env) (SP X pins D) X.xe s
def PSs (X : Cx) (st : List Stmt) (t : TS) : Prop :=
  ∀ (pins : List (Addr × Obj)) (s : Shared) (σ : St) (H : Hp) (D : Ends), Inv X pins σ H s → t D σ H → wpAny (model X.prog X.w) X.A (execs st X.env) (SP X pins D) X.xe s
theorem thn {α : Type} {t : Sem α} {Q Q' : α → Shared → Prop} {M : Model} {A : Around} {E : Value → Shared → Prop} {s : Shared} (h : wpAny M A t Q E s) (hQ : ∀ a s, Q a s → Q' a s) : wpAny M A t Q' E s := wpAny_mono h hQ fun _ _ x => x
end L2

namespace L2
open PySem PySem.Spec PyProof.Rows
section
variable {X : Cx}

def tVar (i : Nat) : TE := fun σ H Q => ∃ v, σ[i]? = some (some v) ∧ Q v H
def tC (v : V) : TE := fun _ H Q => Q v H
theorem pe_var {i : Nat} {x : Str} {pos : Pos} (hN : X.N[i]? = some x) (hv : Vis X.env.scope x) (hd : (x == ("__debug__" : Str)) = false := by decide) (hcd : (x == ("__classdict__" : Str)) = false := by decide) : PE X (.Name x pos) (tVar i) := by
  intro pins s σ H Q I h
  obtain ⟨v, e, h⟩ := h
  obtain ⟨m, hn, hl⟩ := I.loc
  obtain ⟨u, r, l⟩ := hl i x v hN e hv
  have fin : EP X pins σ Q u s := ⟨v, H, I, r, h⟩
  rcases l with ⟨hk, hm⟩ | ⟨hk, c, hc, hcell⟩
  · exact wpAny_Name (wpAny_loadName_local I.ok.kind hk hn hm fin) hd
  · rcases hk with hk | hk
    · exact wpAny_Name (wpAny_loadName_cell I.ok.kind hk hc hcell fin) hd
    · exact wpAny_Name (wpAny_loadName_free I.ok.kind hk hc hcell fin hcd) hd
theorem pe_int {i j pos} : PE X (.Constant (.int i) j pos) (tC (.int i)) := fun _ _ _ H _ I h => wpAny_Constant_int ⟨.int i, H, I.tok _, ⟨_, rfl⟩, h⟩
theorem pe_bl {b j pos} : PE X (.Constant (.bool b) j pos) (tC (.bl b)) := fun _ _ _ H _ I h => Constant_bool ⟨.bl b, H, I, rfl, h⟩
def Gl (X : Cx) (x : Str) : Prop := X.env.kindOf x = some .globalImplicit
theorem ld_glob {E : Value → Shared → Prop} {pins : List (Addr × Obj)} {s : Shared} {σ : St} {H : Hp} {x : Str} {u : Value} {pos : Pos} {Q : Value → Shared → Prop} (I : Inv X pins σ H s) (hg : Gl X x) (hm : X.mg x = some u) (h : Q u s)
    (hd : (x == ("__debug__" : Str)) = false := by decide) : wpAny (model X.prog X.w) X.A (eval (.Name x pos) X.env) Q E s :=
  Calls.Name_function_global I.ok.kind hg (Calls.loadGlobal_global (by rw [I.ok.glob]; exact I.mod.glob.keeps I.bk) hm h) hd
theorem ld_blt {E : Value → Shared → Prop} {pins : List (Addr × Obj)} {s : Shared} {σ : St} {H : Hp} {x : Str} {u : Value} {pos : Pos} {Q : Value → Shared → Prop} (I : Inv X pins σ H s) (hg : Gl X x) (hm : X.mg x = none) (hv : bootBuiltins x = some u) (h : Q u s)
    (hn : x ≠ "__name__" := by decide) (hd : (x == ("__debug__" : Str)) = false := by decide) : wpAny (model X.prog X.w) X.A (eval (.Name x pos) X.env) Q E s := by
  obtain ⟨mb, h1, h2⟩ := I.mod.blt
  exact Calls.Name_function_global I.ok.kind hg (Calls.loadGlobal_builtin (by rw [I.ok.glob]; exact I.mod.glob.keeps I.bk) hm (by rw [I.ok.blt]; exact h1.keeps I.bk) ((h2 x hn).trans hv) h) hd
theorem pe_glob {x : Str} {v : V} {u : Value} {pos : Pos} (hg : Gl X x) (hm : X.mg x = some u) (r : RelV v u) (hd : (x == ("__debug__" : Str)) = false := by decide) : PE X (.Name x pos) (tC v) :=
  fun _ _ _ H _ I h => ld_glob I hg hm ⟨v, H, I, r, h⟩ hd
variable {a b : Expr} {ta tb : TE} {pos : Pos}
def PC (X : Cx) (op : CmpOp) (a b : Expr) (t : TE) : Prop :=
  ∀ (pins : List (Addr × Obj)) (s : Shared) (σ : St) (H : Hp) (Q : VK), Inv X pins σ H s → t σ H Q →
    wpAny (model X.prog X.w) X.A (eval a X.env) (fun v s₁ => wpAny (model X.prog X.w) X.A (eval b X.env) (fun u s₂ => wpAny (model X.prog X.w) X.A (compareOp op v u) (EP X pins σ Q) X.xe s₂) X.xe s₁) X.xe s
theorem nobehind (b : Expr) {op : CmpOp} (h : op ≠ .In) (h2 : op ≠ .NotIn) : behindInMarks op b = false := by
  have e1 : (op == CmpOp.In) = false := by cases op <;> first | rfl | exact absurd rfl h
  have e2 : (op == CmpOp.NotIn) = false := by cases op <;> first | rfl | exact absurd rfl h2
  cases b <;> simp [behindInMarks, e1, e2]
def tB (t : TE) : TT := fun σ H Q => t σ H fun x H1 => ∃ c, x = .bl c ∧ Q c H1
theorem pt_cmp {op : CmpOp} {t : TE} (h : PC X op a b t) (h1 : behindInMarks op b = false := by first | exact nobehind _ (by decide) (by decide) | rfl) : PT X (.Compare a [op] [b] pos) (tB t) := by
  intro pins s σ H Q I hw
  refine wpAny_isTrue_Compare1 (thn (h pins s σ H _ I hw) fun v s1 h1 => thn h1 fun u s2 h2 => thn h2 fun c s3 ⟨x, H1, I1, r1, q1⟩ => ?_) h1
  obtain ⟨d, rfl, q⟩ := q1
  cases r1
  exact wpAny_truthy_bool ⟨H1, I1, q⟩
theorem pt_val {e : Expr} {t : TE} (h : PE X e t) (he : ∀ whole, isTrue e X.env whole = (do let v ← whole; standAt e.pos; holding [v] (truthy v)) := by intro _; rfl) : PT X e (tB t) := by
  intro pins s σ H Q I hw
  refine isTrue_plain (thn (h pins s σ H _ I hw) fun v s1 ⟨x, H1, I1, r1, q1⟩ => ?_) (he _)
  obtain ⟨d, rfl, q⟩ := q1
  cases r1
  exact wpAny_truthy_bool ⟨H1, I1, q⟩

variable {tA tB' : TT} {rest : List Expr}
def tAnd (t u : TT) : TT := fun σ H Q => t σ H fun c H1 => if c = true then u σ H1 Q else Q false H1
def tOr (t u : TT) : TT := fun σ H Q => t σ H fun c H1 => if c = true then Q true H1 else u σ H1 Q
def tNot (t : TT) : TT := fun σ H Q => t σ H fun c H1 => Q (!c) H1
theorem pw_and1 (ha : PT X a tA) : PW X (.BoolOp .And [a] pos) tA := by
  intro wh pins s σ H Q I h
  refine isTrue_and (thn (ha pins s σ H Q I h) fun c s1 e => ?_)
  cases c with
  | true => exact isTrue_and_nil e
  | false => exact e
theorem pw_or1 (ha : PT X a tA) : PW X (.BoolOp .Or [a] pos) tA := by
  intro wh pins s σ H Q I h
  refine isTrue_or (thn (ha pins s σ H Q I h) fun c s1 e => ?_)
  cases c with
  | false => exact isTrue_or_nil e
  | true => exact e
theorem pw_and (ha : PT X a tA) (hb : PW X (.BoolOp .And (b :: rest) pos) tB') : PW X (.BoolOp .And (a :: b :: rest) pos) (tAnd tA tB') := by
  intro wh pins s σ H Q I h
  refine isTrue_and (thn (ha pins s σ H _ I h) fun c s1 ⟨H1, I1, q1⟩ => ?_)
  cases c with
  | true => exact hb wh pins s1 σ H1 Q I1 q1
  | false => exact ⟨H1, I1, q1⟩
theorem pw_or (ha : PT X a tA) (hb : PW X (.BoolOp .Or (b :: rest) pos) tB') : PW X (.BoolOp .Or (a :: b :: rest) pos) (tOr tA tB') := by
  intro wh pins s σ H Q I h
  refine isTrue_or (thn (ha pins s σ H _ I h) fun c s1 ⟨H1, I1, q1⟩ => ?_)
  cases c with
  | true => exact ⟨H1, I1, q1⟩
  | false => exact hb wh pins s1 σ H1 Q I1 q1
theorem pt_not (ha : PT X a tA) : PT X (.UnaryOp .Not a pos) (tNot tA) := by
  intro pins s σ H Q I h
  exact isTrue_not (ha pins s σ H (fun c H1 => Q (!c) H1) I h)
def tAndV (ta tb : TE) : TE := fun σ H Q => ta σ H fun x H1 => ∃ c, x = .bl c ∧ if c = true then tb σ H1 Q else Q (.bl false) H1
def tOrV (ta tb : TE) : TE := fun σ H Q => ta σ H fun x H1 => ∃ c, x = .bl c ∧ if c = true then Q (.bl true) H1 else tb σ H1 Q
def tNotV (ta : TE) : TE := fun σ H Q => ta σ H fun x H1 => ∃ c, x = .bl c ∧ Q (.bl (!c)) H1
def tIf (t : TT) (ta tb : TE) : TE := fun σ H Q => t σ H fun c H1 => if c = true then ta σ H1 Q else tb σ H1 Q
theorem pe_ifExp {c : Expr} (hc : PT X c tA) (ha : PE X a ta) (hb : PE X b tb) : PE X (.IfExp c a b pos) (tIf tA ta tb) := by
  intro pins s σ H Q I h
  refine wpAny_IfExp (thn (hc pins s σ H _ I h) fun d s1 ⟨H1, I1, q1⟩ => ?_)
  cases d with
  | true => exact ha pins s1 σ H1 Q I1 q1
  | false => exact hb pins s1 σ H1 Q I1 q1
end
end L2

namespace L2
open PySem PySem.Spec PyProof.Rows

def SqL (K : PySem.W.Frag) (H : Hp) (a : Addr) (xs : List V) : Prop :=
  Rd H a (.lst xs) ∨
    ∃ (o : Obj) (its : Array Value) (n : Nat), K.lookup a = some o ∧ o.cls = .type "list" ∧ o.dict = none ∧ o.data = .seq its n ∧ its.size ≤ sizeLine ∧ Vals xs its.toList
def SqT (K : PySem.W.Frag) (H : Hp) (a : Addr) (xs : List V) : Prop :=
  Rd H a (.tup xs) ∨
    ∃ (o : Obj) (its : Array Value) (n : Nat), K.lookup a = some o ∧ o.cls = .type "tuple" ∧ o.data = .seq its n ∧ its.size ≤ sizeLine ∧ Vals xs its.toList
def absV : Value → Option V
  | .none => some .non
  | .bool b => some (.bl b)
  | .int i _ => some (.int i)
  | .str x _ => some (.str x)
  | .bytes b _ => some (.byt b)
  | .float b _ => some (.flt b)
  | .ref a => some (.ref a)
  | .type n => some (.ty n)
  | _ => none
theorem RelV.abs {x : V} {u : Value} (r : RelV x u) : absV u = some x := by
  cases x with
  | non => cases r; rfl
  | bl _ => cases r; rfl
  | int _ => obtain ⟨t, rfl⟩ := r; rfl
  | str _ => obtain ⟨t, rfl⟩ := r; rfl
  | byt _ => obtain ⟨t, rfl⟩ := r; rfl
  | flt _ => obtain ⟨t, rfl⟩ := r; rfl
  | ref _ => cases r; rfl
  | ty _ => cases r; rfl
theorem RelV.inj {x y : V} {u : Value} (r : RelV x u) (q : RelV y u) : x = y := Option.some.inj (r.abs.symm.trans q.abs)
theorem Vals.inj : ∀ {xs ys : List V} {us : List Value}, Vals xs us → Vals ys us → xs = ys
  | _, _, _, .nil, .nil => rfl
  | _, _, _, .cons r t, .cons r' t' => by rw [r.inj r', Vals.inj t t']
section
variable {X : Cx} {pins : List (Addr × Obj)} {σ : St} {H : Hp} {s : Shared} {a : Addr} {xs ys : List V}
theorem SqL.of {K : PySem.W.Frag} (h : H a = some (.lst xs)) : SqL K H a xs := .inl (.inl h)
theorem SqT.of {K : PySem.W.Frag} (h : H a = some (.tup xs)) : SqT K H a xs := .inl (.inl h)
theorem Inv.list (I : Inv X pins σ H s) (h : SqL X.K H a xs) : ∃ its : List Value, Vals xs its ∧ PlainL s.heap a its.toArray ∧ xs.length ≤ sizeLine := by
  rcases h with h | ⟨o, its, n, hk, hc, hd, hs, hz, r⟩
  · obtain ⟨z, its, n, r, e⟩ := h.ok I.hok
    exact ⟨its, r, ⟨_, n, e, rfl, rfl, rfl⟩, z⟩
  · refine ⟨its.toList, r, ⟨o, n, I.kIn a o hk, hc, hd, by simpa using hs⟩, ?_⟩
    have e := r.length
    simp only [Array.length_toList] at e
    omega
theorem Inv.tuple (I : Inv X pins σ H s) (h : SqT X.K H a xs) : ∃ its : List Value, Vals xs its ∧ IsTup s.heap a its.toArray ∧ xs.length ≤ sizeLine := by
  rcases h with h | ⟨o, its, n, hk, hc, hs, hz, r⟩
  · obtain ⟨z, its, r, p⟩ := h.ok I.hok
    exact ⟨its, r, p, z⟩
  · refine ⟨its.toList, r, ⟨o, I.kIn a o hk, hc, n, by simpa using hs⟩, ?_⟩
    have e := r.length
    simp only [Array.length_toList] at e
    omega
theorem Inv.list_inj (I : Inv X pins σ H s) (h : SqL X.K H a xs) (h' : SqL X.K H a ys) : xs = ys := by
  obtain ⟨its, r, ⟨o, n, e, _, _, d⟩, _⟩ := I.list h
  obtain ⟨its', r', ⟨o', n', e', _, _, d'⟩, _⟩ := I.list h'
  rw [e] at e'; cases e'
  rw [d] at d'
  injection d' with d1 _
  have : its = its' := by simpa using congrArg Array.toList d1
  subst this
  exact r.inj r'
end

abbrev Cx.wish (X : Cx) (E : Value → Shared → Prop) : Cx := { X with xe := E }
abbrev Cx.nox (X : Cx) : Cx := X.wish fun _ _ => False
theorem Cx.Ok.wish {X : Cx} (ok : X.Ok) (E : Value → Shared → Prop) : (X.wish E).Ok :=
  ⟨ok.mod, ok.kind, ok.glob, ok.blt, ok.above, ok.inj, ok.has, ok.cab, ok.hd, ok.frames, ok.stk, ok.exf, ok.bs, ok.bsz, ok.noex, ok.exfs, ok.funs, ok.frf⟩
theorem Cx.Ok.unwish {X : Cx} {E : Value → Shared → Prop} (ok : (X.wish E).Ok) : X.Ok :=
  ⟨ok.mod, ok.kind, ok.glob, ok.blt, ok.above, ok.inj, ok.has, ok.cab, ok.hd, ok.frames, ok.stk, ok.exf, ok.bs, ok.bsz, ok.noex, ok.exfs, ok.funs, ok.frf⟩
section
variable {X : Cx} {pins : List (Addr × Obj)} {σ : St} {H : Hp} {s : Shared} {E : Value → Shared → Prop}
theorem Inv.wish (I : Inv X pins σ H s) (E : Value → Shared → Prop) : Inv (X.wish E) pins σ H s := ⟨I.ok.wish E, I.os, I.bare, I.base, I.loc, I.cell, I.free, I.freeC, I.pin, I.hok, I.len⟩
theorem Inv.unwish (I : Inv (X.wish E) pins σ H s) : Inv X pins σ H s := ⟨I.ok.unwish, I.os, I.bare, I.base, I.loc, I.cell, I.free, I.freeC, I.pin, I.hok, I.len⟩
theorem SP.unwish {D : Ends} {f : Flow} {s' : Shared} (h : SP (X.wish E) pins D f s') : SP X pins D f s' := by
  cases f with
  | next => obtain ⟨σ', H', I, q⟩ := h; exact ⟨σ', H', I.unwish, q⟩
  | brk => obtain ⟨σ', H', I, q⟩ := h; exact ⟨σ', H', I.unwish, q⟩
  | cont => obtain ⟨σ', H', I, q⟩ := h; exact ⟨σ', H', I.unwish, q⟩
  | ret u => obtain ⟨v, σ', H', I, r, q⟩ := h; exact ⟨v, σ', H', I.unwish, r, q⟩
theorem PSs.nox {st : List Stmt} {t : TS} (h : PSs X.nox st t) : PSs X st t := fun pins s σ H D I hw =>
  wpAny_mono (h pins s σ H D (I.wish _) hw) (fun _ _ q => q.unwish) fun _ _ z => False.elim z
end

section
variable {X : Cx} {st : Stmt} {rest : List Stmt} {t u : TS} {e : Expr} {te : TE} {pos : Pos}
def tNext : TS := fun D σ H => D.nx σ H
def tSeq (t u : TS) : TS := fun D σ H => t { D with nx := u D } σ H
theorem pss_nil : PSs X [] tNext := fun _ _ σ H _ I h => wpAny_execs_nil ⟨σ, H, I, h⟩
theorem pss_cons (h1 : PS X st t) (h2 : PSs X rest u) : PSs X (st :: rest) (tSeq t u) := by
  intro pins s σ H D I h
  refine wpAny_execs_cons (thn (h1 pins s σ H { D with nx := u D } I h) fun f s1 q => ?_)
  cases f with
  | next =>
    obtain ⟨σ', H', I', q⟩ := q
    exact h2 pins s1 σ' H' D I' q
  | ret v => exact q
  | brk => exact q
  | cont => exact q
theorem pss_one (h1 : PS X st t) : PSs X [st] t := by
  intro pins s σ H D I h
  refine wpAny_execs_cons (thn (h1 pins s σ H D I h) fun f s1 q => ?_)
  cases f with
  | next => exact wpAny_execs_nil q
  | ret v => exact q
  | brk => exact q
  | cont => exact q
def tBreak : TS := fun D σ H => D.bk σ H
def tCont : TS := fun D σ H => D.ct σ H
theorem Inv.quiet {pins : List (Addr × Obj)} {σ : St} {H : Hp} {s : Shared} (I : Inv X pins σ H s) : interactive X.env = false := by simp [interactive, I.ok.kind]
def tDrop (te : TE) : TS := fun D σ H => te σ H fun _ H1 => D.nx σ H1
theorem ps_expr (he : PE X e te) (hs : swapsWith e none pos.line X.env = pure false := by rfl) : PS X (.Expr e pos) (tDrop te) := by
  intro pins s σ H D I h
  exact wpAny_Expr_any (thn (he pins s σ H _ I h) fun v s1 ⟨x, H1, I1, r1, q1⟩ => ⟨σ, H1, I1, q1⟩) I.quiet hs
def tRet (te : TE) : TS := fun D σ H => te σ H D.rt
theorem ps_ret (he : PE X e te) : PS X (.Return (some e) pos) (tRet te) := by
  intro pins s σ H D I h
  exact wpAny_Return_some (thn (he pins s σ H _ I h) fun v s1 ⟨x, H1, I1, r1, q1⟩ => ⟨x, σ, H1, I1, r1, q1⟩)
def tRetN : TS := fun D _ H => D.rt .non H
def tIfS (c : TT) (t u : TS) : TS := fun D σ H => c σ H fun b H1 => if b = true then t D σ H1 else u D σ H1
theorem ps_if {c : Expr} {a b : List Stmt} {tc : TT} (hc : PT X c tc) (ha : PSs X a t) (hb : PSs X b u) : PS X (.If c a b pos) (tIfS tc t u) := by
  intro pins s σ H D I h
  refine wpAny_If (thn (hc pins s σ H _ I h) fun d s1 ⟨H1, I1, q1⟩ => ?_)
  cases d with
  | true => exact ha pins s1 σ H1 D I1 q1
  | false => exact hb pins s1 σ H1 D I1 q1
end

abbrev TG := V → St → Hp → (St → Hp → Prop) → Prop
abbrev TGs := List V → St → Hp → (St → Hp → Prop) → Prop
def PG (X : Cx) (target : Expr) (t : TG) : Prop :=
  ∀ (pins : List (Addr × Obj)) (s : Shared) (σ : St) (H : Hp) (v : V) (u : Value) (Q : St → Hp → Prop), Inv X pins σ H s → RelV v u → t v σ H Q →
    wpAny (model X.prog X.w) X.A (assign target X.env u) (fun _ s' => ∃ σ' H', Inv X pins σ' H' s' ∧ Q σ' H') X.xe s
def PGs (X : Cx) (ts : List Expr) (t : TGs) : Prop :=
  ∀ (pins : List (Addr × Obj)) (s : Shared) (σ : St) (H : Hp) (vs : List V) (us : List Value) (Q : St → Hp → Prop), Inv X pins σ H s → Vals vs us → t vs σ H Q →
    wpAny (model X.prog X.w) X.A (assignInOrder ((assignEach ts X.env).map (·.2)) us) (fun _ s' => ∃ σ' H', Inv X pins σ' H' s' ∧ Q σ' H') X.xe s
abbrev TSet := V → V → V → Hp → (Hp → Prop) → Prop
def PSet (X : Cx) (t : TSet) : Prop :=
  ∀ (pins : List (Addr × Obj)) (s : Shared) (σ : St) (H : Hp) (o i v : V) (ov iv u : Value) (Q : Hp → Prop), Inv X pins σ H s → RelV o ov → RelV i iv → RelV v u → t o i v H Q →
    wpAny (model X.prog X.w) X.A (setItem ov iv u) (fun _ s' => ∃ H', Inv X pins σ H' s' ∧ Q H') X.xe s
abbrev TIp := V → V → Hp → VK → Prop
def PIp (X : Cx) (op : Operator) (t : TIp) : Prop :=
  ∀ (pins : List (Addr × Obj)) (s : Shared) (σ : St) (H : Hp) (x y : V) (v u : Value) (Q : VK), Inv X pins σ H s → RelV x v → RelV y u → t x y H Q →
    wpAny (model X.prog X.w) X.A (inplaceOp op v u) (EP X pins σ Q) X.xe s
section
variable {X : Cx} {pos : Pos}
def gName (i : Nat) : TG := fun v σ H Q => Q (σ.set i (some v)) H
theorem pg_name {i : Nat} {x : Str} (hN : X.N.Nodup) (hi : X.N[i]? = some x) (hx : Loc X.env.scope x) (hf : X.fn x = true ∨ X.env.scope.names.lookup x = some .local := by first | exact .inl rfl | exact .inr rfl | assumption) : PG X (.Name x pos) (gName i) := by
  intro pins s σ H v u Q I r h
  exact wpAny_assign_Name (store_ok I hN hi hx r (fun s' I' => ⟨_, H, I', h⟩) hf)
def gNil : TGs := fun vs σ H Q => vs = [] ∧ Q σ H
def gCons (t : TG) (u : TGs) : TGs := fun vs σ H Q => ∃ v r, vs = v :: r ∧ t v σ H fun σ' H' => u r σ' H' Q
theorem pgs_nil : PGs X [] gNil := by
  intro pins s σ H vs us Q I r h
  obtain ⟨e, h⟩ := h
  subst e
  cases r
  exact assignInOrder_nil ⟨σ, H, I, h⟩
theorem pgs_cons {e : Expr} {es : List Expr} {t : TG} {u : TGs} (h1 : PG X e t) (h2 : PGs X es u)
    (hs : (assignEach (e :: es) X.env).map (·.2) = assign e X.env :: (assignEach es X.env).map (·.2) := by rfl) : PGs X (e :: es) (gCons t u) := by
  intro pins s σ H vs us Q I r h
  obtain ⟨v, vr, e1, h⟩ := h
  subst e1
  cases r with
  | cons r rr =>
    rw [hs]
    refine assignInOrder_cons (thn (h1 pins s σ H _ _ _ I r h) fun _ s1 ⟨σ1, H1, I1, q1⟩ => ?_)
    exact h2 pins s1 σ1 H1 _ _ Q I1 rr q1
def gTup (K : PySem.W.Frag) (n : Nat) (t : TGs) : TG := fun v σ H Q => ∃ a xs, v = .ref a ∧ SqT K H a xs ∧ xs.length = n ∧ t xs σ H Q
theorem pg_tup {es : List Expr} {k : Nat} {t : TGs} {n : Nat} (hc : X.calm = true) (h : PGs X es t)
    (hn : (assignEach es X.env).length = n := by rfl) (hst : (assignEach es X.env).findIdx? (·.1) = none := by rfl) : PG X (.Tuple es k pos) (gTup X.K n t) := by
  intro pins s σ H v u Q I r hw
  obtain ⟨a, xs, e1, hq, hl, hw⟩ := hw
  subst e1
  cases r
  obtain ⟨its, rv, ht, hz⟩ := I.tuple hq
  refine assign_Tuple_tuple (I.ok.hd hc) ht (by simp [hn, ← hl, rv.length]) hst fun h' hx => ?_
  have I1 : Inv X pins σ H { s with heap := h' } := I.kept (t' := s.toks) fun b o e => hx b o (Nat.ne_of_lt (Heap.lt_size e)) e
  exact h pins _ σ H xs _ Q I1 (by simpa using rv) hw
def gSub (to ti : TE) (t : TSet) : TG := fun v σ H Q => to σ H fun o H1 => ti σ H1 fun i H2 => t o i v H2 fun H3 => Q σ H3
theorem pg_sub {o i : Expr} {to ti : TE} {t : TSet} (ho : PE X o to) (hi : PE X i ti) (hs : PSet X t)
    (ha : ∀ v, assign (.Subscript o i pos) X.env v = (do
      let ov ← holding [v] (eval o X.env)
      let iv ← holding [v, ov] (eval i X.env)
      standAt pos
      holding [v, ov, iv] (setItem ov iv v)
      release [v, ov, iv] []) := by intro _; rfl) : PG X (.Subscript o i pos) (gSub to ti t) := by
  intro pins s σ H v u Q I r h
  rw [ha]
  refine wpAny_bind (wpAny_holding (thn (ho pins s σ H _ I h) fun ov s1 ⟨x, H1, I1, r1, q1⟩ => ?_))
  refine wpAny_bind (wpAny_holding (thn (hi pins s1 σ H1 _ I1 q1) fun iv s2 ⟨y, H2, I2, r2, q2⟩ => ?_))
  refine wpAny_bind (wpAny_standAt (wpAny_bind (wpAny_holding (thn (hs pins s2 σ H2 x y v ov iv u _ I2 r1 r2 r q2) fun _ s3 ⟨H3, I3, q3⟩ => ?_))))
  exact wpAny_release ⟨σ, H3, I3, q3⟩
def tAsg (te : TE) (g : TG) : TS := fun D σ H => te σ H fun x H1 => g x σ H1 D.nx
theorem ps_asg {tg e : Expr} {te : TE} {g : TG} (he : PE X e te) (hg : PG X tg g) (hs : swapsWithSole [tg] e pos.line X.env = pure false := by rfl) (hw : swappedStores [tg] e X.env = pure none := by rfl)
    (h1 : (assignEach [tg] X.env).map (·.2) = [assign tg X.env] := by rfl) : PS X (.Assign [tg] e pos) (tAsg te g) := by
  intro pins s σ H D I h
  refine wpAny_Assign_stores (thn (he pins s σ H _ I h) fun v s1 ⟨x, H1, I1, r1, q1⟩ => ?_) hs hw
  rw [h1]
  exact thn (hg pins s1 σ H1 x v _ I1 r1 q1) fun _ s2 q => q
theorem ps_set {i : Nat} {x : Str} {e : Expr} {te : TE} {pos' : Pos} (hN : X.N.Nodup) (hi : X.N[i]? = some x) (hx : Loc X.env.scope x) (he : PE X e te) (hs : swapsWith e (some (.Name x pos')) pos.line X.env = pure false := by rfl) (hf : X.fn x = true ∨ X.env.scope.names.lookup x = some .local := by first | exact .inl rfl | exact .inr rfl | assumption) :
    PS X (.Assign [.Name x pos'] e pos) (tAsg te (gName i)) := by
  intro pins s σ H D I h
  refine wpAny_Assign_Name (thn (he pins s σ H _ I h) fun v s1 ⟨y, H1, I1, r1, q1⟩ => ?_) hs
  exact store_ok I1 hN hi hx r1 (fun s2 I2 => ⟨_, H1, I2, q1⟩) hf
def tAug (i : Nat) (te : TE) (ti : TIp) : TS := fun D σ H => ∃ x, σ[i]? = some (some x) ∧ te σ H fun y H1 => ti x y H1 fun z H2 => D.nx (σ.set i (some z)) H2
theorem ps_aug {i : Nat} {x : Str} {e : Expr} {te : TE} {op : Operator} {ti : TIp} {pos' : Pos} (hN : X.N.Nodup) (hi : X.N[i]? = some x) (hx : Loc X.env.scope x) (he : PE X e te) (ho : PIp X op ti) (hf : X.fn x = true ∨ X.env.scope.names.lookup x = some .local := by first | exact .inl rfl | exact .inr rfl | assumption) :
    PS X (.AugAssign (.Name x pos') op e pos) (tAug i te ti) := by
  intro pins s σ H D I h
  obtain ⟨v, e1, h⟩ := h
  obtain ⟨m, hn, hl⟩ := I.loc
  have vis : Vis X.env.scope x := by rcases hx with k | k; exact .inl k; exact .inr (.inl k)
  obtain ⟨u, r, l⟩ := hl i x v hi e1 vis
  refine wpAny_AugAssign_Name ?_
  have go : wpAny (model X.prog X.w) X.A (eval e X.env) (fun w s₂ => wpAny (model X.prog X.w) X.A (inplaceOp op u w) (fun r s₃ => wpAny (model X.prog X.w) X.A (storeName X.env x r) (fun _ => SP X pins D .next) X.xe s₃) X.xe s₂) X.xe s := by
    refine thn (he pins s σ H _ I h) fun w s1 ⟨y, H1, I1, r1, q1⟩ => ?_
    refine thn (ho pins s1 σ H1 v y u w _ I1 r r1 q1) fun z s2 ⟨zv, H2, I2, r2, q2⟩ => ?_
    exact store_ok I2 hN hi hx r2 (fun s3 I3 => ⟨_, H2, I3, q2⟩) hf
  rcases l with ⟨hk, hm⟩ | ⟨hk, c, hc, hcell⟩
  · exact wpAny_loadName_local I.ok.kind hk hn hm go
  · rcases hk with hk | hk
    · exact wpAny_loadName_cell I.ok.kind hk hc hcell go
    · rcases hx with k | k
      · have : X.env.scope.names.lookup x = some .free := hk
        rw [k] at this; cases this
      · have : X.env.scope.names.lookup x = some .free := hk
        rw [k] at this; cases this
def tAugS (to ti te : TE) (tget : V → V → Hp → VK → Prop) (tip : TIp) (tset : TSet) : TS := fun D σ H => to σ H fun o H1 => ti σ H1 fun i H2 => tget o i H2 fun x H3 => te σ H3 fun y H4 => tip x y H4 fun z H5 => tset o i z H5 fun H6 => D.nx σ H6
def ipI (f : Int → Int → Int) : TIp := fun x y H Q => ∃ i j, x = .int i ∧ y = .int j ∧ Q (.int (f i j)) H
theorem ip_add : PIp X .Add (ipI fun i j => i + j) := by
  intro pins s σ H x y v u Q I r1 r2 h
  obtain ⟨i, j, e1, e2, q⟩ := h
  subst e1; subst e2
  obtain ⟨t, rfl⟩ := r1
  obtain ⟨t', rfl⟩ := r2
  exact iadd_int ⟨.int _, H, I.tok _, ⟨_, rfl⟩, q⟩
end

section
variable {X : Cx} {pos : Pos}
def tWhile (c : TT) (tb : TS) : TS := fun D σ H => ∃ W : Nat → St → Hp → Prop, (∃ m, W m σ H) ∧ ∀ m σ H, W m σ H →
  c σ H fun b H1 => if b = true then ∃ N : St → Hp → Prop, (∀ σ' H', N σ' H' → ∃ m', m' < m ∧ W m' σ' H') ∧ tb { D with nx := N, ct := N, bk := D.nx } σ H1 else D.nx σ H1
theorem ps_while {c : Expr} {body : List Stmt} {tc : TT} {tb : TS} (hp : PassesOwn (model X.prog X.w) X.A X.env X.xe) (hc : PT X c tc) (hb : PSs X body tb) : PS X (.While c body [] pos) (tWhile tc tb) := by
  intro pins s σ H D I h
  obtain ⟨W, ⟨m0, w0⟩, turn⟩ := h
  refine wpAny_While (codeAny_whileLoop (fun n s' => ∃ σ' H', Inv X pins σ' H' s' ∧ W n σ' H') ?_ m0 ⟨σ, H, I, w0⟩)
  rintro n s1 ⟨σ1, H1, I1, w1⟩
  refine wpAny_passesOwn hp (thn (hc pins s1 σ1 H1 _ I1 (turn n σ1 H1 w1)) fun b s2 ⟨H2, I2, q2⟩ => ?_)
  cases b with
  | true =>
    obtain ⟨N, hN, q2⟩ := q2
    rw [if_pos rfl]
    refine wpAny_passesOwn hp (thn (hb pins s2 σ1 H2 _ I2 q2) fun f s3 q3 => ?_)
    cases f with
    | next =>
      obtain ⟨σ3, H3, I3, n3⟩ := q3
      obtain ⟨m', hm, w3⟩ := hN σ3 H3 n3
      exact ⟨m', hm, σ3, H3, I3, w3⟩
    | cont =>
      obtain ⟨σ3, H3, I3, n3⟩ := q3
      obtain ⟨m', hm, w3⟩ := hN σ3 H3 n3
      exact ⟨m', hm, σ3, H3, I3, w3⟩
    | brk => exact q3
    | ret v => exact q3
  | false =>
    rw [if_neg Bool.false_ne_true]
    exact wpAny_execs_nil ⟨σ1, H2, I2, q2⟩
end

structure It where
  go : Nat → Hp → Prop
  yld : Nat → Hp → V → Hp → Prop
  stop : Nat → Hp → Prop
def FpOk (X : Cx) (pins : List (Addr × Obj)) (H : Hp) (b : Addr) : Prop :=
  H b = none ∧ b ≠ X.env.locals ∧ b ∉ X.fs ∧ (b ∈ X.ex ∨ X.s_0.heap.objs.size ≤ b) ∧ (∀ x c, X.env.cells.lookup x = some c → c ≠ b) ∧ ∀ p ∈ X.pn ++ pins, p.1 ≠ b
theorem Inv.fpOk {X : Cx} {pins : List (Addr × Obj)} {σ : St} {H H' : Hp} {s : Shared} {b : Addr} (I : Inv X pins σ H s) (hb : s.heap.objs.size ≤ b) (hn : H' b = none) : FpOk X pins H' b := by
  refine ⟨hn, Nat.ne_of_gt (Nat.lt_of_lt_of_le I.lt hb), I.nofs hb, .inr (Nat.le_trans I.sz hb), fun x c e z => ?_, fun p hp z => ?_⟩
  · obtain ⟨v, q⟩ := I.cell x c e
    exact absurd (Nat.lt_of_lt_of_le q.lt (by rw [z]; exact hb)) (Nat.lt_irrefl _)
  · exact absurd (Nat.lt_of_lt_of_le (Heap.lt_size (I.pin p hp).1) (by rw [z]; exact hb)) (Nat.lt_irrefl _)
structure Turn (P : Program) (w : World) (K : PySem.W.Frag) (tg : Expr) (J : It) (fp : List Addr) (it : Addr) (tn : Nat → Heap → Prop) : Prop where
  mem : it ∈ fp
  obj : ∀ i h, tn i h → ∀ b ∈ fp, ∃ o, h.get? b = some o ∧ ∀ v, o.data ≠ .cell v
  keep : ∀ i h h', tn i h → (∀ b ∈ fp, ∀ o, h.get? b = some o → h'.get? b = some o) → tn i h'
  item : ∀ (X : Cx), X.prog = P → X.w = w → X.K = K → X.calm = true → ∀ (i : Nat) (pins : List (Addr × Obj)) (s : Shared) (σ : St) (H : Hp) (E : Value → Shared → Prop), Inv X pins σ H s → (∀ b ∈ fp, FpOk X pins H b) → tn i s.heap → J.go i H →
    wpAny (model P w) X.A (pyNext (.ref it)) (fun r s1 => ∃ u, r = some u ∧
      wpAny (model P w) X.A (letOwnedTupleGo tg (.ref it) u) (fun _ s2 => ∃ x H', Inv X pins σ H' s2 ∧ RelV x u ∧ J.yld i H x H' ∧ tn (i + 1) s2.heap ∧ ∀ b ∈ fp, H' b = none) E s1) E s
  done : ∀ (X : Cx), X.prog = P → X.w = w → X.K = K → X.calm = true → ∀ (i : Nat) (pins : List (Addr × Obj)) (s : Shared) (σ : St) (H : Hp) (E : Value → Shared → Prop), Inv X pins σ H s → (∀ b ∈ fp, FpOk X pins H b) → tn i s.heap → J.stop i H →
    wpAny (model P w) X.A (pyNext (.ref it)) (fun r s1 => r = none ∧ Inv X pins σ H s1) E s
  self : ∀ (A : Around) (i : Nat) (s : Shared) (Q : Value → Shared → Prop) (E : Value → Shared → Prop), tn i s.heap → Q (.ref it) s → wpAny (model P w) A (pyIter (.ref it)) Q E s
abbrev TI := St → Hp → (It → Hp → Prop) → Prop
def PIE (X : Cx) (pins : List (Addr × Obj)) (σ : St) (tg : Expr) (R : It → Hp → Prop) (itv : Value) (s2 : Shared) : Prop :=
  ∃ (it : Addr) (fp : List Addr) (tn : Nat → Heap → Prop) (J : It) (H' : Hp), itv = .ref it ∧ Inv X pins σ H' s2 ∧ Turn X.prog X.w X.K tg J fp it tn ∧ tn 0 s2.heap ∧ (∀ b ∈ fp, FpOk X pins H' b) ∧ R J H'
def PI (X : Cx) (tg iter : Expr) (wi : TI) : Prop :=
  ∀ (pins : List (Addr × Obj)) (s : Shared) (σ : St) (H : Hp) (R : It → Hp → Prop), Inv X pins σ H s → wi σ H R →
    wpAny (model X.prog X.w) X.A (eval iter X.env) (fun v s1 => wpAny (model X.prog X.w) X.A (pyIter v) (PIE X pins σ tg R) X.xe s1) X.xe s

theorem go_of {M : Model} {A : Around} {E : Value → Shared → Prop} {s : Shared} {tg : Expr} {it : Addr} {u : Value} {o : Obj} {n : String} {vs : Array Value} {Q : Unit → Shared → Prop} (ho : s.heap.get? it = some o) (hc : o.cls = .type n) (hd : o.data = .fields vs)
    (hn : ["enumerate", "zip", "dict_itemiterator", "dict_reverseitemiterator", "odict_iterator", "itertools.zip_longest", "itertools.pairwise"].contains n = false) (hQ : Q () s) : wpAny M A (letOwnedTupleGo tg (.ref it) u) Q E s := by
  unfold letOwnedTupleGo
  cases tg <;> first
    | exact wpAny_pure hQ
    | (cases u <;> first
        | exact wpAny_pure hQ
        | (refine wpAny_bind (wpAny_load ho ?_)
           rw [hc, hd]
           show wpAny M A (if (["enumerate", "zip", "dict_itemiterator", "dict_reverseitemiterator", "odict_iterator", "itertools.zip_longest", "itertools.pairwise"].contains n && vs[0]? == some (rawInt _)) = true then _ else _) Q E s
           rw [if_neg (by intro h; rw [hn, Bool.false_and] at h; cases h)]
           exact wpAny_pure hQ))

def Itl (K : PySem.W.Frag) (a : Addr) : It :=
  ⟨fun i H => ∃ xs x, SqL K H a xs ∧ xs[i]? = some x, fun i H x H' => H' = H ∧ ∀ xs, SqL K H a xs → xs[i]? = some x, fun i H => ∃ xs, SqL K H a xs ∧ xs.length ≤ i⟩
def Itt (K : PySem.W.Frag) (a : Addr) : It :=
  ⟨fun i H => ∃ xs x, SqT K H a xs ∧ xs[i]? = some x, fun i H x H' => H' = H ∧ ∀ xs, SqT K H a xs → xs[i]? = some x, fun i H => ∃ xs, SqT K H a xs ∧ xs.length ≤ i⟩
def Itr (lo : Int) (n : Nat) : It := ⟨fun i _ => i < n, fun i H x H' => H' = H ∧ x = .int (lo + i), fun i _ => n ≤ i⟩
theorem turn_list {P : Program} {w : World} {K : PySem.W.Frag} {tg : Expr} (a it : Addr) : Turn P w K tg (Itl K a) [it] it (fun i h => h.IsListIter it a i) where
  mem := by simp
  obj := fun i h st b hb => by
    have e : b = it := by simpa using hb
    subst e
    obtain ⟨o, e, c, d⟩ := st
    exact ⟨o, e, fun v z => by rw [d] at z; cases z⟩
  keep := fun i h h' st k => st.at fun o e => k it (by simp) o e
  item := by
    intro X hP hw hK hc i pins s σ H E I hf st hg
    subst hP hw hK
    obtain ⟨xs, x, hq, hx⟩ := hg
    obtain ⟨its, rv, p, hz⟩ := I.list hq
    obtain ⟨u, hu, ru⟩ := rv.get hx
    obtain ⟨f0, f1, f2, f3, f4, f5⟩ := hf it (by simp)
    refine wpAny_pyNext_list_item st p.isList (x := u) (by simpa using hu) fun h' st' sb => ?_
    have I1 : Inv X pins σ H { s with heap := h' } := I.turned (t' := s.toks) (fun b o hb e => (sb.2 b hb).trans e) f0 f1 f3 f4 f5
    obtain ⟨o, e, c, d⟩ := id st'
    exact ⟨u, rfl, go_of (s := { s with heap := h' }) e c d (by decide) ⟨x, H, I1, ru, ⟨rfl, fun ys hy => by rw [I.list_inj hy hq]; exact hx⟩, st', fun b hb => (hf b hb).1⟩⟩
  done := by
    intro X hP hw hK hc i pins s σ H E I hf st hg
    subst hP hw hK
    obtain ⟨xs, hq, hx⟩ := hg
    obtain ⟨its, rv, p, hz⟩ := I.list hq
    obtain ⟨f0, f1, f2, f3, f4, f5⟩ := hf it (by simp)
    have hl := rv.length
    exact wpAny_pyNext_list_end (I.ok.hd hc) st p.isList (by simp; omega) fun h' eb => ⟨rfl, I.turned (t' := s.toks) (fun b o hb e => eb b o hb e) f0 f1 f3 f4 f5⟩
  self := fun _ _ _ _ _ st h => wpAny_pyIter_listiter st h
theorem turn_range {P : Program} {w : World} {K : PySem.W.Frag} {tg : Expr} (it : Addr) (lo : Int) (n : Nat) : Turn P w K tg (Itr lo n) [it] it (fun i h => IsRangeIter h it (lo + (i : Nat) * 1) ((n : Int) - (i : Nat)) 1) where
  mem := by simp
  obj := fun i h st b hb => by
    have e : b = it := by simpa using hb
    subst e
    exact ⟨_, st, fun v z => by
      have z' : Data.fields _ = Data.cell v := z
      cases z'⟩
  keep := fun i h h' st k => k it (by simp) _ st
  item := by
    intro X hP hw hK hc i pins s σ H E I hf st hg
    subst hP hw hK
    obtain ⟨f0, f1, f2, f3, f4, f5⟩ := hf it (by simp)
    have W := Walks.range (prog := X.prog) (w := X.w) (I.ok.hd hc) it lo 1 n
    refine W.item i s _ _ hg st fun v h' tk hv st' kk => ?_
    obtain ⟨t, rfl⟩ := hv
    have I1 : Inv X pins σ H { s with heap := h', toks := tk } := I.turned (fun b o hb e => kk b o (by simpa using hb) e) f0 f1 f3 f4 f5
    refine ⟨_, rfl, go_of (s := { s with heap := h', toks := tk }) (n := "range_iterator") st' rfl rfl (by decide) ⟨.int (lo + i), H, I1, ⟨t, ?_⟩, ⟨rfl, rfl⟩, st', fun b hb => (hf b hb).1⟩⟩
    rw [Int.mul_one]
  done := by
    intro X hP hw hK hc i pins s σ H E I hf st hg
    subst hP hw hK
    obtain ⟨f0, f1, f2, f3, f4, f5⟩ := hf it (by simp)
    exact wpAny_pyNext_range_end (I.ok.hd hc) st (by have : n ≤ i := hg; omega) fun h' eb => ⟨rfl, I.turned (t' := s.toks) (fun b o hb e => eb b o hb e) f0 f1 f3 f4 f5⟩
  self := fun _ _ _ _ _ st h => wpAny_pyIter_rangeiter st h
end L2

namespace L2
open PySem PySem.Spec PyProof.Rows
section
variable {X : Cx} {tg : Expr}
def iList (K : PySem.W.Frag) (tl : TE) : TI := fun σ H R => tl σ H fun x H1 => ∃ a, x = .ref a ∧ (∃ xs, SqL K H1 a xs) ∧ R (Itl K a) H1
def iTup (K : PySem.W.Frag) (tl : TE) : TI := fun σ H R => tl σ H fun x H1 => ∃ a, x = .ref a ∧ (∃ xs, SqT K H1 a xs) ∧ R (Itt K a) H1
theorem pi_list {l : Expr} {tl : TE} (hl : PE X l tl) : PI X tg l (iList X.K tl) := by
  intro pins s σ H R I h
  refine thn (hl pins s σ H _ I h) fun v s1 ⟨x, H1, I1, r1, q1⟩ => ?_
  obtain ⟨a, e, ⟨xs, hq⟩, q⟩ := q1
  subst e
  cases r1
  obtain ⟨its, rv, p, hz⟩ := I1.list hq
  refine wpAny_pyIter_list p.isList ?_
  refine ⟨s1.heap.objs.size, [s1.heap.objs.size], _, _, H1, rfl, I1.kept (t' := s1.toks) fun b o e => Heap.get?_push_of_some _ e, turn_list a _, ⟨_, Heap.get?_push_size _ rfl, rfl, rfl⟩, fun b hb => ?_, q⟩
  have e : b = s1.heap.objs.size := by simpa using hb
  subst e
  exact I1.fpOk (Nat.le_refl _) (I1.hok.fresh (Nat.le_refl _))
theorem range_it {pins : List (Addr × Obj)} {σ : St} {H : Hp} {s : Shared} {R : It → Hp → Prop} {E : Value → Shared → Prop} {lo hi : Int} {t u v : Tok} {tk : Nat} (I : Inv X pins σ H s) (h1 : -(2 ^ 62) ≤ lo) (h2 : lo < 2 ^ 62) (h3 : -(2 ^ 62) ≤ hi) (h4 : hi < 2 ^ 62)
    (q : R (Itr lo (hi - lo).toNat) H) : wpAny (model X.prog X.w) X.A (pyIter (.ref s.heap.objs.size)) (PIE X pins σ tg R) E { s with heap := s.heap.push { cls := .type "range", data := .fields #[.int lo t, .int hi u, .int 1 v] }, toks := tk } := by
  refine wpAny_pyIter_range (IsRange.new ..) (small_one h1 h2 h3 h4) ?_
  have I1 : Inv X pins σ H { s with heap := s.heap.push { cls := .type "range", data := .fields #[.int lo t, .int hi u, .int 1 v] }, toks := tk } := I.kept fun b o e => Heap.get?_push_of_some _ e
  refine ⟨(s.heap.push { cls := .type "range", data := .fields #[.int lo t, .int hi u, .int 1 v] }).objs.size, [(s.heap.push { cls := .type "range", data := .fields #[.int lo t, .int hi u, .int 1 v] }).objs.size], _, _, H, rfl,
    I1.kept (t' := tk) fun b o e => Heap.get?_push_of_some _ e, turn_range _ lo (hi - lo).toNat, ?_, fun b hb => ?_, q⟩
  · have e1 : lo + ((0 : Nat) : Int) * 1 = lo := by simp
    have e2 : (((hi - lo).toNat : Nat) : Int) - ((0 : Nat) : Int) = Builtin.Range.rangeSize lo hi 1 := by rw [rangeSize_one]; split <;> omega
    show IsRangeIter _ _ (lo + ((0 : Nat) : Int) * 1) ((((hi - lo).toNat : Nat) : Int) - ((0 : Nat) : Int)) 1
    rw [e1, e2]
    exact Heap.get?_push_size _ rfl
  · have e : b = (s.heap.push { cls := .type "range", data := .fields #[.int lo t, .int hi u, .int 1 v] }).objs.size := by simpa using hb
    subst e
    exact I1.fpOk (Nat.le_refl _) (I1.hok.fresh (Nat.le_refl _))
def iRng1 (ta : TA) : TI := fun σ H R => ta σ H fun vs H1 => ∃ j : Int, vs = [.int j] ∧ -(2 ^ 62) ≤ j ∧ j < 2 ^ 62 ∧ R (Itr 0 j.toNat) H1
def iRng2 (ta : TA) : TI := fun σ H R => ta σ H fun vs H1 => ∃ i j : Int, vs = [.int i, .int j] ∧ (-(2 ^ 62) ≤ i ∧ i < 2 ^ 62 ∧ -(2 ^ 62) ≤ j ∧ j < 2 ^ 62) ∧ R (Itr i (j - i).toNat) H1
theorem pi_range1 {a : Expr} {ta : TA} {p pos : Pos} (hg : Gl X "range") (hm : X.mg "range" = none) (ha : PA X [a] ta) (hs : starEach [a] X.env = [(false, eval a X.env)] := by rfl) : PI X tg (.Call (.Name "range" p) [a] [] pos) (iRng1 ta) := by
  intro pins s σ H R I h
  refine Call_ (ld_blt I hg hm boot_range (PyProof.Rows.callWith_type1 (thn (ha pos pins s σ H _ I h) fun us s1 ⟨vs, H1, I1, r1, q1⟩ => ?_) hs rfl))
  obtain ⟨j, e, q1, q2, q⟩ := q1
  subst e
  cases r1 with
  | cons r rr =>
    cases rr
    obtain ⟨t, rfl⟩ := r
    exact call_range_1 (range_it I1 (by omega) (by omega) q1 q2 (by simpa using q))
theorem pi_range2 {a b : Expr} {ta : TA} {p pos : Pos} (hg : Gl X "range") (hm : X.mg "range" = none) (ha : PA X [a, b] ta) (hs : starEach [a, b] X.env = [(false, eval a X.env), (false, eval b X.env)] := by rfl) (hs2 : starEach [b] X.env = [(false, eval b X.env)] := by rfl) :
    PI X tg (.Call (.Name "range" p) [a, b] [] pos) (iRng2 ta) := by
  intro pins s σ H R I h
  refine Call_ (ld_blt I hg hm boot_range (PyProof.Rows.callWith_type1 (thn (ha pos pins s σ H _ I h) fun us s1 ⟨vs, H1, I1, r1, q1⟩ => ?_) (by rw [hs, hs2]) (by rw [hs2]; rfl)))
  obtain ⟨i, j, e, ⟨q1, q2, q3, q4⟩, q⟩ := q1
  subst e
  cases r1 with
  | cons r rr =>
    cases rr with
    | cons r' rr =>
      cases rr
      obtain ⟨t, rfl⟩ := r
      obtain ⟨t', rfl⟩ := r'
      exact call_range_2 (range_it I1 q1 q2 q3 q4 q)

def tFor (wi : TI) (g : TG) (tb : TS) : TS := fun D σ H => wi σ H fun J H1 => ∃ W : Nat → Nat → St → Hp → Prop, (∃ m, W 0 m σ H1) ∧ ∀ i m σ H, W i m σ H →
  (J.stop i H ∧ D.nx σ H) ∨ (J.go i H ∧ ∃ N : St → Hp → Prop, (∀ σ' H', N σ' H' → ∃ m', m' < m ∧ W (i + 1) m' σ' H') ∧ ∀ x H', J.yld i H x H' → g x σ H' fun σ2 H2 => tb { D with nx := N, ct := N, bk := D.nx } σ2 H2)
def pinsAt (fp : List Addr) (h : Heap) : List (Addr × Obj) := fp.filterMap fun b => (h.get? b).map fun o => (b, o)
theorem mem_pinsAt {fp : List Addr} {h : Heap} {b : Addr} {o : Obj} (hb : b ∈ fp) (e : h.get? b = some o) : (b, o) ∈ pinsAt fp h := List.mem_filterMap.mpr ⟨b, hb, by rw [e]; rfl⟩
theorem of_pinsAt {fp : List Addr} {h : Heap} {p : Addr × Obj} (hp : p ∈ pinsAt fp h) : p.1 ∈ fp ∧ h.get? p.1 = some p.2 := by
  obtain ⟨b, hb, e⟩ := List.mem_filterMap.mp hp
  cases q : h.get? b with
  | none => rw [q] at e; cases e
  | some o =>
    rw [q] at e
    have e' : (b, o) = p := Option.some.inj e
    subst e'
    exact ⟨hb, q⟩
theorem Inv.pinned {pins : List (Addr × Obj)} {σ : St} {H : Hp} {s : Shared} {fp : List Addr} (I : Inv X pins σ H s) (hf : ∀ b ∈ fp, FpOk X pins H b) (ho : ∀ b ∈ fp, ∃ o, s.heap.get? b = some o ∧ ∀ v, o.data ≠ .cell v) : Inv X (pins ++ pinsAt fp s.heap) σ H s :=
  I.pins_of fun p hp => (List.mem_append.mp hp).elim (fun z => I.pin p (List.mem_append_right _ z)) fun z => by
    obtain ⟨hb, e⟩ := of_pinsAt z
    obtain ⟨f0, f1, f2, _⟩ := hf p.1 hb
    obtain ⟨o, e', d⟩ := ho p.1 hb
    rw [e] at e'; cases e'
    exact ⟨e, f0, f1, f2, d⟩
theorem Inv.unpinned {pins pl : List (Addr × Obj)} {σ : St} {H : Hp} {s : Shared} (I : Inv X (pins ++ pl) σ H s) : Inv X pins σ H s := I.pins_of fun p hp => I.pin p (List.mem_append_right _ (List.mem_append_left _ hp))
theorem ps_for {iter : Expr} {body : List Stmt} {wi : TI} {g : TG} {tb : TS} {pos : Pos} (hp : PassesOwn (model X.prog X.w) X.A X.env X.xe) (hc : X.calm = true) (hi : PI X tg iter wi) (hg : PG X tg g) (hb : PSs X body tb)
    (hs : ∀ x, foldedSetIterable iter X.env x = pure x := by intro _; rfl) : PS X (.For tg iter body [] pos) (tFor wi g tb) := by
  intro pins s σ H D I h
  refine wpAny_For (thn (hi pins s σ H _ I h) fun v s1 h1 => thn h1 fun itv s2 h2 => ?_) hs
  obtain ⟨it, fp, tn, J, H2, e, I2, T, st2, f2, W, ⟨m0, w0⟩, turn⟩ := h2
  subst e
  -- what stays true of the iterator's objects through the loop
  have stat : ∀ {H' : Hp}, (∀ b ∈ fp, H' b = none) → ∀ b ∈ fp, FpOk X pins H' b := fun hn b hb => ⟨hn b hb, (f2 b hb).2⟩
  refine codeAny_forLoop_any (fun n s' => ∃ i σ' H', Inv X pins σ' H' s' ∧ tn i s'.heap ∧ (∀ b ∈ fp, H' b = none) ∧ W i n σ' H') ?_ m0 ⟨0, σ, H2, I2, st2, fun b hb => (f2 b hb).1, w0⟩
  rintro n s3 ⟨i, σ3, H3, I3, st3, fr3, w3⟩
  rcases turn i n σ3 H3 w3 with ⟨stop, qn⟩ | ⟨go, N, hN, step⟩
  · refine wpAny_passesOwn hp (thn (T.done X rfl rfl rfl hc i pins s3 σ3 H3 X.xe I3 (stat fr3) st3 stop) fun r s4 ⟨hr, I4⟩ => ?_)
    subst hr
    exact wpAny_execs_nil ⟨σ3, H3, I4, qn⟩
  · refine wpAny_passesOwn hp (thn (T.item X rfl rfl rfl hc i pins s3 σ3 H3 X.xe I3 (stat fr3) st3 go) fun r s4 ⟨u, hr, h4⟩ => ?_)
    subst hr
    refine wpAny_passesOwn hp (thn h4 fun _ s5 ⟨x, H5, I5, r5, y5, st5, fr5⟩ => ?_)
    have I5' := I5.pinned (stat fr5) (T.obj _ _ st5)
    refine wpAny_passesOwn hp (thn (hg _ s5 σ3 H5 x u _ I5' r5 (step x H5 y5)) fun _ s6 ⟨σ6, H6, I6, q6⟩ => ?_)
    refine wpAny_passesOwn hp (thn (hb _ s6 σ6 H6 _ I6 q6) fun f s7 q7 => ?_)
    have again : ∀ {σ7 : St} {H7 : Hp}, Inv X (pins ++ pinsAt fp s5.heap) σ7 H7 s7 → N σ7 H7 → ∃ m, m < n ∧ ∃ i σ' H', Inv X pins σ' H' s7 ∧ tn i s7.heap ∧ (∀ b ∈ fp, H' b = none) ∧ W i m σ' H' := fun {σ7 H7} I7 n7 => by
      obtain ⟨m', hm, w7⟩ := hN σ7 H7 n7
      refine ⟨m', hm, i + 1, σ7, H7, I7.unpinned, T.keep _ _ _ st5 fun b hb o e => (I7.pin (b, o) (List.mem_append_right _ (List.mem_append_right _ (mem_pinsAt hb e)))).1, fun b hb => ?_, w7⟩
      obtain ⟨o, e, d⟩ := T.obj _ _ st5 b hb
      exact (I7.pin (b, o) (List.mem_append_right _ (List.mem_append_right _ (mem_pinsAt hb e)))).2.1
    cases f with
    | next => obtain ⟨σ7, H7, I7, n7⟩ := q7; exact again I7 n7
    | cont => obtain ⟨σ7, H7, I7, n7⟩ := q7; exact again I7 n7
    | brk => obtain ⟨σ7, H7, I7, q7⟩ := q7; exact ⟨σ7, H7, I7.unpinned, q7⟩
    | ret v => obtain ⟨x7, σ7, H7, I7, r7, q7⟩ := q7; exact ⟨x7, σ7, H7, I7.unpinned, r7, q7⟩
end

theorem for_list {K : PySem.W.Frag} {a : Addr} {xs : List V} {g : TG} {tb : TS} {D : Ends} {σ : St} {H : Hp} (Pv : Nat → St → Hp → Prop) (h0 : Pv 0 σ H) (hl : ∀ i σ H, i ≤ xs.length → Pv i σ H → SqL K H a xs)
    (hs : ∀ i x σ H, xs[i]? = some x → Pv i σ H → g x σ H fun σ2 H2 => tb { D with nx := Pv (i + 1), ct := Pv (i + 1), bk := D.nx } σ2 H2) (hd : ∀ σ H, Pv xs.length σ H → D.nx σ H) :
    ∃ W : Nat → Nat → St → Hp → Prop, (∃ m, W 0 m σ H) ∧ ∀ i m σ H, W i m σ H →
      ((Itl K a).stop i H ∧ D.nx σ H) ∨ ((Itl K a).go i H ∧ ∃ N : St → Hp → Prop, (∀ σ' H', N σ' H' → ∃ m', m' < m ∧ W (i + 1) m' σ' H') ∧ ∀ x H', (Itl K a).yld i H x H' → g x σ H' fun σ2 H2 => tb { D with nx := N, ct := N, bk := D.nx } σ2 H2) := by
  refine ⟨fun i m σ H => m = xs.length - i ∧ i ≤ xs.length ∧ Pv i σ H, ⟨xs.length, by simp, Nat.zero_le _, h0⟩, ?_⟩
  rintro i m σ H ⟨rfl, hi, p⟩
  have q := hl i σ H hi p
  by_cases hlt : i < xs.length
  · refine .inr ⟨⟨xs, xs[i], q, by simp [hlt]⟩, Pv (i + 1), fun σ' H' p' => ⟨xs.length - (i + 1), by omega, rfl, hlt, p'⟩, fun x H' y => ?_⟩
    obtain ⟨e, y⟩ := y
    subst e
    exact hs i x σ _ (y xs q) p
  · have e : i = xs.length := by omega
    subst e
    exact .inl ⟨⟨xs, q, Nat.le_refl _⟩, hd σ H p⟩
theorem for_tup {K : PySem.W.Frag} {a : Addr} {xs : List V} {g : TG} {tb : TS} {D : Ends} {σ : St} {H : Hp} (Pv : Nat → St → Hp → Prop) (h0 : Pv 0 σ H) (hl : ∀ i σ H, i ≤ xs.length → Pv i σ H → SqT K H a xs)
    (hs : ∀ i x σ H, xs[i]? = some x → Pv i σ H → g x σ H fun σ2 H2 => tb { D with nx := Pv (i + 1), ct := Pv (i + 1), bk := D.nx } σ2 H2) (hd : ∀ σ H, Pv xs.length σ H → D.nx σ H) :
    ∃ W : Nat → Nat → St → Hp → Prop, (∃ m, W 0 m σ H) ∧ ∀ i m σ H, W i m σ H →
      ((Itt K a).stop i H ∧ D.nx σ H) ∨ ((Itt K a).go i H ∧ ∃ N : St → Hp → Prop, (∀ σ' H', N σ' H' → ∃ m', m' < m ∧ W (i + 1) m' σ' H') ∧ ∀ x H', (Itt K a).yld i H x H' → g x σ H' fun σ2 H2 => tb { D with nx := N, ct := N, bk := D.nx } σ2 H2) := by
  refine ⟨fun i m σ H => m = xs.length - i ∧ i ≤ xs.length ∧ Pv i σ H, ⟨xs.length, by simp, Nat.zero_le _, h0⟩, ?_⟩
  rintro i m σ H ⟨rfl, hi, p⟩
  have q := hl i σ H hi p
  by_cases hlt : i < xs.length
  · refine .inr ⟨⟨xs, xs[i], q, by simp [hlt]⟩, Pv (i + 1), fun σ' H' p' => ⟨xs.length - (i + 1), by omega, rfl, hlt, p'⟩, fun x H' y => ?_⟩
    obtain ⟨e, y⟩ := y
    subst e
    exact hs i x σ _ (y xs q) p
  · have e : i = xs.length := by omega
    subst e
    exact .inl ⟨⟨xs, q, Nat.le_refl _⟩, hd σ H p⟩
theorem for_range {lo : Int} {n : Nat} {g : TG} {tb : TS} {D : Ends} {σ : St} {H : Hp} (Pv : Nat → St → Hp → Prop) (h0 : Pv 0 σ H)
    (hs : ∀ i σ H, i < n → Pv i σ H → g (.int (lo + i)) σ H fun σ2 H2 => tb { D with nx := Pv (i + 1), ct := Pv (i + 1), bk := D.nx } σ2 H2) (hd : ∀ σ H, Pv n σ H → D.nx σ H) :
    ∃ W : Nat → Nat → St → Hp → Prop, (∃ m, W 0 m σ H) ∧ ∀ i m σ H, W i m σ H →
      ((Itr lo n).stop i H ∧ D.nx σ H) ∨ ((Itr lo n).go i H ∧ ∃ N : St → Hp → Prop, (∀ σ' H', N σ' H' → ∃ m', m' < m ∧ W (i + 1) m' σ' H') ∧ ∀ x H', (Itr lo n).yld i H x H' → g x σ H' fun σ2 H2 => tb { D with nx := N, ct := N, bk := D.nx } σ2 H2) := by
  refine ⟨fun i m σ H => m = n - i ∧ i ≤ n ∧ Pv i σ H, ⟨n, by simp, Nat.zero_le _, h0⟩, ?_⟩
  rintro i m σ H ⟨rfl, hi, p⟩
  by_cases hlt : i < n
  · refine .inr ⟨hlt, Pv (i + 1), fun σ' H' p' => ⟨n - (i + 1), by omega, rfl, hlt, p'⟩, fun x H' y => ?_⟩
    obtain ⟨e, y⟩ := y
    subst e y
    exact hs i σ _ hlt p
  · have e : i = n := by omega
    subst e
    exact .inl ⟨Nat.le_refl _, hd σ H p⟩
end L2

namespace L2
open PySem PySem.Spec PyProof.Rows

abbrev R2 := V → V → Hp → VK → Prop
def OpR (X : Cx) (f : Value → Value → Sem Value) (r : R2) : Prop :=
  ∀ (pins : List (Addr × Obj)) (s : Shared) (σ : St) (H : Hp) (x y : V) (v u : Value) (Q : VK), Inv X pins σ H s → RelV x v → RelV y u → r x y H Q →
    wpAny (model X.prog X.w) X.A (f v u) (EP X pins σ Q) X.xe s
def UnR (X : Cx) (f : Value → Sem Value) (r : V → Hp → VK → Prop) : Prop :=
  ∀ (pins : List (Addr × Obj)) (s : Shared) (σ : St) (H : Hp) (x : V) (v : Value) (Q : VK), Inv X pins σ H s → RelV x v → r x H Q →
    wpAny (model X.prog X.w) X.A (f v) (EP X pins σ Q) X.xe s
def CallR (X : Cx) (f : Value) (r : List V → Hp → VK → Prop) : Prop :=
  ∀ (pins : List (Addr × Obj)) (s : Shared) (σ : St) (H : Hp) (xs : List V) (us : List Value) (Q : VK), Inv X pins σ H s → Vals xs us → r xs H Q →
    wpAny (model X.prog X.w) X.A (call f us) (EP X pins σ Q) X.xe s
def tOp (r : R2) (ta tb : TE) : TE := fun σ H Q => ta σ H fun x H1 => tb σ H1 fun y H2 => r x y H2 Q
def tUn (r : V → Hp → VK → Prop) (ta : TE) : TE := fun σ H Q => ta σ H fun x H1 => r x H1 Q
def rI (C : Int → Int → Prop) (g : Int → Int → V) : R2 := fun x y H Q => ∃ i j, x = .int i ∧ y = .int j ∧ C i j ∧ Q (g i j) H
def rI0 (g : Int → Int → V) : R2 := fun x y H Q => ∃ i j, x = .int i ∧ y = .int j ∧ Q (g i j) H
def rU (g : Int → V) : V → Hp → VK → Prop := fun x H Q => ∃ i, x = .int i ∧ Q (g i) H

section
variable {X : Cx} {a b c : Expr} {ta tb tc : TE} {pos : Pos}

theorem binT (ha : PE X a ta) (hb : PE X b tb) {pins : List (Addr × Obj)} {s : Shared} {σ : St} {H : Hp} {R : V → V → Hp → Prop} (I : Inv X pins σ H s)
    (h : ta σ H fun x H1 => tb σ H1 fun y H2 => R x y H2) {Q : Value → Shared → Prop} {f : Value → Value → Sem Value}
    (hf : ∀ v u s2 x y H2, Inv X pins σ H2 s2 → RelV x v → RelV y u → R x y H2 → wpAny (model X.prog X.w) X.A (f v u) Q X.xe s2) :
    wpAny (model X.prog X.w) X.A (eval a X.env) (fun v s₁ => wpAny (model X.prog X.w) X.A (eval b X.env) (fun u s₂ => wpAny (model X.prog X.w) X.A (f v u) Q X.xe s₂) X.xe s₁) X.xe s := by
  refine thn (ha pins s σ H _ I h) fun v s1 ⟨x, H1, I1, r1, q1⟩ => ?_
  refine thn (hb pins s1 σ H1 _ I1 q1) fun u s2 ⟨y, H2, I2, r2, q2⟩ => ?_
  exact hf v u s2 x y H2 I2 r1 r2 q2

theorem pe_op {op : Operator} {r : R2} (ho : OpR X (binaryOp op) r) (ha : PE X a ta) (hb : PE X b tb) : PE X (.BinOp a op b pos) (tOp r ta tb) := by
  intro pins s σ H Q I h
  exact wpAny_BinOp (binT ha hb I h fun v u s2 x y H2 I2 rx ry q => ho pins s2 σ H2 x y v u Q I2 rx ry q)
theorem pe_un {op : UnaryOp} {r : V → Hp → VK → Prop} (ho : UnR X (unaryOp op) r) (ha : PE X a ta) : PE X (.UnaryOp op a pos) (tUn r ta) := by
  intro pins s σ H Q I h
  exact UnaryOp_ (thn (ha pins s σ H _ I h) fun v s1 ⟨x, H1, I1, r1, q1⟩ => ho pins s1 σ H1 x v Q I1 r1 q1)
theorem opI {f : Value → Value → Sem Value} {C : Int → Int → Prop} {g : Int → Int → Int}
    (rule : ∀ (i j : Int) (t u : Tok) (s : Shared) (Q : Value → Shared → Prop) (E : Value → Shared → Prop), C i j → Q (.int (g i j) s.toks) { s with toks := s.toks + 1 } → wpAny (model X.prog X.w) X.A (f (.int i t) (.int j u)) Q E s) :
    OpR X f (rI C fun i j => .int (g i j)) := by
  intro pins s σ H x y v u Q I rx ry h
  obtain ⟨i, j, rfl, rfl, hc, q⟩ := h
  obtain ⟨t, rfl⟩ := rx
  obtain ⟨t', rfl⟩ := ry
  exact rule i j t t' s _ _ hc ⟨.int (g i j), H, I.tok _, ⟨_, rfl⟩, q⟩
theorem opI0 {f : Value → Value → Sem Value} {g : Int → Int → Int}
    (rule : ∀ (i j : Int) (t u : Tok) (s : Shared) (Q : Value → Shared → Prop) (E : Value → Shared → Prop), Q (.int (g i j) s.toks) { s with toks := s.toks + 1 } → wpAny (model X.prog X.w) X.A (f (.int i t) (.int j u)) Q E s) :
    OpR X f (rI0 fun i j => .int (g i j)) := by
  intro pins s σ H x y v u Q I rx ry h
  obtain ⟨i, j, rfl, rfl, q⟩ := h
  obtain ⟨t, rfl⟩ := rx
  obtain ⟨t', rfl⟩ := ry
  exact rule i j t t' s _ _ ⟨.int (g i j), H, I.tok _, ⟨_, rfl⟩, q⟩
theorem opB0 {f : Value → Value → Sem Value} {g : Int → Int → Bool}
    (rule : ∀ (i j : Int) (t u : Tok) (s : Shared) (Q : Value → Shared → Prop) (E : Value → Shared → Prop), Q (.bool (g i j)) s → wpAny (model X.prog X.w) X.A (f (.int i t) (.int j u)) Q E s) :
    OpR X f (rI0 fun i j => .bl (g i j)) := by
  intro pins s σ H x y v u Q I rx ry h
  obtain ⟨i, j, rfl, rfl, q⟩ := h
  obtain ⟨t, rfl⟩ := rx
  obtain ⟨t', rfl⟩ := ry
  exact rule i j t t' s _ _ ⟨.bl (g i j), H, I, rfl, q⟩

def CDiv (i j : Int) : Prop := 0 < j ∧ j < 1073741824
theorem op_add : OpR X (binaryOp .Add) (rI0 fun i j => .int (i + j)) := opI0 fun _ _ _ _ _ _ _ q => add_int q
theorem op_sub : OpR X (binaryOp .Sub) (rI0 fun i j => .int (i - j)) := opI0 fun _ _ _ _ _ _ _ q => sub_int q
theorem op_fdiv : OpR X (binaryOp .FloorDiv) (rI CDiv fun i j => .int (i / j)) := opI fun i j _ _ _ _ _ hc q => by
  have h1 : (0 : Int) < j := hc.1
  have h2 : j < 1073741824 := hc.2
  exact floordiv_int (by omega) (by rw [Int.fdiv_eq_ediv_of_nonneg i (by omega)]; exact q) (.inl (PyProof.noPylong_small (by omega)))
theorem unI {f : Value → Sem Value} {g : Int → Int}
    (rule : ∀ (i : Int) (t : Tok) (s : Shared) (Q : Value → Shared → Prop) (E : Value → Shared → Prop), Q (.int (g i) s.toks) { s with toks := s.toks + 1 } → wpAny (model X.prog X.w) X.A (f (.int i t)) Q E s) :
    UnR X f (rU fun i => .int (g i)) := by
  intro pins s σ H x v Q I rx h
  obtain ⟨i, rfl, q⟩ := h
  obtain ⟨t, rfl⟩ := rx
  exact rule i t s _ _ ⟨.int (g i), H, I.tok _, ⟨_, rfl⟩, q⟩
theorem un_neg : UnR X (unaryOp .USub) (rU fun i => .int (-i)) := unI fun _ _ _ _ _ q => neg_int q
end

def scal : V → V → Bool
  | .non, .non => true | .non, .int _ => true | .int _, .non => true | .non, .bl _ => true | .bl _, .non => true | .non, .str _ => true | .str _, .non => true
  | .int _, .int _ => true | .bl _, .bl _ => true | .str _, .str _ => true | .byt _, .byt _ => true
  | .int _, .str _ => true | .str _, .int _ => true | .bl _, .str _ => true | .str _, .bl _ => true
  | _, _ => false
def rEq : R2 := fun x y H Q => scal x y = true ∧ Q (.bl (decide (x = y))) H
def rNe : R2 := fun x y H Q => scal x y = true ∧ Q (.bl (!decide (x = y))) H

theorem dec_int {i j : Int} : decide (V.int i = V.int j) = (i == j) := by
  rw [Bool.eq_iff_iff]
  simp
theorem dec_bl {i j : Bool} : decide (V.bl i = V.bl j) = (i == j) := by
  rw [Bool.eq_iff_iff]
  simp
theorem dec_str {i j : Str} : decide (V.str i = V.str j) = (i == j) := by
  rw [Bool.eq_iff_iff]
  simp
theorem dec_byt {i j : Array UInt8} : decide (V.byt i = V.byt j) = (i.toList == j.toList) := by
  rw [Bool.eq_iff_iff]
  cases i
  cases j
  simp

section
variable {X : Cx} {a b c : Expr} {ta tb tc : TE} {pos : Pos}
theorem fin_bl {pins : List (Addr × Obj)} {σ : St} {H : Hp} {s : Shared} {Q : VK} {k k' : Bool} (I : Inv X pins σ H s) (q : Q (.bl k) H) (e : k = k') : EP X pins σ Q (.bool k') s := by
  subst e
  exact ⟨.bl k, H, I, rfl, q⟩
theorem op_eq : OpR X (compareOp .Eq) rEq := by
  intro pins s σ H x y v u Q I rx ry h
  obtain ⟨hs, q⟩ := h
  cases x with
  | non =>
    cases rx
    cases y with
    | non => cases ry; exact PySem.EqNone.eq_none_none (fin_bl I q (by simp))
    | bl j => cases ry; exact PySem.EqNone.eq_none_bool (fin_bl I q (by simp))
    | int j => obtain ⟨t', rfl⟩ := ry; exact PySem.EqNone.eq_none_int (fin_bl I q (by simp))
    | str j => obtain ⟨t', rfl⟩ := ry; exact PySem.EqNone.eq_none_str (fin_bl I q (by simp))
    | _ => exact absurd (show false = true from hs) Bool.false_ne_true
  | bl i =>
    cases rx
    cases y with
    | non => cases ry; exact PySem.EqNone.eq_bool_none (fin_bl I q (by simp))
    | bl j => cases ry; exact eq_bool (fin_bl I q dec_bl)
    | str j => obtain ⟨t', rfl⟩ := ry; exact PySem.EqMixed.eq_bool_str (fin_bl I q (by simp))
    | _ => exact absurd (show false = true from hs) Bool.false_ne_true
  | int i =>
    obtain ⟨t, rfl⟩ := rx
    cases y with
    | non => cases ry; exact PySem.EqNone.eq_int_none (fin_bl I q (by simp))
    | int j => obtain ⟨t', rfl⟩ := ry; exact eq_int (fin_bl I q dec_int)
    | str j => obtain ⟨t', rfl⟩ := ry; exact PySem.EqMixed.eq_int_str (fin_bl I q (by simp))
    | _ => exact absurd (show false = true from hs) Bool.false_ne_true
  | str i =>
    obtain ⟨t, rfl⟩ := rx
    cases y with
    | non => cases ry; exact PySem.EqNone.eq_str_none (fin_bl I q (by simp))
    | bl j => cases ry; exact PySem.EqMixed.eq_str_bool (fin_bl I q (by simp))
    | int j => obtain ⟨t', rfl⟩ := ry; exact PySem.EqMixed.eq_str_int (fin_bl I q (by simp))
    | str j => obtain ⟨t', rfl⟩ := ry; exact eq_str (fin_bl I q dec_str)
    | _ => exact absurd (show false = true from hs) Bool.false_ne_true
  | byt i =>
    obtain ⟨t, rfl⟩ := rx
    cases y with
    | byt j => obtain ⟨t', rfl⟩ := ry; exact PySem.W.eq_bytes (fin_bl I q dec_byt)
    | _ => exact absurd (show false = true from hs) Bool.false_ne_true
  | _ => cases y <;> exact absurd (show false = true from hs) Bool.false_ne_true
theorem op_lt : OpR X (compareOp .Lt) (rI0 fun i j => .bl (decide (i < j))) := opB0 fun _ _ _ _ _ _ _ q => lt_int q
theorem op_le : OpR X (compareOp .LtE) (rI0 fun i j => .bl (decide (i ≤ j))) := opB0 fun _ _ _ _ _ _ _ q => le_int q
theorem op_gt : OpR X (compareOp .Gt) (rI0 fun i j => .bl (decide (j < i))) := opB0 fun _ _ _ _ _ _ _ q => gt_int q
theorem op_ge : OpR X (compareOp .GtE) (rI0 fun i j => .bl (decide (j ≤ i))) := opB0 fun _ _ _ _ _ _ _ q => ge_int q
theorem nomark (b : Expr) {op : CmpOp} (h : op ≠ .In := by decide) (h2 : op ≠ .NotIn := by decide) : behindInMarks op b = false := by
  have e1 : (op == CmpOp.In) = false := by cases op <;> first | rfl | exact absurd rfl h
  have e2 : (op == CmpOp.NotIn) = false := by cases op <;> first | rfl | exact absurd rfl h2
  cases b <;> simp [behindInMarks, e1, e2]
theorem pe_cmpR {op : CmpOp} {r : R2} (ho : OpR X (compareOp op) r) (ha : PE X a ta) (hb : PE X b tb) (hm : behindInMarks op b = false) : PE X (.Compare a [op] [b] pos) (tOp r ta tb) := by
  intro pins s σ H Q I h
  exact wpAny_Compare1 (binT ha hb I h fun v u s2 x y H2 I2 rx ry q => ho pins s2 σ H2 x y v u Q I2 rx ry q) hm
def tTest (t : TE) : TT := fun σ H Q => t σ H fun x H' => ∃ k, x = .bl k ∧ Q k H'
theorem pt_cmpR {op : CmpOp} {r : R2} (ho : OpR X (compareOp op) r) (ha : PE X a ta) (hb : PE X b tb) (hm : behindInMarks op b = false) : PT X (.Compare a [op] [b] pos) (tTest (tOp r ta tb)) := by
  intro pins s σ H Q I h
  refine wpAny_isTrue_Compare1 (thn (ha pins s σ H _ I h) fun v s1 ⟨x, H1, I1, r1, q1⟩ => thn (hb pins s1 σ H1 _ I1 q1) fun u s2 ⟨y, H2, I2, r2, q2⟩ =>
    thn (ho pins s2 σ H2 x y v u _ I2 r1 r2 q2) fun c s3 ⟨z, H3, I3, r3, k, e, q3⟩ => ?_) hm
  subst e
  cases r3
  exact wpAny_truthy_bool ⟨H3, I3, q3⟩
def tChain (r r' : R2) (ta tb tc : TE) : TE := fun σ H Q => ta σ H fun x H1 => tb σ H1 fun y H2 => r x y H2 fun z H3 => ∃ k, z = .bl k ∧
  (if k = true then tc σ H3 fun w' H4 => r' y w' H4 Q else Q (.bl false) H3)
theorem pt_chain {op op' : CmpOp} {r r' : R2} (ho : OpR X (compareOp op) r) (ho' : OpR X (compareOp op') r') (ha : PE X a ta) (hb : PE X b tb) (hc : PE X c tc)
    (hm : lastMarks [op, op'] [b, c] = false := by with_unfolding_all rfl) : PT X (.Compare a [op, op'] [b, c] pos) (tTest (tChain r r' ta tb tc)) := by
  intro pins s σ H Q I h
  refine isTrue_chain (thn (ha pins s σ H _ I h) fun v s1 ⟨x, H1, I1, r1, q1⟩ => test_link (thn (hb pins s1 σ H1 _ I1 q1) fun u s2 ⟨y, H2, I2, r2, q2⟩ =>
    thn (ho pins s2 σ H2 x y v u _ I2 r1 r2 q2) fun d s3 ⟨z, H3, I3, r3, k, e, q3⟩ => ?_)) hm
  subst e
  cases r3
  refine wpAny_truthy_bool ?_
  cases k with
  | false =>
    obtain ⟨k', e', q'⟩ := q3
    cases e'
    exact ite_ff ⟨H3, I3, q'⟩
  | true =>
    refine ite_tt (test_last (thn (hc pins s3 σ H3 _ I3 q3) fun w' s4 ⟨z', H4, I4, r4, q4⟩ => thn (ho' pins s4 σ H4 y z' u w' _ I4 r2 r4 q4) fun d' s5 ⟨z2, H5, I5, r5, k2, e2, q5⟩ => ?_))
    subst e2
    cases r5
    exact wpAny_truthy_bool ⟨H5, I5, q5⟩

theorem line63 : (sizeLine : Nat) < 2 ^ 63 := by rw [sizeLine_eq]; decide
theorem vals1 {x : V} {us : List Value} (r : Vals [x] us) : ∃ u, us = [u] ∧ RelV x u := by
  cases r with
  | cons r1 r2 => cases r2; exact ⟨_, rfl, r1⟩
theorem vals2 {x y : V} {us : List Value} (r : Vals [x, y] us) : ∃ u w', us = [u, w'] ∧ RelV x u ∧ RelV y w' := by
  cases r with
  | cons r1 r2 =>
    cases r2 with
    | cons r3 r4 => cases r4; exact ⟨_, _, rfl, r1, r3⟩
theorem call_min2 (hc : X.calm = true) : CallR X (.builtin "min") (fun xs H Q => ∃ i j, xs = [.int i, .int j] ∧ Q (.int (if j < i then j else i)) H) := by
  intro pins s σ H xs us Q I r h
  obtain ⟨i, j, rfl, q⟩ := h
  obtain ⟨u, w', rfl, ⟨t, rfl⟩, ⟨t', rfl⟩⟩ := vals2 r
  refine min_two_ints (I.ok.hd hc) fun h' tk k => ⟨_, H, I.kept k, ?_, q⟩
  by_cases hj : j < i
  · rw [if_pos hj, if_pos hj]; exact ⟨_, rfl⟩
  · rw [if_neg hj, if_neg hj]; exact ⟨_, rfl⟩
end
end L2

namespace L2
open PySem PySem.Spec PyProof.Rows

structure ObjM (h : Heap) (x dx C : Addr) (mA : Str → Option Value) : Prop where
  obj : h.get? x = some (PySem.W.instObj C dx)
  ns : h.Ns1 dx mA
  ne : dx ≠ x

theorem lookIn_ns {h : Heap} {dx : Addr} {mA : Str → Option Value} (n : h.Ns1 dx mA) : ∃ od, h.get? dx = some od ∧ ∀ name, PySem.W.lookIn name od = some (mA name) := by
  obtain ⟨o, es, ep, ho, hd, hk, _, hm⟩ := n
  refine ⟨o, ho, fun name => ?_⟩
  have e := hm name
  unfold nsFind findBy at e
  rw [← Array.find?_toList] at e
  unfold PySem.W.lookIn
  rw [hd]
  dsimp only
  split
  · rename_i y q
    rw [q] at e
    exact congrArg some e
  · rename_i q
    rw [q] at e
    have a : es.toList.any (·.refKey) = false := by
      rw [List.any_eq_false]
      intro y hy
      obtain ⟨z, t, hkey⟩ := hk y (Array.mem_toList_iff.mp hy)
      simp [DictEntry.refKey, hkey]
    have a' : ¬ es.toList.any (·.refKey) = true := by rw [a]; exact Bool.false_ne_true
    rw [if_neg a']
    exact congrArg some e

theorem ObjM.look {h : Heap} {x dx C : Addr} {mA : Str → Option Value} (I : ObjM h x dx C mA) : ∃ od, PySem.W.InstAt h x (PySem.W.instObj C dx) C (some od) ∧ ∀ name, PySem.W.lookIn name od = some (mA name) :=
  let ⟨od, ho, hl⟩ := lookIn_ns I.ns
  ⟨od, ⟨I.obj, rfl, rfl, ho⟩, hl⟩

section
variable {prog : Program} {w : World} {A : Around} {E : Value → Shared → Prop} {s : Shared} {K : PySem.W.Frag} {x dx C f : Addr} {mA : Str → Option Value} {name : Str} {v : Value}

theorem get_map {expr : Bool} {Q : Value → Shared → Prop} (X : K.In s.heap) (I : ObjM s.heap x dx C mA) (hg : PySem.W.plainGet K C name = true) (hh : PySem.W.hasDictIn K C = true)
    (ha : PySem.W.findIn K (.ref C) name = some none) (hv : mA name = some v) (hv' : PySem.W.handedIn v = true) (h : Q v { s with toks := s.toks + 1 }) :
    wpAny (model prog w) A (getAttr (.ref x) name expr) Q E s := by
  obtain ⟨od, J, hl⟩ := I.look
  exact PySem.W.get_value X J (PySem.W.plainGet_of hg).1 (PySem.W.findObj_own hh ha rfl (by rw [hl, hv])) hv' h

theorem set_map {ns : List Str} {Q : Unit → Shared → Prop} (X : K.In s.heap) (I : ObjM s.heap x dx C mA)
    (hs : PySem.W.findIn K (.ref C) "__setattr__" = some (some (.builtin "object.__setattr__"))) (hp : PySem.W.plainOver K C = true) (ht : PySem.W.takerIn K C name = some none) (hh : PySem.W.hasDictIn K C = true)
    (hw : PySem.Within mA ns) (hsz : ns.length ≤ sizeLine)
    (h : ∀ h', ObjM h' x dx C (fun y => if y = name then some v else mA y) → Heap.SameBut dx s.heap h' → Q () { s with heap := h', toks := s.toks + 2 }) :
    wpAny (model prog w) A (setAttr (.ref x) name v) Q E s := by
  obtain ⟨od, J, hl⟩ := I.look
  refine PySem.W.set_plain X J hs (PySem.W.osa_open (s := { s with toks := s.toks + 1 }) (r := none) X J hp ht fun b => ?_)
  obtain ⟨cd, hc, hd'⟩ := PySem.W.any_some hh
  have hx : s.heap.get? x = some ⟨.ref C, some dx, .plain, #[]⟩ := I.obj
  refine wpAny_bind (wpAny_pure (wpAny_bind (wpAny_bind (wpAny_loadPart hx (wpAny_bind (PySem.W.Looks.here (s := { s with toks := s.toks + 1 }) (PySem.W.looks_clsIn X hc) ?_))))))
  rw [hd']
  refine wpAny_pure (a := some dx) (wpAny_bind (wpAny_pure (wpAny_bind ?_)))
  refine wpAny_nsSet1 (s := { s with toks := s.toks + 1 }) I.ns fun h' hn2 hs2 => ?_
  obtain ⟨oD, esD, epD, hoD, hdD, hcD⟩ := hn2.count (PySem.Within.cons name v hw)
  refine wpAny_bind (wpAny_lookBehind hoD (by rw [hdD]; exact pastItsLine_dict (Nat.le_trans hcD (by rw [List.length_cons]; omega))) ?_)
  exact wpAny_pure (h _ ⟨(hs2.2 _ (Ne.symm I.ne)).trans I.obj, hn2, I.ne⟩ hs2)

theorem make_map {R : Result → Shared → Prop} {vs : List Value} {kw : List (Str × Value)} (X : K.In s.heap) (hm : PySem.W.makesIn K C = true)
    (hi : PySem.W.findIn K (.ref C) "__init__" = some (some (.ref f))) (hf : PySem.W.typeIn K (.ref f) = some (.type "function"))
    (h : codeAny (model prog w) (A.under (.builtin "type.__call__" ⟨.ref C :: vs, kw⟩)) (.call (.ref f) ⟨.ref (s.heap.objs.size + 1) :: vs, kw⟩) (PySem.W.InitBack (s.heap.objs.size + 1) R)
      { s with heap := (s.heap.push PySem.W.emptyDict).push (PySem.W.instObj C s.heap.objs.size) }) :
    codeAny (model prog w) A (.call (.ref C) ⟨vs, kw⟩) R s := by
  obtain ⟨hh, g, d, t, os⟩ := s
  exact PySem.W.make_core (PySem.W.makes_of X hm) (PySem.W.looks_findIn X hi) (fun self => PySem.W.bind_fn X self hf) (.inl rfl) h
end

def putF (f : Str) (v : V) : List (Str × V) → List (Str × V)
  | [] => [(f, v)]
  | (g, x) :: r => if g = f then (g, v) :: r else (g, x) :: putF f v r
theorem lookup_putF (f g : Str) (v : V) : ∀ fs : List (Str × V), (putF f v fs).lookup g = if g = f then some v else fs.lookup g
  | [] => by
    show List.lookup g [(f, v)] = _
    by_cases h : g = f
    · have hb : (g == f) = true := beq_iff_eq.mpr h
      simp only [List.lookup, hb, if_pos h]
    · have hb : (g == f) = false := beq_eq_false_iff_ne.mpr h
      simp only [List.lookup, hb, if_neg h]
  | (k, x) :: r => by
    have ih := lookup_putF f g v r
    rw [show putF f v ((k, x) :: r) = (if k = f then (k, v) :: r else (k, x) :: putF f v r) from rfl]
    by_cases hk : k = f
    · rw [if_pos hk]
      by_cases h : g = k
      · have hb : (g == k) = true := beq_iff_eq.mpr h
        simp only [List.lookup, hb, if_pos (h.trans hk)]
      · have hb : (g == k) = false := beq_eq_false_iff_ne.mpr h
        simp only [List.lookup, hb, if_neg (fun e : g = f => h (e.trans hk.symm))]
    · rw [if_neg hk]
      by_cases h : g = k
      · have hb : (g == k) = true := beq_iff_eq.mpr h
        simp only [List.lookup, hb, if_neg (fun e : g = f => hk (h.symm.trans e))]
      · have hb : (g == k) = false := beq_eq_false_iff_ne.mpr h
        simp only [List.lookup, hb]
        exact ih
theorem keys_putF (f : Str) (v : V) : ∀ fs : List (Str × V), f ∈ (putF f v fs).map (·.1) ∧ ∀ g, g ∈ fs.map (·.1) → g ∈ (putF f v fs).map (·.1)
  | [] => ⟨by simp [putF], fun g h => by simp at h⟩
  | (k, x) :: r => by
    obtain ⟨i1, i2⟩ := keys_putF f v r
    rw [show putF f v ((k, x) :: r) = (if k = f then (k, v) :: r else (k, x) :: putF f v r) from rfl]
    by_cases hk : k = f
    · rw [if_pos hk]
      subst hk
      exact ⟨by simp, fun g h => by simpa using h⟩
    · rw [if_neg hk]
      refine ⟨?_, fun g h => ?_⟩
      · rw [List.map_cons]
        exact List.mem_cons_of_mem _ i1
      · rw [List.map_cons] at h ⊢
        rcases List.mem_cons.mp h with e | e
        · exact List.mem_cons.mpr (.inl e)
        · exact List.mem_cons_of_mem _ (i2 g e)
theorem length_putF (f : Str) (v : V) : ∀ fs : List (Str × V), (putF f v fs).length ≤ fs.length + 1
  | [] => by simp [putF]
  | (k, x) :: r => by
    have ih := length_putF f v r
    rw [show putF f v ((k, x) :: r) = (if k = f then (k, v) :: r else (k, x) :: putF f v r) from rfl]
    by_cases hk : k = f
    · rw [if_pos hk, List.length_cons, List.length_cons]; omega
    · rw [if_neg hk, List.length_cons, List.length_cons]; omega

theorem RelO.some_of {v : V} {o : Option Value} (r : RelO (some v) o) : ∃ u, o = some u ∧ RelV v u := by
  cases o with
  | none => exact (show False from r).elim
  | some u => exact ⟨u, rfl, r⟩
theorem handed_of {v : V} {u : Value} (r : RelV v u) : PySem.W.handedIn u = true := by
  cases v with
  | non => cases (show u = Value.none from r); rfl
  | bl b => cases (show u = Value.bool b from r); rfl
  | int i => obtain ⟨t, e⟩ := (show ∃ t, u = Value.int i t from r); cases e; rfl
  | str x => obtain ⟨t, e⟩ := (show ∃ t, u = Value.str x t from r); cases e; rfl
  | byt b => obtain ⟨t, e⟩ := (show ∃ t, u = Value.bytes b t from r); cases e; rfl
  | flt b => obtain ⟨t, e⟩ := (show ∃ t, u = Value.float b t from r); cases e; rfl
  | ref a => cases (show u = Value.ref a from r); rfl
  | ty n => cases (show u = Value.type n from r); rfl

section
variable {P : Program} {w : World} {H H' : Hp} {h h' : Heap} {a C dx : Addr} {fs fs' : List (Str × V)}
theorem ins_get (hok : HOk P w H h) (e : H a = some (.ins C dx fs)) : ∃ mA, ObjM h a dx C mA ∧ (∀ f, RelO (fs.lookup f) (mA f)) ∧ PySem.Within mA (fs.map (·.1)) ∧ fs.length ≤ 1000 ∧ H dx = some (.own a) := by
  obtain ⟨d, z, ne, ob, mA, n, r, q⟩ := (show ObjOk P w H h a (.ins C dx fs) from hok a _ e)
  exact ⟨mA, ⟨ob, n, ne⟩, r, q, z, d⟩
end

structure Cls (K : PySem.W.Frag) (C : Addr) : Prop where
  pg : PySem.W.plainGet K C Str.empty = true
  hd : PySem.W.hasDictIn K C = true
  po : PySem.W.plainOver K C = true
  sa : PySem.W.findIn K (.ref C) "__setattr__" = some (some (.builtin "object.__setattr__"))
theorem Cls.get {K : PySem.W.Frag} {C : Addr} (c : Cls K C) (f : Str) : PySem.W.plainGet K C f = true := c.pg
def NoAttr (K : PySem.W.Frag) (C : Addr) (f : Str) : Prop := PySem.W.findIn K (.ref C) f = some none
theorem NoAttr.taker {K : PySem.W.Frag} {C : Addr} {f : Str} (n : NoAttr K C f) : PySem.W.takerIn K C f = some none := by
  unfold PySem.W.takerIn
  rw [show PySem.W.findIn K (.ref C) f = some none from n]
  rfl
section
variable {X : Cx} {pins : List (Addr × Obj)} {σ : St} {H : Hp} {s : Shared} {a C dx : Addr} {fs : List (Str × V)} {f : Str} {v : V} {A : Around} {E : Value → Shared → Prop}

theorem getattr_ok {b : Bool} {Q : Value → Shared → Prop} (I : Inv X pins σ H s) (e : H a = some (.ins C dx fs)) (c : Cls X.K C) (n : NoAttr X.K C f) (l : fs.lookup f = some v)
    (h : ∀ u s', Inv X pins σ H s' → RelV v u → Q u s') : wpAny (model X.prog X.w) A (getAttr (.ref a) f b) Q E s := by
  obtain ⟨mA, O, r, _, _, _⟩ := ins_get I.hok e
  obtain ⟨u, hu, ru⟩ := RelO.some_of (v := v) (o := mA f) (by rw [← l]; exact r f)
  exact get_map I.kIn O (c.get f) c.hd n hu (handed_of ru) (h u _ (I.tok _) ru)

theorem setattr_ok {y : V} {u : Value} {Q : Unit → Shared → Prop} (I : Inv X pins σ H s) (e : H a = some (.ins C dx fs)) (c : Cls X.K C) (n : NoAttr X.K C f) (hl : fs.length < 1000) (ry : RelV y u)
    (h : ∀ s', Inv X pins σ (upd H a (.ins C dx (putF f y fs))) s' → Q () s') : wpAny (model X.prog X.w) A (setAttr (.ref a) f u) Q E s := by
  obtain ⟨mA, O, r, wi, _, ho⟩ := ins_get I.hok e
  have hz : (fs.map (·.1)).length ≤ sizeLine := by rw [List.length_map, sizeLine_eq]; omega
  refine set_map I.kIn O c.sa c.po n.taker c.hd wi hz fun h' O' sb => h _ ?_
  have hd : ∃ o, h'.get? dx = some o := let ⟨o, _, _, e', _⟩ := O'.ns; ⟨o, e'⟩
  refine I.write (x := a) (e := dx) (by rw [e]; exact True.intro) (.inr ho) (fun b q hb z => (sb.2 b hb).trans z) hd ?_
  refine ⟨by rw [upd_ne O.ne]; exact ho, ?_, O.ne, O'.obj, _, O'.ns, fun g => ?_, fun g hg => ?_⟩
  · have := length_putF f y fs; omega
  · show RelO ((putF f y fs).lookup g) (if g = f then some u else mA g)
    rw [lookup_putF]
    by_cases q : g = f
    · rw [if_pos q, if_pos q]; exact ry
    · rw [if_neg q, if_neg q]; exact r g
  · by_cases q : g = f
    · rw [q]; exact (keys_putF f y fs).1
    · refine (keys_putF f y fs).2 g (wi g fun z => hg ?_)
      show (if g = f then some u else mA g) = none
      rw [if_neg q]; exact z

theorem Inv.made (I : Inv X pins σ H s) : Inv X pins σ (upd (upd H s.heap.objs.size (.own (s.heap.objs.size + 1))) (s.heap.objs.size + 1) (.ins C s.heap.objs.size []))
    { s with heap := (s.heap.push PySem.W.emptyDict).push (PySem.W.instObj C s.heap.objs.size) } := by
  have e1 : (s.heap.push PySem.W.emptyDict).get? s.heap.objs.size = some PySem.W.emptyDict := Heap.get?_push_size s.heap rfl
  have e2 : ((s.heap.push PySem.W.emptyDict).push (PySem.W.instObj C s.heap.objs.size)).get? (s.heap.objs.size + 1) = some (PySem.W.instObj C s.heap.objs.size) := by
    have := Heap.get?_push_size (s.heap.push PySem.W.emptyDict) (o := PySem.W.instObj C s.heap.objs.size) rfl
    rwa [Heap.size_push] at this
  have e3 : (s.heap.push PySem.W.emptyDict).Ns s.heap.objs.size (fun _ => none) := ⟨PySem.W.emptyDict, #[], _, e1, rfl, (fun e he => absurd he (by simp)), fun _ => rfl⟩
  have I1 := I.laid (a := s.heap.objs.size) (o := .own (s.heap.objs.size + 1)) (h' := s.heap.push PySem.W.emptyDict) (t' := s.toks) (fun b u q => Heap.get?_push_of_some _ q) (Nat.le_refl _) ⟨_, e1⟩
  refine I1.laid (a := s.heap.objs.size + 1) (o := .ins C s.heap.objs.size []) (t' := s.toks) (fun b u q => Heap.get?_push_of_some _ q) (Nat.le_of_eq (Heap.size_push _ _)) ?_
  have ne : s.heap.objs.size ≠ s.heap.objs.size + 1 := Nat.ne_of_lt (Nat.lt_succ_self _)
  refine ⟨by rw [upd_ne ne, upd_same], Nat.zero_le _, ne, e2, fun _ => none, (Heap.Ns1.of_empty e3).at fun o q => Heap.get?_push_of_some _ q, fun _ => True.intro, fun y hy => absurd rfl hy⟩

theorem attr_of {prog : Program} {w : World} {env : Env} {e : Expr} {f : Str} {pos : Pos} {s : Shared} {Q : Value → Shared → Prop} (hb : attributeBase e f env (eval e env) = eval e env)
    (h : wpAny (model prog w) A (eval e env) (fun o s₁ => wpAny (model prog w) A (getAttr o f true) Q E s₁) E s) : wpAny (model prog w) A (eval (.Attribute e f pos) env) Q E s :=
  Attribute_any_ h (by rw [arm_eval_Attribute, hb])
end

def tFld (K : PySem.W.Frag) (ta : TE) (f : Str) : TE := fun σ H Q => ta σ H fun x H1 => ∃ a C dx fs v, x = .ref a ∧ H1 a = some (.ins C dx fs) ∧ Cls K C ∧ NoAttr K C f ∧ fs.lookup f = some v ∧ Q v H1
def sFld (K : PySem.W.Frag) (ta tv : TE) (f : Str) : TS := fun D σ H => tv σ H fun y H1 => ta σ H1 fun x H2 => ∃ a C dx fs, x = .ref a ∧ H2 a = some (.ins C dx fs) ∧ Cls K C ∧ NoAttr K C f ∧ fs.length < 1000 ∧
  D.nx σ (upd H2 a (.ins C dx (putF f y fs)))
def InOp (X : Cx) (op : Operator) (rd : V → V → Hp → VK → Prop) : Prop :=
  ∀ (pins : List (Addr × Obj)) (s : Shared) (σ : St) (H : Hp) (x y : V) (u v : Value) (Q : VK), Inv X pins σ H s → RelV x u → RelV y v → rd x y H Q → wpAny (model X.prog X.w) X.A (inplaceOp op u v) (EP X pins σ Q) X.xe s
def sFldAug (K : PySem.W.Frag) (ta tv : TE) (rd : V → V → Hp → VK → Prop) (f : Str) : TS := fun D σ H => ta σ H fun x H1 => ∃ a C dx fs v, x = .ref a ∧ H1 a = some (.ins C dx fs) ∧ Cls K C ∧ NoAttr K C f ∧ fs.lookup f = some v ∧
  tv σ H1 fun y H2 => rd v y H2 fun z H3 => ∃ dx' fs', H3 a = some (.ins C dx' fs') ∧ fs'.length < 1000 ∧ D.nx σ (upd H3 a (.ins C dx' (putF f z fs')))

section
variable {X : Cx} {o e value : Expr} {f : Str} {pos pos' tpos : Pos} {ta tv : TE}
theorem pe_fld (he : PE X e ta) (hb : attributeBase e f X.env (eval e X.env) = eval e X.env) : PE X (.Attribute e f pos) (tFld X.K ta f) := by
  intro pins s σ H Q I h
  refine attr_of hb (thn (he pins s σ H _ I h) fun u s1 ⟨x, H1, I1, rx, a, C, dx, fs, v, ex, ea, c, n, l, q⟩ => ?_)
  subst ex
  obtain rfl : u = Value.ref a := rx
  exact getattr_ok I1 ea c n l fun u' s2 I2 ru => ⟨v, H1, I2, ru, q⟩
theorem ps_fld (ha : PE X o ta) (hv : PE X value tv) (hs : swapsWith value (some (.Attribute o f pos')) pos.line X.env = pure false) : PS X (.Assign [.Attribute o f pos'] value pos) (sFld X.K ta tv f) := by
  intro pins s σ H D I h
  refine plainObj_wpAny_Assign_Attribute (thn (hv pins s σ H _ I h) fun u s1 ⟨y, H1, I1, ry, q⟩ => thn (ha pins s1 σ H1 _ I1 q) fun ov s2 ⟨x, H2, I2, rx, a, C, dx, fs, ex, ea, c, n, l, q2⟩ => ?_) hs
  subst ex
  obtain rfl : ov = Value.ref a := rx
  exact setattr_ok I2 ea c n l ry fun s3 I3 => ⟨σ, _, I3, q2⟩
theorem ps_fldaug {op : Operator} {rd : V → V → Hp → VK → Prop} (ha : PE X o ta) (hv : PE X value tv) (hop : InOp X op rd) : PS X (.AugAssign (.Attribute o f tpos) op value pos) (sFldAug X.K ta tv rd f) := by
  intro pins s σ H D I h
  refine wpAny_AugAssign_AttributeAny (thn (ha pins s σ H _ I h) fun ov s1 ⟨x, H1, I1, rx, a, C, dx, fs, v, ex, ea, c, n, l, q⟩ => ?_)
  subst ex
  obtain rfl : ov = Value.ref a := rx
  refine getattr_ok I1 ea c n l fun u s2 I2 ru => thn (hv pins s2 σ H1 _ I2 q) fun w3 s3 ⟨y, H2, I3, ry, q3⟩ => thn (hop pins s3 σ H2 v y u w3 _ I3 ru ry q3) fun w4 s4 ⟨z, H3, I4, rz, dx', fs', ea', l', q4⟩ => ?_
  exact setattr_ok I4 ea' c n l' rz fun s5 I5 => ⟨σ, _, I5, q4⟩
def rAdd : V → V → Hp → VK → Prop := fun x y H Q => ∃ i j, x = .int i ∧ y = .int j ∧ Q (.int (i + j)) H
def rSub : V → V → Hp → VK → Prop := fun x y H Q => ∃ i j, x = .int i ∧ y = .int j ∧ Q (.int (i - j)) H
theorem in_add : InOp X .Add rAdd := by
  rintro pins s σ H x y u v Q I rx ry ⟨i, j, rfl, rfl, q⟩
  obtain ⟨t, rfl⟩ := (show ∃ t, u = Value.int i t from rx)
  obtain ⟨t', rfl⟩ := (show ∃ t', v = Value.int j t' from ry)
  exact PyProof.Rows.iadd_int ⟨.int (i + j), H, I.tok _, ⟨_, rfl⟩, q⟩
end

section
variable {X : Cx} {pins : List (Addr × Obj)} {σ : St} {H : Hp} {s : Shared} {A : Around} {E : Value → Shared → Prop} {Q : Value → Shared → Prop} {c : Value} {b : Bool}
end
end L2

namespace L2
open PySem PySem.Spec PyProof.Rows

structure Room (k : Nat) (A : Around) : Prop where
  hd : A.handled = none
  dp : A.depth + 3 * k + 5 < recursionLimit
  un : A.units + 16 * k + 200 < cLine
theorem Room.mono {j k : Nat} {A : Around} (r : Room k A) (h : j ≤ k) : Room j A := ⟨r.hd, by have := r.dp; omega, by have := r.un; omega⟩
theorem Room.deeper {k : Nat} {A : Around} (r : Room (k + 1) A) (env : Env) : Room k (A.deeper env) :=
  ⟨r.hd, by have := r.dp; show A.depth + 1 + 3 * k + 5 < _; omega, by have := r.un; show A.units + 3 + 16 * k + 200 < _; omega⟩
theorem make_depth {A : Around} {C : Addr} {us : List Value} {kw : List (Str × Value)} : (A.under (.builtin "type.__call__" ⟨.ref C :: us, kw⟩)).depth = A.depth + 1 := by
  first | rfl | simp [Around.under, Code.weight, Code.isCreation, Code.isGuard, Code.isCaller, Code.frames, Code.isFrame, guardIds]
theorem make_units {A : Around} {C : Addr} {us : List Value} {kw : List (Str × Value)} : (A.under (.builtin "type.__call__" ⟨.ref C :: us, kw⟩)).units = A.units + 1 := by
  first | rfl | simp [Around.under, Code.cUnits, Code.frames, Code.isFrame]
theorem Room.make {k : Nat} {A : Around} (r : Room (k + 1) A) (C : Addr) (us : List Value) (kw : List (Str × Value)) : Room k (A.under (.builtin "type.__call__" ⟨.ref C :: us, kw⟩)) :=
  ⟨r.hd, by have := r.dp; rw [make_depth]; omega, by have := r.un; rw [make_units]; omega⟩
theorem Room.depth {k : Nat} {A : Around} (r : Room k A) : A.depth < recursionLimit := by have := r.dp; omega
theorem Room.units {k : Nat} {A : Around} (r : Room k A) : A.units + 64 < cLine := by have := r.un; omega
def tNil : TA := fun _ H Q => Q [] H
def tCons (ta : TE) (tr : TA) : TA := fun σ H Q => ta σ H fun x H1 => tr σ H1 fun xs H2 => Q (x :: xs) H2
section
variable {X : Cx} {e : Expr} {es : List Expr} {te : TE} {t : TA} {pos : Pos}
theorem pa_nil : PA X [] tNil := fun _ _ _ _ H Q I h => Calls.spliced_nil ⟨[], H, I, .nil, h⟩
theorem pa_cons (ha : PE X e te) (hr : PA X es t) (hs : starEach (e :: es) X.env = (false, eval e X.env) :: starEach es X.env := by rfl) : PA X (e :: es) (tCons te t) := by
  intro pos pins s σ H Q I h
  rw [hs]
  show wpAny _ _ (spliced ((false, eval e X.env) :: backTo pos (starEach es X.env))) _ _ s
  refine Calls.spliced_cons (thn (ha pins s σ H _ I h) fun u s1 ⟨x, H1, I1, r1, q1⟩ => ?_)
  exact thn (hr pos pins s1 σ H1 _ I1 q1) fun us s2 ⟨xs, H2, I2, r2, q2⟩ => ⟨x :: xs, H2, I2, .cons r1 r2, q2⟩

def tTup (t : TA) : TE := fun σ H Q => t σ H fun xs H1 => xs.length ≤ sizeLine ∧ ∀ p, H1 p = none → Q (.ref p) (upd H1 p (.tup xs))
def tLst (t : TA) : TE := fun σ H Q => t σ H fun xs H1 => xs.length ≤ sizeLine ∧ ∀ p, H1 p = none → Q (.ref p) (upd H1 p (.lst xs))
theorem pe_tup {x1} (h : PA X es t) : PE X (.Tuple es x1 pos) (tTup t) := by
  intro pins s σ H Q I hq
  refine wpAny_Tuple_spliced (thn (h pos pins s σ H _ I hq) fun us s1 ⟨xs, H1, I1, r, z, q⟩ => ⟨by rw [← r.length]; exact z, ?_⟩)
  have hf : H1 s1.heap.objs.size = none := I1.hok.fresh (Nat.le_refl _)
  refine ⟨.ref s1.heap.objs.size, upd H1 s1.heap.objs.size (.tup xs), I1.laid (t' := s1.toks) (fun b u e => Heap.get?_push_of_some _ e) (Nat.le_refl _) ?_, rfl, q _ hf⟩
  exact ⟨z, us, r, ⟨_, Heap.get?_push_size _ rfl, rfl, _, rfl⟩⟩
theorem pe_lst (h : PA X es t) : PE X (.List es pos) (tLst t) := by
  intro pins s σ H Q I hq
  refine wpAny_List_spliced (thn (h pos pins s σ H _ I hq) fun us s1 ⟨xs, H1, I1, r, z, q⟩ => ⟨by rw [← r.length]; exact z, ?_⟩)
  have hf : H1 s1.heap.objs.size = none := I1.hok.fresh (Nat.le_refl _)
  refine ⟨.ref s1.heap.objs.size, upd H1 s1.heap.objs.size (.lst xs), I1.laid (t' := s1.toks) (fun b u e => Heap.get?_push_of_some _ e) (Nat.le_refl _) ?_, rfl, q _ hf⟩
  exact ⟨z, us, 0, r, Heap.get?_push_size _ rfl⟩
end

abbrev Sp := List V → Hp → VK → XK → Prop
abbrev CXT := List Env → Hp → Shared → XK → Value → Shared → Prop

structure Env0 (P : Program) (w : World) (K : PySem.W.Frag) (mg : Str → Option Value) (base : Heap) (A : Around) (outer : List Env) (s : Shared) (H : Hp) : Prop where
  frames : A.frames = some outer
  mod : Mod K mg base
  bs : ∀ b o, base.get? b = some o → s.heap.get? b = some o ∧ H b = none
  bsz : base.objs.size ≤ s.heap.objs.size
  funs : s.heap.FunFrames base outer
  frf : ∀ b ∈ frs outer, H b = none
  hok : HOk P w H s.heap
  bare : AllBare s.gens
def CE (outer : List Env) (P : Program) (w : World) (H : Hp) (s : Shared) (Q : VK) (u : Value) (s' : Shared) : Prop :=
  ∃ v H', s'.os = s.os ∧ AllBare s'.gens ∧ Un (frs outer) [] H H' s.heap s'.heap ∧ HOk P w H' s'.heap ∧ RelV v u ∧ Q v H'
def CR (CX : CXT) (outer : List Env) (P : Program) (w : World) (H : Hp) (s : Shared) (Q : VK) (E : XK) (r : Result) (s' : Shared) : Prop :=
  match r with
  | .ok (.ret u) => CE outer P w H s Q u s'
  | .ok _ => False
  | .error e => CX outer H s E e s'
structure FnOk (P : Program) (w : World) (K : PySem.W.Frag) (mg : Str → Option Value) (base : Heap) (CX : CXT) (k : Nat) (f : Addr) (fd : FuncData) (ps : List Str) (sp : Sp) : Prop where
  len : ∀ vs H Q E, sp vs H Q E → vs.length = ps.length
  run : ∀ (A : Around) (outer : List Env) (s : Shared) (H : Hp) (args : Args) (us : List Value) (vs : List V) (Q : VK) (E : XK), Room k A → Env0 P w K mg base A outer s H → BindsTo s fd args (ps.zip us) → Vals vs us → sp vs H Q E →
    codeAny (model P w) A (.call (.ref f) args) (CR CX outer P w H s Q E) s
theorem FnOk.mono {P : Program} {w : World} {K : PySem.W.Frag} {mg : Str → Option Value} {base : Heap} {CX : CXT} {j k : Nat} {f : Addr} {fd : FuncData} {ps : List Str} {sp : Sp} (F : FnOk P w K mg base CX j f fd ps sp) (h : j ≤ k) :
    FnOk P w K mg base CX k f fd ps sp := ⟨F.len, fun A outer s H args us vs Q E hr => F.run A outer s H args us vs Q E (hr.mono h)⟩
theorem Env0.make {P : Program} {w : World} {K : PySem.W.Frag} {mg : Str → Option Value} {base : Heap} {A : Around} {outer : List Env} {s : Shared} {H : Hp} (e : Env0 P w K mg base A outer s H) (C : Addr) (us : List Value) (kw : List (Str × Value)) :
    Env0 P w K mg base (A.under (.builtin "type.__call__" ⟨.ref C :: us, kw⟩)) outer s H := ⟨by first | exact e.frames | (simpa [Around.under, Code.envs, Code.isFrame, pushEnvs] using e.frames), e.mod, e.bs, e.bsz, e.funs, e.frf, e.hok, e.bare⟩
section
variable {X : Cx} {pins : List (Addr × Obj)} {σ : St} {H : Hp} {s s' : Shared}
theorem Inv.env0 (I : Inv X pins σ H s) : Env0 X.prog X.w X.K X.mg X.base X.A X.stack s H :=
  ⟨I.ok.frames, I.ok.mod, I.bs, Nat.le_trans I.ok.bsz I.sz, I.stack, I.stkFree, I.hok, I.bare⟩
theorem Inv.after {Q : VK} {u : Value} (I : Inv X pins σ H s) (h : CE X.stack X.prog X.w H s Q u s') : EP X pins σ Q u s' := by
  obtain ⟨v, H', os, bare, un, hok, r, q⟩ := h
  obtain ⟨hh, g, d, t, os'⟩ := s'
  obtain rfl : os' = s.os := os
  exact ⟨v, H', I.call (h' := hh) (g' := g) (d' := d) (t' := t) (ch := []) un hok bare (fun b z => absurd z (by simp)), r, q⟩
end

def tCall (sp : Sp) (dvs : List V) (E : XK) (t : TA) : TE := fun σ H Q => t σ H fun vs H1 => sp (vs ++ dvs) H1 Q E
def tMake (C : Addr) (sp : Sp) (dvs : List V) (E : XK) (t : TA) : TE := fun σ H Q => t σ H fun vs H1 => ∀ x dx, H1 x = none → H1 dx = none → dx ≠ x →
  sp (.ref x :: (vs ++ dvs)) (upd (upd H1 dx (.own x)) x (.ins C dx [])) (fun v H2 => v = .non ∧ Q (.ref x) H2) E

def Binds (K : PySem.W.Frag) (fd : FuncData) (ps : List Str) (ds : List Value) : Prop :=
  ∀ (s : Shared) (us : List Value), K.In s.heap → (us ++ ds).length = ps.length → BindsTo s fd ⟨us, []⟩ (ps.zip (us ++ ds))
theorem Binds.all {K : PySem.W.Frag} {fd : FuncData} {ps : List Str} (h : ∀ us : List Value, us.length = ps.length → bindArgs fd ⟨us, []⟩ = pure (ps.zip us)) : Binds K fd ps [] := fun s us _ hl => by
  rw [List.append_nil] at hl ⊢
  exact .of_eq (h us hl)

def Passes (CX : CXT) (X : Cx) (E : XK) : Prop := ∀ (pins : List (Addr × Obj)) (σ : St) (H : Hp) (s : Shared) (e : Value) (s' : Shared), Inv X pins σ H s → CX X.stack H s E e s' → X.xe e s'

section
variable {X : Cx} {CX : CXT} {k : Nat} {f C : Addr} {fd : FuncData} {ps : List Str} {sp : Sp} {dvs : List V} {ds : List Value} {E : XK} {x m : Str} {p pos apos : Pos} {e o : Expr} {es : List Expr} {ta : TE} {t : TA}

theorem run_fn {pins : List (Addr × Obj)} {σ : St} {H : Hp} {s : Shared} {Q : VK} {us : List Value} {vs : List V} (F : FnOk X.prog X.w X.K X.mg X.base CX k f fd ps sp) (hr : Room k X.A) (hb : Binds X.K fd ps ds) (hd : Vals dvs ds) (hx : Passes CX X E)
    (I : Inv X pins σ H s) (r : Vals vs us) (h : sp (vs ++ dvs) H Q E) : wpAny (model X.prog X.w) X.A (call (.ref f) us) (EP X pins σ Q) X.xe s := by
  have r2 : Vals (vs ++ dvs) (us ++ ds) := r.append hd
  have hl : (us ++ ds).length = ps.length := by rw [← r2.length]; exact F.len _ _ _ _ h
  refine wpAny_call (codeAny_mono (F.run X.A X.stack s H ⟨us, []⟩ (us ++ ds) (vs ++ dvs) Q E hr I.env0 (hb s us I.kIn hl) r2 h) fun r s' hq => ?_)
  cases r with
  | error e => exact hx pins σ H s e s' I hq
  | ok fl =>
    cases fl with
    | ret u => exact I.after hq
    | next => exact False.elim hq
    | brk => exact False.elim hq
    | cont => exact False.elim hq

theorem pe_call (F : FnOk X.prog X.w X.K X.mg X.base CX k f fd ps sp) (hr : Room k X.A) (hg : Gl X x) (hm : X.mg x = some (.ref f)) (hk : PySem.W.keepIn X.K (.ref f) = true) (hb : Binds X.K fd ps ds) (hd : Vals dvs ds) (hx : Passes CX X E)
    (ha : PA X (e :: es) t) (hdb : (x == ("__debug__" : Str)) = false := by decide) (he : starEach (e :: es) X.env = (false, eval e X.env) :: starEach es X.env := by rfl) (hpl : (backTo pos (starEach es X.env)).any (·.1) = false := by rfl) :
    PE X (.Call (.Name x p) (e :: es) [] pos) (tCall sp dvs E t) := by
  intro pins s σ H Q I h
  refine wpAny_Call_Name_kw (ld_glob I hg hm ?_ hdb)
  refine PySem.W.callWith_K (h₀ := X.base) I.ok.mod.kin hk (thn (ha pos pins s σ H _ I h) fun us s1 ⟨vs, H1, I1, r, q⟩ => ⟨I1.kIn, ?_⟩) he hpl
  exact run_fn F hr hb hd hx I1 r q
theorem pe_call0 (F : FnOk X.prog X.w X.K X.mg X.base CX k f fd ps sp) (hr : Room k X.A) (hg : Gl X x) (hm : X.mg x = some (.ref f)) (hk : PySem.W.keepIn X.K (.ref f) = true) (hb : Binds X.K fd ps ds) (hd : Vals dvs ds) (hx : Passes CX X E)
    (hdb : (x == ("__debug__" : Str)) = false := by decide) : PE X (.Call (.Name x p) [] [] pos) (tCall sp dvs E tNil) := by
  intro pins s σ H Q I h
  refine wpAny_Call_Name_kw (ld_glob I hg hm ?_ hdb)
  exact PySem.W.callWith_K0 I.kIn hk (run_fn (us := []) F hr hb hd hx I .nil h)

structure Mk (K : PySem.W.Frag) (C f : Addr) : Prop where
  makes : PySem.W.makesIn K C = true
  init : PySem.W.findIn K (.ref C) "__init__" = some (some (.ref f))
  fn : PySem.W.isFn K (.ref f) = true
  kp : PySem.W.keepIn K (.ref C) = true

theorem run_make {pins : List (Addr × Obj)} {σ : St} {H : Hp} {s : Shared} {Q : VK} {us : List Value} {vs : List V} (M : Mk X.K C f) (F : FnOk X.prog X.w X.K X.mg X.base CX k f fd ps sp) (hr : Room (k + 1) X.A) (hb : Binds X.K fd ps ds) (hd : Vals dvs ds)
    (hx : Passes CX X E) (I : Inv X pins σ H s) (r : Vals vs us)
    (h : ∀ x dx, H x = none → H dx = none → dx ≠ x → sp (.ref x :: (vs ++ dvs)) (upd (upd H dx (.own x)) x (.ins C dx [])) (fun v H2 => v = .non ∧ Q (.ref x) H2) E) :
    wpAny (model X.prog X.w) X.A (call (.ref C) us) (EP X pins σ Q) X.xe s := by
  have hq := h (s.heap.objs.size + 1) s.heap.objs.size (I.hok.fresh (Nat.le_succ _)) (I.hok.fresh (Nat.le_refl _)) (Nat.ne_of_lt (Nat.lt_succ_self _))
  have I2 := Inv.made (C := C) I
  have r2 : Vals (V.ref (s.heap.objs.size + 1) :: (vs ++ dvs)) (Value.ref (s.heap.objs.size + 1) :: (us ++ ds)) := .cons rfl (r.append hd)
  have hl : (Value.ref (s.heap.objs.size + 1) :: us ++ ds).length = ps.length := by
    have e := r2.length
    rw [F.len _ _ _ _ hq] at e
    exact e.symm
  refine wpAny_call (make_map (f := f) I.kIn M.makes M.init (beq_iff_eq.mp M.fn) (codeAny_mono (F.run _ X.stack _ _ ⟨Value.ref (s.heap.objs.size + 1) :: us, []⟩ (Value.ref (s.heap.objs.size + 1) :: (us ++ ds)) _ _ E (hr.make C us [])
    (I2.env0.make C us []) (hb _ (Value.ref (s.heap.objs.size + 1) :: us) I2.kIn hl) r2 hq) fun r s' hq' => ?_))
  cases r with
  | error e => exact hx pins σ _ _ e s' I2 hq'
  | ok fl =>
    cases fl with
    | ret u =>
      obtain ⟨v, H', I3, rv, ev, q3⟩ := I2.after hq'
      subst ev
      exact ⟨rv, ⟨V.ref (s.heap.objs.size + 1), H', I3, rfl, q3⟩⟩
    | next => exact False.elim hq'
    | brk => exact False.elim hq'
    | cont => exact False.elim hq'
theorem pe_make (M : Mk X.K C f) (F : FnOk X.prog X.w X.K X.mg X.base CX k f fd ps sp) (hr : Room (k + 1) X.A) (hg : Gl X x) (hm : X.mg x = some (.ref C)) (hb : Binds X.K fd ps ds) (hd : Vals dvs ds) (hx : Passes CX X E)
    (ha : PA X (e :: es) t) (hdb : (x == ("__debug__" : Str)) = false := by decide) (he : starEach (e :: es) X.env = (false, eval e X.env) :: starEach es X.env := by rfl) (hpl : (backTo pos (starEach es X.env)).any (·.1) = false := by rfl) :
    PE X (.Call (.Name x p) (e :: es) [] pos) (tMake C sp dvs E t) := by
  intro pins s σ H Q I h
  refine wpAny_Call_Name_kw (ld_glob I hg hm ?_ hdb)
  refine PySem.W.callWith_K (h₀ := X.base) I.ok.mod.kin M.kp (thn (ha pos pins s σ H _ I h) fun us s1 ⟨vs, H1, I1, r, q⟩ => ⟨I1.kIn, ?_⟩) he hpl
  exact run_make M F hr hb hd hx I1 r q
theorem pe_make0 (M : Mk X.K C f) (F : FnOk X.prog X.w X.K X.mg X.base CX k f fd ps sp) (hr : Room (k + 1) X.A) (hg : Gl X x) (hm : X.mg x = some (.ref C)) (hb : Binds X.K fd ps ds) (hd : Vals dvs ds) (hx : Passes CX X E)
    (hdb : (x == ("__debug__" : Str)) = false := by decide) : PE X (.Call (.Name x p) [] [] pos) (tMake C sp dvs E tNil) := by
  intro pins s σ H Q I h
  refine wpAny_Call_Name_kw (ld_glob I hg hm ?_ hdb)
  exact PySem.W.callWith_K0 I.kIn M.kp (run_make (us := []) M F hr hb hd hx I .nil h)
end

def PK (X : Cx) (kws : List Keyword) (t : TA) : Prop :=
  ∀ (pos : Pos) (pins : List (Addr × Obj)) (s : Shared) (σ : St) (H : Hp) (Q : List V → Hp → Prop), Inv X pins σ H s → t σ H Q → wpAny (model X.prog X.w) X.A (evalAll ((backToKw pos (keywordEach kws X.env)).map (·.2))) (AP X pins σ Q) X.xe s
section
variable {X : Cx} {CX : CXT} {k : Nat} {f C : Addr} {fd : FuncData} {ps ks : List Str} {sp : Sp} {E : XK} {x m : Str} {p pos apos kpos : Pos} {e o : Expr} {es : List Expr} {kws : List Keyword} {te ta : TE} {t tk : TA} {nm : Option Str}
theorem pk_nil : PK X [] tNil := fun _ _ _ _ H Q I h => wpAny_evalAll_nil ⟨[], H, I, .nil, h⟩
theorem pk_cons (ha : PE X e te) (hr : PK X kws t) : PK X (⟨nm, e, kpos⟩ :: kws) (tCons te t) := by
  intro pos pins s σ H Q I h
  show wpAny _ _ (evalAll ((do let v ← eval e X.env; standAt pos; pure v) :: (backToKw pos (keywordEach kws X.env)).map (·.2))) _ _ s
  refine wpAny_evalAll_cons (wpAny_bind (thn (ha pins s σ H _ I h) fun u s1 ⟨x, H1, I1, r1, q1⟩ => wpAny_bind (wpAny_standAt (wpAny_pure ?_))))
  exact thn (hr pos pins s1 σ H1 _ I1 q1) fun us s2 ⟨xs, H2, I2, r2, q2⟩ => ⟨x :: xs, H2, I2, .cons r1 r2, q2⟩

variable {g : List Value → List Value → List Value} {gV : List V → List V → List V}
end

structure FnScope (N P : List Str) (sc : Scope) : Prop where
  kind : sc.kind = .function
  co : sc.isCoroutine = false
  gen : sc.isGenerator = false
  nd : N.Nodup
  pre : N.take P.length = P
  par : ∀ x ∈ P, sc.names.lookup x = some .local ∨ sc.names.lookup x = some .cell
  nofree : ∀ y ∈ sc.names, y.2 ≠ .free

theorem bindL_out {kindOf : Str → Option NameKind} {x : Str} : ∀ {binds : List (Str × Value)} {m : Str → Option Value}, (∀ v, (x, v) ∉ binds) → bindL kindOf binds m x = m x
  | [], _, _ => rfl
  | (n, v) :: r, m, h => by
    unfold bindL
    rw [bindL_out fun w hw => h w (List.mem_cons_of_mem _ hw)]
    split
    · have : x ≠ n := by rintro rfl; exact h v List.mem_cons_self
      simp [this]
    · rfl
theorem bindC_out {kindOf : Str → Option NameKind} {x : Str} : ∀ {binds : List (Str × Value)} {m : Str → Option Value}, (∀ v, (x, v) ∉ binds) → bindC kindOf binds m x = m x
  | [], _, _ => rfl
  | (n, v) :: r, m, h => by
    unfold bindC
    rw [bindC_out fun w hw => h w (List.mem_cons_of_mem _ hw)]
    split
    · rfl
    · have : x ≠ n := by rintro rfl; exact h v List.mem_cons_self
      simp [this]
theorem bindL_get {kindOf : Str → Option NameKind} {x : Str} {v : Value} : ∀ {P : List Str} {vs : List Value} {i : Nat} {m : Str → Option Value}, P.Nodup → P[i]? = some x → vs[i]? = some v → kindOf x = some .local →
    bindL kindOf (P.zip vs) m x = some v
  | [], _, _, _, _, h, _, _ => by simp at h
  | _ :: _, [], _, _, _, _, h, _ => by simp at h
  | p :: P, w :: vs, 0, m, nd, h1, h2, hk => by
    simp at h1 h2; subst h1; subst h2
    show bindL kindOf ((p, w) :: P.zip vs) m p = _
    unfold bindL
    rw [bindL_out fun v hv => (List.nodup_cons.mp nd).1 (List.of_mem_zip hv).1, if_pos hk]
    simp
  | p :: P, w :: vs, i + 1, m, nd, h1, h2, hk => by
    show bindL kindOf ((p, w) :: P.zip vs) m x = _
    unfold bindL
    exact bindL_get (i := i) (List.nodup_cons.mp nd).2 (by simpa using h1) (by simpa using h2) hk
theorem bindC_get {kindOf : Str → Option NameKind} {x : Str} {v : Value} : ∀ {P : List Str} {vs : List Value} {i : Nat} {m : Str → Option Value}, P.Nodup → P[i]? = some x → vs[i]? = some v → kindOf x ≠ some .local →
    bindC kindOf (P.zip vs) m x = some v
  | [], _, _, _, _, h, _, _ => by simp at h
  | _ :: _, [], _, _, _, _, h, _ => by simp at h
  | p :: P, w :: vs, 0, m, nd, h1, h2, hk => by
    simp at h1 h2; subst h1; subst h2
    show bindC kindOf ((p, w) :: P.zip vs) m p = _
    unfold bindC
    rw [bindC_out fun v hv => (List.nodup_cons.mp nd).1 (List.of_mem_zip hv).1, if_neg hk]
    simp
  | p :: P, w :: vs, i + 1, m, nd, h1, h2, hk => by
    show bindC kindOf ((p, w) :: P.zip vs) m x = _
    unfold bindC
    exact bindC_get (i := i) (List.nodup_cons.mp nd).2 (by simpa using h1) (by simpa using h2) hk

def start (N : List Str) (vs : List V) : St := vs.map some ++ List.replicate (N.length - vs.length) none

def cxOf (CX : CXT) (P : Program) (w : World) (K : PySem.W.Frag) (mg : Str → Option Value) (base : Heap) (N : List Str) (qual : Str) (scope : Scope) (f : Addr) (cd : Value) (A : Around) (outer : List Env) (s : Shared) (H : Hp) (E : XK) : Cx where
  prog := P
  w := w
  K := K
  mg := mg
  base := base
  A := A.deeper (envOfC qual scope s.heap.objs.size f cd)
  N := N
  s_0 := s
  H_0 := H
  env := envOfC qual scope s.heap.objs.size f cd
  outer := outer
  stack := envOfC qual scope s.heap.objs.size f cd :: outer
  ex := []
  calm := true
  fn := fun _ => true
  pn := []
  xe := fun e s' => wpAny (model P w) (A.deeper (envOfC qual scope s.heap.objs.size f cd)) (leaving (envOfC qual scope s.heap.objs.size f cd) e) (fun _ s'' => CX outer H s E e s'') (fun e' s'' => CX outer H s E e' s'') s'

theorem cell_has {sc : Scope} {n : Nat} {x : Str} (h : sc.names.lookup x = some .cell) : ∃ c, (cellsFrom n sc.names []).lookup x = some c := by
  have q := PySem.W.cellsFrom_some sc.names n [] (.inl h)
  exact Option.isSome_iff_exists.mp q

theorem inv_start {CX : CXT} {P : Program} {w : World} {K : PySem.W.Frag} {mg : Str → Option Value} {base : Heap} {N ps : List Str} {qual : Str} {scope : Scope} {f : Addr} {cd : Value} {A : Around} {outer : List Env} {s s1 : Shared} {H : Hp} {E : XK} {us : List Value} {vs : List V}
    (S : FnScope N ps scope) (hd : A.handled = none) (e0 : Env0 P w K mg base A outer s H) (hl : vs.length = ps.length) (r : Vals vs us)
    (x : InCallC s s.heap.objs.size (bindL (envOfC qual scope s.heap.objs.size f cd).kindOf (ps.zip us) fun _ => none) (cellsFrom (s.heap.objs.size + 1) scope.names []) (bindC (envOfC qual scope s.heap.objs.size f cd).kindOf (ps.zip us) fun _ => none) s1) :
    Inv (cxOf CX P w K mg base N qual scope f cd A outer s H E) [] (start N vs) H s1 := by
  have hpl : ps.length ≤ N.length := by have := congrArg List.length S.pre; rw [List.length_take] at this; omega
  obtain ⟨h1, tk, rfl, hk⟩ := x.done
  have noA : ∀ b : Addr, b ∉ (cxOf CX P w K mg base N qual scope f cd A outer s H E).ex := fun b z => absurd (show b ∈ ([] : List Addr) from z) (by simp)
  refine ⟨⟨e0.mod, S.kind, rfl, rfl, Nat.le_refl _, fun y z c h1 h2 => ?_, fun y hy => ?_, fun y c _ h => ?_, fun _ => hd, Around.frames_deeper e0.frames, .inr ⟨rfl, rfl⟩, fun b z => absurd z (noA b), e0.bs, e0.bsz, fun b _ _ => noA b, fun b z => absurd z (noA b), e0.funs, e0.frf⟩,
    rfl, e0.bare, Un.kept hk, ⟨_, x.toInCall.ns, fun i y v h1 h2 h3 => ?_⟩, fun y c h => ⟨_, x.cell y c h⟩, e0.hok.fresh (Nat.le_refl _), fun y c h => ?_, fun p hp => absurd (show p ∈ ([] : List (Addr × Obj)) from hp) (by simp), e0.hok.kept hk, ?_⟩
  · exact name_of_addr x.apart (PySem.mem_of_lookup h1) (PySem.mem_of_lookup h2)
  · have hy : scope.names.lookup y = some .cell ∨ scope.names.lookup y = some .free := hy
    rcases hy with hy | hy
    · exact cell_has hy
    · exact absurd rfl (S.nofree _ (PySem.mem_of_lookup hy))
  · exact Nat.le_of_lt (x.above y c (PySem.mem_of_lookup h))
  · have hi : i < vs.length := by
      unfold start at h2
      by_cases hi : i < vs.length
      · exact hi
      · rw [List.getElem?_append_right (by simpa using hi)] at h2
        rw [List.getElem?_replicate] at h2
        split at h2 <;> cases h2
    have ha : vs[i]? = some v := by
      unfold start at h2
      rw [List.getElem?_append_left (by simpa using hi), List.getElem?_map] at h2
      cases e : vs[i]? with
      | none => rw [e] at h2; cases h2
      | some a => rw [e] at h2; cases h2; rfl
    obtain ⟨u, hu, rv⟩ := r.get ha
    have hp : ps[i]? = some y := by
      rw [← S.pre, List.getElem?_take_of_lt (by omega)]; exact h1
    have ndP : ps.Nodup := by rw [← S.pre]; exact S.nd.sublist (List.take_sublist _ _)
    refine ⟨u, rv, ?_⟩
    rcases S.par y (List.mem_of_getElem? hp) with k | k
    · exact .inl ⟨k, bindL_get ndP hp hu k⟩
    · obtain ⟨c, e⟩ := cell_has (n := s.heap.objs.size + 1) k
      refine .inr ⟨.inl k, c, e, ?_⟩
      have q := x.cell y c e
      rw [bindC_get ndP hp hu (by show scope.names.lookup y ≠ _; rw [k]; decide)] at q
      exact q
  · exact e0.hok.fresh (Nat.le_of_lt (x.above y c (PySem.mem_of_lookup h)))
  · unfold start
    show _ = N.length
    rw [List.length_append, List.length_map, List.length_replicate]
    omega

theorem fn_of {CX : CXT} {P : Program} {w : World} {K : PySem.W.Frag} {mg : Str → Option Value} {base : Heap} {k : Nat} {f : Addr} {name qual : Str} {params : Arguments} {body : List Stmt} {scope : Scope} {dV kV doc pm cdv ct oc : Value} {an od : Option Addr}
    {osl : Array (Option Value)} {N ps : List Str} {sp : Sp} (lk : K.lookup f = some ⟨oc, od, .func (PySem.W.fnOf name qual params body scope dV kV doc pm an cdv ct), osl⟩) (hcd : PySem.W.codeIn K cdv qual = true) (S : FnScope N ps scope)
    (len : ∀ vs H Q E, sp vs H Q E → vs.length = ps.length)
    (hbody : ∀ (A : Around) (outer : List Env) (s : Shared) (H : Hp) (vs : List V) (Q : VK) (E : XK), Room k (A.deeper (envOfC qual scope s.heap.objs.size f cdv)) → sp vs H Q E →
      ∃ t, PSs (cxOf CX P w K mg base N qual scope f cdv A outer s H E) body t ∧ t { nx := fun _ H' => Q .non H', rt := Q } (start N vs) H) :
    FnOk P w K mg base CX (k + 1) f (PySem.W.fnOf name qual params body scope dV kV doc pm an cdv ct) ps sp := by
  refine ⟨len, fun A outer s H args us vs Q E hr e0 hb r hsp => ?_⟩
  have hl := len _ _ _ _ hsp
  have KX : K.In s.heap := e0.mod.kin.keeps fun b o e => (e0.bs b o e).1
  have lim : s.heap.NoLimit := e0.mod.nolimit.keeps fun b o e => (e0.bs b o e).1
  have hkind : ∀ y ∈ ps.zip us, scope.names.lookup y.1 = some .local ∨ (scope.names.lookup y.1 = some .cell ∧ ((cellsFrom (s.heap.objs.size + 1) scope.names []).lookup y.1).isSome = true) := fun ⟨n, v⟩ hy => by
    rcases S.par n (List.of_mem_zip hy).1 with q | q
    · exact .inl q
    · exact .inr ⟨q, PySem.W.cellsFrom_some _ _ _ (.inl q)⟩
  refine codeAny_call_function hr.depth (KX _ _ lk) rfl S.co S.gen rfl (PySem.W.codeRec_of KX hcd) (hb _ _ _ _ ?_)
  refine wpAny_newFunctionEnv_cells S.kind hkind fun env he s1 x => ?_
  subst he
  refine ⟨lim.keeps x.toInCall.keep, codeAny_func ?_⟩
  obtain ⟨t, ht, hq⟩ := hbody A outer s H vs Q E (hr.deeper _) hsp
  have I : Inv (cxOf CX P w K mg base N qual scope f cdv A outer s H E) [] (start N vs) H s1 := inv_start S hr.hd e0 hl r x
  refine wpAny_mono (ht [] s1 (start N vs) H _ I hq) (fun fl s' hs => ?_) fun e s' hs => hs
  have fin : ∀ {σ' : St} {H' : Hp} {v : V} {u : Value}, Inv (cxOf CX P w K mg base N qual scope f cdv A outer s H E) [] σ' H' s' → RelV v u → Q v H' → CE outer P w H s Q u s' :=
    fun {σ' H' v u} J rv q => ⟨v, H', J.os, J.bare, J.base, J.hok, rv, q⟩
  cases fl with
  | ret u =>
    obtain ⟨v, σ', H', J, rv, q⟩ := hs
    exact fin J rv q
  | next =>
    obtain ⟨σ', H', J, q⟩ := hs
    exact fin (v := V.non) (u := Value.none) J rfl q
  | brk =>
    obtain ⟨_, _, _, q⟩ := hs
    exact False.elim q
  | cont =>
    obtain ⟨_, _, _, q⟩ := hs
    exact False.elim q
end L2

namespace L2
open PySem PySem.Spec PyProof.Rows
section
variable {X : Cx} {x : Str} {p pos : Pos} {e : Expr} {es : List Expr} {t : TA} {id T : String} {r : List V → Hp → VK → Prop}

def tCB (r : List V → Hp → VK → Prop) (t : TA) : TE := fun σ H Q => t σ H fun vs H1 => r vs H1 Q
theorem pe_callB (hc : CallR X (.builtin id) r) (hg : Gl X x) (hm : X.mg x = none) (hv : bootBuiltins x = some (.builtin id)) (ha : PA X (e :: es) t) (hn : x ≠ "__name__" := by decide) (hdb : (x == ("__debug__" : Str)) = false := by decide)
    (he : starEach (e :: es) X.env = (false, eval e X.env) :: starEach es X.env := by rfl) (hpl : (backTo pos (starEach es X.env)).any (·.1) = false := by rfl) : PE X (.Call (.Name x p) (e :: es) [] pos) (tCB r t) := by
  intro pins s σ H Q I h
  refine wpAny_Call_Name_kw (ld_blt I hg hm hv ?_ hn hdb)
  exact PyProof.Rows.callWith_builtin1 (thn (ha pos pins s σ H _ I h) fun us s1 ⟨vs, H1, I1, r1, q1⟩ => hc pins s1 σ H1 vs us Q I1 r1 q1) he hpl
theorem pe_callTy (hc : CallR X (.type T) r) (hg : Gl X x) (hm : X.mg x = none) (hv : bootBuiltins x = some (.type T)) (ha : PA X (e :: es) t) (hn : x ≠ "__name__" := by decide) (hdb : (x == ("__debug__" : Str)) = false := by decide)
    (he : starEach (e :: es) X.env = (false, eval e X.env) :: starEach es X.env := by rfl) (hpl : (backTo pos (starEach es X.env)).any (·.1) = false := by rfl) : PE X (.Call (.Name x p) (e :: es) [] pos) (tCB r t) := by
  intro pins s σ H Q I h
  refine wpAny_Call_Name_kw (ld_blt I hg hm hv ?_ hn hdb)
  exact PyProof.Rows.callWith_type1 (thn (ha pos pins s σ H _ I h) fun us s1 ⟨vs, H1, I1, r1, q1⟩ => hc pins s1 σ H1 vs us Q I1 r1 q1) he hpl
end
end L2

namespace HT
open PySem PyProof.Rows

section
open PySem.SeqAt
open PySem.AutoSeq1 (wpAny_loadPart')
open PySem.MeetsSeq PySem.MeetsSeq2 PySem.MeetsSeq3

end

section
variable {prog : Program} {w : World} {A : Around} {E : Value → Shared → Prop} {s : Shared}

def sIx (n d : Nat) : Option Int → Nat
  | none => d
  | some v => if v < 0 then (v + (n : Int)).toNat else min v.toNat n
theorem sIx_nat (n d k : Nat) : sIx n d (some (k : Int)) = min k n := by
  show (if (k : Int) < 0 then ((k : Int) + (n : Int)).toNat else min (k : Int).toNat n) = min k n
  rw [if_neg (by omega), Int.toNat_natCast]
end
end HT

namespace L2
open PySem PySem.Spec PyProof.Rows

abbrev TO := St → Hp → (Option Int → Hp → Prop) → Prop
def PO (X : Cx) (e : Option Expr) (t : TO) : Prop :=
  ∀ (pins : List (Addr × Obj)) (s : Shared) (σ : St) (H : Hp) (Q : Option Int → Hp → Prop), Inv X pins σ H s → t σ H Q →
    wpAny (model X.prog X.w) X.A (evalPart e X.env) (fun u s' => ∃ o H', Inv X pins σ H' s' ∧ IsPart u o ∧ Q o H') X.xe s
def tNoPart : TO := fun _ H Q => Q none H
def tPart (t : TE) : TO := fun σ H Q => t σ H fun x H1 => ∃ i, x = .int i ∧ Q (some i) H1

section
variable {X : Cx} {e : Expr} {te : TE} {lo hi : Option Expr} {tl th : TO} {pos p2 : Pos}

theorem po_some (h : PE X e te) : PO X (some e) (tPart te) := by
  intro pins s σ H Q I hw
  rw [evalPart_some]
  refine thn (h pins s σ H _ I hw) fun u s1 ⟨x, H1, I1, r1, q1⟩ => ?_
  obtain ⟨i, rfl, q⟩ := q1
  obtain ⟨t, rfl⟩ := r1
  exact ⟨some i, H1, I1, .int i t, q⟩

def SlR (X : Cx) (r : V → Option Int → Option Int → Hp → VK → Prop) : Prop :=
  ∀ (pins : List (Addr × Obj)) (s : Shared) (σ : St) (H : Hp) (x : V) (v vl vu : Value) (lo hi : Option Int) (sl : Addr) (Q : VK), Inv X pins σ H s → RelV x v → s.heap.IsSliceOf sl vl vu .none → IsPart vl lo → IsPart vu hi → r x lo hi H Q →
    ∃ T id, typeLookup (.type T) "__getitem__" = pure (some (.builtin id)) ∧ s.TypeIs v T ∧ wpAny (model X.prog X.w) X.A (getItem v (.ref sl)) (EP X pins σ Q) X.xe s
def tSl (r : V → Option Int → Option Int → Hp → VK → Prop) (te : TE) (tl th : TO) : TE := fun σ H Q => te σ H fun x H1 => tl σ H1 fun l H2 => th σ H2 fun u H3 => r x l u H3 Q
theorem pe_slice {r : V → Option Int → Option Int → Hp → VK → Prop} (hr : SlR X r) (he : PE X e te) (hl : PO X lo tl) (hu : PO X hi th) : PE X (.Subscript e (.Slice lo hi none p2) pos) (tSl r te tl th) := by
  intro pins s σ H Q I h
  refine Subscript_ (thn (he pins s σ H _ I h) fun v s1 ⟨x, H1, I1, r1, q1⟩ => ?_)
  refine wpAny_Slice (thn (hl pins s1 σ H1 _ I1 q1) fun vl s2 ⟨l, H2, I2, pl, q2⟩ => thn (hu pins s2 σ H2 _ I2 q2) fun vu s3 ⟨u, H3, I3, pu, q3⟩ => ?_)
  rw [evalPart_none]
  refine wpAny_pure ?_
  have I4 : Inv X pins σ H3 { s3 with heap := s3.heap.push { cls := .type "slice", data := .fields #[vl, vu, .none] } } := I3.kept (t' := s3.toks) fun b ob q => Heap.get?_push_of_some _ q
  obtain ⟨T, id, hT, ht, hg⟩ := hr pins { s3 with heap := s3.heap.push { cls := .type "slice", data := .fields #[vl, vu, .none] } } σ H3 x v vl vu l u s3.heap.objs.size Q I4 r1 (Heap.IsSliceOf.new ..) pl pu q3
  show wpAny (model X.prog X.w) X.A (subscriptTail e (.Slice lo hi none p2) v (.ref s3.heap.objs.size)) (EP X pins σ Q) X.xe { s3 with heap := s3.heap.push { cls := .type "slice", data := .fields #[vl, vu, .none] } }
  exact tail_any (ops := [.ref s3.heap.objs.size, v]) ht hT hg (by with_unfolding_all rfl)

def cutV (xs : List V) (lo hi : Option Int) : List V := (xs.drop (HT.sIx xs.length 0 lo)).take (HT.sIx xs.length xs.length hi - HT.sIx xs.length 0 lo)
theorem cutV_length (xs : List V) (lo hi : Option Int) : (cutV xs lo hi).length ≤ xs.length := by
  unfold cutV
  rw [List.length_take, List.length_drop]
  omega
end
end L2

namespace L2
open PySem PySem.Spec PyProof.Rows

def ixN (n : Nat) (i : Int) : Option Nat := if 0 ≤ i then (if i < n then some i.toNat else none) else if -(n : Int) ≤ i then some (i + n).toNat else none
def atI {α : Type} (xs : List α) (i : Int) : Option α := (ixN xs.length i).bind fun j => xs[j]?
theorem ixN_seq {n : Nat} {i : Int} {j : Nat} (h : ixN n i = some j) : seqIndex? i n = some j ∧ j < n ∧ -(n : Int) ≤ i ∧ i < n := by
  unfold ixN at h
  by_cases h0 : 0 ≤ i
  · rw [if_pos h0] at h
    by_cases h1 : i < n
    · rw [if_pos h1] at h
      have e : i.toNat = j := Option.some.inj h
      exact ⟨by rw [seqIndex_of h0 h1, e], by omega, by omega, h1⟩
    · rw [if_neg h1] at h; cases h
  · rw [if_neg h0] at h
    by_cases h1 : -(n : Int) ≤ i
    · rw [if_pos h1] at h
      have e : (i + n).toNat = j := Option.some.inj h
      exact ⟨by rw [seqIndex_neg (by omega) h1, e], by omega, h1, by omega⟩
    · rw [if_neg h1] at h; cases h
theorem atI_get {α : Type} {xs : List α} {i : Int} {v : α} (h : atI xs i = some v) : ∃ j, seqIndex? i xs.length = some j ∧ xs[j]? = some v ∧ j < xs.length ∧ -(xs.length : Int) ≤ i ∧ i < xs.length := by
  unfold atI at h
  cases e : ixN xs.length i with
  | none => rw [e] at h; cases h
  | some j =>
    rw [e] at h
    obtain ⟨h1, h2, h3, h4⟩ := ixN_seq e
    exact ⟨j, h1, h, h2, h3, h4⟩
theorem atI_nat {α : Type} {xs : List α} {j : Nat} {v : α} (h : xs[j]? = some v) : atI xs (j : Int) = some v := by
  have hj : j < xs.length := (List.getElem?_eq_some_iff.mp h).1
  have e : ixN xs.length (j : Int) = some j := by
    unfold ixN
    rw [if_pos (by omega), if_pos (by omega)]; simp
  unfold atI; rw [e]; exact h
def PlainIx (b : Expr) : Prop := ∀ o i, subscripted b false o i = operate [o, i] (getItem o i)
def IxR (X : Cx) (r : R2) : Prop :=
  ∀ (value slice : Expr) (pins : List (Addr × Obj)) (s : Shared) (σ : St) (H : Hp) (x y : V) (v u : Value) (Q : VK), Inv X pins σ H s → RelV x v → RelV y u → r x y H Q →
    subscripted slice false v u = operate [v, u] (getItem v u) → wpAny (model X.prog X.w) X.A (subscriptTail value slice v u) (EP X pins σ Q) X.xe s
def MtR (X : Cx) (id : String) (r : V → List V → Hp → VK → Prop) : Prop :=
  ∀ (pins : List (Addr × Obj)) (s : Shared) (σ : St) (H : Hp) (x : V) (xs : List V) (v : Value) (us : List Value) (Q : VK), Inv X pins σ H s → RelV x v → Vals xs us → r x xs H Q →
    wpAny (model X.prog X.w) X.A (call (.builtin id) (v :: us)) (EP X pins σ Q) X.xe s
section
variable {X : Cx} {a b : Expr} {ta tb : TE} {pos : Pos}
theorem pe_ix {r : R2} (hr : IxR X r) (ha : PE X a ta) (hb : PE X b tb) (hs : PlainIx b) : PE X (.Subscript a b pos) (tOp r ta tb) := by
  intro pins s σ H Q I h
  exact Subscript_ (binT ha hb I h fun v u s2 x y H2 I2 rx ry q => hr a b pins s2 σ H2 x y v u Q I2 rx ry q (hs _ _))

def rIxL (K : PySem.W.Frag) : R2 := fun x y H Q => ∃ p xs i v, x = .ref p ∧ y = .int i ∧ SqL K H p xs ∧ atI xs i = some v ∧ Q v H
def rIxT (K : PySem.W.Frag) : R2 := fun x y H Q => ∃ p xs i v, x = .ref p ∧ y = .int i ∧ SqT K H p xs ∧ atI xs i = some v ∧ Q v H
theorem ix_list : IxR X (rIxL X.K) := by
  intro value slice pins s σ H x y v u Q I rx ry h hs
  obtain ⟨p, xs, i, z, rfl, rfl, hq, he, q⟩ := h
  cases rx
  obtain ⟨t, rfl⟩ := ry
  obtain ⟨its, r, pl, hz⟩ := I.list hq
  obtain ⟨j, h1, h2, h3, h4, h5⟩ := atI_get he
  obtain ⟨w, ew, rw'⟩ := r.get h2
  have hl := r.length
  have hn := line63
  have fin : EP X pins σ Q w s := ⟨z, H, I, rw', q⟩
  by_cases h0 : 0 ≤ i
  · have hj : i.toNat = j := by
      rw [seqIndex_of h0 h5] at h1
      exact Option.some.inj h1
    exact item_listR pl.isList h0 (by omega) (by rw [hj]; simpa using ew) fin hs
  · have hj : (i + (its.toArray.size : Int)).toNat = j := by
      rw [seqIndex_neg (by omega) h4] at h1
      rw [List.size_toArray, ← hl]
      exact Option.some.inj h1
    exact subscriptTail_builtinR (x := w) pl.isList.typeIs slot_list_getitem.lookup
      (wpAny_getItem_list_neg (Q := fun r s' => r = w ∧ EP X pins σ Q r s') pl.isList (by omega) (by rw [List.size_toArray] <;> omega) (by omega) (by rw [hj]; simpa using ew) ⟨rfl, fin⟩) hs
theorem ix_tup : IxR X (rIxT X.K) := by
  intro value slice pins s σ H x y v u Q I rx ry h hs
  obtain ⟨p, xs, i, z, rfl, rfl, hq, he, q⟩ := h
  cases rx
  obtain ⟨t, rfl⟩ := ry
  obtain ⟨its, r, pl, hz⟩ := I.tuple hq
  obtain ⟨j, h1, h2, h3, h4, h5⟩ := atI_get he
  obtain ⟨w, ew, rw'⟩ := r.get h2
  have hl := r.length
  have hn := line63
  have fin : EP X pins σ Q w s := ⟨z, H, I, rw', q⟩
  exact subscriptTail_builtinR (x := w) pl.typeIs slot_tuple_getitem.lookup
    (getItem_tuple (j := j) (Q := fun r s' => r = w ∧ EP X pins σ Q r s') pl (by omega) (by omega) (by rw [List.size_toArray, ← hl]; exact h1) (by simpa using ew) ⟨rfl, fin⟩) hs
theorem mapSeq_set (its : List Value) (n j : Nat) (u : Value) : Obj.mapSeq (·.setIfInBounds j u) { cls := .type "list", data := .seq its.toArray n } = { cls := .type "list", data := .seq (its.set j u).toArray n } := by
  simp [Obj.mapSeq]
theorem Inv.lst {pins : List (Addr × Obj)} {σ : St} {H : Hp} {s : Shared} {p : Addr} {xs : List V} (I : Inv X pins σ H s) (h : H p = some (.lst xs)) :
    ∃ (its : List Value) (n : Nat), Vals xs its ∧ s.heap.get? p = some { cls := .type "list", data := .seq its.toArray n } ∧ xs.length ≤ sizeLine := by
  obtain ⟨z, its, n, r, e⟩ := I.hok p _ h
  exact ⟨its, n, r, e, z⟩
theorem Inv.lstUpd {pins : List (Addr × Obj)} {σ : St} {H : Hp} {s : Shared} {p : Addr} {xs ys : List V} {its its' : List Value} {n n' : Nat} {f : Obj → Obj} (I : Inv X pins σ H s) (h : H p = some (.lst xs))
    (ho : s.heap.get? p = some { cls := .type "list", data := .seq its.toArray n }) (hf : f { cls := .type "list", data := .seq its.toArray n } = { cls := .type "list", data := .seq its'.toArray n' }) (r : Vals ys its') (hz : ys.length ≤ sizeLine) (t : Nat) :
    Inv X pins σ (upd H p (.lst ys)) { s with heap := s.heap.update p f, toks := t } := by
  have e : (s.heap.update p f).get? p = some { cls := .type "list", data := .seq its'.toArray n' } := by
    rw [Heap.get?_update_self f ho (by rw [hf] <;> rfl), hf]
  refine I.write (x := p) (e := p) (by rw [h]; trivial) (.inl rfl) (fun b u hb q => (Heap.get?_update_other _ _ (Ne.symm hb)).trans q) ⟨_, e⟩ ?_
  exact ⟨hz, its', n', r, e⟩
def rSetL : V → V → V → Hp → (Hp → Prop) → Prop := fun o i v H Q => ∃ p xs k j, o = .ref p ∧ i = .int k ∧ H p = some (.lst xs) ∧ ixN xs.length k = some j ∧ Q (upd H p (.lst (xs.set j v)))
theorem set_list : PSet X rSetL := by
  intro pins s σ H o i v ov iv u Q I ro ri rv h
  obtain ⟨p, xs, k, j, rfl, rfl, hp, hj, q⟩ := h
  cases ro
  obtain ⟨t, rfl⟩ := ri
  obtain ⟨its, n, r, ho, hz⟩ := I.lst hp
  obtain ⟨h1, h2, h3, h4⟩ := ixN_seq hj
  have hl := r.length
  have hn := line63
  have I' : Inv X pins σ (upd H p (.lst (xs.set j v))) { s with heap := s.heap.update p (Obj.mapSeq (·.setIfInBounds j u)) } :=
    I.lstUpd hp ho (mapSeq_set its n j u) (r.set rv j) (by rw [List.length_set]; exact hz) s.toks
  by_cases h0 : 0 ≤ k
  · have hk : k.toNat = j := by
      rw [seqIndex_of h0 h4] at h1
      exact Option.some.inj h1
    exact PySem.W.ki_setAt ho h0 (by omega) (by rw [List.size_toArray, ← hl]; exact h4) (by rw [hk]; exact ⟨_, I', q⟩)
  · have hk : (k + (its.toArray.size : Int)).toNat = j := by
      rw [seqIndex_neg (by omega) h3] at h1
      rw [List.size_toArray, ← hl]
      exact Option.some.inj h1
    exact PySem.W.ki_setBack ho (by omega) (by rw [List.size_toArray, ← hl]; exact h3) (by omega) (by rw [hk]; exact ⟨_, I', q⟩)

theorem slice_bounds (lo hi : Option Int) (n : Nat) : (sliceBounds lo hi none n).1 = ((HT.sIx n 0 lo : Nat) : Int) ∧ (sliceBounds lo hi none n).2.1 = ((HT.sIx n n hi : Nat) : Int) ∧ (sliceBounds lo hi none n).2.2 = 1 := by
  refine ⟨?_, ?_, rfl⟩
  · cases lo with
    | none => simp [sliceBounds, HT.sIx]
    | some i =>
      simp only [sliceBounds, HT.sIx, Option.getD_none, show (1 : Int) > 0 by decide, if_true]
      by_cases h : i < 0
      · simp only [h, if_true] <;> omega
      · simp only [h, if_false] <;> omega
  · cases hi with
    | none => simp [sliceBounds, HT.sIx]
    | some i =>
      simp only [sliceBounds, HT.sIx, Option.getD_none, show (1 : Int) > 0 by decide, if_true]
      by_cases h : i < 0
      · simp only [h, if_true] <;> omega
      · simp only [h, if_false] <;> omega
theorem slicePick_cut (its : List Value) (lo hi : Option Int) : slicePick its.toArray lo hi none = ((its.drop (HT.sIx its.length 0 lo)).take (HT.sIx its.length its.length hi - HT.sIx its.length 0 lo)).toArray := by
  obtain ⟨h1, h2, h3⟩ := slice_bounds lo hi its.toArray.size
  unfold slicePick
  rw [h1, h2, h3]
  simp only [sliceRange_one, pick_run, List.size_toArray] <;> rfl
def rSlL (K : PySem.W.Frag) : V → Option Int → Option Int → Hp → VK → Prop := fun x lo hi H Q => ∃ a xs, x = .ref a ∧ SqL K H a xs ∧ ∀ p, H p = none → Q (.ref p) (upd H p (.lst (cutV xs lo hi)))
theorem sl_list : SlR X (rSlL X.K) := by
  intro pins s σ H x v vl vu lo hi sl Q I rx hs pl pu h
  obtain ⟨a, xs, rfl, hx, q⟩ := h
  cases rx
  obtain ⟨its, r, ht, hz⟩ := I.list hx
  have hlen := r.length
  refine ⟨"list", _, slot_list_getitem.lookup, ht.isList.typeIs, ?_⟩
  refine wpAny_getItem_list_slice ht.isList hs pl pu .none (by simp) ?_ (by rw [List.size_toArray] <;> omega)
  rw [slicePick_cut, ← hlen]
  refine ⟨.ref s.heap.objs.size, _, I.laid (t' := s.toks) (o := .lst (cutV xs lo hi)) (fun b ob q => Heap.get?_push_of_some _ q) (Nat.le_refl _) ?_, rfl, q _ (I.hok.fresh (Nat.le_refl _))⟩
  exact ⟨Nat.le_trans (cutV_length xs lo hi) hz, _, 0, (r.drop (HT.sIx xs.length 0 lo)).take (HT.sIx xs.length xs.length hi - HT.sIx xs.length 0 lo), Heap.get?_push_size _ rfl⟩

def flatV : V → Bool
  | .non => true
  | .bl _ => true
  | .int _ => true
  | .str _ => true
  | _ => false
def eqV : V → V → Bool
  | .non, .non => true
  | .bl a, .bl b => a == b
  | .bl a, .int b => (if a then 1 else 0) == b
  | .int a, .bl b => a == (if b then 1 else 0)
  | .int a, .int b => a == b
  | .str a, .str b => a == b
  | _, _ => false
theorem eqAt_V {A : Around} {s : Shared} {y x : V} {u v : Value} (ry : RelV y u) (rx : RelV x v) (fy : flatV y = true) (fx : flatV x = true) : SeqAt.EqAt A s u v (eqV y x) := by
  cases y with
  | non =>
    cases ry
    cases x with
    | non => cases rx; exact SeqAt.EqAt.same _
    | bl b => cases rx; exact SeqAt.EqAt.none_bool b
    | int b => obtain ⟨t, rfl⟩ := rx; exact SeqAt.EqAt.none_int b t
    | str b => obtain ⟨t, rfl⟩ := rx; exact SeqAt.EqAt.none_str b t
    | _ => exact absurd (show false = true from fx) Bool.false_ne_true
  | bl a =>
    cases ry
    cases x with
    | non => cases rx; exact SeqAt.EqAt.bool_none a
    | bl b => cases rx; exact SeqAt.EqAt.bool_bool a b
    | int b => obtain ⟨t, rfl⟩ := rx; exact SeqAt.EqAt.bool_int a b t
    | str b => obtain ⟨t, rfl⟩ := rx; exact SeqAt.EqAt.bool_str a b t
    | _ => exact absurd (show false = true from fx) Bool.false_ne_true
  | int a =>
    obtain ⟨t', rfl⟩ := ry
    cases x with
    | non => cases rx; exact SeqAt.EqAt.int_none a t'
    | bl b => cases rx; exact SeqAt.EqAt.int_bool a t' b
    | int b => obtain ⟨t, rfl⟩ := rx; exact SeqAt.EqAt.int_int a t' b t
    | str b => obtain ⟨t, rfl⟩ := rx; exact SeqAt.EqAt.int_str a t' b t
    | _ => exact absurd (show false = true from fx) Bool.false_ne_true
  | str a =>
    obtain ⟨t', rfl⟩ := ry
    cases x with
    | non => cases rx; exact SeqAt.EqAt.str_none a t'
    | bl b => cases rx; exact SeqAt.EqAt.str_bool a t' b
    | int b => obtain ⟨t, rfl⟩ := rx; exact SeqAt.EqAt.str_int a t' b t
    | str b => obtain ⟨t, rfl⟩ := rx; exact SeqAt.EqAt.str_str a t' b t
    | _ => exact absurd (show false = true from fx) Bool.false_ne_true
  | _ => exact absurd (show false = true from fy) Bool.false_ne_true
def eqU (x : V) (u : Value) : Bool := match u with
  | .none => eqV .non x
  | .bool b => eqV (.bl b) x
  | .int i _ => eqV (.int i) x
  | .str z _ => eqV (.str z) x
  | _ => false
theorem eqU_of {x y : V} {u : Value} (r : RelV y u) (f : flatV y = true) : eqU x u = eqV y x := by
  cases y with
  | non => cases r; rfl
  | bl b => cases r; rfl
  | int i => obtain ⟨t, rfl⟩ := r; rfl
  | str z => obtain ⟨t, rfl⟩ := r; rfl
  | _ => exact absurd (show false = true from f) Bool.false_ne_true
theorem any_eqU {x : V} : ∀ {xs : List V} {us : List Value}, Vals xs us → xs.all flatV = true → us.any (eqU x) = xs.any fun y => eqV y x
  | _, _, .nil, _ => rfl
  | y :: xs, u :: us, .cons r t, f => by
    rw [List.all_cons, Bool.and_eq_true] at f
    rw [List.any_cons, List.any_cons, eqU_of r f.1, any_eqU t f.2]
theorem mem_eqAt {A : Around} {s : Shared} {x : V} {v : Value} (rx : RelV x v) (fx : flatV x = true) : ∀ {xs : List V} {us : List Value}, Vals xs us → xs.all flatV = true → ∀ u ∈ us, SeqAt.EqAt A s u v (eqU x u)
  | _, _, .nil, _ => fun u hu => by cases hu
  | y :: xs, u :: us, .cons r t, f => fun u' hu => by
    rw [List.all_cons, Bool.and_eq_true] at f
    rcases List.mem_cons.mp hu with rfl | hu
    · rw [eqU_of r f.1]; exact eqAt_V r rx f.1 fx
    · exact mem_eqAt rx fx t f.2 u' hu
def inV (x : V) (xs : List V) : Bool := xs.any fun y => eqV y x
def rIn (K : PySem.W.Frag) (neg : Bool) : R2 := fun x y H Q => ∃ p xs, y = .ref p ∧ (SqL K H p xs ∨ SqT K H p xs) ∧ flatV x = true ∧ xs.all flatV = true ∧ Q (.bl (if neg then !inV x xs else inV x xs)) H
theorem op_notIn_seq : OpR X (compareOp .NotIn) (rIn X.K true) := by
  intro pins s σ H x y v u Q I rx ry h
  obtain ⟨p, xs, rfl, hq, fx, fs, q⟩ := h
  cases ry
  rcases hq with hq | hq
  · obtain ⟨its, r, pl, hz⟩ := I.list hq
    refine SeqAt.notIn_listAt (eqU x) pl.isList (fun w hw => mem_eqAt rx fx r fs w (by simpa using hw)) ⟨.bl _, H, I, rfl, ?_⟩
    rw [show its.toArray.any (eqU x) = its.any (eqU x) by simp, any_eqU r fs]
    exact q
  · obtain ⟨its, r, pl, hz⟩ := I.tuple hq
    refine SeqAt.notIn_tupleAt (eqU x) pl (fun w hw => mem_eqAt rx fx r fs w (by simpa using hw)) ⟨.bl _, H, I, rfl, ?_⟩
    rw [show its.toArray.any (eqU x) = its.any (eqU x) by simp, any_eqU r fs]
    exact q
theorem call_len_seq : CallR X (.builtin "len") (fun xs H Q => ∃ p ys, xs = [.ref p] ∧ (SqL X.K H p ys ∨ SqT X.K H p ys) ∧ Q (.int ys.length) H) := by
  intro pins s σ H xs us Q I r h
  obtain ⟨p, ys, rfl, hq, q⟩ := h
  obtain ⟨u, rfl, rx⟩ := vals1 r
  cases rx
  have hn := line63
  rcases hq with hq | hq
  · obtain ⟨its, r', pl, hz⟩ := I.list hq
    have hlen := r'.length
    exact Calls.call_len_list pl.isList (by simp only [List.size_toArray] <;> omega) ⟨.int ys.length, H, I.tok _, ⟨s.toks + 1, by rw [List.size_toArray, hlen]⟩, q⟩
  · obtain ⟨its, r', pl, hz⟩ := I.tuple hq
    have hlen := r'.length
    exact len_tuple pl (by simp only [List.size_toArray] <;> omega) ⟨.int ys.length, H, I.tok _, ⟨s.toks + 1, by rw [List.size_toArray, hlen]⟩, q⟩
theorem call_list_of : CallR X (.type "list") (fun xs H Q => ∃ p ys, xs = [.ref p] ∧ (SqL X.K H p ys ∨ SqT X.K H p ys) ∧ ∀ l, H l = none → Q (.ref l) (upd H l (.lst ys))) := by
  intro pins s σ H xs us Q I r h
  obtain ⟨p, ys, rfl, hq, q⟩ := h
  obtain ⟨u, rfl, rx⟩ := vals1 r
  cases rx
  have fin : ∀ (its : List Value), Vals ys its → ys.length ≤ sizeLine → ∀ (h' : Heap) (c' : Nat), (∀ b o', s.heap.get? b = some o' → h'.get? b = some o') →
      h'.get? s.heap.objs.size = some { cls := .type "list", dict := none, data := .seq its.toArray c', slots := #[] } → EP X pins σ Q (.ref s.heap.objs.size) { s with heap := h' } := fun its r' hz h' c' kp e =>
    ⟨.ref s.heap.objs.size, _, I.laid (t' := s.toks) kp (Nat.le_refl _) (show ObjOk X.prog X.w _ h' _ (.lst ys) from ⟨hz, its, c', r', e⟩), rfl, q _ (I.hok.fresh (Nat.le_refl _))⟩
  rcases hq with hq | hq
  · obtain ⟨its, r', pl, hz⟩ := I.list hq
    have hlen := r'.length
    obtain ⟨o, ho, hc, n, hd⟩ := pl.isList
    exact call_list_seq p (.inl rfl) ho hc hd (fun h' c' kp e => fin its r' hz h' c' kp e) (by simp only [List.size_toArray] <;> omega)
  · obtain ⟨its, r', pl, hz⟩ := I.tuple hq
    have hlen := r'.length
    obtain ⟨o, ho, hc, n, hd⟩ := pl
    exact call_list_seq p (.inr rfl) ho hc hd (fun h' c' kp e => fin its r' hz h' c' kp e) (by simp only [List.size_toArray] <;> omega)
def tyV (K : PySem.W.Frag) (T : String) (x : V) (H : Hp) : Prop := match x with
  | .str _ => T = "str"
  | .int _ => T = "int"
  | .ref p => (T = "list" ∧ ∃ xs, SqL K H p xs) ∨ (T = "tuple" ∧ ∃ o, K.lookup p = some o ∧ o.cls = .type "tuple" ∧ o.dict = none) ∨
      (T = "dict" ∧ ((∃ kvs, H p = some (.dK kvs)) ∨ ∃ kvs, H p = some (.dT kvs))) ∨ (T = "set" ∧ ∃ S n, H p = some (.set S n))
  | _ => False
theorem tyV_is {pins : List (Addr × Obj)} {σ : St} {H : Hp} {s : Shared} {T : String} {x : V} {v : Value} (I : Inv X pins σ H s) (r : RelV x v) (ty : tyV X.K T x H) :
    s.TypeIs v T ∧ ∀ a, v = .ref a → ∃ ob, s.heap.get? a = some ob ∧ ob.dict = none := by
  cases x with
  | str z =>
    obtain ⟨t, rfl⟩ := r
    cases (show T = "str" from ty)
    exact ⟨typeIs_str s z t, fun _ e => nomatch e⟩
  | int i =>
    obtain ⟨t, rfl⟩ := r
    cases (show T = "int" from ty)
    exact ⟨typeIs_int s i t, fun _ e => nomatch e⟩
  | ref p =>
    cases r
    rcases ty with ⟨rfl, xs, hq⟩ | ⟨rfl, o, hk, hc, hd⟩ | ⟨rfl, hk⟩ | ⟨rfl, S, n, hk⟩
    · obtain ⟨its, _, pl, _⟩ := I.list hq
      refine ⟨pl.isList.typeIs, fun a e => ?_⟩
      cases e
      obtain ⟨o, n, e, c, hd, _⟩ := pl
      exact ⟨o, e, hd⟩
    · refine ⟨⟨o, I.kIn p o hk, hc⟩, fun a e => ?_⟩
      cases e
      exact ⟨o, I.kIn _ o hk, hd⟩
    · have z : ∃ o, s.heap.get? p = some o ∧ o.ExactDict := by
        rcases hk with ⟨kvs, hk⟩ | ⟨kvs, hk⟩
        · obtain ⟨_, _, _, _, o, _, _, e, ex, _⟩ := I.hok p _ hk
          exact ⟨o, e, ex⟩
        · obtain ⟨_, _, _, _, o, _, _, e, ex, _⟩ := I.hok p _ hk
          exact ⟨o, e, ex⟩
      obtain ⟨o, e, ex⟩ := z
      refine ⟨⟨o, e, ex.1⟩, fun a e2 => ?_⟩
      cases e2
      exact ⟨o, e, ex.2.1⟩
    · obtain ⟨o, _, _, _, e, ex, _⟩ := I.hok p _ hk
      refine ⟨⟨o, e, ex.1⟩, fun a e2 => ?_⟩
      cases e2
      exact ⟨o, e, ex.2.1⟩
  | _ => exact False.elim ty
def tBM (K : PySem.W.Frag) (T : String) (r : V → List V → Hp → VK → Prop) (to : TE) (t : TA) : TE := fun σ H Q => to σ H fun x H1 => tyV K T x H1 ∧ t σ H1 fun xs H2 => r x xs H2 Q
variable {o e : Expr} {es : List Expr} {to : TE} {t : TA} {name : Str} {apos cpos : Pos} {T id : String} {r : V → List V → Hp → VK → Prop}
theorem pe_bm (pa : PlainAttrs T) (slot : Slot T name id) (hty : typeOf (.builtin id) = pure (.type "method_descriptor")) (hm : MtR X id r) (ho : PE X o to) (ha : PA X (e :: es) t)
    (hbase : attributeBase o name X.env (eval o X.env) = eval o X.env := by rfl)
    (hfew : ((backTo cpos (starEach (e :: es) X.env)).all (fun x => !x.1) && (backToKw cpos (keywordEach [] X.env)).all (fun x => x.1.isSome)
      && decide ((e :: es).length + ([] : List Keyword).length + (if ([] : List Keyword).isEmpty then 0 else 1) < 30)) = true := by rfl)
    (hline : (apos.endLine == cpos.line) = true := by rfl) (hs : starEach (e :: es) X.env = (false, eval e X.env) :: starEach es X.env := by rfl) (hplain : (backTo cpos (starEach es X.env)).any (·.1) = false := by rfl) :
    PE X (.Call (.Attribute o name apos) (e :: es) [] cpos) (tBM X.K T r to t) := by
  intro pins s σ H Q I h
  refine wpAny_Call_method_late hbase hfew hline rfl (thn (ho pins s σ H _ I h) fun v s1 ⟨x, H1, I1, r1, ty, q1⟩ => ?_)
  obtain ⟨h1, h2⟩ := tyV_is I1 r1 ty
  refine ⟨T, id, pa, slot, hty, h1, h2, ?_⟩
  have hA := ha cpos pins s1 σ H1 _ I1 q1
  rw [hs] at hA ⊢
  refine Calls.callWith_builtin (by show (false || (backTo cpos (starEach es X.env)).any (·.1)) = false; rw [hplain] <;> rfl) (Calls.evalArgs_plain ?_)
  exact thn hA fun us s2 ⟨vs, H2, I2, r2, q2⟩ => hm pins s2 σ H2 x vs v us Q I2 r1 r2 q2
end
end L2

namespace L2
open PySem PySem.Spec PyProof.Rows

def MtM (X : Cx) (id : String) (r : V → List V → Hp → VK → Prop) : Prop :=
  ∀ (pins : List (Addr × Obj)) (s : Shared) (σ : St) (H : Hp) (x : V) (xs : List V) (v : Value) (us : List Value) (Q : VK), Inv X pins σ H s → RelV x v → Vals xs us → r x xs H Q →
    wpAny (model X.prog X.w) X.A (call (.builtin id) (v :: us)) (EP X pins σ Q) X.xe s

theorem Vals.one : ∀ {x : V} {us : List Value}, Vals [x] us → ∃ u, us = [u] ∧ RelV x u
  | _, _, .cons r .nil => ⟨_, rfl, r⟩
theorem Vals.rep {xs : List V} {us : List Value} (h : Vals xs us) : ∀ k : Nat, Vals (List.replicate k xs).flatten (List.replicate k us).flatten
  | 0 => .nil
  | k + 1 => by
    rw [List.replicate_succ, List.replicate_succ, List.flatten_cons, List.flatten_cons]
    exact Vals.append h (Vals.rep h k)
theorem foldl_rep (its : List Value) : ∀ (k : Nat) (acc : List Value),
    List.foldl (fun x1 x2 => x1 ++ x2) acc.toArray (List.replicate k its.toArray) = (acc ++ (List.replicate k its).flatten).toArray
  | 0, acc => by simp
  | k + 1, acc => by
    have e : acc.toArray ++ its.toArray = (acc ++ its).toArray := by simp
    have e2 : (acc ++ its) ++ (List.replicate k its).flatten = acc ++ (List.replicate (k + 1) its).flatten := by
      rw [List.replicate_succ, List.flatten_cons, List.append_assoc]
    rw [← e2, ← foldl_rep its k (acc ++ its), ← e, List.replicate_succ, List.foldl_cons]

section
variable {X : Cx} {pins : List (Addr × Obj)} {σ : St} {H : Hp} {s : Shared} {l b : Addr} {xs ys zs : List V}

theorem Inv.lset {its its' : List Value} {n : Nat} {f : Array Value → Array Value} {t' : Nat} (I : Inv X pins σ H s) (hH : H l = some (.lst xs))
    (e : s.heap.get? l = some { cls := .type "list", data := .seq its.toArray n }) (hf : f its.toArray = its'.toArray) (hv : Vals ys its') (hz : ys.length ≤ sizeLine) :
    Inv X pins σ (upd H l (.lst ys)) { s with heap := s.heap.update l (Obj.mapSeq f), toks := t' } := by
  have q := PySem.IsL.update e f
  rw [hf] at q
  refine I.write (x := l) (e := l) (by rw [hH]; exact trivial) (.inl rfl) (fun b' u hb hu => (Heap.get?_update_other s.heap (Obj.mapSeq f) (Ne.symm hb)).trans hu) ⟨_, q⟩ ?_
  exact ⟨hz, its', _, hv, q⟩
theorem Inv.lnew {its : List Value} {t' : Nat} (I : Inv X pins σ H s) (hv : Vals ys its) (hz : ys.length ≤ sizeLine) :
    Inv X pins σ (upd H s.heap.objs.size (.lst ys)) { s with heap := s.heap.push { cls := .type "list", data := .seq its.toArray }, toks := t' } :=
  I.laid (fun _ _ q => Heap.get?_push_of_some _ q) (Nat.le_refl _) ⟨hz, its, 0, hv, Heap.get?_push_size _ rfl⟩
theorem Inv.fresh (I : Inv X pins σ H s) : H s.heap.objs.size = none := I.hok.fresh (Nat.le_refl _)
theorem Inv.lstM (I : Inv X pins σ H s) (hH : H l = some (.lst xs)) : xs.length ≤ sizeLine ∧ ∃ (its : List Value) (n : Nat), Vals xs its ∧ xs.length = its.length ∧ s.heap.get? l = some { cls := .type "list", data := .seq its.toArray n } := by
  obtain ⟨z, its, n, r, e⟩ := I.hok l _ hH
  exact ⟨z, its, n, r, r.length, e⟩

theorem notLongL {n : Nat} (h : n ≤ sizeLine) : Builtin.List.listTooLong n = false := by
  unfold Builtin.List.listTooLong
  exact decide_eq_false (by omega)
end

section
variable {X : Cx}

def rAppend : V → List V → Hp → VK → Prop := fun x vs H Q => ∃ l xs y, x = .ref l ∧ vs = [y] ∧ H l = some (.lst xs) ∧ xs.length < sizeLine ∧ Q .non (upd H l (.lst (xs ++ [y])))
theorem mt_append : MtM X "list.append" rAppend := by
  intro pins s σ H x vs v us Q I rx rv h
  obtain ⟨l, xs, y, rfl, rfl, hH, hz, q⟩ := h
  cases rx
  obtain ⟨u, rfl, ru⟩ := rv.one
  obtain ⟨z, its, n, r, hl, e⟩ := I.lstM hH
  refine call_meets F.slot_list_append ⟨_, e, rfl⟩ F.entry_list_append (F.args_list_append_2 _ _) (PySem.list_append l its.toArray n u (by rw [List.size_toArray]; omega)) ⟨e, ?_⟩
  refine ⟨.non, _, I.lset (its' := its ++ [u]) hH e (by simp) (r.append (.cons ru .nil)) ?_, rfl, q⟩
  rw [List.length_append, List.length_singleton]
  omega

def rExtend : V → List V → Hp → VK → Prop := fun x vs H Q => ∃ l b xs zs, x = .ref l ∧ vs = [.ref b] ∧ H l = some (.lst xs) ∧ H b = some (.lst zs) ∧ xs.length + zs.length ≤ sizeLine ∧ Q .non (upd H l (.lst (xs ++ zs)))
theorem mt_extend : MtM X "list.extend" rExtend := by
  intro pins s σ H x vs v us Q I rx rv h
  obtain ⟨l, b, xs, zs, rfl, rfl, hH, hB, hz, q⟩ := h
  cases rx
  obtain ⟨u, rfl, ru⟩ := rv.one
  cases ru
  obtain ⟨z, its, n, r, hl, e⟩ := I.lstM hH
  obtain ⟨z2, its2, n2, r2, hl2, e2⟩ := I.lstM hB
  have hsz : its.toArray.size + its2.toArray.size ≤ sizeLine := by rw [List.size_toArray, List.size_toArray]; omega
  have hlong : ¬ (!its.toArray.isEmpty && Builtin.List.listTooLong (its.toArray.size + its2.toArray.size)) = true := by
    rw [notLongL hsz, Bool.and_false]
    exact Bool.false_ne_true
  refine call_meets F.slot_list_extend ⟨_, e, rfl⟩ F.entry_list_extend (F.args_list_extend_2 _ _)
    (AutoSeq1.list_extend_list_list_0 l its.toArray n b its2.toArray n2 hlong (by rw [List.size_toArray]; omega) (by omega)) ⟨e, e2, ?_⟩
  refine ⟨.non, _, I.lset (its' := its ++ its2) hH e (by simp) (r.append r2) ?_, rfl, q⟩
  rw [List.length_append]
  omega

def rCat : R2 := fun x y H Q => ∃ l b xs zs, x = .ref l ∧ y = .ref b ∧ H l = some (.lst xs) ∧ H b = some (.lst zs) ∧ xs.length + zs.length ≤ sizeLine ∧ ∀ p, H p = none → Q (.ref p) (upd H p (.lst (xs ++ zs)))
theorem op_cat : OpR X (binaryOp .Add) rCat := by
  intro pins s σ H x y v u Q I rx ry h
  obtain ⟨l, b, xs, zs, rfl, rfl, hH, hB, hz, q⟩ := h
  cases rx
  cases ry
  obtain ⟨z, its, n, r, hl, e⟩ := I.lstM hH
  obtain ⟨z2, its2, n2, r2, hl2, e2⟩ := I.lstM hB
  refine PySem.P.add_list e e2 ?_ (by rw [List.size_toArray, List.size_toArray]; omega)
  have ea : its.toArray ++ its2.toArray = (its ++ its2).toArray := by simp
  rw [ea]
  exact ⟨.ref _, _, I.lnew (t' := s.toks) (r.append r2) (by rw [List.length_append]; omega), rfl, q _ I.fresh⟩
def rRep : R2 := fun x y H Q => ∃ l k xs, x = .ref l ∧ y = .int k ∧ H l = some (.lst xs) ∧ -(2 ^ 63) ≤ k ∧ k < 2 ^ 63 ∧ xs.length * k.toNat ≤ sizeLine ∧
  ∀ p, H p = none → Q (.ref p) (upd H p (.lst (List.replicate k.toNat xs).flatten))
theorem len_rep {α : Type} (xs : List α) (k : Nat) : (List.replicate k xs).flatten.length = k * xs.length := by
  induction k with
  | zero => simp
  | succ k ih => rw [List.replicate_succ, List.flatten_cons, List.length_append, ih, Nat.succ_mul, Nat.add_comm]
theorem op_rep : OpR X (binaryOp .Mult) rRep := by
  intro pins s σ H x y v u Q I rx ry h
  obtain ⟨l, k, xs, rfl, rfl, hH, h1, h2, hz, q⟩ := h
  cases rx
  obtain ⟨t, rfl⟩ := ry
  obtain ⟨z, its, n, r, hl, e⟩ := I.lstM hH
  have hlen : its.toArray.size * k.toNat ≤ sizeLine := by rw [List.size_toArray, ← hl]; exact hz
  have hcap : ¬ its.toArray.size * k.toNat > (2 ^ 63 - 1) / 8 := by
    have : (sizeLine : Nat) ≤ (2 ^ 63 - 1) / 8 := by decide
    omega
  have hfit : ¬ (!Builtin.List.listFitsIndex k) = true := by
    rw [fitsIndex_both h1 h2]
    exact Bool.false_ne_true
  have hlong : ¬ Builtin.List.listTooLong (its.toArray.size * k.toNat) = true := by
    rw [notLongL hlen]
    exact Bool.false_ne_true
  have hnew : List.foldl (fun x1 x2 => x1 ++ x2) #[] (List.replicate (if its.toArray.isEmpty = true then 0 else k.toNat) its.toArray) = (List.replicate k.toNat its).flatten.toArray := by
    have f0 : ∀ m : Nat, List.foldl (fun x1 x2 => x1 ++ x2) #[] (List.replicate m its.toArray) = (List.replicate m its).flatten.toArray := fun m => by
      have := foldl_rep its m []
      rw [List.nil_append] at this
      exact this
    rw [f0]
    cases its with
    | nil => simp
    | cons a r' => rw [if_neg (by simp)]
  refine wpAny_binaryOp_repeat_ref (T := "list") (U := "int") (by decide) ⟨_, e, rfl⟩ (fun s' => typeIs_int s' k t) noFill_list_mul F.fills_int_mul F.slot_int_rmul repeat_list F.slot_int_index.lookup
    (call_meets F.slot_int_rmul (typeIs_int s k t) F.entry_int_rmul (F.args_int_rmul_2 _ _) (int___rmul___int_list k t l its.toArray n)
      ⟨e, rfl, ⟨_, e, rfl⟩, call_meets F.slot_list_mul ⟨_, e, rfl⟩ F.entry_list_mul (F.args_list_mul_2 _ _) (AutoListH.list___mul___list_int_3 l its.toArray n k t hfit hcap hlong) ⟨e, ?_⟩⟩)
  rw [hnew]
  exact ⟨.ref _, _, I.lnew (t' := s.toks) (r.rep k.toNat) (by rw [len_rep, Nat.mul_comm]; exact hz), rfl, q _ I.fresh⟩

end

section
variable {prog : Program} {w : World} {A : Around} {E : Value → Shared → Prop} {s : Shared}
set_option maxRecDepth 100000 in
end

section
variable {X : Cx}
end
end L2

namespace L2
open PySem PySem.Spec PyProof.Rows

theorem Vals.ints : ∀ {ns : List Int} {us : List Value}, Vals (ns.map V.int) us → IntsAre us ns
  | [], us, h => by
    rw [List.map_nil] at h
    cases h
    exact IntsAre.nil
  | n :: ns, us, h => by
    rw [List.map_cons] at h
    cases h with
    | cons r t =>
      obtain ⟨k, rfl⟩ := r
      exact IntsAre.cons n k (Vals.ints t)
theorem Vals.ref1 {a : Addr} {us : List Value} (r : Vals [V.ref a] us) : us = [Value.ref a] := by
  cases r with
  | cons r t =>
    cases t
    cases r
    rfl
section
variable {prog : Program} {w : World} {A : Around} {E : Value → Shared → Prop} {s : Shared} {l : Addr} {its : List Value} {ns : List Int} {Q : Value → Shared → Prop}
theorem max_raw (hh : A.handled = none) (hl : s.heap.IsList l its.toArray) (hi : IntsAre its ns) (hne : 0 < ns.length)
    (h : ∀ h' tk M t', (∀ b o, s.heap.get? b = some o → h'.get? b = some o) → M ∈ ns → (∀ a, a ∈ ns → a ≤ M) → Q (.int M t') { s with heap := h', toks := tk }) : wpAny (model prog w) A (call (.builtin "max") [.ref l]) Q E s := by
  obtain ⟨xs, e⟩ := hi.allInts.items
  have hn : numsOf (intItems xs).toList = ns := by rw [← e]; exact hi.numsOf
  rw [nums_intItems] at hn
  subst hn
  rw [e] at hl
  have hsz : 0 < xs.size := by simpa using hne
  refine PySem.max_intList hh hl hsz fun v h' tk hv hk => ?_
  obtain ⟨t, rfl⟩ := intItems_at hv
  obtain ⟨h1, h2⟩ := argBest_gt (numAt xs) (xs.size - 1)
  refine h h' tk _ t hk ?_ fun a ha => ?_
  · rw [numAt_eq]; exact PySem.getD_mem (by rw [List.length_map, Array.length_toList]; omega)
  · obtain ⟨j, hj, rfl⟩ := mem_getD ha
    rw [List.length_map, Array.length_toList] at hj
    rw [← numAt_eq]; exact h2 j (by omega)
end

section
variable {X : Cx}
def rMax (K : PySem.W.Frag) : List V → Hp → VK → Prop := fun vs H Q => ∃ (a : Addr) (ns : List Int), vs = [V.ref a] ∧ SqL K H a (ns.map V.int) ∧ 0 < ns.length ∧ ∀ m, m ∈ ns → (∀ y, y ∈ ns → y ≤ m) → Q (.int m) H
theorem cr_max (hc : X.calm = true) : CallR X (.builtin "max") (rMax X.K) := by
  intro pins s σ H vs us Q I r h
  obtain ⟨a, ns, rfl, hs, hne, q⟩ := h
  obtain ⟨its, rv, hl, _⟩ := I.list hs
  rw [Vals.ref1 r]
  exact max_raw (I.ok.hd hc) hl.isList rv.ints hne fun h' tk m t' hk h1 h2 => ⟨.int _, H, I.kept hk, ⟨_, rfl⟩, q m h1 h2⟩
end

section
variable {X : Cx}
def rIndex (K : PySem.W.Frag) : V → List V → Hp → VK → Prop := fun x xs H Q => ∃ (a : Addr) (ys : List V) (y : V) (j : Nat) (z : V), x = V.ref a ∧ xs = [y] ∧ SqL K H a ys ∧ flatV y = true ∧ ys.all flatV = true ∧ ys[j]? = some z ∧ eqV z y = true ∧
  (∀ (m : Nat) (z' : V), m < j → ys[m]? = some z' → eqV z' y = false) ∧ Q (.int (j : Nat)) H
theorem flat_at {ys : List V} (f : ys.all flatV = true) {j : Nat} {z : V} (h : ys[j]? = some z) : flatV z = true := List.all_eq_true.mp f z (List.mem_of_getElem? h)
theorem mt_index : MtR X "list.index" (rIndex X.K) := by
  intro pins s σ H x xs v us Q I rx rxs h
  obtain ⟨a, ys, y, j, z, rfl, rfl, hs, fy, fys, hz, hzj, hno, q⟩ := h
  cases rx
  cases rxs with
  | cons ry rt =>
    rename_i uy ut
    cases rt
    obtain ⟨its, rv, ⟨⟨cls, dd, data, sl⟩, n, ho, hc, hdn, hd⟩, hlen⟩ := I.list hs
    simp only at hc hd
    subst hc hd
    obtain ⟨u, hu, ru⟩ := rv.get hz
    obtain ⟨hjl, hje⟩ := List.getElem?_eq_some_iff.mp hu
    have hvl := rv.length
    have hj : j < its.toArray.size := by simpa using hjl
    have hsl := sizeLine_eq
    refine call_meets PySem.F.slot_list_index ⟨_, ho, rfl⟩ PySem.F.entry_list_index (PySem.F.args_list_index_2 _ _)
      (SeqAt.list_indexAt a its.toArray n dd sl uy (eqU y) j hj (by omega) ?_ ?_) ⟨ho, fun u' hu' => mem_eqAt ry fy rv fys u' (by simpa using hu'), ?_⟩
    · have e1 : its.toArray[j] = u := by simpa using hje
      rw [e1, eqU_of ru (flat_at fys hz)]
      exact hzj
    · intro m hm hmj
      have hml : m < its.length := by simpa using hm
      have hmy : m < ys.length := by omega
      have hy' : ys[m]? = some ys[m] := List.getElem?_eq_getElem hmy
      obtain ⟨u2, hu2, ru2⟩ := rv.get hy'
      obtain ⟨_, hme⟩ := List.getElem?_eq_some_iff.mp hu2
      have e1 : its.toArray[m] = u2 := by simpa using hme
      rw [e1, eqU_of ru2 (flat_at fys hy')]
      exact hno m _ hmj hy'
    · exact ⟨.int (j : Nat), H, I.tok _, ⟨_, rfl⟩, q⟩
end

section
variable {X : Cx}
end

section
variable {X : Cx}
end

mutual
inductive Dp (K : PySem.W.Frag) (H : Hp) : V → PyData → Prop
  | non : Dp K H .non .none
  | bl (b : Bool) : Dp K H (.bl b) (.bool b)
  | int (i : Int) : Dp K H (.int i) (.int i)
  | str (x : Str) : Dp K H (.str x) (.str x)
  | lst {a : Addr} {xs : List V} {ds : List PyData} : SqL K H a xs → DpAll K H xs ds → Dp K H (.ref a) (.list ds)
  | tup {a : Addr} {xs : List V} {ds : List PyData} : SqT K H a xs → DpAll K H xs ds → Dp K H (.ref a) (.tuple ds)
inductive DpAll (K : PySem.W.Frag) (H : Hp) : List V → List PyData → Prop
  | nil : DpAll K H [] []
  | cons {v : V} {vs : List V} {d : PyData} {ds : List PyData} : Dp K H v d → DpAll K H vs ds → DpAll K H (v :: vs) (d :: ds)
end
section
variable {X : Cx} {pins : List (Addr × Obj)} {σ : St} {H : Hp} {s : Shared}
mutual
theorem Dp.reads (I : Inv X pins σ H s) : ∀ (d : PyData) (v : V) (u : Value), Dp X.K H v d → RelV v u → ∃ as, Reads s.heap u d as
  | .none, _, _, h, r => by
    cases h
    cases r
    exact ⟨_, Reads.none⟩
  | .bool b, _, _, h, r => by
    cases h
    cases r
    exact ⟨_, Reads.bool b⟩
  | .int i, _, _, h, r => by
    cases h
    obtain ⟨t, rfl⟩ := r
    exact ⟨_, Reads.int i t⟩
  | .str x, _, _, h, r => by
    cases h
    obtain ⟨t, rfl⟩ := r
    exact ⟨_, Reads.str x t⟩
  | .list ds, _, _, h, r => by
    cases h with
    | lst hs ha =>
      cases r
      obtain ⟨its, rv, ⟨o, n, ho, hc, _, hd⟩, _⟩ := I.list hs
      obtain ⟨as, hr⟩ := Dp.readsAll I ds _ its ha rv
      exact ⟨_, Reads.list ho hc hd hr⟩
  | .tuple ds, _, _, h, r => by
    cases h with
    | tup hs ha =>
      cases r
      obtain ⟨its, rv, ⟨o, ho, hc, n, hd⟩, _⟩ := I.tuple hs
      obtain ⟨as, hr⟩ := Dp.readsAll I ds _ its ha rv
      exact ⟨_, Reads.tuple ho hc hd hr⟩
  | .dict _, _, _, h, _ => by cases h
theorem Dp.readsAll (I : Inv X pins σ H s) : ∀ (ds : List PyData) (vs : List V) (us : List Value), DpAll X.K H vs ds → Vals vs us → ∃ as, ReadsAll s.heap us ds as
  | [], _, _, h, r => by
    cases h
    cases r
    exact ⟨_, ReadsAll.nil⟩
  | d :: ds, _, _, h, r => by
    cases h with
    | cons h1 h2 =>
      cases r with
      | cons r1 r2 =>
        obtain ⟨as, q1⟩ := Dp.reads I d _ _ h1 r1
        obtain ⟨bs, q2⟩ := Dp.readsAll I ds _ _ h2 r2
        exact ⟨_, ReadsAll.cons q1 q2⟩
end
end
section
variable {X : Cx}
end
end L2

namespace L2
open PySem PySem.Spec PyProof.Rows
abbrev CellAt (h : Heap) (c : Addr) (v : Option Value) : Prop := h.IsCell c v
def relS (scope sc : Scope) : Scope :=
  { scope with names := scope.names.map fun (n, k) => if (k == .free && sc.kind == .function && sc.names.lookup n == some .cell) then (n, .cell) else (n, k) }

def cloFrom (cells : List (Str × Addr)) : List (Str × NameKind) → List (Str × Addr) → List (Str × Addr)
  | [], acc => acc
  | (n, k) :: r, acc => if k == .free then cloFrom cells r ((n, (cells.lookup n).getD 0) :: acc) else cloFrom cells r acc

theorem closure_loop (env : Env) (f : Str × NameKind → List (Str × Addr) → Sem (ForInStep (List (Str × Addr))))
    (hf : ∀ n k c, f (n, k) c = if k == .free then (do let a ← cellOf env n; pure (.yield ((n, a) :: c))) else pure (.yield c)) :
    ∀ (names : List (Str × NameKind)) (acc : List (Str × Addr)), (∀ y ∈ names, y.2 = .free → ∃ c, env.cells.lookup y.1 = some c) → forIn names acc f = pure (cloFrom env.cells names acc)
  | [], acc, _ => by rw [List.forIn_nil]; rfl
  | (n, k) :: r, acc, h => by
    rw [List.forIn_cons, hf]
    have ih := fun acc => closure_loop env f hf r acc fun y hy => h y (List.mem_cons_of_mem _ hy)
    unfold cloFrom
    by_cases hk : (k == NameKind.free) = true
    · rw [if_pos hk, if_pos hk]
      obtain ⟨c, hc⟩ := h (n, k) List.mem_cons_self (by simpa using hk)
      have e : cellOf env n = pure c := by unfold cellOf; rw [hc]
      rw [e]
      have e2 : (env.cells.lookup n).getD 0 = c := by rw [hc]; rfl
      rw [e2]
      exact ih _
    · rw [if_neg hk, if_neg hk]
      exact ih _
theorem closure_ok {scope : Scope} {env : Env} (h : ∀ y ∈ scope.names, y.2 = .free → ∃ c, env.cells.lookup y.1 = some c) : closureFor scope env = pure (cloFrom env.cells scope.names []) := by
  simp only [closureFor]
  rw [closure_loop env _ (fun n k c => rfl) scope.names [] h]
  rfl

theorem mem_lookup {α : Type} : ∀ {l : List (Str × α)} {n : Str} {c : α}, (n, c) ∈ l → ∃ c', l.lookup n = some c'
  | (k, v) :: r, n, c, h => by
    rw [List.lookup_cons]
    cases hb : n == k with
    | true => exact ⟨_, rfl⟩
    | false =>
      rcases List.mem_cons.mp h with e | h
      · cases e; simp at hb
      · exact mem_lookup h

theorem cloFrom_mem {cells : List (Str × Addr)} : ∀ {names : List (Str × NameKind)} {acc : List (Str × Addr)} {n : Str} {c : Addr}, (n, c) ∈ cloFrom cells names acc → (n, c) ∈ acc ∨ ((n, .free) ∈ names ∧ c = (cells.lookup n).getD 0)
  | [], _, _, _, h => .inl h
  | (m, k) :: r, acc, n, c, h => by
    unfold cloFrom at h
    split at h
    · rename_i hk
      have hk : k = .free := by simpa using hk
      rcases cloFrom_mem h with h | ⟨h1, h2⟩
      · rcases List.mem_cons.mp h with e | h
        · cases e; exact .inr ⟨hk ▸ List.mem_cons_self, rfl⟩
        · exact .inl h
      · exact .inr ⟨List.mem_cons_of_mem _ h1, h2⟩
    · rcases cloFrom_mem h with h | ⟨h1, h2⟩
      · exact .inl h
      · exact .inr ⟨List.mem_cons_of_mem _ h1, h2⟩
theorem cloFrom_acc {cells : List (Str × Addr)} : ∀ {names : List (Str × NameKind)} {acc : List (Str × Addr)} {p : Str × Addr}, p ∈ acc → p ∈ cloFrom cells names acc
  | [], _, _, h => h
  | (m, k) :: r, acc, p, h => by
    unfold cloFrom
    split
    · exact cloFrom_acc (List.mem_cons_of_mem _ h)
    · exact cloFrom_acc h
theorem cloFrom_has {cells : List (Str × Addr)} : ∀ {names : List (Str × NameKind)} {acc : List (Str × Addr)} {n : Str}, (n, .free) ∈ names → (n, (cells.lookup n).getD 0) ∈ cloFrom cells names acc
  | (m, k) :: r, acc, n, h => by
    unfold cloFrom
    rcases List.mem_cons.mp h with e | h
    · cases e
      exact cloFrom_acc List.mem_cons_self
    · split
      · exact cloFrom_has h
      · exact cloFrom_has h

theorem cells_mem : ∀ {names : List (Str × NameKind)} {h : Heap} {acc : List (Str × Addr)} {x : Str} {c : Addr}, (x, c) ∈ cellsFrom h.objs.size names acc →
    (x, c) ∈ acc ∨ ((x, .cell) ∈ names ∧ h.objs.size ≤ c ∧ CellAt (pushCells h names) c none)
  | [], _, _, _, _, h => .inl h
  | (n, k) :: r, h, acc, x, c, hm => by
    unfold cellsFrom at hm
    unfold pushCells
    split at hm
    · rename_i hk
      rw [if_pos hk]
      have hk : k = .cell := by simpa using hk
      rw [← Heap.size_push h { cls := .type "cell", data := .cell none }] at hm
      rcases cells_mem hm with hm | ⟨h1, h2, h3⟩
      · rcases List.mem_cons.mp hm with e | hm
        · cases e
          exact .inr ⟨hk ▸ List.mem_cons_self, Nat.le_refl _, _, pushCells_keeps r _ _ _ (Heap.get?_push_size _ rfl), rfl⟩
        · exact .inl hm
      · rw [Heap.size_push] at h2
        exact .inr ⟨List.mem_cons_of_mem _ h1, Nat.le_of_succ_le h2, h3⟩
    · rename_i hk
      rw [if_neg hk]
      rcases cells_mem hm with hm | ⟨h1, h2, h3⟩
      · exact .inl hm
      · exact .inr ⟨List.mem_cons_of_mem _ h1, h2, h3⟩
theorem cells_acc : ∀ {names : List (Str × NameKind)} {n : Nat} {acc : List (Str × Addr)} {p : Str × Addr}, p ∈ acc → p ∈ cellsFrom n names acc
  | [], _, _, _, h => h
  | (m, k) :: r, n, acc, p, h => by
    unfold cellsFrom
    split
    · exact cells_acc (List.mem_cons_of_mem _ h)
    · exact cells_acc h
theorem cells_has : ∀ {names : List (Str × NameKind)} {n : Nat} {acc : List (Str × Addr)} {x : Str}, (x, .cell) ∈ names → ∃ c, (x, c) ∈ cellsFrom n names acc
  | (m, k) :: r, n, acc, x, h => by
    unfold cellsFrom
    rcases List.mem_cons.mp h with e | h
    · cases e
      exact ⟨n, cells_acc List.mem_cons_self⟩
    · split
      · exact cells_has h
      · exact cells_has h
theorem cells_inj : ∀ {names : List (Str × NameKind)} {h : Heap} {acc : List (Str × Addr)} {x y : Str} {c : Addr}, (∀ p ∈ acc, p.2 < h.objs.size) → (∀ x y c, (x, c) ∈ acc → (y, c) ∈ acc → x = y) →
    (x, c) ∈ cellsFrom h.objs.size names acc → (y, c) ∈ cellsFrom h.objs.size names acc → x = y
  | [], _, _, _, _, _, _, hi, h1, h2 => hi _ _ _ h1 h2
  | (n, k) :: r, h, acc, x, y, c, hl, hi, h1, h2 => by
    unfold cellsFrom at h1 h2
    split at h1
    · rename_i hk
      rw [if_pos hk] at h2
      rw [← Heap.size_push h { cls := .type "cell", data := .cell none }] at h1 h2
      refine cells_inj (h := h.push _) (fun p hp => ?_) (fun x y c a b => ?_) h1 h2
      · rw [Heap.size_push]
        rcases List.mem_cons.mp hp with rfl | hp
        · exact Nat.lt_succ_self _
        · exact Nat.lt_succ_of_lt (hl p hp)
      · rcases List.mem_cons.mp a with e | a <;> rcases List.mem_cons.mp b with e' | b
        · cases e; cases e'; rfl
        · cases e; exact absurd (hl _ b) (Nat.lt_irrefl _)
        · cases e'; exact absurd (hl _ a) (Nat.lt_irrefl _)
        · exact hi _ _ _ a b
    · rename_i hk
      rw [if_neg hk] at h2
      exact cells_inj hl hi h1 h2

theorem newEnv_comp {M : Model} {A : Around} {E : Value → Shared → Prop} {s : Shared} {scope : Scope} {globals : Addr} {closure : List (Str × Addr)} {qual : Str} {func : Option Addr} {code : Value} {around : Env} {builtins : Addr} {Q : Env → Shared → Prop}
    (h : Q (newEnv scope s.heap.objs.size globals (cellsFrom (s.heap.objs.size + 1) scope.names closure) qual func code (some around) builtins)
      { s with heap := pushCells (s.heap.push { cls := .type "dict", data := .dict #[] }) scope.names }) :
    wpAny M A (newFunctionEnv scope globals closure [] qual func code (some around) builtins) Q E s := by
  simp only [newFunctionEnv, Option.isSome_some, if_true]
  refine wpAny_bind (wpAny_alloc ?_)
  refine wpAny_bind (wpAny_layCells _ (fun n k c => rfl) scope.names closure _ _ ?_)
  rw [show ({ s with heap := s.heap.push { cls := .type "dict", data := .dict #[] } } : Shared).heap.objs.size = s.heap.objs.size + 1 from Heap.size_push ..]
  rw [List.forIn_nil]
  exact wpAny_bind (wpAny_pure (wpAny_pure h))

theorem lookup_relS {sc : Scope} : ∀ {names : List (Str × NameKind)} {x : Str} {k : NameKind},
    (names.map fun (n, k) => if (k == NameKind.free && sc.kind == .function && sc.names.lookup n == some .cell) then (n, NameKind.cell) else (n, k)).lookup x = some k →
    ∃ k', names.lookup x = some k' ∧ (k = k' ∨ (k' = .free ∧ k = .cell))
  | [], _, _, h => by simp at h
  | (n, k₀) :: r, x, k, h => by
    have ih := @lookup_relS sc r x k
    have h' : List.lookup x ((if (k₀ == NameKind.free && sc.kind == .function && sc.names.lookup n == some .cell) = true then (n, NameKind.cell) else (n, k₀)) :: (r.map _)) = some k := h
    cases hx : x == n with
    | true =>
      simp only [List.lookup_cons, hx]
      by_cases hc : (k₀ == NameKind.free && sc.kind == .function && sc.names.lookup n == some .cell) = true
      · rw [if_pos hc] at h'
        simp only [List.lookup_cons, hx] at h'
        cases h'
        simp only [Bool.and_eq_true, beq_iff_eq] at hc
        exact ⟨k₀, rfl, .inr ⟨hc.1.1, rfl⟩⟩
      · rw [if_neg hc] at h'
        simp only [List.lookup_cons, hx] at h'
        cases h'
        exact ⟨_, rfl, .inl rfl⟩
    | false =>
      simp only [List.lookup_cons, hx]
      by_cases hc : (k₀ == NameKind.free && sc.kind == .function && sc.names.lookup n == some .cell) = true
      · rw [if_pos hc] at h'
        simp only [List.lookup_cons, hx] at h'
        exact ih h'
      · rw [if_neg hc] at h'
        simp only [List.lookup_cons, hx] at h'
        exact ih h'
structure BlkOk (N : List Str) (sc scope : Scope) (own : List (Str × Nat)) : Prop where
  kind : scope.kind = .function
  uniq : ∀ y ∈ scope.names, scope.names.lookup y.1 = some y.2
  ix : ∀ p ∈ own, N[p.2]? = some p.1
  free : ∀ y ∈ scope.names, y.2 = .free → sc.names.lookup y.1 = some .cell ∨ sc.names.lookup y.1 = some .free
  own : ∀ y ∈ scope.names, y.2 = .local ∨ y.2 = .cell → y.1 ∈ own.map (·.1) ∨ y.1 ∉ N
def wipe (σ : St) : List Nat → St
  | [] => σ
  | v :: vs => (wipe σ vs).set v none
theorem wipe_length (σ : St) : ∀ vs : List Nat, (wipe σ vs).length = σ.length
  | [] => rfl
  | v :: vs => by unfold wipe; rw [List.length_set, wipe_length σ vs]
theorem wipe_some {σ : St} {i : Nat} {x : V} : ∀ {vs : List Nat}, (wipe σ vs)[i]? = some (some x) → σ[i]? = some (some x) ∧ i ∉ vs
  | [], h => ⟨h, by simp⟩
  | v :: vs, h => by
    unfold wipe at h
    by_cases hi : v = i
    · subst hi
      by_cases hv : v < (wipe σ vs).length
      · rw [List.getElem?_set_self hv] at h; cases h
      · rw [List.getElem?_eq_none (by simpa using hv)] at h; cases h
    · rw [List.getElem?_set_ne hi] at h
      obtain ⟨h1, h2⟩ := wipe_some h
      exact ⟨h1, by simp only [List.mem_cons, not_or]; exact ⟨fun e => hi e.symm, h2⟩⟩

abbrev Cx.blk (X : Cx) (s : Shared) (H : Hp) (scope : Scope) (cenv : Env) (fp : List Addr) : Cx := { X with s_0 := s, H_0 := H, env := cenv, outer := X.stack, ex := fp, fn := fun x => scope.names.lookup x == some .cell, pn := [], xe := fun _ _ => False }
section
variable {X : Cx} {pins : List (Addr × Obj)} {σ : St} {H : Hp} {s : Shared}
theorem block_start {scope : Scope} {own : List (Str × Nat)} {fp : List Addr} (I : Inv X pins σ H s) (ok : BlkOk X.N X.env.scope scope own) (hN : X.N.Nodup) (hfp : ∀ b ∈ fp, FpOk X pins H b ∧ b < s.heap.objs.size) :
    Inv (X.blk s H scope (compEnvC scope (cellsFrom (s.heap.objs.size + 1) scope.names (cloFrom X.env.cells scope.names [])) s.heap.objs.size X.env) fp) [] (wipe σ (own.map (·.2))) H { s with heap := pushCells (s.heap.push { cls := .type "dict", data := .dict #[] }) scope.names } := by
  have hfree : ∀ y ∈ scope.names, y.2 = .free → ∃ c, X.env.cells.lookup y.1 = some c := fun y hy e => by
    rcases ok.free y hy e with k | k
    · exact I.ok.has _ (.inl k)
    · exact I.ok.has _ (.inr k)
  generalize hcenv : compEnvC scope (cellsFrom (s.heap.objs.size + 1) scope.names (cloFrom X.env.cells scope.names [])) s.heap.objs.size X.env = cenv
  have kp : ∀ b o, s.heap.get? b = some o → (pushCells (s.heap.push { cls := .type "dict", data := .dict #[] }) scope.names).get? b = some o := fun b o e => pushCells_keeps _ _ _ _ (Heap.get?_push_of_some _ e)
  have hL : cenv.locals = s.heap.objs.size := by rw [← hcenv]; rfl
  have hcl : cenv.cells = cellsFrom (s.heap.objs.size + 1) scope.names (cloFrom X.env.cells scope.names []) := by rw [← hcenv]; rfl
  have hsc : cenv.scope = relS scope X.env.scope := by rw [← hcenv]; rfl
  rw [← Heap.size_push s.heap { cls := .type "dict", data := .dict #[] }] at hcl
  have cm : ∀ {y c}, (y, c) ∈ cloFrom X.env.cells scope.names [] → X.env.cells.lookup y = some c ∧ c < s.heap.objs.size := fun {y c} hm => by
    rcases cloFrom_mem hm with hm | ⟨h1, rfl⟩
    · cases hm
    · obtain ⟨c, hc⟩ := hfree _ h1 rfl
      rw [hc]
      obtain ⟨w, z⟩ := I.cell _ _ hc
      exact ⟨rfl, z.lt⟩
  have mem : ∀ {y c}, cenv.cells.lookup y = some c → (X.env.cells.lookup y = some c ∧ c < s.heap.objs.size) ∨ (s.heap.objs.size + 1 ≤ c ∧ CellAt (pushCells (s.heap.push { cls := .type "dict", data := .dict #[] }) scope.names) c none) := fun {y c} e => by
    rw [hcl] at e
    rcases cells_mem (PySem.mem_of_lookup e) with hm | ⟨_, h2, h3⟩
    · exact .inl (cm hm)
    · rw [Heap.size_push] at h2; exact .inr ⟨h2, h3⟩
  have look : ∀ {y}, scope.names.lookup y = some .free → ∃ c, cenv.cells.lookup y = some c ∧ X.env.cells.lookup y = some c := fun {y} hl => by
    have hy : (y, NameKind.free) ∈ scope.names := PySem.mem_of_lookup hl
    obtain ⟨c', e'⟩ := mem_lookup (cells_acc (names := scope.names) (n := (s.heap.push { cls := .type "dict", data := .dict #[] }).objs.size) (cloFrom_has (cells := X.env.cells) (acc := []) hy))
    rw [← hcl] at e'
    refine ⟨c', e', ?_⟩
    rw [hcl] at e'
    rcases cells_mem (PySem.mem_of_lookup e') with hm | ⟨h1, _, _⟩
    · exact (cm hm).1
    · have := ok.uniq _ h1
      rw [hl] at this; cases this
  have okB : (X.blk s H scope cenv fp).Ok := by
    refine ⟨I.ok.mod, by show cenv.scope.kind = _; rw [hsc]; exact ok.kind, by show cenv.globals = _; rw [← hcenv]; exact I.ok.glob, by show cenv.builtins = _; rw [← hcenv]; exact I.ok.blt, by show s.heap.objs.size ≤ cenv.locals; rw [hL]; exact Nat.le_refl _,
      fun y z c e1 e2 => ?_, fun y hy => ?_, fun y c z e => ?_, I.ok.hd, I.ok.frames, .inl rfl, fun b hb => ⟨?_, fun y c e z => ?_⟩, I.bs, Nat.le_trans I.ok.bsz I.sz, fun b o e hb => ?_, fun b hb z => ?_, I.stack, I.stkFree⟩
    · have e1 : cenv.cells.lookup y = some c := e1
      have e2 : cenv.cells.lookup z = some c := e2
      rw [hcl] at e1 e2
      refine cells_inj (fun p hp => ?_) (fun y z c a b => I.ok.inj y z c (cm a).1 (cm b).1) (PySem.mem_of_lookup e1) (PySem.mem_of_lookup e2)
      rw [Heap.size_push]
      exact Nat.lt_succ_of_lt (cm (y := p.1) (c := p.2) hp).2
    · show ∃ c, cenv.cells.lookup y = some c
      have key : ∀ k, cenv.kindOf y = some k → (k = .cell ∨ k = .free) → ∃ c, cenv.cells.lookup y = some c := fun k hk hk' => by
        unfold Env.kindOf at hk
        rw [hsc] at hk
        obtain ⟨k', e, r⟩ := lookup_relS hk
        have : k' = .cell ∨ k' = .free := by
          rcases r with rfl | ⟨rfl, _⟩
          · exact hk'
          · exact .inr rfl
        rcases this with rfl | rfl
        · obtain ⟨c, hm⟩ := cells_has (n := (s.heap.push { cls := .type "dict", data := .dict #[] }).objs.size) (acc := cloFrom X.env.cells scope.names []) (PySem.mem_of_lookup e)
          obtain ⟨c', e'⟩ := mem_lookup hm
          exact ⟨c', by rw [hcl]; exact e'⟩
        · obtain ⟨c, h1, _⟩ := look e
          exact ⟨c, h1⟩
      rcases hy with hy | hy
      · exact key _ hy (.inl rfl)
      · exact key _ hy (.inr rfl)
    · have z : (scope.names.lookup y == some NameKind.cell) = true := z
      have z : scope.names.lookup y = some .cell := by simpa using z
      have e : cenv.cells.lookup y = some c := e
      rw [hcl] at e
      rcases cells_mem (PySem.mem_of_lookup e) with hm | ⟨_, h2, _⟩
      · rcases cloFrom_mem hm with hm | ⟨h1, _⟩
        · cases hm
        · have q := ok.uniq _ h1
          rw [z] at q; cases q
      · rw [Heap.size_push] at h2
        exact Nat.le_of_succ_le h2
    · show b ≠ cenv.locals
      rw [hL]; exact Nat.ne_of_lt (hfp b hb).2
    · have e : cenv.cells.lookup y = some c := e
      rcases mem e with ⟨h1, _⟩ | ⟨h1, _⟩
      · exact (hfp b hb).1.2.2.2.2.1 y c h1 z
      · have h2 : s.heap.objs.size + 1 ≤ b := by rw [← z]; exact h1
        exact absurd (Nat.lt_of_lt_of_le (hfp b hb).2 (Nat.le_of_succ_le h2)) (Nat.lt_irrefl _)
    · rcases (hfp b hb).1.2.2.2.1 with z | z
      · exact I.ok.noex b o e z
      · exact absurd (Nat.lt_of_lt_of_le (Heap.lt_size e) (Nat.le_trans I.ok.bsz z)) (Nat.lt_irrefl _)
    · rcases List.mem_cons.mp (I.stkSub b z) with z | z
      · exact (hfp b hb).1.2.1 z
      · exact (hfp b hb).1.2.2.1 z
  refine ⟨okB, rfl, I.bare, Un.kept kp, ⟨fun _ => none, ?_, fun i y av e1 e2 e3 => ?_⟩, fun y c e => ?_, ?_, fun y c e => ?_, fun p hp => ?_, I.hok.kept kp, by rw [wipe_length]; exact I.len⟩
  · show Heap.Ns _ cenv.locals _
    rw [hL]
    exact Heap.Ns.keeps (Heap.Ns.new ..) fun b o e => pushCells_keeps _ _ _ _ e
  · obtain ⟨e2, hne⟩ := wipe_some e2
    have hfr : scope.names.lookup y = some .free ∧ (cenv.kindOf y = some .cell ∨ cenv.kindOf y = some .free) := by
      have key : ∀ k, cenv.scope.names.lookup y = some k → k = .local ∨ k = .cell ∨ k = .free → scope.names.lookup y = some .free ∧ (cenv.kindOf y = some .cell ∨ cenv.kindOf y = some .free) := fun k hk hk' => by
        have hk0 := hk
        rw [hsc] at hk
        obtain ⟨k', e, r⟩ := lookup_relS hk
        have no : ¬ (k' = .local ∨ k' = .cell) := fun hh => by
          rcases ok.own _ (PySem.mem_of_lookup e) hh with e' | e'
          · obtain ⟨p, hp, hpy⟩ := List.mem_map.mp e'
            have e3 := ok.ix p hp
            have : p.1 = y := hpy
            rw [this] at e3
            exact hne (List.mem_map.mpr ⟨p, hp, nodup_ix hN e3 e1⟩)
          · exact e' (List.mem_of_getElem? e1)
        rcases r with rfl | ⟨rfl, rfl⟩
        · rcases hk' with rfl | rfl | rfl
          · exact absurd (.inl rfl) no
          · exact absurd (.inr rfl) no
          · exact ⟨e, .inr hk0⟩
        · exact ⟨e, .inl hk0⟩
      have e3 : Vis cenv.scope y := e3
      rcases e3 with e3 | e3 | e3
      · exact key _ e3 (.inl rfl)
      · exact key _ e3 (.inr (.inl rfl))
      · exact key _ e3 (.inr (.inr rfl))
    obtain ⟨m, hn, hl⟩ := I.loc
    have hvis : Vis X.env.scope y := (ok.free _ (PySem.mem_of_lookup hfr.1) rfl).elim (fun k => .inr (.inl k)) (fun k => .inr (.inr k))
    obtain ⟨w, r, q⟩ := hl i y av e1 e2 hvis
    refine ⟨w, r, .inr ⟨hfr.2, ?_⟩⟩
    obtain ⟨c, h1, h2⟩ := look hfr.1
    rcases q with ⟨k, _⟩ | ⟨_, c', e', z⟩
    · have k : X.env.scope.names.lookup y = some .local := k
      rcases ok.free _ (PySem.mem_of_lookup hfr.1) rfl with k' | k' <;> rw [show X.env.scope.names.lookup y = _ from k'] at k <;> cases k
    · rw [h2] at e'; cases e'
      exact ⟨c, h1, z.keeps kp⟩
  · have e : cenv.cells.lookup y = some c := e
    rcases mem e with ⟨h1, _⟩ | ⟨_, z⟩
    · obtain ⟨w, z⟩ := I.cell y c h1
      exact ⟨w, z.keeps kp⟩
    · exact ⟨_, z⟩
  · show H cenv.locals = none
    rw [hL]; exact I.hok.fresh (Nat.le_refl _)
  · have e : cenv.cells.lookup y = some c := e
    rcases mem e with ⟨h1, _⟩ | ⟨h1, _⟩
    · exact I.freeC y c h1
    · exact I.hok.fresh (Nat.le_of_succ_le h1)
  · exact absurd (show p ∈ ([] : List (Addr × Obj)) ++ [] from hp) (by simp)

theorem app_ok {E : Value → Shared → Prop} {D : Addr} {xs : List V} {y : V} {v : Value} {Q : Value → Shared → Prop} (I : Inv X pins σ H s) (hD : H D = some (.lst xs)) (hz : xs.length < sizeLine) (r : RelV y v)
    (h : ∀ s', Inv X pins σ (upd H D (.lst (xs ++ [y]))) s' → Q .none s') : wpAny (model X.prog X.w) X.A (call (.builtin "list.append") [.ref D, v]) Q E s := by
  obtain ⟨hz', its, n, ri, e⟩ := I.hok D _ hD
  have hl := ri.length
  refine append_at (hsz := by rw [List.size_toArray]; omega) e fun h' sb ho' => ?_
  refine h { s with heap := h' } (I.write (t' := s.toks) (by rw [hD]; trivial) (.inl rfl) (fun b u hb q => (sb.2 b hb).trans q) ⟨_, ho'⟩ ⟨by rw [List.length_append]; exact hz, its ++ [v], n + 1, ri.append (.cons r .nil), ?_⟩)
  rw [ho']
  simp

def PTs (X : Cx) (ifs : List Expr) (t : TT) : Prop :=
  ∀ (pins : List (Addr × Obj)) (s : Shared) (σ : St) (H : Hp) (Q : Bool → Hp → Prop), Inv X pins σ H s → t σ H Q →
    wpAny (model X.prog X.w) X.A (forIn ifs true fun c r => if r = true then do let ok ← isTrue c X.env (eval c X.env); pure (ForInStep.yield ok) else pure (ForInStep.yield r)) (TP X pins σ Q) X.xe s
def tYes : TT := fun _ H Q => Q true H
theorem pts_nil : PTs X [] tYes := fun _ _ _ H _ I h => wpAny_tests_nil ⟨H, I, h⟩
theorem pts_one {c : Expr} {t : TT} (h : PT X c t) : PTs X [c] t := fun pins s σ H Q I hw => wpAny_tests_one (h pins s σ H Q I hw)
end

theorem thnF {α : Type} {t : Sem α} {Q Q' : α → Shared → Prop} {M : Model} {A : Around} {E : Value → Shared → Prop} {s : Shared} (h : wpAny M A t Q (fun _ _ => False) s) (hQ : ∀ a s, Q a s → Q' a s) : wpAny M A t Q' E s := wpAny_mono h hQ fun _ _ z => False.elim z

theorem compLoop_any {prog : Program} {w : World} {A : Around} {R : Result → Shared → Prop} {s : Shared} {elt target iter : Expr} {ifs : List Expr} {scope : Scope} {pos : Pos} {it acc : Value} {env : Env} (I : Nat → Shared → Prop)
    (turn : ∀ n s, I n s → wpAny (model prog w) A (pyNext it) (fun r s₁ => match r with
      | none => R (.ok .next) s₁
      | some v => wpAny (model prog w) A (letOwnedTupleGo target it v) (fun _ s₁' => wpAny (model prog w) A (assign target env v) (fun _ s₂ =>
          wpAny (model prog w) A (forIn ifs true fun c r => if r = true then do let ok ← isTrue c env (eval c env); pure (ForInStep.yield ok) else pure (ForInStep.yield r)) (fun ok s₃ =>
            if ok = true then wpAny (model prog w) A (eval elt env) (fun x s₄ =>
              wpAny (model prog w) A (call (.builtin "list.append") [acc, x]) (fun _ s₅ => ∃ m, m < n ∧ I m s₅) (notedBy (model prog w) A env fun e s' => R (.error e) s') s₄) (notedBy (model prog w) A env fun e s' => R (.error e) s') s₃
            else ∃ m, m < n ∧ I m s₃) (notedBy (model prog w) A env fun e s' => R (.error e) s') s₂) (notedBy (model prog w) A env fun e s' => R (.error e) s') s₁') (notedBy (model prog w) A env fun e s' => R (.error e) s') s₁) (notedBy (model prog w) A env fun e s' => R (.error e) s') s)
    (n : Nat) (h : I n s) :
    codeAny (model prog w) A (.compLoop (.ListComp elt [⟨target, iter, ifs, 0⟩] scope pos) 0 it acc env) R s := by
  refine codeAny_loop rfl I (fun n s hI => ?_) n h
  show wpAny _ A ((compTurn (.ListComp elt [⟨target, iter, ifs, 0⟩] scope pos) 0 it acc env).onRaise (fun x => do noteFrame x env; theTreesLotGoes x)) _ _ s
  refine wpAny_noted ?_
  rw [compTurn_list]
  refine wpAny_bind (wpAny_standAt (wpAny_bind (wpAny_mono (turn n s hI) (fun r s₁ h₁ => ?_) fun _ _ h' => h')))
  cases r with
  | none => exact wpAny_pure h₁
  | some v =>
    refine wpAny_bind (wpAny_mono h₁ (fun _ s₁' h₁' => ?_) fun _ _ h' => h')
    refine wpAny_bind (wpAny_mono h₁' (fun _ s₂ h₂ => wpAny_bind (wpAny_mono h₂ (fun ok s₃ h₃ => ?_) fun _ _ h' => h')) fun _ _ h' => h')
    cases ok with
    | false => exact wpAny_pure ⟨rfl, h₃⟩
    | true =>
      exact wpAny_bind (wpAny_bind (wpAny_mono h₃ (fun x s₄ h₄ => wpAny_bind (wpAny_mono h₄ (fun _ s₅ h₅ => wpAny_pure (wpAny_pure ⟨rfl, h₅⟩)) fun _ _ h' => h')) fun _ _ h' => h'))

section
variable {X : Cx}
def tLc (wi : TI) (g : TG) (tt : TT) (te : TE) (vs : List Nat) : TE := fun σ H Q => wi σ H fun J H1 => ∀ D, H1 D = none → ∃ W : Nat → Nat → Hp → Prop, (∃ m, W 0 m (upd H1 D (.lst []))) ∧ ∀ i m H, W i m H →
  (J.stop i H ∧ Q (.ref D) H) ∨ (J.go i H ∧ ∃ Nx : Hp → Prop, (∀ H', Nx H' → ∃ m', m' < m ∧ W (i + 1) m' H') ∧ ∀ x H', J.yld i H x H' → g x (wipe σ vs) H' fun σ2 H2 => wipe σ2 vs = wipe σ vs ∧ tt σ2 H2 fun b H3 =>
    if b = true then te σ2 H3 fun y H4 => ∃ acc, H4 D = some (.lst acc) ∧ acc.length < sizeLine ∧ Nx (upd H4 D (.lst (acc ++ [y]))) else Nx H3)
theorem lc_core {pins : List (Addr × Obj)} {s : Shared} {σ : St} {H : Hp} {Q : VK} {elt tg iter : Expr} {ifs : List Expr} {scope : Scope} {own : List (Str × Nat)} {pos pos' : Pos} {wi : TI} {g : TG} {tt : TT} {te : TE} {use : Option (Value → Sem Unit)} {Qf : Value → Shared → Prop}
    (hc : X.calm = true) (hN : X.N.Nodup) (I : Inv X pins σ H s) (hi : PI X tg iter wi) (ok : BlkOk X.N X.env.scope scope own)
    (hg : ∀ (s : Shared) (H : Hp) (C : Addr) (cl : List (Str × Addr)) (fp : List Addr), PG (X.blk s H scope (compEnvC scope cl C X.env) fp) tg g) (ht : ∀ (s : Shared) (H : Hp) (C : Addr) (cl : List (Str × Addr)) (fp : List Addr), PTs (X.blk s H scope (compEnvC scope cl C X.env) fp) ifs tt)
    (he : ∀ (s : Shared) (H : Hp) (C : Addr) (cl : List (Str × Addr)) (fp : List Addr), PE (X.blk s H scope (compEnvC scope cl C X.env) fp) elt te) (hs : ∀ x, foldedSetIterable iter X.env x = pure x)
    (h : tLc wi g tt te (own.map (·.2)) σ H Q)
    (hRR : ∀ D C s' m H', Inv X pins σ H' s' → Q (.ref D) H' → s'.heap.Ns C m → FpOk X pins H' C → compPost (model X.prog X.w) X.A X.xe use Qf (.ref D) C (.ok .next) s') :
    wpAny (model X.prog X.w) X.A (comprehension (.ListComp elt [⟨tg, iter, ifs, 0⟩] scope pos) scope X.env pos' (newList []) false (eval iter X.env) use) Qf X.xe s := by
  have hfree : ∀ y ∈ scope.names, y.2 = .free → ∃ c, X.env.cells.lookup y.1 = some c := fun y hy e => by
    rcases ok.free y hy e with k | k
    · exact I.ok.has _ (.inl k)
    · exact I.ok.has _ (.inr k)
  refine wpAny_comprehension_free (use := use) rfl hs (closure_ok hfree) ok.kind (fun y hy e => by rw [ok.uniq y hy, e])
    (thn (hi pins s σ H _ I h) fun xv s1 hx => thn hx fun itv s2 h2 => ?_)
  obtain ⟨it, fp, tn, J, H2, e, I2, T, st2, f2, q⟩ := h2
  subst e
  refine wpAny_newObj_type (newEnv_comp ?_) (by show 0 ≤ sizeLine; decide)
  generalize hD : s2.heap.objs.size = D
  have hDn : H2 D = none := I2.hok.fresh (Nat.le_of_eq hD)
  obtain ⟨W, ⟨m0, w0⟩, turn⟩ := q D hDn
  -- the new list
  generalize hs3 : ({ s2 with heap := s2.heap.push { cls := .type "list", data := .seq ([] : List Value).toArray } } : Shared) = s3
  have I3 : Inv X pins σ (upd H2 D (.lst [])) s3 := by
    rw [← hs3]
    refine I2.laid (t' := s2.toks) (fun b o e => Heap.get?_push_of_some _ e) (Nat.le_of_eq hD) ⟨Nat.zero_le _, [], 0, .nil, ?_⟩
    rw [← hD]
    exact Heap.get?_push_size _ rfl
  have h3 : s3.heap = s2.heap.push { cls := .type "list", data := .seq ([] : List Value).toArray } := by rw [← hs3]
  have sz : ∀ b ∈ fp, b < s2.heap.objs.size := fun b hb => by
    obtain ⟨o, e, _⟩ := T.obj _ _ st2 b hb
    exact Heap.lt_size e
  have f3 : ∀ b ∈ fp, FpOk X pins (upd H2 D (.lst [])) b ∧ b < s3.heap.objs.size := fun b hb => by
    have hlt := sz b hb
    refine ⟨⟨?_, (f2 b hb).2⟩, by rw [h3, Heap.size_push]; exact Nat.lt_succ_of_lt hlt⟩
    rw [upd_ne (by rw [← hD]; exact Nat.ne_of_lt hlt)]
    exact (f2 b hb).1
  have st3 : tn 0 s3.heap := T.keep _ _ _ st2 fun b _ o e => by rw [h3]; exact Heap.get?_push_of_some _ e
  have I4 := block_start I3 ok hN f3
  have pg := hg s3 (upd H2 D (.lst [])) s3.heap.objs.size (cellsFrom (s3.heap.objs.size + 1) scope.names (cloFrom X.env.cells scope.names [])) fp
  have pt := ht s3 (upd H2 D (.lst [])) s3.heap.objs.size (cellsFrom (s3.heap.objs.size + 1) scope.names (cloFrom X.env.cells scope.names [])) fp
  have pe := he s3 (upd H2 D (.lst [])) s3.heap.objs.size (cellsFrom (s3.heap.objs.size + 1) scope.names (cloFrom X.env.cells scope.names [])) fp
  show codeAny _ _ (.compStart (.ListComp elt [⟨tg, iter, ifs, 0⟩] scope pos) 0 (.ref it) (.ref D) (compEnvC scope (cellsFrom (s3.heap.objs.size + 1) scope.names (cloFrom X.env.cells scope.names [])) s3.heap.objs.size X.env)) (compPost (model X.prog X.w) X.A X.xe use Qf (.ref D) s3.heap.objs.size) { s3 with heap := pushCells (s3.heap.push { cls := .type "dict", data := .dict #[] }) scope.names }
  have nfp : ∀ b ∈ fp, (upd H2 D (.lst [])) b = none := fun b hb => (f3 b hb).1.1
  generalize hce : compEnvC scope (cellsFrom (s3.heap.objs.size + 1) scope.names (cloFrom X.env.cells scope.names [])) s3.heap.objs.size X.env = ce at I4 pg pt pe ⊢
  have cL : ce.locals = s3.heap.objs.size := by subst hce; rfl
  generalize hH3 : upd H2 D (.lst []) = H3 at I3 I4 pg pt pe w0 nfp f3
  generalize hs4 : ({ s3 with heap := pushCells (s3.heap.push { cls := .type "dict", data := .dict #[] }) scope.names } : Shared) = s4 at I4 ⊢
  have st4 : tn 0 s4.heap := T.keep _ _ _ st3 fun b _ o e => by rw [← hs4]; exact pushCells_keeps _ _ _ _ (Heap.get?_push_of_some _ e)
  have stat : ∀ {σ' : St} {H' : Hp} {s' : Shared}, Inv (X.blk s3 H3 scope ce fp) [] σ' H' s' → (∀ b ∈ fp, H' b = none) → ∀ b ∈ fp, FpOk (X.blk s3 H3 scope ce fp) [] H' b := fun {σ' H' s'} I' hn b hb =>
    ⟨hn b hb, (I'.ok.exf b hb).1, I'.ok.exfs b hb, .inl hb, fun x c e => (I'.ok.exf b hb).2 x c e, fun p hp => absurd (show p ∈ ([] : List (Addr × Obj)) ++ [] from hp) (by simp)⟩
  have loop : codeAny (model X.prog X.w) X.A (.compLoop (.ListComp elt [⟨tg, iter, ifs, 0⟩] scope pos) 0 (.ref it) (.ref D) ce) (compPost (model X.prog X.w) X.A X.xe use Qf (.ref D) s3.heap.objs.size) s4 := by
    refine compLoop_any (fun n s' => ∃ i H', Inv (X.blk s3 H3 scope ce fp) [] (wipe σ (own.map (·.2))) H' s' ∧ tn i s'.heap ∧ (∀ b ∈ fp, H' b = none) ∧ W i n H') ?_ m0 ⟨0, H3, I4, st4, nfp, w0⟩
    rintro n s5 ⟨i, H5, I5, st5, n5, w5⟩
    rcases turn i n H5 w5 with ⟨stop, qq⟩ | ⟨go, Nx, hNx, step⟩
    · have td := T.done (X.blk s3 H3 scope ce fp) rfl rfl rfl hc i [] s5 _ H5 (fun _ _ => False) I5 (stat I5 n5) st5 stop
      refine thnF td fun r s6 ⟨hr, I6⟩ => ?_
      subst hr
      -- back in the def's context
      have I7 : Inv X pins σ H5 s6 := I3.call' (ch := fp) I6.os I6.base I6.hok I6.bare fun b hb => ⟨(f3 b hb).1.2.2.2.1, (f3 b hb).1.2.1, (f3 b hb).1.2.2.2.2.1, (f3 b hb).1.2.2.2.2.2⟩
      have nC : H5 s3.heap.objs.size = none := by
        have z : H5 ce.locals = none := I6.free
        rw [cL] at z
        exact z
      obtain ⟨m, hn, _⟩ := I6.loc
      have hn : s6.heap.Ns ce.locals m := hn
      rw [cL] at hn
      exact hRR D s3.heap.objs.size s6 m H5 I7 qq hn (I3.fpOk (Nat.le_refl _) nC)
    · have ti := T.item (X.blk s3 H3 scope ce fp) rfl rfl rfl hc i [] s5 _ H5 (fun _ _ => False) I5 (stat I5 n5) st5 go
      refine thnF ti fun r s6 ⟨u, hr, h6⟩ => ?_
      subst hr
      refine thnF h6 fun _ s7 ⟨x, H7, I7, r7, y7, st7, n7⟩ => ?_
      have I7' := I7.pinned (stat I7 n7) (T.obj _ _ st7)
      refine thnF (pg _ s7 _ H7 x u _ I7' r7 (step x H7 y7)) fun _ s8 ⟨σ8, H8, I8, hw8, q8⟩ => ?_
      refine thnF (pt _ s8 σ8 H8 _ I8 q8) fun b s9 ⟨H9, I9, q9⟩ => ?_
      -- the turn's end
      have fin : ∀ {s' : Shared} {H' : Hp}, Inv (X.blk s3 H3 scope ce fp) ([] ++ pinsAt fp s7.heap) σ8 H' s' → Nx H' → ∃ m, m < n ∧ ∃ i H', Inv (X.blk s3 H3 scope ce fp) [] (wipe σ (own.map (·.2))) H' s' ∧ tn i s'.heap ∧ (∀ b ∈ fp, H' b = none) ∧ W i m H' := fun {s' H'} I' nx => by
        obtain ⟨m', hm, w'⟩ := hNx H' nx
        have pin' : ∀ b ∈ fp, ∀ o, s7.heap.get? b = some o → s'.heap.get? b = some o ∧ H' b = none := fun b hb o e =>
          let z := I'.pin (b, o) (List.mem_append_right _ (List.mem_append_right _ (mem_pinsAt hb e)))
          ⟨z.1, z.2.1⟩
        have hl : (wipe σ (own.map (·.2))).length = σ8.length := by rw [← hw8, wipe_length]
        refine ⟨m', hm, i + 1, H', (I'.unpinned (pins := [])).weak hl (fun j v e => ?_), T.keep _ _ _ st7 fun b hb o e => (pin' b hb o e).1, fun b hb => ?_, w'⟩
        · rw [← hw8] at e
          exact (wipe_some e).1
        · obtain ⟨o, e, _⟩ := T.obj _ _ st7 b hb
          exact (pin' b hb o e).2
      cases b with
      | false =>
        simp only [Bool.false_eq_true, if_false] at q9 ⊢
        exact fin I9 q9
      | true =>
        simp only [if_true] at q9 ⊢
        refine thnF (pe _ s9 σ8 H9 _ I9 q9) fun z s10 ⟨yv, H10, I10, r10, acc, hD10, hz10, nx⟩ => ?_
        exact app_ok (X := X.blk s3 H3 scope ce fp) I10 hD10 hz10 r10 fun s11 I11 => fin I11 nx
  exact codeAny_compStart_list loop (T.self X.A 0 _ _ _ st4 loop)
theorem pe_lc {elt tg iter : Expr} {ifs : List Expr} {scope : Scope} {own : List (Str × Nat)} {pos : Pos} {wi : TI} {g : TG} {tt : TT} {te : TE} (hc : X.calm = true) (hN : X.N.Nodup) (hi : PI X tg iter wi) (ok : BlkOk X.N X.env.scope scope own)
    (hg : ∀ (s : Shared) (H : Hp) (C : Addr) (cl : List (Str × Addr)) (fp : List Addr), PG (X.blk s H scope (compEnvC scope cl C X.env) fp) tg g) (ht : ∀ (s : Shared) (H : Hp) (C : Addr) (cl : List (Str × Addr)) (fp : List Addr), PTs (X.blk s H scope (compEnvC scope cl C X.env) fp) ifs tt)
    (he : ∀ (s : Shared) (H : Hp) (C : Addr) (cl : List (Str × Addr)) (fp : List Addr), PE (X.blk s H scope (compEnvC scope cl C X.env) fp) elt te) (hs : ∀ x, foldedSetIterable iter X.env x = pure x := by intro _; rfl) :
    PE X (.ListComp elt [⟨tg, iter, ifs, 0⟩] scope pos) (tLc wi g tt te (own.map (·.2))) := by
  intro pins s σ H Q I h
  rw [eval_ListComp]
  refine lc_core hc hN I hi ok hg ht he hs h fun D C s' m H' I' q hn f => ⟨m, hn, fun h'' sb => ?_⟩
  obtain ⟨f0, f1, f2, f3, f4, f5⟩ := f
  exact ⟨.ref D, H', I'.turned (t' := s'.toks) (fun b o hb e => (sb.2 b hb).trans e) f0 f1 f3 f4 f5, rfl, q⟩
theorem ps_setLc {i : Nat} {y : Str} {py : Pos} {elt tg iter : Expr} {ifs : List Expr} {scope : Scope} {own : List (Str × Nat)} {pos spos : Pos} {wi : TI} {g : TG} {tt : TT} {te : TE} (hc : X.calm = true) (hN : X.N.Nodup) (hy : X.N[i]? = some y) (hyl : X.env.scope.names.lookup y = some .local)
    (hsw : swapsWith (.ListComp elt [⟨tg, iter, ifs, 0⟩] scope pos) (some (.Name y py)) spos.line X.env = pure true) (hi : PI X tg iter wi) (ok : BlkOk X.N X.env.scope scope own)
    (hg : ∀ (s : Shared) (H : Hp) (C : Addr) (cl : List (Str × Addr)) (fp : List Addr), PG (X.blk s H scope (compEnvC scope cl C X.env) fp) tg g) (ht : ∀ (s : Shared) (H : Hp) (C : Addr) (cl : List (Str × Addr)) (fp : List Addr), PTs (X.blk s H scope (compEnvC scope cl C X.env) fp) ifs tt)
    (he : ∀ (s : Shared) (H : Hp) (C : Addr) (cl : List (Str × Addr)) (fp : List Addr), PE (X.blk s H scope (compEnvC scope cl C X.env) fp) elt te) (hs : ∀ x, foldedSetIterable iter X.env x = pure x := by intro _; rfl) :
    PS X (.Assign [.Name y py] (.ListComp elt [⟨tg, iter, ifs, 0⟩] scope pos) spos) (tAsg (tLc wi g tt te (own.map (·.2))) (gName i)) := by
  intro pins s σ H D I h
  rw [exec_Assign_Name_used _ _ _ _ hsw]
  refine wpAny_bind (wpAny_standAt (wpAny_bind ?_))
  show wpAny _ X.A (do let _ ← comprehension (.ListComp elt [⟨tg, iter, ifs, 0⟩] scope pos) scope X.env (firstIterPos [⟨tg, iter, ifs, 0⟩] pos) (newList []) false (eval iter X.env) (some (assign (.Name y py) X.env))) _ _ s
  have h : tLc wi g tt te (own.map (·.2)) σ H (fun x H1 => gName i x σ H1 D.nx) := h
  refine wpAny_bind (thn (lc_core (Qf := fun _ s' => SP X pins D .next s') hc hN I hi ok hg ht he hs h fun L C s' m H' I' q hn f => ?_) fun _ s' hq => wpAny_pure (wpAny_pure hq))
  show wpAny _ _ (assign (.Name y py) X.env (.ref L)) _ _ _
  refine wpAny_assign_Name (store_ok2 (v := V.ref L) I' hN hy (.inl hyl) rfl (fun s2 I2 ⟨a, sb, ha⟩ => ?_) (.inr hyl))
  obtain ⟨f0, f1, f2, f3, f4, f5⟩ := f
  have haC : C ≠ a := by
    rcases ha with z | z
    · rw [z]; exact f1
    · exact fun e => f4 y a z e.symm
  refine ⟨m, hn.sameBut sb haC, fun h3 sb3 => ?_⟩
  exact ⟨_, H', I2.turned (t' := s2.toks) (fun b o hb e => (sb3.2 b hb).trans e) f0 f1 f3 f4 f5, q⟩
theorem sw_true {elt : Expr} {gs : List Comprehension} {scope : Scope} {pos py : Pos} {y : Str} {l : Nat} {env : Env} (hk : env.scope.kind = .function) (hy : env.scope.names.lookup y = some .local) (hl : (py.line == pos.line) = true)
    (ha : (scope.names.any fun (n, k) => n == y && (k == .local || k == .cell)) = false) : swapsWith (.ListComp elt gs scope pos) (some (.Name y py)) l env = pure true := by
  have ky : env.kindOf y = some .local := hy
  have hb : env.blockKind = .function := by unfold Env.blockKind; rw [hk]; rfl
  unfold swapsWith
  simp only [hb, ky, ha, Expr.pos, hl]
  rfl
end

theorem lc_range {lo : Int} {n : Nat} {g : TG} {tt : TT} {te : TE} {vs : List Nat} {σ : St} {H1 : Hp} {D : Addr} {Qd : Hp → Prop} (Pv : Nat → Hp → Prop) (h0 : Pv 0 (upd H1 D (.lst [])))
    (hs : ∀ i H, i < n → Pv i H → g (.int (lo + i)) (wipe σ vs) H fun σ2 H2 => wipe σ2 vs = wipe σ vs ∧ tt σ2 H2 fun b H3 =>
      if b = true then te σ2 H3 fun y H4 => ∃ acc, H4 D = some (.lst acc) ∧ acc.length < sizeLine ∧ Pv (i + 1) (upd H4 D (.lst (acc ++ [y]))) else Pv (i + 1) H3) (hd : ∀ H, Pv n H → Qd H) :
    ∃ W : Nat → Nat → Hp → Prop, (∃ m, W 0 m (upd H1 D (.lst []))) ∧ ∀ i m H, W i m H →
      ((Itr lo n).stop i H ∧ Qd H) ∨ ((Itr lo n).go i H ∧ ∃ Nx : Hp → Prop, (∀ H', Nx H' → ∃ m', m' < m ∧ W (i + 1) m' H') ∧ ∀ x H', (Itr lo n).yld i H x H' → g x (wipe σ vs) H' fun σ2 H2 => wipe σ2 vs = wipe σ vs ∧ tt σ2 H2 fun b H3 =>
        if b = true then te σ2 H3 fun y H4 => ∃ acc, H4 D = some (.lst acc) ∧ acc.length < sizeLine ∧ Nx (upd H4 D (.lst (acc ++ [y]))) else Nx H3) := by
  refine ⟨fun i m H => m = n - i ∧ i ≤ n ∧ Pv i H, ⟨n, by simp, Nat.zero_le _, h0⟩, ?_⟩
  rintro i m H ⟨rfl, hi, p⟩
  by_cases hlt : i < n
  · refine .inr ⟨hlt, Pv (i + 1), fun H' p' => ⟨n - (i + 1), by omega, rfl, hlt, p'⟩, fun x H' y => ?_⟩
    obtain ⟨e, y⟩ := y
    subst e y
    exact hs i _ hlt p
  · have e : i = n := by omega
    subst e
    exact .inl ⟨Nat.le_refl _, hd H p⟩
theorem lc_list {K : PySem.W.Frag} {a : Addr} {xs : List V} {g : TG} {tt : TT} {te : TE} {vs : List Nat} {σ : St} {H1 : Hp} {D : Addr} {Qd : Hp → Prop} (Pv : Nat → Hp → Prop) (h0 : Pv 0 (upd H1 D (.lst []))) (hl : ∀ i H, i ≤ xs.length → Pv i H → SqL K H a xs)
    (hs : ∀ i x H, xs[i]? = some x → Pv i H → g x (wipe σ vs) H fun σ2 H2 => wipe σ2 vs = wipe σ vs ∧ tt σ2 H2 fun b H3 =>
      if b = true then te σ2 H3 fun y H4 => ∃ acc, H4 D = some (.lst acc) ∧ acc.length < sizeLine ∧ Pv (i + 1) (upd H4 D (.lst (acc ++ [y]))) else Pv (i + 1) H3) (hd : ∀ H, Pv xs.length H → Qd H) :
    ∃ W : Nat → Nat → Hp → Prop, (∃ m, W 0 m (upd H1 D (.lst []))) ∧ ∀ i m H, W i m H →
      ((Itl K a).stop i H ∧ Qd H) ∨ ((Itl K a).go i H ∧ ∃ Nx : Hp → Prop, (∀ H', Nx H' → ∃ m', m' < m ∧ W (i + 1) m' H') ∧ ∀ x H', (Itl K a).yld i H x H' → g x (wipe σ vs) H' fun σ2 H2 => wipe σ2 vs = wipe σ vs ∧ tt σ2 H2 fun b H3 =>
        if b = true then te σ2 H3 fun y H4 => ∃ acc, H4 D = some (.lst acc) ∧ acc.length < sizeLine ∧ Nx (upd H4 D (.lst (acc ++ [y]))) else Nx H3) := by
  refine ⟨fun i m H => m = xs.length - i ∧ i ≤ xs.length ∧ Pv i H, ⟨xs.length, by simp, Nat.zero_le _, h0⟩, ?_⟩
  rintro i m H ⟨rfl, hi, p⟩
  have q := hl i H hi p
  by_cases hlt : i < xs.length
  · refine .inr ⟨⟨xs, xs[i], q, by simp [hlt]⟩, Pv (i + 1), fun H' p' => ⟨xs.length - (i + 1), by omega, rfl, hlt, p'⟩, fun x H' y => ?_⟩
    obtain ⟨e, y⟩ := y
    subst e
    exact hs i x _ (y xs q) p
  · have e : i = xs.length := by omega
    subst e
    exact .inl ⟨⟨xs, q, Nat.le_refl _⟩, hd H p⟩
def blkC (N : List Str) (sc scope : Scope) (own : List (Str × Nat)) : Bool :=
  (match scope.kind with | .function => true | _ => false) && (scope.names.all fun y => decide (scope.names.lookup y.1 = some y.2)) && (own.all fun p => decide (N[p.2]? = some p.1)) &&
    (scope.names.all fun y => match y.2 with
      | .free => (match sc.names.lookup y.1 with | some .cell => true | some .free => true | _ => false)
      | .local => decide (y.1 ∈ own.map (·.1)) || decide (y.1 ∉ N)
      | .cell => decide (y.1 ∈ own.map (·.1)) || decide (y.1 ∉ N)
      | _ => true)
theorem blkOk_by {N : List Str} {sc scope : Scope} {own : List (Str × Nat)} (h : blkC N sc scope own = true) : BlkOk N sc scope own := by
  unfold blkC at h
  simp only [Bool.and_eq_true, List.all_eq_true, decide_eq_true_eq] at h
  obtain ⟨⟨⟨h1, h2⟩, h3⟩, h4⟩ := h
  refine ⟨?_, h2, h3, fun y hy e => ?_, fun y hy e => ?_⟩
  · split at h1
    · assumption
    · cases h1
  · have q := h4 y hy
    simp only [e] at q
    split at q <;> first | exact .inl (by assumption) | exact .inr (by assumption) | cases q
  · have q := h4 y hy
    rcases e with e | e <;> (simp only [e, Bool.or_eq_true, decide_eq_true_eq] at q; exact q)
end L2

namespace L2
open PySem PySem.Spec PyProof.Rows

section
variable {prog : Program} {w : World} {A : Around} {R : Result → Shared → Prop} {s : Shared} {elt t0 i0 t1 i1 : Expr} {ifs0 ifs1 : List Expr} {scope : Scope} {pos : Pos} {it acc : Value} {env : Env}
end

section
variable {X : Cx}
end
end L2

namespace L2
open PySem PySem.Spec PyProof.Rows

section
variable {κ : Type} [DecidableEq κ]
def valV (kvs : List (κ × V)) (k : κ) : Option V := (kvs.find? fun kv => decide (kv.1 = k)).map (·.2)
def putK (kvs : List (κ × V)) (k : κ) (v : V) : List (κ × V) :=
  if (kvs.any fun kv => decide (kv.1 = k)) = true then kvs.map (fun kv => if kv.1 = k then (kv.1, v) else kv) else kvs ++ [(k, v)]
theorem valV_pos {p : κ × V} {r : List (κ × V)} {k : κ} (e : p.1 = k) : valV (p :: r) k = some p.2 := by simp [valV, List.find?_cons, e]
theorem valV_neg {p : κ × V} {r : List (κ × V)} {k : κ} (e : ¬ p.1 = k) : valV (p :: r) k = valV r k := by simp [valV, List.find?_cons, e]
theorem valV_any (k : κ) : ∀ kvs : List (κ × V), (kvs.any fun kv => decide (kv.1 = k)) = (valV kvs k).isSome
  | [] => rfl
  | p :: r => by
    rw [List.any_cons]
    by_cases e : p.1 = k
    · simp only [valV_pos e, decide_eq_true e, Bool.true_or, Option.isSome_some]
    · rw [valV_neg e, decide_eq_false e, Bool.false_or]; exact valV_any k r
theorem valV_map (k j : κ) (y : V) : ∀ kvs : List (κ × V), valV (kvs.map fun kv => if kv.1 = k then (kv.1, y) else kv) j = (valV kvs j).map fun x => if j = k then y else x
  | [] => rfl
  | p :: r => by
    have ih := valV_map k j y r
    rw [List.map_cons]
    by_cases h : p.1 = k
    · rw [if_pos h]
      by_cases e : p.1 = j
      · rw [valV_pos (p := (p.1, y)) e, valV_pos e, Option.map_some, if_pos (e.symm.trans h)]
      · rw [valV_neg (p := (p.1, y)) e, valV_neg e, ih]
    · rw [if_neg h]
      by_cases e : p.1 = j
      · rw [valV_pos (p := p) e, valV_pos e, Option.map_some, if_neg (fun z => h (e.trans z))]
      · rw [valV_neg (p := p) e, valV_neg e, ih]
theorem valV_snoc (k j : κ) (y : V) : ∀ kvs : List (κ × V), valV kvs k = none → valV (kvs ++ [(k, y)]) j = if j = k then some y else valV kvs j
  | [], _ => by
    by_cases e : k = j
    · rw [if_pos e.symm]; exact valV_pos (p := (k, y)) e
    · rw [if_neg (fun z => e z.symm)]; exact valV_neg (p := (k, y)) e
  | p :: r, hn => by
    rw [List.cons_append]
    have hk : ¬ p.1 = k := fun z => by rw [valV_pos z] at hn; cases hn
    rw [valV_neg hk] at hn
    have ih := valV_snoc k j y r hn
    by_cases e : p.1 = j
    · rw [valV_pos e, valV_pos e, if_neg (fun z => hk (e.trans z))]
    · rw [valV_neg e, valV_neg e, ih]
theorem valV_put (kvs : List (κ × V)) (k j : κ) (y : V) : valV (putK kvs k y) j = if j = k then some y else valV kvs j := by
  unfold putK
  by_cases a : (kvs.any fun kv => decide (kv.1 = k)) = true
  · rw [if_pos a, valV_map]
    rw [valV_any] at a
    by_cases e : j = k
    · obtain ⟨x, hx⟩ := Option.isSome_iff_exists.mp a
      rw [if_pos e, e, hx, Option.map_some, if_pos rfl]
    · rw [if_neg e]
      cases valV kvs j with
      | none => rfl
      | some x => rw [Option.map_some, if_neg e]
  · rw [if_neg a]
    refine valV_snoc k j y kvs ?_
    rw [valV_any] at a
    cases q : valV kvs k with
    | none => rfl
    | some x => rw [q] at a; exact (a rfl).elim
theorem length_putK (kvs : List (κ × V)) (k : κ) (v : V) : (putK kvs k v).length ≤ kvs.length + 1 := by
  unfold putK
  split
  · rw [List.length_map]; omega
  · rw [List.length_append, List.length_cons, List.length_nil]; omega
theorem RelO.isSome_eq {o : Option V} {u : Option Value} (r : RelO o u) : o.isSome = u.isSome := by
  cases o with
  | none => cases u with
    | none => rfl
    | some _ => exact (show False from r).elim
  | some _ => cases u with
    | none => exact (show False from r).elim
    | some _ => rfl
theorem RelO.getD {o : Option V} {u : Option Value} {d : V} {d' : Value} (r : RelO o u) (rd : RelV d d') : RelV (o.getD d) (u.getD d') := by
  cases o with
  | none => cases u with
    | none => exact rd
    | some _ => exact (show False from r).elim
  | some _ => cases u with
    | none => exact (show False from r).elim
    | some _ => exact r

theorem KV.val {kvs : List (κ × V)} {vs : List (κ × Value)} (r : KV kvs vs) (k : κ) : RelO (valV kvs k) (valueAt vs k) := by
  unfold KV at r
  induction r with
  | nil => exact True.intro
  | @cons p q ps qs h t ih =>
    obtain ⟨h1, h2⟩ := h
    by_cases e : p.1 = k
    · have e' : q.1 = k := h1.symm.trans e
      have b : valueAt (q :: qs) k = some q.2 := by simp [valueAt, List.find?_cons, e']
      rw [valV_pos e, b]; exact h2
    · have e' : ¬ q.1 = k := fun z => e (h1.trans z)
      have b : valueAt (q :: qs) k = valueAt qs k := by simp [valueAt, List.find?_cons, e']
      rw [valV_neg e, b]; exact ih
theorem KV.any {kvs : List (κ × V)} {vs : List (κ × Value)} (r : KV kvs vs) (k : κ) : (kvs.any fun kv => decide (kv.1 = k)) = vs.any fun kv => decide (kv.1 = k) := by
  unfold KV at r
  induction r with
  | nil => rfl
  | cons h t ih => rw [List.any_cons, List.any_cons, ih, h.1]
theorem KV.repl {kvs : List (κ × V)} {vs : List (κ × Value)} (r : KV kvs vs) (k : κ) {y : V} {u : Value} (ry : RelV y u) :
    KV (kvs.map fun kv => if kv.1 = k then (kv.1, y) else kv) (vs.map fun kv => if kv.1 = k then (kv.1, u) else kv) := by
  unfold KV at r ⊢
  induction r with
  | nil => exact .nil
  | @cons p q ps qs h t ih =>
    rw [List.map_cons, List.map_cons]
    refine .cons ?_ ih
    obtain ⟨h1, h2⟩ := h
    by_cases e : p.1 = k
    · rw [if_pos e, if_pos (h1.symm.trans e)]; exact ⟨h1, ry⟩
    · rw [if_neg e, if_neg (fun z => e (h1.trans z))]; exact ⟨h1, h2⟩
theorem KV.put {kvs : List (κ × V)} {vs : List (κ × Value)} (r : KV kvs vs) (k : κ) {y : V} {u : Value} (ry : RelV y u) : KV (putK kvs k y) (stored vs k u) := by
  unfold putK stored
  rw [r.any k]
  by_cases e : (vs.any fun kv => decide (kv.1 = k)) = true
  · rw [if_pos e, if_pos e]; exact r.repl k ry
  · rw [if_neg e, if_neg e]; exact Paired.snoc r ⟨rfl, ry⟩
theorem KV.length {kvs : List (κ × V)} {vs : List (κ × Value)} (r : KV kvs vs) : kvs.length = vs.length := Paired.length r
end


theorem kV_is {P : Program} {w : World} {k : Key} {u : Value} (r : RelV (kV k) u) : (mixKind P w).is k u = true := by
  cases k with
  | inl i => obtain ⟨t, e⟩ := (show ∃ t, u = Value.int i t from r); subst e; exact mixKind_int P w i t
  | inr x => obtain ⟨t, e⟩ := (show ∃ t, u = Value.str x t from r); subst e; exact mixKind_str P w x t
theorem items_are {P : Program} {w : World} : ∀ {ks : List Key} {us : List Value}, Vals (ks.map kV) us → ItemsAre (mixKind P w) ks us
  | [], _, r => by rw [List.map_nil] at r; cases r; exact .nil
  | k :: ks, _, r => by
    rw [List.map_cons] at r
    cases r with
    | cons h t => exact .cons (kV_is h) (items_are t)

abbrev KT (H : Hp) : List (List Key × V) → List (List Key × Addr × Value) → Prop := Paired fun p q => p.1 = q.1 ∧ H q.2.1 = some (.tup (p.1.map kV)) ∧ RelV p.2 q.2.2
theorem KT.val {H : Hp} {kvs : List (List Key × V)} {xs : List (List Key × Addr × Value)} (r : KT H kvs xs) (k : List Key) : RelO (valV kvs k) ((atKey xs k).map (·.2)) := by
  induction r with
  | nil => exact True.intro
  | @cons p q ps qs h t ih =>
    obtain ⟨h1, _, h2⟩ := h
    by_cases e : p.1 = k
    · have e' : q.1 = k := h1.symm.trans e
      have b : atKey (q :: qs) k = some q.2 := by simp [atKey, List.find?_cons, e']
      rw [valV_pos e, b]; exact h2
    · have e' : ¬ q.1 = k := fun z => e (h1.trans z)
      have b : atKey (q :: qs) k = atKey qs k := by simp [atKey, List.find?_cons, e']
      rw [valV_neg e, b]; exact ih
theorem KT.repl {H : Hp} {kvs : List (List Key × V)} {xs : List (List Key × Addr × Value)} (r : KT H kvs xs) (k : List Key) {y : V} {u : Value} (ry : RelV y u) :
    KT H (kvs.map fun kv => if kv.1 = k then (kv.1, y) else kv) (xs.map (putAt k u)) := by
  induction r with
  | nil => exact .nil
  | @cons p q ps qs h t ih =>
    rw [List.map_cons, List.map_cons]
    refine .cons ?_ ih
    obtain ⟨h1, h2, h3⟩ := h
    unfold putAt
    by_cases e : p.1 = k
    · rw [if_pos e, if_pos (h1.symm.trans e)]; exact ⟨h1, h2, ry⟩
    · rw [if_neg e, if_neg (fun z => e (h1.trans z))]; exact ⟨h1, h2, h3⟩
theorem KT.put {H : Hp} {kvs : List (List Key × V)} {xs : List (List Key × Addr × Value)} (r : KT H kvs xs) (k : List Key) {b : Addr} {y : V} {u : Value} (hb : H b = some (.tup (k.map kV))) (ry : RelV y u) :
    KT H (putK kvs k y) (storedH xs k b u) := by
  have e : (kvs.any fun kv => decide (kv.1 = k)) = (atKey xs k).isSome := by
    rw [valV_any, (r.val k).isSome_eq, Option.isSome_map]
  unfold putK storedH
  rw [e]
  by_cases q : (atKey xs k).isSome = true
  · rw [if_pos q, if_pos q]; exact r.repl k ry
  · rw [if_neg q, if_neg q]; exact Paired.snoc r ⟨rfl, hb, ry⟩
theorem KT.keeps {H H' : Hp} {kvs : List (List Key × V)} {xs : List (List Key × Addr × Value)} (r : KT H kvs xs) (ht : ∀ b ys, H b = some (.tup ys) → H' b = some (.tup ys)) : KT H' kvs xs :=
  Paired.mapP r fun _ _ z => ⟨z.1, ht _ _ z.2.1, z.2.2⟩

section
variable {P : Program} {w : World} {H : Hp} {h : Heap} {a : Addr}
theorem rd_of {u : HO} (ok : HOk P w H h) (e : Rd H a u) : ObjOk P w H h a u := e.ok ok
theorem dk_rd {kvs : List (Key × V)} (ok : HOk P w H h) (e : Rd H a (.dK kvs)) : kvs.length ≤ sizeLine ∧ (a == sysModules) = false ∧ ∃ vs, KV kvs vs ∧ h.DictOf (mixKind P w) a vs :=
  show ObjOk P w H h a (.dK kvs) from rd_of ok e
theorem dk_of {kvs : List (Key × V)} (ok : HOk P w H h) (e : H a = some (.dK kvs)) : kvs.length ≤ sizeLine ∧ (a == sysModules) = false ∧ ∃ vs, KV kvs vs ∧ h.DictOf (mixKind P w) a vs := dk_rd ok (.inl e)
theorem key_of {ks : List Key} (ok : HOk P w H h) (e : H a = some (.tup (ks.map kV))) : (tupleKind (mixKind P w)).is h ks a := by
  obtain ⟨_, its, r, o, h1, h2, n, h3⟩ := (show ObjOk P w H h a (.tup (ks.map kV)) from ok a _ e)
  exact ⟨o, its.toArray, n, h1, h2, h3, by simpa using items_are r⟩
theorem dt_rd {kvs : List (List Key × V)} (ok : HOk P w H h) (e : Rd H a (.dT kvs)) : kvs.length ≤ sizeLine ∧ (a == sysModules) = false ∧
    ∃ xs, KT H kvs xs ∧ h.DictOfH (tupleKind (mixKind P w)) a xs := by
  obtain ⟨z, y, xs, r, o, es, ep, h1, h2, h3, h4, h5⟩ := (show ObjOk P w H h a (.dT kvs) from rd_of ok e)
  refine ⟨z, y, xs, r, o, es, ep, h1, h2, h3, h4, fun x hx => ?_, h5⟩
  have all : ∀ {l : List (List Key × V)} {m : List (List Key × Addr × Value)}, KT H l m → ∀ x ∈ m, (tupleKind (mixKind P w)).is h x.1 x.2.1 := by
    intro l m q
    induction q with
    | nil => intro x hx; exact nomatch hx
    | @cons p q ps qs hq t ih =>
      intro x hx
      rcases List.mem_cons.mp hx with e | hx
      · subst e
        exact key_of ok (by rw [← hq.1]; exact hq.2.1)
      · exact ih x hx
  exact all r x hx
theorem dt_of {kvs : List (List Key × V)} (ok : HOk P w H h) (e : H a = some (.dT kvs)) : kvs.length ≤ sizeLine ∧ (a == sysModules) = false ∧
    ∃ xs, KT H kvs xs ∧ h.DictOfH (tupleKind (mixKind P w)) a xs := dt_rd ok (.inl e)
end

def DGet (H : Hp) (a : Addr) (y : V) (r : Option V) : Prop :=
  (∃ kvs k, Rd H a (.dK kvs) ∧ y = kV k ∧ r = valV kvs k) ∨ ∃ kvs k b, Rd H a (.dT kvs) ∧ y = .ref b ∧ H b = some (.tup (k.map kV)) ∧ r = valV kvs k
def DPut (H : Hp) (a : Addr) (y v : V) (H' : Hp) : Prop :=
  (∃ kvs k, H a = some (.dK kvs) ∧ y = kV k ∧ kvs.length < sizeLine ∧ H' = upd H a (.dK (putK kvs k v))) ∨
  ∃ kvs k b, H a = some (.dT kvs) ∧ y = .ref b ∧ H b = some (.tup (k.map kV)) ∧ kvs.length < sizeLine ∧ H' = upd H a (.dT (putK kvs k v))
theorem DGet.k {H : Hp} {a : Addr} {kvs : List (Key × V)} {k : Key} (e : H a = some (.dK kvs)) : DGet H a (kV k) (valV kvs k) := .inl ⟨kvs, k, .inl e, rfl, rfl⟩
theorem DPut.k {H : Hp} {a : Addr} {kvs : List (Key × V)} {k : Key} {v : V} (e : H a = some (.dK kvs)) (hl : kvs.length < sizeLine) : DPut H a (kV k) v (upd H a (.dK (putK kvs k v))) := .inl ⟨kvs, k, e, rfl, hl, rfl⟩
section
variable {X : Cx} {pins : List (Addr × Obj)} {σ : St} {H : Hp} {s : Shared} {a : Addr} {y v : V} {u r : Value} {o : Option V} {A : Around} {E : Value → Shared → Prop}

theorem Inv.big (I : Inv X pins σ H s) : sysModules < s.heap.objs.size := by
  have h : mainGlobals < s.heap.objs.size := (I.mod.glob.keeps I.bk).lt
  exact Nat.lt_trans (by decide) h

theorem d_getItem {Q : Value → Shared → Prop} (hu : A.units + 1 < cLine) (I : Inv X pins σ H s) (g : DGet H a y (some v)) (ry : RelV y u) (h : ∀ w' s', Inv X pins σ H s' → RelV v w' → Q w' s') :
    wpAny (model X.prog X.w) A (getItem (.ref a) u) Q E s := by
  rcases g with ⟨kvs, k, e, ey, l⟩ | ⟨kvs, k, b, e, ey, eb, l⟩
  · subst ey
    obtain ⟨z, hd, vs, rel, dd⟩ := dk_rd I.hok e
    obtain ⟨w', hw, rw'⟩ := RelO.some_of (v := v) (o := valueAt vs k) (by rw [l]; exact rel.val k)
    exact wpAny_getItem_of (kV_is ry) dd.mapOf hw (h w' _ (I.tok _) rw')
  · subst ey
    cases (show u = Value.ref b from ry)
    obtain ⟨z, hd, xs, rel, dd⟩ := dt_rd I.hok e
    obtain ⟨w', hw, rw'⟩ := RelO.some_of (v := v) (o := (atKey xs k).map (·.2)) (by rw [l]; exact rel.val k)
    obtain ⟨p, hp, hp2⟩ := Option.map_eq_some_iff.mp hw
    refine wpAny_getItem_heap (tupleKind_room_in1 hu) (key_of I.hok eb) dd hp ?_
    rw [hp2]
    exact h w' _ (I.tok _) rw'
theorem d_in {Q : Value → Shared → Prop} (hu : A.units + 1 < cLine) (I : Inv X pins σ H s) (g : DGet H a y o) (ry : RelV y u) (h : ∀ s', Inv X pins σ H s' → Q (.bool o.isSome) s') :
    wpAny (model X.prog X.w) A (compareOp .In u (.ref a)) Q E s := by
  rcases g with ⟨kvs, k, e, ey, l⟩ | ⟨kvs, k, b, e, ey, eb, l⟩
  · subst ey
    obtain ⟨z, hd, vs, rel, dd⟩ := dk_rd I.hok e
    refine wpAny_in_of (kV_is ry) hd dd.mapOf ?_
    rw [← (rel.val k).isSome_eq, ← l]
    exact h _ (I.tok _)
  · subst ey
    cases (show u = Value.ref b from ry)
    obtain ⟨z, hd, xs, rel, dd⟩ := dt_rd I.hok e
    refine wpAny_in_heap (tupleKind_room_in1 hu) (key_of I.hok eb) hd dd ?_
    have q := (rel.val k).isSome_eq
    rw [Option.isSome_map] at q
    rw [← q, ← l]
    exact h _ (I.tok _)
theorem d_notIn {Q : Value → Shared → Prop} (hu : A.units + 1 < cLine) (I : Inv X pins σ H s) (g : DGet H a y o) (ry : RelV y u) (h : ∀ s', Inv X pins σ H s' → Q (.bool (!o.isSome)) s') :
    wpAny (model X.prog X.w) A (compareOp .NotIn u (.ref a)) Q E s := by
  rcases g with ⟨kvs, k, e, ey, l⟩ | ⟨kvs, k, b, e, ey, eb, l⟩
  · subst ey
    obtain ⟨z, hd, vs, rel, dd⟩ := dk_rd I.hok e
    refine wpAny_notIn_of (kV_is ry) hd dd.mapOf ?_
    rw [← (rel.val k).isSome_eq, ← l]
    exact h _ (I.tok _)
  · subst ey
    cases (show u = Value.ref b from ry)
    obtain ⟨z, hd, xs, rel, dd⟩ := dt_rd I.hok e
    refine wpAny_notIn_heap (tupleKind_room_in1 hu) (key_of I.hok eb) hd dd ?_
    have q := (rel.val k).isSome_eq
    rw [Option.isSome_map] at q
    rw [← q, ← l]
    exact h _ (I.tok _)
theorem d_write {h' : Heap} {t' : Nat} {ob : HO} (I : Inv X pins σ H s) (mu : Mut (H a)) (hs : Heap.SameBut a s.heap h') (he : ∃ q, h'.get? a = some q) (new : ObjOk X.prog X.w (upd H a ob) h' a ob) :
    Inv X pins σ (upd H a ob) { s with heap := h', toks := t' } :=
  I.write (x := a) (e := a) mu (.inl rfl) (fun b q hb z => (hs.2 b hb).trans z) he new
theorem dk_new {P : Program} {w : World} {H' : Hp} {h' : Heap} {kvs : List (Key × V)} {vs : List (Key × Value)} (z : kvs.length ≤ sizeLine) (hd : (a == sysModules) = false) (rel : KV kvs vs) (dd : h'.DictOf (mixKind P w) a vs) :
    ObjOk P w H' h' a (.dK kvs) := ⟨z, hd, vs, rel, dd⟩
theorem d_setItem {H' : Hp} {Q : Unit → Shared → Prop} (hu : A.units + 1 < cLine) (I : Inv X pins σ H s) (g : DPut H a y v H') (ry : RelV y u) (rv : RelV v r) (h : ∀ s', Inv X pins σ H' s' → Q () s') :
    wpAny (model X.prog X.w) A (setItem (.ref a) u r) Q E s := by
  rcases g with ⟨kvs, k, e, ey, l, eH⟩ | ⟨kvs, k, b, e, ey, eb, l, eH⟩
  · subst ey eH
    obtain ⟨z, hd, vs, rel, dd⟩ := dk_of I.hok e
    have hz : vs.length ≤ sizeLine := by rw [← rel.length]; exact z
    have hl : (putK kvs k v).length ≤ sizeLine := by have := length_putK kvs k v; omega
    refine wpAny_setItem_pairs (hsz := hz) (kV_is ry) dd fun h' dd' hs => h _ ?_
    have he : ∃ q, h'.get? a = some q := let ⟨q, _, _, hq, _⟩ := dd'; ⟨q, hq⟩
    exact d_write I (by rw [e]; exact True.intro) hs he (dk_new hl hd (rel.put k rv) dd')
  · subst ey eH
    cases (show u = Value.ref b from ry)
    obtain ⟨z, hd, xs, rel, dd⟩ := dt_of I.hok e
    have hz : xs.length ≤ sizeLine := by rw [← Paired.length rel]; exact z
    have hl : (putK kvs k v).length ≤ sizeLine := by have := length_putK kvs k v; omega
    refine wpAny_setItem_heap (hsz := hz) (tupleKind_room_in1 hu) (key_of I.hok eb) dd fun h' dd' hs => h _ ?_
    obtain ⟨q, es, ep, hq, h2, h3, h4, _, h5⟩ := dd'
    refine d_write I (by rw [e]; exact True.intro) hs ⟨q, hq⟩ ⟨hl, hd, _, (rel.put k eb rv).keeps fun c ys ec => ?_, q, es, ep, hq, h2, h3, h4, h5⟩
    rw [upd_ne (ne_of ec e (fun z => nomatch z))]
    exact ec
end

section
variable {X : Cx} {pins : List (Addr × Obj)} {σ : St} {H : Hp} {s : Shared} {a : Addr} {kvs : List (Key × V)} {k : Key} {u : Value} {A : Around} {E : Value → Shared → Prop}
end


def NoSl (i : Expr) : Prop := ∀ ov iv, subscripted i false ov iv = operate [ov, iv] (getItem ov iv)
theorem subD_of {prog : Program} {w : World} {A : Around} {E : Value → Shared → Prop} {s : Shared} {env : Env} {value slice : Expr} {pos : Pos} {T id : String} {Q : Value → Shared → Prop}
    (hl : typeLookup (.type T) "__getitem__" = pure (some (.builtin id))) (hs : NoSl slice)
    (h : wpAny (model prog w) A (eval value env) (fun o s₁ => wpAny (model prog w) A (eval slice env) (fun i s₂ => s₂.TypeIs o T ∧ wpAny (model prog w) A (getItem o i) Q E s₂) E s₁) E s) :
    wpAny (model prog w) A (eval (.Subscript value slice pos) env) Q E s := by
  refine Subscript_ (wpAny_mono h (fun o s₁ h₁ => wpAny_mono h₁ (fun i s₂ h₂ => ?_) fun _ _ x => x) fun _ _ x => x)
  obtain ⟨hT, h₂⟩ := h₂
  unfold subscriptTail
  refine wpAny_bind ?_
  rw [getitemInPython_of_ne hT.not_modules]
  refine wpAny_bind (wpAny_specialOf hT hl ?_)
  have fin : wpAny (model prog w) A (subscripted slice false o i) (fun r s₃ => wpAny (model prog w) A (letTemporaryGo value o r >>= fun _ => pure r) Q E s₃) E s₂ := by
    rw [hs o i]
    exact wpAny_operating (wpAny_mono h₂ (fun r s₃ h₃ => wpAny_bind (wpAny_letTemporaryGo (wpAny_pure h₃))) fun _ _ x => x)
  first
    | exact wpAny_pure (wpAny_bind fin)
    | exact wpAny_bind (wpAny_pure (wpAny_bind fin))
    | exact wpAny_bind fin

theorem dict_typeIs {X : Cx} {pins : List (Addr × Obj)} {σ : St} {H : Hp} {s : Shared} {a : Addr} {y : V} {o : Option V} (I : Inv X pins σ H s) (g : DGet H a y o) : s.TypeIs (.ref a) "dict" := by
  rcases g with ⟨kvs, k, e, _, _⟩ | ⟨kvs, k, b, e, _, _, _⟩
  · obtain ⟨_, _, vs, _, dd⟩ := dk_rd I.hok e
    exact dd.typeIs
  · obtain ⟨_, _, xs, _, dd⟩ := dt_rd I.hok e
    exact dd.typeIs
def tDGet (td ty : TE) : TE := fun σ H Q => td σ H fun x H1 => ty σ H1 fun y H2 => ∃ a v, x = .ref a ∧ DGet H2 a y (some v) ∧ Q v H2
def tDIn (ty td : TE) : TE := fun σ H Q => ty σ H fun y H1 => td σ H1 fun x H2 => ∃ a o, x = .ref a ∧ DGet H2 a y o ∧ Q (.bl o.isSome) H2
def tDNotIn (ty td : TE) : TE := fun σ H Q => ty σ H fun y H1 => td σ H1 fun x H2 => ∃ a o, x = .ref a ∧ DGet H2 a y o ∧ Q (.bl (!o.isSome)) H2
def sDPut (td ty tv : TE) : TS := fun D σ H => tv σ H fun v H1 => td σ H1 fun x H2 => ty σ H2 fun y H3 => ∃ a H4, x = .ref a ∧ DPut H3 a y v H4 ∧ D.nx σ H4
section
variable {X : Cx} {o i e value : Expr} {pos pos' tpos : Pos} {td ty tv : TE}
theorem pe_dget (hu : X.A.units + 1 < cLine) (ho : PE X o td) (hi : PE X i ty) (hs : NoSl i) : PE X (.Subscript o i pos) (tDGet td ty) := by
  intro pins s σ H Q I h
  refine subD_of PySem.F.slot_dict_getitem.lookup hs (thn (ho pins s σ H _ I h) fun u s1 ⟨x, H1, I1, rx, q1⟩ => thn (hi pins s1 σ H1 _ I1 q1) fun iv s2 ⟨y, H2, I2, ry, a, v, ex, g, q2⟩ => ?_)
  subst ex
  obtain rfl : u = Value.ref a := rx
  exact ⟨dict_typeIs I2 g, d_getItem hu I2 g ry fun w' s3 I3 rw' => ⟨v, H2, I3, rw', q2⟩⟩
theorem pc_din (hu : X.A.units + 1 < cLine) (hi : PE X i ty) (ho : PE X o td) : PC X .In i o (tDIn ty td) := by
  intro pins s σ H Q I h
  refine thn (hi pins s σ H _ I h) fun iv s1 ⟨y, H1, I1, ry, q1⟩ => thn (ho pins s1 σ H1 _ I1 q1) fun u s2 ⟨x, H2, I2, rx, a, ov, ex, g, q2⟩ => ?_
  subst ex
  obtain rfl : u = Value.ref a := rx
  exact d_in hu I2 g ry fun s3 I3 => ⟨.bl ov.isSome, H2, I3, rfl, q2⟩
theorem pc_dnotin (hu : X.A.units + 1 < cLine) (hi : PE X i ty) (ho : PE X o td) : PC X .NotIn i o (tDNotIn ty td) := by
  intro pins s σ H Q I h
  refine thn (hi pins s σ H _ I h) fun iv s1 ⟨y, H1, I1, ry, q1⟩ => thn (ho pins s1 σ H1 _ I1 q1) fun u s2 ⟨x, H2, I2, rx, a, ov, ex, g, q2⟩ => ?_
  subst ex
  obtain rfl : u = Value.ref a := rx
  exact d_notIn hu I2 g ry fun s3 I3 => ⟨.bl (!ov.isSome), H2, I3, rfl, q2⟩
theorem ps_dput (hu : X.A.units + 1 < cLine) (ho : PE X o td) (hi : PE X i ty) (hv : PE X value tv) (hs : swapsWith value (some (.Subscript o i pos')) pos.line X.env = pure false) :
    PS X (.Assign [.Subscript o i pos'] value pos) (sDPut td ty tv) := by
  intro pins s σ H D I h
  refine wpAny_Assign_Subscript (thn (hv pins s σ H _ I h) fun r s1 ⟨v, H1, I1, rv, q1⟩ => thn (ho pins s1 σ H1 _ I1 q1) fun u s2 ⟨x, H2, I2, rx, q2⟩ => thn (hi pins s2 σ H2 _ I2 q2) fun iv s3 ⟨y, H3, I3, ry, a, H4, ex, g, q3⟩ => ?_) hs
  subst ex
  obtain rfl : u = Value.ref a := rx
  exact d_setItem hu I3 g ry rv fun s4 I4 => ⟨σ, H4, I4, q3⟩
end


theorem dk_empty {P : Program} {w : World} {H : Hp} (h : Heap) (hb : sysModules < h.objs.size) : ObjOk P w H (h.push { cls := .type "dict", data := .dict #[] }) h.objs.size (.dK []) :=
  ⟨Nat.zero_le _, beq_eq_false_iff_ne.mpr (Ne.symm (Nat.ne_of_lt hb)), [], .nil, Heap.DictOf.new h⟩
section
variable {X : Cx} {pos : Pos}
end

def tPairs : List (TE × TE) → St → Hp → (List (V × V) → Hp → Prop) → Prop
  | [], _, H, Q => Q [] H
  | (tk, tv) :: r, σ, H, Q => tk σ H fun x H1 => tv σ H1 fun y H2 => tPairs r σ H2 fun ps H3 => Q ((x, y) :: ps) H3
abbrev VV : List (V × V) → List (Value × Value) → Prop := Paired fun p q => RelV p.1 q.1 ∧ RelV p.2 q.2
def PPs (X : Cx) (pos : Pos) (keys : List (Option Expr)) (values : List Expr) (trs : List (TE × TE)) : Prop :=
  ∀ (pins : List (Addr × Obj)) (s : Shared) (σ : St) (H : Hp) (Q : List (V × V) → Hp → Prop), Inv X pins σ H s → tPairs trs σ H Q →
    wpAny (model X.prog X.w) X.A (evalPairs (pairTrees keys values X.env pos)) (fun vs s' => ∃ ps H', Inv X pins σ H' s' ∧ VV ps vs ∧ Q ps H') X.xe s
theorem pps_nil {X : Cx} {pos : Pos} : PPs X pos [] [] [] := fun pins s σ H Q I h => pairTrees_nil_walk ⟨[], H, I, .nil, h⟩
theorem pps_cons {X : Cx} {pos : Pos} {k v : Expr} {ks : List (Option Expr)} {vs : List Expr} {tk tv : TE} {trs : List (TE × TE)} (hk : PE X k tk) (hv : PE X v tv) (hr : PPs X pos ks vs trs) :
    PPs X pos (some k :: ks) (v :: vs) ((tk, tv) :: trs) := fun pins s σ H Q I h =>
  pairTrees_cons_walk (thn (hk pins s σ H _ I h) fun u s1 ⟨x, H1, I1, rx, q1⟩ => thn (hv pins s1 σ H1 _ I1 q1) fun w2 s2 ⟨y, H2, I2, ry, q2⟩ =>
    thn (hr pins s2 σ H2 _ I2 q2) fun ws s3 ⟨ps, H3, I3, rel, q3⟩ => ⟨(x, y) :: ps, H3, I3, .cons ⟨rx, ry⟩ rel, q3⟩)

def mergeK (kvs more : List (Key × V)) : List (Key × V) := more.foldl (fun acc kv => putK acc kv.1 kv.2) kvs
theorem KV.merge : ∀ {more : List (Key × V)} {rs : List (Key × Value)} {kvs : List (Key × V)} {vs : List (Key × Value)}, KV more rs → KV kvs vs → KV (mergeK kvs more) (merged vs rs) := by
  intro more rs kvs vs r
  unfold KV at r
  induction r generalizing kvs vs with
  | nil => intro q; exact q
  | @cons p q ps qs h t ih =>
    intro r0
    have e : KV (putK kvs p.1 p.2) (stored vs q.1 q.2) := by
      have := r0.put p.1 h.2
      rw [← h.1]; exact this
    exact ih e
theorem length_mergeK : ∀ (more kvs : List (Key × V)), (mergeK kvs more).length ≤ kvs.length + more.length
  | [], kvs => by show kvs.length ≤ kvs.length + 0; omega
  | p :: r, kvs => by
    have h1 := length_mergeK r (putK kvs p.1 p.2)
    have h2 := length_putK kvs p.1 p.2
    show (mergeK (putK kvs p.1 p.2) r).length ≤ _
    rw [List.length_cons]; omega
theorem carries_of {P : Program} {w : World} : ∀ {kvs : List (Key × V)} {ws : List (Value × Value)}, VV (kvs.map fun kv => (kV kv.1, kv.2)) ws → ∃ rs, Carries (mixKind P w) ws rs ∧ KV kvs rs
  | [], _, r => by rw [List.map_nil] at r; cases r; exact ⟨[], True.intro, .nil⟩
  | p :: kvs, _, r => by
    rw [List.map_cons] at r
    cases r with
    | @cons a b as bs h t =>
      obtain ⟨rs, c, q⟩ := carries_of (P := P) (w := w) t
      obtain ⟨b1, b2⟩ := b
      exact ⟨(p.1, b2) :: rs, ⟨kV_is h.1, rfl, c⟩, .cons ⟨rfl, h.2⟩ q⟩
def tDisp (trs : List (TE × TE)) : TE := fun σ H Q => ∀ p, H p = none → tPairs trs σ (upd H p (.dK [])) fun ps H2 => H2 p = some (.dK []) ∧ ∃ kvs : List (Key × V), ps = kvs.map (fun kv => (kV kv.1, kv.2)) ∧ kvs.length ≤ 15 ∧ Q (.ref p) (upd H2 p (.dK (mergeK [] kvs)))
theorem pe_disp {X : Cx} {pos : Pos} {keys : List (Option Expr)} {values : List Expr} {trs : List (TE × TE)} (h : PPs X pos keys values trs) (hall : keys.all (·.isSome) = true) (hl : keys.length = values.length) (h0 : keys ≠ [])
    (h15 : keys.length ≤ 15) : PE X (.Dict keys values pos) (tDisp trs) := by
  intro pins s σ H Q I q
  have hn := I.hok.fresh (Nat.le_refl s.heap.objs.size)
  have I1 := I.laid (a := s.heap.objs.size) (o := .dK []) (h' := s.heap.push { cls := .type "dict", data := .dict #[] }) (t' := s.toks) (fun _ _ q => Heap.get?_push_of_some _ q) (Nat.le_refl _) (dk_empty s.heap I.big)
  refine wpAny_Dict_walk (knd := mixKind X.prog X.w) hall hl h0 h15 (thn (h pins _ σ _ _ I1 (q _ hn)) fun ws s2 ⟨ps, H2, I2, rel, e, kvs, ep, lk, q2⟩ => ?_)
  subst ep
  obtain ⟨rs, c, rk⟩ := carries_of (P := X.prog) (w := X.w) rel
  obtain ⟨z, hd, vs0, r0, dd⟩ := dk_of I2.hok e
  cases r0
  refine ⟨rs, c, dd, fun h' dd' hs => ⟨.ref s.heap.objs.size, _, ?_, rfl, q2⟩⟩
  have hz : (mergeK [] kvs).length ≤ sizeLine := by
    have h1 := length_mergeK kvs []
    rw [List.length_nil] at h1
    rw [sizeLine_eq]; omega
  have he : ∃ q, h'.get? s.heap.objs.size = some q := let ⟨q, _, _, hq, _⟩ := dd'; ⟨q, hq⟩
  exact d_write I2 (by rw [e]; exact True.intro) hs he (dk_new hz hd (rk.merge .nil) dd')


structure M2 (X : Cx) (o : Expr) (m : Str) (apos : Pos) (e f : Expr) (cpos : Pos) : Prop where
  base : attributeBase o m X.env (eval o X.env) = eval o X.env
  few : ((backTo cpos (starEach [e, f] X.env)).all (fun x => !x.1) && (backToKw cpos (keywordEach [] X.env)).all (fun x => x.1.isSome)
    && decide (([e, f] : List Expr).length + ([] : List Keyword).length + (if ([] : List Keyword).isEmpty then 0 else 1) < 30)) = true
  line : (apos.endLine == cpos.line) = true
  trees : backTo cpos (starEach [e, f] X.env) = [(false, eval e X.env), (false, eval f X.env)]

def IsD (H : Hp) (a : Addr) : Prop := (∃ kvs, Rd H a (.dK kvs)) ∨ ∃ kvs, Rd H a (.dT kvs)
theorem isD_at {X : Cx} {pins : List (Addr × Obj)} {σ : St} {H : Hp} {s : Shared} {a : Addr} (I : Inv X pins σ H s) (d : IsD H a) :
    s.TypeIs (.ref a) "dict" ∧ (∀ b, Value.ref a = .ref b → ∃ ob, s.heap.get? b = some ob ∧ ob.dict = none) ∧ (a == sysModules) = false := by
  rcases d with ⟨kvs, e⟩ | ⟨kvs, e⟩
  · obtain ⟨_, hd, vs, _, dd⟩ := dk_rd I.hok e
    refine ⟨dd.typeIs, fun b q => ?_, hd⟩
    cases q
    obtain ⟨ob, _, _, h1, h2, _⟩ := dd
    exact ⟨ob, h1, h2.2.1⟩
  · obtain ⟨_, hd, xs, _, dd⟩ := dt_rd I.hok e
    refine ⟨dd.typeIs, fun b q => ?_, hd⟩
    cases q
    obtain ⟨ob, _, _, h1, h2, _⟩ := dd
    exact ⟨ob, h1, h2.2.1⟩

section
variable {X : Cx} {pins : List (Addr × Obj)} {σ : St} {H : Hp} {s : Shared} {a : Addr} {y d : V} {u r : Value} {o : Option V} {A : Around} {E : Value → Shared → Prop}
theorem d_get2 {Q : Value → Shared → Prop} (hu : A.units + 1 < cLine) (I : Inv X pins σ H s) (g : DGet H a y o) (ry : RelV y u) (rd : RelV d r) (h : ∀ w' s', Inv X pins σ H s' → RelV (o.getD d) w' → Q w' s') :
    wpAny (model X.prog X.w) A (call (.builtin "dict.get") [.ref a, u, r]) Q E s := by
  rcases g with ⟨kvs, k, e, ey, l⟩ | ⟨kvs, k, b, e, ey, eb, l⟩
  · subst ey
    obtain ⟨z, hd, vs, rel, dd⟩ := dk_rd I.hok e
    refine call_meetsIn PySem.F.slot_dict_get dd.typeIs PySem.F.entry_dict_get (PySem.F.args_dict_get_3 _ _ _) (meets_dict_get_default (mixKind X.prog X.w) a (kV_is ry) hd r) ⟨_, dd.mapOf, h _ _ (I.tok _) ?_⟩
    rw [l]
    exact (rel.val k).getD rd
  · subst ey
    cases (show u = Value.ref b from ry)
    obtain ⟨z, hd, xs, rel, dd⟩ := dt_rd I.hok e
    refine call_meetsIn PySem.F.slot_dict_get dd.typeIs PySem.F.entry_dict_get (PySem.F.args_dict_get_3 _ _ _) (meetsH_dict_get_default (tupleKind (mixKind X.prog X.w)) a b hd r) ⟨tupleKind_room_in1 hu, k, xs, key_of I.hok eb, dd, h _ _ (I.tok _) ?_⟩
    rw [l]
    exact (rel.val k).getD rd
end

def tDGet2 (td ty tx : TE) : TE := fun σ H Q => td σ H fun x H1 => ∃ a, x = .ref a ∧ IsD H1 a ∧ ty σ H1 fun y H2 => tx σ H2 fun z H3 => ∃ o, DGet H3 a y o ∧ Q (o.getD z) H3
section
variable {X : Cx} {o e f : Expr} {apos cpos : Pos} {td ty tx : TE}
theorem pe_dget2 (hu : X.A.units + 1 < cLine) (ho : PE X o td) (he : PE X e ty) (hf : PE X f tx) (m : M2 X o "get" apos e f cpos) : PE X (.Call (.Attribute o "get" apos) [e, f] [] cpos) (tDGet2 td ty tx) := by
  intro pins s σ H Q I h
  refine wpAny_Call_method m.base m.few m.line PySem.F.plainAttrs_dict PySem.F.slot_dict_get PySem.F.type_dict_get (thn (ho pins s σ H _ I h) fun u s1 ⟨x, H1, I1, rx, a, ex, d, q1⟩ => ?_)
  subst ex
  obtain rfl : u = Value.ref a := rx
  obtain ⟨t1, t2, _⟩ := isD_at I1 d
  refine ⟨t1, t2, ?_⟩
  rw [m.trees]
  refine Calls.callWith_builtin rfl (Calls.evalArgs_plain (Calls.spliced_cons (thn (he pins s1 σ H1 _ I1 q1) fun iv s2 ⟨y, H2, I2, ry, q2⟩ =>
    Calls.spliced_cons (thn (hf pins s2 σ H2 _ I2 q2) fun fv s3 ⟨z, H3, I3, rz, ov, g, q3⟩ => Calls.spliced_nil ?_))))
  exact d_get2 hu I3 g ry rz fun w' s4 I4 rw' => ⟨_, H3, I4, rw', q3⟩
end

section
variable {X : Cx} {pins : List (Addr × Obj)} {σ : St} {H : Hp} {s : Shared} {a : Addr} {kvs : List (Key × V)} {A : Around} {E : Value → Shared → Prop}
end


section
variable {X : Cx} {pins : List (Addr × Obj)} {σ : St} {H : Hp} {s : Shared} {a : Addr} {y : V} {u : Value} {A : Around} {E : Value → Shared → Prop}
end
end L2

namespace L2
open PySem PySem.Spec PyProof.Rows

section
variable {prog : Program} {w : World} {A : Around} {E : Value → Shared → Prop}
end

section
variable {X : Cx}
end
end L2

namespace L2
open PySem PySem.Spec PyProof.Rows

section
variable {X : Cx} {pins : List (Addr × Obj)} {σ : St} {H : Hp} {s : Shared} {h' : Heap}
end
section
variable {X : Cx}
theorem pi_one {tg : Expr} {pins : List (Addr × Obj)} {σ : St} {H : Hp} {s : Shared} {R : It → Hp → Prop} {J : It} {tn : Nat → Heap → Prop} {tk : Nat} (I : Inv X pins σ H s) (o : Obj)
    (T : Turn X.prog X.w X.K tg J [s.heap.objs.size] s.heap.objs.size tn) (st : tn 0 (s.heap.push o)) (q : R J H) : PIE X pins σ tg R (.ref s.heap.objs.size) { s with heap := s.heap.push o, toks := tk } := by
  refine ⟨s.heap.objs.size, [s.heap.objs.size], tn, J, H, rfl, I.kept fun b ob e => Heap.get?_push_of_some _ e, T, st, fun b hb => ?_, q⟩
  have e : b = s.heap.objs.size := by simpa using hb
  subst e
  exact I.fpOk (Nat.le_refl _) (I.hok.fresh (Nat.le_refl _))
end

def Itc (lo c : Int) (n : Nat) : It := ⟨fun i _ => i < n, fun i H x H' => H' = H ∧ x = .int (lo + (i : Nat) * c), fun i _ => n ≤ i⟩
theorem turn_rangeC {P : Program} {w : World} {K : PySem.W.Frag} {tg : Expr} (it : Addr) (lo c : Int) (n : Nat) : Turn P w K tg (Itc lo c n) [it] it (fun i h => IsRangeIter h it (lo + (i : Nat) * c) ((n : Int) - (i : Nat)) c) where
  mem := by simp
  obj := fun i h st b hb => by
    have e : b = it := by simpa using hb
    subst e
    exact ⟨_, st, fun v z => nomatch z⟩
  keep := fun i h h' st k => k it (by simp) _ st
  item := by
    intro X hP hw hK hc i pins s σ H E I hf st hg
    subst hP hw hK
    obtain ⟨f0, f1, f2, f3, f4, f5⟩ := hf it (by simp)
    have W := Walks.range (prog := X.prog) (w := X.w) (I.ok.hd hc) it lo c n
    refine W.item i s _ _ hg st fun v h' tk hv st' kk => ?_
    obtain ⟨t, rfl⟩ := hv
    have I1 : Inv X pins σ H { s with heap := h', toks := tk } := I.turned (fun b o hb e => kk b o (by simpa using hb) e) f0 f1 f3 f4 f5
    exact ⟨_, rfl, go_of (s := { s with heap := h', toks := tk }) (n := "range_iterator") st' rfl rfl (by decide) ⟨.int (lo + (i : Nat) * c), H, I1, ⟨t, rfl⟩, ⟨rfl, rfl⟩, st', fun b hb => (hf b hb).1⟩⟩
  done := by
    intro X hP hw hK hc i pins s σ H E I hf st hg
    subst hP hw hK
    obtain ⟨f0, f1, f2, f3, f4, f5⟩ := hf it (by simp)
    exact wpAny_pyNext_range_end (I.ok.hd hc) st (by have : n ≤ i := hg; omega) fun h' eb => ⟨rfl, I.turned (t' := s.toks) (fun b o hb e => eb b o hb e) f0 f1 f3 f4 f5⟩
  self := fun A i s Q E st h => wpAny_pyIter_rangeiter st h
def RgC (i j c : Int) (n : Nat) : Prop := c ≠ 0 ∧ c.natAbs < 1073741824 ∧ Builtin.Range.small i j c = true ∧ Builtin.Range.rangeSize i j c = n
theorem RgC.neg {i j : Int} (ha : -(2 ^ 62) ≤ i) (ha' : i < 2 ^ 62) (hb : -(2 ^ 62) ≤ j) (hb' : j < 2 ^ 62) : RgC i j (-1) (i - j).toNat :=
  ⟨by decide, by decide, PySem.W.small_down ha ha' hb hb', PySem.W.rangeSize_downNat i j⟩
def iRng3 (ta : TA) : TI := fun σ H R => ta σ H fun vs H1 => ∃ (i j c : Int) (n : Nat), vs = [.int i, .int j, .int c] ∧ RgC i j c n ∧ R (Itc i c n) H1
section
variable {X : Cx} {tg : Expr}
theorem pi_range3 {a b c : Expr} {ta : TA} {p pos : Pos} (hg : Gl X "range") (hm : X.mg "range" = none) (ha : PA X [a, b, c] ta)
    (hs : starEach [a, b, c] X.env = (false, eval a X.env) :: starEach [b, c] X.env := by rfl) (hpl : (backTo pos (starEach [b, c] X.env)).any (·.1) = false := by rfl) :
    PI X tg (.Call (.Name "range" p) [a, b, c] [] pos) (iRng3 ta) := by
  intro pins s σ H R I h
  refine Call_ (ld_blt I hg hm boot_range (PyProof.Rows.callWith_type1 (thn (ha pos pins s σ H _ I h) fun us s1 ⟨vs, H1, I1, r1, q1⟩ => ?_) hs hpl))
  obtain ⟨i, j, k, n, e, ⟨c0, c1, c2, c3⟩, q⟩ := q1
  subst e
  cases r1 with
  | cons r rr =>
    cases rr with
    | cons r' rr =>
      cases rr with
      | cons r'' rr =>
        cases rr
        obtain ⟨t, rfl⟩ := r
        obtain ⟨t', rfl⟩ := r'
        obtain ⟨t'', rfl⟩ := r''
        refine call_range_3 c0 ?_ (.inl (PyProof.noPylong_small c1))
        refine wpAny_pyIter_range (IsRange.new ..) c2 ?_
        have I2 : Inv X pins σ H1 { s1 with heap := s1.heap.push { cls := .type "range", data := .fields #[.int i t, .int j t', .int k t''] } } := I1.kept (t' := s1.toks) fun b o e => Heap.get?_push_of_some _ e
        refine pi_one (tk := s1.toks) I2 _ (turn_rangeC _ i k n) ?_ q
        have e1 : i + ((0 : Nat) : Int) * k = i := by simp
        have e2 : (n : Int) - ((0 : Nat) : Int) = Builtin.Range.rangeSize i j k := by rw [c3]; simp
        show IsRangeIter _ _ (i + ((0 : Nat) : Int) * k) ((n : Int) - ((0 : Nat) : Int)) k
        rw [e1, e2]
        exact Heap.get?_push_size _ rfl
end
theorem for_rangeC {lo c : Int} {n : Nat} {g : TG} {tb : TS} {D : Ends} {σ : St} {H : Hp} (Pv : Nat → St → Hp → Prop) (h0 : Pv 0 σ H)
    (hs : ∀ i σ H, i < n → Pv i σ H → g (.int (lo + (i : Nat) * c)) σ H fun σ2 H2 => tb { D with nx := Pv (i + 1), ct := Pv (i + 1), bk := D.nx } σ2 H2) (hd : ∀ σ H, Pv n σ H → D.nx σ H) :
    ∃ W : Nat → Nat → St → Hp → Prop, (∃ m, W 0 m σ H) ∧ ∀ i m σ H, W i m σ H →
      ((Itc lo c n).stop i H ∧ D.nx σ H) ∨ ((Itc lo c n).go i H ∧ ∃ N : St → Hp → Prop, (∀ σ' H', N σ' H' → ∃ m', m' < m ∧ W (i + 1) m' σ' H') ∧ ∀ x H', (Itc lo c n).yld i H x H' → g x σ H' fun σ2 H2 => tb { D with nx := N, ct := N, bk := D.nx } σ2 H2) := by
  refine ⟨fun i m σ H => m = n - i ∧ i ≤ n ∧ Pv i σ H, ⟨n, by simp, Nat.zero_le _, h0⟩, ?_⟩
  rintro i m σ H ⟨rfl, hi, p⟩
  by_cases hlt : i < n
  · refine .inr ⟨hlt, Pv (i + 1), fun σ' H' p' => ⟨n - (i + 1), by omega, rfl, hlt, p'⟩, fun x H' y => ?_⟩
    obtain ⟨e, y⟩ := y
    subst e y
    exact hs i σ _ hlt p
  · have e : i = n := by omega
    subst e
    exact .inl ⟨Nat.le_refl _, hd σ H p⟩

section
variable {X : Cx} {tg : Expr}
end

section
variable {prog : Program} {w : World} {A : Around} {E : Value → Shared → Prop} {s : Shared}
end

section
variable {X : Cx} {pins : List (Addr × Obj)} {σ : St} {H : Hp} {s : Shared} {d : Addr} {o : Obj}
end

section
variable {P : Program} {w : World} {K : PySem.W.Frag} {tg : Expr} {d : Addr} {o : Obj} {es : Array DictEntry} {ep : Nat}
end

section
variable {X : Cx} {tg e : Expr} {td : TE} {apos cpos : Pos}
end

end L2

section 
namespace Bits
open PySem PyProof.Rows

end Bits
end 

section 
namespace TL
open PySem PySem.Builtin PySem.Builtin.Str PySem.StrLaws

abbrev tl (x : Str) : List Nat := x.cps.toList
def pre (S l : List Nat) : Bool := l.take S.length == S
def par (S : List Nat) : List Nat → List Nat → Option (List Nat × List Nat)
  | _, [] => none
  | acc, c :: r => if pre S (c :: r) = true then some (acc, (c :: r).drop S.length) else par S (acc ++ [c]) r

end TL
end 

namespace L2
open PySem PySem.Spec PyProof.Rows

section
variable {X : Cx} {pins : List (Addr × Obj)} {σ : St} {H : Hp} {s : Shared} {Q : VK}
end

section
variable {X : Cx}

end

section
variable {X : Cx} {o e : Expr} {to te : TE}
end
end L2

namespace L2
open PySem PySem.Spec PyProof.Rows

section
variable {X : Cx}
end

end L2

namespace Att
open PySem PySem.W PySem.Calls PyProof.Rows

section
variable {prog : Program} {w : World} {A : Around} {E : Value → Shared → Prop} {s : Shared} {K : Frag}

end
end Att

namespace L2
open PySem PySem.Spec PyProof.Rows

end L2

namespace L2
open PySem PySem.Spec PyProof.Rows

end L2


namespace L2
open PySem PySem.Spec PyProof.Rows

def inClass (s : Stmt) (j : Nat) : Stmt := match s with
  | .ClassDef _ _ _ body _ _ _ _ _ _ _ => body.getD j (.Pass ⟨0, 0, 0, 0⟩)
  | _ => .Pass ⟨0, 0, 0, 0⟩
def defArgs (s : Stmt) : Arguments := match s with
  | .FunctionDef _ a _ _ _ _ _ _ _ _ => a
  | _ => { posonlyargs := [], args := [], vararg := none, kwonlyargs := [], kw_defaults := [], kwarg := none, defaults := [] }
def defBody (s : Stmt) : List Stmt := match s with
  | .FunctionDef _ _ b _ _ _ _ _ _ _ => b
  | _ => []
def defScope (s : Stmt) : Scope := match s with
  | .FunctionDef _ _ _ _ _ _ sc _ _ _ => sc
  | _ => { kind := .function, names := [], isGenerator := false, isCoroutine := false }

abbrev CX0 : CXT := fun _ _ _ _ _ _ => False
abbrev E0 : XK := fun _ _ _ => False
theorem pass0 {X : Cx} : Passes CX0 X E0 := fun _ _ _ _ _ _ _ h => h.elim

structure Fun (K : PySem.W.Frag) (x qual : Str) (st : Stmt) (f : Addr) (fd : FuncData) : Prop where
  ex : ∃ (oc : Value) (od : Option Addr) (kV doc pm : Value) (an : Option Addr) (cdv ct : Value) (osl : Array (Option Value)),
    fd = PySem.W.fnOf x qual (defArgs st) (defBody st) (defScope st) .none kV doc pm an cdv ct ∧ K.lookup f = some ⟨oc, od, .func fd, osl⟩ ∧ PySem.W.codeIn K cdv qual = true
  kp : PySem.W.keepIn K (.ref f) = true
section
variable {P : Program} {w : World} {K : PySem.W.Frag} {mg : Str → Option Value} {base : Heap}
theorem Fun.ok {x qual : Str} {st : Stmt} {f : Addr} {fd : FuncData} {N ps : List Str} {k : Nat} {sp : Sp} (F : Fun K x qual st f fd) (S : FnScope N ps (defScope st)) (len : ∀ vs H Q E, sp vs H Q E → vs.length = ps.length)
    (hbody : ∀ (cdv : Value) (A : Around) (outer : List Env) (s : Shared) (H : Hp) (vs : List V) (Q : VK) (E : XK), Room k (A.deeper (envOfC qual (defScope st) s.heap.objs.size f cdv)) → sp vs H Q E →
      ∃ t, PSs (cxOf CX0 P w K mg base N qual (defScope st) f cdv A outer s H E).nox (defBody st) t ∧ t { nx := fun _ H' => Q .non H', rt := Q } (start N vs) H) : FnOk P w K mg base CX0 (k + 1) f fd ps sp := by
  obtain ⟨oc, od, kV, doc, pm, an, cdv, ct, osl, rfl, lk, hcd⟩ := F.ex
  refine fn_of lk hcd S len fun A outer s H vs Q E hr hsp => ?_
  obtain ⟨t, h, q⟩ := hbody cdv A outer s H vs Q E hr hsp
  exact ⟨t, h.nox, q⟩
theorem Fun.binds {x qual : Str} {st : Stmt} {f : Addr} {fd : FuncData} {ps : List Str} (F : Fun K x qual st f fd)
    (h : ∀ (kV doc pm : Value) (an : Option Addr) (cdv ct : Value) (us : List Value), us.length = ps.length → bindArgs (PySem.W.fnOf x qual (defArgs st) (defBody st) (defScope st) .none kV doc pm an cdv ct) ⟨us, []⟩ = pure (ps.zip us)) : Binds K fd ps [] := by
  obtain ⟨oc, od, kV, doc, pm, an, cdv, ct, osl, rfl, lk, hcd⟩ := F.ex
  exact .all (h kV doc pm an cdv ct)
theorem fun_mk {x qual : Str} {st : Stmt} {f : Addr} {oc : Value} {od an : Option Addr} {osl : Array (Option Value)} {kV doc pm cdv ct : Value} (l : K.lookup f = some ⟨oc, od, .func (PySem.W.fnOf x qual (defArgs st) (defBody st) (defScope st) .none kV doc pm an cdv ct), osl⟩)
    (c : PySem.W.codeIn K cdv qual = true) (k : PySem.W.keepIn K (.ref f) = true) : Fun K x qual st f (PySem.W.fnOf x qual (defArgs st) (defBody st) (defScope st) .none kV doc pm an cdv ct) := ⟨⟨oc, od, kV, doc, pm, an, cdv, ct, osl, rfl, l, c⟩, k⟩
end
theorem hu_of {A : Around} {k : Nat} (hr : Room k A) : A.units + 1 < cLine := Nat.lt_of_le_of_lt (Nat.add_le_add_left (by decide : 1 ≤ 64) _) hr.units
section
variable {X : Cx}
theorem pv (i : Nat) {x : Str} {pos : Pos} (hN : X.N[i]? = some x := by rfl) (hv : Vis X.env.scope x := by first | exact Or.inl rfl | exact Or.inr (Or.inl rfl) | exact Or.inr (Or.inr rfl)) (hd : (x == ("__debug__" : Str)) = false := by decide)
    (hcd : (x == ("__classdict__" : Str)) = false := by decide) : PE X (.Name x pos) (tVar i) := pe_var hN hv hd hcd
end

def Same (H H' : Hp) : Prop := ∀ b o, H b = some o → H' b = some o
theorem Same.refl (H : Hp) : Same H H := fun _ _ h => h
theorem Same.trans {H H1 H2 : Hp} (a : Same H H1) (b : Same H1 H2) : Same H H2 := fun c o h => b c o (a c o h)
theorem Same.free {H H' : Hp} (e : Same H H') {l : Addr} (h : H' l = Option.none) : H l = Option.none := by
  cases q : H l with
  | none => rfl
  | some o =>
    rw [e l o q] at h
    cases h
theorem Same.seq {K : PySem.W.Frag} {H H' : Hp} {a : Addr} {xs : List V} (e : Same H H') (h : SqL K H a xs) : SqL K H' a xs := by
  rcases h with (h | ⟨o, h⟩) | h
  · exact .inl (.inl (e _ _ h))
  · exact .inl (.inr ⟨o, e _ _ h⟩)
  · exact .inr h

section
variable {κ : Type} [DecidableEq κ]
theorem nd_snoc : ∀ {l : List κ} {k : κ}, l.Nodup → ¬ k ∈ l → (l ++ [k]).Nodup
  | [], k, _, _ => by simp
  | a :: r, k, h, hk => by
    obtain ⟨h1, h2⟩ := List.nodup_cons.mp h
    show (a :: (r ++ [k])).Nodup
    refine List.nodup_cons.mpr ⟨fun m => ?_, nd_snoc h2 fun m => hk (List.mem_cons.mpr (Or.inr m))⟩
    rcases List.mem_append.mp m with q | q
    · exact h1 q
    · exact hk (List.mem_cons.mpr (Or.inl (List.mem_singleton.mp q).symm))
end
theorem Same.made {H H1 : Hp} {x dx C : Addr} (nx : H x = Option.none) (nd : H dx = Option.none) (k : ∀ b o, (upd (upd H dx (.own x)) x (.ins C dx [])) b = some o → b ≠ x → H1 b = some o) : Same H H1 := fun b o e =>
  k b o (by rw [upd_ne (ne_of_none e nx), upd_ne (ne_of_none e nd)]; exact e) (ne_of_none e nx)
end L2

section
set_option Elab.async false
set_option linter.all false
set_option maxRecDepth 100000
set_option maxHeartbeats 2000000
namespace L2
open PySem PySem.Spec PyProof.Rows
open PySem.W (WData Codec OpenSpec Well WellAll ReadsW ReadsAllW)
mutual
/-- x stands for the datum d, lists and tuples all the way -/
inductive Dw (K : PySem.W.Frag) (H : Hp) : V → WData → Prop
  | non : Dw K H .non .none
  | bl (b : Bool) : Dw K H (.bl b) (.bool b)
  | int (i : Int) : Dw K H (.int i) (.int i)
  | str (x : Str) : Dw K H (.str x) (.str x)
  | byt (b : Array UInt8) : Dw K H (.byt b) (.bytes b.toList)
  | lst {a : Addr} {xs : List V} {ds : List WData} : SqL K H a xs → DwAll K H xs ds → Dw K H (.ref a) (.list ds)
  | tup {a : Addr} {xs : List V} {ds : List WData} : SqT K H a xs → DwAll K H xs ds → Dw K H (.ref a) (.tuple ds)
inductive DwAll (K : PySem.W.Frag) (H : Hp) : List V → List WData → Prop
  | nil : DwAll K H [] []
  | cons {v : V} {vs : List V} {d : WData} {ds : List WData} : Dw K H v d → DwAll K H vs ds → DwAll K H (v :: vs) (d :: ds)
end
theorem dw_ints {K : PySem.W.Frag} {H : Hp} : ∀ ns : List Int, DwAll K H (ns.map V.int) (ns.map WData.int)
  | [] => .nil
  | n :: r => .cons (.int n) (dw_ints r)
theorem ints_dw {K : PySem.W.Frag} {H : Hp} : ∀ (ns : List Int) (xs : List V), DwAll K H xs (ns.map WData.int) → xs = ns.map V.int
  | [], xs, h => by
    cases h
    rfl
  | n :: r, xs, h => by
    cases h with
    | cons h1 h2 =>
      cases h1
      rw [ints_dw r _ h2] <;> rfl
section
variable {P : Program} {w : World} {K : PySem.W.Frag} {H : Hp} {h : Heap} {R : PySem.W.WRecords} {cl : Str → Option Addr}
theorem sqL_at {a : Addr} {xs : List V} (hok : HOk P w H h) (KX : K.In h) (q : SqL K H a xs) : ∃ (its : List Value) (o : Obj) (n : Nat), Vals xs its ∧ h.get? a = some o ∧ o.cls = .type "list" ∧ o.data = .seq its.toArray n := by
  rcases q with q | ⟨o, its, n, e, hc, _, hd, _, hv⟩
  · obtain ⟨_, its, n, hv, e⟩ := (show ObjOk P w H h a (.lst xs) from q.ok hok)
    exact ⟨its, _, n, hv, e, rfl, rfl⟩
  · exact ⟨its.toList, o, n, hv, KX _ _ e, hc, by simp [hd]⟩
theorem sqT_at {a : Addr} {xs : List V} (hok : HOk P w H h) (KX : K.In h) (q : SqT K H a xs) : ∃ (its : List Value) (o : Obj) (n : Nat), Vals xs its ∧ h.get? a = some o ∧ o.cls = .type "tuple" ∧ o.data = .seq its.toArray n := by
  rcases q with q | ⟨o, its, n, e, hc, hd, _, hv⟩
  · obtain ⟨_, its, hv, o, e, hc, n, hd⟩ := (show ObjOk P w H h a (.tup xs) from q.ok hok)
    exact ⟨its, o, n, hv, e, hc, hd⟩
  · exact ⟨its.toList, o, n, hv, KX _ _ e, hc, by simp [hd]⟩
mutual
theorem Dw.reads (hok : HOk P w H h) (KX : K.In h) : ∀ (d : WData) (v : V) (u : Value), Dw K H v d → RelV v u → ∃ as, ReadsW R cl h u d as
  | .none, _, _, x, r => by
    cases x
    cases r
    exact ⟨_, ReadsW.none⟩
  | .bool b, _, _, x, r => by
    cases x
    cases r
    exact ⟨_, ReadsW.bool b⟩
  | .int i, _, _, x, r => by
    cases x
    obtain ⟨t, rfl⟩ := r
    exact ⟨_, ReadsW.int i t⟩
  | .str s, _, _, x, r => by
    cases x
    obtain ⟨t, rfl⟩ := r
    exact ⟨_, ReadsW.str s t⟩
  | .bytes b, _, _, x, r => by
    cases x
    obtain ⟨t, rfl⟩ := r
    exact ⟨_, ReadsW.bytes _ t⟩
  | .list ds, _, _, x, r => by
    cases x with
    | lst hs ha =>
      cases r
      obtain ⟨its, o, n, rv, ho, hc, hd⟩ := sqL_at hok KX hs
      obtain ⟨as, hr⟩ := Dw.readsAll hok KX ds _ its ha rv
      exact ⟨_, ReadsW.list ho hc hd hr⟩
  | .tuple ds, _, _, x, r => by
    cases x with
    | tup hs ha =>
      cases r
      obtain ⟨its, o, n, rv, ho, hc, hd⟩ := sqT_at hok KX hs
      obtain ⟨as, hr⟩ := Dw.readsAll hok KX ds _ its ha rv
      exact ⟨_, ReadsW.tuple ho hc hd hr⟩
  | .float _, _, _, x, _ => by cases x
  | .dict _, _, _, x, _ => by cases x
  | .bytearray _, _, _, x, _ => by cases x
  | .set _, _, _, x, _ => by cases x
  | .frozenset _, _, _, x, _ => by cases x
  | .obj _ _, _, _, x, _ => by cases x
theorem Dw.readsAll (hok : HOk P w H h) (KX : K.In h) : ∀ (ds : List WData) (vs : List V) (us : List Value), DwAll K H vs ds → Vals vs us → ∃ as, ReadsAllW R cl h us ds as
  | [], _, _, x, r => by
    cases x
    cases r
    exact ⟨_, ReadsAllW.nil⟩
  | d :: ds, _, _, x, r => by
    cases x with
    | cons h1 h2 =>
      cases r with
      | cons r1 r2 =>
        obtain ⟨as, q1⟩ := Dw.reads hok KX d _ _ h1 r1
        obtain ⟨bs, q2⟩ := Dw.readsAll hok KX ds _ _ h2 r2
        exact ⟨_, ReadsAllW.cons q1 q2⟩
end
end
mutual
/-- data that a codec tells -/
def plW : WData → Bool
  | .none => true
  | .bool _ => true
  | .int _ => true
  | .str _ => true
  | .bytes _ => true
  | .list xs => plWs xs
  | .tuple xs => plWs xs
  | _ => false
def plWs : List WData → Bool
  | [] => true
  | x :: r => plW x && plWs r
end
theorem plWs_map {α : Type} {f : α → WData} (h : ∀ a, plW (f a) = true) : ∀ l : List α, plWs (l.map f) = true
  | [] => rfl
  | x :: r => by
    show (plW (f x) && plWs (r.map f)) = true
    rw [h x, plWs_map h r] <;> rfl
theorem pl_enc : ∀ (c : Codec) (a : c.denote), plW (c.enc a) = true
  | .unit, _ => rfl
  | .bool, _ => rfl
  | .int _ _, _ => rfl
  | .nat _ _, _ => rfl
  | .u8, _ => rfl
  | .bytes _ _, _ => rfl
  | .text _ _ _ _, _ => rfl
  | .list _ _ c, a => plWs_map (fun x => pl_enc c x) a
  | .pair c d, a => by
    show (plW (c.enc a.1) && (plW (d.enc a.2) && true)) = true
    rw [pl_enc c a.1, pl_enc d a.2] <;> rfl
  | .triple c d e, a => by
    show (plW (c.enc a.1) && (plW (d.enc a.2.1) && (plW (e.enc a.2.2) && true))) = true
    rw [pl_enc c a.1, pl_enc d a.2.1, pl_enc e a.2.2] <;> rfl
  | .option c, none => rfl
  | .option c, some x => pl_enc c x
theorem pl_encAll : ∀ (cs : List Codec) (a : Codec.denoteAll cs), plWs (Codec.encAll cs a) = true
  | [], _ => rfl
  | c :: cs, a => by
    show (plW (c.enc a.1) && plWs (Codec.encAll cs a.2)) = true
    rw [pl_enc c a.1, pl_encAll cs a.2] <;> rfl
theorem weight_mem : ∀ {xs : List WData} {d : WData}, d ∈ xs → d.weight ≤ WData.weightAll xs
  | [], d, h => absurd h (by simp)
  | x :: r, d, h => by
    show d.weight ≤ x.weight + 1 + WData.weightAll r
    rcases List.mem_cons.mp h with e | m
    · rw [e]
      omega
    · have z := weight_mem m
      omega
def toV : Value → V
  | .none => .non
  | .bool b => .bl b
  | .int i _ => .int i
  | .str x _ => .str x
  | .bytes b _ => .byt b
  | .ref a => .ref a
  | _ => .non
def OkU (A : List Addr) : Value → Prop
  | .none => True
  | .bool _ => True
  | .int _ _ => True
  | .str _ _ => True
  | .bytes _ _ => True
  | .ref a => a ∈ A
  | _ => False
theorem OkU.mono {A B : List Addr} (h : ∀ a ∈ A, a ∈ B) : ∀ {u : Value}, OkU A u → OkU B u := fun {u} x => by
  cases u with
  | ref a => exact h a x
  | none => trivial
  | bool b => trivial
  | int i t => trivial
  | str s t => trivial
  | bytes b t => trivial
  | _ => exact False.elim x
theorem relV_toV {A : List Addr} {u : Value} (x : OkU A u) : RelV (toV u) u := by
  cases u with
  | ref a => rfl
  | none => rfl
  | bool b => rfl
  | int i t => exact ⟨t, rfl⟩
  | str s t => exact ⟨t, rfl⟩
  | bytes b t => exact ⟨t, rfl⟩
  | _ => exact False.elim x
theorem vals_toV {A : List Addr} : ∀ {vs : List Value}, (∀ u ∈ vs, OkU A u) → Vals (vs.map toV) vs
  | [], _ => .nil
  | u :: r, h => .cons (relV_toV (h u (List.mem_cons_self ..))) (vals_toV fun x hx => h x (List.mem_cons_of_mem _ hx))
def ArgOb (h : Heap) (A : List Addr) (a : Addr) : Prop := ∃ vs : List Value, vs.length ≤ sizeLine ∧ (∀ u ∈ vs, OkU A u) ∧
  (h.get? a = some { cls := .type "list", data := .seq vs.toArray } ∨ h.get? a = some { cls := .type "tuple", data := .seq vs.toArray })
theorem ArgOb.mono {h : Heap} {A B : List Addr} {a : Addr} (k : ∀ a ∈ A, a ∈ B) (x : ArgOb h A a) : ArgOb h B a := by
  obtain ⟨vs, h1, h2, h3⟩ := x
  exact ⟨vs, h1, fun u hu => (h2 u hu).mono k, h3⟩
theorem wellAll_len {P : Params} {h : Heap} : ∀ {vs : List Value} {ds : List WData}, WellAll P h vs ds → vs.length = ds.length
  | _, _, .nil => rfl
  | _, _, .cons _ b => by
    show _ + 1 = _ + 1
    rw [wellAll_len b]
theorem well_list {P : Params} {h : Heap} {v : Value} {ds : List WData} (x : Well P h v (.list ds)) : ∃ (a : Addr) (vs : List Value), v = .ref a ∧ h.get? a = some { cls := .type "list", data := .seq vs.toArray } ∧ WellAll P h vs ds := by
  cases x with
  | list ho hall => exact ⟨_, _, rfl, ho, hall⟩
theorem well_tuple {P : Params} {h : Heap} {v : Value} {ds : List WData} (x : Well P h v (.tuple ds)) : ∃ (a : Addr) (vs : List Value), v = .ref a ∧ h.get? a = some { cls := .type "tuple", data := .seq vs.toArray } ∧ WellAll P h vs ds := by
  cases x with
  | tuple ho hall => exact ⟨_, _, rfl, ho, hall⟩
theorem well_cons {P : Params} {h : Heap} {us : List Value} {d : WData} {ds : List WData} (x : WellAll P h us (d :: ds)) : ∃ (v : Value) (vs : List Value), us = v :: vs ∧ Well P h v d ∧ WellAll P h vs ds := by
  cases x with
  | cons a b => exact ⟨_, _, rfl, a, b⟩
theorem line_of {n : Nat} (h : n ≤ 1048576) : n ≤ sizeLine := Nat.le_trans h (by decide)
section
variable {P : Params} {h : Heap}
mutual
theorem area_one : ∀ (d : WData) (v : Value), Well P h v d → plW d = true → d.weight ≤ 1048576 → ∃ A : List Addr, OkU A v ∧ ∀ a ∈ A, ArgOb h A a
  | .none, _, x, _, _ => by
    cases x
    exact ⟨[], trivial, fun a m => absurd m (by simp)⟩
  | .bool b, _, x, _, _ => by
    cases x
    exact ⟨[], trivial, fun a m => absurd m (by simp)⟩
  | .int i, _, x, _, _ => by
    cases x
    exact ⟨[], trivial, fun a m => absurd m (by simp)⟩
  | .str s, _, x, _, _ => by
    cases x
    exact ⟨[], trivial, fun a m => absurd m (by simp)⟩
  | .bytes b, _, x, _, _ => by
    cases x
    exact ⟨[], trivial, fun a m => absurd m (by simp)⟩
  | .list ds, _, x, p, z => by
    obtain ⟨a, vs, rfl, ho, hall⟩ := well_list x
    have z2 : WData.weightAll ds ≤ 1048576 := z
    obtain ⟨A, h1, h2⟩ := area_all ds _ hall p fun d hd => Nat.le_trans (weight_mem hd) z2
    have k : ∀ b ∈ A, b ∈ a :: A := fun b hb => List.mem_cons_of_mem _ hb
    refine ⟨a :: A, List.mem_cons_self .., fun b hb => ?_⟩
    rcases List.mem_cons.mp hb with e | m
    · rw [e]
      exact ⟨vs, line_of (by rw [wellAll_len hall]; exact Nat.le_trans (PySem.W.length_le_weightAllW ds) z2), fun u hu => (h1 u hu).mono k, .inl ho⟩
    · exact (h2 b m).mono k
  | .tuple ds, _, x, p, z => by
    obtain ⟨a, vs, rfl, ho, hall⟩ := well_tuple x
    have z2 : WData.weightAll ds ≤ 1048576 := z
    obtain ⟨A, h1, h2⟩ := area_all ds _ hall p fun d hd => Nat.le_trans (weight_mem hd) z2
    have k : ∀ b ∈ A, b ∈ a :: A := fun b hb => List.mem_cons_of_mem _ hb
    refine ⟨a :: A, List.mem_cons_self .., fun b hb => ?_⟩
    rcases List.mem_cons.mp hb with e | m
    · rw [e]
      exact ⟨vs, line_of (by rw [wellAll_len hall]; exact Nat.le_trans (PySem.W.length_le_weightAllW ds) z2), fun u hu => (h1 u hu).mono k, .inr ho⟩
    · exact (h2 b m).mono k
  | .float _, _, _, p, _ => Bool.noConfusion (show false = true from p)
  | .dict _, _, _, p, _ => Bool.noConfusion (show false = true from p)
  | .bytearray _, _, _, p, _ => Bool.noConfusion (show false = true from p)
  | .set _, _, _, p, _ => Bool.noConfusion (show false = true from p)
  | .frozenset _, _, _, p, _ => Bool.noConfusion (show false = true from p)
  | .obj _ _, _, _, p, _ => Bool.noConfusion (show false = true from p)
theorem area_all : ∀ (ds : List WData) (vs : List Value), WellAll P h vs ds → plWs ds = true → (∀ d ∈ ds, d.weight ≤ 1048576) → ∃ A : List Addr, (∀ u ∈ vs, OkU A u) ∧ ∀ a ∈ A, ArgOb h A a
  | [], _, x, _, _ => by
    cases x
    exact ⟨[], fun u m => absurd m (by simp), fun a m => absurd m (by simp)⟩
  | d :: ds, _, x, p, z => by
    obtain ⟨v, vs, rfl, x1, x2⟩ := well_cons x
    have q : plW d = true ∧ plWs ds = true := Bool.and_eq_true_iff.mp p
    obtain ⟨A, a1, a2⟩ := area_one d v x1 q.1 (z d (List.mem_cons_self ..))
    obtain ⟨B, b1, b2⟩ := area_all ds vs x2 q.2 fun e he => z e (List.mem_cons_of_mem _ he)
    have kA : ∀ b ∈ A, b ∈ A ++ B := fun b hb => List.mem_append.mpr (.inl hb)
    have kB : ∀ b ∈ B, b ∈ A ++ B := fun b hb => List.mem_append.mpr (.inr hb)
    refine ⟨A ++ B, fun u hu => ?_, fun b hb => ?_⟩
    · rcases List.mem_cons.mp hu with e | m
      · rw [e]
        exact a1.mono kA
      · exact (b1 u m).mono kB
    · rcases List.mem_append.mp hb with m | m
      · exact (a2 b m).mono kA
      · exact (b2 b m).mono kB
end
end
def hoOf (o : Obj) : Option HO := match o.data with
  | .seq vs _ => if (o.cls == Value.type "list") = true then some (.frz o (.lst (vs.toList.map toV))) else some (.frz o (.tup (vs.toList.map toV)))
  | _ => none
def argH (K : PySem.W.Frag) (h : Heap) (A : List Addr) : Hp := fun b => if b ∈ A then (if (K.lookup b).isNone = true then (h.get? b).bind hoOf else none) else none
def OnlyF (H : Hp) : Prop := ∀ b, H b = none ∨ ∃ o u, H b = some (.frz o u)
theorem hoOf_lst (vs : List Value) : hoOf { cls := .type "list", data := .seq vs.toArray } = some (.frz { cls := .type "list", data := .seq vs.toArray } (.lst (vs.map toV))) := by
  show (if (Value.type "list" == Value.type "list") = true then some (HO.frz { cls := .type "list", data := .seq vs.toArray } (.lst (vs.toArray.toList.map toV))) else some (HO.frz { cls := .type "list", data := .seq vs.toArray } (.tup (vs.toArray.toList.map toV)))) = _
  rw [if_pos (beq_self_eq_true _)]
theorem hoOf_tup (vs : List Value) : hoOf { cls := .type "tuple", data := .seq vs.toArray } = some (.frz { cls := .type "tuple", data := .seq vs.toArray } (.tup (vs.map toV))) := by
  show (if (Value.type "tuple" == Value.type "list") = true then some (HO.frz { cls := .type "tuple", data := .seq vs.toArray } (.lst (vs.toArray.toList.map toV))) else some (HO.frz { cls := .type "tuple", data := .seq vs.toArray } (.tup (vs.toArray.toList.map toV)))) = _
  rw [if_neg (by decide)]
section
variable {P : Program} {w : World} {K : PySem.W.Frag} {h : Heap} {A : List Addr}
theorem argH_at {b : Addr} {o : Obj} (hb : b ∈ A) (hk : K.lookup b = none) (e : h.get? b = some o) : argH K h A b = hoOf o := by
  unfold argH
  rw [if_pos hb, hk, if_pos (show (none : Option Obj).isNone = true from rfl), e] <;> rfl
theorem of_argH {b : Addr} {u : HO} (q : argH K h A b = some u) : b ∈ A ∧ K.lookup b = none := by
  unfold argH at q
  by_cases hb : b ∈ A
  · rw [if_pos hb] at q
    cases hk : K.lookup b with
    | none => exact ⟨hb, rfl⟩
    | some o =>
      rw [hk, if_neg (by simp)] at q
      cases q
  · rw [if_neg hb] at q
    cases q
theorem argH_is (ar : ∀ a ∈ A, ArgOb h A a) {b : Addr} {u : HO} (q : argH K h A b = some u) : K.lookup b = none ∧ ∃ vs : List Value, vs.length ≤ sizeLine ∧ (∀ u ∈ vs, OkU A u) ∧
    ((h.get? b = some { cls := .type "list", data := .seq vs.toArray } ∧ u = .frz { cls := .type "list", data := .seq vs.toArray } (.lst (vs.map toV))) ∨
     (h.get? b = some { cls := .type "tuple", data := .seq vs.toArray } ∧ u = .frz { cls := .type "tuple", data := .seq vs.toArray } (.tup (vs.map toV)))) := by
  obtain ⟨hb, hk⟩ := of_argH q
  obtain ⟨vs, h1, h2, h3⟩ := ar b hb
  refine ⟨hk, vs, h1, h2, ?_⟩
  rcases h3 with e | e
  · rw [argH_at hb hk e, hoOf_lst] at q
    exact .inl ⟨e, (Option.some.inj q).symm⟩
  · rw [argH_at hb hk e, hoOf_tup] at q
    exact .inr ⟨e, (Option.some.inj q).symm⟩
theorem argH_only (ar : ∀ a ∈ A, ArgOb h A a) : OnlyF (argH K h A) := fun b => by
  cases q : argH K h A b with
  | none => exact .inl rfl
  | some u =>
    obtain ⟨_, vs, _, _, ⟨_, e⟩ | ⟨_, e⟩⟩ := argH_is ar q
    · exact .inr ⟨_, _, by rw [e]⟩
    · exact .inr ⟨_, _, by rw [e]⟩
theorem argH_ok (ar : ∀ a ∈ A, ArgOb h A a) : HOk P w (argH K h A) h := fun b u q => by
  obtain ⟨_, vs, h1, h2, ⟨e, rfl⟩ | ⟨e, rfl⟩⟩ := argH_is ar q
  · exact ⟨e, by rw [List.length_map]; exact h1, vs, _, vals_toV h2, e⟩
  · exact ⟨e, by rw [List.length_map]; exact h1, vs, vals_toV h2, _, e, rfl, _, rfl⟩
theorem seq_inj {c c' : Value} {vs us : List Value} (e : (some { cls := c, data := .seq vs.toArray } : Option Obj) = some { cls := c', data := .seq us.toArray }) : c = c' ∧ vs = us := by
  have e1 := Option.some.inj e
  have e2 : c = c' := congrArg Obj.cls e1
  have e3 : Data.seq vs.toArray = Data.seq us.toArray := congrArg Obj.data e1
  injection e3 with e4
  refine ⟨e2, ?_⟩
  have e5 := congrArg Array.toList e4
  simpa using e5
theorem argL (KX : K.In h) (ar : ∀ a ∈ A, ArgOb h A a) {a : Addr} {vs : List Value} (ha : a ∈ A) (e : h.get? a = some { cls := .type "list", data := .seq vs.toArray }) : (∀ u ∈ vs, OkU A u) ∧ SqL K (argH K h A) a (vs.map toV) := by
  obtain ⟨us, h1, h2, h3⟩ := ar a ha
  have hu : us = vs := by
    rcases h3 with q | q
    · rw [e] at q
      exact (seq_inj q).2.symm
    · rw [e] at q
      exact absurd (Value.type.inj (seq_inj q).1) (by decide)
  subst hu
  refine ⟨h2, ?_⟩
  cases hk : K.lookup a with
  | none => exact .inl (.inr ⟨_, by rw [argH_at ha hk e, hoOf_lst]⟩)
  | some o =>
    have e2 := KX a o hk
    rw [e] at e2
    obtain rfl := Option.some.inj e2
    exact .inr ⟨_, us.toArray, _, hk, rfl, rfl, rfl, by rw [List.size_toArray]; exact h1, by simpa using vals_toV h2⟩
theorem argT (KX : K.In h) (ar : ∀ a ∈ A, ArgOb h A a) {a : Addr} {vs : List Value} (ha : a ∈ A) (e : h.get? a = some { cls := .type "tuple", data := .seq vs.toArray }) : (∀ u ∈ vs, OkU A u) ∧ SqT K (argH K h A) a (vs.map toV) := by
  obtain ⟨us, h1, h2, h3⟩ := ar a ha
  have hu : us = vs := by
    rcases h3 with q | q
    · rw [e] at q
      exact absurd (Value.type.inj (seq_inj q).1) (by decide)
    · rw [e] at q
      exact (seq_inj q).2.symm
  subst hu
  refine ⟨h2, ?_⟩
  cases hk : K.lookup a with
  | none => exact .inl (.inr ⟨_, by rw [argH_at ha hk e, hoOf_tup]⟩)
  | some o =>
    have e2 := KX a o hk
    rw [e] at e2
    obtain rfl := Option.some.inj e2
    exact .inr ⟨_, us.toArray, _, hk, rfl, rfl, by rw [List.size_toArray]; exact h1, by simpa using vals_toV h2⟩
mutual
theorem dw_one {Pm : Params} (KX : K.In h) (ar : ∀ a ∈ A, ArgOb h A a) : ∀ (d : WData) (v : Value), Well Pm h v d → plW d = true → OkU A v → Dw K (argH K h A) (toV v) d
  | .none, _, x, _, _ => by
    cases x
    exact .non
  | .bool b, _, x, _, _ => by
    cases x
    exact .bl b
  | .int i, _, x, _, _ => by
    cases x
    exact .int i
  | .str s, _, x, _, _ => by
    cases x
    exact .str s
  | .bytes b, _, x, _, _ => by
    cases x
    have z := Dw.byt (K := K) (H := argH K h A) b.toArray
    exact z
  | .list ds, _, x, p, hu => by
    obtain ⟨a, vs, rfl, ho, hall⟩ := well_list x
    obtain ⟨h2, hs⟩ := argL KX ar hu ho
    exact .lst hs (dw_all KX ar ds _ hall p h2)
  | .tuple ds, _, x, p, hu => by
    obtain ⟨a, vs, rfl, ho, hall⟩ := well_tuple x
    obtain ⟨h2, hs⟩ := argT KX ar hu ho
    exact .tup hs (dw_all KX ar ds _ hall p h2)
  | .float _, _, _, p, _ => Bool.noConfusion (show false = true from p)
  | .dict _, _, _, p, _ => Bool.noConfusion (show false = true from p)
  | .bytearray _, _, _, p, _ => Bool.noConfusion (show false = true from p)
  | .set _, _, _, p, _ => Bool.noConfusion (show false = true from p)
  | .frozenset _, _, _, p, _ => Bool.noConfusion (show false = true from p)
  | .obj _ _, _, _, p, _ => Bool.noConfusion (show false = true from p)
theorem dw_all {Pm : Params} (KX : K.In h) (ar : ∀ a ∈ A, ArgOb h A a) : ∀ (ds : List WData) (vs : List Value), WellAll Pm h vs ds → plWs ds = true → (∀ u ∈ vs, OkU A u) → DwAll K (argH K h A) (vs.map toV) ds
  | [], _, x, _, _ => by
    cases x
    exact .nil
  | d :: ds, _, x, p, hu => by
    obtain ⟨v, vs, rfl, x1, x2⟩ := well_cons x
    have q : plW d = true ∧ plWs ds = true := Bool.and_eq_true_iff.mp p
    exact .cons (dw_one KX ar d v x1 q.1 (hu _ (List.mem_cons_self ..))) (dw_all KX ar ds vs x2 q.2 fun u m => hu u (List.mem_cons_of_mem _ m))
end
end
theorem spec_call {P : Program} {w : World} {K : PySem.W.Frag} {mg mb : Str → Option Value} {CX : CXT} {k : Nat} {fa : Addr} {fd : FuncData} {ps : List Str} {sp : Sp} {s₁ : Shared} {vals : List Value} {ds : List WData} {R : PySem.W.WRecords} {cl : Str → Option Addr} {d0 : WData}
    (KX : K.In s₁.heap) (hns : s₁.heap.Ns mainGlobals mg) (hb : s₁.heap.Ns builtinsNs mb) (hbb : ∀ x : Str, x ≠ "__name__" → mb x = bootBuiltins x) (hlim : s₁.heap.NoLimit) (hg : s₁.gens = #[])
    (hwl : WellAll w.params s₁.heap vals ds) (hpl : plWs ds = true) (hwt : ∀ d ∈ ds, d.weight ≤ 1048576) (hr : Room k callerA)
    (F : ∀ base : Heap, K.In base → base.Ns mainGlobals mg → FnOk P w K mg base CX k fa fd ps sp) (hbind : ∀ (s : Shared) (us : List Value), us.length = ps.length → BindsTo s fd ⟨us, []⟩ (ps.zip us)) (hlen : ds.length = ps.length)
    (hsp : ∀ (H : Hp) (xs : List V), OnlyF H → DwAll K H xs ds → sp xs H (fun v H' => Dw K H' v d0) fun _ _ _ => False)
    (hCX : ∀ H e s', CX [] H s₁ (fun _ _ _ => False) e s' → False) :
    codeAny (model P w) callerA (.call (.ref fa) ⟨vals, []⟩) (fun r s' => ∃ u as, r = .ok (.ret u) ∧ ReadsW R cl s'.heap u d0 as ∧ OldK s₁.heap s'.heap ∧ s'.os = s₁.os ∧ AllBare s'.gens) s₁ := by
  obtain ⟨A, ho, ar⟩ := area_all ds vals hwl hpl hwt
  have hO : OnlyF (argH K s₁.heap A) := argH_only ar
  have hok : HOk P w (argH K s₁.heap A) s₁.heap := argH_ok ar
  have hS := dw_all KX ar ds vals hwl hpl ho
  have hV := vals_toV ho
  have hK : ∀ b u, argH K s₁.heap A b = some u → K.lookup b = none := fun b u q => (argH_is ar q).1
  have noA : ∀ {b : Addr} {o : Obj} {es : Array DictEntry} {ep : Nat}, s₁.heap.get? b = some o → o.data = .dict es ep → argH K s₁.heap A b = none := fun {b o es ep} e d => by
    cases q : argH K s₁.heap A b with
    | none => rfl
    | some u =>
      obtain ⟨_, vs, _, _, ⟨e2, _⟩ | ⟨e2, _⟩⟩ := argH_is ar q
      · rw [e2] at e
        cases e
        have d' : Data.seq vs.toArray _ = Data.dict es ep := d
        cases d'
      · rw [e2] at e
        cases e
        have d' : Data.seq vs.toArray _ = Data.dict es ep := d
        cases d'
  generalize argH K s₁.heap A = H at hO hok hS hK noA
  have base_of : ∀ {b : Addr} {o : Obj}, s₁.heap.get? b = some o → H b = none → (hidT s₁.heap H).get? b = some o := fun e n => hidT_get e n
  have nsK : ∀ {b : Addr} {m : Str → Option Value}, s₁.heap.Ns b m → (hidT s₁.heap H).Ns b m := fun {b m} ⟨o, es, ep, e, d, r⟩ => ⟨o, es, ep, base_of e (noA e d), d, r⟩
  have nK : ∀ b o, K.lookup b = some o → H b = none := fun b o e => by
    cases q : H b with
    | none => rfl
    | some u =>
      rw [hK b u q] at e
      cases e
  have hKb : K.In (hidT s₁.heap H) := fun b o e => base_of (KX b o e) (nK b o e)
  have hM : Mod K mg (hidT s₁.heap H) := ⟨hKb, nsK hns, ⟨mb, nsK hb, hbb⟩, let ⟨mc, h1, h2⟩ := hlim; ⟨mc, nsK h1, h2⟩⟩
  have e0 : Env0 P w K mg (hidT s₁.heap H) callerA [] s₁ H := ⟨rfl, hM, fun b o e => of_hidT e, Nat.le_of_eq (hidT_size _ _), trivial, fun b hb => absurd (show b ∈ ([] : List Addr) from hb) (by simp), hok, .of_eq hg⟩
  have hl : vals.length = ps.length := by rw [wellAll_len hwl]; exact hlen
  refine codeAny_mono ((F _ hKb (nsK hns)).run callerA [] s₁ H ⟨vals, []⟩ vals (vals.map toV) _ _ hr e0 (hbind s₁ vals hl) hV (hsp H _ hO hS)) fun r s' x => ?_
  cases r with
  | error e => exact (hCX H e s' x).elim
  | ok fl =>
    cases fl with
    | next => exact False.elim x
    | brk => exact False.elim x
    | cont => exact False.elim x
    | ret u =>
      obtain ⟨v, H', os, bare, un, hok', r', q⟩ := x
      have kept : ∀ b o, s₁.heap.get? b = some o → s'.heap.get? b = some o := fun b o e => by
        cases q2 : H b with
        | none => exact un.keep b o e q2 (by intro z; exact absurd (show b ∈ ([] : List Addr) from z) (by simp)) (by simp)
        | some u2 =>
          rcases hO b with z | ⟨ob, u3, z⟩
          · rw [q2] at z
            cases z
          · have z2 := un.frzs b ob _ z
            obtain ⟨e1, _⟩ := hok b _ z
            obtain ⟨e2, _⟩ := hok' b _ z2
            rw [e] at e1
            cases e1
            exact e2
      have KX' : K.In s'.heap := fun b o e => kept b o (KX b o e)
      obtain ⟨as, hrd⟩ := Dw.reads (R := R) (cl := cl) hok' KX' d0 v u q r'
      exact ⟨u, as, rfl, hrd, OldK.of_keep kept, os, bare⟩
theorem layable_weight {ds : List WData} (h : WData.layableAll ds = true) : ∀ d ∈ ds, d.weight ≤ 1048576 := fun d hd =>
  (PySem.W.layableW_iff.mp (List.all_eq_true.mp h d hd)).2.2
theorem encAll_len : ∀ (cs : List Codec) (a : Codec.denoteAll cs), (Codec.encAll cs a).length = cs.length
  | [], _ => rfl
  | c :: cs, a => by
    show (Codec.encAll cs a.2).length + 1 = cs.length + 1
    rw [encAll_len cs a.2]
theorem walk_spec {r : OpenSpec} {k : Nat} {q : Program} {loose : List Str} {XP : (Str → Option Value) → Heap → Prop} {YP : World → Heap → Prop} {d : DefRec} {K : Params → PySem.W.Frag} {CX : World → CXT} {ps : List Str} {sp : World → Sp}
    (hwell : r.wellSaid = true) (hdf : d.params.defaults = []) (hlen : r.args.length = ps.length) (hr : Room k callerA)
    (hY : ∀ (w : World) (h : Heap), YP w h → (K w.params).In h)
    (F : ∀ (w : World) (mg : Str → Option Value) (fa : Addr) (h : Heap), YP w h → (K w.params).In h → h.Ns mainGlobals mg → mg d.name = some (.ref fa) →
      ∃ fd : FuncData, (∀ (s : Shared) (us : List Value), us.length = ps.length → BindsTo s fd ⟨us, []⟩ (ps.zip us)) ∧
        ∀ base : Heap, (K w.params).In base → base.Ns mainGlobals mg → FnOk r.prog w (K w.params) mg base (CX w) k fa fd ps (sp w))
    (hsp : ∀ (w : World) (H : Hp) (xs : List V) (a : Codec.denoteAll r.args), OnlyF H → Codec.withinAll r.args a = true → Codec.app r.args r.asked a = true → DwAll (K w.params) H xs (Codec.encAll r.args a) →
      sp w xs H (fun v H' => Dw (K w.params) H' v (r.ret.enc (Codec.app r.args r.f a))) fun _ _ _ => False)
    (hCX : ∀ (w : World) (H : Hp) (s : Shared) (e : Value) (s' : Shared), CX w [] H s (fun _ _ _ => False) e s' → False) :
    PySem.W.WalkOS q loose XP YP r d [] (fun f vs => PySem.call f vs) := by
  intro w s_0 s₁ mg mb G Y fa o pm cd doc dV kV ho hd hcd hD hmg hg args vals as hpre hlay hrd hwl hlo
  obtain ⟨a, e1, e2⟩ := PySem.W.os_pre_some hpre
  obtain ⟨e3, hwi⟩ := Codec.encAll_of_decAll r.args args a e1
  subst e3
  have KX := hY w _ Y
  obtain ⟨fd, hb, hF⟩ := F w mg fa _ Y KX G.T.g hmg
  refine PySem.W.enter_call (codeAny_mono (spec_call (R := []) (cl := classAt s_0.heap) (d0 := r.ret.enc (Codec.app r.args r.f a)) KX G.T.g G.T.b G.T.builtins G.T.nolimit hg hwl (pl_encAll _ _) (layable_weight hlay) hr hF hb (by rw [encAll_len]; exact hlen)
    (fun H xs hO hS => hsp w H xs a hO hwi e2 hS) fun H e s' => hCX w H s₁ e s') fun r' s' hq => ?_)
  obtain ⟨u, as', rfl, h1, h2, h3, h4⟩ := hq
  exact ⟨.inl ⟨u, _, as', rfl, fun _ => rfl, h1, (OpenSpec.post_iff hwell hwi _ _).mpr rfl, fun z => Bool.noConfusion (show false = true from z)⟩, h2, h3, h4⟩
theorem walk_specK {r : OpenSpec} {k : Nat} {q : Program} {loose : List Str} {XP : (Str → Option Value) → Heap → Prop} {YP : World → Heap → Prop} {d : DefRec} {K : Params → PySem.W.Frag} {CX : CXT} {ps : List Str} {sp : PySem.W.Frag → Sp}
    (hwell : r.wellSaid = true) (hdf : d.params.defaults = []) (hlen : r.args.length = ps.length) (hr : Room k callerA)
    (hY : ∀ (w : World) (h : Heap), YP w h → (K w.params).In h)
    (F : ∀ (w : World) (mg : Str → Option Value) (fa : Addr) (h : Heap), YP w h → (K w.params).In h → h.Ns mainGlobals mg → mg d.name = some (.ref fa) →
      ∃ fd : FuncData, (∀ (s : Shared) (us : List Value), us.length = ps.length → BindsTo s fd ⟨us, []⟩ (ps.zip us)) ∧
        ∀ base : Heap, (K w.params).In base → base.Ns mainGlobals mg → FnOk r.prog w (K w.params) mg base CX k fa fd ps (sp (K w.params)))
    (hsp : ∀ (K : PySem.W.Frag) (H : Hp) (xs : List V) (a : Codec.denoteAll r.args), OnlyF H → Codec.withinAll r.args a = true → Codec.app r.args r.asked a = true → DwAll K H xs (Codec.encAll r.args a) →
      sp K xs H (fun v H' => Dw K H' v (r.ret.enc (Codec.app r.args r.f a))) fun _ _ _ => False)
    (hCX : ∀ (H : Hp) (s : Shared) (e : Value) (s' : Shared), CX [] H s (fun _ _ _ => False) e s' → False) :
    PySem.W.WalkOS q loose XP YP r d [] (fun f vs => PySem.call f vs) :=
  walk_spec (K := K) (CX := fun _ => CX) (sp := fun w => sp (K w.params)) hwell hdf hlen hr hY F (fun w H xs a h1 h2 h3 h4 => hsp (K w.params) H xs a h1 h2 h3 h4) fun _ H s e s' => hCX H s e s'
end L2
-- rests on (row put in by the clerk, for the bench that shows a file only what it spells): KE.SpHead KE.OsShapes
end

/-! The document's functions, read anew: free minutes, open minutes, the next one, shuts. -/
namespace RC
open Kh343

theorem runs_iff {l : List (Nat × Nat)} {t : Nat} : runs l t = true ↔ ∃ x ∈ l, x.1 ≤ t ∧ t < x.1 + x.2 := by
  simp [runs, List.any_eq_true]

/-- a gap of n minutes begins at s -/
def FreeAt (d : Nat) (l : List (Nat × Nat)) (n s : Nat) : Prop := ∀ u, s ≤ u → u < s + n → (d ≤ u ∨ runs l u = false)

theorem freeFrom_le (d : Nat) (l : List (Nat × Nat)) : ∀ (n t : Nat), freeFrom d l n t ≤ n
  | 0, _ => by simp [freeFrom]
  | n + 1, t => by
    have := freeFrom_le d l n (t + 1)
    unfold freeFrom
    split
    · omega
    · split <;> omega

theorem freeFrom_iff (d : Nat) (l : List (Nat × Nat)) : ∀ (n t : Nat), n ≤ freeFrom d l n t ↔ FreeAt d l n t
  | 0, t => by
    simp [freeFrom, FreeAt]
    intro u h1 h2
    omega
  | n + 1, t => by
    have ih := freeFrom_iff d l n (t + 1)
    unfold freeFrom
    split
    · rename_i h
      constructor
      · intro _ u h1 h2
        exact .inl (by omega)
      · intro _
        omega
    · rename_i h
      split
      · rename_i h2
        constructor
        · intro q
          omega
        · intro q
          rcases q t (by omega) (by omega) with q | q
          · omega
          · rw [h2] at q
            cases q
      · rename_i h2
        have e : (n + 1 ≤ 1 + freeFrom d l n (t + 1)) ↔ (n ≤ freeFrom d l n (t + 1)) := by omega
        rw [e, ih]
        constructor
        · intro q u h3 h4
          by_cases e : u = t
          · subst e
            exact .inr (by simpa using h2)
          · exact q u (by omega) (by omega)
        · intro q u h3 h4
          exact q u (by omega) (by omega)

theorem open_iff {a : Abs} {l : List (Nat × Nat)} {t : Nat} : open_ a l t = true ↔ ∃ s, s ≤ t ∧ t < s + a.need ∧ FreeAt a.day l a.need s := by
  unfold open_
  rw [List.any_eq_true]
  constructor
  · rintro ⟨k, hk, h⟩
    rw [List.mem_range] at hk
    rw [Bool.and_eq_true, decide_eq_true_iff, decide_eq_true_iff, freeFrom_iff] at h
    exact ⟨t - k, by omega, by omega, h.2⟩
  · rintro ⟨s, h1, h2, h3⟩
    refine ⟨t - s, List.mem_range.mpr (by omega), ?_⟩
    rw [Bool.and_eq_true, decide_eq_true_iff, decide_eq_true_iff, freeFrom_iff]
    have e : t - (t - s) = s := by omega
    rw [e]
    exact ⟨by omega, h3⟩

/-- spans lie within the day -/
def Within (d : Nat) (l : List (Nat × Nat)) : Prop := ∀ x ∈ l, x.1 + x.2 ≤ d
theorem runs_out {d : Nat} {l : List (Nat × Nat)} (h : Within d l) {t : Nat} (ht : d ≤ t) : runs l t = false := by
  cases e : runs l t with
  | false => rfl
  | true =>
    obtain ⟨x, hx, h1, h2⟩ := runs_iff.mp e
    have := h x hx
    omega

/-! the next minute -/
theorem next_ge (a : Abs) (c : Nat) : ∀ (n t : Nat), t ≤ next a c n t
  | 0, t => by simp [next]
  | n + 1, t => by
    unfold next
    split
    · omega
    · have := next_ge a c n (t + 1)
      omega
theorem next_no (a : Abs) (c : Nat) : ∀ (n t u : Nat), t ≤ u → u < next a c n t → u < a.day ∧ open_ a (spansOf a c) u = false
  | 0, t, u, h1, h2 => by simp [next] at h2; omega
  | n + 1, t, u, h1, h2 => by
    unfold next at h2
    split at h2
    · omega
    · rename_i h
      by_cases e : u = t
      · subst e
        constructor
        · apply Nat.lt_of_not_le
          exact fun q => h (.inl q)
        · cases q : open_ a (spansOf a c) u with
          | false => rfl
          | true => exact absurd (.inr q) h
      · exact next_no a c n (t + 1) u (by omega) h2
theorem next_yes (a : Abs) (c : Nat) : ∀ (n t : Nat), a.day < n + t → a.day ≤ next a c n t ∨ open_ a (spansOf a c) (next a c n t) = true
  | 0, t, h => by
    left
    simp [next]
    omega
  | n + 1, t, h => by
    unfold next
    split
    · assumption
    · exact next_yes a c n (t + 1) (by omega)
/-- the next minute from t on in which cars may cross, behind the day they may: told by what holds of it -/
structure NextIs (a : Abs) (c t m : Nat) : Prop where
  ge : t ≤ m
  no : ∀ u, t ≤ u → u < m → u < a.day ∧ open_ a (spansOf a c) u = false
  yes : a.day ≤ m ∨ open_ a (spansOf a c) m = true
theorem nextOf_is (a : Abs) (c t : Nat) : NextIs a c t (nextOf a c t) := ⟨next_ge a c _ t, next_no a c _ t, next_yes a c _ t (by omega)⟩
theorem NextIs.uniq {a : Abs} {c t m m' : Nat} (h : NextIs a c t m) (h' : NextIs a c t m') : m = m' := by
  rcases Nat.lt_trichotomy m m' with q | q | q
  · obtain ⟨h1, h2⟩ := h'.no m h.ge q
    rcases h.yes with y | y
    · omega
    · rw [h2] at y; cases y
  · exact q
  · obtain ⟨h1, h2⟩ := h.no m' h'.ge q
    rcases h'.yes with y | y
    · omega
    · rw [h2] at y; cases y
theorem NextIs.eq {a : Abs} {c t m : Nat} (h : NextIs a c t m) : nextOf a c t = m := (nextOf_is a c t).uniq h
theorem nextOf_mono (a : Abs) (c : Nat) {t t' : Nat} (h : t ≤ t') : nextOf a c t ≤ nextOf a c t' := by
  have A := nextOf_is a c t
  have B := nextOf_is a c t'
  apply Nat.le_of_not_lt
  intro q
  obtain ⟨h1, h2⟩ := A.no (nextOf a c t') (Nat.le_trans h B.ge) q
  rcases B.yes with y | y
  · omega
  · rw [h2] at y; cases y
theorem nextOf_ge (a : Abs) (c t : Nat) : t ≤ nextOf a c t := (nextOf_is a c t).ge
theorem nextOf_le (a : Abs) (c : Nat) {t : Nat} (h : t ≤ a.day) : nextOf a c t ≤ a.day := by
  apply Nat.le_of_not_lt
  intro q
  have := ((nextOf_is a c t).no a.day h q).1
  omega
theorem nextOf_open {a : Abs} {c t : Nat} (h : a.day ≤ t ∨ open_ a (spansOf a c) t = true) : nextOf a c t = t :=
  NextIs.eq ⟨Nat.le_refl _, fun u h1 h2 => by omega, h⟩
theorem nextOf_shut {a : Abs} {c t : Nat} (h : t < a.day) (h2 : open_ a (spansOf a c) t = false) : nextOf a c t = nextOf a c (t + 1) := by
  apply NextIs.eq
  have B := nextOf_is a c (t + 1)
  refine ⟨by have := B.ge; omega, fun u h1 h3 => ?_, B.yes⟩
  by_cases e : u = t
  · subst e
    exact ⟨h, h2⟩
  · exact B.no u (by omega) h3

/-! shuts, from a minute on -/
/-- the shuts that begin in or behind minute t -/
def shutsFrom (a : Abs) (c t : Nat) : List (Nat × Nat) := (shuts a c).filter fun x => decide (t ≤ x.1)
def begins (a : Abs) (c t : Nat) : Bool := !open_ a (spansOf a c) t && (t == 0 || open_ a (spansOf a c) (t - 1))
theorem shuts_eq (a : Abs) (c : Nat) : shuts a c = ((List.range a.day).filter (begins a c)).map fun t => (t, nextOf a c t - t) := rfl
/-- the shuts that begin ahead of minute n -/
def shutsTo (a : Abs) (c n : Nat) : List (Nat × Nat) := ((List.range n).filter (begins a c)).map fun t => (t, nextOf a c t - t)
theorem shutsTo_day (a : Abs) (c : Nat) : shutsTo a c a.day = shuts a c := rfl
theorem shutsTo_zero (a : Abs) (c : Nat) : shutsTo a c 0 = [] := rfl
theorem shutsTo_len (a : Abs) (c n : Nat) : (shutsTo a c n).length ≤ n := by
  unfold shutsTo
  rw [List.length_map]
  have := List.length_filter_le (begins a c) (List.range n)
  simpa using this
theorem shutsTo_succ (a : Abs) (c n : Nat) : shutsTo a c (n + 1) = shutsTo a c n ++ (if begins a c n = true then [(n, nextOf a c n - n)] else []) := by
  unfold shutsTo
  rw [List.range_succ, List.filter_append, List.map_append]
  congr 1
  rw [List.filter_cons]
  split <;> simp
/-- no shut begins from n up to m: the list stays -/
theorem shutsTo_same (a : Abs) (c n : Nat) : ∀ (k : Nat), (∀ u, n ≤ u → u < n + k → begins a c u = false) → shutsTo a c (n + k) = shutsTo a c n
  | 0, _ => rfl
  | k + 1, h => by
    rw [show n + (k + 1) = (n + k) + 1 from rfl, shutsTo_succ, h (n + k) (by omega) (by omega)]
    simp
    exact shutsTo_same a c n k fun u h1 h2 => h u h1 (by omega)
theorem begins_at {a : Abs} {c t : Nat} : begins a c t = true ↔ open_ a (spansOf a c) t = false ∧ (t = 0 ∨ open_ a (spansOf a c) (t - 1) = true) := by
  unfold begins
  simp
/-- one turn of a scan: minute t is not open, and the one ahead of it is (or t is 0) -/
theorem shutsTo_shut {a : Abs} {c t : Nat} (ht : t < a.day) (h : begins a c t = true) : shutsTo a c (nextOf a c t) = shutsTo a c t ++ [(t, nextOf a c t - t)] := by
  have A := nextOf_is a c t
  have h1 : t + 1 ≤ nextOf a c t := by
    have h2 := (begins_at.mp h).1
    rw [nextOf_shut ht h2]
    exact nextOf_ge a c (t + 1)
  have e : nextOf a c t = (t + 1) + (nextOf a c t - (t + 1)) := by omega
  rw [e, shutsTo_same a c (t + 1) _ (fun u h3 h4 => ?_), shutsTo_succ, if_pos h, ← e]
  cases q : begins a c u with
  | false => rfl
  | true =>
    rcases (begins_at.mp q).2 with z | z
    · omega
    · have := (A.no (u - 1) (by omega) (by omega)).2
      rw [z] at this
      cases this
theorem shutsTo_open {a : Abs} {c t : Nat} (h : open_ a (spansOf a c) t = true) : shutsTo a c (t + 1) = shutsTo a c t := by
  rw [shutsTo_succ]
  have : begins a c t = false := by
    cases q : begins a c t with
    | false => rfl
    | true =>
      have := (begins_at.mp q).1
      rw [h] at this
      cases this
  rw [this]
  simp
end RC

/-! The earliest: walks by roads. -/
namespace RC
open Kh343

/-- what stands of the roads -/
def RoadsOk (a : Abs) : Prop := ∀ r ∈ a.roads, r.a < a.places ∧ r.b < a.places

theorem along_mono (a : Abs) (r : Road) {t t' : Nat} (h : t ≤ t') : along a r t ≤ along a r t' := by
  unfold along
  split
  · omega
  · have := nextOf_mono a ‹_› (show t + r.long / 2 ≤ t' + r.long / 2 by omega)
    omega
theorem along_ge (a : Abs) (r : Road) (t : Nat) : t + r.long ≤ along a r t := by
  unfold along
  split
  · omega
  · have := nextOf_ge a ‹_› (t + r.long / 2)
    omega

/-- a road from v to w -/
def Goes (r : Road) (v w : Nat) : Prop := (r.a = v ∧ r.b = w) ∨ (r.b = v ∧ r.a = w)
/-- by roads, from p in minute t on: the places (the last one first), and when one is there -/
inductive Walk (a : Abs) (p t : Nat) : List Nat → Nat → Prop where
  | here : Walk a p t [p] t
  | go {v w : Nat} {vs : List Nat} {u : Nat} {r : Road} (h : Walk a p t (v :: vs) u) (hr : r ∈ a.roads) (hg : Goes r v w) : Walk a p t (w :: v :: vs) (along a r u)
/-- one can be at q in minute u -/
def Can (a : Abs) (p t q u : Nat) : Prop := ∃ vs, Walk a p t (q :: vs) u

theorem Walk.suffix {a : Abs} {p t : Nat} : ∀ {vs : List Nat} {u : Nat}, Walk a p t vs u → ∀ w, w ∈ vs → ∃ vs' u', Walk a p t (w :: vs') u' ∧ u' ≤ u ∧ (vs.Nodup → (w :: vs').Nodup) := by
  intro vs u h
  induction h with
  | here =>
    intro w hw
    have : w = p := by simpa using hw
    subst this
    exact ⟨[], t, .here, Nat.le_refl _, fun _ => by simp⟩
  | @go v w' vs u r h hr hg ih =>
    intro w hw
    rcases List.mem_cons.mp hw with e | e
    · subst e
      exact ⟨_, _, .go h hr hg, Nat.le_refl _, id⟩
    · obtain ⟨vs', u', h1, h2, h3⟩ := ih w e
      refine ⟨vs', u', h1, ?_, fun n => h3 (List.nodup_cons.mp n).2⟩
      have := along_ge a r u
      omega
/-- no place twice -/
theorem Walk.short {a : Abs} {p t : Nat} {vs : List Nat} {u : Nat} (h : Walk a p t vs u) : ∀ q vs0, vs = q :: vs0 → ∃ vs' u', Walk a p t (q :: vs') u' ∧ u' ≤ u ∧ (q :: vs').Nodup := by
  induction h with
  | here =>
    intro q vs0 e
    cases e
    exact ⟨[], t, .here, Nat.le_refl _, by simp⟩
  | @go v w vs u r h hr hg ih =>
    intro q vs0 e
    cases e
    obtain ⟨vs', u', h1, h2, h3⟩ := ih v vs rfl
    by_cases m : w ∈ v :: vs'
    · obtain ⟨vs2, u2, k1, k2, k3⟩ := h1.suffix w m
      refine ⟨vs2, u2, k1, ?_, k3 h3⟩
      have := along_ge a r u
      omega
    · exact ⟨v :: vs', along a r u', .go h1 hr hg, along_mono a r h2, List.nodup_cons.mpr ⟨m, h3⟩⟩
theorem Walk.under {a : Abs} {p t : Nat} {vs : List Nat} {u : Nat} (h : Walk a p t vs u) (hp : p < a.places) (ok : RoadsOk a) : ∀ v ∈ vs, v < a.places := by
  induction h with
  | here =>
    intro v hv
    have : v = p := by simpa using hv
    omega
  | go h hr hg ih =>
    intro v hv
    rcases List.mem_cons.mp hv with e | e
    · subst e
      have := ok _ hr
      rcases hg with ⟨_, e⟩ | ⟨_, e⟩ <;> omega
    · exact ih v e
theorem nodup_len : ∀ (n : Nat) (l : List Nat), l.Nodup → (∀ v ∈ l, v < n) → l.length ≤ n
  | 0, l, _, h => by
    cases l with
    | nil => simp
    | cons v l => exact absurd (h v (by simp)) (by omega)
  | n + 1, l, nd, h => by
    have nd2 : (l.filter fun v => decide (v ≠ n)).Nodup := nd.filter _
    have := nodup_len n _ nd2 (fun v hv => by
      have h1 := List.mem_filter.mp hv
      have h2 := h v h1.1
      have h3 : v ≠ n := by simpa using h1.2
      omega)
    have h4 : l.length ≤ (l.filter fun v => decide (v ≠ n)).length + 1 := by
      clear h nd2 this
      induction l with
      | nil => simp
      | cons v l ih =>
        obtain ⟨h1, h2⟩ := List.nodup_cons.mp nd
        rw [List.filter_cons]
        by_cases e : v = n
        · subst e
          have : (l.filter fun w => decide (w ≠ v)) = l := by
            apply List.filter_eq_self.mpr
            intro w hw
            have : w ≠ v := fun q => h1 (q ▸ hw)
            simpa using this
          rw [if_neg (by simp), this]
          simp
        · have := ih h2
          simp [e]
          simp at this
          omega
    omega

/-- x is there, and no later than y tells -/
def Ole (x y : Option Nat) : Prop := ∀ v, y = some v → ∃ u, x = some u ∧ u ≤ v
theorem Ole.refl (x : Option Nat) : Ole x x := fun v e => ⟨v, e, Nat.le_refl _⟩
theorem Ole.trans {x y z : Option Nat} (h : Ole x y) (h' : Ole y z) : Ole x z := fun v e => by
  obtain ⟨u, e1, h1⟩ := h' v e
  obtain ⟨w, e2, h2⟩ := h u e1
  exact ⟨w, e2, Nat.le_trans h2 h1⟩
theorem Ole.antisymm {x y : Option Nat} (h : Ole x y) (h' : Ole y x) : x = y := by
  cases x with
  | none =>
    cases y with
    | none => rfl
    | some v => obtain ⟨u, e, _⟩ := h v rfl; cases e
  | some u =>
    cases y with
    | none => obtain ⟨v, e, _⟩ := h' u rfl; cases e
    | some v =>
      obtain ⟨u', e, l1⟩ := h v rfl
      obtain ⟨v', e', l2⟩ := h' u rfl
      cases e; cases e'
      congr 1
      omega
theorem better_ole (x : Option Nat) (t : Nat) : Ole (better x t) x ∧ Ole (better x t) (some t) := by
  cases x with
  | none =>
    constructor
    · intro v e; cases e
    · intro v e; cases e; exact ⟨t, rfl, Nat.le_refl _⟩
  | some u =>
    constructor
    · intro v e; cases e; exact ⟨_, rfl, Nat.min_le_left _ _⟩
    · intro v e; cases e; exact ⟨_, rfl, Nat.min_le_right _ _⟩
theorem better_cases (x : Option Nat) (t : Nat) : better x t = x ∨ better x t = some t := by
  cases x with
  | none => exact .inr rfl
  | some u =>
    unfold better
    by_cases h : u ≤ t
    · left; simp [Nat.min_eq_left h]
    · right; simp [Nat.min_eq_right (show t ≤ u by omega)]

abbrev Vec := List (Option Nat)
def at_ (e : Vec) (q : Nat) : Option Nat := e.getD q none
theorem at_set (e : Vec) (i : Nat) (x : Option Nat) (q : Nat) : at_ (e.set i x) q = if i = q ∧ i < e.length then x else at_ e q := by
  unfold at_
  rw [List.getD_eq_getElem?_getD, List.getD_eq_getElem?_getD, List.getElem?_set]
  by_cases h : i = q
  · subst h
    by_cases h2 : i < e.length
    · simp [h2]
    · simp [h2]
  · simp [h]
theorem at_out {e : Vec} {q : Nat} (h : e.length ≤ q) : at_ e q = none := by
  unfold at_
  rw [List.getD_eq_getElem?_getD, List.getElem?_eq_none h]
  rfl
theorem vec_ext {e f : Vec} (h : e.length = f.length) (k : ∀ q, at_ e q = at_ f q) : e = f := by
  apply List.ext_getElem h
  intro i h1 h2
  have := k i
  unfold at_ at this
  rw [List.getD_eq_getElem?_getD, List.getD_eq_getElem?_getD, List.getElem?_eq_getElem h1, List.getElem?_eq_getElem h2] at this
  exact this

/-- one way of a road: from v to w -/
def way (a : Abs) (r : Road) (v w : Nat) (e : Vec) : Vec := match e.getD v none with
  | some t => e.set w (better (e.getD w none) (along a r t))
  | none => e
theorem way_len (a : Abs) (r : Road) (v w : Nat) (e : Vec) : (way a r v w e).length = e.length := by
  unfold way
  split <;> simp
theorem way_ole (a : Abs) (r : Road) (v w : Nat) (e : Vec) (q : Nat) : Ole (at_ (way a r v w e) q) (at_ e q) := by
  unfold way
  split
  · rw [at_set]
    split
    · rename_i h
      obtain ⟨h, _⟩ := h
      subst h
      exact (better_ole _ _).1
    · exact Ole.refl _
  · exact Ole.refl _
theorem way_new (a : Abs) (r : Road) (v w : Nat) (e : Vec) (hw : w < e.length) {x : Nat} (h : at_ e v = some x) : Ole (at_ (way a r v w e) w) (some (along a r x)) := by
  unfold at_ at h
  unfold way
  rw [h]
  dsimp only
  rw [at_set, if_pos ⟨rfl, hw⟩]
  exact (better_ole _ _).2
theorem way_from (a : Abs) (r : Road) (v w : Nat) (e : Vec) (q u : Nat) (h : at_ (way a r v w e) q = some u) : at_ e q = some u ∨ (q = w ∧ ∃ x, at_ e v = some x ∧ u = along a r x) := by
  unfold way at h
  split at h
  · rename_i x hx
    rw [at_set] at h
    split at h
    · rename_i hh
      rcases better_cases (e.getD w none) (along a r x) with z | z
      · rw [z] at h
        left
        rw [← hh.1]
        exact h
      · rw [z] at h
        exact .inr ⟨hh.1.symm, x, hx, (Option.some.inj h).symm⟩
    · exact .inl h
  · exact .inl h
def step1 (a : Abs) (e : Vec) (r : Road) : Vec := way a r r.b r.a (way a r r.a r.b e)
theorem relax_eq (a : Abs) (e : Vec) : relax a e = a.roads.foldl (step1 a) e := by
  unfold relax
  congr 1

/-- all values told are of walks -/
def Sound (a : Abs) (p t : Nat) (e : Vec) : Prop := ∀ q u, at_ e q = some u → Can a p t q u
theorem Can.go {a : Abs} {p t v w u : Nat} {r : Road} (h : Can a p t v u) (hr : r ∈ a.roads) (hg : Goes r v w) : Can a p t w (along a r u) := by
  obtain ⟨vs, h⟩ := h
  exact ⟨_, .go h hr hg⟩
theorem way_sound {a : Abs} {p t : Nat} {r : Road} {v w : Nat} {e : Vec} (hr : r ∈ a.roads) (hg : Goes r v w) (h : Sound a p t e) : Sound a p t (way a r v w e) := by
  intro q u hq
  rcases way_from a r v w e q u hq with z | ⟨rfl, x, hx, rfl⟩
  · exact h q u z
  · exact (h v x hx).go hr hg
theorem step1_len (a : Abs) (e : Vec) (r : Road) : (step1 a e r).length = e.length := by simp [step1, way_len]
theorem step1_ole (a : Abs) (e : Vec) (r : Road) (q : Nat) : Ole (at_ (step1 a e r) q) (at_ e q) := (way_ole a r _ _ _ q).trans (way_ole a r _ _ _ q)
theorem step1_sound {a : Abs} {p t : Nat} {r : Road} {e : Vec} (hr : r ∈ a.roads) (h : Sound a p t e) : Sound a p t (step1 a e r) :=
  way_sound hr (.inr ⟨rfl, rfl⟩) (way_sound hr (.inl ⟨rfl, rfl⟩) h)
theorem step1_new (a : Abs) (e : Vec) (r : Road) {v w x : Nat} (hg : Goes r v w) (hw : w < e.length) (h : at_ e v = some x) : Ole (at_ (step1 a e r) w) (some (along a r x)) := by
  rcases hg with ⟨rfl, rfl⟩ | ⟨rfl, rfl⟩
  · exact (way_ole a r _ _ _ _).trans (way_new a r _ _ e hw h)
  · obtain ⟨x', hx', le⟩ := way_ole a r r.a r.b e r.b x h
    refine Ole.trans (way_new a r r.b r.a (way a r r.a r.b e) (by rw [way_len]; exact hw) hx') ?_
    intro y hy
    cases hy
    exact ⟨_, rfl, along_mono a r le⟩
theorem fold_len (a : Abs) : ∀ (l : List Road) (e : Vec), (l.foldl (step1 a) e).length = e.length
  | [], e => rfl
  | r :: l, e => by rw [List.foldl_cons, fold_len a l, step1_len]
theorem fold_ole (a : Abs) : ∀ (l : List Road) (e : Vec) (q : Nat), Ole (at_ (l.foldl (step1 a) e) q) (at_ e q)
  | [], e, q => Ole.refl _
  | r :: l, e, q => by
    rw [List.foldl_cons]
    exact (fold_ole a l _ q).trans (step1_ole a e r q)
theorem fold_sound {a : Abs} {p t : Nat} : ∀ (l : List Road) (e : Vec), (∀ r ∈ l, r ∈ a.roads) → Sound a p t e → Sound a p t (l.foldl (step1 a) e)
  | [], e, _, h => h
  | r :: l, e, hl, h => by
    rw [List.foldl_cons]
    exact fold_sound l _ (fun r' h' => hl r' (by simp [h'])) (step1_sound (hl r (by simp)) h)
theorem fold_new (a : Abs) {r : Road} {v w x : Nat} (hg : Goes r v w) : ∀ (l : List Road) (e : Vec), r ∈ l → w < e.length → at_ e v = some x → Ole (at_ (l.foldl (step1 a) e) w) (some (along a r x))
  | [], e, hr, _, _ => by simp at hr
  | r' :: l, e, hr, hw, h => by
    rw [List.foldl_cons]
    rcases List.mem_cons.mp hr with q | q
    · subst q
      exact (fold_ole a l _ w).trans (step1_new a e r hg hw h)
    · obtain ⟨x', hx', le⟩ := step1_ole a e r' v x h
      refine Ole.trans (fold_new a hg l _ q (by rw [step1_len]; exact hw) hx') ?_
      intro y hy
      cases hy
      exact ⟨_, rfl, along_mono a r le⟩
theorem reach_len (a : Abs) : ∀ (n : Nat) (e : Vec), (reach a n e).length = e.length
  | 0, e => rfl
  | n + 1, e => by
    unfold reach
    rw [reach_len a n, relax_eq, fold_len]
theorem reach_sound {a : Abs} {p t : Nat} : ∀ (n : Nat) (e : Vec), Sound a p t e → Sound a p t (reach a n e)
  | 0, e, h => h
  | n + 1, e, h => by
    unfold reach
    refine reach_sound n _ ?_
    rw [relax_eq]
    exact fold_sound _ e (fun _ h => h) h
theorem relax_ole (a : Abs) (e : Vec) (q : Nat) : Ole (at_ (relax a e) q) (at_ e q) := by
  rw [relax_eq]
  exact fold_ole a _ e q
theorem reach_ole (a : Abs) : ∀ (n : Nat) (e : Vec) (q : Nat), Ole (at_ (reach a n e) q) (at_ e q)
  | 0, e, q => Ole.refl _
  | n + 1, e, q => by
    unfold reach
    exact (reach_ole a n _ q).trans (relax_ole a e q)
theorem reach_succ (a : Abs) : ∀ (n : Nat) (e : Vec), reach a (n + 1) e = relax a (reach a n e)
  | 0, e => rfl
  | n + 1, e => by
    show reach a (n + 1) (relax a e) = relax a (reach a n (relax a e))
    exact reach_succ a n (relax a e)
theorem reach_more (a : Abs) (m : Nat) (e : Vec) (q : Nat) : ∀ (k : Nat), Ole (at_ (reach a (m + k) e) q) (at_ (reach a m e) q)
  | 0 => Ole.refl _
  | k + 1 => by
    rw [show m + (k + 1) = (m + k) + 1 from rfl, reach_succ]
    exact (relax_ole a _ q).trans (reach_more a m e q k)
/-- so many roads, so many turns -/
theorem reach_walk {a : Abs} {p t : Nat} (hp : p < a.places) (ok : RoadsOk a) {e : Vec} (he : e.length = a.places) (h0 : Ole (at_ e p) (some t)) {vs : List Nat} {u : Nat} (h : Walk a p t vs u) :
    ∀ q vs0, vs = q :: vs0 → Ole (at_ (reach a vs0.length e) q) (some u) := by
  induction h with
  | here =>
    intro q vs0 e
    cases e
    exact h0
  | @go v w vs u r h hr hg ih =>
    intro q vs0 e'
    cases e'
    have := ih v vs rfl
    obtain ⟨x, hx, le⟩ := this u rfl
    rw [List.length_cons, reach_succ, relax_eq]
    have hw : w < a.places := by
      have := ok r hr
      rcases hg with ⟨_, e⟩ | ⟨_, e⟩ <;> omega
    refine Ole.trans (fold_new a hg _ _ hr (by rw [reach_len, he]; exact hw) hx) ?_
    intro y hy
    cases hy
    exact ⟨_, rfl, along_mono a r le⟩
/-- **What the earliest is**: of each place the least minute in which one can be there -/
structure IsEarliest (a : Abs) (p t : Nat) (e : Vec) : Prop where
  len : e.length = a.places
  sound : Sound a p t e
  least : ∀ q u, Can a p t q u → Ole (at_ e q) (some u)
theorem earliest_is {a : Abs} {p t : Nat} (hp : p < a.places) (ok : RoadsOk a) : IsEarliest a p t (earliest a p t) := by
  have l0 : ((List.replicate a.places (none : Option Nat)).set p (some t)).length = a.places := by simp
  have h0 : at_ ((List.replicate a.places (none : Option Nat)).set p (some t)) p = some t := by
    rw [at_set, if_pos ⟨rfl, by simpa using hp⟩]
  refine ⟨?_, ?_, ?_⟩
  · unfold earliest
    rw [reach_len, l0]
  · unfold earliest
    apply reach_sound
    intro q u h
    rw [at_set] at h
    split at h
    · rename_i hh
      cases h
      rw [← hh.1]
      exact ⟨[], .here⟩
    · unfold at_ at h
      rw [List.getD_eq_getElem?_getD, List.getElem?_replicate] at h
      split at h <;> cases h
  · rintro q u ⟨vs, h⟩
    obtain ⟨vs', u', h1, h2, h3⟩ := h.short q vs rfl
    have hl := nodup_len a.places _ h3 (h1.under hp ok)
    have hw := reach_walk hp ok l0 (by rw [h0]; exact Ole.refl _) h1 q vs' rfl
    obtain ⟨k, hk⟩ : ∃ k, a.places = vs'.length + k := ⟨a.places - vs'.length, by simp at hl; omega⟩
    unfold earliest
    rw [hk] at hw ⊢
    have hm := reach_more a vs'.length ((List.replicate (vs'.length + k) none).set p (some t)) q k
    refine (hm.trans hw).trans ?_
    intro y hy
    cases hy
    exact ⟨u', rfl, h2⟩
theorem IsEarliest.uniq {a : Abs} {p t : Nat} {e f : Vec} (h : IsEarliest a p t e) (h' : IsEarliest a p t f) : e = f := by
  refine vec_ext (h.len.trans h'.len.symm) fun q => Ole.antisymm ?_ ?_
  · intro u hu
    exact h.least q u (h'.sound q u hu) u rfl
  · intro u hu
    exact h'.least q u (h.sound q u hu) u rfl
theorem IsEarliest.eq {a : Abs} {p t : Nat} {e : Vec} (hp : p < a.places) (ok : RoadsOk a) (h : IsEarliest a p t e) : earliest a p t = e := (earliest_is hp ok).uniq h
/-- nothing gets better by one road more: then it's the earliest -/
theorem closed_is {a : Abs} {p t : Nat} {e : Vec} (len : e.length = a.places) (sound : Sound a p t e) (h0 : Ole (at_ e p) (some t))
    (cl : ∀ r ∈ a.roads, ∀ v w x, Goes r v w → at_ e v = some x → Ole (at_ e w) (some (along a r x))) : IsEarliest a p t e := by
  refine ⟨len, sound, ?_⟩
  rintro q u ⟨vs, h⟩
  have : ∀ vs u, Walk a p t vs u → ∀ q vs0, vs = q :: vs0 → Ole (at_ e q) (some u) := by
    intro vs u h
    induction h with
    | here => intro q vs0 e'; cases e'; exact h0
    | @go v w vs u r h hr hg ih =>
      intro q vs0 e'
      cases e'
      obtain ⟨x, hx, le⟩ := ih v vs rfl u rfl
      refine (cl r hr v w x hg hx).trans ?_
      intro y hy
      cases hy
      exact ⟨_, rfl, along_mono a r le⟩
  exact this _ _ h q vs rfl
/-- the earliest doesn't come sooner if one leaves later -/
theorem walk_shift {a : Abs} {p t t' : Nat} (ht : t ≤ t') {vs : List Nat} {u : Nat} (h : Walk a p t' vs u) : ∃ u', Walk a p t vs u' ∧ u' ≤ u := by
  induction h with
  | here => exact ⟨t, .here, ht⟩
  | go h hr hg ih =>
    obtain ⟨u', h1, h2⟩ := ih
    exact ⟨_, .go h1 hr hg, along_mono a _ h2⟩
theorem arrive_mono {a : Abs} {p q t t' : Nat} (hp : p < a.places) (ok : RoadsOk a) (ht : t ≤ t') : Ole (arrive a p q t) (arrive a p q t') := by
  intro u hu
  obtain ⟨vs, h⟩ := (earliest_is hp ok).sound q u hu
  obtain ⟨u', h1, h2⟩ := walk_shift ht h
  obtain ⟨w, e, l⟩ := (earliest_is hp ok).least q u' ⟨vs, h1⟩ u' rfl
  exact ⟨w, e, Nat.le_trans l h2⟩
/-- whether there's a way does not hang on the minute -/
theorem walk_any {a : Abs} {p t : Nat} (t' : Nat) {vs : List Nat} {u : Nat} (h : Walk a p t vs u) : ∃ u', Walk a p t' vs u' := by
  induction h with
  | here => exact ⟨_, .here⟩
  | go h hr hg ih =>
    obtain ⟨u', h1⟩ := ih
    exact ⟨_, .go h1 hr hg⟩
theorem arrive_some {a : Abs} {p q t : Nat} (t' : Nat) (hp : p < a.places) (ok : RoadsOk a) (h : (arrive a p q t).isSome = true) : (arrive a p q t').isSome = true := by
  obtain ⟨u, hu⟩ := Option.isSome_iff_exists.mp h
  obtain ⟨vs, h⟩ := (earliest_is hp ok).sound q u hu
  obtain ⟨u', h1⟩ := walk_any t' h
  obtain ⟨w, e, l⟩ := (earliest_is hp ok).least q u' ⟨vs, h1⟩ u' rfl
  show ((earliest a p t').getD q none).isSome = true
  unfold at_ at e
  rw [e]
  rfl
theorem arrive_ge {a : Abs} {p q t u : Nat} (hp : p < a.places) (ok : RoadsOk a) (h : arrive a p q t = some u) : t ≤ u := by
  obtain ⟨vs, h⟩ := (earliest_is hp ok).sound q u h
  have : ∀ vs u, Walk a p t vs u → t ≤ u := by
    intro vs u h
    induction h with
    | here => exact Nat.le_refl _
    | @go v w vs u r h hr hg ih =>
      have := along_ge a r u
      omega
  exact this _ _ h
end RC

/-! Holds, the least most, marshals, duties, the latest, the worst: read anew. -/
namespace RC
open Kh343

/-! ### shuts -/
theorem mem_shuts {a : Abs} {c : Nat} {x : Nat × Nat} : x ∈ shuts a c ↔ x.1 < a.day ∧ begins a c x.1 = true ∧ x.2 = nextOf a c x.1 - x.1 := by
  rw [shuts_eq, List.mem_map]
  constructor
  · rintro ⟨t, ht, rfl⟩
    rw [List.mem_filter, List.mem_range] at ht
    exact ⟨ht.1, ht.2, rfl⟩
  · rintro ⟨h1, h2, h3⟩
    exact ⟨x.1, by rw [List.mem_filter, List.mem_range]; exact ⟨h1, h2⟩, by rw [← h3]⟩
theorem shuts_len {a : Abs} {c : Nat} {x : Nat × Nat} (h : x ∈ shuts a c) : 1 ≤ x.2 ∧ x.1 + x.2 ≤ a.day := by
  obtain ⟨h1, h2, h3⟩ := mem_shuts.mp h
  have h4 := (begins_at.mp h2).1
  have h5 := nextOf_ge a c (x.1 + 1)
  rw [← nextOf_shut h1 h4] at h5
  have h6 := nextOf_le a c (Nat.le_of_lt h1)
  omega
theorem shuts_count (a : Abs) (c : Nat) : (shuts a c).length ≤ a.day := by
  rw [shuts_eq, List.length_map]
  have := List.length_filter_le (begins a c) (List.range a.day)
  simpa using this

/-! ### holds -/
theorem holdsOf_fuel (need most : Nat) (hm : 1 ≤ most) : ∀ (f f' t n : Nat), n ≤ f → n ≤ f' → holdsOf need most f t n = holdsOf need most f' t n
  | 0, 0, t, n, _, _ => rfl
  | 0, f' + 1, t, n, h, _ => by
    have : n = 0 := by omega
    subst this
    simp [holdsOf]
  | f + 1, 0, t, n, _, h => by
    have : n = 0 := by omega
    subst this
    simp [holdsOf]
  | f + 1, f' + 1, t, n, h, h' => by
    unfold holdsOf
    split
    · rfl
    · rw [holdsOf_fuel need most hm f f' _ _ (by omega) (by omega)]
/-- the holds of a stretch, without fuel -/
def held (need most t n : Nat) : List Nat := holdsOf need most n t n
theorem held_none {need most t n : Nat} (h : n ≤ most) : held need most t n = [] := by
  unfold held
  cases n with
  | zero => rfl
  | succ n => unfold holdsOf; rw [if_pos h]
theorem held_some {need most t n : Nat} (hm : 1 ≤ most) (h : most < n) : held need most t n = (t + most) :: held need most (t + most + need) (n - (most + need)) := by
  unfold held
  cases n with
  | zero => omega
  | succ n =>
    conv => lhs; unfold holdsOf
    rw [if_neg (by omega), holdsOf_fuel need most hm n (n + 1 - (most + need)) _ _ (by omega) (Nat.le_refl _)]
theorem held_len (need most : Nat) (hm : 1 ≤ most) : ∀ (k n t : Nat), n ≤ k → (held need most t n).length ≤ n
  | 0, n, t, h => by
    rw [held_none (by omega)]
    simp
  | k + 1, n, t, h => by
    by_cases q : n ≤ most
    · rw [held_none q]
      simp
    · rw [held_some hm (by omega), List.length_cons]
      have := held_len need most hm k (n - (most + need)) (t + most + need) (by omega)
      omega
theorem held_ge (need most : Nat) (hm : 1 ≤ most) : ∀ (k n t : Nat), n ≤ k → ∀ x ∈ held need most t n, t + most ≤ x ∧ x < t + n
  | 0, n, t, h => by
    rw [held_none (by omega)]
    simp
  | k + 1, n, t, h => by
    by_cases q : n ≤ most
    · rw [held_none q]
      simp
    · rw [held_some hm (by omega)]
      intro x hx
      rcases List.mem_cons.mp hx with e | e
      · omega
      · have := held_ge need most hm k (n - (most + need)) (t + most + need) (by omega) x e
        omega
theorem holds_eq {a : Abs} {c most : Nat} (hm : 1 ≤ most) : holds a c most = (shuts a c).flatMap fun x => held a.need most x.1 x.2 := by
  unfold holds
  rw [List.flatMap_def, List.flatMap_def]
  congr 1
  apply List.map_congr_left
  intro x hx
  have := shuts_len hx
  exact holdsOf_fuel _ _ hm _ _ _ _ (by omega) (Nat.le_refl _)
theorem holds_day {a : Abs} {c most : Nat} (hm : 1 ≤ most) (h : a.day ≤ most) : holds a c most = [] := by
  rw [holds_eq hm, List.flatMap_eq_nil_iff]
  intro x hx
  have := shuts_len hx
  exact held_none (by omega)
theorem flatMap_snoc {α β : Type} (f : α → List β) (l : List α) (x : α) : (l ++ [x]).flatMap f = l.flatMap f ++ f x := by simp

/-! ### the least most -/
structure LeastIs (a : Abs) (c h m : Nat) : Prop where
  lo : 1 ≤ m
  hi : m ≤ a.day
  ok : (holds a c m).length ≤ h
  no : ∀ k, 1 ≤ k → k < m → h < (holds a c k).length
theorem LeastIs.eq {a : Abs} {c h m : Nat} (q : LeastIs a c h m) : leastMost a c h = m := by
  unfold leastMost
  have : (List.range (a.day + 1)).find? (fun m => decide (1 ≤ m) && decide ((holds a c m).length ≤ h)) = some m := by
    rw [List.find?_range_eq_some]
    refine ⟨by simp [q.lo, q.ok], List.mem_range.mpr (by have := q.hi; omega), fun k hk => ?_⟩
    by_cases z : 1 ≤ k
    · have := q.no k z hk
      simp
      omega
    · simp
      omega
  rw [this]
  rfl

/-! ### the greatest -/
theorem foldmax_snoc (l : List Nat) (x : Nat) : (l ++ [x]).foldl max 0 = max (l.foldl max 0) x := by simp
theorem foldmax_mem : ∀ (l : List Nat) (m : Nat), (∀ x ∈ l, x ≤ l.foldl max m) ∧ m ≤ l.foldl max m ∧ (l.foldl max m = m ∨ l.foldl max m ∈ l)
  | [], m => by simp
  | y :: l, m => by
    obtain ⟨h1, h2, h3⟩ := foldmax_mem l (max m y)
    rw [List.foldl_cons]
    refine ⟨fun x hx => ?_, by omega, ?_⟩
    · rcases List.mem_cons.mp hx with e | e
      · omega
      · exact h1 x e
    · rcases h3 with e | e
      · rw [e]
        by_cases q : m ≤ y
        · right; rw [Nat.max_eq_right q]; simp
        · left; omega
      · right; simp [e]
theorem foldmax_eq {l : List Nat} {m : Nat} (h1 : ∀ x ∈ l, x ≤ m) (h2 : m = 0 ∨ m ∈ l) : l.foldl max 0 = m := by
  obtain ⟨k1, k2, k3⟩ := foldmax_mem l 0
  rcases k3 with e | e
  · rcases h2 with q | q
    · omega
    · have := k1 m q
      have := h1
      omega
  · have a1 := h1 _ e
    rcases h2 with q | q
    · omega
    · have := k1 m q
      omega

/-! ### duties -/
theorem duties_app : ∀ (l done l2), duties done (l ++ l2) = duties (duties done l) l2
  | [], done, l2 => rfl
  | x :: l, done, l2 => by
    show duties _ (l ++ l2) = _
    rw [duties_app l]
    rfl
theorem duties_snoc (l : List (Nat × Nat × Nat)) (x : Nat × Nat × Nat) :
    duties [] (l ++ [x]) = duties [] l ++ [(x.1, x.2.1, x.2.2, leastFree (((duties [] l).filter fun y => decide (x.1 < y.1 + y.2.2.1)).map fun y => y.2.2.2))] := by
  rw [duties_app]
  rfl
theorem duties_len (l : List (Nat × Nat × Nat)) : ∀ done, (duties done l).length = done.length + l.length := by
  induction l with
  | nil => intro done; rfl
  | cons x l ih =>
    intro done
    unfold duties
    rw [ih]
    simp
    omega
theorem duties_fst (l : List (Nat × Nat × Nat)) : (duties [] l).map (fun y => (y.1, y.2.1, y.2.2.1)) = l := by
  have : ∀ (l : List (Nat × Nat × Nat)) done, (duties done l).map (fun y => (y.1, y.2.1, y.2.2.1)) = done.map (fun y => (y.1, y.2.1, y.2.2.1)) ++ l := by
    intro l
    induction l with
    | nil => intro done; simp [duties]
    | cons x l ih =>
      intro done
      unfold duties
      rw [ih]
      simp
  simpa using this l []
/-- the least number that is not in a list -/
structure FreeIs (busy : List Nat) (m : Nat) : Prop where
  no : m ∉ busy
  less : ∀ k, k < m → k ∈ busy
theorem pigeon : ∀ (n : Nat) (l : List Nat), (∀ k, k < n → k ∈ l) → n ≤ l.length
  | 0, l, _ => by omega
  | n + 1, l, h => by
    have h1 : n ∈ l := h n (by omega)
    have h2 := pigeon n (l.erase n) (fun k hk => by
      rw [List.mem_erase_of_ne (by omega)]
      exact h k (by omega))
    rw [List.length_erase_of_mem h1] at h2
    have : 0 < l.length := List.length_pos_of_mem h1
    omega
theorem FreeIs.eq {busy : List Nat} {m : Nat} (h : FreeIs busy m) : leastFree busy = m := by
  unfold leastFree
  have hm := pigeon m busy h.less
  have : (List.range (busy.length + 1)).find? (fun m => !busy.contains m) = some m := by
    rw [List.find?_range_eq_some]
    refine ⟨by simpa using h.no, List.mem_range.mpr (by omega), fun k hk => ?_⟩
    simpa using h.less k hk
  rw [this]
  rfl
theorem leastFree_is (busy : List Nat) : FreeIs busy (leastFree busy) := by
  unfold leastFree
  cases e : (List.range (busy.length + 1)).find? (fun m => !busy.contains m) with
  | none =>
    rw [List.find?_eq_none] at e
    have := pigeon (busy.length + 1) busy (fun k hk => by
      have := e k (List.mem_range.mpr hk)
      simpa using this)
    omega
  | some m =>
    rw [List.find?_range_eq_some] at e
    refine ⟨by simpa using e.1, fun k hk => by simpa using e.2.2 k hk⟩

/-! ### all shuts in their order -/
def lt3 (x y : Nat × Nat × Nat) : Prop := x.1 < y.1 ∨ (x.1 = y.1 ∧ x.2.1 < y.2.1)
def le3 (x y : Nat × Nat × Nat) : Bool := decide (x.1 < y.1) || (x.1 == y.1 && decide (x.2.1 ≤ y.2.1))
theorem le3_iff {x y : Nat × Nat × Nat} : le3 x y = true ↔ x.1 < y.1 ∨ (x.1 = y.1 ∧ x.2.1 ≤ y.2.1) := by
  unfold le3
  simp
theorem le3_trans (x y z : Nat × Nat × Nat) (h : le3 x y = true) (h' : le3 y z = true) : le3 x z = true := by
  rw [le3_iff] at *
  omega
theorem le3_total (x y : Nat × Nat × Nat) : (le3 x y || le3 y x) = true := by
  rw [Bool.or_eq_true, le3_iff, le3_iff]
  omega
/-- crossing by crossing -/
def byCrossing (a : Abs) : List (Nat × Nat × Nat) := (List.range a.spans.length).flatMap fun c => (shuts a c).map fun x => (x.1, c, x.2)
theorem allShuts_eq (a : Abs) : allShuts a = (byCrossing a).mergeSort le3 := rfl
theorem mem_byCrossing {a : Abs} {x : Nat × Nat × Nat} : x ∈ byCrossing a ↔ x.2.1 < a.spans.length ∧ (x.1, x.2.2) ∈ shuts a x.2.1 := by
  unfold byCrossing
  rw [List.mem_flatMap]
  constructor
  · rintro ⟨c, hc, h⟩
    obtain ⟨y, hy, rfl⟩ := List.mem_map.mp h
    exact ⟨List.mem_range.mp hc, hy⟩
  · rintro ⟨h1, h2⟩
    exact ⟨x.2.1, List.mem_range.mpr h1, List.mem_map.mpr ⟨_, h2, rfl⟩⟩
theorem shuts_sorted (a : Abs) (c : Nat) : (shuts a c).Pairwise fun x y => x.1 < y.1 := by
  rw [shuts_eq, List.pairwise_map]
  exact List.pairwise_lt_range.filter _
theorem byCrossing_nodup (a : Abs) : (byCrossing a).Nodup := by
  unfold byCrossing
  unfold List.Nodup
  rw [List.pairwise_flatMap]
  refine ⟨fun c _ => ?_, ?_⟩
  · rw [List.pairwise_map]
    refine (shuts_sorted a c).imp ?_
    intro x y h e
    have := congrArg Prod.fst e
    simp at this
    omega
  · refine List.pairwise_lt_range.imp ?_
    intro c c' h x hx y hy e
    obtain ⟨x', _, rfl⟩ := List.mem_map.mp hx
    obtain ⟨y', _, rfl⟩ := List.mem_map.mp hy
    have := congrArg (fun z => z.2.1) e
    simp at this
    omega
/-- any list in that order with those members is it -/
theorem allShuts_of {a : Abs} {l : List (Nat × Nat × Nat)} (hs : l.Pairwise lt3) (hm : ∀ x, x ∈ l ↔ x.2.1 < a.spans.length ∧ (x.1, x.2.2) ∈ shuts a x.2.1) : allShuts a = l := by
  have nd : l.Nodup := by
    unfold List.Nodup
    refine hs.imp ?_
    intro x y h e
    subst e
    unfold lt3 at h
    omega
  have hp : (allShuts a).Perm l := by
    rw [allShuts_eq]
    refine (List.mergeSort_perm _ _).trans ?_
    rw [List.perm_ext_iff_of_nodup (byCrossing_nodup a) nd]
    intro x
    rw [mem_byCrossing, hm]
  refine List.Perm.eq_of_pairwise (le := fun x y => le3 x y = true) ?_ ?_ ?_ hp
  · intro x y hx hy h1 h2
    have hx' := (hm x).mp (hp.mem_iff.mp hx)
    have hy' := (hm y).mp hy
    rw [le3_iff] at h1 h2
    have e1 : x.1 = y.1 := by omega
    have e2 : x.2.1 = y.2.1 := by omega
    have m1 := (mem_shuts.mp hx'.2).2.2
    have m2 := (mem_shuts.mp hy'.2).2.2
    obtain ⟨x1, x2, x3⟩ := x
    obtain ⟨y1, y2, y3⟩ := y
    simp only at e1 e2 m1 m2
    subst e1 e2
    rw [m1, m2]
  · rw [allShuts_eq]
    exact List.pairwise_mergeSort le3_trans le3_total _
  · refine hs.imp ?_
    intro x y h
    rw [le3_iff]
    unfold lt3 at h
    omega
theorem mem_allShuts {a : Abs} {x : Nat × Nat × Nat} : x ∈ allShuts a ↔ x.2.1 < a.spans.length ∧ (x.1, x.2.2) ∈ shuts a x.2.1 := by
  rw [allShuts_eq, (List.mergeSort_perm _ _).mem_iff, mem_byCrossing]
theorem allShuts_sorted (a : Abs) : (allShuts a).Pairwise lt3 := by
  have h1 : (allShuts a).Pairwise fun x y => le3 x y = true := by
    rw [allShuts_eq]
    exact List.pairwise_mergeSort le3_trans le3_total _
  have nd : (allShuts a).Nodup := by
    rw [allShuts_eq, (List.mergeSort_perm _ _).nodup_iff]
    exact byCrossing_nodup a
  have h2 := List.Pairwise.and_mem.mp (h1.and nd)
  refine h2.imp ?_
  rintro x y ⟨hx, hy, h3, h4⟩
  rw [le3_iff] at h3
  unfold lt3
  have hx' := mem_allShuts.mp hx
  have hy' := mem_allShuts.mp hy
  by_cases e1 : x.1 = y.1
  · by_cases e2 : x.2.1 = y.2.1
    · exfalso
      apply h4
      have m1 := (mem_shuts.mp hx'.2).2.2
      have m2 := (mem_shuts.mp hy'.2).2.2
      obtain ⟨x1, x2, x3⟩ := x
      obtain ⟨y1, y2, y3⟩ := y
      simp only at e1 e2 m1 m2
      subst e1 e2
      rw [m1, m2]
    · omega
  · omega
/-- minute by minute -/
def byMinute (a : Abs) (n : Nat) : List (Nat × Nat × Nat) := (List.range n).flatMap fun t => ((List.range a.spans.length).filter fun c => begins a c t).map fun c => (t, c, nextOf a c t - t)
theorem allShuts_minute (a : Abs) : allShuts a = byMinute a a.day := by
  apply allShuts_of
  · unfold byMinute
    rw [List.pairwise_flatMap]
    refine ⟨fun t _ => ?_, ?_⟩
    · rw [List.pairwise_map]
      refine (List.pairwise_lt_range.filter _).imp ?_
      intro c c' h
      exact .inr ⟨rfl, h⟩
    · refine List.pairwise_lt_range.imp ?_
      intro t t' h x hx y hy
      obtain ⟨x', _, rfl⟩ := List.mem_map.mp hx
      obtain ⟨y', _, rfl⟩ := List.mem_map.mp hy
      exact .inl h
  · intro x
    unfold byMinute
    rw [List.mem_flatMap]
    constructor
    · rintro ⟨t, ht, h⟩
      obtain ⟨c, hc, rfl⟩ := List.mem_map.mp h
      rw [List.mem_filter, List.mem_range] at hc
      exact ⟨hc.1, mem_shuts.mpr ⟨List.mem_range.mp ht, hc.2, rfl⟩⟩
    · rintro ⟨h1, h2⟩
      obtain ⟨k1, k2, k3⟩ := mem_shuts.mp h2
      refine ⟨x.1, List.mem_range.mpr k1, List.mem_map.mpr ⟨x.2.1, ?_, ?_⟩⟩
      · rw [List.mem_filter, List.mem_range]
        exact ⟨h1, k2⟩
      · obtain ⟨x1, x2, x3⟩ := x
        simp only at k3 ⊢
        rw [k3]

/-! ### the latest -/
def okBy (a : Abs) (p q by_ t : Nat) : Bool := match arrive a p q t with
  | some u => decide (u ≤ by_)
  | none => false
theorem latest_eq (a : Abs) (p q by_ : Nat) : latest a p q by_ = ((List.range (by_ + 1)).filter (okBy a p q by_)).getLast? := by
  unfold latest
  congr 1
def latestTo (a : Abs) (p q by_ n : Nat) : Option Nat := ((List.range n).filter (okBy a p q by_)).getLast?
theorem latest_to (a : Abs) (p q by_ : Nat) : latest a p q by_ = latestTo a p q by_ (by_ + 1) := latest_eq a p q by_
theorem latestTo_succ (a : Abs) (p q by_ n : Nat) : latestTo a p q by_ (n + 1) = if okBy a p q by_ n = true then some n else latestTo a p q by_ n := by
  unfold latestTo
  rw [List.range_succ, List.filter_append, List.filter_cons]
  split
  · simp
  · simp
theorem latestTo_zero (a : Abs) (p q by_ : Nat) : latestTo a p q by_ 0 = none := rfl
theorem latest_some {a : Abs} {p q by_ u : Nat} (h : u ≤ by_) (h1 : okBy a p q by_ u = true) (h2 : ∀ k, u < k → k ≤ by_ → okBy a p q by_ k = false) : latest a p q by_ = some u := by
  rw [latest_to]
  have : ∀ n, u < n → n ≤ by_ + 1 → latestTo a p q by_ n = some u := by
    intro n
    induction n with
    | zero => intro h; omega
    | succ n ih =>
      intro h3 h4
      rw [latestTo_succ]
      by_cases e : n = u
      · subst e; rw [if_pos h1]
      · rw [h2 n (by omega) (by omega), if_neg (by simp)]
        exact ih (by omega) (by omega)
  exact this _ (by omega) (by omega)
theorem latest_none {a : Abs} {p q by_ : Nat} (h2 : ∀ k, k ≤ by_ → okBy a p q by_ k = false) : latest a p q by_ = none := by
  rw [latest_to]
  have : ∀ n, n ≤ by_ + 1 → latestTo a p q by_ n = none := by
    intro n
    induction n with
    | zero => intro _; rfl
    | succ n ih =>
      intro h3
      rw [latestTo_succ, h2 n (by omega), if_neg (by simp)]
      exact ih (by omega)
  exact this _ (by omega)

/-! ### the worst -/
def worstStep (a : Abs) (p q : Nat) (o : Option (Nat × Nat)) (t : Nat) : Option (Nat × Nat) := match arrive a p q t, o with
  | some u, none => some (t, u - t)
  | some u, some x => if x.2 < u - t then some (t, u - t) else some x
  | none, o => o
def worstTo (a : Abs) (p q n : Nat) : Option (Nat × Nat) := (List.range n).foldl (worstStep a p q) none
theorem worst_to (a : Abs) (p q : Nat) : worst a p q = worstTo a p q a.day := by
  unfold worst worstTo
  congr 1
theorem worstTo_succ (a : Abs) (p q n : Nat) : worstTo a p q (n + 1) = worstStep a p q (worstTo a p q n) n := by
  unfold worstTo
  rw [List.range_succ, List.foldl_append]
  rfl
theorem worstTo_zero (a : Abs) (p q : Nat) : worstTo a p q 0 = none := rfl
/-- there's no way: none -/
theorem worst_none {a : Abs} {p q : Nat} (h : ∀ t, t < a.day → arrive a p q t = none) : worst a p q = none := by
  rw [worst_to]
  have : ∀ n, n ≤ a.day → worstTo a p q n = none := by
    intro n
    induction n with
    | zero => intro _; rfl
    | succ n ih =>
      intro h3
      rw [worstTo_succ, ih (by omega)]
      unfold worstStep
      rw [h n (by omega)]
  exact this _ (Nat.le_refl _)
end RC

/-! The flat list of calls, played call by call. -/
namespace RC
open Kh343

/-- how many numbers stand behind a call's number -/
def ars : List Nat := [2, 0, 3, 1, 0, 4, 1, 2, 2, 2, 1, 1, 2, 2, 0, 0, 3, 2, 3, 2, 1, 0]
def ar (p : Nat) : Nat := ars.getD p 0
theorem shape_of {p : Int} {nk : Nat × Nat} (h : PyKh343.shape p = some nk) : ∃ k : Nat, p = (k : Int) ∧ k ≤ 21 ∧ nk = (ar k, 0) := by
  by_cases h0 : 0 ≤ p ∧ p ≤ 21
  · obtain ⟨k, rfl⟩ : ∃ k : Nat, p = (k : Int) := ⟨p.toNat, by omega⟩
    have hk : k ≤ 21 := by omega
    refine ⟨k, rfl, hk, ?_⟩
    have : ∀ k : Fin 22, PyKh343.shape ((k.val : Nat) : Int) = some (ar k.val, 0) := by decide
    have := this ⟨k, by omega⟩
    rw [this] at h
    exact (Option.some.inj h).symm
  · exfalso
    unfold PyKh343.shape at h
    simp only [show ¬ p = 0 by omega, show ¬ p = 1 by omega, show ¬ p = 2 by omega, show ¬ p = 3 by omega, show ¬ p = 4 by omega, show ¬ p = 5 by omega, show ¬ p = 6 by omega, show ¬ p = 7 by omega, show ¬ p = 8 by omega, show ¬ p = 9 by omega, show ¬ p = 10 by omega, show ¬ p = 11 by omega, show ¬ p = 12 by omega, show ¬ p = 13 by omega, show ¬ p = 14 by omega, show ¬ p = 15 by omega, show ¬ p = 16 by omega, show ¬ p = 17 by omega, show ¬ p = 18 by omega, show ¬ p = 19 by omega, show ¬ p = 20 by omega, show ¬ p = 21 by omega, if_false] at h
    cases h
theorem le21 : ∀ n : Nat, n ≤ 21 → n = 0 ∨ n = 1 ∨ n = 2 ∨ n = 3 ∨ n = 4 ∨ n = 5 ∨ n = 6 ∨ n = 7 ∨ n = 8 ∨ n = 9 ∨ n = 10 ∨ n = 11 ∨ n = 12 ∨ n = 13 ∨ n = 14 ∨ n = 15 ∨ n = 16 ∨ n = 17 ∨ n = 18 ∨ n = 19 ∨ n = 20 ∨ n = 21 := by decide
theorem whole_call {k : Nat} (hk : k ≤ 21) {as : List Int} (h : as.length = ar k) : PyKh343.whole [(k : Int) :: as] = [(k : Int) :: as] := by
  obtain rfl | rfl | rfl | rfl | rfl | rfl | rfl | rfl | rfl | rfl | rfl | rfl | rfl | rfl | rfl | rfl | rfl | rfl | rfl | rfl | rfl | rfl := le21 k hk
  · match as, h with
    | [x, y], _ => rfl
  · match as, h with
    | [], _ => rfl
  · match as, h with
    | [x, y, z], _ => rfl
  · match as, h with
    | [x], _ => rfl
  · match as, h with
    | [], _ => rfl
  · match as, h with
    | [x, y, z, u], _ => rfl
  · match as, h with
    | [x], _ => rfl
  · match as, h with
    | [x, y], _ => rfl
  · match as, h with
    | [x, y], _ => rfl
  · match as, h with
    | [x, y], _ => rfl
  · match as, h with
    | [x], _ => rfl
  · match as, h with
    | [x], _ => rfl
  · match as, h with
    | [x, y], _ => rfl
  · match as, h with
    | [x, y], _ => rfl
  · match as, h with
    | [], _ => rfl
  · match as, h with
    | [], _ => rfl
  · match as, h with
    | [x, y, z], _ => rfl
  · match as, h with
    | [x, y], _ => rfl
  · match as, h with
    | [x, y, z], _ => rfl
  · match as, h with
    | [x, y], _ => rfl
  · match as, h with
    | [x], _ => rfl
  · match as, h with
    | [], _ => rfl
theorem calls_form : ∀ (f : Nat) (l : List Int) (cs : List (List (List Int))), PyFlat.calls PyKh343.shape f l = some cs → ∀ c ∈ cs, PyKh343.whole c = c
  | f, [], cs, h => by
    have : cs = [] := by
      cases f <;> (simp [PyFlat.calls] at h; exact h)
    subst this
    simp
  | 0, x :: l, cs, h => by simp [PyFlat.calls] at h
  | f + 1, x :: l, cs, h => by
    unfold PyFlat.calls PyFlat.call at h
    cases e : PyKh343.shape x with
    | none => simp [e] at h
    | some nk =>
      obtain ⟨k, rfl, hk, rfl⟩ := shape_of e
      simp only [e] at h
      by_cases q : l.length < ar k
      · simp [q] at h
      · simp only [q, PyFlat.rows] at h
        cases e2 : PyFlat.calls PyKh343.shape f (l.drop (ar k)) with
        | none => simp [e2] at h
        | some cs' =>
          simp [e2] at h
          subst h
          intro c hc
          rcases List.mem_cons.mp hc with z | z
          · rw [z]
            exact whole_call hk (by rw [List.length_take]; omega)
          · exact calls_form f _ cs' e2 c z
/-- one call's answer, and what is left -/
def nx (s : Option Abs) (p : Nat) (ns : List Nat) : Option Abs × List Int := Kh343Neutral.step s [(p : Int) :: ns.map Int.ofNat]
/-- from a state on, a flat list is answered by another -/
inductive Plays : Option Abs → List Int → List Int → Prop where
  | nil (s : Option Abs) : Plays s [] []
  | cons {s : Option Abs} {p : Nat} {ns : List Nat} {rest out : List Int} (hp : p ≤ 21) (hn : ns.length = ar p) (hb : ∀ x ∈ ns, x ≤ 4294967295) (h : Plays (nx s p ns).1 rest out) :
      Plays s ((p : Int) :: (ns.map Int.ofNat ++ rest)) (((nx s p ns).2.length : Int) :: ((nx s p ns).2 ++ out))
theorem nats_of : ∀ (l : List Int), (∀ x ∈ l, 0 ≤ x ∧ x ≤ 4294967295) → ∃ ns : List Nat, l = ns.map Int.ofNat ∧ ∀ x ∈ ns, x ≤ 4294967295
  | [], _ => ⟨[], rfl, by simp⟩
  | x :: l, h => by
    obtain ⟨ns, e, hb⟩ := nats_of l fun y hy => h y (by simp [hy])
    have hx := h x (by simp)
    refine ⟨x.toNat :: ns, ?_, ?_⟩
    · rw [List.map_cons, ← e]
      congr 1
      show x = ((x.toNat : Nat) : Int)
      omega
    · intro y hy
      rcases List.mem_cons.mp hy with e | e
      · omega
      · exact hb y e
theorem plays_of : ∀ (f : Nat) (l : List Int) (cs : List (List (List Int))), PyFlat.calls PyKh343.shape f l = some cs → (∀ x ∈ l, 0 ≤ x ∧ x ≤ 4294967295) →
    ∀ s, Plays s l (PyFlat.told (PyFlat.played Kh343Neutral.step s cs))
  | f, [], cs, h, _, s => by
    have : cs = [] := by
      cases f <;> (simp [PyFlat.calls] at h; exact h)
    subst this
    exact .nil s
  | 0, x :: l, cs, h, _, s => by simp [PyFlat.calls] at h
  | f + 1, x :: l, cs, h, hb, s => by
    unfold PyFlat.calls PyFlat.call at h
    cases e : PyKh343.shape x with
    | none => simp [e] at h
    | some nk =>
      obtain ⟨k, rfl, hk, rfl⟩ := shape_of e
      simp only [e] at h
      by_cases q : l.length < ar k
      · simp [q] at h
      · simp only [q, PyFlat.rows] at h
        cases e2 : PyFlat.calls PyKh343.shape f (l.drop (ar k)) with
        | none => simp [e2] at h
        | some cs' =>
          simp [e2] at h
          subst h
          obtain ⟨ns, en, hn⟩ := nats_of (l.take (ar k)) fun y hy => hb y (by simp [List.mem_of_mem_take hy])
          have ih := plays_of f (l.drop (ar k)) cs' e2 (fun y hy => hb y (by simp [List.mem_of_mem_drop hy])) (nx s k ns).1
          have hl : ns.length = ar k := by
            have := congrArg List.length en
            rw [List.length_take, List.length_map] at this
            omega
          have := Plays.cons hk hl hn ih
          rw [← en, List.take_append_drop] at this
          have e3 : PyFlat.told (PyFlat.played Kh343Neutral.step s ([(k : Int) :: l.take (ar k)] :: cs')) = (((nx s k ns).2.length : Int) :: ((nx s k ns).2 ++ PyFlat.told (PyFlat.played Kh343Neutral.step (nx s k ns).1 cs'))) := by
            unfold nx
            rw [← en]
            simp [PyFlat.told, PyFlat.played]
          rw [e3]
          exact this
theorem asked_plays {l : List Int} (h : PyKh343.answers_asked l = true) (hb : ∀ x ∈ l, 0 ≤ x ∧ x ≤ 4294967295) : Plays none l (PyKh343.answers l) ∧ (PyKh343.answers l).length ≤ 10000000 := by
  unfold PyKh343.answers_asked at h
  split at h
  · cases h
  · rename_i raw e
    simp only [Bool.and_eq_true] at h
    refine ⟨?_, ?_⟩
    · have e2 : raw.map PyKh343.whole = raw := by
        conv => rhs; rw [← List.map_id raw]
        apply List.map_congr_left
        intro c hc
        exact calls_form _ _ _ e c hc
      have : PyKh343.answers l = PyFlat.told (PyFlat.played Kh343Neutral.step Kh343Neutral.start raw) := by
        unfold PyKh343.answers PyKh343.calls
        rw [e]
        simp only [e2]
      rw [this]
      exact plays_of _ _ _ e hb _
    · have := h.2
      unfold PyFlat.short at this
      exact of_decide_eq_true this
theorem Plays.len {s : Option Abs} {l out : List Int} (h : Plays s l out) : l = [] ∨ ∃ (p : Nat) (ns : List Nat) (rest out' : List Int), p ≤ 21 ∧ ns.length = ar p ∧ (∀ x ∈ ns, x ≤ 4294967295) ∧
    l = (p : Int) :: (ns.map Int.ofNat ++ rest) ∧ out = ((nx s p ns).2.length : Int) :: ((nx s p ns).2 ++ out') ∧ Plays (nx s p ns).1 rest out' := by
  cases h with
  | nil => exact .inl rfl
  | cons hp hn hb h => exact .inr ⟨_, _, _, _, hp, hn, hb, rfl, rfl, h⟩
end RC

/-! What stands of a state between two calls. -/
namespace RC
open Kh343

structure AbsOk (a : Abs) : Prop where
  day1 : 1 ≤ a.day
  day2 : a.day ≤ 120
  need1 : 1 ≤ a.need
  need2 : a.need ≤ 8
  cross : a.spans.length ≤ 6
  span : ∀ l ∈ a.spans, l.length ≤ 6 ∧ ∀ x ∈ l, 1 ≤ x.2 ∧ x.1 + x.2 ≤ a.day
  place : a.places ≤ 6
  rlen : a.roads.length ≤ 12
  road : ∀ r ∈ a.roads, r.a < a.places ∧ r.b < a.places ∧ r.a ≠ r.b ∧ 1 ≤ r.long ∧ r.long ≤ 100 ∧ ∀ c, r.crossing = some c → c < a.spans.length
def StOk (s : Option Abs) : Prop := ∀ a, s = some a → AbsOk a
theorem stOk_none : StOk none := fun a e => by cases e
theorem AbsOk.st {a : Abs} (h : AbsOk a) : StOk (some a) := fun b e => by cases e; exact h
theorem AbsOk.roads {a : Abs} (h : AbsOk a) : RoadsOk a := fun r hr => ⟨(h.road r hr).1, (h.road r hr).2.1⟩
theorem AbsOk.within {a : Abs} (h : AbsOk a) (c : Nat) : Within a.day (spansOf a c) := by
  intro x hx
  unfold spansOf at hx
  rw [List.getD_eq_getElem?_getD] at hx
  cases e : a.spans[c]? with
  | none => simp [e] at hx
  | some l =>
    simp [e] at hx
    exact ((h.span l (List.mem_of_getElem? e)).2 x hx).2

theorem begun_ok {d n : Nat} (h : ¬ (d < 1 ∨ 120 < d ∨ n < 1 ∨ 8 < n)) : AbsOk (begun d n) := by
  refine ⟨?_, ?_, ?_, ?_, ?_, ?_, ?_, ?_, ?_⟩ <;> simp [begun] <;> omega
theorem crossing_ok {a : Abs} (h : AbsOk a) (hl : a.spans.length < 6) : AbsOk { a with spans := a.spans ++ [[]] } := by
  refine ⟨h.day1, h.day2, h.need1, h.need2, ?_, ?_, h.place, h.rlen, ?_⟩
  · simp; omega
  · intro l hl
    rcases List.mem_append.mp hl with e | e
    · exact h.span l e
    · have : l = [] := by simpa using e
      subst this
      simp
  · intro r hr
    obtain ⟨h1, h2, h3, h4, h5, h6⟩ := h.road r hr
    refine ⟨h1, h2, h3, h4, h5, fun c hc => ?_⟩
    have := h6 c hc
    simp
    omega
theorem span_ok {a : Abs} (h : AbsOk a) {k f l : Nat} {x : List (Nat × Nat)} (hx : a.spans[k]? = some x) (h1 : 1 ≤ l) (h2 : f + l ≤ a.day) (h3 : x.length < 6) : AbsOk { a with spans := a.spans.set k (x ++ [(f, l)]) } := by
  refine ⟨h.day1, h.day2, h.need1, h.need2, ?_, ?_, h.place, h.rlen, ?_⟩
  · simpa using h.cross
  · intro y hy
    rcases List.mem_or_eq_of_mem_set hy with e | e
    · exact h.span y e
    · subst e
      refine ⟨by simp; omega, fun z hz => ?_⟩
      rcases List.mem_append.mp hz with e | e
      · exact (h.span x (List.mem_of_getElem? hx)).2 z e
      · have : z = (f, l) := by simpa using e
        subst this
        exact ⟨h1, h2⟩
  · intro r hr
    obtain ⟨h1, h2, h3, h4, h5, h6⟩ := h.road r hr
    exact ⟨h1, h2, h3, h4, h5, fun c hc => by simpa using h6 c hc⟩
theorem clear_ok {a : Abs} (h : AbsOk a) (k : Nat) : AbsOk { a with spans := a.spans.set k [] } := by
  refine ⟨h.day1, h.day2, h.need1, h.need2, ?_, ?_, h.place, h.rlen, ?_⟩
  · simpa using h.cross
  · intro y hy
    rcases List.mem_or_eq_of_mem_set hy with e | e
    · exact h.span y e
    · subst e
      simp
  · intro r hr
    obtain ⟨h1, h2, h3, h4, h5, h6⟩ := h.road r hr
    exact ⟨h1, h2, h3, h4, h5, fun c hc => by simpa using h6 c hc⟩
theorem place_ok {a : Abs} (h : AbsOk a) (hp : a.places < 6) : AbsOk { a with places := a.places + 1 } := by
  refine ⟨h.day1, h.day2, h.need1, h.need2, h.cross, h.span, ?_, h.rlen, ?_⟩
  · show a.places + 1 ≤ 6
    omega
  · intro r hr
    obtain ⟨h1, h2, h3, h4, h5, h6⟩ := h.road r hr
    refine ⟨?_, ?_, h3, h4, h5, h6⟩
    · show r.a < a.places + 1
      omega
    · show r.b < a.places + 1
      omega
theorem road_ok {a : Abs} (h : AbsOk a) {p q l k : Nat} (h1 : p < a.places) (h2 : q < a.places) (h3 : k ≤ a.spans.length) (h4 : p ≠ q) (h5 : 1 ≤ l) (h6 : l ≤ 100) (h7 : a.roads.length < 12) :
    AbsOk { a with roads := a.roads ++ [⟨p, q, l, if k = 0 then none else some (k - 1)⟩] } := by
  refine ⟨h.day1, h.day2, h.need1, h.need2, h.cross, h.span, h.place, ?_, ?_⟩
  · simp; omega
  · intro r hr
    rcases List.mem_append.mp hr with e | e
    · exact h.road r e
    · have : r = ⟨p, q, l, if k = 0 then none else some (k - 1)⟩ := by simpa using e
      subst this
      refine ⟨h1, h2, h4, h5, h6, fun c hc => ?_⟩
      dsimp only at hc
      split at hc
      · cases hc
      · cases hc
        show k - 1 < a.spans.length
        omega
theorem need_ok {a : Abs} (h : AbsOk a) {n : Nat} (h1 : 1 ≤ n) (h2 : n ≤ 8) : AbsOk { a with need := n } :=
  ⟨h.day1, h.day2, h1, h2, h.cross, h.span, h.place, h.rlen, h.road⟩
end RC

/-! Cars by gaps that begin ahead of a minute. -/
namespace RC
open Kh343
/-- no runners in the g minutes from s on -/
def gapAt (l : List (Nat × Nat)) (g s : Nat) : Bool := (List.range g).all fun k => !runs l (s + k)
theorem gapAt_iff {d : Nat} {l : List (Nat × Nat)} {g s : Nat} (hw : Within d l) : gapAt l g s = true ↔ FreeAt d l g s := by
  unfold gapAt FreeAt
  rw [List.all_eq_true]
  constructor
  · intro h u h1 h2
    right
    have := h (u - s) (List.mem_range.mpr (by omega))
    rw [show s + (u - s) = u by omega] at this
    simpa using this
  · intro h k hk
    have hk := List.mem_range.mp hk
    rcases h (s + k) (by omega) (by omega) with q | q
    · rw [runs_out hw q]
      rfl
    · rw [q]
      rfl
/-- cars may cross in t by a gap that begins ahead of minute n -/
def carTo (l : List (Nat × Nat)) (g n t : Nat) : Bool := (List.range n).any fun s => gapAt l g s && (decide (s ≤ t) && decide (t < s + g))
theorem carTo_zero (l : List (Nat × Nat)) (g t : Nat) : carTo l g 0 t = false := rfl
theorem carTo_succ (l : List (Nat × Nat)) (g n t : Nat) : carTo l g (n + 1) t = (carTo l g n t || (gapAt l g n && (decide (n ≤ t) && decide (t < n + g)))) := by
  unfold carTo
  rw [List.range_succ, List.any_append]
  simp
theorem carTo_open {a : Abs} {l : List (Nat × Nat)} (hw : Within a.day l) {t : Nat} (ht : t < a.day) : carTo l a.need a.day t = open_ a l t := by
  rw [Bool.eq_iff_iff, open_iff]
  unfold carTo
  rw [List.any_eq_true]
  constructor
  · rintro ⟨s, hs, h⟩
    simp only [Bool.and_eq_true, decide_eq_true_eq] at h
    exact ⟨s, h.2.1, h.2.2, (gapAt_iff hw).mp h.1⟩
  · rintro ⟨s, h1, h2, h3⟩
    refine ⟨s, List.mem_range.mpr (by omega), ?_⟩
    simp only [Bool.and_eq_true, decide_eq_true_eq]
    exact ⟨(gapAt_iff hw).mpr h3, h1, h2⟩
end RC

namespace RC
open Kh343
/-- a call by its number and its numbers -/
def cl (n : Nat) (ns : List Nat) : Kh343.Call := Kh343Neutral.callOf1 [(n : Int) :: ns.map Int.ofNat]
theorem none_61 {c : Call} (h : ∀ x y, c ≠ .begin_ x y) : doing none c = (none, say (-61)) := by
  cases c <;> first | rfl | exact absurd rfl (h _ _)
theorem cl_some {n : Nat} (ns : List Nat) (h : n ≠ 0) (h2 : n ≤ 21) : ∀ x y, cl n ns ≠ .begin_ x y := by
  intro x y
  obtain rfl | rfl | rfl | rfl | rfl | rfl | rfl | rfl | rfl | rfl | rfl | rfl | rfl | rfl | rfl | rfl | rfl | rfl | rfl | rfl | rfl | rfl := le21 n h2
  · exact absurd rfl h
  all_goals exact fun e => nomatch e
theorem keep_runs (a : Abs) (k t : Nat) : (doing (some a) (.runs k t)).1 = some a := by
  simp only [doing]; split; · rfl
  split <;> rfl
theorem keep_open (a : Abs) (k t : Nat) : (doing (some a) (.open_ k t)).1 = some a := by
  simp only [doing]; split; · rfl
  split <;> rfl
theorem keep_next (a : Abs) (k t : Nat) : (doing (some a) (.next k t)).1 = some a := by
  simp only [doing]; split; · rfl
  split <;> rfl
theorem keep_shuts (a : Abs) (k : Nat) : (doing (some a) (.shuts k)).1 = some a := by
  simp only [doing]; split <;> rfl
theorem keep_longest (a : Abs) (k : Nat) : (doing (some a) (.longest k)).1 = some a := by
  simp only [doing]; split <;> rfl
theorem keep_holds (a : Abs) (k t : Nat) : (doing (some a) (.holds k t)).1 = some a := by
  simp only [doing]; split; · rfl
  split <;> rfl
theorem keep_least (a : Abs) (k t : Nat) : (doing (some a) (.least k t)).1 = some a := by
  simp only [doing]; split <;> rfl
theorem keep_arrive (a : Abs) (p q t : Nat) : (doing (some a) (.arrive p q t)).1 = some a := by
  simp only [doing]; split; · rfl
  split; · rfl
  split <;> rfl
theorem keep_all (a : Abs) (p t : Nat) : (doing (some a) (.all p t)).1 = some a := by
  simp only [doing]; split; · rfl
  split <;> rfl
theorem keep_latest (a : Abs) (p q t : Nat) : (doing (some a) (.latest p q t)).1 = some a := by
  simp only [doing]; split; · rfl
  split; · rfl
  split <;> rfl
theorem keep_worst (a : Abs) (p q : Nat) : (doing (some a) (.worst p q)).1 = some a := by
  simp only [doing]; split; · rfl
  split <;> rfl
theorem keep_look (a : Abs) (r : Nat) : (doing (some a) (.look r)).1 = some a := by
  simp only [doing]; split <;> rfl
theorem ask_keep (a : Abs) {n : Nat} (ns : List Nat) (h : 7 ≤ n) (h2 : n ≤ 21) : (doing (some a) (cl n ns)).1 = some a := by
  obtain rfl | rfl | rfl | rfl | rfl | rfl | rfl | rfl | rfl | rfl | rfl | rfl | rfl | rfl | rfl | rfl | rfl | rfl | rfl | rfl | rfl | rfl := le21 n h2
  · exact absurd h (by decide)
  · exact absurd h (by decide)
  · exact absurd h (by decide)
  · exact absurd h (by decide)
  · exact absurd h (by decide)
  · exact absurd h (by decide)
  · exact absurd h (by decide)
  · exact keep_runs ..
  · exact keep_open ..
  · exact keep_next ..
  · exact keep_shuts ..
  · exact keep_longest ..
  · exact keep_holds ..
  · exact keep_least ..
  · rfl
  · rfl
  · exact keep_arrive ..
  · exact keep_all ..
  · exact keep_latest ..
  · exact keep_worst ..
  · exact keep_look ..
  · rfl
end RC

/-! The roads gone one behind another, till nothing is sooner; the first of the greatest; marshals by when they are free. -/
namespace RC
open Kh343

/-! ### a sweep over the steps -/
/-- each road, either way: from, to -/
abbrev Stp := Nat × Nat × Road
def stepsOf (a : Abs) : List Stp := a.roads.map (fun r => (r.a, r.b, r)) ++ a.roads.map (fun r => (r.b, r.a, r))
theorem mem_steps {a : Abs} {x : Stp} : x ∈ stepsOf a ↔ x.2.2 ∈ a.roads ∧ Goes x.2.2 x.1 x.2.1 := by
  obtain ⟨v, w, r⟩ := x
  unfold stepsOf Goes
  simp only [List.mem_append, List.mem_map, Prod.mk.injEq]
  constructor
  · rintro (⟨r', h, rfl, rfl, rfl⟩ | ⟨r', h, rfl, rfl, rfl⟩)
    · exact ⟨h, .inl ⟨rfl, rfl⟩⟩
    · exact ⟨h, .inr ⟨rfl, rfl⟩⟩
  · rintro ⟨h, ⟨rfl, rfl⟩ | ⟨rfl, rfl⟩⟩
    · exact .inl ⟨r, h, rfl, rfl, rfl⟩
    · exact .inr ⟨r, h, rfl, rfl, rfl⟩
theorem steps_len (a : Abs) : (stepsOf a).length = a.roads.length + a.roads.length := by simp [stepsOf]
/-- no later than by any walk of at most k roads -/
def Within_ (a : Abs) (p t k : Nat) (e : Vec) : Prop := ∀ q vs u, Walk a p t (q :: vs) u → vs.length ≤ k → Ole (at_ e q) (some u)
theorem within_zero {a : Abs} {p t : Nat} {e : Vec} (h : at_ e p = some t) : Within_ a p t 0 e := by
  intro q vs u hw hl
  cases hw with
  | here => rw [h]; exact Ole.refl _
  | go h' hr hg => simp at hl
theorem within_all {a : Abs} {p t : Nat} {e : Vec} (hp : p < a.places) (ok : RoadsOk a) (len : e.length = a.places) (sd : Sound a p t e) (h : Within_ a p t a.places e) : IsEarliest a p t e := by
  refine ⟨len, sd, ?_⟩
  rintro q u ⟨vs, hw⟩
  obtain ⟨vs', u', h1, h2, h3⟩ := hw.short q vs rfl
  have hl := nodup_len a.places _ h3 (h1.under hp ok)
  refine (h q vs' u' h1 (by simp at hl; omega)).trans ?_
  intro y hy
  cases hy
  exact ⟨u', rfl, h2⟩
/-- within a sweep, behind i steps; b: nothing was sooner -/
structure Swept (a : Abs) (p t i : Nat) (e0 e : Vec) (b : Bool) : Prop where
  len : e.length = a.places
  sound : Sound a p t e
  ole : ∀ q, Ole (at_ e q) (at_ e0 q)
  new : ∀ j v w r, j < i → (stepsOf a)[j]? = some (v, w, r) → ∀ x, at_ e0 v = some x → Ole (at_ e w) (some (along a r x))
  same : b = true → e = e0
  still : IsEarliest a p t e0 → b = true
theorem swept_zero {a : Abs} {p t : Nat} {e : Vec} (len : e.length = a.places) (sd : Sound a p t e) : Swept a p t 0 e e true :=
  ⟨len, sd, fun _ => Ole.refl _, fun j v w r h => by omega, fun _ => rfl, fun _ => rfl⟩
theorem Swept.keep {a : Abs} {p t i : Nat} {e0 e : Vec} {b : Bool} {v w : Nat} {r : Road} (h : Swept a p t i e0 e b) (hi : (stepsOf a)[i]? = some (v, w, r)) (hk : ∀ x, at_ e v = some x → Ole (at_ e w) (some (along a r x))) :
    Swept a p t (i + 1) e0 e b := by
  refine ⟨h.len, h.sound, h.ole, ?_, h.same, h.still⟩
  intro j v' w' r' hj hs x hx
  by_cases q : j = i
  · subst q
    rw [hi] at hs
    cases hs
    obtain ⟨x', hx', le⟩ := h.ole v x hx
    refine (hk x' hx').trans ?_
    intro y hy
    cases hy
    exact ⟨_, rfl, along_mono a r le⟩
  · exact h.new j v' w' r' (by omega) hs x hx
theorem Swept.better {a : Abs} {p t i : Nat} {e0 e : Vec} {b : Bool} {v w x : Nat} {r : Road} (ok : RoadsOk a) (h : Swept a p t i e0 e b) (hi : (stepsOf a)[i]? = some (v, w, r)) (hx : at_ e v = some x)
    (hb : at_ e w = none ∨ ∃ y, at_ e w = some y ∧ along a r x < y) : Swept a p t (i + 1) e0 (e.set w (some (along a r x))) false := by
  obtain ⟨hr, hg⟩ := mem_steps.mp (List.mem_of_getElem? hi)
  simp only at hr hg
  have hw : w < e.length := by
    rw [h.len]
    have := ok r hr
    rcases hg with ⟨_, e⟩ | ⟨_, e⟩ <;> omega
  have hat : ∀ q, at_ (e.set w (some (along a r x))) q = if w = q then some (along a r x) else at_ e q := by
    intro q
    rw [at_set]
    by_cases z : w = q
    · rw [if_pos ⟨z, hw⟩, if_pos z]
    · rw [if_neg (fun y => z y.1), if_neg z]
  have hle : ∀ q, Ole (at_ (e.set w (some (along a r x))) q) (at_ e q) := by
    intro q
    rw [hat]
    split
    · rename_i z
      subst z
      intro y hy
      rcases hb with z | ⟨y', z, l⟩
      · rw [z] at hy; cases hy
      · rw [z] at hy
        cases hy
        exact ⟨_, rfl, by omega⟩
    · exact Ole.refl _
  have hsd : Sound a p t (e.set w (some (along a r x))) := by
    intro q u hq
    rw [hat] at hq
    split at hq
    · rename_i z
      subst z
      cases hq
      exact (h.sound v x hx).go hr hg
    · exact h.sound q u hq
  refine ⟨by simp [h.len], hsd, fun q => (hle q).trans (h.ole q), ?_, (fun z => by cases z), ?_⟩
  · intro j v' w' r' hj hs x0 hx0
    by_cases q : j = i
    · subst q
      rw [hi] at hs
      cases hs
      obtain ⟨x', hx', le⟩ := h.ole v x0 hx0
      rw [hx] at hx'
      cases hx'
      rw [hat, if_pos rfl]
      intro y hy
      cases hy
      exact ⟨_, rfl, along_mono a r le⟩
    · exact (hle w').trans (h.new j v' w' r' (by omega) hs x0 hx0)
  · intro he
    exfalso
    obtain ⟨y, hy, l⟩ := he.least w _ ((h.sound v x hx).go hr hg) _ rfl
    obtain ⟨y', hy', l'⟩ := h.ole w y hy
    rcases hb with z | ⟨y2, z, l2⟩
    · rw [z] at hy'; cases hy'
    · rw [z] at hy'
      cases hy'
      omega
theorem Swept.done {a : Abs} {p t : Nat} {e0 e : Vec} (h : Swept a p t (stepsOf a).length e0 e true) (h0 : Ole (at_ e0 p) (some t)) : IsEarliest a p t e := by
  have q := h.same rfl
  subst q
  refine closed_is h.len h.sound h0 ?_
  intro r hr v w x hg hx
  obtain ⟨j, hj⟩ := List.mem_iff_getElem?.mp (mem_steps.mpr (⟨hr, hg⟩ : (v, w, r).2.2 ∈ a.roads ∧ Goes (v, w, r).2.2 (v, w, r).1 (v, w, r).2.1))
  have : j < (stepsOf a).length := by
    rcases List.getElem?_eq_some_iff.mp hj with ⟨h1, _⟩
    exact h1
  exact h.new j v w r this hj x hx
theorem Swept.more {a : Abs} {p t k : Nat} {e0 e : Vec} {b : Bool} (h : Swept a p t (stepsOf a).length e0 e b) (hw : Within_ a p t k e0) : Within_ a p t (k + 1) e := by
  have key : ∀ l u, Walk a p t l u → ∀ q vs, l = q :: vs → vs.length ≤ k + 1 → Ole (at_ e q) (some u) := by
    intro l u hwk
    cases hwk with
    | here =>
      intro q vs eq hl
      cases eq
      exact (h.ole p).trans (hw p [] t .here (by simp))
    | @go v w vs' u' r h' hr hg =>
      intro q vs eq hl
      cases eq
      obtain ⟨x, hx, le⟩ := hw v vs' u' h' (by simp at hl; omega) u' rfl
      obtain ⟨j, hj⟩ := List.mem_iff_getElem?.mp (mem_steps.mpr (⟨hr, hg⟩ : (v, w, r).2.2 ∈ a.roads ∧ Goes (v, w, r).2.2 (v, w, r).1 (v, w, r).2.1))
      have : j < (stepsOf a).length := by
        rcases List.getElem?_eq_some_iff.mp hj with ⟨h1, _⟩
        exact h1
      refine (h.new j v w r this hj x hx).trans ?_
      intro y hy
      cases hy
      exact ⟨_, rfl, along_mono a r le⟩
  exact fun q vs u hwk hl => key _ u hwk q vs rfl hl
/-- at the head of the loop: b, behind k sweeps -/
structure Going (a : Abs) (p t k : Nat) (e : Vec) (b : Bool) : Prop where
  len : e.length = a.places
  sound : Sound a p t e
  own : Ole (at_ e p) (some t)
  le : k ≤ a.places
  yes : b = true → IsEarliest a p t e
  no : b = false → Within_ a p t k e
def vec0 (n p t : Nat) : Vec := (List.replicate n (none : Option Nat)).set p (some t)
theorem vec0_at {n p t : Nat} (hp : p < n) (q : Nat) : at_ (vec0 n p t) q = if p = q then some t else none := by
  unfold vec0
  rw [at_set]
  by_cases z : p = q
  · rw [if_pos ⟨z, by simpa using hp⟩, if_pos z]
  · rw [if_neg (fun y => z y.1), if_neg z]
    unfold at_
    rw [List.getD_eq_getElem?_getD, List.getElem?_replicate]
    split <;> rfl
theorem going_zero {a : Abs} {p t : Nat} (hp : p < a.places) : Going a p t 0 (vec0 a.places p t) false := by
  have h0 : at_ (vec0 a.places p t) p = some t := by rw [vec0_at hp, if_pos rfl]
  refine ⟨by simp [vec0], ?_, by rw [h0]; exact Ole.refl _, Nat.zero_le _, (fun z => by cases z), fun _ => within_zero h0⟩
  intro q u hq
  rw [vec0_at hp] at hq
  split at hq
  · rename_i z
    subst z
    cases hq
    exact ⟨[], .here⟩
  · cases hq
/-- how many turns are left at most -/
def turns (a : Abs) (k : Nat) (b : Bool) : Nat := if b = true then 0 else a.places + 1 - k
theorem Going.next {a : Abs} {p t k : Nat} {e0 e : Vec} {b : Bool} (hp : p < a.places) (ok : RoadsOk a) (g : Going a p t k e0 false) (h : Swept a p t (stepsOf a).length e0 e b) : ∃ k', Going a p t k' e b ∧ turns a k' b < turns a k false := by
  have own : Ole (at_ e p) (some t) := (h.ole p).trans g.own
  cases b with
  | true =>
    refine ⟨k, ⟨h.len, h.sound, own, g.le, fun _ => h.done g.own, (fun z => by cases z)⟩, ?_⟩
    have := g.le
    unfold turns
    simp
    omega
  | false =>
    have hk : k < a.places := by
      apply Nat.lt_of_not_le
      intro z
      have e : k = a.places := Nat.le_antisymm g.le z
      subst e
      have := h.still (within_all hp ok g.len g.sound (g.no rfl))
      cases this
    refine ⟨k + 1, ⟨h.len, h.sound, own, hk, (fun z => by cases z), fun _ => h.more (g.no rfl)⟩, ?_⟩
    unfold turns
    simp
    omega
theorem Going.done {a : Abs} {p t k : Nat} {e : Vec} (hp : p < a.places) (ok : RoadsOk a) (g : Going a p t k e true) : earliest a p t = e := (g.yes rfl).eq hp ok
/-- how many are told -/
def cnt (e : Vec) : Nat := e.countP Option.isSome
theorem cnt_le (e : Vec) : cnt e ≤ e.length := List.countP_le_length
theorem cnt_vec0 {n p t : Nat} (hp : p < n) : cnt (vec0 n p t) = 1 := by
  unfold cnt vec0
  rw [List.countP_set (by simpa using hp)]
  simp [List.countP_replicate]
theorem cnt_new {e : Vec} {w x : Nat} (hw : w < e.length) (h : at_ e w = none) : cnt (e.set w (some x)) = cnt e + 1 := by
  unfold at_ at h
  rw [List.getD_eq_getElem?_getD, List.getElem?_eq_getElem hw] at h
  have h : e[w] = none := h
  unfold cnt
  rw [List.countP_set hw]
  simp [h]
theorem cnt_old {e : Vec} {w x y : Nat} (hw : w < e.length) (h : at_ e w = some y) : cnt (e.set w (some x)) = cnt e := by
  unfold at_ at h
  rw [List.getD_eq_getElem?_getD, List.getElem?_eq_getElem hw] at h
  have h : e[w] = some y := h
  have hp : 0 < e.countP Option.isSome := List.countP_pos_iff.mpr ⟨e[w], List.getElem_mem hw, by rw [h]; rfl⟩
  unfold cnt
  rw [List.countP_set hw]
  simp [h]
  omega

/-! ### the first of the greatest -/
theorem first_at {α : Type} [DecidableEq α] {x : α} : ∀ {l : List α}, x ∈ l → ∃ j, l[j]? = some x ∧ ∀ (m : Nat) (z : α), m < j → l[m]? = some z → z ≠ x
  | [], h => by simp at h
  | y :: l, h => by
    by_cases e : y = x
    · subst e
      exact ⟨0, rfl, fun m z hm => by omega⟩
    · have h' : x ∈ l := by
        rcases List.mem_cons.mp h with z | z
        · exact absurd z.symm e
        · exact z
      obtain ⟨j, h1, h2⟩ := first_at h'
      refine ⟨j + 1, by simpa using h1, fun m z hm hz => ?_⟩
      cases m with
      | zero =>
        simp at hz
        subst hz
        exact e
      | succ m => exact h2 m z (by omega) (by simpa using hz)
/-- the worst: told by what holds of it -/
structure WorstIs (a : Abs) (p q : Nat) (f : Nat → Nat) (n m : Nat) : Prop where
  lt : m < n
  max : ∀ t, t < n → f t ≤ f m
  first : ∀ t, t < m → f t < f m
theorem worstTo_is {a : Abs} {p q : Nat} {f : Nat → Nat} : ∀ (n : Nat), (∀ t, t < n + 1 → ∃ u, arrive a p q t = some u ∧ f t = u - t) → ∃ m, WorstIs a p q f (n + 1) m ∧ worstTo a p q (n + 1) = some (m, f m)
  | 0, h => by
    obtain ⟨u, h1, h2⟩ := h 0 (by omega)
    refine ⟨0, ⟨by omega, fun t ht => ?_, fun t ht => by omega⟩, ?_⟩
    · have : t = 0 := by omega
      subst this
      exact Nat.le_refl _
    · rw [worstTo_succ, worstTo_zero]
      unfold worstStep
      rw [h1, h2]
  | n + 1, h => by
    obtain ⟨m, hm, e⟩ := worstTo_is n fun t ht => h t (by omega)
    obtain ⟨u, h1, h2⟩ := h (n + 1) (by omega)
    rw [worstTo_succ, e]
    unfold worstStep
    rw [h1]
    dsimp only
    rw [← h2]
    by_cases q : f m < f (n + 1)
    · rw [if_pos q]
      refine ⟨n + 1, ⟨by omega, fun t ht => ?_, fun t ht => ?_⟩, rfl⟩
      · by_cases z : t = n + 1
        · subst z; exact Nat.le_refl _
        · have := hm.max t (by omega)
          omega
      · have := hm.max t (by omega)
        omega
    · rw [if_neg q]
      refine ⟨m, ⟨by have := hm.lt; omega, fun t ht => ?_, hm.first⟩, rfl⟩
      by_cases z : t = n + 1
      · subst z; omega
      · exact hm.max t (by omega)
theorem WorstIs.uniq {a : Abs} {p q : Nat} {f : Nat → Nat} {n m m' : Nat} (h : WorstIs a p q f n m) (h' : WorstIs a p q f n m') : m = m' := by
  rcases Nat.lt_trichotomy m m' with z | z | z
  · have := h'.first m z
    have := h.max m' h'.lt
    omega
  · exact z
  · have := h.first m' z
    have := h'.max m h.lt
    omega
theorem WorstIs.eq {a : Abs} {p q : Nat} {f : Nat → Nat} {m : Nat} (h : ∀ t, t < a.day → ∃ u, arrive a p q t = some u ∧ f t = u - t) (hw : WorstIs a p q f a.day m) : worst a p q = some (m, f m) := by
  rw [worst_to]
  cases e : a.day with
  | zero =>
    have := hw.lt
    omega
  | succ n =>
    obtain ⟨m', h1, h2⟩ := worstTo_is (a := a) (p := p) (q := q) (f := f) n fun t ht => h t (by omega)
    rw [h2]
    rw [e] at hw
    rw [h1.uniq hw]

/-! ### marshals by when they are free -/
abbrev Dut := Nat × Nat × Nat × Nat
def Dut.fin (y : Dut) : Nat := y.1 + y.2.2.1
structure FreeFrom (done : List Dut) (ff : List Nat) : Prop where
  has : ∀ (m e : Nat), ff[m]? = some e → ∃ y ∈ done, y.2.2.2 = m ∧ Dut.fin y = e
  le : ∀ y ∈ done, ∃ e, ff[y.2.2.2]? = some e ∧ Dut.fin y ≤ e
structure LeastF (ff : List Nat) (t m : Nat) : Prop where
  le : m ≤ ff.length
  less : ∀ k e, k < m → ff[k]? = some e → t < e
  at_ : ∀ e, ff[m]? = some e → e ≤ t
theorem freeFrom_nil : FreeFrom [] [] := ⟨fun m e h => by simp at h, fun y h => by simp at h⟩
theorem LeastF.free {done : List Dut} {ff : List Nat} {t m : Nat} (F : FreeFrom done ff) (h : LeastF ff t m) : leastFree ((done.filter fun y => decide (t < y.1 + y.2.2.1)).map fun y => y.2.2.2) = m := by
  apply FreeIs.eq
  constructor
  · intro hm
    obtain ⟨y, hy, e⟩ := List.mem_map.mp hm
    obtain ⟨h1, h2⟩ := List.mem_filter.mp hy
    have h2 : t < y.1 + y.2.2.1 := by simpa using h2
    obtain ⟨e', h3, h4⟩ := F.le y h1
    rw [e] at h3
    have := h.at_ e' h3
    unfold Dut.fin at h4
    omega
  · intro k hk
    have hl := h.le
    have hk' : k < ff.length := by omega
    have h1 := h.less k _ hk (List.getElem?_eq_getElem hk')
    obtain ⟨y, hy, h2, h3⟩ := F.has k _ (List.getElem?_eq_getElem hk')
    refine List.mem_map.mpr ⟨y, List.mem_filter.mpr ⟨hy, ?_⟩, h2⟩
    unfold Dut.fin at h3
    simp
    omega
/-- where the marshal's number stands: a new one at the end -/
def put (ff : List Nat) (m e : Nat) : List Nat := if m = ff.length then ff ++ [e] else ff.set m e
theorem put_at {ff : List Nat} {m e : Nat} (h : m ≤ ff.length) (k : Nat) : (put ff m e)[k]? = if k = m then some e else ff[k]? := by
  unfold put
  by_cases q : m = ff.length
  · rw [if_pos q]
    subst q
    by_cases z : k = ff.length
    · subst z; simp
    · rw [if_neg z]
      by_cases y : k < ff.length
      · rw [List.getElem?_append_left y]
      · rw [List.getElem?_eq_none (by simp; omega), List.getElem?_eq_none (by omega)]
  · rw [if_neg q, List.getElem?_set]
    by_cases z : m = k
    · subst z
      rw [if_pos rfl, if_pos (by omega), if_pos rfl]
    · rw [if_neg z, if_neg (fun y => z y.symm)]
theorem FreeFrom.give {done : List Dut} {ff : List Nat} {f c l m : Nat} (F : FreeFrom done ff) (h : LeastF ff f m) : FreeFrom (done ++ [(f, c, l, m)]) (put ff m (f + l)) := by
  constructor
  · intro k e hk
    rw [put_at h.le] at hk
    split at hk
    · rename_i z
      subst z
      cases hk
      exact ⟨(f, c, l, k), by simp, rfl, rfl⟩
    · obtain ⟨y, hy, r⟩ := F.has k e hk
      exact ⟨y, by simp [hy], r⟩
  · intro y hy
    rcases List.mem_append.mp hy with z | z
    · obtain ⟨e, h1, h2⟩ := F.le y z
      rw [put_at h.le]
      split
      · rename_i q
        rw [q] at h1
        have := h.at_ e h1
        exact ⟨_, rfl, by omega⟩
      · exact ⟨e, h1, h2⟩
    · have : y = (f, c, l, m) := by simpa using z
      subst this
      rw [put_at h.le, if_pos rfl]
      exact ⟨_, rfl, Nat.le_refl _⟩
end RC
namespace RC
open Kh343
/-! ### the shuts of all crossings, sorted -/
abbrev Trip := Nat × Nat × Nat
def ltT (x y : Trip) : Prop := x.1 < y.1 ∨ (x.1 = y.1 ∧ (x.2.1 < y.2.1 ∨ (x.2.1 = y.2.1 ∧ x.2.2 < y.2.2)))
theorem sorted_all {a : Abs} {l : List Trip} (hp : l.Perm (byCrossing a)) (hs : l.Pairwise fun x y => ¬ ltT y x) : allShuts a = l := by
  have nd : l.Nodup := hp.nodup_iff.mpr (byCrossing_nodup a)
  refine allShuts_of ?_ fun x => by rw [hp.mem_iff, mem_byCrossing]
  have h2 := List.Pairwise.and_mem.mp (hs.and nd)
  refine h2.imp ?_
  rintro x y ⟨hx, hy, h3, h4⟩
  have hx' := (mem_byCrossing.mp (hp.mem_iff.mp hx)).2
  have hy' := (mem_byCrossing.mp (hp.mem_iff.mp hy)).2
  have m1 := (mem_shuts.mp hx').2.2
  have m2 := (mem_shuts.mp hy').2.2
  obtain ⟨x1, x2, x3⟩ := x
  obtain ⟨y1, y2, y3⟩ := y
  simp only at m1 m2
  unfold ltT at h3
  unfold lt3
  simp only at h3 ⊢
  by_cases e1 : x1 = y1
  · by_cases e2 : x2 = y2
    · exfalso
      apply h4
      subst e1 e2
      rw [m1, m2]
    · omega
  · omega
theorem byCrossing_len (a : Abs) (h : a.day ≤ 120) (h2 : a.spans.length ≤ 6) : (byCrossing a).length ≤ 720 := by
  have : ∀ n, ((List.range n).flatMap fun c => (shuts a c).map fun x => ((x.1, c, x.2) : Trip)).length ≤ n * 120 := by
    intro n
    induction n with
    | zero => simp
    | succ n ih =>
      rw [List.range_succ, List.flatMap_append, List.length_append]
      have := shuts_count a n
      simp only [List.flatMap_cons, List.flatMap_nil, List.append_nil, List.length_map]
      omega
  have := this a.spans.length
  unfold byCrossing
  omega
/-! ### holds -/
def holdL (g m : Nat) (l : List (Nat × Nat)) : List Nat := l.flatMap fun x => held g m x.1 x.2
theorem holdL_len {g m : Nat} (hm : 1 ≤ m) : ∀ (l : List (Nat × Nat)), (∀ x ∈ l, x.2 ≤ 120) → (holdL g m l).length ≤ l.length * 120
  | [], _ => by simp [holdL]
  | x :: l, h => by
    have ih := holdL_len (g := g) hm l fun y hy => h y (by simp [hy])
    have h1 := held_len g m hm x.2 x.2 x.1 (Nat.le_refl _)
    have h2 := h x (by simp)
    show (held g m x.1 x.2 ++ holdL g m l).length ≤ _
    rw [List.length_append, List.length_cons]
    omega
theorem holds_holdL {a : Abs} {c m : Nat} (hm : 1 ≤ m) : holds a c m = holdL a.need m (shuts a c) := holds_eq hm
theorem shuts_120 {a : Abs} {c : Nat} (h : a.day ≤ 120) : (shuts a c).length ≤ 120 ∧ ∀ x ∈ shuts a c, x.2 ≤ 120 := by
  refine ⟨by have := shuts_count a c; omega, fun x hx => ?_⟩
  have := shuts_len hx
  omega
/-- of each minute of the day the next one in which cars may cross -/
def waitsL (a : Abs) (c : Nat) : List Nat := (List.range a.day).map (nextOf a c)
theorem waits_at {a : Abs} {c t : Nat} (h : t < a.day) : (waitsL a c)[t]? = some (nextOf a c t) := by
  unfold waitsL
  rw [List.getElem?_map, List.getElem?_range h]
  rfl
theorem longest_eq {a : Abs} {c m : Nat} (h1 : ∀ x ∈ shuts a c, x.2 ≤ m) (h2 : m = 0 ∨ ∃ x ∈ shuts a c, x.2 = m) : longest a c = m := by
  unfold longest
  refine foldmax_eq (fun y hy => ?_) ?_
  · obtain ⟨x, hx, rfl⟩ := List.mem_map.mp hy
    exact h1 x hx
  · rcases h2 with z | ⟨x, hx, rfl⟩
    · exact .inl z
    · exact .inr (List.mem_map.mpr ⟨x, hx, rfl⟩)
theorem marshals_eq {a : Abs} {m : Nat} (h1 : ∀ t, t < a.day → (closedAt a t).length ≤ m) (h2 : ∃ t, t < a.day ∧ (closedAt a t).length = m) : marshals a = m := by
  unfold marshals
  refine foldmax_eq (fun y hy => ?_) ?_
  · obtain ⟨t, ht, rfl⟩ := List.mem_map.mp hy
    exact h1 t (List.mem_range.mp ht)
  · obtain ⟨t, ht, rfl⟩ := h2
    exact .inr (List.mem_map.mpr ⟨t, List.mem_range.mpr ht, rfl⟩)
theorem okBy_iff {a : Abs} {p q b t : Nat} : okBy a p q b t = true ↔ ∃ u, arrive a p q t = some u ∧ u ≤ b := by
  unfold okBy
  split
  · rename_i u e
    simp [e]
  · rename_i e
    simp [e]
end RC

section
set_option Elab.async false
set_option linter.all false
set_option maxRecDepth 100000
/-! max(list, default=d) -/
namespace RC
open PySem
section
variable {prog : Program} {w : World} {A : Around} {R : Result → Shared → Prop} {I : Addr} {fp wr : List Addr} {n : Nat} {P : Nat → Value → Prop} {St : Nat → Heap → Prop} {kw : List (PySem.Str × Value)}
theorem mx_name : (toString "max" ++ toString ".loop" : String) = "max.loop" := by decide
/-- behind the item j the best so far stands in the list at S -/
theorem mx_loop (W : Walks prog w A.in1 I fp wr n P St) (bt : Nat → Nat → Bool) (cmp : CmpOf prog w A.in1 .Gt P bt) (S : Addr) (nf : S ∉ fp) : ∀ (k j : Nat) (s : Shared) (vb : Value) (c : Nat),
    n = (j + 1) + k → St (j + 1) s.heap → P (argBest bt j) vb → s.heap.get? S = some { cls := .type "list", dict := none, data := .seq #[vb, vb] c, slots := #[] } →
    (∀ v h' tk, P (argBest bt (n - 1)) v → (∀ b o, b ∉ wr → b ≠ S → s.heap.get? b = some o → h'.get? b = some o) → R (.ok (.ret v)) { s with heap := h', toks := tk }) →
    codeAny (model prog w) A (.builtin "max.loop" ⟨[.ref I, .none, .ref S], kw⟩) R s := by
  have nw : S ∉ wr := fun z => nf (W.sub _ z)
  intro k
  induction k with
  | zero =>
    intro j s vb c hn st pb hS hR
    refine codeAny_builtin F.entry_max_loop ?_
    rw [Around.under_plainId F.plain_max_loop _]; show wpAny _ A.in1 (seqItems? (.ref S) >>= _) _ _ s
    refine wpAny_bind (wpAny_seqItems hS rfl ?_); show wpAny _ A.in1 (tryCatch (pyNext (.ref I)) _ >>= _) _ _ s
    refine wpAny_bind (wpAny_tryCatch (W.done s _ _ (hn ▸ st) fun h1 tk keep => ?_))
    have hS1 := keep S _ nw hS
    show wpAny _ A.in1 (updateSeq S (fun _ => #[]) >>= _) _ _ { s with heap := h1, toks := tk }
    refine wpAny_bind (wpAny_updateSeq hS1 rfl (wpAny_bind (wpAny_letGo (wpAny_pure (hR vb _ tk (by rw [hn]; exact pb) ?_)))))
    exact fun b o bw bS e => (Heap.get?_update_other _ _ (Ne.symm bS)).trans (keep b o bw e)
  | succ k ih =>
    intro j s vb c hn st pb hS hR
    refine codeAny_builtin F.entry_max_loop ?_
    rw [Around.under_plainId F.plain_max_loop _]; show wpAny _ A.in1 (seqItems? (.ref S) >>= _) _ _ s
    refine wpAny_bind (wpAny_seqItems hS rfl ?_); show wpAny _ A.in1 (tryCatch (pyNext (.ref I)) _ >>= _) _ _ s
    refine wpAny_bind (wpAny_tryCatch (W.item (j + 1) s _ _ (by omega) st fun v h1 tk pv st1 keep => ?_))
    have hS1 := keep S _ nw hS
    show wpAny _ A.in1 (tryCatch (holding [v, v] (richCompare .Gt v vb >>= _)) _ >>= _) _ _ { s with heap := h1, toks := tk }
    refine wpAny_bind (wpAny_tryCatch (wpAny_holding (wpAny_bind (cmp (j + 1) (argBest bt j) v vb _ _ _ pv pb ?_))))
    refine wpAny_bind (wpAny_holding (wpAny_truthy_bool (wpAny_bind (wpAny_letGo (wpAny_pure ?_)))))
    cases yes : bt (j + 1) (argBest bt j) with
    | true =>
      simp only [if_true]
      refine wpAny_bind (wpAny_updateSeq hS1 rfl (wpAny_bind (wpAny_letGo ?_)))
      rw [mx_name]
      have pn : P (argBest bt (j + 1)) v := by simp only [argBest, yes, if_true]; exact pv
      refine wpAny_pure ⟨plainId_quiet F.plain_max_loop _, ih (j + 1) _ v _ (by omega) (W.frame _ _ _ st1 fun b bf o e => (Heap.get?_update_other _ _ fun z : S = b => nf (z ▸ bf)).trans e) pn (Heap.get?_update_self _ hS1 rfl) fun v2 h2 tk2 p2 keep2 => ?_⟩
      exact hR v2 h2 tk2 p2 fun b o bw bS e => keep2 b o bw bS ((Heap.get?_update_other _ _ (Ne.symm bS)).trans (keep b o bw e))
    | false =>
      simp only [Bool.false_eq_true, if_false]
      refine wpAny_bind (wpAny_letGo ?_)
      rw [mx_name]
      have pn : P (argBest bt (j + 1)) vb := by simp only [argBest, yes, Bool.false_eq_true, if_false]; exact pb
      exact wpAny_pure ⟨plainId_quiet F.plain_max_loop _, ih (j + 1) _ vb c (by omega) st1 pn hS1 fun v2 h2 tk2 p2 keep2 => hR v2 h2 tk2 p2 fun b o bw bS e => keep2 b o bw bS (keep b o bw e)⟩
/-- the first turn -/
theorem mx_first (W : Walks prog w A.in1 I fp wr n P St) (bt : Nat → Nat → Bool) (cmp : CmpOf prog w A.in1 .Gt P bt) (S : Addr) (nf : S ∉ fp) {dk : PySem.Str} {d : Value} {s : Shared} {c : Nat} (st : St 0 s.heap)
    (hS : s.heap.get? S = some { cls := .type "list", dict := none, data := .seq #[] c, slots := #[] })
    (h0 : n = 0 → ∀ h' tk, (∀ b o, b ∉ wr → b ≠ S → s.heap.get? b = some o → h'.get? b = some o) → R (.ok (.ret d)) { s with heap := h', toks := tk })
    (hR : 0 < n → ∀ v h' tk, P (argBest bt (n - 1)) v → (∀ b o, b ∉ wr → b ≠ S → s.heap.get? b = some o → h'.get? b = some o) → R (.ok (.ret v)) { s with heap := h', toks := tk }) :
    codeAny (model prog w) A (.builtin "max.loop" ⟨[.ref I, .none, .ref S], [(dk, d)]⟩) R s := by
  have nw : S ∉ wr := fun z => nf (W.sub _ z)
  refine codeAny_builtin F.entry_max_loop ?_
  rw [Around.under_plainId F.plain_max_loop _]; show wpAny _ A.in1 (seqItems? (.ref S) >>= _) _ _ s
  refine wpAny_bind (wpAny_seqItems hS rfl ?_); show wpAny _ A.in1 (tryCatch (pyNext (.ref I)) _ >>= _) _ _ s
  by_cases hn : n = 0
  · refine wpAny_bind (wpAny_tryCatch (W.done s _ _ (hn ▸ st) fun h1 tk keep => ?_))
    show wpAny _ A.in1 (rule _ >>= fun _ => ret d) _ _ { s with heap := h1, toks := tk }
    refine wpAny_bind (wpAny_rule (wpAny_pure ?_))
    exact h0 hn h1 tk fun b o bw _ e => keep b o bw e
  · have hp : 0 < n := by omega
    refine wpAny_bind (wpAny_tryCatch (W.item 0 s _ _ hp st fun v h1 tk pv st1 keep => ?_))
    have hS1 := keep S _ nw hS
    show wpAny _ A.in1 (updateSeq S (fun _ => #[v, v]) >>= _) _ _ { s with heap := h1, toks := tk }
    refine wpAny_bind (wpAny_updateSeq hS1 rfl ?_)
    rw [mx_name]
    refine wpAny_pure ⟨plainId_quiet F.plain_max_loop _, mx_loop W bt cmp S nf (n - 1) 0 _ v _ (by omega) (W.frame _ _ _ st1 fun b bf o e => (Heap.get?_update_other _ _ fun z : S = b => nf (z ▸ bf)).trans e) pv (Heap.get?_update_self _ hS1 rfl) fun v2 h2 tk2 p2 keep2 => ?_⟩
    exact hR hp v2 h2 tk2 p2 fun b o bw bS e => keep2 b o bw bS ((Heap.get?_update_other _ _ (Ne.symm bS)).trans (keep b o bw e))
end
end RC
end
section
set_option Elab.async false
set_option linter.all false
set_option maxRecDepth 100000
set_option maxHeartbeats 2000000
/-! Words of this proof's own over the layer: a def that may be called, the readings as equations, heaps that grow. -/
namespace RC
open PySem PySem.Spec PyProof.Rows L2

/-! how many arguments -/
theorem us1 {P : List Value → Prop} (h : ∀ a, P [a]) (us : List Value) (hl : us.length = 1) : P us := by
  obtain ⟨a, rfl⟩ := List.length_eq_one_iff.mp hl
  exact h a
theorem us_cons {P : List Value → Prop} {n : Nat} (h : ∀ a r, r.length = n → P (a :: r)) (us : List Value) (hl : us.length = n + 1) : P us := by
  cases us with
  | nil => cases hl
  | cons a r => exact h a r (Nat.succ.inj hl)
theorem us2 {P : List Value → Prop} (h : ∀ a b, P [a, b]) : ∀ us : List Value, us.length = 2 → P us := us_cons fun a => us1 (P := fun r => P (a :: r)) (h a)
theorem us3 {P : List Value → Prop} (h : ∀ a b c, P [a, b, c]) : ∀ us : List Value, us.length = 3 → P us := us_cons fun a => us2 (P := fun r => P (a :: r)) (h a)
theorem us4 {P : List Value → Prop} (h : ∀ a b c d, P [a, b, c, d]) : ∀ us : List Value, us.length = 4 → P us := us_cons fun a => us3 (P := fun r => P (a :: r)) (h a)
theorem us5 {P : List Value → Prop} (h : ∀ a b c d e, P [a, b, c, d, e]) : ∀ us : List Value, us.length = 5 → P us := us_cons fun a => us4 (P := fun r => P (a :: r)) (h a)
section
variable {P : Program} {w : World} {K : PySem.W.Frag} {mg : Str → Option Value} {base : Heap}
/-- a def of the text, by its name -/
def IsDef (K : PySem.W.Frag) (mg : Str → Option Value) (x : Str) (st : Stmt) : Prop := ∃ (f : Addr) (fd : FuncData), Fun K x x st f fd ∧ mg x = some (.ref f)
/-- a def that may be called: its promise -/
def Cal (P : Program) (w : World) (K : PySem.W.Frag) (mg : Str → Option Value) (base : Heap) (x : Str) (k : Nat) (ps : List Str) (sp : Sp) : Prop :=
  ∃ (f : Addr) (fd : FuncData), FnOk P w K mg base CX0 k f fd ps sp ∧ mg x = some (.ref f) ∧ PySem.W.keepIn K (.ref f) = true ∧ Binds K fd ps []
/-- how all arguments bind -/
def Bnd (x : Str) (st : Stmt) (ps : List Str) : Prop := ∀ (kV doc pm : Value) (an : Option Addr) (cdv ct : Value) (us : List Value), us.length = ps.length →
  bindArgs (PySem.W.fnOf x x (defArgs st) (defBody st) (defScope st) .none kV doc pm an cdv ct) ⟨us, []⟩ = pure (ps.zip us)
theorem cal_mk {x : Str} {st : Stmt} {N ps : List Str} {k : Nat} {sp : Sp} (D : IsDef K mg x st) (S : FnScope N ps (defScope st)) (hb : Bnd x st ps) (len : ∀ vs H Q E, sp vs H Q E → vs.length = ps.length)
    (hbody : ∀ (f : Addr) (cdv : Value) (A : Around) (outer : List Env) (s : Shared) (H : Hp) (vs : List V) (Q : VK) (E : XK), Room k (A.deeper (envOfC x (defScope st) s.heap.objs.size f cdv)) → sp vs H Q E →
      ∃ t, PSs (cxOf CX0 P w K mg base N x (defScope st) f cdv A outer s H E).nox (defBody st) t ∧ t { nx := fun _ H' => Q .non H', rt := Q } (start N vs) H) : Cal P w K mg base x (k + 1) ps sp := by
  obtain ⟨f, fd, F, hm⟩ := D
  exact ⟨f, fd, F.ok S len fun cdv A outer s H vs Q E hr hs => hbody f cdv A outer s H vs Q E hr hs, hm, F.kp, F.binds hb⟩
theorem Cal.mono {x : Str} {j k : Nat} {ps : List Str} {sp : Sp} (c : Cal P w K mg base x j ps sp) (h : j ≤ k) : Cal P w K mg base x k ps sp := by
  obtain ⟨f, fd, F, r⟩ := c
  exact ⟨f, fd, F.mono h, r⟩
end
section
variable {X : Cx} {k : Nat} {ps : List Str} {sp : Sp} {x : Str} {p pos : Pos} {e : Expr} {es : List Expr} {t : TA}
theorem pe_own (c : Cal X.prog X.w X.K X.mg X.base x k ps sp) (hr : Room k X.A) (ha : PA X (e :: es) t) (hg : Gl X x := by rfl) (hdb : (x == ("__debug__" : Str)) = false := by decide)
    (he : starEach (e :: es) X.env = (false, eval e X.env) :: starEach es X.env := by rfl) (hpl : (backTo pos (starEach es X.env)).any (·.1) = false := by rfl) : PE X (.Call (.Name x p) (e :: es) [] pos) (tCall sp [] E0 t) := by
  obtain ⟨f, fd, F, hm, hk, hb⟩ := c
  exact pe_call F hr hg hm hk hb .nil pass0 ha hdb he hpl
theorem pe_own0 (c : Cal X.prog X.w X.K X.mg X.base x k ps sp) (hr : Room k X.A) (hg : Gl X x := by rfl) (hdb : (x == ("__debug__" : Str)) = false := by decide) : PE X (.Call (.Name x p) [] [] pos) (tCall sp [] E0 tNil) := by
  obtain ⟨f, fd, F, hm, hk, hb⟩ := c
  exact pe_call0 F hr hg hm hk hb .nil pass0 hdb
/-- a number of the text's top -/
def GlI (mg : Str → Option Value) (x : Str) (v : V) : Prop := ∃ u, mg x = some u ∧ RelV v u
theorem pe_gl {v : V} (h : GlI X.mg x v) (hg : Gl X x := by rfl) (hd : (x == ("__debug__" : Str)) = false := by decide) : PE X (.Name x pos) (tC v) := by
  obtain ⟨u, hm, r⟩ := h
  exact pe_glob hg hm r hd
end

theorem bt_len : bootBuiltins "len" = some (.builtin "len") := by decide +kernel
theorem bt_min : bootBuiltins "min" = some (.builtin "min") := by decide +kernel
theorem bt_max : bootBuiltins "max" = some (.builtin "max") := by decide +kernel
theorem bt_sum : bootBuiltins "sum" = some (.builtin "sum") := by decide +kernel
theorem bt_sorted : bootBuiltins "sorted" = some (.builtin "sorted") := by decide +kernel
theorem bt_any : bootBuiltins "any" = some (.builtin "any") := by decide +kernel
theorem bt_all : bootBuiltins "all" = some (.builtin "all") := by decide +kernel
theorem bt_abs : bootBuiltins "abs" = some (.builtin "abs") := by decide +kernel
theorem bt_list : bootBuiltins "list" = some (.type "list") := by decide +kernel
theorem bt_tuple : bootBuiltins "tuple" = some (.type "tuple") := by decide +kernel
theorem bt_bool : bootBuiltins "bool" = some (.type "bool") := by decide +kernel
theorem bt_int : bootBuiltins "int" = some (.type "int") := by decide +kernel
/-! ### a thing made anew -/
/-- H' is H and a thing o at p, where nothing was -/
structure New (H : Hp) (p : Addr) (o : HO) (H' : Hp) : Prop where
  free : H p = none
  eq : H' = upd H p o
theorem New.same {H H' : Hp} {p : Addr} {o : HO} (n : New H p o H') : Same H H' := fun b u e => by
  rw [n.eq, upd_ne (ne_of_none e n.free)]
  exact e
theorem New.at_ {H H' : Hp} {p : Addr} {o : HO} (n : New H p o H') : H' p = some o := by rw [n.eq, upd_same]
theorem all_new {H : Hp} {o : HO} {R : Addr → Hp → Prop} : (∀ p, H p = none → R p (upd H p o)) = ∀ p H', New H p o H' → R p H' :=
  propext ⟨fun h p H' n => n.eq ▸ h p n.free, fun h p n => h p _ ⟨n, rfl⟩⟩
/-! ### the readings as equations -/
section
variable {K : PySem.W.Frag} {D : Ends} {σ : L2.St} {H : Hp} {Q : VK} {QT : Bool → Hp → Prop} {QA : List V → Hp → Prop} {QS : L2.St → Hp → Prop} {ta tb tc te : TE} {tt tt' : TT} {ts ts' : TS} {tr : TA} {to' : TO} {r r' : R2}
theorem ap_var {i : Nat} : tVar i σ H Q = ∃ v, σ[i]? = some (some v) ∧ Q v H := rfl
theorem ap_c {v : V} : tC v σ H Q = Q v H := rfl
theorem ap_seq : tSeq ts ts' D σ H = ts { D with nx := ts' D } σ H := rfl
theorem ap_next : tNext D σ H = D.nx σ H := rfl
theorem ap_break : tBreak D σ H = D.bk σ H := rfl
theorem ap_cont : tCont D σ H = D.ct σ H := rfl
theorem ap_drop : tDrop te D σ H = te σ H fun _ H1 => D.nx σ H1 := rfl
theorem ap_ret : tRet te D σ H = te σ H D.rt := rfl
theorem ap_retN : tRetN D σ H = D.rt .non H := rfl
theorem ap_ifS : tIfS tt ts ts' D σ H = tt σ H fun b H1 => if b = true then ts D σ H1 else ts' D σ H1 := rfl
theorem ap_asg {g : TG} : tAsg te g D σ H = te σ H fun x H1 => g x σ H1 D.nx := rfl
theorem ap_aug {i : Nat} {ti : TIp} : tAug i te ti D σ H = ∃ x, σ[i]? = some (some x) ∧ te σ H fun y H1 => ti x y H1 fun z H2 => D.nx (σ.set i (some z)) H2 := rfl
theorem ap_augS {to ti : TE} {tget : V → V → Hp → VK → Prop} {tip : TIp} {tset : TSet} : tAugS to ti te tget tip tset D σ H = to σ H fun o H1 => ti σ H1 fun i H2 => tget o i H2 fun x H3 => te σ H3 fun y H4 => tip x y H4 fun z H5 => tset o i z H5 fun H6 => D.nx σ H6 := rfl
theorem ap_ipI {f : Int → Int → Int} {x y : V} : ipI f x y H Q = ∃ i j, x = .int i ∧ y = .int j ∧ Q (.int (f i j)) H := rfl
theorem ap_op : tOp r ta tb σ H Q = ta σ H fun x H1 => tb σ H1 fun y H2 => r x y H2 Q := rfl
theorem ap_un {r : V → Hp → VK → Prop} : tUn r ta σ H Q = ta σ H fun x H1 => r x H1 Q := rfl
theorem ap_test : tTest te σ H QT = te σ H fun x H' => ∃ k, x = .bl k ∧ QT k H' := rfl
theorem ap_b : tB te σ H QT = te σ H fun x H1 => ∃ c, x = .bl c ∧ QT c H1 := rfl
theorem ap_not : tNot tt σ H QT = tt σ H fun c H1 => QT (!c) H1 := rfl
theorem ap_and : tAnd tt tt' σ H QT = tt σ H fun c H1 => if c = true then tt' σ H1 QT else QT false H1 := rfl
theorem ap_or : tOr tt tt' σ H QT = tt σ H fun c H1 => if c = true then QT true H1 else tt' σ H1 QT := rfl
theorem ap_if : tIf tt ta tb σ H Q = tt σ H fun c H1 => if c = true then ta σ H1 Q else tb σ H1 Q := rfl
theorem ap_andV : tAndV ta tb σ H Q = ta σ H fun x H1 => ∃ c, x = .bl c ∧ if c = true then tb σ H1 Q else Q (.bl false) H1 := rfl
theorem ap_orV : tOrV ta tb σ H Q = ta σ H fun x H1 => ∃ c, x = .bl c ∧ if c = true then Q (.bl true) H1 else tb σ H1 Q := rfl
theorem ap_notV : tNotV ta σ H Q = ta σ H fun x H1 => ∃ c, x = .bl c ∧ Q (.bl (!c)) H1 := rfl
theorem ap_chain : tChain r r' ta tb tc σ H Q = ta σ H fun x H1 => tb σ H1 fun y H2 => r x y H2 fun z H3 => ∃ k, z = .bl k ∧ (if k = true then tc σ H3 fun w' H4 => r' y w' H4 Q else Q (.bl false) H3) := rfl
theorem ap_nil : tNil σ H QA = QA [] H := rfl
theorem ap_cons : tCons ta tr σ H QA = ta σ H fun x H1 => tr σ H1 fun xs H2 => QA (x :: xs) H2 := rfl
theorem ap_tup : tTup tr σ H Q = tr σ H fun xs H1 => xs.length ≤ sizeLine ∧ ∀ p H', New H1 p (.tup xs) H' → Q (.ref p) H' := by
  unfold tTup
  congr 1
  funext xs H1
  rw [all_new (R := fun p H' => Q (.ref p) H')]
theorem ap_lst : tLst tr σ H Q = tr σ H fun xs H1 => xs.length ≤ sizeLine ∧ ∀ p H', New H1 p (.lst xs) H' → Q (.ref p) H' := by
  unfold tLst
  congr 1
  funext xs H1
  rw [all_new (R := fun p H' => Q (.ref p) H')]
theorem ap_fld {f : Str} : tFld K ta f σ H Q = ta σ H fun x H1 => ∃ a C dx fs v, x = .ref a ∧ H1 a = some (.ins C dx fs) ∧ Cls K C ∧ NoAttr K C f ∧ fs.lookup f = some v ∧ Q v H1 := rfl
theorem ap_sFld {f : Str} : sFld K ta te f D σ H = te σ H fun y H1 => ta σ H1 fun x H2 => ∃ a C dx fs, x = .ref a ∧ H2 a = some (.ins C dx fs) ∧ Cls K C ∧ NoAttr K C f ∧ fs.length < 1000 ∧ D.nx σ (upd H2 a (.ins C dx (putF f y fs))) := rfl
theorem ap_sFldAug {f : Str} {rd : V → V → Hp → VK → Prop} : sFldAug K ta te rd f D σ H = ta σ H fun x H1 => ∃ a C dx fs v, x = .ref a ∧ H1 a = some (.ins C dx fs) ∧ Cls K C ∧ NoAttr K C f ∧ fs.lookup f = some v ∧
  te σ H1 fun y H2 => rd v y H2 fun z H3 => ∃ dx' fs', H3 a = some (.ins C dx' fs') ∧ fs'.length < 1000 ∧ D.nx σ (upd H3 a (.ins C dx' (putF f z fs'))) := rfl
theorem ap_rAdd {x y : V} : rAdd x y H Q = ∃ i j, x = .int i ∧ y = .int j ∧ Q (.int (i + j)) H := rfl
theorem ap_rSub {x y : V} : rSub x y H Q = ∃ i j, x = .int i ∧ y = .int j ∧ Q (.int (i - j)) H := rfl
theorem ap_call {sp : Sp} {dvs : List V} {E : XK} : tCall sp dvs E tr σ H Q = tr σ H fun vs H1 => sp (vs ++ dvs) H1 Q E := rfl
theorem ap_cb {r : List V → Hp → VK → Prop} : tCB r tr σ H Q = tr σ H fun xs H1 => r xs H1 Q := rfl
theorem ap_bm {T : String} {r : V → List V → Hp → VK → Prop} : tBM K T r te tr σ H Q = te σ H fun x H1 => tyV K T x H1 ∧ tr σ H1 fun xs H2 => r x xs H2 Q := rfl
theorem ap_sl {r : V → Option Int → Option Int → Hp → VK → Prop} {tl th : TO} : tSl r te tl th σ H Q = te σ H fun x H1 => tl σ H1 fun l H2 => th σ H2 fun u H3 => r x l u H3 Q := rfl
theorem ap_noPart {QO : Option Int → Hp → Prop} : tNoPart σ H QO = QO none H := rfl
theorem ap_part {QO : Option Int → Hp → Prop} : tPart te σ H QO = te σ H fun x H1 => ∃ i, x = .int i ∧ QO (some i) H1 := rfl
theorem ap_gName {i : Nat} {v : V} : gName i v σ H QS = QS (σ.set i (some v)) H := rfl
theorem ap_gNil {vs : List V} : gNil vs σ H QS = (vs = [] ∧ QS σ H) := rfl
theorem ap_gCons {t : TG} {u : TGs} {vs : List V} : gCons t u vs σ H QS = ∃ v r, vs = v :: r ∧ t v σ H fun σ' H' => u r σ' H' QS := rfl
theorem ap_gTup {n : Nat} {t : TGs} {v : V} : gTup K n t v σ H QS = ∃ a xs, v = .ref a ∧ SqT K H a xs ∧ xs.length = n ∧ t xs σ H QS := rfl
theorem ap_gSub {to ti : TE} {t : TSet} {v : V} : gSub to ti t v σ H QS = to σ H fun o H1 => ti σ H1 fun i H2 => t o i v H2 fun H3 => QS σ H3 := rfl
theorem ap_rI0 {g : Int → Int → V} {x y : V} : rI0 g x y H Q = ∃ i j, x = .int i ∧ y = .int j ∧ Q (g i j) H := rfl
theorem ap_rI {C : Int → Int → Prop} {g : Int → Int → V} {x y : V} : rI C g x y H Q = ∃ i j, x = .int i ∧ y = .int j ∧ C i j ∧ Q (g i j) H := rfl
theorem ap_rEq {x y : V} : rEq x y H Q = (scal x y = true ∧ Q (.bl (decide (x = y))) H) := rfl
theorem ap_rNe {x y : V} : rNe x y H Q = (scal x y = true ∧ Q (.bl (!decide (x = y))) H) := rfl
theorem ap_rIxL {x y : V} : rIxL K x y H Q = ∃ p xs i v, x = .ref p ∧ y = .int i ∧ SqL K H p xs ∧ atI xs i = some v ∧ Q v H := rfl
theorem ap_rIxT {x y : V} : rIxT K x y H Q = ∃ p xs i v, x = .ref p ∧ y = .int i ∧ SqT K H p xs ∧ atI xs i = some v ∧ Q v H := rfl
theorem ap_rSetL {o i v : V} {QH : Hp → Prop} : rSetL o i v H QH = ∃ p xs k j, o = .ref p ∧ i = .int k ∧ H p = some (.lst xs) ∧ ixN xs.length k = some j ∧ QH (upd H p (.lst (xs.set j v))) := rfl
theorem ap_rAppend {x : V} {vs : List V} : rAppend x vs H Q = ∃ l xs y, x = .ref l ∧ vs = [y] ∧ H l = some (.lst xs) ∧ xs.length < sizeLine ∧ Q .non (upd H l (.lst (xs ++ [y]))) := rfl
theorem ap_rExtend {x : V} {vs : List V} : rExtend x vs H Q = ∃ l b xs zs, x = .ref l ∧ vs = [.ref b] ∧ H l = some (.lst xs) ∧ H b = some (.lst zs) ∧ xs.length + zs.length ≤ sizeLine ∧ Q .non (upd H l (.lst (xs ++ zs))) := rfl
theorem ap_rCat {x y : V} : rCat x y H Q = ∃ l b xs zs, x = .ref l ∧ y = .ref b ∧ H l = some (.lst xs) ∧ H b = some (.lst zs) ∧ xs.length + zs.length ≤ sizeLine ∧ ∀ p H', New H p (.lst (xs ++ zs)) H' → Q (.ref p) H' := by
  unfold rCat
  simp only [all_new (R := fun p H' => Q (.ref p) H')]
theorem ap_rRep {x y : V} : rRep x y H Q = ∃ l k xs, x = .ref l ∧ y = .int k ∧ H l = some (.lst xs) ∧ -(2 ^ 63) ≤ k ∧ k < 2 ^ 63 ∧ xs.length * k.toNat ≤ sizeLine ∧ ∀ p H', New H p (.lst (List.replicate k.toNat xs).flatten) H' → Q (.ref p) H' := by
  unfold rRep
  simp only [all_new (R := fun p H' => Q (.ref p) H')]
theorem ap_rSlL {x : V} {lo hi : Option Int} : rSlL K x lo hi H Q = ∃ a xs, x = .ref a ∧ SqL K H a xs ∧ ∀ p H', New H p (.lst (cutV xs lo hi)) H' → Q (.ref p) H' := by
  unfold rSlL
  simp only [all_new (R := fun p H' => Q (.ref p) H')]
theorem ap_rIn {neg : Bool} {x y : V} : rIn K neg x y H Q = ∃ p xs, y = .ref p ∧ (SqL K H p xs ∨ SqT K H p xs) ∧ flatV x = true ∧ xs.all flatV = true ∧ Q (.bl (if neg then !inV x xs else inV x xs)) H := rfl
theorem cx_K {CX : CXT} {P : Program} {w : World} {mg : Str → Option Value} {base : Heap} {N : List Str} {qual : Str} {scope : Scope} {f : Addr} {cd : Value} {A : Around} {outer : List Env} {s : Shared} {E : XK} : (cxOf CX P w K mg base N qual scope f cd A outer s H E).K = K := rfl
/-- a for, behind its head -/
def ForW (J : It) (g : TG) (tb : TS) (D : Ends) (σ : L2.St) (H : Hp) : Prop := ∃ W : Nat → Nat → L2.St → Hp → Prop, (∃ m, W 0 m σ H) ∧ ∀ i m σ H, W i m σ H →
  (J.stop i H ∧ D.nx σ H) ∨ (J.go i H ∧ ∃ N : L2.St → Hp → Prop, (∀ σ' H', N σ' H' → ∃ m', m' < m ∧ W (i + 1) m' σ' H') ∧ ∀ x H', J.yld i H x H' → g x σ H' fun σ2 H2 => tb { D with nx := N, ct := N, bk := D.nx } σ2 H2)
theorem ap_for {wi : TI} {g : TG} : tFor wi g ts D σ H = wi σ H fun J H1 => ForW J g ts D σ H1 := rfl
theorem ap_iList {R : It → Hp → Prop} : iList K te σ H R = te σ H fun x H1 => ∃ a, x = .ref a ∧ (∃ xs, SqL K H1 a xs) ∧ R (Itl K a) H1 := rfl
theorem ap_iTup {R : It → Hp → Prop} : iTup K te σ H R = te σ H fun x H1 => ∃ a, x = .ref a ∧ (∃ xs, SqT K H1 a xs) ∧ R (Itt K a) H1 := rfl
theorem ap_iRng1 {R : It → Hp → Prop} : iRng1 tr σ H R = tr σ H fun vs H1 => ∃ j : Int, vs = [.int j] ∧ -(2 ^ 62) ≤ j ∧ j < 2 ^ 62 ∧ R (Itr 0 j.toNat) H1 := rfl
theorem ap_iRng2 {R : It → Hp → Prop} : iRng2 tr σ H R = tr σ H fun vs H1 => ∃ i j : Int, vs = [.int i, .int j] ∧ (-(2 ^ 62) ≤ i ∧ i < 2 ^ 62 ∧ -(2 ^ 62) ≤ j ∧ j < 2 ^ 62) ∧ R (Itr i (j - i).toNat) H1 := rfl
end

/-! ### loops -/
theorem forW_list {K : PySem.W.Frag} {a : Addr} {xs : List V} {g : TG} {tb : TS} {D : Ends} {σ : L2.St} {H : Hp} (Pv : Nat → L2.St → Hp → Prop) (h0 : Pv 0 σ H) (hl : ∀ i σ H, i ≤ xs.length → Pv i σ H → SqL K H a xs)
    (hs : ∀ i x σ H, xs[i]? = some x → Pv i σ H → g x σ H fun σ2 H2 => tb { D with nx := Pv (i + 1), ct := Pv (i + 1), bk := D.nx } σ2 H2) (hd : ∀ σ H, Pv xs.length σ H → D.nx σ H) : ForW (Itl K a) g tb D σ H := for_list Pv h0 hl hs hd
theorem forW_tup {K : PySem.W.Frag} {a : Addr} {xs : List V} {g : TG} {tb : TS} {D : Ends} {σ : L2.St} {H : Hp} (Pv : Nat → L2.St → Hp → Prop) (h0 : Pv 0 σ H) (hl : ∀ i σ H, i ≤ xs.length → Pv i σ H → SqT K H a xs)
    (hs : ∀ i x σ H, xs[i]? = some x → Pv i σ H → g x σ H fun σ2 H2 => tb { D with nx := Pv (i + 1), ct := Pv (i + 1), bk := D.nx } σ2 H2) (hd : ∀ σ H, Pv xs.length σ H → D.nx σ H) : ForW (Itt K a) g tb D σ H := for_tup Pv h0 hl hs hd
theorem forW_range {lo : Int} {n : Nat} {g : TG} {tb : TS} {D : Ends} {σ : L2.St} {H : Hp} (Pv : Nat → L2.St → Hp → Prop) (h0 : Pv 0 σ H)
    (hs : ∀ i σ H, i < n → Pv i σ H → g (.int (lo + i)) σ H fun σ2 H2 => tb { D with nx := Pv (i + 1), ct := Pv (i + 1), bk := D.nx } σ2 H2) (hd : ∀ σ H, Pv n σ H → D.nx σ H) : ForW (Itr lo n) g tb D σ H := for_range Pv h0 hs hd

/-- a while: Pv, by a number that falls -/
def WhTurn (Pv : Nat → L2.St → Hp → Prop) (m : Nat) : L2.St → Hp → Prop := fun σ' H' => ∃ m', m' < m ∧ Pv m' σ' H'
theorem whileW {c : TT} {tb : TS} {D : Ends} {σ : L2.St} {H : Hp} (Pv : Nat → L2.St → Hp → Prop) (h0 : ∃ m, Pv m σ H)
    (hs : ∀ m σ H, Pv m σ H → c σ H fun b H1 => if b = true then (∃ N : L2.St → Hp → Prop, (∀ σ' H', N σ' H' → ∃ m', m' < m ∧ Pv m' σ' H') ∧ tb { D with nx := N, ct := N, bk := D.nx } σ H1) else D.nx σ H1) : tWhile c tb D σ H := by
  refine ⟨Pv, h0, fun m σ H h => ?_⟩
  exact hs m σ H h

/-! ### heaps that grow -/
theorem _root_.L2.Same.new {H : Hp} {l : Addr} {o : HO} (h : H l = Option.none) : Same H (upd H l o) := fun b u e => by
  rw [upd_ne (ne_of_none e h)]
  exact e
/-- a thing made since: written anew -/
theorem _root_.L2.Same.own {H0 H : Hp} {l : Addr} {o : HO} (s : Same H0 H) (h : H0 l = Option.none) : Same H0 (upd H l o) := fun b u e => by
  rw [upd_ne (ne_of_none e h)]
  exact s b u e
theorem _root_.L2.Same.tup {K : PySem.W.Frag} {H H' : Hp} {a : Addr} {xs : List V} (e : Same H H') (h : SqT K H a xs) : SqT K H' a xs := by
  rcases h with (h | ⟨o, h⟩) | h
  · exact .inl (.inl (e _ _ h))
  · exact .inl (.inr ⟨o, e _ _ h⟩)
  · exact .inr h
theorem upd_at {H : Hp} {a b : Addr} {o u : HO} (h : H b = some u) (ne : b ≠ a) : upd H a o b = some u := by
  rw [upd_ne ne]
  exact h
theorem take_snoc {α : Type} : ∀ {l : List α} {i : Nat} {x : α}, l[i]? = some x → l.take (i + 1) = l.take i ++ [x]
  | [], i, x, h => by simp at h
  | a :: l, 0, x, h => by
    have e : a = x := Option.some.inj h
    subst e
    rfl
  | a :: l, i + 1, x, h => by
    have ih := take_snoc (l := l) (i := i) (x := x) h
    show a :: l.take (i + 1) = a :: l.take i ++ [x]
    rw [ih]
    rfl
theorem map_at {α β : Type} {f : α → β} {l : List α} {i : Nat} {y : β} (h : (l.map f)[i]? = some y) : ∃ x, l[i]? = some x ∧ y = f x := by
  rw [List.getElem?_map] at h
  cases e : l[i]? with
  | none => rw [e] at h; cases h
  | some x => rw [e] at h; exact ⟨x, rfl, (Option.some.inj h).symm⟩
theorem ixN_nat {n j : Nat} (h : j < n) : ixN n (j : Int) = some j := by
  unfold ixN
  rw [if_pos (by omega), if_pos (by omega)]
  simp
end RC
end
section
set_option Elab.async false
set_option linter.all false
set_option maxRecDepth 100000
set_option maxHeartbeats 2000000
/-! How the state lies in the heap. -/
namespace RC
open PySem PySem.Spec PyProof.Rows L2
open Kh343 (Abs Road)

/-! ### marks: of each minute of the day whether .. -/
def marks (d : Nat) (f : Nat → Bool) : List Bool := (List.range d).map f
theorem marks_len (d : Nat) (f : Nat → Bool) : (marks d f).length = d := by simp [marks]
theorem marks_congr {d : Nat} {f g : Nat → Bool} (h : ∀ t, t < d → f t = g t) : marks d f = marks d g := by
  unfold marks
  apply List.map_congr_left
  intro t ht
  exact h t (List.mem_range.mp ht)
theorem marks_get {d : Nat} {f : Nat → Bool} {t : Nat} (h : t < d) : (marks d f)[t]? = some (f t) := by
  unfold marks
  rw [List.getElem?_map, List.getElem?_range h]
  rfl
theorem marks_set {d : Nat} {f : Nat → Bool} {k : Nat} : (marks d f).set k true = marks d (fun t => f t || decide (t = k)) := by
  apply List.ext_getElem?
  intro i
  rw [List.getElem?_set]
  unfold marks
  rw [List.getElem?_map, List.getElem?_map, List.length_map, List.length_range]
  by_cases h : i < d
  · rw [List.getElem?_range h]
    by_cases e : k = i
    · subst e
      simp [h]
    · have e' : ¬ i = k := fun q => e q.symm
      simp [e, e']
  · rw [List.getElem?_eq_none (by simpa using h)]
    by_cases e : k = i
    · subst e
      simp [h]
    · simp [e]
theorem marks_false (d : Nat) : marks d (fun _ => false) = List.replicate d false := by
  unfold marks
  rw [List.map_const', List.length_range]
theorem marksV_set {d : Nat} {f : Nat → Bool} {k : Nat} : ((marks d f).map V.bl).set k (V.bl true) = (marks d (fun t => f t || decide (t = k))).map V.bl := by
  rw [← List.map_set, marks_set]
theorem rep_one {α : Type} (k : Nat) (x : α) : (List.replicate k [x]).flatten = List.replicate k x := by
  induction k with
  | zero => rfl
  | succ k ih => rw [List.replicate_succ, List.flatten_cons, ih, List.replicate_succ]; rfl

/-! ### pairs of numbers in a list -/
def PairsAt (H : Hp) (a : Addr) (l : List (Nat × Nat)) : Prop :=
  ∃ ts : List Addr, H a = some (.lst (ts.map V.ref)) ∧ Paired (fun p x => H p = some (.tup [.int x.1, .int x.2])) ts l
theorem Paired.imp' {α β : Type} {R R' : α → β → Prop} (h : ∀ a b, R a b → R' a b) : ∀ {l : List α} {m : List β}, Paired R l m → Paired R' l m
  | _, _, .nil => .nil
  | _, _, .cons r t => .cons (h _ _ r) (Paired.imp' h t)
theorem Paired.snoc {α β : Type} {R : α → β → Prop} {a : α} {b : β} (h : R a b) : ∀ {l : List α} {m : List β}, Paired R l m → Paired R (l ++ [a]) (m ++ [b])
  | _, _, .nil => .cons h .nil
  | _, _, .cons r t => .cons r (Paired.snoc h t)
theorem Paired.len' {α β : Type} {R : α → β → Prop} : ∀ {l : List α} {m : List β}, Paired R l m → l.length = m.length
  | _, _, .nil => rfl
  | _, _, .cons _ t => by rw [List.length_cons, List.length_cons, Paired.len' t]
theorem Paired.at' {α β : Type} {R : α → β → Prop} : ∀ {l : List α} {m : List β}, Paired R l m → ∀ {i : Nat} {b : β}, m[i]? = some b → ∃ a, l[i]? = some a ∧ R a b
  | _, _, .nil, i, b, h => by simp at h
  | _, _, .cons r t, 0, b, h => by
    simp at h
    subst h
    exact ⟨_, rfl, r⟩
  | _, _, .cons r t, i + 1, b, h => by
    simp at h
    exact Paired.at' t h
theorem Paired.at_l {α β : Type} {R : α → β → Prop} : ∀ {l : List α} {m : List β}, Paired R l m → ∀ {i : Nat} {a : α}, l[i]? = some a → ∃ b, m[i]? = some b ∧ R a b
  | _, _, .nil, i, b, h => by simp at h
  | _, _, .cons r t, 0, b, h => by
    simp at h
    subst h
    exact ⟨_, rfl, r⟩
  | _, _, .cons r t, i + 1, b, h => by
    simp at h
    exact Paired.at_l t h
theorem Paired.set' {α β : Type} {R : α → β → Prop} {a : α} {b : β} (h : R a b) : ∀ {l : List α} {m : List β} (i : Nat), Paired R l m → Paired R (l.set i a) (m.set i b)
  | _, _, _, .nil => .nil
  | _, _, 0, .cons _ t => .cons h t
  | _, _, i + 1, .cons r t => .cons r (Paired.set' h i t)
/-- what is kept by the heap of all members -/
theorem Paired.mem' {α β : Type} {R R' : α → β → Prop} : ∀ {l : List α} {m : List β}, Paired R l m → (∀ a b, a ∈ l → R a b → R' a b) → Paired R' l m
  | _, _, .nil, _ => .nil
  | _, _, .cons r t, h => .cons (h _ _ (by simp) r) (Paired.mem' t fun a b ha => h a b (by simp [ha]))
theorem PairsAt.same {H H' : Hp} {a : Addr} {l : List (Nat × Nat)} (s : Same H H') (h : PairsAt H a l) : PairsAt H' a l := by
  obtain ⟨ts, h1, h2⟩ := h
  exact ⟨ts, s _ _ h1, Paired.imp' (fun p x e => s _ _ e) h2⟩
theorem PairsAt.len {H : Hp} {a : Addr} {l : List (Nat × Nat)} (h : PairsAt H a l) : ∃ xs, H a = some (.lst xs) ∧ xs.length = l.length := by
  obtain ⟨ts, h1, h2⟩ := h
  exact ⟨_, h1, by rw [List.length_map, Paired.len' h2]⟩

/-! ### the course -/
def cfs (b : Bool) (m g : Int) (lc : Addr) (n : Int) (lr : Addr) : List (Str × V) :=
  [("begun", .bl b), ("minutes", .int m), ("gap", .int g), ("crossings", .ref lc), ("places", .int n), ("roads", .ref lr)]
def crV (c : Option Nat) : Int := c.elim 0 (fun c => (c : Int) + 1)
def RoadAt (H : Hp) (r : Addr) (x : Road) : Prop := H r = some (.tup [.int x.a, .int x.b, .int x.long, .int (crV x.crossing)])
/-- a begun course lies at p; L: what of it may be written -/
structure Lies (C : Addr) (H : Hp) (p : Addr) (L : List Addr) (a : Abs) (dx lc lr : Addr) (cs rs : List Addr) : Prop where
  obj : H p = some (.ins C dx (cfs true a.day a.need lc a.places lr))
  hc : H lc = some (.lst (cs.map V.ref))
  hr : H lr = some (.lst (rs.map V.ref))
  sp : Paired (PairsAt H) cs a.spans
  rd : Paired (RoadAt H) rs a.roads
  el : L = p :: lc :: lr :: cs
  nd : (p :: lc :: lr :: cs).Nodup
  ok : AbsOk a
def CourseAt (C : Addr) (H : Hp) (p : Addr) (L : List Addr) : Option Abs → Prop
  | none => ∃ dx m g lc n lr, H p = some (.ins C dx (cfs false m g lc n lr)) ∧ L = [p]
  | some a => ∃ dx lc lr cs rs, Lies C H p L a dx lc lr cs rs
theorem Lies.same {C : Addr} {H H' : Hp} {p : Addr} {L : List Addr} {a : Abs} {dx lc lr : Addr} {cs rs : List Addr} (s : Same H H') (h : Lies C H p L a dx lc lr cs rs) : Lies C H' p L a dx lc lr cs rs :=
  ⟨s _ _ h.obj, s _ _ h.hc, s _ _ h.hr, Paired.imp' (fun _ _ e => PairsAt.same s e) h.sp, Paired.imp' (fun _ _ e => s _ _ e) h.rd, h.el, h.nd, h.ok⟩
theorem CourseAt.same {C : Addr} {H H' : Hp} {p : Addr} {L : List Addr} {st : Option Abs} (s : Same H H') (h : CourseAt C H p L st) : CourseAt C H' p L st := by
  cases st with
  | none =>
    obtain ⟨dx, m, g, lc, n, lr, h1, h2⟩ := h
    exact ⟨dx, m, g, lc, n, lr, s _ _ h1, h2⟩
  | some a =>
    obtain ⟨dx, lc, lr, cs, rs, h⟩ := h
    exact ⟨dx, lc, lr, cs, rs, h.same s⟩
theorem cf_begun {b : Bool} {m g n : Int} {lc lr : Addr} : (cfs b m g lc n lr).lookup ("begun" : Str) = some (.bl b) := by rfl
theorem cf_minutes {b : Bool} {m g n : Int} {lc lr : Addr} : (cfs b m g lc n lr).lookup ("minutes" : Str) = some (.int m) := by rfl
theorem cf_gap {b : Bool} {m g n : Int} {lc lr : Addr} : (cfs b m g lc n lr).lookup ("gap" : Str) = some (.int g) := by rfl
theorem cf_crossings {b : Bool} {m g n : Int} {lc lr : Addr} : (cfs b m g lc n lr).lookup ("crossings" : Str) = some (.ref lc) := by rfl
theorem cf_places {b : Bool} {m g n : Int} {lc lr : Addr} : (cfs b m g lc n lr).lookup ("places" : Str) = some (.int n) := by rfl
theorem cf_roads {b : Bool} {m g n : Int} {lc lr : Addr} : (cfs b m g lc n lr).lookup ("roads" : Str) = some (.ref lr) := by rfl
theorem pf_begun {b b' : Bool} {m g n : Int} {lc lr : Addr} : putF ("begun" : Str) (.bl b') (cfs b m g lc n lr) = cfs b' m g lc n lr := by rfl
theorem pf_minutes {b : Bool} {m m' g n : Int} {lc lr : Addr} : putF ("minutes" : Str) (.int m') (cfs b m g lc n lr) = cfs b m' g lc n lr := by rfl
theorem pf_gap {b : Bool} {m g g' n : Int} {lc lr : Addr} : putF ("gap" : Str) (.int g') (cfs b m g lc n lr) = cfs b m g' lc n lr := by rfl
theorem pf_crossings {b : Bool} {m g n : Int} {lc lc' lr : Addr} : putF ("crossings" : Str) (.ref lc') (cfs b m g lc n lr) = cfs b m g lc' n lr := by rfl
theorem pf_places {b : Bool} {m g n n' : Int} {lc lr : Addr} : putF ("places" : Str) (.int n') (cfs b m g lc n lr) = cfs b m g lc n' lr := by rfl
theorem pf_roads {b : Bool} {m g n : Int} {lc lr lr' : Addr} : putF ("roads" : Str) (.ref lr') (cfs b m g lc n lr) = cfs b m g lc n lr' := by rfl
/-- what the text's top holds of the class -/
structure CTxt (K : PySem.W.Frag) (C : Addr) : Prop where
  cl : Cls K C
  nB : NoAttr K C "begun"
  nM : NoAttr K C "minutes"
  nG : NoAttr K C "gap"
  nC : NoAttr K C "crossings"
  nP : NoAttr K C "places"
  nR : NoAttr K C "roads"
end RC
end
section
set_option Elab.async false
set_option linter.all false
set_option maxRecDepth 100000
set_option maxHeartbeats 2000000
/-! More rules over the layer: a list extended by a tuple, tuples sorted, max with a default; comprehensions and dicts as equations. -/
namespace RC
open PySem PySem.Spec PyProof.Rows L2
open Kh343 (Abs Road)

/-! ### list.extend(tuple) -/
theorem ext_tup (l : Addr) (items : Array Value) (n : Nat) (b : Addr) (items2 : Array Value) (n2 : Nat) (dd : Option Addr) (sl : Array (Option Value)) (hs0 : ¬(!items.isEmpty && Builtin.List.listTooLong (items.size + items2.size)) = true)
    (hs1 : items.size ≤ sizeLine) (hs2 : items.size + items2.size ≤ sizeLine + 1) :
    Meets (Builtin.«list.extend» ⟨[.ref l, .ref b], []⟩) (fun _ R s => s.heap.get? l = some { cls := .type "list", dict := none, data := .seq items n, slots := #[] } ∧ s.heap.get? b = some ⟨.type "tuple", dd, .seq items2 n2, sl⟩ ∧
      R (.ok (.ret Value.none)) { s with heap := s.heap.update l (Obj.mapSeq fun x => x ++ items2), toks := s.toks }) :=
  .of_wp fun prog w A R s h => by
    obtain ⟨hp, g, d, tk, os⟩ := s
    obtain ⟨hl, hb, h⟩ := h
    have f1 := PySem.AutoSeq1.idx_int
    have f2 := PySem.AutoSeq1.sub_tuple_tuple
    have f3 := PySem.AutoSeq1.sub_list_list
    have f4 := PySem.AutoSeq1.sub_tuple_list
    have f5 := PySem.AutoSeq1.sub_list_tuple
    have hz : (items ++ items2).size ≤ sizeLine + 1 := by
      rw [Array.size_append]
      exact hs2
    wp_walk using (wpAny_updateSeq hl rfl (hz := hs1) (_hz' := hz)), wpAny_loadPart' hl, wpAny_loadPart' hb
    exact ⟨_, rfl, h⟩
def rExtendT (K : PySem.W.Frag) : V → List V → Hp → VK → Prop := fun x vs H Q => ∃ l b xs zs, x = .ref l ∧ vs = [.ref b] ∧ H l = some (.lst xs) ∧ SqT K H b zs ∧ xs.length + zs.length ≤ sizeLine ∧ Q .non (upd H l (.lst (xs ++ zs)))
theorem mt_extendT {X : Cx} : MtM X "list.extend" (rExtendT X.K) := by
  intro pins s σ H x vs v us Q I rx rv h
  obtain ⟨l, b, xs, zs, rfl, rfl, hl, hb, hz, q⟩ := h
  cases rx
  obtain ⟨u, rfl, ru⟩ := rv.one
  cases ru
  obtain ⟨z, its, n, r, e1, e⟩ := I.lstM hl
  obtain ⟨its2, r2, ⟨⟨oc, od, odat, osl⟩, hob, hc, n2, hd⟩, z2⟩ := I.tuple hb
  simp only at hc hd
  subst hc hd
  have e2 := r2.length
  have sz : its.toArray.size + its2.toArray.size ≤ sizeLine := by
    rw [List.size_toArray, List.size_toArray]
    omega
  have short : ¬ (!its.toArray.isEmpty && Builtin.List.listTooLong (its.toArray.size + its2.toArray.size)) = true := by
    rw [notLongL sz, Bool.and_false]
    simp
  have sz1 : its.toArray.size ≤ sizeLine := by omega
  refine call_meets F.slot_list_extend ⟨_, e, rfl⟩ F.entry_list_extend (F.args_list_extend_2 _ _) (ext_tup l its.toArray n b its2.toArray n2 od osl short sz1 (by omega)) ⟨e, hob, ?_⟩
  exact ⟨.non, _, I.lset (its' := its ++ its2) hl e (by simp) (r.append r2) (by rw [List.length_append]; exact hz), rfl, q⟩

/-! ### sorted(list of tuples of three ints) -/
abbrev Key3 := Int × Int × Int
def lt3' (x y : Key3) : Prop := x.1 < y.1 ∨ (x.1 = y.1 ∧ (x.2.1 < y.2.1 ∨ (x.2.1 = y.2.1 ∧ x.2.2 < y.2.2)))
def keyL (x : Key3) : List (Int ⊕ List Nat) := [.inl x.1, .inl x.2.1, .inl x.2.2]
theorem keyL_lt {x y : Key3} (h : PyProof.Rows.lexLt PyProof.Rows.itemOrd (keyL x) (keyL y) = false) : ¬ lt3' x y := by
  obtain ⟨x1, x2, x3⟩ := x
  obtain ⟨y1, y2, y3⟩ := y
  intro q
  have e : ∀ a b : Int, PyProof.Rows.itemLt (.inl a) (.inl b) = decide (a < b) := fun _ _ => rfl
  unfold lt3' at q
  simp only [keyL, PyProof.Rows.lexLt] at h q
  rcases q with q | ⟨rfl, q | ⟨rfl, q⟩⟩
  · simp [q, e] at h
  · simp [q, e] at h
  · simp [q, e] at h
def sh0 : Nat → Bool := fun _ => false
theorem keyOf3 {h : Heap} {a : Addr} {its : Array Value} {x : Key3} (ht : IsTup h a its) (r : Vals [.int x.1, .int x.2.1, .int x.2.2] its.toList) :
    PyProof.Rows.G.tupKeyC h sh0 (.ref a) = some (keyL x) ∧ ∃ f, PyProof.Rows.TupOf h sh0 (.ref a) f := by
  obtain ⟨o, ho, hc, n, hd⟩ := ht
  obtain ⟨l⟩ := its
  simp only at r
  cases r with
  | cons r1 t1 =>
    cases t1 with
    | cons r2 t2 =>
      cases t2 with
      | cons r3 t3 =>
        cases t3
        obtain ⟨k1, rfl⟩ := r1
        obtain ⟨k2, rfl⟩ := r2
        obtain ⟨k3, rfl⟩ := r3
        refine ⟨?_, _, a, o, _, n, rfl, ho, hc, hd, rfl, fun _ => ⟨_, _, rfl⟩, fun z => by cases z⟩
        unfold PyProof.Rows.G.tupKeyC
        rw [if_pos (by simp [PyProof.Rows.G.isTupObj, ho, hc])]
        simp only [PyProof.Rows.tupKey, ho, hd]
        rfl
theorem vals_refs : ∀ {ps : List Addr} {us : List Value}, Vals (ps.map V.ref) us → us = ps.map Value.ref
  | [], _, .nil => rfl
  | p :: ps, _, .cons r t => by
    cases r
    rw [vals_refs t]
    rfl
theorem refs_vals : ∀ (ps : List Addr), Vals (ps.map V.ref) (ps.map Value.ref)
  | [] => .nil
  | p :: ps => .cons rfl (refs_vals ps)
def rSortedT (K : PySem.W.Frag) : List V → Hp → VK → Prop := fun vs H Q => ∃ (a : Addr) (ps : List Addr) (key : Addr → Key3), vs = [V.ref a] ∧ SqL K H a (ps.map V.ref) ∧ (∀ p ∈ ps, SqT K H p [.int (key p).1, .int (key p).2.1, .int (key p).2.2]) ∧
  ∀ (ps' : List Addr) (q : Addr) (H' : Hp), ps'.Perm ps → ps'.Pairwise (fun x y => ¬ lt3' (key y) (key x)) → New H q (.lst (ps'.map V.ref)) H' → Q (.ref q) H'
theorem zip_self : ∀ (l : List Value), (l.zip l).map (·.2) = l
  | [] => rfl
  | x :: l => by simp [zip_self l]
theorem zip_same : ∀ (l : List Value) (p : Value × Value), p ∈ l.zip l → p.1 = p.2 ∧ p.2 ∈ l
  | [], p, h => by simp at h
  | x :: l, p, h => by
    simp at h
    rcases h with h | h
    · subst h; simp
    · obtain ⟨h1, h2⟩ := zip_same l p h
      exact ⟨h1, by simp [h2]⟩
theorem tups_of {h : Heap} : ∀ (ps : List Addr), (∀ p ∈ ps, ∃ f, PyProof.Rows.TupOf h sh0 (.ref p) f) → ∃ fs, PyProof.Rows.TupsOf h sh0 (ps.map Value.ref) fs
  | [], _ => ⟨[], .nil⟩
  | p :: ps, k => by
    obtain ⟨f, hf⟩ := k p (by simp)
    obtain ⟨fs, hfs⟩ := tups_of ps fun q hq => k q (by simp [hq])
    exact ⟨f :: fs, .cons hf hfs⟩
theorem cr_sortedT {X : Cx} : CallR X (.builtin "sorted") (rSortedT X.K) := by
  intro pins s σ H vs us Q I r h
  obtain ⟨a, ps, key, rfl, hs, hk, q⟩ := h
  obtain ⟨its, rv, hl, hz⟩ := I.list hs
  rw [Vals.ref1 r]
  have eits := vals_refs rv
  subst eits
  rw [List.length_map] at hz
  have hkey : ∀ p ∈ ps, PyProof.Rows.G.tupKeyC s.heap sh0 (.ref p) = some (keyL (key p)) ∧ ∃ f, PyProof.Rows.TupOf s.heap sh0 (.ref p) f := fun p hp => by
    obtain ⟨it3, r3, t3, _⟩ := I.tuple (hk p hp)
    exact keyOf3 t3 (by simpa using r3)
  obtain ⟨fs, hfs⟩ := tups_of (h := s.heap) ps fun p hp => (hkey p hp).2
  refine PyProof.Rows.G.sorted_tups (shape := sh0) hl.isList hfs (fun v hv => ?_) (by rw [List.length_map]; exact hz) fun st' hp hsort _ => ?_
  · obtain ⟨p, h1, rfl⟩ := List.mem_map.mp hv
    exact ⟨_, (hkey p h1).1⟩
  · have hpl : (arrOf st').toList.Perm ((ps.map Value.ref).zip (ps.map Value.ref)) := by
      have e := Array.perm_iff_toList_perm.mp hp
      rw [pairsOf_toList] at e
      exact e
    have hall : ∀ x ∈ (arrOf st').toList, ∃ p ∈ ps, x = (Value.ref p, Value.ref p) := fun x hx => by
      obtain ⟨h1, h2⟩ := zip_same _ x (hpl.mem_iff.mp hx)
      obtain ⟨p, h3, h4⟩ := List.mem_map.mp h2
      obtain ⟨x1, x2⟩ := x
      simp only at h1 h4
      exact ⟨p, h3, by rw [h1, ← h4]⟩
    have hps : ∃ ps' : List Addr, (arrOf st').toList = ps'.map fun p => (Value.ref p, Value.ref p) := by
      generalize (arrOf st').toList = l at hall
      clear hpl
      induction l with
      | nil => exact ⟨[], rfl⟩
      | cons x l ih =>
        obtain ⟨ps', e⟩ := ih fun y hy => hall y (by simp [hy])
        obtain ⟨p, _, rfl⟩ := hall x (by simp)
        exact ⟨p :: ps', by rw [e]; rfl⟩
    obtain ⟨ps', eps⟩ := hps
    have hperm : ps'.Perm ps := by
      have h1 := hpl.map (·.2)
      rw [zip_self, eps, List.map_map] at h1
      have h2 := h1.map (fun v : Value => match v with | .ref p => p | _ => 0)
      rw [List.map_map, List.map_map] at h2
      simpa [Function.comp_def] using h2
    have hout : (arrOf st').map (·.2) = (ps'.map Value.ref).toArray := by
      apply Array.ext'
      rw [Array.toList_map, eps, List.map_map]
      rfl
    have hlen : ps'.length = ps.length := hperm.length_eq
    have hpair : ps'.Pairwise (fun x y => ¬ lt3' (key y) (key x)) := by
      rw [List.pairwise_iff_getElem]
      intro i j hi hj hij
      have z := hsort i j (by omega) (by rw [pairsOf_size, List.length_map]; omega)
      have g : ∀ (k : Nat) (hk : k < ps'.length), PyProof.Rows.KK (PyProof.Rows.G.tupKindC s.heap sh0) (arrOf st') k = keyL (key ps'[k]) := fun k hk => by
        unfold PyProof.Rows.KK
        have e : (arrOf st')[k]? = some (Value.ref ps'[k], Value.ref ps'[k]) := by
          rw [← Array.getElem?_toList, eps, List.getElem?_map, List.getElem?_eq_getElem hk]
          rfl
        rw [e]
        have m := (hkey ps'[k] (hperm.mem_iff.mp (List.getElem_mem hk))).1
        show (PyProof.Rows.G.tupKeyC s.heap sh0 (Value.ref ps'[k])).getD [] = _
        rw [m]
        rfl
      rw [g i hi, g j hj] at z
      exact keyL_lt z
    obtain ⟨ep, he'⟩ := PyProof.Rows.sortedAll_at s.heap (ps.map Value.ref) ((arrOf st').map (·.2))
    rw [hout] at he' ⊢
    have hl' : (ps'.map V.ref).length ≤ sizeLine := by rw [List.length_map, hlen]; exact hz
    exact ⟨.ref _, upd H (s.heap.objs.size + 1) (.lst (ps'.map V.ref)), I.laid (t' := s.toks) (fun _ _ => PyProof.Rows.sortedAll_old) (Nat.le_succ _) ⟨hl', ps'.map Value.ref, ep, refs_vals ps', he'⟩, rfl,
      q ps' _ _ hperm hpair ⟨I.hok.fresh (Nat.le_succ _), rfl⟩⟩

/-! ### max(list, default=d) -/
theorem mx_args (a v : Value) : argsOk "max" ⟨[a], [(Str.ofString "default", v)]⟩ := by unfold argsOk; kernel_rfl
theorem mx_call {prog : Program} {w : World} {A : Around} {E : Value → Shared → Prop} {s : Shared} {l : Addr} {xs : Array (Int × Tok)} {d : Value} {Q : Value → Shared → Prop} (hh : A.handled = none) (hl : s.heap.IsList l (intItems xs))
    (h0 : xs.size = 0 → ∀ h' tk, (∀ b o, s.heap.get? b = some o → h'.get? b = some o) → Q d { s with heap := h', toks := tk })
    (h : 0 < xs.size → ∀ v h' tk, (intItems xs)[argBest (fun i j => decide (numAt xs i > numAt xs j)) (xs.size - 1)]? = some v → (∀ b o, s.heap.get? b = some o → h'.get? b = some o) → Q v { s with heap := h', toks := tk }) :
    wpAny (model prog w) A (call (.builtin "max") [.ref l] [(Str.ofString "default", d)]) Q E s := by
  refine PyProof.Rows.kmk_tree PySem.F.kind_max PySem.F.plain_max PySem.F.entry_max (mx_args _ _) ?_
  show wpAny _ A.in1 (Builtin.Builtins.bindParams "max" ["key", "default"] 0 ⟨[], [(Str.ofString "default", d)]⟩ >>= _) _ _ s
  refine wpAny_bind (wpAny_of_eq (show Builtin.Builtins.bindParams "max" ["key", "default"] 0 ⟨[], [(Str.ofString "default", d)]⟩ = pure [none, some d] from rfl) (wpAny_bind (wpAny_pure (wpAny_bind (PySem.iter_intList hl fun s2 e st hfp hlI => ?_)))))
  subst e
  have W := Walks.list (prog := prog) (w := w) (A := A.in1) hh _ l hlI (intItems xs)
  refine wpAny_bind (wpAny_newObj_type ?_)
  rw [mx_name]
  have hsz : (intItems xs).size = xs.size := by simp [intItems]
  refine wpAny_pure ⟨plainId_quiet PySem.F.plain_max_loop _, mx_first W (fun i j => decide (numAt xs i > numAt xs j)) (CmpOf.ints_gt (numAt xs) (fun _ _ => intItems_at)) _ (fun z => Nat.lt_irrefl _ (hfp _ z)) (W.frame _ _ _ st fun b _ o e => Heap.get?_push_of_some _ e) (Heap.get?_push_size _ rfl)
    (fun hn h' tk keep => ?_) (fun hn v h' tk hv keep => ?_)⟩
  · refine h0 (by rw [← hsz]; exact hn) h' tk (PySem.old_kept fun b o bw e => keep b o bw (Nat.ne_of_lt (Heap.lt_size e)) (Heap.get?_push_of_some _ e))
  · refine h (by rw [← hsz]; exact hn) v h' tk (by rw [hsz] at hv; exact hv) (PySem.old_kept fun b o bw e => keep b o bw (Nat.ne_of_lt (Heap.lt_size e)) (Heap.get?_push_of_some _ e))
def tMaxD (K : PySem.W.Frag) (te td : TE) : TE := fun σ H Q => te σ H fun x H1 => td σ H1 fun y H2 => ∃ (a : Addr) (ns : List Int), x = .ref a ∧ SqL K H2 a (ns.map V.int) ∧ (ns = [] → Q y H2) ∧ ∀ m, m ∈ ns → (∀ z, z ∈ ns → z ≤ m) → Q (.int m) H2
theorem pe_maxD {X : Cx} {e d : Expr} {p kp pos : Pos} {te td : TE} (hc : X.calm = true) (hg : Gl X "max") (hm : X.mg "max" = none) (he : PE X e te) (hd : PE X d td)
    (hst : starEach [e] X.env = [(false, eval e X.env)] := by rfl) : PE X (.Call (.Name "max" p) [e] [⟨some "default", d, kp⟩] pos) (tMaxD X.K te td) := by
  intro pins s σ H Q I h
  refine wpAny_Call_Name_kw (ld_blt I hg hm bt_max ?_ (by decide) (by decide))
  have pa : PA X [e] (tCons te tNil) := pa_cons he pa_nil hst
  have pk : PK X [⟨some "default", d, kp⟩] (tCons td tNil) := pk_cons hd pk_nil
  have e1 : backTo pos (starEach [e] X.env) = (false, eval e X.env) :: backTo pos (starEach [] X.env) := by
    rw [hst]
    rfl
  have e2 : (backTo pos (starEach [e] X.env)).any (·.1) = false := by
    rw [hst]
    rfl
  refine PyProof.Rows.callWith_kw (thn (pa pos pins s σ H (fun vs H1 => match vs with
      | [x] => tCons td tNil σ H1 fun zs H2 => (match zs with
        | [y] => ∃ (a : Addr) (ns : List Int), x = .ref a ∧ SqL X.K H2 a (ns.map V.int) ∧ (ns = [] → Q y H2) ∧ ∀ m, m ∈ ns → (∀ z, z ∈ ns → z ≤ m) → Q (.int m) H2
        | _ => False)
      | _ => False) I h) fun us s1 ⟨vs, H1, I1, r1, q1⟩ => ?_) e1 e2 rfl rfl
  match vs, q1 with
  | [x], q1 =>
    refine thn (pk pos pins s1 σ H1 _ I1 q1) fun ws s2 ⟨zs, H2, I2, r2, q2⟩ => ?_
    match zs, q2 with
    | [y], q2 =>
    obtain ⟨a, ns, ex, hs, k0, k1⟩ := q2
    subst ex
    rw [Vals.ref1 r1]
    obtain ⟨u, rfl, ru⟩ := Vals.one r2
    obtain ⟨its, rv, hl, _⟩ := I2.list hs
    have hi := rv.ints
    obtain ⟨xs, ex⟩ := hi.allInts.items
    have hn : numsOf (intItems xs).toList = ns := by rw [← ex]; exact hi.numsOf
    rw [nums_intItems] at hn
    subst hn
    have hl' := hl.isList
    rw [ex] at hl'
    refine mx_call (I2.ok.hd hc) hl' (fun z h' tk keep => ⟨y, H2, I2.kept keep, ru, k0 ?_⟩) fun z v h' tk hv keep => ?_
    · have : xs = #[] := Array.eq_empty_of_size_eq_zero z
      subst this
      rfl
    · obtain ⟨t, rfl⟩ := intItems_at hv
      obtain ⟨b1, b2⟩ := argBest_gt (numAt xs) (xs.size - 1)
      refine ⟨.int _, H2, I2.kept keep, ⟨_, rfl⟩, k1 _ ?_ fun z hz => ?_⟩
      · rw [numAt_eq]
        exact PySem.getD_mem (by rw [List.length_map, Array.length_toList]; omega)
      · obtain ⟨j, hj, rfl⟩ := mem_getD hz
        rw [List.length_map, Array.length_toList] at hj
        rw [← numAt_eq]
        exact b2 j (by omega)
end RC
end
section
set_option Elab.async false
set_option linter.all false
set_option maxRecDepth 100000
set_option maxHeartbeats 2000000
namespace RC
open PySem PySem.Spec PyProof.Rows L2
open Kh343 (Abs Road)
/-! ### the new readings as equations -/
section
variable {K : PySem.W.Frag} {D : Ends} {σ : L2.St} {H : Hp} {Q : VK} {QT : Bool → Hp → Prop} {QA : List V → Hp → Prop} {QS : L2.St → Hp → Prop} {ta tb tc te td ty tx tv : TE} {tt tt' : TT} {ts ts' : TS} {tr : TA}
/-- a comprehension, behind its head -/
def LcW (J : It) (g : TG) (tt : TT) (te : TE) (vs : List Nat) (σ : L2.St) (H1 : Hp) (Q : VK) : Prop := ∀ D, H1 D = none → ∃ W : Nat → Nat → Hp → Prop, (∃ m, W 0 m (upd H1 D (.lst []))) ∧ ∀ i m H, W i m H →
  (J.stop i H ∧ Q (.ref D) H) ∨ (J.go i H ∧ ∃ Nx : Hp → Prop, (∀ H', Nx H' → ∃ m', m' < m ∧ W (i + 1) m' H') ∧ ∀ x H', J.yld i H x H' → g x (wipe σ vs) H' fun σ2 H2 => wipe σ2 vs = wipe σ vs ∧ tt σ2 H2 fun b H3 =>
    if b = true then te σ2 H3 fun y H4 => ∃ acc, H4 D = some (.lst acc) ∧ acc.length < sizeLine ∧ Nx (upd H4 D (.lst (acc ++ [y]))) else Nx H3)
theorem ap_lc {wi : TI} {g : TG} {vs : List Nat} : tLc wi g tt te vs σ H Q = wi σ H fun J H1 => LcW J g tt te vs σ H1 Q := rfl
theorem ap_yes : tYes σ H QT = QT true H := rfl
theorem ap_make {C : Addr} {sp : Sp} {dvs : List V} {E : XK} : tMake C sp dvs E tr σ H Q = tr σ H fun vs H1 => ∀ x dx, H1 x = none → H1 dx = none → dx ≠ x →
  sp (.ref x :: (vs ++ dvs)) (upd (upd H1 dx (.own x)) x (.ins C dx [])) (fun v H2 => v = .non ∧ Q (.ref x) H2) E := rfl
theorem ap_dget : tDGet td ty σ H Q = td σ H fun x H1 => ty σ H1 fun y H2 => ∃ a v, x = .ref a ∧ DGet H2 a y (some v) ∧ Q v H2 := rfl
theorem ap_din : tDIn ty td σ H Q = ty σ H fun y H1 => td σ H1 fun x H2 => ∃ a o, x = .ref a ∧ DGet H2 a y o ∧ Q (.bl o.isSome) H2 := rfl
theorem ap_dnotin : tDNotIn ty td σ H Q = ty σ H fun y H1 => td σ H1 fun x H2 => ∃ a o, x = .ref a ∧ DGet H2 a y o ∧ Q (.bl (!o.isSome)) H2 := rfl
theorem ap_dput : sDPut td ty tv D σ H = tv σ H fun v H1 => td σ H1 fun x H2 => ty σ H2 fun y H3 => ∃ a H4, x = .ref a ∧ DPut H3 a y v H4 ∧ D.nx σ H4 := rfl
theorem ap_dget2 : tDGet2 td ty tx σ H Q = td σ H fun x H1 => ∃ a, x = .ref a ∧ IsD H1 a ∧ ty σ H1 fun y H2 => tx σ H2 fun z H3 => ∃ o, DGet H3 a y o ∧ Q (o.getD z) H3 := rfl
theorem ap_disp {trs : List (TE × TE)} : tDisp trs σ H Q = ∀ p, H p = none → tPairs trs σ (upd H p (.dK [])) fun ps H2 => H2 p = some (.dK []) ∧ ∃ kvs : List (Key × V), ps = kvs.map (fun kv => (kV kv.1, kv.2)) ∧ kvs.length ≤ 15 ∧ Q (.ref p) (upd H2 p (.dK (mergeK [] kvs))) := rfl
theorem ap_pairs0 {QP : List (V × V) → Hp → Prop} : tPairs [] σ H QP = QP [] H := rfl
theorem ap_pairs1 {QP : List (V × V) → Hp → Prop} {r : List (TE × TE)} : tPairs ((ta, tb) :: r) σ H QP = ta σ H fun x H1 => tb σ H1 fun y H2 => tPairs r σ H2 fun ps H3 => QP ((x, y) :: ps) H3 := rfl
theorem ap_maxD : tMaxD K te td σ H Q = te σ H fun x H1 => td σ H1 fun y H2 => ∃ (a : Addr) (ns : List Int), x = .ref a ∧ SqL K H2 a (ns.map V.int) ∧ (ns = [] → Q y H2) ∧ ∀ m, m ∈ ns → (∀ z, z ∈ ns → z ≤ m) → Q (.int m) H2 := rfl
theorem ap_rMax {vs : List V} : rMax K vs H Q = ∃ (a : Addr) (ns : List Int), vs = [V.ref a] ∧ SqL K H a (ns.map V.int) ∧ 0 < ns.length ∧ ∀ m, m ∈ ns → (∀ y, y ∈ ns → y ≤ m) → Q (.int m) H := rfl
theorem ap_rSortedT {vs : List V} : rSortedT K vs H Q = ∃ (a : Addr) (ps : List Addr) (key : Addr → Key3), vs = [V.ref a] ∧ SqL K H a (ps.map V.ref) ∧ (∀ p ∈ ps, SqT K H p [.int (key p).1, .int (key p).2.1, .int (key p).2.2]) ∧
  ∀ (ps' : List Addr) (q : Addr) (H' : Hp), ps'.Perm ps → ps'.Pairwise (fun x y => ¬ lt3' (key y) (key x)) → New H q (.lst (ps'.map V.ref)) H' → Q (.ref q) H' := rfl
theorem ap_rIndex {x : V} {vs : List V} : rIndex K x vs H Q = ∃ (a : Addr) (ys : List V) (y : V) (j : Nat) (z : V), x = V.ref a ∧ vs = [y] ∧ SqL K H a ys ∧ flatV y = true ∧ ys.all flatV = true ∧ ys[j]? = some z ∧ eqV z y = true ∧
  (∀ (m : Nat) (z' : V), m < j → ys[m]? = some z' → eqV z' y = false) ∧ Q (.int (j : Nat)) H := rfl
theorem ap_rExtendT {x : V} {vs : List V} : rExtendT K x vs H Q = ∃ l b xs zs, x = .ref l ∧ vs = [.ref b] ∧ H l = some (.lst xs) ∧ SqT K H b zs ∧ xs.length + zs.length ≤ sizeLine ∧ Q .non (upd H l (.lst (xs ++ zs))) := rfl
theorem ap_iRng3 {R : It → Hp → Prop} : iRng3 tr σ H R = tr σ H fun vs H1 => ∃ (i j c : Int) (n : Nat), vs = [.int i, .int j, .int c] ∧ RgC i j c n ∧ R (Itc i c n) H1 := rfl
theorem ap_rU {f : Int → V} {x : V} : rU f x H Q = ∃ i, x = .int i ∧ Q (f i) H := rfl
theorem forW_down {lo c : Int} {n : Nat} {g : TG} {tb : TS} (Pv : Nat → L2.St → Hp → Prop) (h0 : Pv 0 σ H)
    (hs : ∀ i σ H, i < n → Pv i σ H → g (.int (lo + (i : Nat) * c)) σ H fun σ2 H2 => tb { D with nx := Pv (i + 1), ct := Pv (i + 1), bk := D.nx } σ2 H2) (hd : ∀ σ H, Pv n σ H → D.nx σ H) : ForW (Itc lo c n) g tb D σ H := for_rangeC Pv h0 hs hd
/-- a comprehension's list lies at D; the heap only grew; G: what is kept of the list so far -/
def LcI (G : Addr → Nat → List V → Hp → Prop) (H1 : Hp) (D : Addr) (i : Nat) (H : Hp) : Prop := ∃ acc, Same H1 H ∧ H D = some (.lst acc) ∧ G D i acc H
/-- the end of a turn that gives y -/
def LcEnd (G : Addr → Nat → List V → Hp → Prop) (H1 : Hp) (D : Addr) (i : Nat) (y : V) (H4 : Hp) : Prop := ∃ acc, H4 D = some (.lst acc) ∧ acc.length < sizeLine ∧ LcI G H1 D (i + 1) (upd H4 D (.lst (acc ++ [y])))
theorem LcEnd.put {G : Addr → Nat → List V → Hp → Prop} {H1 H' H4 : Hp} {D : Addr} {i : Nat} {acc : List V} {y : V} (nd : H1 D = none) (s1 : Same H1 H') (e : H' D = some (.lst acc)) (s2 : Same H' H4) (l : acc.length < sizeLine)
    (g : G D (i + 1) (acc ++ [y]) (upd H4 D (.lst (acc ++ [y])))) : LcEnd G H1 D i y H4 := ⟨acc, s2 _ _ e, l, acc ++ [y], (s1.trans s2).own nd, upd_same, g⟩
def LcTurn (G : Addr → Nat → List V → Hp → Prop) (H1 : Hp) (D : Addr) (i : Nat) (tt : TT) (te : TE) (vs : List Nat) (σ σ2 : L2.St) (H2 : Hp) : Prop :=
  wipe σ2 vs = wipe σ vs ∧ tt σ2 H2 fun b H3 => if b = true then te σ2 H3 fun y H4 => LcEnd G H1 D i y H4 else LcI G H1 D (i + 1) H3
theorem lcW_range {lo : Int} {n : Nat} {g : TG} {vs : List Nat} (G : Addr → Nat → List V → Hp → Prop) (h0 : ∀ D H', New H D (.lst []) H' → G D 0 [] H')
    (hs : ∀ D i acc H', H D = none → i < n → Same H H' → H' D = some (.lst acc) → G D i acc H' → g (.int (lo + i)) (wipe σ vs) H' fun σ2 H2 => LcTurn G H D i tt te vs σ σ2 H2)
    (hd : ∀ D acc H', H D = none → Same H H' → H' D = some (.lst acc) → G D n acc H' → Q (.ref D) H') : LcW (Itr lo n) g tt te vs σ H Q := by
  intro D nd
  have n0 : New H D (.lst []) (upd H D (.lst [])) := ⟨nd, rfl⟩
  refine lc_range (LcI G H D) ⟨[], n0.same, n0.at_, h0 D _ n0⟩ ?_ ?_
  · rintro i H' hi ⟨acc, s1, e, k⟩
    exact hs D i acc H' nd hi s1 e k
  · rintro H' ⟨acc, s1, e, k⟩
    exact hd D acc H' nd s1 e k
theorem lcW_list {a : Addr} {xs : List V} {g : TG} {vs : List Nat} (G : Addr → Nat → List V → Hp → Prop) (hl : SqL K H a xs) (h0 : ∀ D H', New H D (.lst []) H' → G D 0 [] H')
    (hs : ∀ D i x acc H', H D = none → xs[i]? = some x → Same H H' → H' D = some (.lst acc) → G D i acc H' → g x (wipe σ vs) H' fun σ2 H2 => LcTurn G H D i tt te vs σ σ2 H2)
    (hd : ∀ D acc H', H D = none → Same H H' → H' D = some (.lst acc) → G D xs.length acc H' → Q (.ref D) H') : LcW (Itl K a) g tt te vs σ H Q := by
  intro D nd
  have n0 : New H D (.lst []) (upd H D (.lst [])) := ⟨nd, rfl⟩
  refine lc_list (xs := xs) (LcI G H D) ⟨[], n0.same, n0.at_, h0 D _ n0⟩ ?_ ?_ ?_
  · rintro i H' _ ⟨acc, s1, e, k⟩
    exact s1.seq hl
  · rintro i x H' hi ⟨acc, s1, e, k⟩
    exact hs D i x acc H' nd hi s1 e k
  · rintro H' ⟨acc, s1, e, k⟩
    exact hd D acc H' nd s1 e k
end
/-! ### rules whose reading names the text's top, for a comprehension's block -/
theorem pgK_tup {X : Cx} {K : PySem.W.Frag} {es : List Expr} {k : Nat} {t : TGs} {n : Nat} {pos : Pos} (hK : X.K = K) (hc : X.calm = true) (h : PGs X es t)
    (hn : (assignEach es X.env).length = n := by rfl) (hst : (assignEach es X.env).findIdx? (·.1) = none := by rfl) : PG X (.Tuple es k pos) (gTup K n t) := by
  subst hK
  exact pg_tup hc h hn hst
theorem ixK_list {X : Cx} {K : PySem.W.Frag} (hK : X.K = K) : IxR X (rIxL K) := by
  subst hK
  exact ix_list
/-! ### a dict that tells a vector -/
def DIs (H : Hp) (d : Addr) (e : Vec) : Prop := ∃ kvs, H d = some (.dK kvs) ∧ (∀ q : Nat, valV kvs (Sum.inl (q : Int)) = (at_ e q).map fun (n : Nat) => V.int n) ∧ kvs.length = cnt e
theorem DIs.get {H : Hp} {d : Addr} {e : Vec} (h : DIs H d e) (q : Nat) : DGet H d (.int q) ((at_ e q).map fun (n : Nat) => V.int n) := by
  obtain ⟨kvs, h1, h2, _⟩ := h
  rw [← h2 q]
  exact DGet.k (k := .inl (q : Int)) h1
theorem DIs.isD {H : Hp} {d : Addr} {e : Vec} (h : DIs H d e) : IsD H d := by
  obtain ⟨kvs, h1, _⟩ := h
  exact .inl ⟨kvs, .inl h1⟩
theorem DIs.same {H H' : Hp} {d : Addr} {e : Vec} (s : Same H H') (h : DIs H d e) : DIs H' d e := by
  obtain ⟨kvs, h1, h2⟩ := h
  exact ⟨kvs, s _ _ h1, h2⟩
theorem len_put {kvs : List (Key × V)} {k : Key} {v : V} : (putK kvs k v).length = if (valV kvs k).isSome = true then kvs.length else kvs.length + 1 := by
  unfold putK
  rw [valV_any]
  split <;> simp
theorem DIs.put {H : Hp} {d : Addr} {e : Vec} (h : DIs H d e) {w x : Nat} (hw : w < e.length) (hl : e.length ≤ 1000) : ∃ H', DPut H d (.int w) (.int x) H' ∧ DIs H' d (e.set w (some x)) ∧ ∃ o, H' = upd H d o := by
  obtain ⟨kvs, h1, h2, h3⟩ := h
  have hc := cnt_le e
  refine ⟨_, DPut.k (k := .inl (w : Int)) h1 (by rw [sizeLine_eq]; omega), ⟨putK kvs (.inl (w : Int)) (.int x), upd_same, fun q => ?_, ?_⟩, _, rfl⟩
  · rw [valV_put, h2, at_set]
    by_cases z : w = q
    · subst z
      rw [if_pos rfl, if_pos ⟨rfl, hw⟩]
      rfl
    · rw [if_neg (fun y => z (by injection y with y; omega)), if_neg (fun y => z y.1)]
  · rw [len_put, h2, h3]
    cases z : at_ e w with
    | none => rw [cnt_new hw z]; rfl
    | some y => rw [cnt_old hw z]; rfl
theorem dis_one {H : Hp} {d : Addr} {n p t : Nat} (hp : p < n) (h : H d = some (.dK (mergeK [] [(Sum.inl (p : Int), V.int (t : Int))]))) : DIs H d (vec0 n p t) := by
  refine ⟨_, h, fun q => ?_, ?_⟩
  · show valV (putK [] (Sum.inl (p : Int)) (V.int t)) _ = _
    rw [valV_put, vec0_at hp]
    by_cases z : p = q
    · subst z
      rw [if_pos rfl, if_pos rfl]
      rfl
    · rw [if_neg (fun y => z (by injection y with y; omega)), if_neg z]
      rfl
  · rw [cnt_vec0 hp]
    rfl
/-! ### the fields of a network -/
def nfs (wl sl : Addr) : List (Str × V) := [("waits", .ref wl), ("steps", .ref sl)]
theorem nf_waits {wl sl : Addr} : (nfs wl sl).lookup ("waits" : Str) = some (.ref wl) := by rfl
theorem nf_steps {wl sl : Addr} : (nfs wl sl).lookup ("steps" : Str) = some (.ref sl) := by rfl
theorem iteP {c A B : Prop} [Decidable c] (h : c) (a : A) : if c then A else B := by
  rw [if_pos h]
  exact a
theorem iteN {c A B : Prop} [Decidable c] (h : ¬ c) (b : B) : if c then A else B := by
  rw [if_neg h]
  exact b
theorem at0 {x : V} {l : List V} : atI (x :: l) 0 = some x := atI_nat (j := 0) rfl
theorem at1 {x y : V} {l : List V} : atI (x :: y :: l) 1 = some y := atI_nat (j := 1) rfl
theorem at2 {x y z : V} {l : List V} : atI (x :: y :: z :: l) 2 = some z := atI_nat (j := 2) rfl
theorem at3 {x y z u : V} {l : List V} : atI (x :: y :: z :: u :: l) 3 = some u := atI_nat (j := 3) rfl
end RC
end
section
set_option Elab.async false
set_option linter.all false
set_option maxRecDepth 100000
set_option maxHeartbeats 2000000
namespace RC
open PySem PySem.Spec PyProof.Rows L2
open Kh343 (Abs Road)
local macro_rules | `(tactic| walk_at "rd") => `(tactic| try simp only [ap_var, ap_c, ap_seq, ap_next, ap_break, ap_cont, ap_drop, ap_ret, ap_retN, ap_ifS, ap_asg, ap_aug, ap_augS, ap_ipI, ap_op, ap_un, ap_test, ap_b, ap_not, ap_and, ap_or, ap_if, ap_andV, ap_orV, ap_notV, ap_chain, ap_nil, ap_cons, ap_tup, ap_lst, ap_fld, ap_sFld, ap_sFldAug, ap_rAdd, ap_rSub, ap_call, ap_cb, ap_bm, ap_sl, ap_noPart, ap_part, ap_gName, ap_gNil, ap_gCons, ap_gTup, ap_gSub, ap_rI0, ap_rI, ap_rEq, ap_rNe, ap_rIxL, ap_rIxT, ap_rSetL, ap_rAppend, ap_rExtend, ap_rCat, ap_rRep, ap_rSlL, ap_rIn, ap_for, ap_iList, ap_iTup, ap_iRng1, ap_iRng2, cx_K, List.getElem?_cons_zero, List.getElem?_cons_succ, List.set_cons_zero, List.set_cons_succ, Option.some.injEq, V.int.injEq, V.bl.injEq, V.ref.injEq, HO.ins.injEq, HO.lst.injEq, HO.tup.injEq, exists_eq_left', exists_eq_left, exists_and_left, exists_eq, true_and, and_true, decide_eq_true_eq, List.nil_append, List.cons_append, List.cons.injEq, List.append_nil, cf_begun, cf_minutes, cf_gap, cf_crossings, cf_places, cf_roads, and_assoc, Int.zero_add, if_true, if_false, Bool.false_eq_true, Bool.true_eq_false, Bool.not_true, Bool.not_false, Bool.not_eq_true', decide_eq_false_iff_not, reduceCtorEq])
local macro_rules | `(tactic| walk_at "rd*") => `(tactic| try simp only [ap_var, ap_c, ap_seq, ap_next, ap_break, ap_cont, ap_drop, ap_ret, ap_retN, ap_ifS, ap_asg, ap_aug, ap_augS, ap_ipI, ap_op, ap_un, ap_test, ap_b, ap_not, ap_and, ap_or, ap_if, ap_andV, ap_orV, ap_notV, ap_chain, ap_nil, ap_cons, ap_tup, ap_lst, ap_fld, ap_sFld, ap_sFldAug, ap_rAdd, ap_rSub, ap_call, ap_cb, ap_bm, ap_sl, ap_noPart, ap_part, ap_gName, ap_gNil, ap_gCons, ap_gTup, ap_gSub, ap_rI0, ap_rI, ap_rEq, ap_rNe, ap_rIxL, ap_rIxT, ap_rSetL, ap_rAppend, ap_rExtend, ap_rCat, ap_rRep, ap_rSlL, ap_rIn, ap_for, ap_iList, ap_iTup, ap_iRng1, ap_iRng2, cx_K, List.getElem?_cons_zero, List.getElem?_cons_succ, List.set_cons_zero, List.set_cons_succ, Option.some.injEq, V.int.injEq, V.bl.injEq, V.ref.injEq, HO.ins.injEq, HO.lst.injEq, HO.tup.injEq, exists_eq_left', exists_eq_left, exists_and_left, exists_eq, true_and, and_true, decide_eq_true_eq, List.nil_append, List.cons_append, List.cons.injEq, List.append_nil, cf_begun, cf_minutes, cf_gap, cf_crossings, cf_places, cf_roads, and_assoc, Int.zero_add, if_true, if_false, Bool.false_eq_true, Bool.true_eq_false, Bool.not_true, Bool.not_false, Bool.not_eq_true', decide_eq_false_iff_not, reduceCtorEq, *])
local macro_rules | `(tactic| walk_at "rdw*") => `(tactic| try simp only [ap_var, ap_c, ap_seq, ap_next, ap_break, ap_cont, ap_drop, ap_ret, ap_retN, ap_ifS, ap_asg, ap_aug, ap_augS, ap_ipI, ap_op, ap_un, ap_test, ap_b, ap_not, ap_and, ap_or, ap_if, ap_andV, ap_orV, ap_notV, ap_chain, ap_nil, ap_cons, ap_tup, ap_lst, ap_fld, upd_same, upd_upd, pf_begun, pf_minutes, pf_gap, pf_crossings, pf_places, pf_roads, ap_sFld, ap_sFldAug, ap_rAdd, ap_rSub, ap_call, ap_cb, ap_bm, ap_sl, ap_noPart, ap_part, ap_gName, ap_gNil, ap_gCons, ap_gTup, ap_gSub, ap_rI0, ap_rI, ap_rEq, ap_rNe, ap_rIxL, ap_rIxT, ap_rSetL, ap_rAppend, ap_rExtend, ap_rCat, ap_rRep, ap_rSlL, ap_rIn, ap_for, ap_iList, ap_iTup, ap_iRng1, ap_iRng2, cx_K, List.getElem?_cons_zero, List.getElem?_cons_succ, List.set_cons_zero, List.set_cons_succ, Option.some.injEq, V.int.injEq, V.bl.injEq, V.ref.injEq, HO.ins.injEq, HO.lst.injEq, HO.tup.injEq, exists_eq_left', exists_eq_left, exists_and_left, exists_eq, true_and, and_true, decide_eq_true_eq, List.nil_append, List.cons_append, List.cons.injEq, List.append_nil, cf_begun, cf_minutes, cf_gap, cf_crossings, cf_places, cf_roads, and_assoc, Int.zero_add, if_true, if_false, Bool.false_eq_true, Bool.true_eq_false, Bool.not_true, Bool.not_false, Bool.not_eq_true', decide_eq_false_iff_not, reduceCtorEq, *])
local macro_rules | `(tactic| walk_at "rn") => `(tactic| try simp only [ap_lc, ap_yes, ap_make, ap_dget, ap_din, ap_dnotin, ap_dput, ap_dget2, ap_disp, ap_pairs0, ap_pairs1, ap_maxD, ap_rMax, ap_rSortedT, ap_rIndex, ap_rExtendT, ap_iRng3, ap_rU, wipe, List.map_cons, List.map_nil, nf_waits, nf_steps, ap_var, ap_c, ap_seq, ap_next, ap_break, ap_cont, ap_drop, ap_ret, ap_retN, ap_ifS, ap_asg, ap_aug, ap_augS, ap_ipI, ap_op, ap_un, ap_test, ap_b, ap_not, ap_and, ap_or, ap_if, ap_andV, ap_orV, ap_notV, ap_chain, ap_nil, ap_cons, ap_tup, ap_lst, ap_fld, ap_sFld, ap_sFldAug, ap_rAdd, ap_rSub, ap_call, ap_cb, ap_bm, ap_sl, ap_noPart, ap_part, ap_gName, ap_gNil, ap_gCons, ap_gTup, ap_gSub, ap_rI0, ap_rI, ap_rEq, ap_rNe, ap_rIxL, ap_rIxT, ap_rSetL, ap_rAppend, ap_rExtend, ap_rCat, ap_rRep, ap_rSlL, ap_rIn, ap_for, ap_iList, ap_iTup, ap_iRng1, ap_iRng2, cx_K, List.getElem?_cons_zero, List.getElem?_cons_succ, List.set_cons_zero, List.set_cons_succ, Option.some.injEq, V.int.injEq, V.bl.injEq, V.ref.injEq, HO.ins.injEq, HO.lst.injEq, HO.tup.injEq, exists_eq_left', exists_eq_left, exists_and_left, exists_eq, true_and, and_true, decide_eq_true_eq, List.nil_append, List.cons_append, List.cons.injEq, List.append_nil, cf_begun, cf_minutes, cf_gap, cf_crossings, cf_places, cf_roads, and_assoc, Int.zero_add, if_true, if_false, Bool.false_eq_true, Bool.true_eq_false, Bool.not_true, Bool.not_false, Bool.not_eq_true', decide_eq_false_iff_not, reduceCtorEq])
local macro_rules | `(tactic| walk_at "rn*") => `(tactic| try simp only [ap_lc, ap_yes, ap_make, ap_dget, ap_din, ap_dnotin, ap_dput, ap_dget2, ap_disp, ap_pairs0, ap_pairs1, ap_maxD, ap_rMax, ap_rSortedT, ap_rIndex, ap_rExtendT, ap_iRng3, ap_rU, wipe, List.map_cons, List.map_nil, nf_waits, nf_steps, ap_var, ap_c, ap_seq, ap_next, ap_break, ap_cont, ap_drop, ap_ret, ap_retN, ap_ifS, ap_asg, ap_aug, ap_augS, ap_ipI, ap_op, ap_un, ap_test, ap_b, ap_not, ap_and, ap_or, ap_if, ap_andV, ap_orV, ap_notV, ap_chain, ap_nil, ap_cons, ap_tup, ap_lst, ap_fld, ap_sFld, ap_sFldAug, ap_rAdd, ap_rSub, ap_call, ap_cb, ap_bm, ap_sl, ap_noPart, ap_part, ap_gName, ap_gNil, ap_gCons, ap_gTup, ap_gSub, ap_rI0, ap_rI, ap_rEq, ap_rNe, ap_rIxL, ap_rIxT, ap_rSetL, ap_rAppend, ap_rExtend, ap_rCat, ap_rRep, ap_rSlL, ap_rIn, ap_for, ap_iList, ap_iTup, ap_iRng1, ap_iRng2, cx_K, List.getElem?_cons_zero, List.getElem?_cons_succ, List.set_cons_zero, List.set_cons_succ, Option.some.injEq, V.int.injEq, V.bl.injEq, V.ref.injEq, HO.ins.injEq, HO.lst.injEq, HO.tup.injEq, exists_eq_left', exists_eq_left, exists_and_left, exists_eq, true_and, and_true, decide_eq_true_eq, List.nil_append, List.cons_append, List.cons.injEq, List.append_nil, cf_begun, cf_minutes, cf_gap, cf_crossings, cf_places, cf_roads, and_assoc, Int.zero_add, if_true, if_false, Bool.false_eq_true, Bool.true_eq_false, Bool.not_true, Bool.not_false, Bool.not_eq_true', decide_eq_false_iff_not, reduceCtorEq, *])
def top (i : Nat) : Stmt := PySem.Challenge.pw_roadsclosed_s01_answers.main.body.getD i (.Pass ⟨0, 0, 0, 0⟩)
structure Txt (K : PySem.W.Frag) (mg : Str → Option Value) (C : Addr) : Prop extends CTxt K C where
  b_len : mg "len" = none
  b_list : mg "list" = none
  b_max : mg "max" = none
  b_min : mg "min" = none
  b_range : mg "range" = none
  b_sorted : mg "sorted" = none
  g_NO_SUCH : GlI mg "NO_SUCH" (.int (-2))
  g_WRONG : GlI mg "WRONG" (.int (-22))
  g_FULL : GlI mg "FULL" (.int (-28))
  g_NO_WAY : GlI mg "NO_WAY" (.int (-33))
  g_NOT_BEGUN : GlI mg "NOT_BEGUN" (.int (-61))
  g_GREATEST_MOST : GlI mg "GREATEST_MOST" (.int (120))
  g_MOST_MINUTES : GlI mg "MOST_MINUTES" (.int (120))
  g_MOST_GAP : GlI mg "MOST_GAP" (.int (8))
  g_MOST_CROSSINGS : GlI mg "MOST_CROSSINGS" (.int (6))
  g_MOST_SPANS : GlI mg "MOST_SPANS" (.int (6))
  g_MOST_PLACES : GlI mg "MOST_PLACES" (.int (6))
  g_MOST_ROADS : GlI mg "MOST_ROADS" (.int (12))
  g_MOST_ROAD_MINUTES : GlI mg "MOST_ROAD_MINUTES" (.int (100))
  g_BEGIN : GlI mg "BEGIN" (.int (0))
  g_CROSSING : GlI mg "CROSSING" (.int (1))
  g_SPAN : GlI mg "SPAN" (.int (2))
  g_CLEAR : GlI mg "CLEAR" (.int (3))
  g_PLACE : GlI mg "PLACE" (.int (4))
  g_ROAD : GlI mg "ROAD" (.int (5))
  g_GAP : GlI mg "GAP" (.int (6))
  g_RUNS : GlI mg "RUNS" (.int (7))
  g_CROSSABLE : GlI mg "CROSSABLE" (.int (8))
  g_NEXT : GlI mg "NEXT" (.int (9))
  g_SHUTS : GlI mg "SHUTS" (.int (10))
  g_LONGEST : GlI mg "LONGEST" (.int (11))
  g_HOLDS : GlI mg "HOLDS" (.int (12))
  g_LEAST : GlI mg "LEAST" (.int (13))
  g_MARSHALS : GlI mg "MARSHALS" (.int (14))
  g_DUTIES : GlI mg "DUTIES" (.int (15))
  g_ARRIVE : GlI mg "ARRIVE" (.int (16))
  g_ALL_PLACES : GlI mg "ALL_PLACES" (.int (17))
  g_LATEST : GlI mg "LATEST" (.int (18))
  g_WORST : GlI mg "WORST" (.int (19))
  g_LOOK : GlI mg "LOOK" (.int (20))

section
variable {P : Program} {w : World} {K : PySem.W.Frag} {mg : Str → Option Value} {base : Heap} {C : Addr}
abbrev s_has_crossing : Stmt := top 2
theorem sc_has_crossing : FnScope ["course", "c"] ["course", "c"] (defScope s_has_crossing) := ⟨rfl, rfl, rfl, by decide +kernel, rfl, by decide +kernel, by decide +kernel⟩
def spHasCrossing (C : Addr) : Sp := fun vs H Q _ => ∃ (p : Addr) (L : List Addr) (a : Abs) (c : Nat), vs = [.ref p, .int c] ∧ CourseAt C H p L (some a) ∧ Q (.bl (decide (c < a.spans.length))) H
theorem ok_has_crossing (D : IsDef K mg "has_crossing" s_has_crossing) (T : Txt K mg C) : Cal P w K mg base "has_crossing" 1 ["course", "c"] (spHasCrossing C) := by
  refine cal_mk D sc_has_crossing (fun _ _ _ _ _ _ => us2 (fun _ _ => rfl)) (fun vs H Q E h => ?_) (fun f cdv A outer s H vs Q E hr h => ?_)
  · obtain ⟨p, L, a, c, rfl, _⟩ := h
    rfl
  · obtain ⟨p, L, a, c, rfl, ⟨dx, lc, lr, cs, rs, hL⟩, k⟩ := h
    refine ⟨_, (pss_one (ps_ret (pe_cmpR op_lt (pv 1) (pe_callB call_len_seq (by rfl) T.b_len bt_len (pa_cons (pe_fld (pv 0) rfl) pa_nil)) (nomark _)))), ?_⟩
    show tRet _ _ [some (.ref p), some (.int c)] H
    have h1 := hL.obj
    have h2 : SqL K H lc (cs.map V.ref) := SqL.of hL.hc
    have h3 := T.cl
    have h4 := T.nC
    walk_at "rd*"
    refine ⟨_, .inl h2, ?_⟩
    rw [List.length_map, Paired.len' hL.sp]
    simpa using k

def spRunnerMarks : Sp := fun vs H Q _ => ∃ (d : Nat) (a : Addr) (l : List (Nat × Nat)), vs = [.int d, .ref a] ∧ PairsAt H a l ∧ Within d l ∧ d ≤ 120 ∧
  ∀ (H' : Hp) (p : Addr), Same H H' → H p = none → H' p = some (.lst ((marks d (Kh343.runs l)).map V.bl)) → Q (.ref p) H'
abbrev s_runner_marks : Stmt := top 14
theorem sc_runner_marks : FnScope ["minutes", "spans", "marks", "start", "length", "minute"] ["minutes", "spans"] (defScope s_runner_marks) := ⟨rfl, rfl, rfl, by decide +kernel, rfl, by decide +kernel, by decide +kernel⟩
theorem ok_runner_marks (D : IsDef K mg "runner_marks" s_runner_marks) (T : Txt K mg C) : Cal P w K mg base "runner_marks" 1 ["minutes", "spans"] spRunnerMarks := by
  refine cal_mk D sc_runner_marks (fun _ _ _ _ _ _ => us2 (fun _ _ => rfl)) (fun vs H Q E h => ?_) (fun f cdv A outer s H vs Q E hr h => ?_)
  · obtain ⟨d, a, l, rfl, _⟩ := h
    rfl
  · obtain ⟨d, a, l, rfl, hP, hW, hd, k⟩ := h
    refine ⟨_, (pss_cons (ps_set (i := 2) sc_runner_marks.nd rfl (by first | exact Or.inl rfl | exact Or.inr rfl) (pe_op op_rep (pe_lst (pa_cons pe_bl pa_nil)) (pv 0)))
    (pss_cons (ps_for PassesOwn.never rfl (pi_list (pv 1)) (pg_tup (n := 2) rfl (pgs_cons (pg_name (i := 3) sc_runner_marks.nd rfl (by first | exact Or.inl rfl | exact Or.inr rfl)) (pgs_cons (pg_name (i := 4) sc_runner_marks.nd rfl (by first | exact Or.inl rfl | exact Or.inr rfl)) pgs_nil)))
    (pss_one (ps_for PassesOwn.never rfl (pi_range2 rfl T.b_range (pa_cons (pv 3) (pa_cons (pe_op op_add (pv 3) (pv 4)) pa_nil))) (pg_name (i := 5) sc_runner_marks.nd rfl (by first | exact Or.inl rfl | exact Or.inr rfl))
      (pss_one (ps_asg pe_bl (pg_sub (pv 2) (pv 5) set_list))))))
    (pss_one (ps_ret (pv 2))))), ?_⟩
    show tSeq _ _ _ [some (.int d), some (.ref a), none, none, none, none] H
    walk_at "rd"
    refine ⟨by decide, fun p0 H0 m0 => ?_⟩
    have e0 := m0.at_
    walk_at "rd*"
    refine ⟨by omega, by omega, ?_, fun p1 H1 m1 => ?_⟩
    · rw [sizeLine_eq]
      simp
      omega
    have s0 := m0.same.trans m1.same
    have n1 : H p1 = none := m0.same.free m1.free
    have h1 : H1 p1 = some (.lst ((marks d (Kh343.runs (l.take 0))).map V.bl)) := by
      rw [m1.at_, rep_one]
      have : marks d (Kh343.runs (l.take 0)) = List.replicate d false := marks_false d
      rw [this, List.map_replicate]
      rfl
    obtain ⟨ts, ha, hts⟩ := hP
    have hlen := Paired.len' hts
    refine ⟨⟨_, SqL.of (s0 _ _ ha)⟩, forW_list (xs := ts.map V.ref) (fun i σ H' => ∃ v3 v4 v5, σ = [some (.int d), some (.ref a), some (.ref p1), v3, v4, v5] ∧ Same H H' ∧ H' p1 = some (.lst ((marks d (Kh343.runs (l.take i))).map V.bl)))
      ⟨_, _, _, rfl, s0, h1⟩ (fun i σ H' _ ⟨_, _, _, _, s1, _⟩ => SqL.of (s1 _ _ ha)) ?_ ?_⟩
    · rintro i y σ H2 hi ⟨v3, v4, v5, rfl, s1, h1⟩
      obtain ⟨q, hq, rfl⟩ := map_at hi
      obtain ⟨x, hx, hqx⟩ := Paired.at_l hts hq
      have hxd := hW x (List.mem_of_getElem? hx)
      have hT : SqT K H2 q [.int x.1, .int x.2] := SqT.of (s1 _ _ hqx)
      walk_at "rd"
      refine ⟨_, hT, rfl, ?_⟩
      walk_at "rd"
      refine ⟨by omega, by omega, by omega, by omega, forW_range (fun j σ H' => ∃ v5, σ = [some (.int d), some (.ref a), some (.ref p1), some (.int x.1), some (.int x.2), v5] ∧ Same H H' ∧
        H' p1 = some (.lst ((marks d (fun t => Kh343.runs (l.take i) t || (decide (x.1 ≤ t) && decide (t < x.1 + j)))).map V.bl))) ⟨_, rfl, s1, ?_⟩ ?_ ?_⟩
      · rw [h1]
        congr 4
        funext t
        have : (decide (x.1 ≤ t) && decide (t < x.1 + 0)) = false := by simp
        rw [this, Bool.or_false]
      · rintro j σ H3 hj ⟨v5, rfl, s2, h2⟩
        walk_at "rd*"
        refine ⟨x.1 + j, ?_, ?_⟩
        · rw [List.length_map, marks_len]
          exact ixN_nat (j := x.1 + j) (by omega)
        · refine ⟨s2.own n1, ?_⟩
          rw [upd_same, marksV_set]
          congr 4
          funext t
          rw [Bool.eq_iff_iff]
          cases Kh343.runs (l.take i) t <;> simp <;> omega
      · rintro σ H3 ⟨v5, rfl, s2, h2⟩
        refine ⟨_, _, _, rfl, s2, ?_⟩
        rw [show ((x.1 : Int) + (x.2 : Int) - (x.1 : Int)).toNat = x.2 by omega] at h2
        rw [h2]
        congr 4
        funext t
        rw [take_snoc hx, Bool.eq_iff_iff]
        simp [Kh343.runs]
    · rintro σ H2 ⟨v3, v4, v5, rfl, s1, h1⟩
      walk_at "rd"
      rw [List.length_map, hlen, List.take_length] at h1
      exact k _ _ s1 n1 h1
abbrev s_has_place : Stmt := top 3
theorem sc_has_place : FnScope ["course", "p"] ["course", "p"] (defScope s_has_place) := ⟨rfl, rfl, rfl, by decide +kernel, rfl, by decide +kernel, by decide +kernel⟩
def spHasPlace (C : Addr) : Sp := fun vs H Q _ => ∃ (p : Addr) (L : List Addr) (a : Abs) (c : Nat), vs = [.ref p, .int c] ∧ CourseAt C H p L (some a) ∧ Q (.bl (decide (c < a.places))) H
theorem ok_has_place (D : IsDef K mg "has_place" s_has_place) (T : Txt K mg C) : Cal P w K mg base "has_place" 1 ["course", "p"] (spHasPlace C) := by
  refine cal_mk D sc_has_place (fun _ _ _ _ _ _ => us2 (fun _ _ => rfl)) (fun vs H Q E h => ?_) (fun f cdv A outer s H vs Q E hr h => ?_)
  · obtain ⟨p, L, a, c, rfl, _⟩ := h
    rfl
  · obtain ⟨p, L, a, c, rfl, ⟨dx, lc, lr, cs, rs, hL⟩, k⟩ := h
    refine ⟨_, (pss_one (ps_ret (pe_cmpR op_lt (pv 1) (pe_fld (pv 0) rfl) (nomark _)))), ?_⟩
    show tRet _ _ [some (.ref p), some (.int c)] H
    have h1 := hL.obj
    have h3 := T.cl
    have h4 := T.nP
    walk_at "rd*"
    simpa using k
end

section
variable {P : Program} {w : World} {K : PySem.W.Frag} {mg : Str → Option Value} {base : Heap} {C : Addr}
abbrev s_car_marks : Stmt := top 15
theorem sc_car_marks : FnScope ["minutes", "gap", "spans", "runners", "marks", "start", "minute"] ["minutes", "gap", "spans"] (defScope s_car_marks) := ⟨rfl, rfl, rfl, by decide +kernel, rfl, by decide +kernel, by decide +kernel⟩
def spCarMarks : Sp := fun vs H Q _ => ∃ (d g : Nat) (a : Addr) (l : List (Nat × Nat)), vs = [.int d, .int g, .ref a] ∧ PairsAt H a l ∧ Within d l ∧ d ≤ 120 ∧ 1 ≤ g ∧ g ≤ 8 ∧
  ∀ (H' : Hp) (p : Addr), Same H H' → H p = none → H' p = some (.lst ((marks d (carTo l g d)).map V.bl)) → Q (.ref p) H'
theorem inV_bl : ∀ (bs : List Bool), inV (.bl true) (bs.map V.bl) = bs.any id
  | [] => rfl
  | b :: bs => by
    have ih := inV_bl bs
    unfold inV at ih ⊢
    rw [List.map_cons, List.any_cons, List.any_cons, ih]
    cases b <;> rfl
theorem flat_bl (bs : List Bool) : (bs.map V.bl).all flatV = true := by
  rw [List.all_eq_true]
  intro x hx
  obtain ⟨b, _, rfl⟩ := List.mem_map.mp hx
  rfl
theorem marks_app (d g : Nat) (f : Nat → Bool) (h : ∀ t, d ≤ t → f t = false) : marks d f ++ List.replicate g false = marks (d + g) f := by
  unfold marks
  rw [List.range_add, List.map_append, List.map_map]
  congr 1
  have : List.replicate g false = (List.range g).map (fun _ => false) := by rw [List.map_const', List.length_range]
  rw [this]
  apply List.map_congr_left
  intro k _
  exact (h (d + k) (by omega)).symm
theorem cut_gap (d g s : Nat) (hs : s < d) (l : List (Nat × Nat)) : (!inV (.bl true) (cutV ((marks (d + g) (Kh343.runs l)).map V.bl) (some (s : Int)) (some ((s : Int) + (g : Int))))) = gapAt l g s := by
  unfold cutV
  rw [show ((s : Int) + (g : Int)) = ((s + g : Nat) : Int) by omega, HT.sIx_nat, HT.sIx_nat, List.length_map, marks_len, Nat.min_eq_left (by omega), Nat.min_eq_left (by omega), ← List.map_drop, ← List.map_take, inV_bl]
  unfold gapAt marks
  rw [← List.map_drop, ← List.map_take, List.any_map, Nat.add_sub_cancel_left]
  have e : ((List.range (d + g)).drop s).take g = (List.range g).map (s + ·) := by
    apply List.ext_getElem?
    intro i
    rw [List.getElem?_take]
    by_cases hi : i < g
    · rw [if_pos hi, List.getElem?_drop, List.getElem?_range (by omega), List.getElem?_map, List.getElem?_range hi]
      rfl
    · rw [if_neg hi, List.getElem?_map, List.getElem?_eq_none (by simpa using hi)]
      rfl
  rw [e, List.any_map, List.not_any_eq_all_not]
  rfl
theorem cut_gap' (d g s : Nat) (hs : s < d) (l : List (Nat × Nat)) : (inV (.bl true) (cutV ((marks (d + g) (Kh343.runs l)).map V.bl) (some (s : Int)) (some ((s : Int) + (g : Int)))) = false) = (gapAt l g s = true) := by
  rw [← cut_gap d g s hs l, Bool.not_eq_true']
theorem ok_car_marks (D : IsDef K mg "car_marks" s_car_marks) (T : Txt K mg C) (c_runner_marks : Cal P w K mg base "runner_marks" 1 ["minutes", "spans"] spRunnerMarks) : Cal P w K mg base "car_marks" 2 ["minutes", "gap", "spans"] spCarMarks := by
  refine cal_mk D sc_car_marks (fun _ _ _ _ _ _ => us3 (fun _ _ _ => rfl)) (fun vs H Q E h => ?_) (fun f cdv A outer s H vs Q E hr h => ?_)
  · obtain ⟨d, g, a, l, rfl, _⟩ := h
    rfl
  · obtain ⟨d, g, a, l, rfl, hP, hW, hd, hg1, hg, k⟩ := h
    refine ⟨_, (pss_cons (ps_set (i := 3) sc_car_marks.nd rfl (by first | exact Or.inl rfl | exact Or.inr rfl) (pe_op op_cat (pe_own c_runner_marks (hr.mono (by decide)) (pa_cons (pv 0) (pa_cons (pv 2) pa_nil))) (pe_op op_rep (pe_lst (pa_cons pe_bl pa_nil)) (pv 1))))
    (pss_cons (ps_set (i := 4) sc_car_marks.nd rfl (by first | exact Or.inl rfl | exact Or.inr rfl) (pe_op op_rep (pe_lst (pa_cons pe_bl pa_nil)) (pv 0)))
    (pss_cons (ps_for PassesOwn.never rfl (pi_range1 rfl T.b_range (pa_cons (pv 0) pa_nil)) (pg_name (i := 5) sc_car_marks.nd rfl (by first | exact Or.inl rfl | exact Or.inr rfl))
    (pss_one (ps_if (pt_cmpR op_notIn_seq pe_bl (pe_slice sl_list (pv 3) (po_some (pv 5)) (po_some (pe_op op_add (pv 5) (pv 1)))) (by with_unfolding_all rfl))
      (pss_one (ps_for PassesOwn.never rfl (pi_range2 rfl T.b_range (pa_cons (pv 5) (pa_cons (pe_callB (call_min2 rfl) (by rfl) T.b_min bt_min (pa_cons (pe_op op_add (pv 5) (pv 1)) (pa_cons (pv 0) pa_nil))) pa_nil))) (pg_name (i := 6) sc_car_marks.nd rfl (by first | exact Or.inl rfl | exact Or.inr rfl))
        (pss_one (ps_asg pe_bl (pg_sub (pv 4) (pv 6) set_list)))))
      pss_nil)))
    (pss_one (ps_ret (pv 4)))))), ?_⟩
    show tSeq _ _ _ [some (.int d), some (.int g), some (.ref a), none, none, none, none] H
    walk_at "rd"
    refine ⟨d, a, l, rfl, hP, hW, hd, fun H1 p1 s1 n1 h1 => ?_⟩
    walk_at "rd"
    refine ⟨by decide, fun p2 H2 m2 => ⟨_, m2.at_, by omega, by omega, ?_, fun p3 H3 m3 => ⟨_, m3.same _ _ (m2.same _ _ h1), _, m3.at_, ?_, fun p4 H4 m4 => ⟨by decide, fun p5 H5 m5 => ⟨_, m5.at_, by omega, by omega, ?_, fun p6 H6 m6 => ⟨by omega, by omega, ?_⟩⟩⟩⟩⟩⟩
    · rw [sizeLine_eq]; simp; omega
    · rw [sizeLine_eq, rep_one]; simp [marks_len]; omega
    · rw [sizeLine_eq]; simp; omega
    have h4 : H6 p4 = some (.lst ((marks (d + g) (Kh343.runs l)).map V.bl)) := by
      rw [m6.same _ _ (m5.same _ _ m4.at_), rep_one, ← marks_app d g _ (fun t ht => runs_out hW ht), List.map_append, List.map_replicate]
      rfl
    have h6 : H6 p6 = some (.lst ((marks d (carTo l g 0)).map V.bl)) := by
      have : marks d (carTo l g 0) = List.replicate d false := marks_false d
      rw [m6.at_, rep_one, this, List.map_replicate]
      rfl
    have s5 := ((s1.trans m2.same).trans m3.same).trans (m4.same.trans m5.same)
    have s6 := s5.trans m6.same
    have n6 := s5.free m6.free
    have n46 : p4 ≠ p6 := ne_of_none (m5.same _ _ m4.at_) m6.free
    refine forW_range (fun i σ H' => ∃ v5 v6, σ = [some (.int d), some (.int g), some (.ref a), some (.ref p4), some (.ref p6), v5, v6] ∧ Same H H' ∧ H' p4 = some (.lst ((marks (d + g) (Kh343.runs l)).map V.bl)) ∧ H' p6 = some (.lst ((marks d (carTo l g i)).map V.bl)))
      ⟨_, _, rfl, s6, h4, h6⟩ ?_ ?_
    · rintro i σ H7 hi ⟨v5, v6, rfl, s7, h4, h6⟩
      have hi : i < d := by omega
      have hL : SqL K H7 p4 ((marks (d + g) (Kh343.runs l)).map V.bl) := SqL.of h4
      walk_at "rd"
      refine ⟨_, hL, fun p7 H8 m8 => ⟨_, .inl (SqL.of m8.at_), rfl, ?_, ?_⟩⟩
      · unfold cutV
        rw [← List.map_drop, ← List.map_take]
        exact flat_bl _
      simp only [cut_gap' d g i hi l]
      have h4 := m8.same _ _ h4
      have h6 := m8.same _ _ h6
      have s8 := s7.trans m8.same
      by_cases hgap : gapAt l g i = true
      · rw [if_pos hgap]
        have en : ((if (d : Int) < (i : Int) + (g : Int) then (d : Int) else (i : Int) + (g : Int)) - (i : Int)).toNat = min (i + g) d - i := by
          split <;> omega
        refine ⟨by omega, by omega, by split <;> omega, by split <;> omega, forW_range (fun j σ H' => ∃ v6, σ = [some (.int d), some (.int g), some (.ref a), some (.ref p4), some (.ref p6), some (.int i), v6] ∧ Same H H' ∧
          H' p4 = some (.lst ((marks (d + g) (Kh343.runs l)).map V.bl)) ∧ H' p6 = some (.lst ((marks d (fun t => carTo l g i t || (decide (i ≤ t) && decide (t < i + j)))).map V.bl))) ⟨_, rfl, s8, h4, ?_⟩ ?_ ?_⟩
        · rw [h6]
          congr 4
          funext t
          have : (decide (i ≤ t) && decide (t < i + 0)) = false := by simp
          rw [this, Bool.or_false]
        · rintro j σ H9 hj ⟨v6', rfl, s9, h4, h6⟩
          rw [en] at hj
          walk_at "rd*"
          refine ⟨i + j, ?_, ?_⟩
          · rw [List.length_map, marks_len]
            exact ixN_nat (j := i + j) (by omega)
          · refine ⟨s9.own n6, upd_at h4 n46, ?_⟩
            rw [upd_same, marksV_set]
            congr 4
            funext t
            rw [Bool.eq_iff_iff]
            cases carTo l g i t <;> simp <;> omega
        · rintro σ H9 ⟨v6', rfl, s9, h4, h6⟩
          refine ⟨_, _, rfl, s9, h4, ?_⟩
          rw [h6, en]
          congr 3
          apply marks_congr
          intro t ht
          rw [carTo_succ, hgap, Bool.true_and, Bool.eq_iff_iff]
          cases carTo l g i t <;> simp <;> omega
      · rw [if_neg hgap]
        refine ⟨s8, h4, ?_⟩
        rw [h6]
        congr 4
        funext t
        rw [carTo_succ]
        simp [hgap]
    · rintro σ H7 ⟨v5, v6, rfl, s7, h4, h6⟩
      walk_at "rd"
      exact k _ _ s7 n6 h6
end

section
variable {P : Program} {w : World} {K : PySem.W.Frag} {mg : Str → Option Value} {base : Heap} {C : Addr}
/-- the first marked minute from t on, or one behind the day -/
structure FirstIs (d : Nat) (f : Nat → Bool) (t m : Nat) : Prop where
  ge : t ≤ m
  no : ∀ u, t ≤ u → u < m → u < d ∧ f u = false
  yes : d ≤ m ∨ f m = true
theorem FirstIs.next {a : Abs} {c t m : Nat} {f : Nat → Bool} (hf : ∀ u, u < a.day → f u = Kh343.open_ a (Kh343.spansOf a c) u) (h : FirstIs a.day f t m) : NextIs a c t m := by
  refine ⟨h.ge, fun u h1 h2 => ?_, ?_⟩
  · obtain ⟨h3, h4⟩ := h.no u h1 h2
    exact ⟨h3, by rw [← hf u h3]; exact h4⟩
  · by_cases q : a.day ≤ m
    · exact .inl q
    · rcases h.yes with y | y
      · exact .inl y
      · exact .inr (by rw [← hf m (by omega)]; exact y)
def spFirst (K : PySem.W.Frag) : Sp := fun vs H Q _ => ∃ (q : Addr) (d t : Nat) (f : Nat → Bool), vs = [.ref q, .int t] ∧ H q = some (.lst ((marks d f).map V.bl)) ∧ ∀ m : Nat, FirstIs d f t m → Q (.int m) H
abbrev s_first_car_minute : Stmt := top 16
theorem sc_first_car_minute : FnScope ["cars", "t", "minute"] ["cars", "t"] (defScope s_first_car_minute) := ⟨rfl, rfl, rfl, by decide +kernel, rfl, by decide +kernel, by decide +kernel⟩
theorem at_marks {d : Nat} {f : Nat → Bool} {t : Nat} (h : t < d) : atI ((marks d f).map V.bl) (t : Int) = some (.bl (f t)) := by
  apply atI_nat
  rw [List.getElem?_map, marks_get h]
  rfl
theorem ok_first (D : IsDef K mg "first_car_minute" s_first_car_minute) (T : Txt K mg C) : Cal P w K mg base "first_car_minute" 1 ["cars", "t"] (spFirst K) := by
  refine cal_mk D sc_first_car_minute (fun _ _ _ _ _ _ => us2 (fun _ _ => rfl)) (fun vs H Q E h => ?_) (fun f cdv A outer s H vs Q E hr h => ?_)
  · obtain ⟨q, d, t, f, rfl, _⟩ := h
    rfl
  · obtain ⟨q, d, t, f, rfl, hq, k⟩ := h
    refine ⟨_, (pss_cons (ps_set (i := 2) sc_first_car_minute.nd rfl (by first | exact Or.inl rfl | exact Or.inr rfl) (pv 1))
    (pss_cons (ps_while PassesOwn.never ((pw_and (pt_cmpR op_lt (pv 2) (pe_callB call_len_seq (by rfl) T.b_len bt_len (pa_cons (pv 0) pa_nil)) (nomark _)) (pw_and1 (pt_not (pt_val (pe_ix ix_list (pv 0) (pv 2) (fun _ _ => rfl))))))).pt
    (pss_one (ps_aug (i := 2) sc_first_car_minute.nd rfl (by first | exact Or.inl rfl | exact Or.inr rfl) pe_int ip_add)))
    (pss_one (ps_ret (pv 2))))), ?_⟩
    show tSeq _ _ _ [some (.ref q), some (.int t), none] H
    walk_at "rd"
    refine whileW (fun n σ H' => ∃ m : Nat, σ = [some (.ref q), some (.int t), some (.int m)] ∧ H' = H ∧ n = d - m ∧ t ≤ m ∧ ∀ u, t ≤ u → u < m → u < d ∧ f u = false) ⟨_, t, rfl, rfl, rfl, Nat.le_refl _, fun u h1 h2 => by omega⟩ ?_
    rintro n σ H' ⟨m, rfl, rfl, rfl, h1, h2⟩
    have hL : SqL K H' q ((marks d f).map V.bl) := SqL.of hq
    walk_at "rd"
    refine ⟨_, .inl hL, ?_⟩
    rw [List.length_map, marks_len]
    walk_at "rd"
    split
    · rename_i hm
      have hm : m < d := by omega
      refine ⟨_, hL, _, at_marks hm, f m, rfl, ?_⟩
      cases e : f m with
      | true =>
        rw [if_neg (by simp)]
        exact k m ⟨h1, h2, .inr e⟩
      | false =>
        rw [if_pos rfl]
        refine ⟨_, fun _ _ h => h, ?_⟩
        refine ⟨d - (m + 1), by omega, m + 1, rfl, rfl, rfl, by omega, fun u h3 h4 => ?_⟩
        by_cases q : u = m
        · subst q
          exact ⟨hm, e⟩
        · exact h2 u h3 (by omega)
    · rename_i hm
      exact k m ⟨h1, h2, .inl (by omega)⟩
abbrev s_shut_spans : Stmt := top 17
theorem sc_shut_spans : FnScope ["cars", "found", "minute", "behind"] ["cars"] (defScope s_shut_spans) := ⟨rfl, rfl, rfl, by decide +kernel, rfl, by decide +kernel, by decide +kernel⟩
def TupAt (H : Hp) (p : Addr) (x : Nat × Nat) : Prop := H p = some (.tup [.int x.1, .int x.2])
def spShuts (K : PySem.W.Frag) : Sp := fun vs H Q _ => ∃ (q : Addr) (a : Abs) (c : Nat), vs = [.ref q] ∧ H q = some (.lst ((marks a.day (Kh343.open_ a (Kh343.spansOf a c))).map V.bl)) ∧ a.day ≤ 120 ∧
  ∀ (H' : Hp) (p : Addr), Same H H' → H p = none → PairsAt H' p (Kh343.shuts a c) → Q (.ref p) H'
theorem ok_shuts (D : IsDef K mg "shut_spans" s_shut_spans) (T : Txt K mg C) (c_first_car_minute : Cal P w K mg base "first_car_minute" 1 ["cars", "t"] (spFirst K)) : Cal P w K mg base "shut_spans" 2 ["cars"] (spShuts K) := by
  refine cal_mk D sc_shut_spans (fun _ _ _ _ _ _ => us1 (fun _ => rfl)) (fun vs H Q E h => ?_) (fun f cdv A outer s H vs Q E hr h => ?_)
  · obtain ⟨q, a, c, rfl, _⟩ := h
    rfl
  · obtain ⟨q, a, c, rfl, hq, hd, k⟩ := h
    refine ⟨_, (pss_cons (ps_set (i := 1) sc_shut_spans.nd rfl (by first | exact Or.inl rfl | exact Or.inr rfl) (pe_lst pa_nil))
    (pss_cons (ps_set (i := 2) sc_shut_spans.nd rfl (by first | exact Or.inl rfl | exact Or.inr rfl) pe_int)
    (pss_cons (ps_while PassesOwn.never (pt_cmpR op_lt (pv 2) (pe_callB call_len_seq (by rfl) T.b_len bt_len (pa_cons (pv 0) pa_nil)) (nomark _))
    (pss_one (ps_if (pt_val (pe_ix ix_list (pv 0) (pv 2) (fun _ _ => rfl)))
      (pss_one (ps_aug (i := 2) sc_shut_spans.nd rfl (by first | exact Or.inl rfl | exact Or.inr rfl) pe_int ip_add))
      (pss_cons (ps_set (i := 3) sc_shut_spans.nd rfl (by first | exact Or.inl rfl | exact Or.inr rfl) (pe_own c_first_car_minute (hr.mono (by decide)) (pa_cons (pv 0) (pa_cons (pv 2) pa_nil))))
        (pss_cons (ps_expr (pe_bm PySem.F.plainAttrs_list PySem.F.slot_list_append PySem.F.type_list_append mt_append (pv 1) (pa_cons (pe_tup (pa_cons (pv 2) (pa_cons (pe_op op_sub (pv 3) (pv 2)) pa_nil))) pa_nil)))
        (pss_one (ps_set (i := 2) sc_shut_spans.nd rfl (by first | exact Or.inl rfl | exact Or.inr rfl) (pv 3))))))))
    (pss_one (ps_ret (pv 1)))))), ?_⟩
    show tSeq _ _ _ [some (.ref q), none, none, none] H
    walk_at "rd"
    refine ⟨by decide, fun p1 H1 m1 => ?_⟩
    refine whileW (fun n σ H' => ∃ (m : Nat) (v3 : Option V) (ts : List Addr), σ = [some (.ref q), some (.ref p1), some (.int m), v3] ∧ Same H H' ∧ H' p1 = some (.lst (ts.map V.ref)) ∧ Paired (TupAt H') ts (shutsTo a c m) ∧ n = a.day - m ∧ m ≤ a.day ∧
      (m = 0 ∨ a.day ≤ m ∨ Kh343.open_ a (Kh343.spansOf a c) m = true ∨ Kh343.open_ a (Kh343.spansOf a c) (m - 1) = true))
      ⟨_, 0, _, [], rfl, m1.same, m1.at_, .nil, rfl, Nat.zero_le _, .inl rfl⟩ ?_
    rintro n σ H2 ⟨m, v3, ts, rfl, s2, h2, ht, rfl, hm, hb⟩
    have hL : SqL K H2 q ((marks a.day (Kh343.open_ a (Kh343.spansOf a c))).map V.bl) := SqL.of (s2 _ _ hq)
    walk_at "rd"
    refine ⟨_, .inl hL, ?_⟩
    rw [List.length_map, marks_len]
    split
    · rename_i hm
      have hm : m < a.day := by omega
      refine ⟨_, fun _ _ h => h, _, hL, _, at_marks hm, Kh343.open_ a (Kh343.spansOf a c) m, rfl, ?_⟩
      split
      · rename_i ho
        refine ⟨_, by omega, m + 1, _, rfl, s2, ts, h2, ?_, rfl, by omega, .inr (.inr (.inr ho))⟩
        rw [shutsTo_open ho]
        exact ht
      · rename_i ho
        refine ⟨q, a.day, m, _, rfl, s2 _ _ hq, fun m' hm' => ?_⟩
        have hN := hm'.next (c := c) (fun _ _ => rfl)
        have e := hN.eq
        subst e
        have hbg : begins a c m = true := by
          rw [begins_at]
          refine ⟨by simpa using ho, ?_⟩
          rcases hb with z | z | z | z
          · exact .inl z
          · omega
          · exact absurd z ho
          · exact .inr z
        have hlt : m < Kh343.nextOf a c m := by
          have := nextOf_ge a c (m + 1)
          rw [← nextOf_shut hm (by simpa using ho)] at this
          omega
        have hle := nextOf_le a c (Nat.le_of_lt hm)
        walk_at "rd"
        refine ⟨.inl ⟨rfl, _, SqL.of h2⟩, (by show 2 ≤ sizeLine; decide), fun p2 H3 m3 => ⟨_, m3.same _ _ h2, ?_, a.day - Kh343.nextOf a c m, by omega, Kh343.nextOf a c m, rfl, (s2.trans m3.same).own m1.free, ts ++ [p2], ?_, ?_, rfl, hle, ?_⟩⟩
        · have := Paired.len' ht
          have h5 := shutsTo_len a c m
          rw [List.length_map, sizeLine_eq]
          omega
        · rw [upd_same, List.map_append]
          rfl
        · rw [shutsTo_shut hm hbg]
          have ne : ∀ b x, TupAt H3 b x → TupAt (upd H3 p1 (.lst (ts.map V.ref ++ [.ref p2]))) b x := fun b x e => upd_at e (ne_of e (m3.same _ _ h2) (by intro z; cases z))
          refine Paired.snoc (ne _ _ ?_) (Paired.imp' (fun b x e => ne b x (m3.same _ _ e)) ht)
          show H3 p2 = some (.tup [.int m, .int ((Kh343.nextOf a c m - m : Nat) : Int)])
          rw [m3.at_, show ((Kh343.nextOf a c m - m : Nat) : Int) = (Kh343.nextOf a c m : Int) - (m : Int) by omega]
        · rcases hN.yes with y | y
          · exact .inr (.inl y)
          · exact .inr (.inr (.inl y))
    · rename_i hm
      have e : m = a.day := by omega
      subst e
      exact k _ _ s2 m1.free ⟨ts, h2, ht⟩
end

section
variable {P : Program} {w : World} {K : PySem.W.Frag} {mg : Str → Option Value} {base : Heap} {C : Addr}
/-- a call's answer, as values -/
def ansV (s : Option Abs) (c : Kh343.Call) : List V := ((Kh343.doing s c).2.ret :: (Kh343.doing s c).2.out.map Int.ofNat).map V.int
/-- the end that an asking def wants: a new list, the answer -/
def Told (H : Hp) (Q : VK) (l : List V) : Prop := ∀ (H' : Hp) (q : Addr), Same H H' → H q = none → H' q = some (.lst l) → Q (.ref q) H'
theorem Told.one {H H1 H2 : Hp} {Q : VK} {v : V} {q : Addr} {l : List V} (k : Told H Q l) (s : Same H H1) (n : New H1 q (.lst [v]) H2) (e : l = [v]) : Q (.ref q) H2 := k _ _ (s.trans n.same) (s.free n.free) (by rw [n.at_, e])
def minRef (a : Abs) (c t : Nat) : Int := if a.spans.length ≤ c then -2 else if a.day ≤ t then -22 else 0
def spMinRef (C : Addr) : Sp := fun vs H Q _ => ∃ (p : Addr) (L : List Addr) (a : Abs) (c t : Nat), vs = [.ref p, .int c, .int t] ∧ CourseAt C H p L (some a) ∧ Q (.int (minRef a c t)) H
abbrev s_minute_refusal : Stmt := top 22
theorem sc_minute_refusal : FnScope ["course", "c", "t"] ["course", "c", "t"] (defScope s_minute_refusal) := ⟨rfl, rfl, rfl, by decide +kernel, rfl, by decide +kernel, by decide +kernel⟩
theorem ok_minute_refusal (D : IsDef K mg "minute_refusal" s_minute_refusal) (T : Txt K mg C) (c_has_crossing : Cal P w K mg base "has_crossing" 1 ["course", "c"] (spHasCrossing C)) : Cal P w K mg base "minute_refusal" 2 ["course", "c", "t"] (spMinRef C) := by
  refine cal_mk D sc_minute_refusal (fun _ _ _ _ _ _ => us3 (fun _ _ _ => rfl)) (fun vs H Q E h => ?_) (fun f cdv A outer s H vs Q E hr h => ?_)
  · obtain ⟨p, L, a, c, t, rfl, _⟩ := h
    rfl
  · obtain ⟨p, L, a, c, t, rfl, hC, k⟩ := h
    refine ⟨_, (pss_cons (ps_if (pt_not (pt_val (pe_own c_has_crossing (hr.mono (by decide)) (pa_cons (pv 0) (pa_cons (pv 1) pa_nil)))))
    (pss_one (ps_ret (pe_gl T.g_NO_SUCH)))
    pss_nil)
    (pss_cons (ps_if (pt_cmpR op_ge (pv 2) (pe_fld (pv 0) rfl) (nomark _))
    (pss_one (ps_ret (pe_gl T.g_WRONG)))
    pss_nil)
    (pss_one (ps_ret pe_int)))), ?_⟩
    show tSeq _ _ _ [some (.ref p), some (.int c), some (.int t)] H
    walk_at "rd"
    refine ⟨p, L, a, c, rfl, hC, ?_⟩
    obtain ⟨dx, lc, lr, cs, rs, hL⟩ := hC
    have h1 := hL.obj
    have h3 := T.cl
    have h4 := T.nM
    walk_at "rd*"
    unfold minRef at k
    split
    · rename_i h
      rw [if_pos (by omega)] at k
      exact k
    · rename_i h
      rw [if_neg (by omega)] at k
      split
      · rename_i h
        rw [if_pos (by omega)] at k
        exact k
      · rename_i h
        rw [if_neg (by omega)] at k
        exact k
def spCarsAt (C : Addr) : Sp := fun vs H Q _ => ∃ (p : Addr) (L : List Addr) (a : Abs) (c : Nat), vs = [.ref p, .int c] ∧ CourseAt C H p L (some a) ∧ c < a.spans.length ∧
  ∀ (H' : Hp) (q : Addr), Same H H' → H q = none → H' q = some (.lst ((marks a.day (Kh343.open_ a (Kh343.spansOf a c))).map V.bl)) → Q (.ref q) H'
/-- a crossing's spans in the heap -/
theorem Lies.cross {H : Hp} {p : Addr} {L : List Addr} {a : Abs} {dx lc lr : Addr} {cs rs : List Addr} (h : Lies C H p L a dx lc lr cs rs) {c : Nat} (hc : c < a.spans.length) : ∃ q, cs[c]? = some q ∧ PairsAt H q (Kh343.spansOf a c) := by
  obtain ⟨q, h1, h2⟩ := Paired.at' h.sp (List.getElem?_eq_getElem hc)
  refine ⟨q, h1, ?_⟩
  unfold Kh343.spansOf
  rw [List.getD_eq_getElem?_getD, List.getElem?_eq_getElem hc]
  exact h2
theorem at_map {α : Type} {f : α → V} {l : List α} {i : Nat} {x : α} (h : l[i]? = some x) : atI (l.map f) (i : Int) = some (f x) := by
  apply atI_nat
  rw [List.getElem?_map, h]
  rfl
abbrev s_cars_at : Stmt := top 18
theorem sc_cars_at : FnScope ["course", "c"] ["course", "c"] (defScope s_cars_at) := ⟨rfl, rfl, rfl, by decide +kernel, rfl, by decide +kernel, by decide +kernel⟩
theorem ok_cars_at (D : IsDef K mg "cars_at" s_cars_at) (T : Txt K mg C) (c_car_marks : Cal P w K mg base "car_marks" 2 ["minutes", "gap", "spans"] spCarMarks) : Cal P w K mg base "cars_at" 3 ["course", "c"] (spCarsAt C) := by
  refine cal_mk D sc_cars_at (fun _ _ _ _ _ _ => us2 (fun _ _ => rfl)) (fun vs H Q E h => ?_) (fun f cdv A outer s H vs Q E hr h => ?_)
  · obtain ⟨p, L, a, c, rfl, _⟩ := h
    rfl
  · obtain ⟨p, L, a, c, rfl, ⟨dx, lc, lr, cs, rs, hL⟩, hc, k⟩ := h
    refine ⟨_, (pss_one (ps_ret (pe_own c_car_marks (hr.mono (by decide)) (pa_cons (pe_fld (pv 0) rfl) (pa_cons (pe_fld (pv 0) rfl) (pa_cons (pe_ix ix_list (pe_fld (pv 0) rfl) (pv 1) (fun _ _ => rfl)) pa_nil)))))), ?_⟩
    show tRet _ _ [some (.ref p), some (.int c)] H
    have h1 := hL.obj
    have h2 : SqL K H lc (cs.map V.ref) := SqL.of hL.hc
    have h3 := T.cl
    have h4 := T.nM
    have h5 := T.nG
    have h6 := T.nC
    obtain ⟨q, hq, hP⟩ := hL.cross hc
    walk_at "rd*"
    refine ⟨_, h2, _, at_map hq, ?_⟩
    refine ⟨a.day, a.need, q, _, rfl, hP, hL.ok.within c, hL.ok.day2, hL.ok.need1, hL.ok.need2, fun H' p' s' n' h' => k H' p' s' n' ?_⟩
    rw [h', marks_congr fun t ht => carTo_open (hL.ok.within c) ht]
def spShutsAt (C : Addr) : Sp := fun vs H Q _ => ∃ (p : Addr) (L : List Addr) (a : Abs) (c : Nat), vs = [.ref p, .int c] ∧ CourseAt C H p L (some a) ∧ c < a.spans.length ∧
  ∀ (H' : Hp) (q : Addr), Same H H' → H q = none → PairsAt H' q (Kh343.shuts a c) → Q (.ref q) H'
abbrev s_shuts_at : Stmt := top 19
theorem sc_shuts_at : FnScope ["course", "c"] ["course", "c"] (defScope s_shuts_at) := ⟨rfl, rfl, rfl, by decide +kernel, rfl, by decide +kernel, by decide +kernel⟩
theorem ok_shuts_at (D : IsDef K mg "shuts_at" s_shuts_at) (T : Txt K mg C) (c_cars_at : Cal P w K mg base "cars_at" 3 ["course", "c"] (spCarsAt C)) (c_shut_spans : Cal P w K mg base "shut_spans" 2 ["cars"] (spShuts K)) : Cal P w K mg base "shuts_at" 4 ["course", "c"] (spShutsAt C) := by
  refine cal_mk D sc_shuts_at (fun _ _ _ _ _ _ => us2 (fun _ _ => rfl)) (fun vs H Q E h => ?_) (fun f cdv A outer s H vs Q E hr h => ?_)
  · obtain ⟨p, L, a, c, rfl, _⟩ := h
    rfl
  · obtain ⟨p, L, a, c, rfl, hC, hc, k⟩ := h
    refine ⟨_, (pss_one (ps_ret (pe_own c_shut_spans (hr.mono (by decide)) (pa_cons (pe_own c_cars_at (hr.mono (by decide)) (pa_cons (pv 0) (pa_cons (pv 1) pa_nil))) pa_nil)))), ?_⟩
    show tRet _ _ [some (.ref p), some (.int c)] H
    walk_at "rd"
    refine ⟨p, L, a, c, rfl, hC, hc, fun H1 p1 s1 n1 e1 => ?_⟩
    obtain ⟨dx, lc, lr, cs, rs, hL⟩ := hC
    exact ⟨p1, a, c, rfl, e1, hL.ok.day2, fun H2 p2 s2 n2 hP => k H2 p2 (s1.trans s2) (s1.free n2) hP⟩
end

section
variable {P : Program} {w : World} {K : PySem.W.Frag} {mg : Str → Option Value} {base : Heap} {C : Addr}
def spAsk2 (C : Addr) (call : Nat → Nat → Kh343.Call) : Sp := fun vs H Q _ => ∃ (p : Addr) (L : List Addr) (a : Abs) (c t : Nat), vs = [.ref p, .int c, .int t] ∧ CourseAt C H p L (some a) ∧ Told H Q (ansV (some a) (call c t))
def spAsk0 (C : Addr) (call : Kh343.Call) : Sp := fun vs H Q _ => ∃ (p : Addr) (L : List Addr) (a : Abs), vs = [.ref p] ∧ CourseAt C H p L (some a) ∧ Told H Q (ansV (some a) call)
def spAsk1 (C : Addr) (call : Nat → Kh343.Call) : Sp := fun vs H Q _ => ∃ (p : Addr) (L : List Addr) (a : Abs) (c : Nat), vs = [.ref p, .int c] ∧ CourseAt C H p L (some a) ∧ Told H Q (ansV (some a) (call c))
theorem minRef_cases (a : Abs) (c t : Nat) : (minRef a c t < 0 ∧ ((a.spans.length ≤ c ∧ minRef a c t = -2) ∨ (c < a.spans.length ∧ a.day ≤ t ∧ minRef a c t = -22))) ∨ (¬ minRef a c t < 0 ∧ c < a.spans.length ∧ t < a.day) := by
  unfold minRef
  split
  · left
    refine ⟨by omega, .inl ⟨by omega, rfl⟩⟩
  · split
    · left
      refine ⟨by omega, .inr ⟨by omega, by omega, rfl⟩⟩
    · right
      refine ⟨by omega, by omega, by omega⟩
abbrev s_ask_runs : Stmt := top 23
theorem sc_ask_runs : FnScope ["course", "c", "t", "refusal", "runners"] ["course", "c", "t"] (defScope s_ask_runs) := ⟨rfl, rfl, rfl, by decide +kernel, rfl, by decide +kernel, by decide +kernel⟩
theorem ok_ask_runs (D : IsDef K mg "ask_runs" s_ask_runs) (T : Txt K mg C) (c_minute_refusal : Cal P w K mg base "minute_refusal" 2 ["course", "c", "t"] (spMinRef C)) (c_runner_marks : Cal P w K mg base "runner_marks" 1 ["minutes", "spans"] spRunnerMarks) :
    Cal P w K mg base "ask_runs" 3 ["course", "c", "t"] (spAsk2 C .runs) := by
  refine cal_mk D sc_ask_runs (fun _ _ _ _ _ _ => us3 (fun _ _ _ => rfl)) (fun vs H Q E h => ?_) (fun f cdv A outer s H vs Q E hr h => ?_)
  · obtain ⟨p, L, a, c, t, rfl, _⟩ := h
    rfl
  · obtain ⟨p, L, a, c, t, rfl, hC, k⟩ := h
    refine ⟨_, (pss_cons (ps_set (i := 3) sc_ask_runs.nd rfl (by first | exact Or.inl rfl | exact Or.inr rfl) (pe_own c_minute_refusal (hr.mono (by decide)) (pa_cons (pv 0) (pa_cons (pv 1) (pa_cons (pv 2) pa_nil)))))
    (pss_cons (ps_if (pt_cmpR op_lt (pv 3) pe_int (nomark _))
    (pss_one (ps_ret (pe_lst (pa_cons (pv 3) pa_nil))))
    pss_nil)
    (pss_cons (ps_set (i := 4) sc_ask_runs.nd rfl (by first | exact Or.inl rfl | exact Or.inr rfl) (pe_own c_runner_marks (hr.mono (by decide)) (pa_cons (pe_fld (pv 0) rfl) (pa_cons (pe_ix ix_list (pe_fld (pv 0) rfl) (pv 1) (fun _ _ => rfl)) pa_nil))))
    (pss_one (ps_ret (pe_lst (pa_cons (pe_ifExp (pt_val (pe_ix ix_list (pv 4) (pv 2) (fun _ _ => rfl))) pe_int pe_int) pa_nil))))))), ?_⟩
    show tSeq _ _ _ [some (.ref p), some (.int c), some (.int t), none, none] H
    walk_at "rd"
    refine ⟨p, L, a, c, t, rfl, hC, ?_⟩
    obtain ⟨dx, lc, lr, cs, rs, hL⟩ := hC
    have h1 := hL.obj
    have h2 : SqL K H lc (cs.map V.ref) := SqL.of hL.hc
    have h3 := T.cl
    have h4 := T.nM
    have h6 := T.nC
    walk_at "rd*"
    rcases minRef_cases a c t with ⟨hneg, h⟩ | ⟨hneg, hc, ht⟩
    · rw [if_pos hneg]
      refine ⟨(by show 1 ≤ sizeLine; decide), fun q H1 m1 => k.one (Same.refl _) m1 ?_⟩
      rcases h with ⟨hc, e⟩ | ⟨hc, ht, e⟩
      · rw [e]
        simp [ansV, Kh343.doing, hc, Kh343.say]
      · rw [e]
        simp [ansV, Kh343.doing, Nat.not_le.mpr hc, ht, Kh343.say]
    · rw [if_neg hneg]
      obtain ⟨q, hq, hP⟩ := hL.cross hc
      refine ⟨_, h2, _, at_map hq, a.day, q, _, rfl, hP, hL.ok.within c, hL.ok.day2, fun H1 p1 s1 n1 e1 => ?_⟩
      walk_at "rd"
      refine ⟨_, SqL.of e1, _, at_marks ht, _, rfl, ?_⟩
      cases e : Kh343.runs (Kh343.spansOf a c) t with
      | true =>
        walk_at "rd"
        refine ⟨(by show 1 ≤ sizeLine; decide), fun q H2 m2 => k.one s1 m2 ?_⟩
        simp [ansV, Kh343.doing, Nat.not_le.mpr hc, Nat.not_le.mpr ht, Kh343.say, e]
      | false =>
        walk_at "rd"
        refine ⟨(by show 1 ≤ sizeLine; decide), fun q H2 m2 => k.one s1 m2 ?_⟩
        simp [ansV, Kh343.doing, Nat.not_le.mpr hc, Nat.not_le.mpr ht, Kh343.say, e]
abbrev s_ask_crossable : Stmt := top 24
theorem sc_ask_crossable : FnScope ["course", "c", "t", "refusal"] ["course", "c", "t"] (defScope s_ask_crossable) := ⟨rfl, rfl, rfl, by decide +kernel, rfl, by decide +kernel, by decide +kernel⟩
theorem ok_ask_crossable (D : IsDef K mg "ask_crossable" s_ask_crossable) (T : Txt K mg C) (c_minute_refusal : Cal P w K mg base "minute_refusal" 2 ["course", "c", "t"] (spMinRef C)) (c_cars_at : Cal P w K mg base "cars_at" 3 ["course", "c"] (spCarsAt C)) :
    Cal P w K mg base "ask_crossable" 4 ["course", "c", "t"] (spAsk2 C .open_) := by
  refine cal_mk D sc_ask_crossable (fun _ _ _ _ _ _ => us3 (fun _ _ _ => rfl)) (fun vs H Q E h => ?_) (fun f cdv A outer s H vs Q E hr h => ?_)
  · obtain ⟨p, L, a, c, t, rfl, _⟩ := h
    rfl
  · obtain ⟨p, L, a, c, t, rfl, hC, k⟩ := h
    refine ⟨_, (pss_cons (ps_set (i := 3) sc_ask_crossable.nd rfl (by first | exact Or.inl rfl | exact Or.inr rfl) (pe_own c_minute_refusal (hr.mono (by decide)) (pa_cons (pv 0) (pa_cons (pv 1) (pa_cons (pv 2) pa_nil)))))
    (pss_cons (ps_if (pt_cmpR op_lt (pv 3) pe_int (nomark _))
    (pss_one (ps_ret (pe_lst (pa_cons (pv 3) pa_nil))))
    pss_nil)
    (pss_one (ps_ret (pe_lst (pa_cons (pe_ifExp (pt_val (pe_ix ix_list (pe_own c_cars_at (hr.mono (by decide)) (pa_cons (pv 0) (pa_cons (pv 1) pa_nil))) (pv 2) (fun _ _ => rfl))) pe_int pe_int) pa_nil)))))), ?_⟩
    show tSeq _ _ _ [some (.ref p), some (.int c), some (.int t), none] H
    walk_at "rd"
    refine ⟨p, L, a, c, t, rfl, hC, ?_⟩
    walk_at "rd"
    rcases minRef_cases a c t with ⟨hneg, h⟩ | ⟨hneg, hc, ht⟩
    · rw [if_pos hneg]
      refine ⟨(by show 1 ≤ sizeLine; decide), fun q H1 m1 => k.one (Same.refl _) m1 ?_⟩
      rcases h with ⟨hc, e⟩ | ⟨hc, ht, e⟩
      · rw [e]
        simp [ansV, Kh343.doing, hc, Kh343.say]
      · rw [e]
        simp [ansV, Kh343.doing, Nat.not_le.mpr hc, ht, Kh343.say]
    · rw [if_neg hneg]
      refine ⟨p, L, a, c, rfl, hC, hc, fun H1 p1 s1 n1 e1 => ?_⟩
      walk_at "rd"
      refine ⟨_, SqL.of e1, _, at_marks ht, _, rfl, ?_⟩
      cases e : Kh343.open_ a (Kh343.spansOf a c) t with
      | true =>
        walk_at "rd"
        refine ⟨(by show 1 ≤ sizeLine; decide), fun q H2 m2 => k.one s1 m2 ?_⟩
        simp [ansV, Kh343.doing, Nat.not_le.mpr hc, Nat.not_le.mpr ht, Kh343.say, e]
      | false =>
        walk_at "rd"
        refine ⟨(by show 1 ≤ sizeLine; decide), fun q H2 m2 => k.one s1 m2 ?_⟩
        simp [ansV, Kh343.doing, Nat.not_le.mpr hc, Nat.not_le.mpr ht, Kh343.say, e]
abbrev s_ask_next : Stmt := top 25
theorem sc_ask_next : FnScope ["course", "c", "t", "refusal"] ["course", "c", "t"] (defScope s_ask_next) := ⟨rfl, rfl, rfl, by decide +kernel, rfl, by decide +kernel, by decide +kernel⟩
theorem ok_ask_next (D : IsDef K mg "ask_next" s_ask_next) (T : Txt K mg C) (c_minute_refusal : Cal P w K mg base "minute_refusal" 2 ["course", "c", "t"] (spMinRef C)) (c_cars_at : Cal P w K mg base "cars_at" 3 ["course", "c"] (spCarsAt C))
    (c_first_car_minute : Cal P w K mg base "first_car_minute" 1 ["cars", "t"] (spFirst K)) : Cal P w K mg base "ask_next" 4 ["course", "c", "t"] (spAsk2 C .next) := by
  refine cal_mk D sc_ask_next (fun _ _ _ _ _ _ => us3 (fun _ _ _ => rfl)) (fun vs H Q E h => ?_) (fun f cdv A outer s H vs Q E hr h => ?_)
  · obtain ⟨p, L, a, c, t, rfl, _⟩ := h
    rfl
  · obtain ⟨p, L, a, c, t, rfl, hC, k⟩ := h
    refine ⟨_, (pss_cons (ps_set (i := 3) sc_ask_next.nd rfl (by first | exact Or.inl rfl | exact Or.inr rfl) (pe_own c_minute_refusal (hr.mono (by decide)) (pa_cons (pv 0) (pa_cons (pv 1) (pa_cons (pv 2) pa_nil)))))
    (pss_cons (ps_if (pt_cmpR op_lt (pv 3) pe_int (nomark _))
    (pss_one (ps_ret (pe_lst (pa_cons (pv 3) pa_nil))))
    pss_nil)
    (pss_one (ps_ret (pe_lst (pa_cons (pe_own c_first_car_minute (hr.mono (by decide)) (pa_cons (pe_own c_cars_at (hr.mono (by decide)) (pa_cons (pv 0) (pa_cons (pv 1) pa_nil))) (pa_cons (pv 2) pa_nil))) pa_nil)))))), ?_⟩
    show tSeq _ _ _ [some (.ref p), some (.int c), some (.int t), none] H
    walk_at "rd"
    refine ⟨p, L, a, c, t, rfl, hC, ?_⟩
    walk_at "rd"
    rcases minRef_cases a c t with ⟨hneg, h⟩ | ⟨hneg, hc, ht⟩
    · rw [if_pos hneg]
      refine ⟨(by show 1 ≤ sizeLine; decide), fun q H1 m1 => k.one (Same.refl _) m1 ?_⟩
      rcases h with ⟨hc, e⟩ | ⟨hc, ht, e⟩
      · rw [e]
        simp [ansV, Kh343.doing, hc, Kh343.say]
      · rw [e]
        simp [ansV, Kh343.doing, Nat.not_le.mpr hc, ht, Kh343.say]
    · rw [if_neg hneg]
      refine ⟨p, L, a, c, rfl, hC, hc, fun H1 p1 s1 n1 e1 => ?_⟩
      walk_at "rd"
      refine ⟨p1, a.day, t, _, rfl, e1, fun m hm => ?_⟩
      have e := (hm.next (c := c) (fun _ _ => rfl)).eq
      refine ⟨(by show 1 ≤ sizeLine; decide), fun q H2 m2 => k.one s1 m2 ?_⟩
      simp [ansV, Kh343.doing, Nat.not_le.mpr hc, Nat.not_le.mpr ht, Kh343.say, e]
end

section
variable {P : Program} {w : World} {K : PySem.W.Frag} {mg : Str → Option Value} {base : Heap} {C N : Addr}
abbrev s_ask_shuts : Stmt := top 26
theorem sc_ask_shuts : FnScope ["course", "c", "shuts", "answer", "shut"] ["course", "c"] (defScope s_ask_shuts) := ⟨rfl, rfl, rfl, by decide +kernel, rfl, by decide +kernel, by decide +kernel⟩
theorem fl2_len : ∀ l : List (Nat × Nat), (l.flatMap fun x => [x.1, x.2]).length = 2 * l.length := by
  intro l
  induction l with
  | nil => rfl
  | cons x l ih => simp [List.flatMap_cons, ih]; omega
theorem ok_ask_shuts (D : IsDef K mg "ask_shuts" s_ask_shuts) (T : Txt K mg C) (c_has_crossing : Cal P w K mg base "has_crossing" 1 ["course", "c"] (spHasCrossing C)) (c_shuts_at : Cal P w K mg base "shuts_at" 4 ["course", "c"] (spShutsAt C)) :
    Cal P w K mg base "ask_shuts" 5 ["course", "c"] (spAsk1 C .shuts) := by
  refine cal_mk D sc_ask_shuts (fun _ _ _ _ _ _ => us2 (fun _ _ => rfl)) (fun vs H Q E h => ?_) (fun f cdv A outer s H vs Q E hr h => ?_)
  · obtain ⟨p, L, a, c, rfl, _⟩ := h
    rfl
  · obtain ⟨p, L, a, c, rfl, hC, k⟩ := h
    refine ⟨_, (pss_cons (ps_if (pt_not (pt_val (pe_own c_has_crossing (hr.mono (by decide)) (pa_cons (pv 0) (pa_cons (pv 1) pa_nil)))))
    (pss_one (ps_ret (pe_lst (pa_cons (pe_gl T.g_NO_SUCH) pa_nil))))
    pss_nil)
    (pss_cons (ps_set (i := 2) sc_ask_shuts.nd rfl (by first | exact Or.inl rfl | exact Or.inr rfl) (pe_own c_shuts_at (hr.mono (by decide)) (pa_cons (pv 0) (pa_cons (pv 1) pa_nil))))
    (pss_cons (ps_set (i := 3) sc_ask_shuts.nd rfl (by first | exact Or.inl rfl | exact Or.inr rfl) (pe_lst (pa_cons (pe_callB call_len_seq (by rfl) T.b_len bt_len (pa_cons (pv 2) pa_nil)) pa_nil)))
    (pss_cons (ps_for PassesOwn.never rfl (pi_list (pv 2)) (pg_name (i := 4) sc_ask_shuts.nd rfl (by first | exact Or.inl rfl | exact Or.inr rfl))
    (pss_one (ps_expr (pe_bm PySem.F.plainAttrs_list PySem.F.slot_list_extend PySem.F.type_list_extend mt_extendT (pv 3) (pa_cons (pv 4) pa_nil)))))
    (pss_one (ps_ret (pv 3))))))), ?_⟩
    show tSeq _ _ _ [some (.ref p), some (.int c), none, none, none] H
    walk_at "rn"
    refine ⟨p, L, a, c, rfl, hC, ?_⟩
    walk_at "rn"
    by_cases hc : c < a.spans.length
    · rw [if_neg (by simpa using hc)]
      refine ⟨p, L, a, c, rfl, hC, hc, fun H2 p2 s2 n2 hP => ?_⟩
      obtain ⟨dx, lc, lr, cs, rs, hL⟩ := hC
      obtain ⟨ts, hts, hpp⟩ := hP
      have hlen := Paired.len' hpp
      walk_at "rn"
      refine ⟨_, .inl (SqL.of hts), (by show 1 ≤ sizeLine; decide), fun p3 H3 m3 => ⟨⟨_, SqL.of (m3.same _ _ hts)⟩, ?_⟩⟩
      have e3 := m3.at_
      rw [List.length_map, hlen] at e3
      have s3 := s2.trans m3.same
      have n3 : H p3 = none := s2.free m3.free
      refine forW_list (xs := ts.map V.ref) (fun i σ H' => ∃ v4, σ = [some (.ref p), some (.int c), some (.ref p2), some (.ref p3), v4] ∧ Same H2 H' ∧ Same H H' ∧ H' p3 = some (.lst (.int (Kh343.shuts a c).length :: (((Kh343.shuts a c).take i).flatMap fun x => [x.1, x.2]).map fun (n : Nat) => V.int n)))
        ⟨_, rfl, m3.same, s3, e3⟩ (fun i σ H' _ ⟨_, _, z, _⟩ => SqL.of (z _ _ hts)) ?_ ?_
      · rintro i y σ H4 hi ⟨v4, rfl, s4, s4', h4⟩
        obtain ⟨q, hq, rfl⟩ := map_at hi
        obtain ⟨x, hx, hqx⟩ := Paired.at_l hpp hq
        have hT : SqT K H4 q [.int x.1, .int x.2] := SqT.of (s4 _ _ hqx)
        have hty : ∀ (H' : Hp) (l : List V), H' p3 = some (.lst l) → tyV K "list" (.ref p3) H' := fun H' l h => .inl ⟨rfl, _, SqL.of h⟩
        have hsh := shuts_count a c
        have hd := hL.ok.day2
        have hfl := fl2_len ((Kh343.shuts a c).take i)
        rw [List.length_take] at hfl
        walk_at "rn"
        refine ⟨hty _ _ h4, _, h4, _, hT, ?_, s4.own m3.free, s4'.own n3, ?_⟩
        · rw [List.length_cons, List.length_map, sizeLine_eq]
          simp only [List.length_cons, List.length_nil]
          omega
        · rw [upd_same, take_snoc hx]
          simp
      · rintro σ H4 ⟨v4, rfl, s4, s4', h4⟩
        walk_at "rn"
        refine k _ _ s4' n3 ?_
        rw [h4, List.length_map, hlen, List.take_length]
        simp [ansV, Kh343.doing, Nat.not_le.mpr hc]
    · rw [if_pos (by simpa using hc)]
      refine ⟨(by show 1 ≤ sizeLine; decide), fun q H1 m1 => k.one (Same.refl _) m1 ?_⟩
      simp [ansV, Kh343.doing, Nat.not_lt.mp hc, Kh343.say]
abbrev s_ask_longest : Stmt := top 27
theorem sc_ask_longest : FnScope ["course", "c", "first", "length"] ["course", "c"] (defScope s_ask_longest) := ⟨rfl, rfl, rfl, by decide +kernel, rfl, by decide +kernel, by decide +kernel⟩
theorem ok_ask_longest (D : IsDef K mg "ask_longest" s_ask_longest) (T : Txt K mg C) (c_has_crossing : Cal P w K mg base "has_crossing" 1 ["course", "c"] (spHasCrossing C)) (c_shuts_at : Cal P w K mg base "shuts_at" 4 ["course", "c"] (spShutsAt C)) :
    Cal P w K mg base "ask_longest" 5 ["course", "c"] (spAsk1 C .longest) := by
  refine cal_mk D sc_ask_longest (fun _ _ _ _ _ _ => us2 (fun _ _ => rfl)) (fun vs H Q E h => ?_) (fun f cdv A outer s H vs Q E hr h => ?_)
  · obtain ⟨p, L, a, c, rfl, _⟩ := h
    rfl
  · obtain ⟨p, L, a, c, rfl, hC, k⟩ := h
    refine ⟨_, (pss_cons (ps_if (pt_not (pt_val (pe_own c_has_crossing (hr.mono (by decide)) (pa_cons (pv 0) (pa_cons (pv 1) pa_nil)))))
    (pss_one (ps_ret (pe_lst (pa_cons (pe_gl T.g_NO_SUCH) pa_nil))))
    pss_nil)
    (pss_one (ps_ret (pe_lst (pa_cons (pe_maxD rfl (by rfl) T.b_max (pe_lc rfl sc_ask_longest.nd (pi_list (pe_own c_shuts_at (hr.mono (by decide)) (pa_cons (pv 0) (pa_cons (pv 1) pa_nil)))) (blkOk_by (own := [("first", 2), ("length", 3)]) (by show blkC ["course", "c", "first", "length"] (defScope s_ask_longest) _ _ = true; decide +kernel)) (fun _ _ _ _ _ => (pgK_tup (K := K) (n := 2) rfl rfl (pgs_cons (pg_name (i := 2) sc_ask_longest.nd rfl (by first | exact Or.inl rfl | exact Or.inr rfl)) (pgs_cons (pg_name (i := 3) sc_ask_longest.nd rfl (by first | exact Or.inl rfl | exact Or.inr rfl)) pgs_nil)))) (fun _ _ _ _ _ => pts_nil) (fun _ _ _ _ _ => (pv 3))) pe_int) pa_nil))))), ?_⟩
    show tSeq _ _ _ [some (.ref p), some (.int c), none, none] H
    walk_at "rn"
    refine ⟨p, L, a, c, rfl, hC, ?_⟩
    walk_at "rn"
    by_cases hc : c < a.spans.length
    · rw [if_neg (by simpa using hc)]
      refine ⟨p, L, a, c, rfl, hC, hc, fun H2 p2 s2 n2 hP => ?_⟩
      obtain ⟨dx, lc, lr, cs, rs, hL⟩ := hC
      obtain ⟨ts, hts, hpp⟩ := hP
      have hlen := Paired.len' hpp
      walk_at "rn"
      refine ⟨⟨_, SqL.of hts⟩, lcW_list (xs := ts.map V.ref) (fun D i acc H' => acc = ((Kh343.shuts a c).take i).map fun x => V.int x.2) (SqL.of hts) (fun D H' _ => by simp) ?_ ?_⟩
      · rintro D i y acc H' nd hi s1 e1 rfl
        obtain ⟨q, hq, rfl⟩ := map_at hi
        obtain ⟨x, hx, hqx⟩ := Paired.at_l hpp hq
        have hT : SqT K H' q [.int x.1, .int x.2] := SqT.of (s1 _ _ hqx)
        have hsh := shuts_count a c
        have hd := hL.ok.day2
        walk_at "rn"
        refine ⟨_, hT, rfl, ?_⟩
        walk_at "rn"
        refine ⟨rfl, ?_⟩
        walk_at "rn"
        refine LcEnd.put nd s1 e1 (Same.refl _) ?_ ?_
        · rw [List.length_map, List.length_take, sizeLine_eq]
          omega
        · rw [take_snoc hx]
          simp
      · rintro D acc H' nd s1 e1 rfl
        walk_at "rn"
        have eL : H' D = some (.lst (((Kh343.shuts a c).map fun x => (x.2 : Int)).map V.int)) := by
          rw [e1, List.length_map, hlen, List.take_length, List.map_map]
          rfl
        have fin : ∀ m : Nat, Kh343.longest a c = m → 1 ≤ sizeLine ∧ ∀ (q : Addr) (H3 : Hp), New H' q (.lst [V.int m]) H3 → Q (.ref q) H3 := fun m e => by
          refine ⟨(by decide), fun q H3 m3 => k.one (s2.trans s1) m3 ?_⟩
          simp [ansV, Kh343.doing, Nat.not_le.mpr hc, Kh343.say, e]
        refine ⟨_, SqL.of eL, fun hn => ?_, fun m hm hmax => ?_⟩
        · refine fin 0 (longest_eq (fun x hx => ?_) (.inl rfl))
          have : Kh343.shuts a c = [] := List.map_eq_nil_iff.mp hn
          rw [this] at hx
          simp at hx
        · obtain ⟨x, hx, rfl⟩ := List.mem_map.mp hm
          refine fin x.2 (longest_eq (fun y hy => ?_) (.inr ⟨x, hx, rfl⟩))
          have := hmax _ (List.mem_map.mpr ⟨y, hy, rfl⟩)
          omega
    · rw [if_pos (by simpa using hc)]
      refine ⟨(by show 1 ≤ sizeLine; decide), fun q H1 m1 => k.one (Same.refl _) m1 ?_⟩
      simp [ansV, Kh343.doing, Nat.not_lt.mp hc, Kh343.say]
end

section
variable {P : Program} {w : World} {K : PySem.W.Frag} {mg : Str → Option Value} {base : Heap} {C N : Addr}
abbrev s_hold_minutes : Stmt := top 6
theorem sc_hold_minutes : FnScope ["shuts", "gap", "most", "found", "first", "length", "minute"] ["shuts", "gap", "most"] (defScope s_hold_minutes) := ⟨rfl, rfl, rfl, by decide +kernel, rfl, by decide +kernel, by decide +kernel⟩
def spHold : Sp := fun vs H Q _ => ∃ (s : Addr) (g m : Nat) (l : List (Nat × Nat)), vs = [.ref s, .int g, .int m] ∧ PairsAt H s l ∧ 1 ≤ m ∧ l.length ≤ 120 ∧ (∀ x ∈ l, x.2 ≤ 120) ∧
  ∀ (H' : Hp) (p : Addr), Same H H' → H p = none → H' p = some (.lst ((holdL g m l).map fun (n : Nat) => V.int n)) → Q (.ref p) H'
/-- within the inner loop: the holds up to t' are told -/
structure Held (H : Hp) (p0 : Addr) (g m : Nat) (x : Nat × Nat) (pre : List Nat) (n : Nat) (mi : Int) (H' : Hp) : Prop where
  ex : ∃ (t' : Nat) (out : List Nat), mi = (t' : Int) + (m : Int) ∧ H' p0 = some (.lst ((pre ++ out).map fun (n : Nat) => V.int n)) ∧ out ++ held g m t' (x.1 + x.2 - t') = held g m x.1 x.2 ∧ n = x.1 + x.2 - t'
  sm : Same H H'
theorem ok_hold_minutes (D : IsDef K mg "hold_minutes" s_hold_minutes) (T : Txt K mg C) : Cal P w K mg base "hold_minutes" 1 ["shuts", "gap", "most"] spHold := by
  refine cal_mk D sc_hold_minutes (fun _ _ _ _ _ _ => us3 (fun _ _ _ => rfl)) (fun vs H Q E h => ?_) (fun f cdv A outer s H vs Q E hr h => ?_)
  · obtain ⟨s, g, m, l, rfl, _⟩ := h
    rfl
  · obtain ⟨s0, g, m, l, rfl, hP, hm, hl, hx2, k⟩ := h
    refine ⟨_, (pss_cons (ps_set (i := 3) sc_hold_minutes.nd rfl (by first | exact Or.inl rfl | exact Or.inr rfl) (pe_lst pa_nil))
    (pss_cons (ps_for PassesOwn.never rfl (pi_list (pv 0)) (pg_tup (n := 2) rfl (pgs_cons (pg_name (i := 4) sc_hold_minutes.nd rfl (by first | exact Or.inl rfl | exact Or.inr rfl)) (pgs_cons (pg_name (i := 5) sc_hold_minutes.nd rfl (by first | exact Or.inl rfl | exact Or.inr rfl)) pgs_nil)))
    (pss_cons (ps_set (i := 6) sc_hold_minutes.nd rfl (by first | exact Or.inl rfl | exact Or.inr rfl) (pe_op op_add (pv 4) (pv 2)))
      (pss_one (ps_while PassesOwn.never (pt_cmpR op_lt (pv 6) (pe_op op_add (pv 4) (pv 5)) (nomark _))
      (pss_cons (ps_expr (pe_bm PySem.F.plainAttrs_list PySem.F.slot_list_append PySem.F.type_list_append mt_append (pv 3) (pa_cons (pv 6) pa_nil)))
        (pss_one (ps_aug (i := 6) sc_hold_minutes.nd rfl (by first | exact Or.inl rfl | exact Or.inr rfl) (pe_op op_add (pv 1) (pv 2)) ip_add)))))))
    (pss_one (ps_ret (pv 3))))), ?_⟩
    show tSeq _ _ _ [some (.ref s0), some (.int g), some (.int m), none, none, none, none] H
    walk_at "rd"
    refine ⟨Nat.zero_le _, fun p0 H0 m0 => ?_⟩
    obtain ⟨ts, ha, hts⟩ := hP
    have hlen := Paired.len' hts
    have hty : ∀ (H' : Hp) (l : List V), H' p0 = some (.lst l) → tyV K "list" (.ref p0) H' := fun H' l h => .inl ⟨rfl, _, SqL.of h⟩
    refine ⟨⟨_, SqL.of (m0.same _ _ ha)⟩, forW_list (xs := ts.map V.ref) (fun i σ H' => ∃ v4 v5 v6, σ = [some (.ref s0), some (.int g), some (.int m), some (.ref p0), v4, v5, v6] ∧ Same H H' ∧ H' p0 = some (.lst ((holdL g m (l.take i)).map fun (n : Nat) => V.int n)))
      ⟨_, _, _, rfl, m0.same, m0.at_⟩ (fun i σ H' _ ⟨_, _, _, _, s1, _⟩ => SqL.of (s1 _ _ ha)) ?_ ?_⟩
    · rintro i y σ H2 hi ⟨v4, v5, v6, rfl, s1, h1⟩
      obtain ⟨q, hq, rfl⟩ := map_at hi
      obtain ⟨x, hx, hqx⟩ := Paired.at_l hts hq
      have hT : SqT K H2 q [.int x.1, .int x.2] := SqT.of (s1 _ _ hqx)
      have hxl := hx2 x (List.mem_of_getElem? hx)
      have hil : i < l.length := (List.getElem?_eq_some_iff.mp hx).1
      have hpre := holdL_len (g := g) hm (l.take i) (fun y hy => hx2 y (List.mem_of_mem_take hy))
      rw [List.length_take] at hpre
      have hfull := held_len g m hm x.2 x.2 x.1 (Nat.le_refl _)
      walk_at "rd"
      refine ⟨_, hT, rfl, ?_⟩
      walk_at "rd"
      refine whileW (fun n σ H' => ∃ (mi : Int), σ = [some (.ref s0), some (.int g), some (.int m), some (.ref p0), some (.int x.1), some (.int x.2), some (.int mi)] ∧ Held H p0 g m x (holdL g m (l.take i)) n mi H')
        ⟨_, _, rfl, ⟨x.1, [], rfl, by rw [List.append_nil]; exact h1, by rw [Nat.add_sub_cancel_left]; rfl, rfl⟩, s1⟩ ?_
      rintro n σ H3 ⟨mi, rfl, ⟨t', out, hmi, h3, ho, rfl⟩, s3⟩
      walk_at "rd"
      split
      · rename_i hlt
        have hlt : m < x.1 + x.2 - t' := by omega
        rw [held_some hm hlt] at ho
        have hol := congrArg List.length ho
        rw [List.length_append, List.length_cons] at hol
        refine ⟨_, fun _ _ h => h, hty _ _ h3, _, h3, ?_, x.1 + x.2 - (t' + m + g), by omega, _, rfl, ⟨t' + m + g, out ++ [t' + m], ?_, ?_, ?_, rfl⟩, s3.own m0.free⟩
        · rw [List.length_map, List.length_append, sizeLine_eq]
          omega
        · rw [hmi]
          omega
        · rw [upd_same, hmi]
          simp
        · rw [List.append_assoc, show x.1 + x.2 - (t' + m + g) = x.1 + x.2 - t' - (m + g) by omega]
          exact ho
      · rename_i hlt
        have hlt : x.1 + x.2 - t' ≤ m := by omega
        rw [held_none hlt, List.append_nil] at ho
        refine ⟨s3, ?_⟩
        rw [h3, take_snoc hx, ho]
        congr 2
        unfold holdL
        rw [flatMap_snoc]
    · rintro σ H2 ⟨v4, v5, v6, rfl, s1, h1⟩
      walk_at "rd"
      rw [List.length_map, hlen, List.take_length] at h1
      exact k _ _ s1 m0.free h1
abbrev s_least_most : Stmt := top 7
theorem sc_least_most : FnScope ["shuts", "gap", "n", "most"] ["shuts", "gap", "n"] (defScope s_least_most) := ⟨rfl, rfl, rfl, by decide +kernel, rfl, by decide +kernel, by decide +kernel⟩
def spLeastMost : Sp := fun vs H Q _ => ∃ (s : Addr) (a : Abs) (c n : Nat), vs = [.ref s, .int a.need, .int n] ∧ PairsAt H s (Kh343.shuts a c) ∧ AbsOk a ∧ ∀ H' : Hp, Same H H' → Q (.int (Kh343.leastMost a c n)) H'
theorem ok_least_most (D : IsDef K mg "least_most" s_least_most) (T : Txt K mg C) (c_hold_minutes : Cal P w K mg base "hold_minutes" 1 ["shuts", "gap", "most"] spHold) : Cal P w K mg base "least_most" 2 ["shuts", "gap", "n"] spLeastMost := by
  refine cal_mk D sc_least_most (fun _ _ _ _ _ _ => us3 (fun _ _ _ => rfl)) (fun vs H Q E h => ?_) (fun f cdv A outer s H vs Q E hr h => ?_)
  · obtain ⟨s, a, c, n, rfl, _⟩ := h
    rfl
  · obtain ⟨s0, a, c, n, rfl, hP, ok, k⟩ := h
    refine ⟨_, (pss_cons (ps_set (i := 3) sc_least_most.nd rfl (by first | exact Or.inl rfl | exact Or.inr rfl) pe_int)
    (pss_cons (ps_while PassesOwn.never (pt_cmpR op_gt (pe_callB call_len_seq (by rfl) T.b_len bt_len (pa_cons (pe_own c_hold_minutes (hr.mono (by decide)) (pa_cons (pv 0) (pa_cons (pv 1) (pa_cons (pv 3) pa_nil)))) pa_nil)) (pv 2) (nomark _))
    (pss_one (ps_aug (i := 3) sc_least_most.nd rfl (by first | exact Or.inl rfl | exact Or.inr rfl) pe_int ip_add)))
    (pss_one (ps_ret (pv 3))))), ?_⟩
    show tSeq _ _ _ [some (.ref s0), some (.int a.need), some (.int n), none] H
    walk_at "rd"
    have hd1 := ok.day1
    refine whileW (fun j σ H' => ∃ (m : Nat) (mi : Int), σ = [some (.ref s0), some (.int a.need), some (.int n), some (.int mi)] ∧ mi = (m : Int) ∧ Same H H' ∧ 1 ≤ m ∧ m ≤ a.day ∧ (∀ i, 1 ≤ i → i < m → n < (Kh343.holds a c i).length) ∧ j = a.day - m)
      ⟨_, 1, _, rfl, rfl, Same.refl _, Nat.le_refl _, ok.day1, fun i h1 h2 => by omega, rfl⟩ ?_
    rintro j σ H3 ⟨m, mi, rfl, rfl, s3, hm1, hm2, hno, rfl⟩
    walk_at "rd"
    obtain ⟨hl, hx⟩ := shuts_120 (c := c) ok.day2
    refine ⟨s0, a.need, m, _, rfl, hP.same s3, hm1, hl, hx, fun H4 p4 s4 n4 h4 => ?_⟩
    walk_at "rd"
    refine ⟨_, .inl (SqL.of h4), ?_⟩
    rw [List.length_map, ← holds_holdL hm1]
    split
    · rename_i hlt
      have hlt : n < (Kh343.holds a c m).length := by omega
      have hne : m ≠ a.day := fun e => by
        rw [holds_day hm1 (by omega)] at hlt
        simp at hlt
      refine ⟨_, fun _ _ h => h, a.day - (m + 1), by omega, m + 1, _, rfl, by omega, s3.trans s4, by omega, by omega, fun i h1 h2 => ?_, rfl⟩
      by_cases z : i = m
      · subst z
        exact hlt
      · exact hno i h1 (by omega)
    · rename_i hlt
      have e := LeastIs.eq (⟨hm1, hm2, by omega, hno⟩ : LeastIs a c n m)
      rw [← e]
      exact k _ (s3.trans s4)
abbrev s_ask_holds : Stmt := top 28
theorem sc_ask_holds : FnScope ["course", "c", "most", "holds"] ["course", "c", "most"] (defScope s_ask_holds) := ⟨rfl, rfl, rfl, by decide +kernel, rfl, by decide +kernel, by decide +kernel⟩
theorem ok_ask_holds (D : IsDef K mg "ask_holds" s_ask_holds) (T : Txt K mg C) (c_has_crossing : Cal P w K mg base "has_crossing" 1 ["course", "c"] (spHasCrossing C)) (c_shuts_at : Cal P w K mg base "shuts_at" 4 ["course", "c"] (spShutsAt C))
    (c_hold_minutes : Cal P w K mg base "hold_minutes" 1 ["shuts", "gap", "most"] spHold) : Cal P w K mg base "ask_holds" 5 ["course", "c", "most"] (spAsk2 C .holds) := by
  refine cal_mk D sc_ask_holds (fun _ _ _ _ _ _ => us3 (fun _ _ _ => rfl)) (fun vs H Q E h => ?_) (fun f cdv A outer s H vs Q E hr h => ?_)
  · obtain ⟨p, L, a, c, m, rfl, _⟩ := h
    rfl
  · obtain ⟨p, L, a, c, m, rfl, hC, k⟩ := h
    refine ⟨_, (pss_cons (ps_if (pt_not (pt_val (pe_own c_has_crossing (hr.mono (by decide)) (pa_cons (pv 0) (pa_cons (pv 1) pa_nil)))))
    (pss_one (ps_ret (pe_lst (pa_cons (pe_gl T.g_NO_SUCH) pa_nil))))
    pss_nil)
    (pss_cons (ps_if (pt_not (pt_chain op_le op_le pe_int (pv 2) (pe_gl T.g_GREATEST_MOST)))
    (pss_one (ps_ret (pe_lst (pa_cons (pe_gl T.g_WRONG) pa_nil))))
    pss_nil)
    (pss_cons (ps_set (i := 3) sc_ask_holds.nd rfl (by first | exact Or.inl rfl | exact Or.inr rfl) (pe_own c_hold_minutes (hr.mono (by decide)) (pa_cons (pe_own c_shuts_at (hr.mono (by decide)) (pa_cons (pv 0) (pa_cons (pv 1) pa_nil))) (pa_cons (pe_fld (pv 0) rfl) (pa_cons (pv 2) pa_nil)))))
    (pss_one (ps_ret (pe_op op_cat (pe_lst (pa_cons (pe_callB call_len_seq (by rfl) T.b_len bt_len (pa_cons (pv 3) pa_nil)) pa_nil)) (pv 3))))))), ?_⟩
    show tSeq _ _ _ [some (.ref p), some (.int c), some (.int m), none] H
    walk_at "rd"
    refine ⟨p, L, a, c, rfl, hC, ?_⟩
    walk_at "rd"
    by_cases hc : c < a.spans.length
    · rw [if_neg (by simpa using hc)]
      have no : (m < 1 ∨ 120 < m) → ∀ (q : Addr) (H1 : Hp), New H q (.lst [V.int (-22)]) H1 → Q (.ref q) H1 := fun z q H1 m1 => k.one (Same.refl _) m1 (by
        have z' : m = 0 ∨ 120 < m := by omega
        simp [ansV, Kh343.doing, Nat.not_le.mpr hc, z', Kh343.say])
      by_cases hm1 : 1 ≤ m
      · rw [if_pos (by omega)]
        walk_at "rd"
        by_cases hm2 : m ≤ 120
        · rw [if_neg (by omega)]
          refine ⟨p, L, a, c, rfl, hC, hc, fun H2 p2 s2 n2 hP => ?_⟩
          obtain ⟨dx, lc, lr, cs, rs, hL⟩ := hC
          have h1 := (hL.same s2).obj
          have h3 := T.cl
          have h4 := T.nG
          walk_at "rd*"
          obtain ⟨hl, hx⟩ := shuts_120 (c := c) hL.ok.day2
          refine ⟨p2, a.need, m, _, rfl, hP, hm1, hl, hx, fun H3 p3 s3 n3 h3 => ?_⟩
          have hll := holdL_len (g := a.need) hm1 _ hx
          walk_at "rd"
          refine ⟨_, .inl (SqL.of h3), (by show 1 ≤ sizeLine; decide), fun p4 H4 m4 => ⟨_, m4.at_, _, m4.same _ _ h3, ?_, fun p5 H5 m5 => ?_⟩⟩
          · rw [List.length_map, sizeLine_eq]
            simp only [List.length_cons, List.length_nil]
            omega
          · have s4 := (s2.trans s3).trans m4.same
            refine k _ _ (s4.trans m5.same) (s4.free m5.free) ?_
            rw [m5.at_, List.length_map, ← holds_holdL hm1]
            have z : ¬ (m < 1 ∨ 120 < m) := by omega
            have ek : Kh343.doing (some a) (.holds c m) = (some a, ⟨(Kh343.holds a c m).length, Kh343.holds a c m⟩) := by simp only [Kh343.doing, if_neg (Nat.not_le.mpr hc), if_neg z]
            simp [ansV, ek]
        · rw [if_pos (by omega)]
          exact ⟨(by show 1 ≤ sizeLine; decide), no (by omega)⟩
      · rw [if_neg (by omega)]
        walk_at "rd"
        exact ⟨(by show 1 ≤ sizeLine; decide), no (by omega)⟩
    · rw [if_pos (by simpa using hc)]
      refine ⟨(by show 1 ≤ sizeLine; decide), fun q H1 m1 => k.one (Same.refl _) m1 ?_⟩
      simp [ansV, Kh343.doing, Nat.not_lt.mp hc, Kh343.say]
abbrev s_ask_least : Stmt := top 29
theorem sc_ask_least : FnScope ["course", "c", "n"] ["course", "c", "n"] (defScope s_ask_least) := ⟨rfl, rfl, rfl, by decide +kernel, rfl, by decide +kernel, by decide +kernel⟩
theorem ok_ask_least (D : IsDef K mg "ask_least" s_ask_least) (T : Txt K mg C) (c_has_crossing : Cal P w K mg base "has_crossing" 1 ["course", "c"] (spHasCrossing C)) (c_shuts_at : Cal P w K mg base "shuts_at" 4 ["course", "c"] (spShutsAt C))
    (c_least_most : Cal P w K mg base "least_most" 2 ["shuts", "gap", "n"] spLeastMost) : Cal P w K mg base "ask_least" 5 ["course", "c", "n"] (spAsk2 C .least) := by
  refine cal_mk D sc_ask_least (fun _ _ _ _ _ _ => us3 (fun _ _ _ => rfl)) (fun vs H Q E h => ?_) (fun f cdv A outer s H vs Q E hr h => ?_)
  · obtain ⟨p, L, a, c, m, rfl, _⟩ := h
    rfl
  · obtain ⟨p, L, a, c, n, rfl, hC, k⟩ := h
    refine ⟨_, (pss_cons (ps_if (pt_not (pt_val (pe_own c_has_crossing (hr.mono (by decide)) (pa_cons (pv 0) (pa_cons (pv 1) pa_nil)))))
    (pss_one (ps_ret (pe_lst (pa_cons (pe_gl T.g_NO_SUCH) pa_nil))))
    pss_nil)
    (pss_one (ps_ret (pe_lst (pa_cons (pe_own c_least_most (hr.mono (by decide)) (pa_cons (pe_own c_shuts_at (hr.mono (by decide)) (pa_cons (pv 0) (pa_cons (pv 1) pa_nil))) (pa_cons (pe_fld (pv 0) rfl) (pa_cons (pv 2) pa_nil)))) pa_nil))))), ?_⟩
    show tSeq _ _ _ [some (.ref p), some (.int c), some (.int n)] H
    walk_at "rd"
    refine ⟨p, L, a, c, rfl, hC, ?_⟩
    walk_at "rd"
    by_cases hc : c < a.spans.length
    · rw [if_neg (by simpa using hc)]
      refine ⟨p, L, a, c, rfl, hC, hc, fun H2 p2 s2 n2 hP => ?_⟩
      obtain ⟨dx, lc, lr, cs, rs, hL⟩ := hC
      have h1 := (hL.same s2).obj
      have h3 := T.cl
      have h4 := T.nG
      walk_at "rd*"
      refine ⟨p2, a, c, n, rfl, hP, hL.ok, fun H3 s3 => ?_⟩
      walk_at "rd"
      refine ⟨(by show 1 ≤ sizeLine; decide), fun q H4 m4 => k.one (s2.trans s3) m4 ?_⟩
      simp [ansV, Kh343.doing, Nat.not_le.mpr hc, Kh343.say]
    · rw [if_pos (by simpa using hc)]
      refine ⟨(by show 1 ≤ sizeLine; decide), fun q H1 m1 => k.one (Same.refl _) m1 ?_⟩
      simp [ansV, Kh343.doing, Nat.not_lt.mp hc, Kh343.say]
end

section
variable {P : Program} {w : World} {K : PySem.W.Frag} {mg : Str → Option Value} {base : Heap} {C N : Addr}
/-! ### the network -/
def WaitAt (a : Abs) (H : Hp) (q : Addr) (c : Nat) : Prop := H q = some (.lst ((waitsL a c).map fun (n : Nat) => V.int n))
def StepAt (H : Hp) (q : Addr) (x : Stp) : Prop := H q = some (.tup [.int x.1, .int x.2.1, .int x.2.2.long, .int (crV x.2.2.crossing)])
structure NetAt (N : Addr) (H : Hp) (x : Addr) (a : Abs) : Prop where
  ex : ∃ (dx wl sl : Addr) (ws ss : List Addr), H x = some (.ins N dx (nfs wl sl)) ∧ H wl = some (.lst (ws.map V.ref)) ∧ Paired (WaitAt a H) ws (List.range a.spans.length) ∧ H sl = some (.lst (ss.map V.ref)) ∧ Paired (StepAt H) ss (stepsOf a)
theorem NetAt.same {H H' : Hp} {x : Addr} {a : Abs} (s : Same H H') (h : NetAt N H x a) : NetAt N H' x a := by
  obtain ⟨dx, wl, sl, ws, ss, h1, h2, h3, h4, h5⟩ := h.ex
  exact ⟨dx, wl, sl, ws, ss, s _ _ h1, s _ _ h2, Paired.imp' (fun q c e => s _ _ e) h3, s _ _ h4, Paired.imp' (fun q c e => s _ _ e) h5⟩
/-- what the text's top holds of the class -/
structure NTxt (K : PySem.W.Frag) (mg : Str → Option Value) (N : Addr) : Prop where
  cl : Cls K N
  nW : NoAttr K N "waits"
  nS : NoAttr K N "steps"
  mgN : mg "Network" = some (.ref N)
abbrev s_crossing_minutes : Stmt := top 32
theorem sc_crossing_minutes : FnScope ["cars", "minute"] ["cars"] (defScope s_crossing_minutes) := ⟨rfl, rfl, rfl, by decide +kernel, rfl, by decide +kernel, by decide +kernel⟩
def spCM : Sp := fun vs H Q _ => ∃ (q : Addr) (a : Abs) (c : Nat), vs = [.ref q] ∧ H q = some (.lst ((marks a.day (Kh343.open_ a (Kh343.spansOf a c))).map V.bl)) ∧ a.day ≤ 120 ∧
  ∀ (H' : Hp) (p : Addr), Same H H' → H p = none → WaitAt a H' p c → Q (.ref p) H'
theorem ok_crossing_minutes (D : IsDef K mg "crossing_minutes" s_crossing_minutes) (T : Txt K mg C) (c_first_car_minute : Cal P w K mg base "first_car_minute" 1 ["cars", "t"] (spFirst K)) : Cal P w K mg base "crossing_minutes" 2 ["cars"] spCM := by
  refine cal_mk D sc_crossing_minutes (fun _ _ _ _ _ _ => us1 (fun _ => rfl)) (fun vs H Q E h => ?_) (fun f cdv A outer s H vs Q E hr h => ?_)
  · obtain ⟨q, a, c, rfl, _⟩ := h
    rfl
  · obtain ⟨q, a, c, rfl, hq, hd, k⟩ := h
    refine ⟨_, (pss_one (ps_ret (pe_lc rfl sc_crossing_minutes.nd (pi_range1 rfl T.b_range (pa_cons (pe_callB call_len_seq (by rfl) T.b_len bt_len (pa_cons (pv 0) pa_nil)) pa_nil)) (blkOk_by (own := [("minute", 1)]) (by show blkC ["cars", "minute"] (defScope s_crossing_minutes) _ _ = true; decide +kernel)) (fun _ _ _ _ _ => (pg_name (i := 1) sc_crossing_minutes.nd rfl (by first | exact Or.inl rfl | exact Or.inr rfl))) (fun _ _ _ _ _ => pts_nil) (fun _ _ _ _ _ => (pe_own c_first_car_minute (hr.mono (by decide)) (pa_cons (pv 0) (pa_cons (pv 1) pa_nil))))))), ?_⟩
    show tRet _ _ [some (.ref q), none] H
    walk_at "rn"
    have hSq : SqL K H q ((marks a.day (Kh343.open_ a (Kh343.spansOf a c))).map V.bl) := SqL.of hq
    refine ⟨_, .inl hSq, ?_⟩
    rw [List.length_map, marks_len]
    refine ⟨by omega, by omega, lcW_range (fun D i acc H' => acc = ((List.range i).map (Kh343.nextOf a c)).map fun (n : Nat) => V.int n) (fun D H' _ => rfl) ?_ ?_⟩
    · rintro D i acc H' nd hi s1 e1 rfl
      have hi : i < a.day := by omega
      walk_at "rn"
      refine ⟨rfl, ?_⟩
      walk_at "rn"
      refine ⟨q, a.day, i, _, rfl, s1 _ _ hq, fun m hm => LcEnd.put nd s1 e1 (Same.refl _) ?_ ?_⟩
      · rw [List.length_map, List.length_map, List.length_range, sizeLine_eq]
        omega
      · have e := (hm.next (c := c) (fun _ _ => rfl)).eq
        rw [List.range_succ]
        simp [e]
    · rintro D acc H' nd s1 e1 rfl
      refine k _ _ s1 nd ?_
      unfold WaitAt waitsL
      rw [e1]
      simp
abbrev s_crossed_in : Stmt := top 34
theorem sc_crossed_in : FnScope ["waits", "minute"] ["waits", "minute"] (defScope s_crossed_in) := ⟨rfl, rfl, rfl, by decide +kernel, rfl, by decide +kernel, by decide +kernel⟩
def spCrossed : Sp := fun vs H Q _ => ∃ (q : Addr) (a : Abs) (c m : Nat), vs = [.ref q, .int m] ∧ WaitAt a H q c ∧ Q (.int (Kh343.nextOf a c m)) H
theorem ok_crossed_in (D : IsDef K mg "crossed_in" s_crossed_in) (T : Txt K mg C) : Cal P w K mg base "crossed_in" 1 ["waits", "minute"] spCrossed := by
  refine cal_mk D sc_crossed_in (fun _ _ _ _ _ _ => us2 (fun _ _ => rfl)) (fun vs H Q E h => ?_) (fun f cdv A outer s H vs Q E hr h => ?_)
  · obtain ⟨q, a, c, m, rfl, _⟩ := h
    rfl
  · obtain ⟨q, a, c, m, rfl, hq, k⟩ := h
    refine ⟨_, (pss_one (ps_ret (pe_ifExp (pt_cmpR op_lt (pv 1) (pe_callB call_len_seq (by rfl) T.b_len bt_len (pa_cons (pv 0) pa_nil)) (nomark _)) (pe_ix ix_list (pv 0) (pv 1) (fun _ _ => rfl)) (pv 1)))), ?_⟩
    show tRet _ _ [some (.ref q), some (.int m)] H
    have hSq : SqL K H q ((waitsL a c).map fun (n : Nat) => V.int n) := SqL.of hq
    walk_at "rn"
    refine ⟨_, .inl hSq, ?_⟩
    have hl : (waitsL a c).length = a.day := by simp [waitsL]
    rw [List.length_map, hl]
    split
    · rename_i h
      exact ⟨_, hSq, _, at_map (waits_at (by omega)), k⟩
    · rename_i h
      rw [nextOf_open (.inl (by omega))] at k
      exact k
abbrev s_road_end : Stmt := top 33
theorem sc_road_end : FnScope ["network", "length", "over", "t", "half"] ["network", "length", "over", "t"] (defScope s_road_end) := ⟨rfl, rfl, rfl, by decide +kernel, rfl, by decide +kernel, by decide +kernel⟩
def spRoadEnd (N : Addr) : Sp := fun vs H Q _ => ∃ (x : Addr) (a : Abs) (r : Road) (t : Nat), vs = [.ref x, .int r.long, .int (crV r.crossing), .int t] ∧ NetAt N H x a ∧ AbsOk a ∧ r ∈ a.roads ∧ Q (.int (Kh343.along a r t)) H
theorem ok_road_end (D : IsDef K mg "road_end" s_road_end) (T : Txt K mg C) (NT : NTxt K mg N) (c_crossed_in : Cal P w K mg base "crossed_in" 1 ["waits", "minute"] spCrossed) : Cal P w K mg base "road_end" 2 ["network", "length", "over", "t"] (spRoadEnd N) := by
  refine cal_mk D sc_road_end (fun _ _ _ _ _ _ => us4 (fun _ _ _ _ => rfl)) (fun vs H Q E h => ?_) (fun f cdv A outer s H vs Q E hr h => ?_)
  · obtain ⟨x, a, r, t, rfl, _⟩ := h
    rfl
  · obtain ⟨x, a, r, t, rfl, hN, ok, hr', k⟩ := h
    refine ⟨_, (pss_cons (ps_if (pt_cmpR op_eq (pv 2) pe_int (nomark _))
    (pss_one (ps_ret (pe_op op_add (pv 3) (pv 1))))
    pss_nil)
    (pss_cons (ps_set (i := 4) sc_road_end.nd rfl (by first | exact Or.inl rfl | exact Or.inr rfl) (pe_op op_fdiv (pv 1) pe_int))
    (pss_one (ps_ret (pe_op op_sub (pe_op op_add (pe_own c_crossed_in (hr.mono (by decide)) (pa_cons (pe_ix ix_list (pe_fld (pv 0) rfl) (pe_op op_sub (pv 2) pe_int) (fun _ _ => rfl)) (pa_cons (pe_op op_add (pv 3) (pv 4)) pa_nil))) (pv 1)) (pv 4)))))), ?_⟩
    show tSeq _ _ _ [some (.ref x), some (.int r.long), some (.int (crV r.crossing)), some (.int t), none] H
    walk_at "rn"
    refine ⟨rfl, ?_⟩
    cases e : r.crossing with
    | none =>
      refine iteP rfl ?_
      have ea : Kh343.along a r t = t + r.long := by unfold Kh343.along; rw [e]
      rw [ea] at k
      exact k
    | some c =>
      have hc : c < a.spans.length := (ok.road r hr').2.2.2.2.2 c e
      have ea : Kh343.along a r t = Kh343.nextOf a c (t + r.long / 2) + (r.long - r.long / 2) := by unfold Kh343.along; rw [e]
      rw [ea] at k
      refine iteN (by show ¬ ((c : Int) + 1 = 0); omega) ?_
      obtain ⟨dx, wl, sl, ws, ss, h1, h2, h3, h4, h5⟩ := hN.ex
      have h6 := NT.cl
      have h7 := NT.nW
      have hS : SqL K H wl (ws.map V.ref) := SqL.of h2
      refine ⟨⟨by decide, by decide⟩, ?_⟩
      walk_at "rn*"
      obtain ⟨q, hq, hw⟩ := Paired.at' h3 (List.getElem?_range hc)
      refine ⟨_, hS, V.ref q, ?_, ?_⟩
      · show atI (ws.map V.ref) ((c : Int) + 1 - 1) = _
        rw [Int.add_sub_cancel]
        exact at_map hq
      · refine ⟨q, a, c, t + r.long / 2, ?_, hw, ?_⟩
        · simp
        · have e2 : ((Kh343.nextOf a c (t + r.long / 2) : Nat) : Int) + (r.long : Int) - (r.long : Int) / 2 = ((Kh343.nextOf a c (t + r.long / 2) + (r.long - r.long / 2) : Nat) : Int) := by omega
          refine ⟨_, rfl, ?_⟩
          rw [e2]
          exact k
end

theorem Paired.app' {α β : Type} {R : α → β → Prop} {l2 : List α} {m2 : List β} (h2 : Paired R l2 m2) : ∀ {l : List α} {m : List β}, Paired R l m → Paired R (l ++ l2) (m ++ m2)
  | _, _, .nil => h2
  | _, _, .cons r t => .cons r (Paired.app' h2 t)
theorem Paired.map_r {α β γ : Type} {R : α → β → Prop} {R' : α → γ → Prop} {f : β → γ} (h : ∀ a b, R a b → R' a (f b)) : ∀ {l : List α} {m : List β}, Paired R l m → Paired R' l (m.map f)
  | _, _, .nil => .nil
  | _, _, .cons r t => .cons (h _ _ r) (Paired.map_r h t)
section
variable {P : Program} {w : World} {K : PySem.W.Frag} {mg : Str → Option Value} {base : Heap} {C N : Addr}
abbrev s_netinit : Stmt := inClass (top 31) 0
theorem sc_netinit : FnScope ["self", "course", "c", "p", "q", "length", "over"] ["self", "course"] (defScope s_netinit) := ⟨rfl, rfl, rfl, by decide +kernel, rfl, by decide +kernel, by decide +kernel⟩
def spNet (C N : Addr) : Sp := fun vs H Q _ => ∃ (x p dx : Addr) (H0 : Hp) (L : List Addr) (a : Abs), vs = [.ref x, .ref p] ∧ Same H0 H ∧ H0 x = none ∧ CourseAt C H0 p L (some a) ∧ H x = some (.ins N dx []) ∧ ∀ H' : Hp, NetAt N H' x a → Same H0 H' → Q .non H'
theorem ok_netinit {f : Addr} {fd : FuncData} (F : Fun K "__init__" "Network.__init__" s_netinit f fd) (T : Txt K mg C) (NT : NTxt K mg N) (c_cars_at : Cal P w K mg base "cars_at" 3 ["course", "c"] (spCarsAt C))
    (c_crossing_minutes : Cal P w K mg base "crossing_minutes" 2 ["cars"] spCM) : FnOk P w K mg base CX0 4 f fd ["self", "course"] (spNet C N) := by
  refine F.ok sc_netinit (fun vs H Q E h => ?_) (fun cdv A outer s H vs Q E hr h => ?_)
  · obtain ⟨x, p, dx, H0, L, a, rfl, _⟩ := h
    rfl
  · obtain ⟨x, p, dx, H0, L, a, rfl, s0, nx, hC, hx, k⟩ := h
    refine ⟨_, (pss_cons (ps_fld (pv 0) (pe_lc rfl sc_netinit.nd (pi_range1 rfl T.b_range (pa_cons (pe_callB call_len_seq (by rfl) T.b_len bt_len (pa_cons (pe_fld (pv 1) rfl) pa_nil)) pa_nil)) (blkOk_by (own := [("c", 2)]) (by show blkC ["self", "course", "c", "p", "q", "length", "over"] (defScope s_netinit) _ _ = true; decide +kernel)) (fun _ _ _ _ _ => (pg_name (i := 2) sc_netinit.nd rfl (by first | exact Or.inl rfl | exact Or.inr rfl))) (fun _ _ _ _ _ => pts_nil) (fun _ _ _ _ _ => (pe_own c_crossing_minutes (hr.mono (by decide)) (pa_cons (pe_own c_cars_at (hr.mono (by decide)) (pa_cons (pv 1) (pa_cons (pv 2) pa_nil))) pa_nil)))) rfl)
    (pss_one (ps_fld (pv 0) (pe_op op_cat (pe_callTy call_list_of (by rfl) T.b_list bt_list (pa_cons (pe_fld (pv 1) rfl) pa_nil)) (pe_lc rfl sc_netinit.nd (pi_list (pe_fld (pv 1) rfl)) (blkOk_by (own := [("p", 3), ("q", 4), ("length", 5), ("over", 6)]) (by show blkC ["self", "course", "c", "p", "q", "length", "over"] (defScope s_netinit) _ _ = true; decide +kernel)) (fun _ _ _ _ _ => (pgK_tup (K := K) (n := 4) rfl rfl (pgs_cons (pg_name (i := 3) sc_netinit.nd rfl (by first | exact Or.inl rfl | exact Or.inr rfl)) (pgs_cons (pg_name (i := 4) sc_netinit.nd rfl (by first | exact Or.inl rfl | exact Or.inr rfl)) (pgs_cons (pg_name (i := 5) sc_netinit.nd rfl (by first | exact Or.inl rfl | exact Or.inr rfl)) (pgs_cons (pg_name (i := 6) sc_netinit.nd rfl (by first | exact Or.inl rfl | exact Or.inr rfl)) pgs_nil)))))) (fun _ _ _ _ _ => pts_nil) (fun _ _ _ _ _ => (pe_tup (pa_cons (pv 4) (pa_cons (pv 3) (pa_cons (pv 5) (pa_cons (pv 6) pa_nil)))))))) rfl))), ?_⟩
    show tSeq _ _ _ [some (.ref x), some (.ref p), none, none, none, none, none] H
    obtain ⟨dc, lc, lr, cs, rs, hL⟩ := hC
    have hLH := hL.same s0
    have h1 := hLH.obj
    have h2 : SqL K H lc (cs.map V.ref) := SqL.of hLH.hc
    have h3 := T.cl
    have h4 := T.nC
    have hlen := Paired.len' hL.sp
    have h6c := hL.ok.cross
    walk_at "rn*"
    refine ⟨_, .inl h2, ?_⟩
    rw [List.length_map, hlen]
    refine ⟨by omega, by omega, lcW_range (fun D i acc H' => ∃ ws : List Addr, acc = ws.map V.ref ∧ Paired (fun q c => q ≠ D ∧ WaitAt a H' q c) ws (List.range i)) (fun D H' _ => ⟨[], rfl, .nil⟩) ?_ ?_⟩
    · rintro D i acc H' nd hi s1 e1 ⟨ws, rfl, hw⟩
      have hi : i < a.spans.length := by omega
      walk_at "rn"
      refine ⟨rfl, ?_⟩
      walk_at "rn"
      refine ⟨p, L, a, i, rfl, ⟨dc, lc, lr, cs, rs, hL.same (s0.trans s1)⟩, hi, fun H3 q3 s3 n3 e3 => ?_⟩
      walk_at "rn"
      refine ⟨q3, a, i, rfl, e3, hL.ok.day2, fun H4 q4 s4 n4 hw4 => ?_⟩
      have s34 := s3.trans s4
      have hq4 : q4 ≠ D := fun z => by
        have := s3 _ _ e1
        rw [← z, n4] at this
        cases this
      have hwl := Paired.len' hw
      rw [List.length_range] at hwl
      refine LcEnd.put nd s1 e1 s34 ?_ ⟨ws ++ [q4], by simp, ?_⟩
      · rw [List.length_map, sizeLine_eq]
        omega
      · rw [List.range_succ]
        exact Paired.snoc ⟨hq4, upd_at hw4 hq4⟩ (Paired.imp' (fun q c z => ⟨z.1, upd_at (s34 _ _ z.2) z.1⟩) hw)
    · rintro D acc H2 nd s2 e2 ⟨ws, rfl, hw⟩
      have hx2 := s2 _ _ hx
      have g1 := NT.cl
      have g2 := NT.nW
      have g3 := NT.nS
      have g4 := T.nR
      walk_at "rn"
      refine ⟨_, _, _, hx2, g1, g2, (by show 0 < 1000; decide), ?_⟩
      have s02 : Same H0 (upd H2 x (.ins N dx [("waits", .ref D)])) := (s0.trans s2).own nx
      have neD : D ≠ x := ne_of e2 hx2 (by intro z; cases z)
      generalize hHb : upd H2 x (HO.ins N dx (putF ("waits" : Str) (V.ref D) [])) = Hb
      have sb : Same H0 Hb := hHb ▸ s02
      have bx : Hb x = some (.ins N dx [("waits", .ref D)]) := by rw [← hHb]; exact upd_same
      have bD : Hb D = some (.lst (ws.map V.ref)) := by rw [← hHb]; exact upd_at e2 neD
      have hw2 : Paired (fun q c => q ≠ D ∧ WaitAt a H2 q c) ws (List.range a.spans.length) := by simpa using hw
      have bw : Paired (WaitAt a Hb) ws (List.range a.spans.length) := Paired.imp' (fun q c z => by
        rw [← hHb]
        exact upd_at z.2 (ne_of z.2 hx2 (by intro z; cases z))) hw2
      have hLb := hL.same sb
      have b1 := hLb.obj
      have bS : SqL K Hb lr (rs.map V.ref) := SqL.of hLb.hr
      clear h1 h2 hx hLH
      walk_at "rn*"
      refine ⟨_, .inl bS, fun l nl => ?_⟩
      have m3 : New Hb l (.lst (rs.map V.ref)) (upd Hb l (.lst (rs.map V.ref))) := ⟨nl, rfl⟩
      generalize upd Hb l (.lst (rs.map V.ref)) = H3 at m3
      have hL3 := hLb.same m3.same
      have c1 := hL3.obj
      have cS : SqL K H3 lr (rs.map V.ref) := SqL.of hL3.hr
      clear b1
      walk_at "rn*"
      have hrl := Paired.len' hL.rd
      have hr12 := hL.ok.rlen
      refine ⟨⟨_, cS⟩, lcW_list (xs := rs.map V.ref) (fun D i acc H' => ∃ ts : List Addr, acc = ts.map V.ref ∧ Paired (StepAt H') ts ((a.roads.take i).map fun r => (r.b, r.a, r))) cS (fun D H' _ => ⟨[], rfl, .nil⟩) ?_ ?_⟩
      · rintro D2 i y acc H' nd hi s1 e1 ⟨ts, rfl, ht⟩
        obtain ⟨q, hq, rfl⟩ := map_at hi
        obtain ⟨r, hrr, hqr⟩ := Paired.at_l hL3.rd hq
        have hT : SqT K H' q [.int r.a, .int r.b, .int r.long, .int (crV r.crossing)] := SqT.of (s1 _ _ hqr)
        have htl := Paired.len' ht
        rw [List.length_map, List.length_take] at htl
        walk_at "rn"
        refine ⟨_, hT, rfl, ?_⟩
        walk_at "rn"
        refine ⟨rfl, ?_⟩
        walk_at "rn"
        refine ⟨(by show 4 ≤ sizeLine; decide), fun q4 H4 m4 => ?_⟩
        refine LcEnd.put nd s1 e1 m4.same ?_ ⟨ts ++ [q4], by simp, ?_⟩
        · rw [List.length_map, sizeLine_eq]
          omega
        · have e4 := m4.same _ _ e1
          rw [take_snoc hrr, List.map_append]
          have up : ∀ b x, StepAt H4 b x → StepAt (upd H4 D2 (.lst (ts.map V.ref ++ [.ref q4]))) b x := fun b x z => upd_at z (ne_of z e4 (by intro z; cases z))
          exact Paired.snoc (up q4 (r.b, r.a, r) m4.at_) (Paired.imp' (fun b x z => up b x (m4.same _ _ z)) ht)
      · rintro D2 acc H4 nd s4 e4 ⟨ts, rfl, ht⟩
        rw [List.length_map, hrl, List.take_length] at ht
        have htl := Paired.len' ht
        rw [List.length_map] at htl
        have x4 := s4 _ _ (m3.same _ _ bx)
        walk_at "rn"
        refine ⟨_, s4 _ _ m3.at_, _, e4, ?_, fun p5 H5 m5 => ?_⟩
        · rw [List.length_map, List.length_map, sizeLine_eq]
          omega
        · have s5 := (m3.same.trans s4).trans m5.same
          have x5 := s5 _ _ bx
          have d5 : ∀ (b : Addr) (l : List V), H5 b = some (.lst l) → b ≠ x := fun b l z => ne_of z x5 (by intro z; cases z)
          have t5 : ∀ (b : Addr) (l : List V), H5 b = some (.tup l) → b ≠ x := fun b l z => ne_of z x5 (by intro z; cases z)
          refine ⟨_, _, _, x5, g1, g3, (by show 1 < 1000; decide), ?_⟩
          refine k _ ⟨dx, D, p5, ws, rs ++ ts, upd_same, upd_at (s5 _ _ bD) (d5 _ _ (s5 _ _ bD)), ?_, ?_, ?_⟩ ((sb.trans s5).own nx)
          · exact Paired.imp' (fun q c z => upd_at (s5 _ _ z) (d5 _ _ (s5 _ _ z))) bw
          · rw [List.map_append]
            exact upd_at m5.at_ (d5 _ _ m5.at_)
          · have up : ∀ b x', StepAt H5 b x' → StepAt (upd H5 x (.ins N dx (putF ("steps" : Str) (V.ref p5) [("waits", .ref D)]))) b x' := fun b x' z => upd_at z (t5 _ _ z)
            refine Paired.app' (Paired.imp' (fun b x' z => up b x' (m5.same _ _ z)) ht) (Paired.imp' up ?_)
            have := Paired.map_r (f := fun r : Road => ((r.a, r.b, r) : Stp)) (R' := StepAt H5) (fun b r z => (s5 _ _ z : H5 b = _)) hLb.rd
            exact this
end

section
variable {P : Program} {w : World} {K : PySem.W.Frag} {mg : Str → Option Value} {base : Heap} {C N : Addr}
abbrev s_earliest_minutes : Stmt := top 35
theorem sc_earliest_minutes : FnScope ["network", "p", "t", "earliest", "settled", "here", "there", "length", "over", "minute"] ["network", "p", "t"] (defScope s_earliest_minutes) := ⟨rfl, rfl, rfl, by decide +kernel, rfl, by decide +kernel, by decide +kernel⟩
def spEarl (N : Addr) : Sp := fun vs H Q _ => ∃ (x : Addr) (a : Abs) (p t : Nat), vs = [.ref x, .int p, .int t] ∧ NetAt N H x a ∧ AbsOk a ∧ p < a.places ∧ ∀ (H' : Hp) (d : Addr), Same H H' → H d = none → DIs H' d (Kh343.earliest a p t) → Q (.ref d) H'
/-- within the loops -/
structure Ways (H : Hp) (d : Addr) (e : Vec) (H' : Hp) : Prop where
  sm : Same H H'
  di : DIs H' d e
theorem ok_earliest_minutes (D : IsDef K mg "earliest_minutes" s_earliest_minutes) (T : Txt K mg C) (NT : NTxt K mg N) (c_road_end : Cal P w K mg base "road_end" 2 ["network", "length", "over", "t"] (spRoadEnd N)) :
    Cal P w K mg base "earliest_minutes" 3 ["network", "p", "t"] (spEarl N) := by
  refine cal_mk D sc_earliest_minutes (fun _ _ _ _ _ _ => us3 (fun _ _ _ => rfl)) (fun vs H Q E h => ?_) (fun f cdv A outer s H vs Q E hr h => ?_)
  · obtain ⟨x, a, p, t, rfl, _⟩ := h
    rfl
  · obtain ⟨x, a, p, t, rfl, hN, ok, hp, k⟩ := h
    refine ⟨_, (pss_cons (ps_set (i := 3) sc_earliest_minutes.nd rfl (by first | exact Or.inl rfl | exact Or.inr rfl) (pe_disp (pps_cons (pv 1) (pv 2) pps_nil) rfl rfl (fun z => nomatch z) (by decide)))
    (pss_cons (ps_set (i := 4) sc_earliest_minutes.nd rfl (by first | exact Or.inl rfl | exact Or.inr rfl) pe_bl)
    (pss_cons (ps_while PassesOwn.never (pt_not (pt_val (pv 4)))
    (pss_cons (ps_set (i := 4) sc_earliest_minutes.nd rfl (by first | exact Or.inl rfl | exact Or.inr rfl) pe_bl)
      (pss_one (ps_for PassesOwn.never rfl (pi_list (pe_fld (pv 0) rfl)) (pg_tup (n := 4) rfl (pgs_cons (pg_name (i := 5) sc_earliest_minutes.nd rfl (by first | exact Or.inl rfl | exact Or.inr rfl)) (pgs_cons (pg_name (i := 6) sc_earliest_minutes.nd rfl (by first | exact Or.inl rfl | exact Or.inr rfl)) (pgs_cons (pg_name (i := 7) sc_earliest_minutes.nd rfl (by first | exact Or.inl rfl | exact Or.inr rfl)) (pgs_cons (pg_name (i := 8) sc_earliest_minutes.nd rfl (by first | exact Or.inl rfl | exact Or.inr rfl)) pgs_nil)))))
      (pss_one (ps_if (pt_cmp (pc_din (hu_of hr) (pv 5) (pv 3)))
        (pss_cons (ps_set (i := 9) sc_earliest_minutes.nd rfl (by first | exact Or.inl rfl | exact Or.inr rfl) (pe_own c_road_end (hr.mono (by decide)) (pa_cons (pv 0) (pa_cons (pv 7) (pa_cons (pv 8) (pa_cons (pe_dget (hu_of hr) (pv 3) (pv 5) (fun _ _ => rfl)) pa_nil))))))
          (pss_one (ps_if ((pw_or (pt_cmp (pc_dnotin (hu_of hr) (pv 6) (pv 3))) (pw_or1 (pt_cmpR op_lt (pv 9) (pe_dget (hu_of hr) (pv 3) (pv 6) (fun _ _ => rfl)) (nomark _))))).pt
          (pss_cons (ps_dput (hu_of hr) (pv 3) (pv 6) (pv 9) rfl)
            (pss_one (ps_set (i := 4) sc_earliest_minutes.nd rfl (by first | exact Or.inl rfl | exact Or.inr rfl) pe_bl)))
          pss_nil)))
        pss_nil))))))
    (pss_one (ps_ret (pv 3)))))), ?_⟩
    show tSeq _ _ _ [some (.ref x), some (.int p), some (.int t), none, none, none, none, none, none, none] H
    walk_at "rn"
    intro d nd
    have md : New H d (.dK []) (upd H d (.dK [])) := ⟨nd, rfl⟩
    refine ⟨upd_same, [(Sum.inl (p : Int), V.int t)], rfl, (by show 1 ≤ 15; decide), ?_⟩
    rw [upd_upd]
    have s0 : Same H (upd H d (.dK (mergeK [] [(Sum.inl (p : Int), V.int t)]))) := (Same.refl H).own nd
    have d0 : DIs (upd H d (.dK (mergeK [] [(Sum.inl (p : Int), V.int t)]))) d (vec0 a.places p t) := dis_one hp upd_same
    walk_at "rn"
    refine whileW (fun n σ H' => ∃ (b : Bool) (e : Vec) (j : Nat) (v5 v6 v7 v8 v9 : Option V), σ = [some (.ref x), some (.int p), some (.int t), some (.ref d), some (.bl b), v5, v6, v7, v8, v9] ∧ Ways H d e H' ∧ Going a p t j e b ∧ n = turns a j b)
      ⟨_, false, _, 0, _, _, _, _, _, rfl, ⟨s0, d0⟩, going_zero hp, rfl⟩ ?_
    rintro n σ H1 ⟨b, e0, j, v5, v6, v7, v8, v9, rfl, ⟨s1, d1⟩, hg, rfl⟩
    walk_at "rn"
    cases b with
    | true =>
      refine iteN (by simp) ?_
      have := hg.done hp ok.roads
      rw [← this] at d1
      exact k _ _ s1 nd d1
    | false =>
      refine iteP rfl ?_
      refine ⟨_, fun _ _ h => h, ?_⟩
      have hN1 := hN.same s1
      obtain ⟨dx, wl, sl, ws, ss, h1, h2, h3, h4, h5⟩ := hN.ex
      have i1 := s1 _ _ h1
      have i2 := NT.cl
      have i3 := NT.nS
      walk_at "rn*"
      have hSs : ∀ H' : Hp, Same H H' → SqL K H' sl (ss.map V.ref) := fun H' z => SqL.of (z _ _ h4)
      have hsl := Paired.len' h5
      refine ⟨⟨_, hSs _ s1⟩, forW_list (xs := ss.map V.ref) (fun i σ H' => ∃ (b : Bool) (e : Vec) (v5 v6 v7 v8 v9 : Option V), σ = [some (.ref x), some (.int p), some (.int t), some (.ref d), some (.bl b), v5, v6, v7, v8, v9] ∧ Ways H d e H' ∧ Swept a p t i e0 e b)
        ⟨_, _, _, _, _, _, _, rfl, ⟨s1, d1⟩, swept_zero hg.len hg.sound⟩ (fun i σ H' _ ⟨_, _, _, _, _, _, _, _, z, _⟩ => hSs _ z.sm) ?_ ?_⟩
      · rintro i y σ H2 hi ⟨b, e, v5, v6, v7, v8, v9, rfl, ⟨s2, d2⟩, hs⟩
        obtain ⟨q, hq, rfl⟩ := map_at hi
        obtain ⟨⟨v, u, r⟩, hst, hqx⟩ := Paired.at_l h5 hq
        have hT : SqT K H2 q [.int v, .int u, .int r.long, .int (crV r.crossing)] := SqT.of (s2 _ _ hqx)
        have hmem := mem_steps.mp (List.mem_of_getElem? hst)
        have hu : u < e.length := by
          rw [hs.len]
          have := ok.roads r hmem.1
          rcases hmem.2 with ⟨_, z⟩ | ⟨_, z⟩
          · have z : r.b = u := z
            omega
          · have z : r.a = u := z
            omega
        have hpl := ok.place
        have hel : e.length ≤ 1000 := by rw [hs.len]; omega
        walk_at "rn"
        refine ⟨_, hT, rfl, ?_⟩
        walk_at "rn"
        refine ⟨_, d2.get v, ?_⟩
        cases ev : at_ e v with
        | none =>
          refine iteN (by simp) ?_
          exact ⟨_, ⟨s2, d2⟩, hs.keep hst fun x' z => by rw [ev] at z; cases z⟩
        | some xv =>
          refine iteP (by simp) ?_
          have gv := d2.get v
          rw [ev] at gv
          refine ⟨_, gv, x, a, r, xv, rfl, hN.same s2, ok, hmem.1, ?_⟩
          walk_at "rn"
          refine ⟨_, d2.get u, ?_⟩
          have put : (at_ e u = none ∨ ∃ y, at_ e u = some y ∧ Kh343.along a r xv < y) → ∃ H4, DPut H2 d (.int u) (.int (Kh343.along a r xv)) H4 ∧ ∃ e : Vec, Ways H d e H4 ∧ Swept a p t (i + 1) e0 e false := fun hb => by
            obtain ⟨H4, hput, hd4, o, eo⟩ := d2.put (x := Kh343.along a r xv) hu hel
            refine ⟨H4, hput, _, ⟨?_, hd4⟩, hs.better ok.roads hst ev hb⟩
            rw [eo]
            exact s2.own nd
          cases eu : at_ e u with
          | none =>
            refine iteP (by simp) ?_
            exact put (.inl eu)
          | some xu =>
            refine iteN (by simp) ?_
            have gu := d2.get u
            rw [eu] at gu
            refine ⟨_, gu, ?_⟩
            walk_at "rn"
            by_cases hlt : Kh343.along a r xv < xu
            · refine iteP (by omega) ?_
              exact put (.inr ⟨xu, eu, hlt⟩)
            · refine iteN (by omega) ?_
              refine ⟨_, ⟨s2, d2⟩, hs.keep hst fun x' z => ?_⟩
              rw [ev] at z
              cases z
              rw [eu]
              intro y hy
              cases hy
              exact ⟨_, rfl, by omega⟩
      · rintro σ H2 ⟨b, e, v5, v6, v7, v8, v9, rfl, ⟨s2, d2⟩, hs⟩
        rw [List.length_map, hsl] at hs
        obtain ⟨j', hg', hlt⟩ := hg.next hp ok.roads hs
        exact ⟨_, hlt, b, e, j', v5, v6, v7, v8, v9, rfl, ⟨s2, d2⟩, hg', rfl⟩
end

section
variable {P : Program} {w : World} {K : PySem.W.Frag} {mg : Str → Option Value} {base : Heap} {C N : Addr}
def wayRef (a : Abs) (p q t : Nat) : Int := if a.places ≤ p ∨ a.places ≤ q then -2 else if a.day ≤ t then -22 else 0
theorem wayRef_cases (a : Abs) (p q t : Nat) : (wayRef a p q t < 0 ∧ (((a.places ≤ p ∨ a.places ≤ q) ∧ wayRef a p q t = -2) ∨ (¬ (a.places ≤ p ∨ a.places ≤ q) ∧ a.day ≤ t ∧ wayRef a p q t = -22))) ∨ (¬ wayRef a p q t < 0 ∧ p < a.places ∧ q < a.places ∧ t < a.day) := by
  unfold wayRef
  split
  · rename_i h
    exact .inl ⟨by omega, .inl ⟨h, rfl⟩⟩
  · rename_i h
    split
    · rename_i h2
      exact .inl ⟨by omega, .inr ⟨h, h2, rfl⟩⟩
    · exact .inr ⟨by omega, by omega, by omega, by omega⟩
def spWayRef (C : Addr) : Sp := fun vs H Q _ => ∃ (o : Addr) (L : List Addr) (a : Abs) (p q t : Nat), vs = [.ref o, .int p, .int q, .int t] ∧ CourseAt C H o L (some a) ∧ Q (.int (wayRef a p q t)) H
abbrev s_way_refusal : Stmt := top 37
theorem sc_way_refusal : FnScope ["course", "p", "q", "t"] ["course", "p", "q", "t"] (defScope s_way_refusal) := ⟨rfl, rfl, rfl, by decide +kernel, rfl, by decide +kernel, by decide +kernel⟩
theorem ok_way_refusal (D : IsDef K mg "way_refusal" s_way_refusal) (T : Txt K mg C) (c_has_place : Cal P w K mg base "has_place" 1 ["course", "p"] (spHasPlace C)) : Cal P w K mg base "way_refusal" 2 ["course", "p", "q", "t"] (spWayRef C) := by
  refine cal_mk D sc_way_refusal (fun _ _ _ _ _ _ => us4 (fun _ _ _ _ => rfl)) (fun vs H Q E h => ?_) (fun f cdv A outer s H vs Q E hr h => ?_)
  · obtain ⟨o, L, a, p, q, t, rfl, _⟩ := h
    rfl
  · obtain ⟨o, L, a, p, q, t, rfl, hC, k⟩ := h
    refine ⟨_, (pss_cons (ps_if ((pw_or (pt_not (pt_val (pe_own c_has_place (hr.mono (by decide)) (pa_cons (pv 0) (pa_cons (pv 1) pa_nil))))) (pw_or1 (pt_not (pt_val (pe_own c_has_place (hr.mono (by decide)) (pa_cons (pv 0) (pa_cons (pv 2) pa_nil)))))))).pt
    (pss_one (ps_ret (pe_gl T.g_NO_SUCH)))
    pss_nil)
    (pss_cons (ps_if (pt_cmpR op_ge (pv 3) (pe_fld (pv 0) rfl) (nomark _))
    (pss_one (ps_ret (pe_gl T.g_WRONG)))
    pss_nil)
    (pss_one (ps_ret pe_int)))), ?_⟩
    show tSeq _ _ _ [some (.ref o), some (.int p), some (.int q), some (.int t)] H
    have hC' := hC
    obtain ⟨dx, lc, lr, cs, rs, hL⟩ := hC'
    have h1 := hL.obj
    have h3 := T.cl
    have h4 := T.nM
    walk_at "rd"
    refine ⟨o, L, a, p, rfl, hC, ?_⟩
    walk_at "rd"
    unfold wayRef at k
    by_cases hp : p < a.places
    · refine iteN (by simpa using hp) ?_
      refine ⟨o, L, a, q, rfl, hC, ?_⟩
      walk_at "rd"
      by_cases hq : q < a.places
      · refine iteN (by simpa using hq) ?_
        rw [if_neg (by omega)] at k
        walk_at "rd*"
        split
        · rw [if_pos (by omega)] at k
          exact k
        · rw [if_neg (by omega)] at k
          exact k
      · refine iteP (by simpa using hq) ?_
        rw [if_pos (by omega)] at k
        exact k
    · refine iteP (by simpa using hp) ?_
      rw [if_pos (by omega)] at k
      exact k
def spAsk3 (C : Addr) (call : Nat → Nat → Nat → Kh343.Call) : Sp := fun vs H Q _ => ∃ (o : Addr) (L : List Addr) (a : Abs) (x y z : Nat), vs = [.ref o, .int x, .int y, .int z] ∧ CourseAt C H o L (some a) ∧ Told H Q (ansV (some a) (call x y z))
theorem made_at {H : Hp} {x dx : Addr} (nx : H x = none) (nd : H dx = none) (ne : dx ≠ x) : Same H (upd (upd H dx (.own x)) x (.ins N dx [])) :=
  (Same.new nd).trans (Same.new (by rw [upd_ne ne.symm]; exact nx))
theorem arrive_at (a : Abs) (p q t : Nat) : at_ (Kh343.earliest a p t) q = Kh343.arrive a p q t := rfl
abbrev s_ask_arrive : Stmt := top 38
theorem sc_ask_arrive : FnScope ["course", "p", "q", "t", "refusal"] ["course", "p", "q", "t"] (defScope s_ask_arrive) := ⟨rfl, rfl, rfl, by decide +kernel, rfl, by decide +kernel, by decide +kernel⟩
theorem ok_ask_arrive {fN : Addr} {fdN : FuncData} (D : IsDef K mg "ask_arrive" s_ask_arrive) (T : Txt K mg C) (NT : NTxt K mg N) (NM : Mk K N fN) (NG : FnOk P w K mg base CX0 4 fN fdN ["self", "course"] (spNet C N)) (NB : Binds K fdN ["self", "course"] [])
    (c_way_refusal : Cal P w K mg base "way_refusal" 2 ["course", "p", "q", "t"] (spWayRef C)) (c_earliest_minutes : Cal P w K mg base "earliest_minutes" 3 ["network", "p", "t"] (spEarl N)) : Cal P w K mg base "ask_arrive" 6 ["course", "p", "q", "t"] (spAsk3 C .arrive) := by
  refine cal_mk D sc_ask_arrive (fun _ _ _ _ _ _ => us4 (fun _ _ _ _ => rfl)) (fun vs H Q E h => ?_) (fun f cdv A outer s H vs Q E hr h => ?_)
  · obtain ⟨o, L, a, p, q, t, rfl, _⟩ := h
    rfl
  · obtain ⟨o, L, a, p, q, t, rfl, hC, k⟩ := h
    refine ⟨_, (pss_cons (ps_set (i := 4) sc_ask_arrive.nd rfl (by first | exact Or.inl rfl | exact Or.inr rfl) (pe_own c_way_refusal (hr.mono (by decide)) (pa_cons (pv 0) (pa_cons (pv 1) (pa_cons (pv 2) (pa_cons (pv 3) pa_nil))))))
    (pss_cons (ps_if (pt_cmpR op_lt (pv 4) pe_int (nomark _))
    (pss_one (ps_ret (pe_lst (pa_cons (pv 4) pa_nil))))
    pss_nil)
    (pss_one (ps_ret (pe_lst (pa_cons (pe_dget2 (hu_of hr) (pe_own c_earliest_minutes (hr.mono (by decide)) (pa_cons (pe_make NM NG (hr.mono (by decide)) rfl NT.mgN NB .nil pass0 (pa_cons (pv 0) pa_nil)) (pa_cons (pv 1) (pa_cons (pv 3) pa_nil)))) (pv 2) (pe_gl T.g_NO_WAY) ⟨rfl, rfl, rfl, rfl⟩) pa_nil)))))), ?_⟩
    show tSeq _ _ _ [some (.ref o), some (.int p), some (.int q), some (.int t), none] H
    walk_at "rn"
    refine ⟨o, L, a, p, q, t, rfl, hC, ?_⟩
    walk_at "rn"
    rcases wayRef_cases a p q t with ⟨hneg, h⟩ | ⟨hneg, hp, hq, ht⟩
    · rw [if_pos hneg]
      refine ⟨(by show 1 ≤ sizeLine; decide), fun q' H1 m1 => k.one (Same.refl _) m1 ?_⟩
      rcases h with ⟨hc, e⟩ | ⟨hc, ht, e⟩
      · rw [e]
        simp [ansV, Kh343.doing, hc, Kh343.say]
      · rw [e]
        simp [ansV, Kh343.doing, hc, ht, Kh343.say]
    · rw [if_neg hneg]
      have hC' := hC
      obtain ⟨dx, lc, lr, cs, rs, hL⟩ := hC'
      intro x dn nx nd ne
      refine ⟨x, o, dn, H, L, a, rfl, made_at nx nd ne, nx, hC, upd_same, fun H2 hN s2 => ⟨rfl, ?_⟩⟩
      refine ⟨x, a, p, t, rfl, hN, hL.ok, hp, fun H3 d s3 n3 hd => ?_⟩
      walk_at "rn"
      refine ⟨hd.isD, _, hd.get q, ?_⟩
      refine ⟨(by show 1 ≤ sizeLine; decide), fun q' H4 m4 => k.one (s2.trans s3) m4 ?_⟩
      have hz : ¬ (a.places ≤ p ∨ a.places ≤ q) := by omega
      rw [arrive_at]
      cases e : Kh343.arrive a p q t with
      | none => simp [ansV, Kh343.doing, hz, Nat.not_le.mpr ht, Kh343.say, e]
      | some u => simp [ansV, Kh343.doing, hz, Nat.not_le.mpr ht, Kh343.say, e]
abbrev s_ask_all_places : Stmt := top 39
theorem sc_ask_all_places : FnScope ["course", "p", "t", "refusal", "earliest", "place"] ["course", "p", "t"] (defScope s_ask_all_places) := ⟨rfl, rfl, rfl, by decide +kernel, rfl, by decide +kernel, by decide +kernel⟩
theorem ok_ask_all_places {fN : Addr} {fdN : FuncData} (D : IsDef K mg "ask_all_places" s_ask_all_places) (T : Txt K mg C) (NT : NTxt K mg N) (NM : Mk K N fN) (NG : FnOk P w K mg base CX0 4 fN fdN ["self", "course"] (spNet C N)) (NB : Binds K fdN ["self", "course"] [])
    (c_way_refusal : Cal P w K mg base "way_refusal" 2 ["course", "p", "q", "t"] (spWayRef C)) (c_earliest_minutes : Cal P w K mg base "earliest_minutes" 3 ["network", "p", "t"] (spEarl N)) : Cal P w K mg base "ask_all_places" 6 ["course", "p", "t"] (spAsk2 C .all) := by
  refine cal_mk D sc_ask_all_places (fun _ _ _ _ _ _ => us3 (fun _ _ _ => rfl)) (fun vs H Q E h => ?_) (fun f cdv A outer s H vs Q E hr h => ?_)
  · obtain ⟨o, L, a, p, t, rfl, _⟩ := h
    rfl
  · obtain ⟨o, L, a, p, t, rfl, hC, k⟩ := h
    refine ⟨_, (pss_cons (ps_set (i := 3) sc_ask_all_places.nd rfl (by first | exact Or.inl rfl | exact Or.inr rfl) (pe_own c_way_refusal (hr.mono (by decide)) (pa_cons (pv 0) (pa_cons (pv 1) (pa_cons (pv 1) (pa_cons (pv 2) pa_nil))))))
    (pss_cons (ps_if (pt_cmpR op_lt (pv 3) pe_int (nomark _))
    (pss_one (ps_ret (pe_lst (pa_cons (pv 3) pa_nil))))
    pss_nil)
    (pss_cons (ps_set (i := 4) sc_ask_all_places.nd rfl (by first | exact Or.inl rfl | exact Or.inr rfl) (pe_own c_earliest_minutes (hr.mono (by decide)) (pa_cons (pe_make NM NG (hr.mono (by decide)) rfl NT.mgN NB .nil pass0 (pa_cons (pv 0) pa_nil)) (pa_cons (pv 1) (pa_cons (pv 2) pa_nil)))))
    (pss_one (ps_ret (pe_op op_cat (pe_lst (pa_cons (pe_fld (pv 0) rfl) pa_nil)) (pe_lc rfl sc_ask_all_places.nd (pi_range1 rfl T.b_range (pa_cons (pe_fld (pv 0) rfl) pa_nil)) (blkOk_by (own := [("place", 5)]) (by show blkC ["course", "p", "t", "refusal", "earliest", "place"] (defScope s_ask_all_places) _ _ = true; decide +kernel)) (fun _ _ _ _ _ => (pg_name (i := 5) sc_ask_all_places.nd rfl (by first | exact Or.inl rfl | exact Or.inr rfl))) (fun _ _ _ _ _ => pts_nil) (fun _ _ _ _ _ => (pe_op op_add (pe_dget2 (hu_of hr) (pv 4) (pv 5) (pe_un un_neg pe_int) ⟨rfl, rfl, rfl, rfl⟩) pe_int))))))))), ?_⟩
    show tSeq _ _ _ [some (.ref o), some (.int p), some (.int t), none, none, none] H
    walk_at "rn"
    refine ⟨o, L, a, p, p, t, rfl, hC, ?_⟩
    walk_at "rn"
    rcases wayRef_cases a p p t with ⟨hneg, h⟩ | ⟨hneg, hp, hq, ht⟩
    · rw [if_pos hneg]
      refine ⟨(by show 1 ≤ sizeLine; decide), fun q' H1 m1 => k.one (Same.refl _) m1 ?_⟩
      rcases h with ⟨hc, e⟩ | ⟨hc, ht, e⟩
      · rw [e]
        have hc : a.places ≤ p := by omega
        simp [ansV, Kh343.doing, hc, Kh343.say]
      · rw [e]
        have hc : ¬ a.places ≤ p := by omega
        simp [ansV, Kh343.doing, hc, ht, Kh343.say]
    · rw [if_neg hneg]
      have hC' := hC
      obtain ⟨dx, lc, lr, cs, rs, hL⟩ := hC'
      intro x dn nx nd ne
      refine ⟨x, o, dn, H, L, a, rfl, made_at nx nd ne, nx, hC, upd_same, fun H2 hN s2 => ⟨rfl, ?_⟩⟩
      refine ⟨x, a, p, t, rfl, hN, hL.ok, hp, fun H3 d s3 n3 hd => ?_⟩
      have el : (Kh343.earliest a p t).length = a.places := (earliest_is hp hL.ok.roads).len
      have s23 := s2.trans s3
      have hpl := hL.ok.place
      have o3 := (hL.same s23).obj
      have h3 := T.cl
      have h4 := T.nP
      walk_at "rn*"
      refine ⟨(by show 1 ≤ sizeLine; decide), fun p4 H4 m4 => ?_⟩
      have o4 := m4.same _ _ o3
      walk_at "rn*"
      refine ⟨by omega, by omega, lcW_range (fun D i acc H' => acc = ((Kh343.earliest a p t).take i).map fun x => V.int ((x.elim 0 (fun u => u + 1) : Nat) : Int)) (fun D H' _ => by simp) ?_ ?_⟩
      · rintro D i acc H' nd hi s1 e1 rfl
        have hi : i < a.places := by omega
        walk_at "rn"
        refine ⟨rfl, ?_⟩
        have hdi := hd.same (m4.same.trans s1)
        walk_at "rn"
        refine ⟨hdi.isD, _, hdi.get i, ?_⟩
        obtain ⟨y, hy⟩ : ∃ y, (Kh343.earliest a p t)[i]? = some y := ⟨_, List.getElem?_eq_getElem (by rw [el]; exact hi)⟩
        have hat : at_ (Kh343.earliest a p t) i = y := by
          unfold at_
          rw [List.getD_eq_getElem?_getD, hy]
          rfl
        rw [hat]
        have fin : ∀ z : Int, z = ((y.elim 0 (fun u => u + 1) : Nat) : Int) → LcEnd (fun D i acc H' => acc = ((Kh343.earliest a p t).take i).map fun x => V.int ((x.elim 0 (fun u => u + 1) : Nat) : Int)) H4 D i (V.int z) H' := fun z ez => by
          refine LcEnd.put nd s1 e1 (Same.refl _) ?_ ?_
          · rw [List.length_map, List.length_take, sizeLine_eq]
            omega
          · rw [take_snoc hy, ez]
            simp
        cases y with
        | none => exact ⟨-1, rfl, fin _ rfl⟩
        | some u => exact ⟨(u : Int), rfl, fin _ (by simp)⟩
      · rintro D acc H' nd s1 e1 rfl
        walk_at "rn"
        refine ⟨_, s1 _ _ m4.at_, _, e1, ?_, fun p5 H5 m5 => ?_⟩
        · rw [List.length_map, List.length_take, sizeLine_eq]
          simp only [List.length_cons, List.length_nil]
          omega
        · have s4 := (s23.trans m4.same).trans s1
          refine k _ _ (s4.trans m5.same) (s4.free m5.free) ?_
          rw [m5.at_]
          have hz : ¬ a.places ≤ p := by omega
          rw [List.take_of_length_le (by omega)]
          simp [ansV, Kh343.doing, hz, Nat.not_le.mpr ht]
end

section
variable {P : Program} {w : World} {K : PySem.W.Frag} {mg : Str → Option Value} {base : Heap} {C N : Addr}
abbrev s_ask_latest : Stmt := top 40
theorem sc_ask_latest : FnScope ["course", "p", "q", "t", "refusal", "network", "minute"] ["course", "p", "q", "t"] (defScope s_ask_latest) := ⟨rfl, rfl, rfl, by decide +kernel, rfl, by decide +kernel, by decide +kernel⟩
theorem ok_ask_latest {fN : Addr} {fdN : FuncData} (D : IsDef K mg "ask_latest" s_ask_latest) (T : Txt K mg C) (NT : NTxt K mg N) (NM : Mk K N fN) (NG : FnOk P w K mg base CX0 4 fN fdN ["self", "course"] (spNet C N)) (NB : Binds K fdN ["self", "course"] [])
    (c_way_refusal : Cal P w K mg base "way_refusal" 2 ["course", "p", "q", "t"] (spWayRef C)) (c_earliest_minutes : Cal P w K mg base "earliest_minutes" 3 ["network", "p", "t"] (spEarl N)) : Cal P w K mg base "ask_latest" 6 ["course", "p", "q", "t"] (spAsk3 C .latest) := by
  refine cal_mk D sc_ask_latest (fun _ _ _ _ _ _ => us4 (fun _ _ _ _ => rfl)) (fun vs H Q E h => ?_) (fun f cdv A outer s H vs Q E hr h => ?_)
  · obtain ⟨o, L, a, p, q, t, rfl, _⟩ := h
    rfl
  · obtain ⟨o, L, a, p, q, t, rfl, hC, k⟩ := h
    refine ⟨_, (pss_cons (ps_set (i := 4) sc_ask_latest.nd rfl (by first | exact Or.inl rfl | exact Or.inr rfl) (pe_own c_way_refusal (hr.mono (by decide)) (pa_cons (pv 0) (pa_cons (pv 1) (pa_cons (pv 2) (pa_cons (pv 3) pa_nil))))))
    (pss_cons (ps_if (pt_cmpR op_lt (pv 4) pe_int (nomark _))
    (pss_one (ps_ret (pe_lst (pa_cons (pv 4) pa_nil))))
    pss_nil)
    (pss_cons (ps_set (i := 5) sc_ask_latest.nd rfl (by first | exact Or.inl rfl | exact Or.inr rfl) (pe_make NM NG (hr.mono (by decide)) rfl NT.mgN NB .nil pass0 (pa_cons (pv 0) pa_nil)))
    (pss_cons (ps_for PassesOwn.never rfl (pi_range3 rfl T.b_range (pa_cons (pv 3) (pa_cons (pe_un un_neg pe_int) (pa_cons (pe_un un_neg pe_int) pa_nil)))) (pg_name (i := 6) sc_ask_latest.nd rfl (by first | exact Or.inl rfl | exact Or.inr rfl))
    (pss_one (ps_if (pt_cmpR op_le (pe_dget2 (hu_of hr) (pe_own c_earliest_minutes (hr.mono (by decide)) (pa_cons (pv 5) (pa_cons (pv 1) (pa_cons (pv 6) pa_nil)))) (pv 2) (pe_op op_add (pv 3) pe_int) ⟨rfl, rfl, rfl, rfl⟩) (pv 3) (nomark _))
      (pss_one (ps_ret (pe_lst (pa_cons (pv 6) pa_nil))))
      pss_nil)))
    (pss_one (ps_ret (pe_lst (pa_cons (pe_gl T.g_NO_WAY) pa_nil)))))))), ?_⟩
    show tSeq _ _ _ [some (.ref o), some (.int p), some (.int q), some (.int t), none, none, none] H
    walk_at "rn"
    refine ⟨o, L, a, p, q, t, rfl, hC, ?_⟩
    walk_at "rn"
    rcases wayRef_cases a p q t with ⟨hneg, h⟩ | ⟨hneg, hp, hq, ht⟩
    · rw [if_pos hneg]
      refine ⟨(by show 1 ≤ sizeLine; decide), fun q' H1 m1 => k.one (Same.refl _) m1 ?_⟩
      rcases h with ⟨hc, e⟩ | ⟨hc, ht, e⟩
      · rw [e]
        simp [ansV, Kh343.doing, hc, Kh343.say]
      · rw [e]
        simp [ansV, Kh343.doing, hc, ht, Kh343.say]
    · rw [if_neg hneg]
      have hC' := hC
      obtain ⟨dx, lc, lr, cs, rs, hL⟩ := hC'
      have hd2 := hL.ok.day2
      intro x dn nx nd ne
      refine ⟨x, o, dn, H, L, a, rfl, made_at nx nd ne, nx, hC, upd_same, fun H2 hN s2 => ⟨rfl, ?_⟩⟩
      walk_at "rn"
      refine ⟨t + 1, ?_, ?_⟩
      · have := RgC.neg (i := (t : Int)) (j := -1) (by omega) (by omega) (by decide) (by decide)
        rw [show ((t : Int) - -1).toNat = t + 1 by omega] at this
        exact this
      have hz : ¬ (a.places ≤ p ∨ a.places ≤ q) := by omega
      refine forW_down (fun i σ H' => ∃ v6, σ = [some (.ref o), some (.int p), some (.int q), some (.int t), some (.int (wayRef a p q t)), some (.ref x), v6] ∧ Same H2 H' ∧ ∀ m, t < m + i → m ≤ t → okBy a p q t m = false)
        ⟨_, rfl, Same.refl _, fun m h1 h2 => by omega⟩ ?_ ?_
      · rintro i σ H3 hi ⟨v6, rfl, s3, hno⟩
        walk_at "rn"
        have em : (t : Int) + (i : Int) * -1 = ((t - i : Nat) : Int) := by omega
        rw [em]
        refine ⟨x, a, p, t - i, rfl, hN.same s3, hL.ok, hp, fun H4 d s4 n4 hd => ?_⟩
        walk_at "rn"
        refine ⟨hd.isD, _, hd.get q, ?_⟩
        rw [arrive_at]
        have hok := okBy_iff (a := a) (p := p) (q := q) (b := t) (t := t - i)
        have go : okBy a p q t (t - i) = false → Same H2 H4 ∧ ∀ m, t < m + (i + 1) → m ≤ t → okBy a p q t m = false := fun hb =>
          ⟨s3.trans s4, fun m h1 h2 => by
            by_cases z : m = t - i
            · subst z; exact hb
            · exact hno m (by omega) h2⟩
        cases e : Kh343.arrive a p q (t - i) with
        | none =>
          refine ⟨_, rfl, iteN (by show ¬ ((t : Int) + 1 ≤ (t : Int)); omega) ?_⟩
          exact go (by cases z : okBy a p q t (t - i) with
            | false => rfl
            | true => obtain ⟨u, h1, _⟩ := hok.mp z; rw [e] at h1; cases h1)
        | some u =>
          refine ⟨(u : Int), rfl, ?_⟩
          by_cases hu : u ≤ t
          · refine iteP (by omega) ?_
            refine ⟨(by show 1 ≤ sizeLine; decide), fun q' H5 m5 => k.one ((s2.trans s3).trans s4) m5 ?_⟩
            have el := latest_some (a := a) (p := p) (q := q) (by_ := t) (u := t - i) (by omega) (hok.mpr ⟨u, e, hu⟩) fun m h1 h2 => hno m (by omega) h2
            simp [ansV, Kh343.doing, hz, Nat.not_le.mpr ht, Kh343.say, el]
          · refine iteN (by omega) ?_
            exact go (by cases z : okBy a p q t (t - i) with
              | false => rfl
              | true =>
                obtain ⟨u', h1, h2⟩ := hok.mp z
                rw [e] at h1
                cases h1
                omega)
      · rintro σ H3 ⟨v6, rfl, s3, hno⟩
        walk_at "rn"
        refine ⟨(by show 1 ≤ sizeLine; decide), fun q' H4 m4 => k.one (s2.trans s3) m4 ?_⟩
        have el := latest_none (a := a) (p := p) (q := q) (by_ := t) fun m h => hno m (by omega) h
        simp [ansV, Kh343.doing, hz, Nat.not_le.mpr ht, Kh343.say, el]
abbrev s_ask_worst : Stmt := top 41
theorem sc_ask_worst : FnScope ["course", "p", "q", "refusal", "network", "taken", "minute"] ["course", "p", "q"] (defScope s_ask_worst) := ⟨rfl, rfl, rfl, by decide +kernel, rfl, by decide +kernel, by decide +kernel⟩
theorem ok_ask_worst {fN : Addr} {fdN : FuncData} (D : IsDef K mg "ask_worst" s_ask_worst) (T : Txt K mg C) (NT : NTxt K mg N) (NM : Mk K N fN) (NG : FnOk P w K mg base CX0 4 fN fdN ["self", "course"] (spNet C N)) (NB : Binds K fdN ["self", "course"] [])
    (c_way_refusal : Cal P w K mg base "way_refusal" 2 ["course", "p", "q", "t"] (spWayRef C)) (c_earliest_minutes : Cal P w K mg base "earliest_minutes" 3 ["network", "p", "t"] (spEarl N)) : Cal P w K mg base "ask_worst" 6 ["course", "p", "q"] (spAsk2 C .worst) := by
  refine cal_mk D sc_ask_worst (fun _ _ _ _ _ _ => us3 (fun _ _ _ => rfl)) (fun vs H Q E h => ?_) (fun f cdv A outer s H vs Q E hr h => ?_)
  · obtain ⟨o, L, a, p, q, rfl, _⟩ := h
    rfl
  · obtain ⟨o, L, a, p, q, rfl, hC, k⟩ := h
    refine ⟨_, (pss_cons (ps_set (i := 3) sc_ask_worst.nd rfl (by first | exact Or.inl rfl | exact Or.inr rfl) (pe_own c_way_refusal (hr.mono (by decide)) (pa_cons (pv 0) (pa_cons (pv 1) (pa_cons (pv 2) (pa_cons pe_int pa_nil))))))
    (pss_cons (ps_if (pt_cmpR op_lt (pv 3) pe_int (nomark _))
    (pss_one (ps_ret (pe_lst (pa_cons (pv 3) pa_nil))))
    pss_nil)
    (pss_cons (ps_set (i := 4) sc_ask_worst.nd rfl (by first | exact Or.inl rfl | exact Or.inr rfl) (pe_make NM NG (hr.mono (by decide)) rfl NT.mgN NB .nil pass0 (pa_cons (pv 0) pa_nil)))
    (pss_cons (ps_if (pt_cmp (pc_dnotin (hu_of hr) (pv 2) (pe_own c_earliest_minutes (hr.mono (by decide)) (pa_cons (pv 4) (pa_cons (pv 1) (pa_cons pe_int pa_nil))))))
    (pss_one (ps_ret (pe_lst (pa_cons (pe_gl T.g_NO_WAY) pa_nil))))
    pss_nil)
    (pss_cons (ps_setLc (i := 5) rfl sc_ask_worst.nd rfl rfl (sw_true rfl rfl rfl rfl) (pi_range1 rfl T.b_range (pa_cons (pe_fld (pv 0) rfl) pa_nil)) (blkOk_by (own := [("minute", 6)]) (by show blkC ["course", "p", "q", "refusal", "network", "taken", "minute"] (defScope s_ask_worst) _ _ = true; decide +kernel)) (fun _ _ _ _ _ => (pg_name (i := 6) sc_ask_worst.nd rfl (by first | exact Or.inl rfl | exact Or.inr rfl))) (fun _ _ _ _ _ => pts_nil) (fun _ _ _ _ _ => (pe_op op_sub (pe_dget (hu_of hr) (pe_own c_earliest_minutes (hr.mono (by decide)) (pa_cons (pv 4) (pa_cons (pv 1) (pa_cons (pv 6) pa_nil)))) (pv 2) (fun _ _ => rfl)) (pv 6))))
    (pss_one (ps_ret (pe_lst (pa_cons (pe_bm PySem.F.plainAttrs_list PySem.F.slot_list_index PySem.F.type_list_index mt_index (pv 5) (pa_cons (pe_callB (cr_max rfl) (by rfl) T.b_max bt_max (pa_cons (pv 5) pa_nil)) pa_nil)) (pa_cons (pe_callB (cr_max rfl) (by rfl) T.b_max bt_max (pa_cons (pv 5) pa_nil)) pa_nil)))))))))), ?_⟩
    show tSeq _ _ _ [some (.ref o), some (.int p), some (.int q), none, none, none, none] H
    walk_at "rn"
    refine ⟨o, L, a, p, q, 0, rfl, hC, ?_⟩
    walk_at "rn"
    have hC' := hC
    obtain ⟨dx, lc, lr, cs, rs, hL⟩ := hC'
    have hd1 := hL.ok.day1
    have hd2 := hL.ok.day2
    rcases wayRef_cases a p q 0 with ⟨hneg, h⟩ | ⟨hneg, hp, hq, ht⟩
    · rw [if_pos hneg]
      refine ⟨(by show 1 ≤ sizeLine; decide), fun q' H1 m1 => k.one (Same.refl _) m1 ?_⟩
      rcases h with ⟨hc, e⟩ | ⟨hc, ht, e⟩
      · rw [e]
        simp [ansV, Kh343.doing, hc, Kh343.say]
      · omega
    · rw [if_neg hneg]
      have hz : ¬ (a.places ≤ p ∨ a.places ≤ q) := by omega
      intro x dn nx nd ne
      refine ⟨x, o, dn, H, L, a, rfl, made_at nx nd ne, nx, hC, upd_same, fun H2 hN s2 => ⟨rfl, ?_⟩⟩
      walk_at "rn"
      refine ⟨x, a, p, 0, rfl, hN, hL.ok, hp, fun H3 d s3 n3 hd => ?_⟩
      walk_at "rn"
      refine ⟨_, hd.get q, ?_⟩
      rw [arrive_at]
      have s23 := s2.trans s3
      cases e0 : Kh343.arrive a p q 0 with
      | none =>
        refine iteP (by simp) ?_
        refine ⟨(by show 1 ≤ sizeLine; decide), fun q' H4 m4 => k.one s23 m4 ?_⟩
        have ew := worst_none (a := a) (p := p) (q := q) fun t _ => by
          cases z : Kh343.arrive a p q t with
          | none => rfl
          | some u =>
            have := arrive_some (a := a) (p := p) (q := q) (t := t) 0 hp hL.ok.roads (by rw [z]; rfl)
            rw [e0] at this
            cases this
        simp [ansV, Kh343.doing, hz, Kh343.say, ew]
      | some u0 =>
        refine iteN (by simp) ?_
        have harr : ∀ t, ∃ u, Kh343.arrive a p q t = some u ∧ t ≤ u := fun t => by
          have := arrive_some (a := a) (p := p) (q := q) (t := 0) t hp hL.ok.roads (by rw [e0]; rfl)
          obtain ⟨u, hu⟩ := Option.isSome_iff_exists.mp this
          exact ⟨u, hu, arrive_ge hp hL.ok.roads hu⟩
        have hf : ∃ f : Nat → Nat, ∀ t, ∃ u, Kh343.arrive a p q t = some u ∧ t ≤ u ∧ f t = u - t := ⟨fun t => (Kh343.arrive a p q t).getD 0 - t, fun t => by
          obtain ⟨u, h1, h2⟩ := harr t
          exact ⟨u, h1, h2, by
            show (Kh343.arrive a p q t).getD 0 - t = u - t
            rw [h1]
            rfl⟩⟩
        obtain ⟨g, hg⟩ := hf
        have o3 := (hL.same s23).obj
        have h3 := T.cl
        have h4 := T.nM
        walk_at "rn*"
        refine ⟨by omega, by omega, lcW_range (fun D i acc H' => acc = ((List.range i).map g).map fun (n : Nat) => V.int n) (fun D H' _ => rfl) ?_ ?_⟩
        · rintro D i acc H' nd hi s1 e1 rfl
          have hi : i < a.day := by omega
          walk_at "rn"
          refine ⟨rfl, ?_⟩
          walk_at "rn"
          refine ⟨x, a, p, i, rfl, hN.same (s3.trans s1), hL.ok, hp, fun H4 d4 s4 n4 hd4 => ?_⟩
          walk_at "rn"
          obtain ⟨u, hu1, hu2, hu3⟩ := hg i
          have gq := hd4.get q
          rw [arrive_at, hu1] at gq
          refine ⟨_, gq, (u : Int), rfl, ?_⟩
          refine LcEnd.put nd s1 e1 s4 ?_ ?_
          · rw [List.length_map, List.length_map, List.length_range, sizeLine_eq]
            omega
          · rw [List.range_succ]
            simp [hu3]
            omega
        · rintro D acc H' nd s1 e1 rfl
          walk_at "rn"
          have eL : H' D = some (.lst (((List.range a.day).map fun t => (g t : Int)).map V.int)) := by
            rw [e1]
            simp [Function.comp_def]
          have hSq : SqL K H' D (((List.range a.day).map fun t => (g t : Int)).map V.int) := SqL.of eL
          have hne : 0 < ((List.range a.day).map fun t => (g t : Int)).length := by simp; omega
          refine ⟨.inl ⟨rfl, _, hSq⟩, _, hSq, hne, fun m hm hmax => ?_⟩
          obtain ⟨j, hj1, hj2⟩ := first_at hm
          have hjl : j < a.day := by
            have := (List.getElem?_eq_some_iff.mp hj1).1
            simpa using this
          have hval : ∀ t, t < a.day → ((List.range a.day).map fun t => (g t : Int))[t]? = some (g t : Int) := fun t h => by
            rw [List.getElem?_map, List.getElem?_range h]
            rfl
          have hgj : (g j : Int) = m := by
            rw [hval j hjl] at hj1
            exact Option.some.inj hj1
          have hW : WorstIs a p q g a.day j := by
            refine ⟨hjl, fun t h => ?_, fun t h => ?_⟩
            · have := hmax _ (List.mem_map.mpr ⟨t, List.mem_range.mpr h, rfl⟩)
              omega
            · have h1 := hmax _ (List.mem_map.mpr ⟨t, List.mem_range.mpr (by omega), rfl⟩)
              have h2 := hj2 t _ h (hval t (by omega))
              omega
          have ew := WorstIs.eq (fun t _ => let ⟨u, h1, _, h3⟩ := hg t; ⟨u, h1, h3⟩) hW
          refine ⟨_, hSq, rfl, ?_, j, V.int m, ?_, ?_, ?_, ?_⟩
          · rw [List.all_eq_true]
            intro v hv
            obtain ⟨z, _, rfl⟩ := List.mem_map.mp hv
            rfl
          · rw [List.getElem?_map, hj1]
            rfl
          · simp [eqV]
          · intro i z hi hz'
            rw [List.getElem?_map] at hz'
            cases e : ((List.range a.day).map fun t => (g t : Int))[i]? with
            | none => rw [e] at hz'; cases hz'
            | some y =>
              rw [e] at hz'
              have := hj2 i y hi e
              have hz' : V.int y = z := Option.some.inj hz'
              subst hz'
              simpa [eqV] using this
          · refine ⟨_, hSq, hne, fun m' hm' hmax' => ?_⟩
            have em : m' = m := Int.le_antisymm (hmax _ hm') (hmax' _ hm)
            subst em
            refine ⟨(by show 2 ≤ sizeLine; decide), fun q' H4 m4 => ?_⟩
            refine k _ _ ((s23.trans s1).trans m4.same) ((s23.trans s1).free m4.free) ?_
            rw [m4.at_]
            simp [ansV, Kh343.doing, hz, ew, hgj]
end

section
variable {P : Program} {w : World} {K : PySem.W.Frag} {mg : Str → Option Value} {base : Heap} {C N : Addr}
def MarkAt (a : Abs) (H : Hp) (q : Addr) (c : Nat) : Prop := H q = some (.lst ((marks a.day (Kh343.open_ a (Kh343.spansOf a c))).map V.bl))
abbrev s_closed_in : Stmt := top 62
theorem sc_closed_in : FnScope ["cars", "minute", "marks"] ["cars", "minute"] (defScope s_closed_in) := ⟨rfl, rfl, rfl, by decide +kernel, rfl, by decide +kernel, by decide +kernel⟩
def spClosed : Sp := fun vs H Q _ => ∃ (l : Addr) (ws : List Addr) (a : Abs) (t : Nat), vs = [.ref l, .int t] ∧ H l = some (.lst (ws.map V.ref)) ∧ Paired (MarkAt a H) ws (List.range a.spans.length) ∧ t < a.day ∧ a.spans.length ≤ 6 ∧ ∀ H' : Hp, Same H H' → Q (.int (Kh343.closedAt a t).length) H'
theorem ok_closed_in (D : IsDef K mg "closed_in" s_closed_in) (T : Txt K mg C) : Cal P w K mg base "closed_in" 1 ["cars", "minute"] spClosed := by
  refine cal_mk D sc_closed_in (fun _ _ _ _ _ _ => us2 (fun _ _ => rfl)) (fun vs H Q E h => ?_) (fun f cdv A outer s H vs Q E hr h => ?_)
  · obtain ⟨l, ws, a, t, rfl, _⟩ := h
    rfl
  · obtain ⟨l, ws, a, t, rfl, hl, hw, ht, h6, k⟩ := h
    refine ⟨_, (pss_one (ps_ret (pe_callB call_len_seq (by rfl) T.b_len bt_len (pa_cons (pe_lc rfl sc_closed_in.nd (pi_list (pv 0)) (blkOk_by (own := [("marks", 2)]) (by show blkC ["cars", "minute", "marks"] (defScope s_closed_in) _ _ = true; decide +kernel)) (fun _ _ _ _ _ => (pg_name (i := 2) sc_closed_in.nd rfl (by first | exact Or.inl rfl | exact Or.inr rfl))) (fun _ _ _ _ _ => (pts_one (pt_not (pt_val (pe_ix (ixK_list (K := K) rfl) (pv 2) (pv 1) (fun _ _ => rfl)))))) (fun _ _ _ _ _ => (pv 2))) pa_nil)))), ?_⟩
    show tRet _ _ [some (.ref l), some (.int t), none] H
    have hS : SqL K H l (ws.map V.ref) := SqL.of hl
    have hwl := Paired.len' hw
    rw [List.length_range] at hwl
    walk_at "rn"
    refine ⟨⟨_, hS⟩, lcW_list (xs := ws.map V.ref) (fun D i acc H' => acc.length = ((List.range i).filter fun c => !Kh343.open_ a (Kh343.spansOf a c) t).length) hS (fun D H' _ => rfl) ?_ ?_⟩
    · rintro D i y acc H' nd hi s1 e1 hacc
      obtain ⟨q, hq, rfl⟩ := map_at hi
      obtain ⟨c, hcr, hqc⟩ := Paired.at_l hw hq
      have hi' : i < a.spans.length := by
        have := (List.getElem?_eq_some_iff.mp hcr).1
        simpa using this
      rw [List.getElem?_range hi'] at hcr
      cases hcr
      have hM : SqL K H' q ((marks a.day (Kh343.open_ a (Kh343.spansOf a i))).map V.bl) := SqL.of (s1 _ _ hqc)
      have hfl := List.length_filter_le (fun c => !Kh343.open_ a (Kh343.spansOf a c) t) (List.range i)
      rw [List.length_range] at hfl
      walk_at "rn"
      refine ⟨rfl, ?_⟩
      walk_at "rn"
      refine ⟨_, hM, _, at_marks ht, _, rfl, ?_⟩
      cases eo : Kh343.open_ a (Kh343.spansOf a i) t with
      | true =>
        refine iteN (by simp) ?_
        refine ⟨acc, s1, e1, ?_⟩
        show acc.length = _
        rw [hacc, List.range_succ, List.filter_append]
        simp [eo]
      | false =>
        refine iteP (by simp) ?_
        refine LcEnd.put nd s1 e1 (Same.refl _) ?_ ?_
        · rw [sizeLine_eq]
          omega
        · show (acc ++ _).length = _
          rw [List.length_append, hacc, List.range_succ, List.filter_append, List.length_append]
          simp [eo]
    · rintro D acc H' nd s1 e1 hacc
      walk_at "rn"
      refine ⟨_, .inl (SqL.of e1), ?_⟩
      rw [hacc, List.length_map, hwl]
      exact k _ s1
abbrev s_ask_marshals : Stmt := top 61
theorem sc_ask_marshals : FnScope ["course", "cars", "c", "minute"] ["course"] (defScope s_ask_marshals) := ⟨rfl, rfl, rfl, by decide +kernel, rfl, by decide +kernel, by decide +kernel⟩
theorem ok_ask_marshals (D : IsDef K mg "ask_marshals" s_ask_marshals) (T : Txt K mg C) (c_cars_at : Cal P w K mg base "cars_at" 3 ["course", "c"] (spCarsAt C)) (c_closed_in : Cal P w K mg base "closed_in" 1 ["cars", "minute"] spClosed) : Cal P w K mg base "ask_marshals" 4 ["course"] (spAsk0 C .marshals) := by
  refine cal_mk D sc_ask_marshals (fun _ _ _ _ _ _ => us1 (fun _ => rfl)) (fun vs H Q E h => ?_) (fun f cdv A outer s H vs Q E hr h => ?_)
  · obtain ⟨p, L, a, rfl, _⟩ := h
    rfl
  · obtain ⟨p, L, a, rfl, hC, k⟩ := h
    refine ⟨_, (pss_cons (ps_set (i := 1) sc_ask_marshals.nd rfl (by first | exact Or.inl rfl | exact Or.inr rfl) (pe_lc rfl sc_ask_marshals.nd (pi_range1 rfl T.b_range (pa_cons (pe_callB call_len_seq (by rfl) T.b_len bt_len (pa_cons (pe_fld (pv 0) rfl) pa_nil)) pa_nil)) (blkOk_by (own := [("c", 2)]) (by show blkC ["course", "cars", "c", "minute"] (defScope s_ask_marshals) _ _ = true; decide +kernel)) (fun _ _ _ _ _ => (pg_name (i := 2) sc_ask_marshals.nd rfl (by first | exact Or.inl rfl | exact Or.inr rfl))) (fun _ _ _ _ _ => pts_nil) (fun _ _ _ _ _ => (pe_own c_cars_at (hr.mono (by decide)) (pa_cons (pv 0) (pa_cons (pv 2) pa_nil))))))
    (pss_one (ps_ret (pe_lst (pa_cons (pe_callB (cr_max rfl) (by rfl) T.b_max bt_max (pa_cons (pe_lc rfl sc_ask_marshals.nd (pi_range1 rfl T.b_range (pa_cons (pe_fld (pv 0) rfl) pa_nil)) (blkOk_by (own := [("minute", 3)]) (by show blkC ["course", "cars", "c", "minute"] (defScope s_ask_marshals) _ _ = true; decide +kernel)) (fun _ _ _ _ _ => (pg_name (i := 3) sc_ask_marshals.nd rfl (by first | exact Or.inl rfl | exact Or.inr rfl))) (fun _ _ _ _ _ => pts_nil) (fun _ _ _ _ _ => (pe_own c_closed_in (hr.mono (by decide)) (pa_cons (pv 1) (pa_cons (pv 3) pa_nil))))) pa_nil)) pa_nil))))), ?_⟩
    show tSeq _ _ _ [some (.ref p), none, none, none] H
    obtain ⟨dc, lc, lr, cs, rs, hL⟩ := hC
    have h1 := hL.obj
    have h2 : SqL K H lc (cs.map V.ref) := SqL.of hL.hc
    have h3 := T.cl
    have h4 := T.nC
    have h5 := T.nM
    have hlen := Paired.len' hL.sp
    have h6c := hL.ok.cross
    have hd1 := hL.ok.day1
    have hd2 := hL.ok.day2
    walk_at "rn*"
    refine ⟨_, .inl h2, ?_⟩
    rw [List.length_map, hlen]
    refine ⟨by omega, by omega, lcW_range (fun D i acc H' => ∃ ws : List Addr, acc = ws.map V.ref ∧ Paired (fun q c => q ≠ D ∧ MarkAt a H' q c) ws (List.range i)) (fun D H' _ => ⟨[], rfl, .nil⟩) ?_ ?_⟩
    · rintro D i acc H' nd hi s1 e1 ⟨ws, rfl, hw⟩
      have hi : i < a.spans.length := by omega
      walk_at "rn"
      refine ⟨rfl, ?_⟩
      walk_at "rn"
      refine ⟨p, L, a, i, rfl, ⟨dc, lc, lr, cs, rs, hL.same s1⟩, hi, fun H3 q3 s3 n3 e3 => ?_⟩
      have hq3 : q3 ≠ D := fun z => by
        rw [z, e1] at n3
        cases n3
      have hwl := Paired.len' hw
      rw [List.length_range] at hwl
      refine LcEnd.put nd s1 e1 s3 ?_ ⟨ws ++ [q3], by simp, ?_⟩
      · rw [List.length_map, sizeLine_eq]
        omega
      · rw [List.range_succ]
        exact Paired.snoc ⟨hq3, upd_at e3 hq3⟩ (Paired.imp' (fun q c z => ⟨z.1, upd_at (s3 _ _ z.2) z.1⟩) hw)
    · rintro D acc H2 nd s2 e2 ⟨ws, rfl, hw⟩
      have o2 := (hL.same s2).obj
      clear h1 h2
      walk_at "rn*"
      have hw2 : Paired (fun q c => q ≠ D ∧ MarkAt a H2 q c) ws (List.range a.spans.length) := by simpa using hw
      have hw' : Paired (MarkAt a H2) ws (List.range a.spans.length) := Paired.imp' (fun q c z => z.2) hw2
      refine ⟨by omega, by omega, lcW_range (fun D i acc H' => acc = ((List.range i).map fun t => ((Kh343.closedAt a t).length : Int)).map V.int) (fun D H' _ => rfl) ?_ ?_⟩
      · rintro D2 i acc H' nd2 hi s1 e1 rfl
        have hi : i < a.day := by omega
        walk_at "rn"
        refine ⟨rfl, ?_⟩
        walk_at "rn"
        refine ⟨D, ws, a, i, rfl, s1 _ _ e2, Paired.imp' (fun q c z => s1 _ _ z) hw', hi, h6c, fun H4 s4 => LcEnd.put nd2 s1 e1 s4 ?_ ?_⟩
        · rw [List.length_map, List.length_map, List.length_range, sizeLine_eq]
          omega
        · rw [List.range_succ]
          simp
      · rintro D2 acc H4 nd2 s4 e4 rfl
        walk_at "rn"
        refine ⟨_, SqL.of e4, by simp; omega, fun m hm hmax => ?_⟩
        refine ⟨(by show 1 ≤ sizeLine; decide), fun q' H5 m5 => k.one (s2.trans s4) m5 ?_⟩
        obtain ⟨t, ht, rfl⟩ := List.mem_map.mp hm
        have em := marshals_eq (a := a) (m := (Kh343.closedAt a t).length) (fun u hu => by
          have := hmax _ (List.mem_map.mpr ⟨u, by simpa using hu, rfl⟩)
          omega) ⟨t, by simpa using ht, rfl⟩
        simp [ansV, Kh343.doing, Kh343.say, em]
end

section
variable {P : Program} {w : World} {K : PySem.W.Frag} {mg : Str → Option Value} {base : Heap} {C N : Addr}
def TripAt (H : Hp) (q : Addr) (x : Trip) : Prop := H q = some (.tup [.int x.1, .int x.2.1, .int x.2.2])
def TripsAt (H : Hp) (a : Addr) (l : List Trip) : Prop := ∃ ts : List Addr, H a = some (.lst (ts.map V.ref)) ∧ Paired (TripAt H) ts l
def QuadAt (H : Hp) (q : Addr) (x : Dut) : Prop := H q = some (.tup [.int x.1, .int x.2.1, .int x.2.2.1, .int x.2.2.2])
def QuadsAt (H : Hp) (a : Addr) (l : List Dut) : Prop := ∃ ts : List Addr, H a = some (.lst (ts.map V.ref)) ∧ Paired (QuadAt H) ts l
abbrev s_least_free : Stmt := top 66
theorem sc_least_free : FnScope ["free_from", "minute", "marshal"] ["free_from", "minute"] (defScope s_least_free) := ⟨rfl, rfl, rfl, by decide +kernel, rfl, by decide +kernel, by decide +kernel⟩
def spLeastFree : Sp := fun vs H Q _ => ∃ (q : Addr) (ff : List Nat) (t : Nat), vs = [.ref q, .int t] ∧ H q = some (.lst (ff.map fun (n : Nat) => V.int n)) ∧ ∀ m : Nat, LeastF ff t m → Q (.int m) H
theorem ok_least_free (D : IsDef K mg "least_free" s_least_free) (T : Txt K mg C) : Cal P w K mg base "least_free" 1 ["free_from", "minute"] spLeastFree := by
  refine cal_mk D sc_least_free (fun _ _ _ _ _ _ => us2 (fun _ _ => rfl)) (fun vs H Q E h => ?_) (fun f cdv A outer s H vs Q E hr h => ?_)
  · obtain ⟨q, ff, t, rfl, _⟩ := h
    rfl
  · obtain ⟨q, ff, t, rfl, hq, k⟩ := h
    refine ⟨_, (pss_cons (ps_set (i := 2) sc_least_free.nd rfl (by first | exact Or.inl rfl | exact Or.inr rfl) pe_int)
    (pss_cons (ps_while PassesOwn.never ((pw_and (pt_cmpR op_lt (pv 2) (pe_callB call_len_seq (by rfl) T.b_len bt_len (pa_cons (pv 0) pa_nil)) (nomark _)) (pw_and1 (pt_cmpR op_gt (pe_ix ix_list (pv 0) (pv 2) (fun _ _ => rfl)) (pv 1) (nomark _))))).pt
    (pss_one (ps_aug (i := 2) sc_least_free.nd rfl (by first | exact Or.inl rfl | exact Or.inr rfl) pe_int ip_add)))
    (pss_one (ps_ret (pv 2))))), ?_⟩
    show tSeq _ _ _ [some (.ref q), some (.int t), none] H
    walk_at "rd"
    have hL : SqL K H q (ff.map fun (n : Nat) => V.int n) := SqL.of hq
    refine whileW (fun n σ H' => ∃ (m : Nat) (mi : Int), σ = [some (.ref q), some (.int t), some (.int mi)] ∧ mi = (m : Int) ∧ H' = H ∧ n = ff.length - m ∧ m ≤ ff.length ∧ ∀ k e, k < m → ff[k]? = some e → t < e) ⟨_, 0, _, rfl, rfl, rfl, rfl, Nat.zero_le _, fun k e h => by omega⟩ ?_
    rintro n σ H' ⟨m, mi, rfl, rfl, rfl, rfl, h1, h2⟩
    walk_at "rd"
    refine ⟨_, .inl hL, ?_⟩
    rw [List.length_map]
    split
    · rename_i hm
      have hm : m < ff.length := by omega
      have hat := List.getElem?_eq_getElem hm
      refine ⟨_, hL, _, at_map hat, ff[m], rfl, ?_⟩
      split
      · rename_i hlt
        refine ⟨_, fun _ _ h => h, ff.length - (m + 1), by omega, m + 1, _, rfl, by omega, rfl, rfl, by omega, fun k e h3 h4 => ?_⟩
        by_cases z : k = m
        · subst z
          rw [hat] at h4
          cases h4
          omega
        · exact h2 k e (by omega) h4
      · rename_i hlt
        exact k m ⟨h1, h2, fun e he => by
          rw [hat] at he
          cases he
          omega⟩
    · rename_i hm
      exact k m ⟨h1, h2, fun e he => by
        have := (List.getElem?_eq_some_iff.mp he).1
        omega⟩
abbrev s_give_out : Stmt := top 65
theorem sc_give_out : FnScope ["shuts", "duties", "free_from", "first", "c", "length", "marshal"] ["shuts"] (defScope s_give_out) := ⟨rfl, rfl, rfl, by decide +kernel, rfl, by decide +kernel, by decide +kernel⟩
def spGive : Sp := fun vs H Q _ => ∃ (s : Addr) (l : List Trip), vs = [.ref s] ∧ TripsAt H s l ∧ l.length ≤ 1000 ∧ ∀ (H' : Hp) (p : Addr), Same H H' → H p = none → QuadsAt H' p (Kh343.duties [] l) → Q (.ref p) H'
/-- within the loop -/
structure Gave (H : Hp) (d f : Addr) (l : List Trip) (i : Nat) (H' : Hp) : Prop where
  sm : Same H H'
  qs : QuadsAt H' d (Kh343.duties [] (l.take i))
  fl : ∃ ff : List Nat, H' f = some (.lst (ff.map fun (n : Nat) => V.int n)) ∧ FreeFrom (Kh343.duties [] (l.take i)) ff ∧ ff.length ≤ i
theorem QuadsAt.put {H : Hp} {d p : Addr} {l : List Dut} {o : HO} (h : QuadsAt H d l) (ne : d ≠ p) {xs : List V} (e : H p = some (.lst xs)) : QuadsAt (upd H p o) d l := by
  obtain ⟨ts, h1, h2⟩ := h
  exact ⟨ts, upd_at h1 ne, Paired.imp' (fun q x z => upd_at z (ne_of z e (by intro z; cases z))) h2⟩
theorem QuadsAt.snoc {H : Hp} {d p : Addr} {l : List Dut} {ts : List Addr} {x : Dut} (h1 : H d = some (.lst (ts.map V.ref))) (h2 : Paired (QuadAt H) ts l) (hp : QuadAt H p x) : QuadsAt (upd H d (.lst (ts.map V.ref ++ [.ref p]))) d (l ++ [x]) := by
  have up : ∀ b y, QuadAt H b y → QuadAt (upd H d (.lst (ts.map V.ref ++ [.ref p]))) b y := fun b y z => upd_at z (ne_of z h1 (by intro z; cases z))
  exact ⟨ts ++ [p], by rw [upd_same, List.map_append]; rfl, Paired.snoc (up _ _ hp) (Paired.imp' up h2)⟩
theorem ok_give_out (D : IsDef K mg "give_out" s_give_out) (T : Txt K mg C) (c_least_free : Cal P w K mg base "least_free" 1 ["free_from", "minute"] spLeastFree) : Cal P w K mg base "give_out" 2 ["shuts"] spGive := by
  refine cal_mk D sc_give_out (fun _ _ _ _ _ _ => us1 (fun _ => rfl)) (fun vs H Q E h => ?_) (fun f cdv A outer s H vs Q E hr h => ?_)
  · obtain ⟨s, l, rfl, _⟩ := h
    rfl
  · obtain ⟨s0, l, rfl, hP, hl, k⟩ := h
    refine ⟨_, (pss_cons (ps_set (i := 1) sc_give_out.nd rfl (by first | exact Or.inl rfl | exact Or.inr rfl) (pe_lst pa_nil))
    (pss_cons (ps_set (i := 2) sc_give_out.nd rfl (by first | exact Or.inl rfl | exact Or.inr rfl) (pe_lst pa_nil))
    (pss_cons (ps_for PassesOwn.never rfl (pi_list (pv 0)) (pg_tup (n := 3) rfl (pgs_cons (pg_name (i := 3) sc_give_out.nd rfl (by first | exact Or.inl rfl | exact Or.inr rfl)) (pgs_cons (pg_name (i := 4) sc_give_out.nd rfl (by first | exact Or.inl rfl | exact Or.inr rfl)) (pgs_cons (pg_name (i := 5) sc_give_out.nd rfl (by first | exact Or.inl rfl | exact Or.inr rfl)) pgs_nil))))
    (pss_cons (ps_set (i := 6) sc_give_out.nd rfl (by first | exact Or.inl rfl | exact Or.inr rfl) (pe_own c_least_free (hr.mono (by decide)) (pa_cons (pv 2) (pa_cons (pv 3) pa_nil))))
      (pss_cons (ps_if (pt_cmpR op_eq (pv 6) (pe_callB call_len_seq (by rfl) T.b_len bt_len (pa_cons (pv 2) pa_nil)) (nomark _))
      (pss_one (ps_expr (pe_bm PySem.F.plainAttrs_list PySem.F.slot_list_append PySem.F.type_list_append mt_append (pv 2) (pa_cons pe_int pa_nil))))
      pss_nil)
      (pss_cons (ps_asg (pe_op op_add (pv 3) (pv 5)) (pg_sub (pv 2) (pv 6) set_list))
      (pss_one (ps_expr (pe_bm PySem.F.plainAttrs_list PySem.F.slot_list_append PySem.F.type_list_append mt_append (pv 1) (pa_cons (pe_tup (pa_cons (pv 3) (pa_cons (pv 4) (pa_cons (pv 5) (pa_cons (pv 6) pa_nil))))) pa_nil))))))))
    (pss_one (ps_ret (pv 1)))))), ?_⟩
    show tSeq _ _ _ [some (.ref s0), none, none, none, none, none, none] H
    walk_at "rd"
    refine ⟨Nat.zero_le _, fun d H0 m0 => ⟨Nat.zero_le _, fun ff H1 m1 => ?_⟩⟩
    obtain ⟨ts, ha, hts⟩ := hP
    have hlen := Paired.len' hts
    have s1 := m0.same.trans m1.same
    have nf : H ff = none := m0.same.free m1.free
    have ndf : d ≠ ff := ne_of_none m0.at_ m1.free
    have hty : ∀ (b : Addr) (H' : Hp) (l : List V), H' b = some (.lst l) → tyV K "list" (.ref b) H' := fun b H' l h => .inl ⟨rfl, _, SqL.of h⟩
    refine ⟨⟨_, SqL.of (s1 _ _ ha)⟩, forW_list (xs := ts.map V.ref) (fun i σ H' => ∃ v3 v4 v5 v6, σ = [some (.ref s0), some (.ref d), some (.ref ff), v3, v4, v5, v6] ∧ Gave H d ff l i H')
      ⟨_, _, _, _, rfl, s1, ⟨[], m1.same _ _ m0.at_, .nil⟩, [], m1.at_, freeFrom_nil, Nat.le_refl _⟩ (fun i σ H' _ ⟨_, _, _, _, _, z⟩ => SqL.of (z.sm _ _ ha)) ?_ ?_⟩
    · rintro i y σ H2 hi ⟨v3, v4, v5, v6, rfl, s2, hq2, fl, hf2, hF, hfl⟩
      obtain ⟨q, hq, rfl⟩ := map_at hi
      obtain ⟨x, hx, hqx⟩ := Paired.at_l hts hq
      have hT : SqT K H2 q [.int x.1, .int x.2.1, .int x.2.2] := SqT.of (s2 _ _ hqx)
      have hil : i < l.length := (List.getElem?_eq_some_iff.mp hx).1
      walk_at "rd"
      refine ⟨_, hT, rfl, ?_⟩
      walk_at "rd"
      refine ⟨ff, fl, x.1, rfl, hf2, fun m hm => ?_⟩
      have hml := hm.le
      have fin : ∀ H3 : Hp, Same H H3 → QuadsAt H3 d (Kh343.duties [] (l.take i)) → H3 ff = some (.lst ((put fl m (x.1 + x.2.2)).map fun (n : Nat) => V.int n)) →
          ∀ (p4 : Addr) (H4 : Hp), New H3 p4 (.tup [.int x.1, .int x.2.1, .int x.2.2, .int m]) H4 → ∃ xs, H4 d = some (.lst xs) ∧ xs.length < sizeLine ∧ Gave H d ff l (i + 1) (upd H4 d (.lst (xs ++ [.ref p4]))) := fun H3 s3 q3 f3 p4 H4 m4 => by
        obtain ⟨ds, hd1, hd2⟩ := q3
        have hdl := Paired.len' hd2
        rw [duties_len, List.length_nil, List.length_take] at hdl
        have e4 := m4.same _ _ hd1
        refine ⟨_, e4, by rw [List.length_map, sizeLine_eq]; omega, (s3.trans m4.same).own m0.free, ?_, put fl m (x.1 + x.2.2), upd_at (m4.same _ _ f3) ndf.symm, ?_, ?_⟩
        · rw [take_snoc hx, duties_snoc, hm.free hF]
          exact QuadsAt.snoc e4 (Paired.imp' (fun b y z => m4.same _ _ z) hd2) m4.at_
        · rw [take_snoc hx, duties_snoc, hm.free hF]
          exact hF.give hm
        · unfold put
          split
          · simp; omega
          · simp; omega
      walk_at "rd"
      refine ⟨_, .inl (SqL.of hf2), rfl, ?_⟩
      rw [List.length_map]
      by_cases hlast : m = fl.length
      · refine iteP (by omega) ?_
        refine ⟨hty _ _ _ hf2, _, hf2, ?_, ?_⟩
        · rw [List.length_map, sizeLine_eq]
          omega
        refine ⟨_, upd_same, m, ?_, ?_⟩
        · rw [List.length_append, List.length_map]
          exact ixN_nat (by simp; omega)
        rw [upd_upd]
        have e3 : ((fl.map fun (n : Nat) => V.int n) ++ [V.int 0]).set m (V.int ((x.1 : Int) + (x.2.2 : Int))) = (put fl m (x.1 + x.2.2)).map fun (n : Nat) => V.int n := by
          unfold put
          rw [if_pos hlast, hlast]
          rw [List.set_append_right _ _ (by simp)]
          simp
        rw [e3]
        have q3 := hq2.put (o := .lst ((put fl m (x.1 + x.2.2)).map fun (n : Nat) => V.int n)) ndf hf2
        obtain ⟨ds, hd1, _⟩ := id q3
        refine ⟨hty _ _ _ hd1, (by show 4 ≤ sizeLine; decide), fun p4 H4 m4 => ?_⟩
        obtain ⟨xs, h1, h2, h3⟩ := fin _ (s2.own nf) q3 upd_same p4 H4 m4
        exact ⟨xs, h1, h2, h3⟩
      · refine iteN (by omega) ?_
        refine ⟨_, hf2, m, ?_, ?_⟩
        · rw [List.length_map]
          exact ixN_nat (by omega)
        have e3 : (fl.map fun (n : Nat) => V.int n).set m (V.int ((x.1 : Int) + (x.2.2 : Int))) = (put fl m (x.1 + x.2.2)).map fun (n : Nat) => V.int n := by
          unfold put
          rw [if_neg hlast, List.map_set]
          simp
        rw [e3]
        have q3 := hq2.put (o := .lst ((put fl m (x.1 + x.2.2)).map fun (n : Nat) => V.int n)) ndf hf2
        obtain ⟨ds, hd1, _⟩ := id q3
        refine ⟨hty _ _ _ hd1, (by show 4 ≤ sizeLine; decide), fun p4 H4 m4 => ?_⟩
        obtain ⟨xs, h1, h2, h3⟩ := fin _ (s2.own nf) q3 upd_same p4 H4 m4
        exact ⟨xs, h1, h2, h3⟩
    · rintro σ H2 ⟨v3, v4, v5, v6, rfl, s2, hq2, _⟩
      walk_at "rd"
      rw [List.length_map, hlen, List.take_length] at hq2
      exact k _ _ s2 m0.free hq2
end

section
variable {P : Program} {w : World} {K : PySem.W.Frag} {mg : Str → Option Value} {base : Heap} {C N : Addr}
abbrev s_shuts_in_order : Stmt := top 64
theorem sc_shuts_in_order : FnScope ["course", "found", "c", "first", "length"] ["course"] (defScope s_shuts_in_order) := ⟨rfl, rfl, rfl, by decide +kernel, rfl, by decide +kernel, by decide +kernel⟩
def spOrder (C : Addr) : Sp := fun vs H Q _ => ∃ (p : Addr) (L : List Addr) (a : Abs), vs = [.ref p] ∧ CourseAt C H p L (some a) ∧ ∀ (H' : Hp) (q : Addr), Same H H' → H q = none → TripsAt H' q (Kh343.allShuts a) → Q (.ref q) H'
/-- the shuts of the crossings ahead of n -/
def toC (a : Abs) (n : Nat) : List Trip := (List.range n).flatMap fun c => (Kh343.shuts a c).map fun x => (x.1, c, x.2)
theorem toC_succ (a : Abs) (n : Nat) : toC a (n + 1) = toC a n ++ (Kh343.shuts a n).map fun x => (x.1, n, x.2) := by
  unfold toC
  rw [List.range_succ, List.flatMap_append]
  simp
theorem toC_len (a : Abs) (h : a.day ≤ 120) : ∀ n, (toC a n).length ≤ n * 120
  | 0 => by simp [toC]
  | n + 1 => by
    have := toC_len a h n
    have := shuts_count a n
    rw [toC_succ, List.length_append, List.length_map]
    omega
/-- what stands at an address, as a triple -/
def keyAt (H : Hp) (p : Addr) : Key3 := match H p with
  | some (.tup [.int x, .int y, .int z]) => (x, y, z)
  | _ => (0, 0, 0)
theorem keyAt_of {H : Hp} {p : Addr} {x : Trip} (h : TripAt H p x) : keyAt H p = ((x.1 : Int), (x.2.1 : Int), (x.2.2 : Int)) := by
  unfold keyAt
  rw [h]
def natT (x : Key3) : Trip := (x.1.toNat, x.2.1.toNat, x.2.2.toNat)
theorem Paired.key {H : Hp} : ∀ {ps : List Addr} {l : List Trip}, Paired (TripAt H) ps l → ps.map (fun p => natT (keyAt H p)) = l
  | _, _, .nil => rfl
  | _, _, .cons r t => by
    rw [List.map_cons, Paired.key t, keyAt_of r]
    simp [natT]
theorem paired_of {H : Hp} : ∀ (ps : List Addr), (∀ p ∈ ps, ∃ x, TripAt H p x) → Paired (TripAt H) ps (ps.map fun p => natT (keyAt H p))
  | [], _ => .nil
  | p :: ps, h => by
    obtain ⟨x, hx⟩ := h p (by simp)
    refine .cons ?_ (paired_of ps fun q hq => h q (by simp [hq]))
    show TripAt H p (natT (keyAt H p))
    rw [keyAt_of hx]
    simpa [natT] using hx
theorem ok_shuts_in_order (D : IsDef K mg "shuts_in_order" s_shuts_in_order) (T : Txt K mg C) (c_shuts_at : Cal P w K mg base "shuts_at" 4 ["course", "c"] (spShutsAt C)) : Cal P w K mg base "shuts_in_order" 5 ["course"] (spOrder C) := by
  refine cal_mk D sc_shuts_in_order (fun _ _ _ _ _ _ => us1 (fun _ => rfl)) (fun vs H Q E h => ?_) (fun f cdv A outer s H vs Q E hr h => ?_)
  · obtain ⟨p, L, a, rfl, _⟩ := h
    rfl
  · obtain ⟨p, L, a, rfl, hC, k⟩ := h
    refine ⟨_, (pss_cons (ps_set (i := 1) sc_shuts_in_order.nd rfl (by first | exact Or.inl rfl | exact Or.inr rfl) (pe_lst pa_nil))
    (pss_cons (ps_for PassesOwn.never rfl (pi_range1 rfl T.b_range (pa_cons (pe_callB call_len_seq (by rfl) T.b_len bt_len (pa_cons (pe_fld (pv 0) rfl) pa_nil)) pa_nil)) (pg_name (i := 2) sc_shuts_in_order.nd rfl (by first | exact Or.inl rfl | exact Or.inr rfl))
    (pss_one (ps_for PassesOwn.never rfl (pi_list (pe_own c_shuts_at (hr.mono (by decide)) (pa_cons (pv 0) (pa_cons (pv 2) pa_nil)))) (pg_tup (n := 2) rfl (pgs_cons (pg_name (i := 3) sc_shuts_in_order.nd rfl (by first | exact Or.inl rfl | exact Or.inr rfl)) (pgs_cons (pg_name (i := 4) sc_shuts_in_order.nd rfl (by first | exact Or.inl rfl | exact Or.inr rfl)) pgs_nil)))
      (pss_one (ps_expr (pe_bm PySem.F.plainAttrs_list PySem.F.slot_list_append PySem.F.type_list_append mt_append (pv 1) (pa_cons (pe_tup (pa_cons (pv 3) (pa_cons (pv 2) (pa_cons (pv 4) pa_nil)))) pa_nil)))))))
    (pss_one (ps_ret (pe_callB cr_sortedT (by rfl) T.b_sorted bt_sorted (pa_cons (pv 1) pa_nil)))))), ?_⟩
    show tSeq _ _ _ [some (.ref p), none, none, none, none] H
    obtain ⟨dc, lc, lr, cs, rs, hL⟩ := hC
    have hlen := Paired.len' hL.sp
    have h6c := hL.ok.cross
    have hd2 := hL.ok.day2
    walk_at "rn"
    refine ⟨Nat.zero_le _, fun d H0 m0 => ?_⟩
    have h1 := (hL.same m0.same).obj
    have h2 : SqL K H0 lc (cs.map V.ref) := SqL.of (hL.same m0.same).hc
    have h3 := T.cl
    have h4 := T.nC
    have hty : ∀ (b : Addr) (H' : Hp) (l : List V), H' b = some (.lst l) → tyV K "list" (.ref b) H' := fun b H' l h => .inl ⟨rfl, _, SqL.of h⟩
    walk_at "rn*"
    refine ⟨_, .inl h2, ?_⟩
    rw [List.length_map, hlen]
    refine ⟨by omega, by omega, forW_range (fun i σ H' => ∃ v2 v3 v4, σ = [some (.ref p), some (.ref d), v2, v3, v4] ∧ Same H H' ∧ TripsAt H' d (toC a i)) ⟨_, _, _, rfl, m0.same, [], m0.at_, .nil⟩ ?_ ?_⟩
    · rintro i σ H1 hi ⟨v2, v3, v4, rfl, s1, ds, hd1, hds⟩
      have hi : i < a.spans.length := by omega
      walk_at "rn"
      refine ⟨p, L, a, i, rfl, ⟨dc, lc, lr, cs, rs, hL.same s1⟩, hi, fun H2 q2 s2 n2 hP => ?_⟩
      obtain ⟨ts, ha, hts⟩ := hP
      have htl := Paired.len' hts
      walk_at "rn"
      have hds2 : Paired (TripAt H2) ds (toC a i) := Paired.imp' (fun b x z => s2 _ _ z) hds
      have neq : q2 ≠ d := fun z => by
        rw [z, hd1] at n2
        cases n2
      refine ⟨⟨_, SqL.of ha⟩, forW_list (xs := ts.map V.ref) (fun j σ H' => ∃ v3 v4, σ = [some (.ref p), some (.ref d), some (.int i), v3, v4] ∧ Same H H' ∧ H' q2 = some (.lst (ts.map V.ref)) ∧ Paired (TupAt H') ts (Kh343.shuts a i) ∧ TripsAt H' d (toC a i ++ ((Kh343.shuts a i).take j).map fun x => (x.1, i, x.2)))
        ⟨_, _, rfl, s1.trans s2, ha, hts, ds, s2 _ _ hd1, by rw [List.take_zero, List.map_nil, List.append_nil]; exact hds2⟩ (fun j σ H' _ ⟨_, _, _, _, z, _⟩ => SqL.of z) ?_ ?_⟩
      · rintro j y σ H3 hj ⟨v3, v4, rfl, s3, hq3, ht3, es, he1, hes⟩
        obtain ⟨q, hq, rfl⟩ := map_at hj
        obtain ⟨x, hx, hqx⟩ := Paired.at_l ht3 hq
        have hT : SqT K H3 q [.int x.1, .int x.2] := SqT.of hqx
        have hel := Paired.len' hes
        have hjl : j < (Kh343.shuts a i).length := (List.getElem?_eq_some_iff.mp hx).1
        have hsc := shuts_count a i
        have htc := toC_len a hd2 i
        rw [List.length_append, List.length_map, List.length_take] at hel
        walk_at "rn"
        refine ⟨_, hT, rfl, ?_⟩
        walk_at "rn"
        refine ⟨hty _ _ _ he1, (by show 3 ≤ sizeLine; decide), fun p4 H4 m4 => ?_⟩
        have e4 := m4.same _ _ he1
        refine ⟨_, e4, by rw [List.length_map, sizeLine_eq]; omega, (s3.trans m4.same).own m0.free, upd_at (m4.same _ _ hq3) neq, ?_, es ++ [p4], ?_, ?_⟩
        · exact Paired.imp' (fun b x z => upd_at (m4.same _ _ z) (ne_of (m4.same _ _ z) e4 (by intro z; cases z))) ht3
        · rw [upd_same, List.map_append]
          rfl
        · have up : ∀ b y, TripAt H4 b y → TripAt (upd H4 d (.lst (es.map V.ref ++ [.ref p4]))) b y := fun b y z => upd_at z (ne_of z e4 (by intro z; cases z))
          rw [take_snoc hx, List.map_append, ← List.append_assoc]
          exact Paired.snoc (up p4 (x.1, i, x.2) m4.at_) (Paired.imp' (fun b y z => up b y (m4.same _ _ z)) hes)
      · rintro σ H3 ⟨v3, v4, rfl, s3, hq3, ht3, hes⟩
        refine ⟨_, _, _, rfl, s3, ?_⟩
        rw [List.length_map, htl, List.take_length] at hes
        rw [toC_succ]
        exact hes
    · rintro σ H1 ⟨v2, v3, v4, rfl, s1, ds, hd1, hds⟩
      rw [show ((a.spans.length : Int)).toNat = a.spans.length by omega] at hds
      walk_at "rn"
      have hall : ∀ q ∈ ds, ∃ x, TripAt H1 q x := fun q hq => by
        obtain ⟨j, hj⟩ := List.mem_iff_getElem?.mp hq
        obtain ⟨x, _, hx⟩ := Paired.at_l hds hj
        exact ⟨x, hx⟩
      refine ⟨ds, SqL.of hd1, keyAt H1, fun q hq => ?_, fun ps' q5 H5 hperm hsort m5 => ?_⟩
      · obtain ⟨x, hx⟩ := hall q hq
        rw [keyAt_of hx]
        exact SqT.of hx
      · have hall' : ∀ q ∈ ps', ∃ x, TripAt H1 q x := fun q hq => hall q (hperm.mem_iff.mp hq)
        have hpp := paired_of (H := H1) ps' hall'
        have hl : (ps'.map fun p => natT (keyAt H1 p)).Perm (byCrossing a) := by
          have := hperm.map fun p => natT (keyAt H1 p)
          rw [Paired.key hds] at this
          exact this
        have hs : (ps'.map fun p => natT (keyAt H1 p)).Pairwise fun x y => ¬ ltT y x := by
          rw [List.pairwise_map]
          refine (List.Pairwise.and_mem.mp hsort).imp ?_
          rintro x y ⟨hx, hy, hno⟩ hlt
          obtain ⟨tx, hx⟩ := hall' x hx
          obtain ⟨ty, hy⟩ := hall' y hy
          apply hno
          rw [keyAt_of hx, keyAt_of hy] at hlt ⊢
          unfold ltT natT at hlt
          unfold lt3'
          simp only at hlt ⊢
          omega
        have e := sorted_all hl hs
        refine k _ _ (s1.trans m5.same) (s1.free m5.free) ⟨ps', m5.at_, ?_⟩
        rw [e]
        exact Paired.imp' (fun b x z => m5.same _ _ z) hpp
abbrev s_ask_duties : Stmt := top 63
theorem sc_ask_duties : FnScope ["course", "duties", "answer", "duty"] ["course"] (defScope s_ask_duties) := ⟨rfl, rfl, rfl, by decide +kernel, rfl, by decide +kernel, by decide +kernel⟩
theorem fl4_len : ∀ l : List (Nat × Nat × Nat × Nat), (l.flatMap fun x => [x.1, x.2.1, x.2.2.1, x.2.2.2]).length = 4 * l.length := by
  intro l
  induction l with
  | nil => rfl
  | cons x l ih => simp [List.flatMap_cons, ih]; omega
theorem ok_ask_duties (D : IsDef K mg "ask_duties" s_ask_duties) (T : Txt K mg C) (c_shuts_in_order : Cal P w K mg base "shuts_in_order" 5 ["course"] (spOrder C)) (c_give_out : Cal P w K mg base "give_out" 2 ["shuts"] spGive) : Cal P w K mg base "ask_duties" 6 ["course"] (spAsk0 C .duties) := by
  refine cal_mk D sc_ask_duties (fun _ _ _ _ _ _ => us1 (fun _ => rfl)) (fun vs H Q E h => ?_) (fun f cdv A outer s H vs Q E hr h => ?_)
  · obtain ⟨p, L, a, rfl, _⟩ := h
    rfl
  · obtain ⟨p, L, a, rfl, hC, k⟩ := h
    refine ⟨_, (pss_cons (ps_set (i := 1) sc_ask_duties.nd rfl (by first | exact Or.inl rfl | exact Or.inr rfl) (pe_own c_give_out (hr.mono (by decide)) (pa_cons (pe_own c_shuts_in_order (hr.mono (by decide)) (pa_cons (pv 0) pa_nil)) pa_nil)))
    (pss_cons (ps_set (i := 2) sc_ask_duties.nd rfl (by first | exact Or.inl rfl | exact Or.inr rfl) (pe_lst (pa_cons (pe_callB call_len_seq (by rfl) T.b_len bt_len (pa_cons (pv 1) pa_nil)) pa_nil)))
    (pss_cons (ps_for PassesOwn.never rfl (pi_list (pv 1)) (pg_name (i := 3) sc_ask_duties.nd rfl (by first | exact Or.inl rfl | exact Or.inr rfl))
    (pss_one (ps_expr (pe_bm PySem.F.plainAttrs_list PySem.F.slot_list_extend PySem.F.type_list_extend mt_extendT (pv 2) (pa_cons (pv 3) pa_nil)))))
    (pss_one (ps_ret (pv 2)))))), ?_⟩
    show tSeq _ _ _ [some (.ref p), none, none, none] H
    walk_at "rn"
    refine ⟨p, L, a, rfl, hC, fun H1 q1 s1 n1 hT1 => ?_⟩
    obtain ⟨dc, lc, lr, cs, rs, hL⟩ := hC
    have hal : (Kh343.allShuts a).length ≤ 720 := by
      rw [allShuts_eq, List.length_mergeSort]
      exact byCrossing_len a hL.ok.day2 hL.ok.cross
    refine ⟨q1, _, rfl, hT1, by omega, fun H2 p2 s2 n2 hQ2 => ?_⟩
    obtain ⟨ts, hts, hpp⟩ := hQ2
    have hlen := Paired.len' hpp
    have hdl := duties_len (Kh343.allShuts a) []
    rw [List.length_nil] at hdl
    have s12 := s1.trans s2
    walk_at "rn"
    refine ⟨_, .inl (SqL.of hts), (by show 1 ≤ sizeLine; decide), fun p3 H3 m3 => ⟨⟨_, SqL.of (m3.same _ _ hts)⟩, ?_⟩⟩
    have e3 := m3.at_
    rw [List.length_map, hlen] at e3
    have n3 : H p3 = none := s12.free m3.free
    refine forW_list (xs := ts.map V.ref) (fun i σ H' => ∃ v3, σ = [some (.ref p), some (.ref p2), some (.ref p3), v3] ∧ Same H2 H' ∧ H' p3 = some (.lst (.int (Kh343.duties [] (Kh343.allShuts a)).length :: (((Kh343.duties [] (Kh343.allShuts a)).take i).flatMap fun x => [x.1, x.2.1, x.2.2.1, x.2.2.2]).map fun (n : Nat) => V.int n)))
      ⟨_, rfl, m3.same, e3⟩ (fun i σ H' _ ⟨_, _, z, _⟩ => SqL.of (z _ _ hts)) ?_ ?_
    · rintro i y σ H4 hi ⟨v3, rfl, s4, h4⟩
      obtain ⟨q, hq, rfl⟩ := map_at hi
      obtain ⟨x, hx, hqx⟩ := Paired.at_l hpp hq
      have hT : SqT K H4 q [.int x.1, .int x.2.1, .int x.2.2.1, .int x.2.2.2] := SqT.of (s4 _ _ hqx)
      have hty : ∀ (H' : Hp) (l : List V), H' p3 = some (.lst l) → tyV K "list" (.ref p3) H' := fun H' l h => .inl ⟨rfl, _, SqL.of h⟩
      have hfl := fl4_len ((Kh343.duties [] (Kh343.allShuts a)).take i)
      rw [List.length_take] at hfl
      walk_at "rn"
      refine ⟨hty _ _ h4, _, h4, _, hT, ?_, s4.own m3.free, ?_⟩
      · rw [List.length_cons, List.length_map, sizeLine_eq]
        simp only [List.length_cons, List.length_nil]
        omega
      · rw [upd_same, take_snoc hx]
        simp
    · rintro σ H4 ⟨v3, rfl, s4, h4⟩
      walk_at "rn"
      refine k _ _ (s12.trans s4) n3 ?_
      rw [h4, List.length_map, hlen, List.take_length]
      simp [ansV, Kh343.doing]
end

section
variable {P : Program} {w : World} {K : PySem.W.Frag} {mg : Str → Option Value} {base : Heap} {C N : Addr}
abbrev s_has_road : Stmt := top 4
theorem sc_has_road : FnScope ["course", "r"] ["course", "r"] (defScope s_has_road) := ⟨rfl, rfl, rfl, by decide +kernel, rfl, by decide +kernel, by decide +kernel⟩
def spHasRoad (C : Addr) : Sp := fun vs H Q _ => ∃ (p : Addr) (L : List Addr) (a : Abs) (r : Nat), vs = [.ref p, .int r] ∧ CourseAt C H p L (some a) ∧ Q (.bl (decide (r < a.roads.length))) H
theorem ok_has_road (D : IsDef K mg "has_road" s_has_road) (T : Txt K mg C) : Cal P w K mg base "has_road" 1 ["course", "r"] (spHasRoad C) := by
  refine cal_mk D sc_has_road (fun _ _ _ _ _ _ => us2 (fun _ _ => rfl)) (fun vs H Q E h => ?_) (fun f cdv A outer s H vs Q E hr h => ?_)
  · obtain ⟨p, L, a, c, rfl, _⟩ := h
    rfl
  · obtain ⟨p, L, a, c, rfl, ⟨dx, lc, lr, cs, rs, hL⟩, k⟩ := h
    refine ⟨_, (pss_one (ps_ret (pe_cmpR op_lt (pv 1) (pe_callB call_len_seq (by rfl) T.b_len bt_len (pa_cons (pe_fld (pv 0) rfl) pa_nil)) (nomark _)))), ?_⟩
    show tRet _ _ [some (.ref p), some (.int c)] H
    have h1 := hL.obj
    have h2 : SqL K H lr (rs.map V.ref) := SqL.of hL.hr
    have h3 := T.cl
    have h4 := T.nR
    walk_at "rd*"
    refine ⟨_, .inl h2, ?_⟩
    rw [List.length_map, Paired.len' hL.rd]
    simpa using k
abbrev s_ask_look : Stmt := top 43
theorem sc_ask_look : FnScope ["course", "r", "road"] ["course", "r"] (defScope s_ask_look) := ⟨rfl, rfl, rfl, by decide +kernel, rfl, by decide +kernel, by decide +kernel⟩
theorem ok_ask_look (D : IsDef K mg "ask_look" s_ask_look) (T : Txt K mg C) (c_has_road : Cal P w K mg base "has_road" 1 ["course", "r"] (spHasRoad C)) : Cal P w K mg base "ask_look" 2 ["course", "r"] (spAsk1 C .look) := by
  refine cal_mk D sc_ask_look (fun _ _ _ _ _ _ => us2 (fun _ _ => rfl)) (fun vs H Q E h => ?_) (fun f cdv A outer s H vs Q E hr h => ?_)
  · obtain ⟨p, L, a, c, rfl, _⟩ := h
    rfl
  · obtain ⟨p, L, a, r, rfl, hC, k⟩ := h
    refine ⟨_, (pss_cons (ps_if (pt_not (pt_val (pe_own c_has_road (hr.mono (by decide)) (pa_cons (pv 0) (pa_cons (pv 1) pa_nil)))))
    (pss_one (ps_ret (pe_lst (pa_cons (pe_gl T.g_NO_SUCH) pa_nil))))
    pss_nil)
    (pss_cons (ps_set (i := 2) sc_ask_look.nd rfl (by first | exact Or.inl rfl | exact Or.inr rfl) (pe_ix ix_list (pe_fld (pv 0) rfl) (pv 1) (fun _ _ => rfl)))
    (pss_one (ps_ret (pe_lst (pa_cons (pe_ix ix_tup (pv 2) pe_int (fun _ _ => rfl)) (pa_cons (pe_ix ix_tup (pv 2) pe_int (fun _ _ => rfl)) (pa_cons (pe_ix ix_tup (pv 2) pe_int (fun _ _ => rfl)) (pa_cons (pe_ix ix_tup (pv 2) pe_int (fun _ _ => rfl)) pa_nil))))))))), ?_⟩
    show tSeq _ _ _ [some (.ref p), some (.int r), none] H
    walk_at "rd"
    refine ⟨p, L, a, r, rfl, hC, ?_⟩
    walk_at "rd"
    by_cases hc : r < a.roads.length
    · rw [if_neg (by simpa using hc)]
      obtain ⟨dx, lc, lr, cs, rs, hL⟩ := hC
      have h1 := hL.obj
      have h2 : SqL K H lr (rs.map V.ref) := SqL.of hL.hr
      have h3 := T.cl
      have h4 := T.nR
      obtain ⟨q, hq, hR⟩ := Paired.at' hL.rd (List.getElem?_eq_getElem hc)
      have hT : SqT K H q [.int a.roads[r].a, .int a.roads[r].b, .int a.roads[r].long, .int (crV a.roads[r].crossing)] := SqT.of hR
      walk_at "rd*"
      refine ⟨_, h2, _, at_map hq, ?_⟩
      walk_at "rd"
      refine ⟨_, hT, _, at2, _, hT, _, at0, _, hT, _, at1, _, hT, _, at3, (by show 4 ≤ sizeLine; decide), fun q' H1 m1 => ?_⟩
      refine k _ _ m1.same m1.free ?_
      rw [m1.at_]
      have e : a.roads[r]? = some a.roads[r] := List.getElem?_eq_getElem hc
      have ec : crV a.roads[r].crossing = ((a.roads[r].crossing.elim 0 (fun c => c + 1) : Nat) : Int) := by
        cases a.roads[r].crossing with
        | none => rfl
        | some c => simp [crV]
      simp [ansV, Kh343.doing, e, ec]
    · rw [if_pos (by simpa using hc)]
      refine ⟨(by show 1 ≤ sizeLine; decide), fun q H1 m1 => k.one (Same.refl _) m1 ?_⟩
      have e : a.roads[r]? = none := List.getElem?_eq_none (by omega)
      simp [ansV, Kh343.doing, e, Kh343.say]
abbrev s_ask_state : Stmt := top 44
theorem sc_ask_state : FnScope ["course"] ["course"] (defScope s_ask_state) := ⟨rfl, rfl, rfl, by decide +kernel, rfl, by decide +kernel, by decide +kernel⟩
theorem ok_ask_state (D : IsDef K mg "ask_state" s_ask_state) (T : Txt K mg C) : Cal P w K mg base "ask_state" 1 ["course"] (spAsk0 C .state) := by
  refine cal_mk D sc_ask_state (fun _ _ _ _ _ _ => us1 (fun _ => rfl)) (fun vs H Q E h => ?_) (fun f cdv A outer s H vs Q E hr h => ?_)
  · obtain ⟨p, L, a, rfl, _⟩ := h
    rfl
  · obtain ⟨p, L, a, rfl, ⟨dx, lc, lr, cs, rs, hL⟩, k⟩ := h
    refine ⟨_, (pss_one (ps_ret (pe_lst (pa_cons (pe_fld (pv 0) rfl) (pa_cons (pe_fld (pv 0) rfl) (pa_cons (pe_callB call_len_seq (by rfl) T.b_len bt_len (pa_cons (pe_fld (pv 0) rfl) pa_nil)) (pa_cons (pe_fld (pv 0) rfl) (pa_cons (pe_callB call_len_seq (by rfl) T.b_len bt_len (pa_cons (pe_fld (pv 0) rfl) pa_nil)) pa_nil)))))))), ?_⟩
    show tRet _ _ [some (.ref p)] H
    have h1 := hL.obj
    have h2 : SqL K H lr (rs.map V.ref) := SqL.of hL.hr
    have h2' : SqL K H lc (cs.map V.ref) := SqL.of hL.hc
    have h3 := T.cl
    have h4 := T.nR
    have h5 := T.nM
    have h6 := T.nG
    have h7 := T.nC
    have h8 := T.nP
    walk_at "rd*"
    refine ⟨_, .inl h2', _, .inl h2, (by show 5 ≤ sizeLine; decide), fun q' H1 m1 => ?_⟩
    refine k _ _ m1.same m1.free ?_
    rw [m1.at_, List.length_map, List.length_map, Paired.len' hL.sp, Paired.len' hL.rd]
    simp [ansV, Kh343.doing]
end

section
variable {P : Program} {w : World} {K : PySem.W.Frag} {mg : Str → Option Value} {base : Heap} {C : Addr}
/-! ### what a making def leaves -/
def Keep (H H' : Hp) (L : List Addr) : Prop := ∀ b o, H b = some o → b ∉ L → H' b = some o
theorem Keep.refl (H : Hp) (L : List Addr) : Keep H H L := fun _ _ h _ => h
theorem Keep.same {H H' H'' : Hp} {L : List Addr} (k : Keep H H' L) (s : Same H' H'') : Keep H H'' L := fun b o h n => s _ _ (k b o h n)
theorem Keep.upd {H H' : Hp} {L : List Addr} {p : Addr} {o : HO} (k : Keep H H' L) (h : p ∈ L) : Keep H (upd H' p o) L := fun b u e n => upd_at (k b u e n) fun z => n (z ▸ h)
def TKeep (H H' : Hp) : Prop := ∀ b xs, H b = some (.tup xs) → H' b = some (.tup xs)
theorem TKeep.refl (H : Hp) : TKeep H H := fun _ _ h => h
theorem TKeep.same {H H' H'' : Hp} (k : TKeep H H') (s : Same H' H'') : TKeep H H'' := fun b xs h => s _ _ (k b xs h)
theorem TKeep.lst {H H' : Hp} {p : Addr} {xs : List V} {o : HO} (k : TKeep H H') (h : H' p = some (.lst xs)) : TKeep H (upd H' p o) := fun b ys e => upd_at (k b ys e) (ne_of (k b ys e) h (by intro z; cases z))
theorem TKeep.ins {H H' : Hp} {p c d : Addr} {fs : List (Str × V)} {o : HO} (k : TKeep H H') (h : H' p = some (.ins c d fs)) : TKeep H (upd H' p o) := fun b ys e => upd_at (k b ys e) (ne_of (k b ys e) h (by intro z; cases z))
theorem PairsAt.keep {H H' : Hp} {c : Addr} {l : List (Nat × Nat)} (h : PairsAt H c l) (k : TKeep H H') (e : ∀ xs, H c = some (.lst xs) → H' c = some (.lst xs)) : PairsAt H' c l := by
  obtain ⟨ts, h1, h2⟩ := h
  exact ⟨ts, e _ h1, Paired.imp' (fun p x z => k _ _ z) h2⟩
/-- the end that a making def wants -/
def Made (C : Addr) (H : Hp) (p : Addr) (L : List Addr) (s' : Option Abs) (v : V) (Q : VK) : Prop :=
  ∀ (H' : Hp) (L' : List Addr), CourseAt C H' p L' s' → Keep H H' L → (∀ b, b ∈ L' → b ∈ L ∨ H b = none) → Q v H'
/-- refused: all is as it was -/
theorem Made.no {H : Hp} {p : Addr} {L : List Addr} {s s' : Option Abs} {v v' : V} {Q : VK} (k : Made C H p L s' v Q) (hC : CourseAt C H p L s) (es : s' = s) (ev : v = v') : Q v' H := by
  subst es ev
  exact k H L hC (Keep.refl _ _) fun b h => .inl h
theorem CourseAt.obj {H : Hp} {p : Addr} {L : List Addr} {s : Option Abs} (h : CourseAt C H p L s) : p ∈ L ∧ ∃ dx m g lc n lr, H p = some (.ins C dx (cfs s.isSome m g lc n lr)) := by
  cases s with
  | none =>
    obtain ⟨dx, m, g, lc, n, lr, h1, h2⟩ := h
    exact ⟨by rw [h2]; simp, dx, m, g, lc, n, lr, h1⟩
  | some a =>
    obtain ⟨dx, lc, lr, cs, rs, h⟩ := h
    exact ⟨by rw [h.el]; simp, dx, _, _, lc, _, lr, h.obj⟩
theorem Lies.some {H : Hp} {p : Addr} {L : List Addr} {a : Abs} {dx lc lr : Addr} {cs rs : List Addr} (h : Lies C H p L a dx lc lr cs rs) {b : Addr} (hb : b ∈ L) : ∃ o, H b = some o := by
  rw [h.el] at hb
  rcases List.mem_cons.mp hb with e | hb
  · exact ⟨_, e ▸ h.obj⟩
  rcases List.mem_cons.mp hb with e | hb
  · exact ⟨_, e ▸ h.hc⟩
  rcases List.mem_cons.mp hb with e | hb
  · exact ⟨_, e ▸ h.hr⟩
  obtain ⟨i, hi⟩ := List.mem_iff_getElem?.mp hb
  obtain ⟨l, _, ts, h1, _⟩ := Paired.at_l h.sp hi
  exact ⟨_, h1⟩
theorem Lies.new {H : Hp} {p : Addr} {L : List Addr} {a : Abs} {dx lc lr : Addr} {cs rs : List Addr} (h : Lies C H p L a dx lc lr cs rs) {q : Addr} (hq : H q = none) : q ∉ L := fun m => by
  obtain ⟨o, e⟩ := h.some m
  rw [hq] at e
  cases e
def spMk0 (C : Addr) (call : Kh343.Call) : Sp := fun vs H Q _ => ∃ (p : Addr) (L : List Addr) (a : Abs), vs = [.ref p] ∧ CourseAt C H p L (some a) ∧ Made C H p L (Kh343.doing (some a) call).1 (.int (Kh343.doing (some a) call).2.ret) Q
def spMk1 (C : Addr) (call : Nat → Kh343.Call) : Sp := fun vs H Q _ => ∃ (p : Addr) (L : List Addr) (a : Abs) (x : Nat), vs = [.ref p, .int x] ∧ CourseAt C H p L (some a) ∧ Made C H p L (Kh343.doing (some a) (call x)).1 (.int (Kh343.doing (some a) (call x)).2.ret) Q
def spMk3 (C : Addr) (call : Nat → Nat → Nat → Kh343.Call) : Sp := fun vs H Q _ => ∃ (p : Addr) (L : List Addr) (a : Abs) (x y z : Nat), vs = [.ref p, .int x, .int y, .int z] ∧ CourseAt C H p L (some a) ∧ Made C H p L (Kh343.doing (some a) (call x y z)).1 (.int (Kh343.doing (some a) (call x y z)).2.ret) Q
def spMk4 (C : Addr) (call : Nat → Nat → Nat → Nat → Kh343.Call) : Sp := fun vs H Q _ => ∃ (p : Addr) (L : List Addr) (a : Abs) (x y z u : Nat), vs = [.ref p, .int x, .int y, .int z, .int u] ∧ CourseAt C H p L (some a) ∧ Made C H p L (Kh343.doing (some a) (call x y z u)).1 (.int (Kh343.doing (some a) (call x y z u)).2.ret) Q
def spBegin (C : Addr) : Sp := fun vs H Q _ => ∃ (p : Addr) (L : List Addr) (s : Option Abs) (x y : Nat), vs = [.ref p, .int x, .int y] ∧ CourseAt C H p L s ∧ Made C H p L (Kh343.doing s (.begin_ x y)).1 (.int (Kh343.doing s (.begin_ x y)).2.ret) Q
abbrev s_begin : Stmt := top 53
theorem sc_begin : FnScope ["course", "minutes", "gap"] ["course", "minutes", "gap"] (defScope s_begin) := ⟨rfl, rfl, rfl, by decide +kernel, rfl, by decide +kernel, by decide +kernel⟩
theorem ok_begin (D : IsDef K mg "begin" s_begin) (T : Txt K mg C) : Cal P w K mg base "begin" 1 ["course", "minutes", "gap"] (spBegin C) := by
  refine cal_mk D sc_begin (fun _ _ _ _ _ _ => us3 (fun _ _ _ => rfl)) (fun vs H Q E h => ?_) (fun f cdv A outer s H vs Q E hr h => ?_)
  · obtain ⟨p, L, a, x, y, rfl, _⟩ := h
    rfl
  · obtain ⟨p, L, st, x, y, rfl, hC, k⟩ := h
    refine ⟨_, (pss_cons (ps_if ((pw_or (pt_not (pt_chain op_le op_le pe_int (pv 1) (pe_gl T.g_MOST_MINUTES))) (pw_or1 (pt_not (pt_chain op_le op_le pe_int (pv 2) (pe_gl T.g_MOST_GAP)))))).pt
    (pss_one (ps_ret (pe_gl T.g_WRONG)))
    pss_nil)
    (pss_cons (ps_fld (pv 0) pe_bl rfl)
    (pss_cons (ps_fld (pv 0) (pv 1) rfl)
    (pss_cons (ps_fld (pv 0) (pv 2) rfl)
    (pss_cons (ps_fld (pv 0) (pe_lst pa_nil) rfl)
    (pss_cons (ps_fld (pv 0) pe_int rfl)
    (pss_cons (ps_fld (pv 0) (pe_lst pa_nil) rfl)
    (pss_one (ps_ret pe_int))))))))), ?_⟩
    show tSeq _ _ _ [some (.ref p), some (.int x), some (.int y)] H
    obtain ⟨hp, dx, m, g, lc, n, lr, h1⟩ := hC.obj
    have h2 := T.cl
    have h3 := T.nB
    have h4 := T.nM
    have h5 := T.nG
    have h6 := T.nC
    have h7 := T.nP
    have h8 := T.nR
    walk_at "rdw*"
    have hno : x < 1 ∨ 120 < x ∨ y < 1 ∨ 8 < y → Q (V.int (-22)) H := fun z => k.no hC (by simp only [Kh343.doing, if_pos z]) (by simp only [Kh343.doing, if_pos z]; rfl)
    split
    · split
      · exact hno (by omega)
      · split
        · split
          · exact hno (by omega)
          · have hz : ¬ (x < 1 ∨ 120 < x ∨ y < 1 ∨ 8 < y) := by omega
            refine ⟨(by show 6 < 1000; decide), (by show 6 < 1000; decide), (by show 6 < 1000; decide), Nat.zero_le _, fun p1 H1 m1 => ?_⟩
            have e1 := m1.same _ _ (upd_same (H := H) (a := p))
            refine ⟨_, _, _, e1, h2, h6, (by show 6 < 1000; decide), h2, h7, ?_⟩
            walk_at "rdw*"
            refine ⟨(by show 6 < 1000; decide), Nat.zero_le _, fun p2 H2 m2 => ?_⟩
            have e2 := m2.same _ _ (upd_same (H := H1) (a := p))
            refine ⟨_, _, _, e2, h2, h8, (by show 6 < 1000; decide), ?_⟩
            walk_at "rdw*"
            have np1 : H p1 = none := by
              have := m1.free
              by_cases q : p1 = p
              · rw [q, upd_same] at this
                cases this
              · rw [upd_ne q] at this
                exact this
            have f2 : H1 p2 = none := by
              have := m2.free
              by_cases q : p2 = p
              · rw [q, upd_same] at this
                cases this
              · rw [upd_ne q] at this
                exact this
            have a1 : p1 ≠ p := fun q => by rw [q, h1] at np1; cases np1
            have a2 : p2 ≠ p := fun q => by rw [q, e1] at f2; cases f2
            have a12 : p2 ≠ p1 := fun q => by rw [q, m1.at_] at f2; cases f2
            have np2 : H p2 = none := by
              have := m1.same.free f2
              rw [upd_ne a2] at this
              exact this
            have g1 : (upd H1 p (.ins C dx (cfs true x y p1 0 lr))) p1 = some (.lst []) := upd_at m1.at_ a1
            have ek : Kh343.doing st (.begin_ x y) = (some (Kh343.begun x y), Kh343.say 0) := by simp only [Kh343.doing, if_neg hz]
            rw [ek] at k
            refine k _ [p, p1, p2] ?_ ?_ ?_
            · refine ⟨dx, p1, p2, [], [], ⟨upd_same, upd_at (m2.same _ _ g1) a1, upd_at m2.at_ a2, .nil, .nil, rfl, ?_, begun_ok hz⟩⟩
              simp [a1.symm, a2.symm, a12.symm]
            · intro b o hb hbL
              have n0 : b ≠ p := fun q => hbL (q ▸ hp)
              exact upd_at (m2.same _ _ (upd_at (m1.same _ _ (upd_at hb n0)) n0)) n0
            · intro b hb
              simp at hb
              rcases hb with rfl | rfl | rfl
              · exact .inl hp
              · exact .inr np1
              · exact .inr np2
        · exact hno (by omega)
    · exact hno (by omega)
end

section
variable {P : Program} {w : World} {K : PySem.W.Frag} {mg : Str → Option Value} {base : Heap} {C : Addr}
theorem Lies.ne {H : Hp} {p : Addr} {L : List Addr} {a : Abs} {dx lc lr : Addr} {cs rs : List Addr} (h : Lies C H p L a dx lc lr cs rs) : lc ≠ p ∧ lr ≠ p ∧ lc ≠ lr ∧ (∀ c ∈ cs, c ≠ p) ∧ (∀ c ∈ cs, c ≠ lc) ∧ (∀ c ∈ cs, c ≠ lr) ∧ cs.Nodup := by
  have n := h.nd
  simp only [List.nodup_cons, List.mem_cons, not_or] at n
  obtain ⟨⟨n1, n2, n3⟩, ⟨n4, n5⟩, n6, n7⟩ := n
  exact ⟨fun q => n1 q.symm, fun q => n2 q.symm, n4, fun c hc q => n3 (q ▸ hc), fun c hc q => n5 (q ▸ hc), fun c hc q => n6 (q ▸ hc), n7⟩
/-- the object written anew: the lists are as they were -/
theorem Lies.field {H : Hp} {p : Addr} {L : List Addr} {a a' : Abs} {dx lc lr : Addr} {cs rs : List Addr} (h : Lies C H p L a dx lc lr cs rs) (e1 : a'.spans = a.spans) (e2 : a'.roads = a.roads) (ok : AbsOk a') :
    Lies C (upd H p (.ins C dx (cfs true a'.day a'.need lc a'.places lr))) p L a' dx lc lr cs rs := by
  obtain ⟨n1, n2, n3, n4, n5, n6, n7⟩ := h.ne
  have tk : TKeep H (upd H p (.ins C dx (cfs true a'.day a'.need lc a'.places lr))) := (TKeep.refl H).ins h.obj
  refine ⟨upd_same, upd_at h.hc n1, upd_at h.hr n2, ?_, ?_, h.el, h.nd, ok⟩
  · rw [e1]
    exact Paired.mem' h.sp fun c l hc z => z.keep tk fun xs e => upd_at e (n4 c hc)
  · rw [e2]
    exact Paired.imp' (fun r x z => tk _ _ z) h.rd
abbrev s_change_gap : Stmt := top 59
theorem sc_change_gap : FnScope ["course", "n", "needed"] ["course", "n"] (defScope s_change_gap) := ⟨rfl, rfl, rfl, by decide +kernel, rfl, by decide +kernel, by decide +kernel⟩
theorem ok_change_gap (D : IsDef K mg "change_gap" s_change_gap) (T : Txt K mg C) : Cal P w K mg base "change_gap" 1 ["course", "n"] (spMk1 C .need) := by
  refine cal_mk D sc_change_gap (fun _ _ _ _ _ _ => us2 (fun _ _ => rfl)) (fun vs H Q E h => ?_) (fun f cdv A outer s H vs Q E hr h => ?_)
  · obtain ⟨p, L, a, x, rfl, _⟩ := h
    rfl
  · obtain ⟨p, L, a, x, rfl, hC, k⟩ := h
    have hC' := hC
    obtain ⟨dx, lc, lr, cs, rs, hL⟩ := hC
    refine ⟨_, (pss_cons (ps_if (pt_not (pt_chain op_le op_le pe_int (pv 1) (pe_gl T.g_MOST_GAP)))
    (pss_one (ps_ret (pe_gl T.g_WRONG)))
    pss_nil)
    (pss_cons (ps_set (i := 2) sc_change_gap.nd rfl (by first | exact Or.inl rfl | exact Or.inr rfl) (pe_fld (pv 0) rfl))
    (pss_cons (ps_fld (pv 0) (pv 1) rfl)
    (pss_one (ps_ret (pv 2)))))), ?_⟩
    show tSeq _ _ _ [some (.ref p), some (.int x), none] H
    have h1 := hL.obj
    have h2 := T.cl
    have h5 := T.nG
    walk_at "rdw*"
    have hno : x < 1 ∨ 8 < x → Q (V.int (-22)) H := fun z => k.no hC' (by simp only [Kh343.doing, if_pos z]) (by simp only [Kh343.doing, if_pos z]; rfl)
    split
    · split
      · exact hno (by omega)
      · have hz : ¬ (x < 1 ∨ 8 < x) := by omega
        refine ⟨(by show 6 < 1000; decide), ?_⟩
        have ek : Kh343.doing (some a) (.need x) = (some { a with need := x }, Kh343.say a.need) := by simp only [Kh343.doing, if_neg hz]
        rw [ek] at k
        exact k _ L ⟨dx, lc, lr, cs, rs, hL.field (a' := { a with need := x }) rfl rfl (need_ok hL.ok (by omega) (by omega))⟩ ((Keep.refl _ _).upd (by rw [hL.el]; simp)) fun b hb => .inl hb
    · exact hno (by omega)
abbrev s_add_place : Stmt := top 57
theorem sc_add_place : FnScope ["course"] ["course"] (defScope s_add_place) := ⟨rfl, rfl, rfl, by decide +kernel, rfl, by decide +kernel, by decide +kernel⟩
theorem ok_add_place (D : IsDef K mg "add_place" s_add_place) (T : Txt K mg C) : Cal P w K mg base "add_place" 1 ["course"] (spMk0 C .place) := by
  refine cal_mk D sc_add_place (fun _ _ _ _ _ _ => us1 (fun _ => rfl)) (fun vs H Q E h => ?_) (fun f cdv A outer s H vs Q E hr h => ?_)
  · obtain ⟨p, L, a, rfl, _⟩ := h
    rfl
  · obtain ⟨p, L, a, rfl, hC, k⟩ := h
    have hC' := hC
    obtain ⟨dx, lc, lr, cs, rs, hL⟩ := hC
    refine ⟨_, (pss_cons (ps_if (pt_cmpR op_eq (pe_fld (pv 0) rfl) (pe_gl T.g_MOST_PLACES) (nomark _))
    (pss_one (ps_ret (pe_gl T.g_FULL)))
    pss_nil)
    (pss_cons (ps_fldaug (pv 0) pe_int in_add)
    (pss_one (ps_ret (pe_op op_sub (pe_fld (pv 0) rfl) pe_int))))), ?_⟩
    show tSeq _ _ _ [some (.ref p)] H
    have h1 := hL.obj
    have h2 := T.cl
    have h5 := T.nP
    have h6 := hL.ok.place
    walk_at "rdw*"
    refine ⟨rfl, ?_⟩
    split
    · rename_i h
      have z : Kh343.PLACES ≤ a.places := by unfold Kh343.PLACES; omega
      exact k.no hC' (by simp only [Kh343.doing, if_pos z]) (by simp only [Kh343.doing, if_pos z]; rfl)
    · rename_i h
      have z : ¬ Kh343.PLACES ≤ a.places := by unfold Kh343.PLACES; omega
      have ek : Kh343.doing (some a) .place = (some { a with places := a.places + 1 }, Kh343.say a.places) := by simp only [Kh343.doing, if_neg z]
      rw [ek] at k
      refine ⟨(by show 6 < 1000; decide), ?_⟩
      rw [Int.add_sub_cancel]
      exact k _ L ⟨dx, lc, lr, cs, rs, hL.field (a' := { a with places := a.places + 1 }) rfl rfl (place_ok hL.ok (by unfold Kh343.PLACES at z; omega))⟩ ((Keep.refl _ _).upd (by rw [hL.el]; simp)) fun b hb => .inl hb
abbrev s_add_crossing : Stmt := top 54
theorem sc_add_crossing : FnScope ["course"] ["course"] (defScope s_add_crossing) := ⟨rfl, rfl, rfl, by decide +kernel, rfl, by decide +kernel, by decide +kernel⟩
theorem ok_add_crossing (D : IsDef K mg "add_crossing" s_add_crossing) (T : Txt K mg C) : Cal P w K mg base "add_crossing" 1 ["course"] (spMk0 C .crossing) := by
  refine cal_mk D sc_add_crossing (fun _ _ _ _ _ _ => us1 (fun _ => rfl)) (fun vs H Q E h => ?_) (fun f cdv A outer s H vs Q E hr h => ?_)
  · obtain ⟨p, L, a, rfl, _⟩ := h
    rfl
  · obtain ⟨p, L, a, rfl, hC, k⟩ := h
    have hC' := hC
    obtain ⟨dx, lc, lr, cs, rs, hL⟩ := hC
    refine ⟨_, (pss_cons (ps_if (pt_cmpR op_eq (pe_callB call_len_seq (by rfl) T.b_len bt_len (pa_cons (pe_fld (pv 0) rfl) pa_nil)) (pe_gl T.g_MOST_CROSSINGS) (nomark _))
    (pss_one (ps_ret (pe_gl T.g_FULL)))
    pss_nil)
    (pss_cons (ps_expr (pe_bm PySem.F.plainAttrs_list PySem.F.slot_list_append PySem.F.type_list_append mt_append (pe_fld (pv 0) rfl) (pa_cons (pe_lst pa_nil) pa_nil)))
    (pss_one (ps_ret (pe_op op_sub (pe_callB call_len_seq (by rfl) T.b_len bt_len (pa_cons (pe_fld (pv 0) rfl) pa_nil)) pe_int))))), ?_⟩
    show tSeq _ _ _ [some (.ref p)] H
    have h1 := hL.obj
    have h2 := T.cl
    have h5 := T.nC
    have h6 := hL.ok.cross
    have hlen := Paired.len' hL.sp
    have hS : SqL K H lc (cs.map V.ref) := SqL.of hL.hc
    walk_at "rdw*"
    refine ⟨_, .inl hS, rfl, ?_⟩
    rw [List.length_map, hlen]
    split
    · rename_i h
      have z : Kh343.CROSSINGS ≤ a.spans.length := by unfold Kh343.CROSSINGS; omega
      exact k.no hC' (by simp only [Kh343.doing, if_pos z]) (by simp only [Kh343.doing, if_pos z]; rfl)
    · rename_i h
      have z : ¬ Kh343.CROSSINGS ≤ a.spans.length := by unfold Kh343.CROSSINGS; omega
      have ek : Kh343.doing (some a) .crossing = (some { a with spans := a.spans ++ [[]] }, Kh343.say a.spans.length) := by simp only [Kh343.doing, if_neg z]
      rw [ek] at k
      obtain ⟨n1, n2, n3, n4, n5, n6, n7⟩ := hL.ne
      refine ⟨.inl ⟨rfl, _, hS⟩, Nat.zero_le _, fun q H1 m1 => ?_⟩
      have e1 := m1.same _ _ hL.hc
      have o1 := m1.same _ _ hL.obj
      refine ⟨_, e1, ?_, ?_⟩
      · rw [List.length_map, hlen, sizeLine_eq]
        omega
      have e2 : upd H1 lc (.lst (cs.map V.ref ++ [.ref q])) p = some (.ins C dx (cfs true a.day a.need lc a.places lr)) := upd_at o1 n1.symm
      walk_at "rdw*"
      refine ⟨_, .inl (SqL.of upd_same), ?_⟩
      rw [List.length_append, List.length_map, hlen, show (((a.spans.length + [V.ref q].length : Nat) : Int) - 1) = (a.spans.length : Int) by simp]
      have tk : TKeep H (upd H1 lc (.lst (cs.map V.ref ++ [.ref q]))) := ((TKeep.refl H).same m1.same).lst e1
      have hq := hL.new m1.free
      rw [hL.el] at hq
      simp only [List.mem_cons, not_or] at hq
      obtain ⟨q1, q2, q3, q4⟩ := hq
      refine k _ (p :: lc :: lr :: (cs ++ [q])) ⟨dx, lc, lr, cs ++ [q], rs, ⟨e2, ?_, upd_at (m1.same _ _ hL.hr) n3.symm, ?_, Paired.imp' (fun r x y => tk _ _ y) hL.rd, rfl, ?_, crossing_ok hL.ok (by unfold Kh343.CROSSINGS at z; omega)⟩⟩ ?_ ?_
      · rw [upd_same, List.map_append]
        rfl
      · refine Paired.snoc ⟨[], upd_at m1.at_ q2, .nil⟩ (Paired.mem' hL.sp fun c l hc y => y.keep tk fun xs e => upd_at (m1.same _ _ e) (n5 c hc))
      · exact nd_snoc (l := p :: lc :: lr :: cs) hL.nd (by rw [← hL.el]; exact hL.new m1.free)
      · exact ((Keep.refl _ _).same m1.same).upd (by rw [hL.el]; simp)
      · intro b hb
        rw [hL.el]
        simp only [List.mem_cons, List.mem_append, List.mem_singleton] at hb ⊢
        rcases hb with hb | hb | hb | hb | hb
        · exact .inl (.inl hb)
        · exact .inl (.inr (.inl hb))
        · exact .inl (.inr (.inr (.inl hb)))
        · exact .inl (.inr (.inr (.inr hb)))
        · have : b = q := by simpa using hb
          exact .inr (this ▸ m1.free)
end

section
variable {P : Program} {w : World} {K : PySem.W.Frag} {mg : Str → Option Value} {base : Heap} {C : Addr}
theorem Paired.one' {α β : Type} {R R' : α → β → Prop} {q : α} {y : β} (hy : R' q y) : ∀ {l : List α} {m : List β} {c : Nat}, Paired R l m → l.Nodup → l[c]? = some q → (∀ b x, b ∈ l → b ≠ q → R b x → R' b x) → Paired R' l (m.set c y)
  | _, _, c, .nil, _, h, _ => by simp at h
  | _, _, 0, .cons r t, nd, h, k => by
    simp at h
    subst h
    have nd := List.nodup_cons.mp nd
    exact .cons hy (Paired.mem' t fun b x hb z => k b x (by simp [hb]) (fun e => nd.1 (e ▸ hb)) z)
  | _, _, c + 1, .cons r t, nd, h, k => by
    simp at h
    have nd := List.nodup_cons.mp nd
    refine .cons (k _ _ (by simp) (fun e => nd.1 (e ▸ List.mem_of_getElem? h)) r) (Paired.one' hy t nd.2 h fun b x hb => k b x (by simp [hb]))
theorem nodup_set {α : Type} {q : α} : ∀ {l : List α} (c : Nat), l.Nodup → q ∉ l → (l.set c q).Nodup
  | [], _, _, _ => by simp
  | a :: l, 0, nd, h => by
    have nd := List.nodup_cons.mp nd
    exact List.nodup_cons.mpr ⟨fun z => h (by simp [z]), nd.2⟩
  | a :: l, c + 1, nd, h => by
    have nd := List.nodup_cons.mp nd
    refine List.nodup_cons.mpr ⟨fun z => ?_, nodup_set c nd.2 fun z => h (by simp [z])⟩
    rcases List.mem_or_eq_of_mem_set z with e | e
    · exact nd.1 e
    · exact h (by simp [e])
abbrev s_add_span : Stmt := top 55
theorem sc_add_span : FnScope ["course", "c", "start", "length", "spans"] ["course", "c", "start", "length"] (defScope s_add_span) := ⟨rfl, rfl, rfl, by decide +kernel, rfl, by decide +kernel, by decide +kernel⟩
theorem ok_add_span (D : IsDef K mg "add_span" s_add_span) (T : Txt K mg C) (c_has_crossing : Cal P w K mg base "has_crossing" 1 ["course", "c"] (spHasCrossing C)) : Cal P w K mg base "add_span" 2 ["course", "c", "start", "length"] (spMk3 C .span) := by
  refine cal_mk D sc_add_span (fun _ _ _ _ _ _ => us4 (fun _ _ _ _ => rfl)) (fun vs H Q E h => ?_) (fun f cdv A outer s H vs Q E hr h => ?_)
  · obtain ⟨p, L, a, c, x, y, rfl, _⟩ := h
    rfl
  · obtain ⟨p, L, a, c, x, y, rfl, hC, k⟩ := h
    have hC' := hC
    obtain ⟨dx, lc, lr, cs, rs, hL⟩ := hC
    refine ⟨_, (pss_cons (ps_if (pt_not (pt_val (pe_own c_has_crossing (hr.mono (by decide)) (pa_cons (pv 0) (pa_cons (pv 1) pa_nil)))))
    (pss_one (ps_ret (pe_gl T.g_NO_SUCH)))
    pss_nil)
    (pss_cons (ps_if ((pw_or (pt_cmpR op_eq (pv 3) pe_int (nomark _)) (pw_or1 (pt_cmpR op_gt (pe_op op_add (pv 2) (pv 3)) (pe_fld (pv 0) rfl) (nomark _))))).pt
    (pss_one (ps_ret (pe_gl T.g_WRONG)))
    pss_nil)
    (pss_cons (ps_set (i := 4) sc_add_span.nd rfl (by first | exact Or.inl rfl | exact Or.inr rfl) (pe_ix ix_list (pe_fld (pv 0) rfl) (pv 1) (fun _ _ => rfl)))
    (pss_cons (ps_if (pt_cmpR op_eq (pe_callB call_len_seq (by rfl) T.b_len bt_len (pa_cons (pv 4) pa_nil)) (pe_gl T.g_MOST_SPANS) (nomark _))
    (pss_one (ps_ret (pe_gl T.g_FULL)))
    pss_nil)
    (pss_cons (ps_expr (pe_bm PySem.F.plainAttrs_list PySem.F.slot_list_append PySem.F.type_list_append mt_append (pv 4) (pa_cons (pe_tup (pa_cons (pv 2) (pa_cons (pv 3) pa_nil))) pa_nil)))
    (pss_one (ps_ret (pe_callB call_len_seq (by rfl) T.b_len bt_len (pa_cons (pv 4) pa_nil))))))))), ?_⟩
    show tSeq _ _ _ [some (.ref p), some (.int c), some (.int x), some (.int y), none] H
    have h1 := hL.obj
    have h2 := T.cl
    have h5 := T.nC
    have h6 := T.nM
    have hS : SqL K H lc (cs.map V.ref) := SqL.of hL.hc
    walk_at "rd"
    refine ⟨p, L, a, c, rfl, hC', ?_⟩
    walk_at "rdw*"
    by_cases hc : c < a.spans.length
    · rw [if_neg (by simpa using hc)]
      have es : a.spans[c]? = some a.spans[c] := List.getElem?_eq_getElem hc
      obtain ⟨q, hq, ts, hts, hpp⟩ := Paired.at' hL.sp es
      have hlen := Paired.len' hpp
      have hok := hL.ok.span _ (List.mem_of_getElem? es)
      refine ⟨rfl, ?_⟩
      have hbad : y < 1 ∨ a.day < x + y → Q (V.int (-22)) H := fun z => k.no hC' (by simp only [Kh343.doing, es, if_pos z]) (by simp only [Kh343.doing, es, if_pos z]; rfl)
      split
      · rename_i hy
        exact hbad (.inl (by omega))
      · rename_i hy
        split
        · rename_i hd
          exact hbad (.inr (by omega))
        · rename_i hd
          have z1 : ¬ (y < 1 ∨ a.day < x + y) := by omega
          refine ⟨_, hS, _, at_map hq, ?_⟩
          have hq' : SqL K H q (ts.map V.ref) := SqL.of hts
          walk_at "rdw*"
          refine ⟨_, .inl hq', rfl, ?_⟩
          rw [List.length_map, hlen]
          split
          · rename_i h
            have z : Kh343.SPANS ≤ a.spans[c].length := by unfold Kh343.SPANS; omega
            exact k.no hC' (by simp only [Kh343.doing, es, if_neg z1, if_pos z]) (by simp only [Kh343.doing, es, if_neg z1, if_pos z]; rfl)
          · rename_i h
            have z : ¬ Kh343.SPANS ≤ a.spans[c].length := by unfold Kh343.SPANS; omega
            have ek : Kh343.doing (some a) (.span c x y) = (some { a with spans := a.spans.set c (a.spans[c] ++ [(x, y)]) }, Kh343.say (a.spans[c].length + 1 : Nat)) := by simp only [Kh343.doing, es, if_neg z1, if_neg z]
            rw [ek] at k
            obtain ⟨n1, n2, n3, n4, n5, n6, n7⟩ := hL.ne
            have mq : q ∈ cs := List.mem_of_getElem? hq
            refine ⟨.inl ⟨rfl, _, hq'⟩, (by show 2 ≤ sizeLine; decide), fun t H1 m1 => ⟨_, m1.same _ _ hts, ?_, _, .inl (SqL.of upd_same), ?_⟩⟩
            · rw [List.length_map, hlen, sizeLine_eq]
              omega
            rw [List.length_append, List.length_map, hlen]
            have tk : TKeep H (upd H1 q (.lst (ts.map V.ref ++ [.ref t]))) := ((TKeep.refl H).same m1.same).lst (m1.same _ _ hts)
            have tk1 : TKeep H1 (upd H1 q (.lst (ts.map V.ref ++ [.ref t]))) := (TKeep.refl H1).lst (m1.same _ _ hts)
            refine k _ L ⟨dx, lc, lr, cs, rs, ⟨upd_at (m1.same _ _ hL.obj) (n4 q mq).symm, upd_at (m1.same _ _ hL.hc) (n5 q mq).symm, upd_at (m1.same _ _ hL.hr) (n6 q mq).symm, ?_, Paired.imp' (fun r x y => tk _ _ y) hL.rd, hL.el, hL.nd, span_ok hL.ok es (by omega) (by omega) (by unfold Kh343.SPANS at z; omega)⟩⟩ ?_ fun b hb => .inl hb
            · refine Paired.one' ?_ hL.sp n7 hq fun b x hb hne y => y.keep tk fun xs e => upd_at (m1.same _ _ e) hne
              refine ⟨ts ++ [t], ?_, Paired.snoc (R := TupAt _) (b := (x, y)) (tk1 _ _ m1.at_) (Paired.imp' (fun _ _ e => tk _ _ e) hpp)⟩
              rw [upd_same, List.map_append]
              rfl
            · exact ((Keep.refl _ _).same m1.same).upd (by rw [hL.el]; simp [mq])
    · rw [if_pos (by simpa using hc)]
      have es : a.spans[c]? = none := List.getElem?_eq_none (by omega)
      exact k.no hC' (by simp only [Kh343.doing, es]) (by simp only [Kh343.doing, es]; rfl)
abbrev s_clear_spans : Stmt := top 56
theorem sc_clear_spans : FnScope ["course", "c", "had"] ["course", "c"] (defScope s_clear_spans) := ⟨rfl, rfl, rfl, by decide +kernel, rfl, by decide +kernel, by decide +kernel⟩
theorem ok_clear_spans (D : IsDef K mg "clear_spans" s_clear_spans) (T : Txt K mg C) (c_has_crossing : Cal P w K mg base "has_crossing" 1 ["course", "c"] (spHasCrossing C)) : Cal P w K mg base "clear_spans" 2 ["course", "c"] (spMk1 C .clear) := by
  refine cal_mk D sc_clear_spans (fun _ _ _ _ _ _ => us2 (fun _ _ => rfl)) (fun vs H Q E h => ?_) (fun f cdv A outer s H vs Q E hr h => ?_)
  · obtain ⟨p, L, a, c, rfl, _⟩ := h
    rfl
  · obtain ⟨p, L, a, c, rfl, hC, k⟩ := h
    have hC' := hC
    obtain ⟨dx, lc, lr, cs, rs, hL⟩ := hC
    refine ⟨_, (pss_cons (ps_if (pt_not (pt_val (pe_own c_has_crossing (hr.mono (by decide)) (pa_cons (pv 0) (pa_cons (pv 1) pa_nil)))))
    (pss_one (ps_ret (pe_gl T.g_NO_SUCH)))
    pss_nil)
    (pss_cons (ps_set (i := 2) sc_clear_spans.nd rfl (by first | exact Or.inl rfl | exact Or.inr rfl) (pe_callB call_len_seq (by rfl) T.b_len bt_len (pa_cons (pe_ix ix_list (pe_fld (pv 0) rfl) (pv 1) (fun _ _ => rfl)) pa_nil)))
    (pss_cons (ps_asg (pe_lst pa_nil) (pg_sub (pe_fld (pv 0) rfl) (pv 1) set_list))
    (pss_one (ps_ret (pv 2)))))), ?_⟩
    show tSeq _ _ _ [some (.ref p), some (.int c), none] H
    have h1 := hL.obj
    have h2 := T.cl
    have h5 := T.nC
    have hS : SqL K H lc (cs.map V.ref) := SqL.of hL.hc
    walk_at "rd"
    refine ⟨p, L, a, c, rfl, hC', ?_⟩
    walk_at "rdw*"
    by_cases hc : c < a.spans.length
    · rw [if_neg (by simpa using hc)]
      have es : a.spans[c]? = some a.spans[c] := List.getElem?_eq_getElem hc
      obtain ⟨q, hq, ts, hts, hpp⟩ := Paired.at' hL.sp es
      have hlen := Paired.len' hpp
      have hlc := Paired.len' hL.sp
      have hq' : SqL K H q (ts.map V.ref) := SqL.of hts
      refine ⟨_, hS, _, at_map hq, ?_⟩
      walk_at "rdw*"
      refine ⟨_, .inl hq', Nat.zero_le _, fun t H1 m1 => ?_⟩
      have o1 := m1.same _ _ hL.obj
      have e1 := m1.same _ _ hL.hc
      walk_at "rdw*"
      refine ⟨c, ?_, ?_⟩
      · rw [List.length_map]
        exact ixN_nat (by omega)
      rw [List.length_map, hlen]
      have ek : Kh343.doing (some a) (.clear c) = (some { a with spans := a.spans.set c [] }, Kh343.say a.spans[c].length) := by simp only [Kh343.doing, es]
      rw [ek] at k
      obtain ⟨n1, n2, n3, n4, n5, n6, n7⟩ := hL.ne
      have hq := hL.new m1.free
      rw [hL.el] at hq
      simp only [List.mem_cons, not_or] at hq
      obtain ⟨q1, q2, q3, q4⟩ := hq
      have tk : TKeep H (upd H1 lc (.lst ((cs.map V.ref).set c (.ref t)))) := ((TKeep.refl H).same m1.same).lst e1
      refine k _ (p :: lc :: lr :: cs.set c t) ⟨dx, lc, lr, cs.set c t, rs, ⟨upd_at o1 n1.symm, ?_, upd_at (m1.same _ _ hL.hr) n3.symm, ?_, Paired.imp' (fun r x y => tk _ _ y) hL.rd, rfl, ?_, clear_ok hL.ok c⟩⟩ ?_ ?_
      · rw [upd_same, List.map_set]
      · exact Paired.set' ⟨[], upd_at m1.at_ q2, .nil⟩ c (Paired.mem' hL.sp fun c' l hc' y => y.keep tk fun xs e => upd_at (m1.same _ _ e) (n5 c' hc'))
      · exact nodup_set (l := p :: lc :: lr :: cs) (c + 3) hL.nd (by simp only [List.mem_cons, not_or]; exact ⟨q1, q2, q3, q4⟩)
      · exact ((Keep.refl _ _).same m1.same).upd (by rw [hL.el]; simp)
      · intro b hb
        rw [hL.el]
        simp only [List.mem_cons] at hb ⊢
        rcases hb with hb | hb | hb | hb
        · exact .inl (.inl hb)
        · exact .inl (.inr (.inl hb))
        · exact .inl (.inr (.inr (.inl hb)))
        · rcases List.mem_or_eq_of_mem_set hb with e | e
          · exact .inl (.inr (.inr (.inr e)))
          · exact .inr (e ▸ m1.free)
    · rw [if_pos (by simpa using hc)]
      have es : a.spans[c]? = none := List.getElem?_eq_none (by omega)
      exact k.no hC' (by simp only [Kh343.doing, es]) (by simp only [Kh343.doing, es]; rfl)
theorem both_if {u A T : Prop} [Decidable u] (hA : u → T → A) (hT : T) : if u then A else T := by
  by_cases h : u
  · rw [if_pos h]
    exact hA h hT
  · rw [if_neg h]
    exact hT
abbrev s_add_road : Stmt := top 58
theorem sc_add_road : FnScope ["course", "p", "q", "length", "over"] ["course", "p", "q", "length", "over"] (defScope s_add_road) := ⟨rfl, rfl, rfl, by decide +kernel, rfl, by decide +kernel, by decide +kernel⟩
theorem ok_add_road (D : IsDef K mg "add_road" s_add_road) (T : Txt K mg C) (c_has_crossing : Cal P w K mg base "has_crossing" 1 ["course", "c"] (spHasCrossing C)) (c_has_place : Cal P w K mg base "has_place" 1 ["course", "p"] (spHasPlace C)) :
    Cal P w K mg base "add_road" 2 ["course", "p", "q", "length", "over"] (spMk4 C .road) := by
  refine cal_mk D sc_add_road (fun _ _ _ _ _ _ => us5 (fun _ _ _ _ _ => rfl)) (fun vs H Q E h => ?_) (fun f cdv A outer s H vs Q E hr h => ?_)
  · obtain ⟨p, L, a, x, y, z, u, rfl, _⟩ := h
    rfl
  · obtain ⟨p, L, a, x, y, l, u, rfl, hC, k⟩ := h
    have hC' := hC
    obtain ⟨dx, lc, lr, cs, rs, hL⟩ := hC
    refine ⟨_, (pss_cons (ps_if ((pw_or (pt_not (pt_val (pe_own c_has_place (hr.mono (by decide)) (pa_cons (pv 0) (pa_cons (pv 1) pa_nil))))) (pw_or1 (pt_not (pt_val (pe_own c_has_place (hr.mono (by decide)) (pa_cons (pv 0) (pa_cons (pv 2) pa_nil)))))))).pt
    (pss_one (ps_ret (pe_gl T.g_NO_SUCH)))
    pss_nil)
    (pss_cons (ps_if ((pw_and (pt_cmpR op_gt (pv 4) pe_int (nomark _)) (pw_and1 (pt_not (pt_val (pe_own c_has_crossing (hr.mono (by decide)) (pa_cons (pv 0) (pa_cons (pe_op op_sub (pv 4) pe_int) pa_nil)))))))).pt
    (pss_one (ps_ret (pe_gl T.g_NO_SUCH)))
    pss_nil)
    (pss_cons (ps_if ((pw_or (pt_cmpR op_eq (pv 1) (pv 2) (nomark _)) (pw_or1 (pt_not (pt_chain op_le op_le pe_int (pv 3) (pe_gl T.g_MOST_ROAD_MINUTES)))))).pt
    (pss_one (ps_ret (pe_gl T.g_WRONG)))
    pss_nil)
    (pss_cons (ps_if (pt_cmpR op_eq (pe_callB call_len_seq (by rfl) T.b_len bt_len (pa_cons (pe_fld (pv 0) rfl) pa_nil)) (pe_gl T.g_MOST_ROADS) (nomark _))
    (pss_one (ps_ret (pe_gl T.g_FULL)))
    pss_nil)
    (pss_cons (ps_expr (pe_bm PySem.F.plainAttrs_list PySem.F.slot_list_append PySem.F.type_list_append mt_append (pe_fld (pv 0) rfl) (pa_cons (pe_tup (pa_cons (pv 1) (pa_cons (pv 2) (pa_cons (pv 3) (pa_cons (pv 4) pa_nil))))) pa_nil)))
    (pss_one (ps_ret (pe_op op_sub (pe_callB call_len_seq (by rfl) T.b_len bt_len (pa_cons (pe_fld (pv 0) rfl) pa_nil)) pe_int)))))))), ?_⟩
    show tSeq _ _ _ [some (.ref p), some (.int x), some (.int y), some (.int l), some (.int u)] H
    have h1 := hL.obj
    have h2 := T.cl
    have h5 := T.nR
    have hS : SqL K H lr (rs.map V.ref) := SqL.of hL.hr
    walk_at "rd"
    refine ⟨p, L, a, x, rfl, hC', ?_⟩
    walk_at "rdw*"
    have hno : a.places ≤ x ∨ a.places ≤ y ∨ a.spans.length < u → Q (V.int (-2)) H := fun z => k.no hC' (by simp only [Kh343.doing, if_pos z]) (by simp only [Kh343.doing, if_pos z]; rfl)
    by_cases hx : x < a.places
    · rw [if_neg (by simpa using hx)]
      refine ⟨p, L, a, y, rfl, hC', _, rfl, ?_⟩
      by_cases hy : y < a.places
      · rw [if_neg (by simpa using hy)]
        by_cases hk : u ≤ a.spans.length
        · have z1 : ¬ (a.places ≤ x ∨ a.places ≤ y ∨ a.spans.length < u) := by omega
          refine both_if (fun hu t => ⟨p, L, a, u - 1, ?_, hC', _, rfl, ?_⟩) ?_
          · rw [show ((u : Int) - 1) = ((u - 1 : Nat) : Int) by omega]
          · rw [if_neg (by simp; omega)]
            exact t
          have hbad : x = y ∨ l < 1 ∨ 100 < l → Q (V.int (-22)) H := fun z => k.no hC' (by simp only [Kh343.doing, if_neg z1, if_pos z]) (by simp only [Kh343.doing, if_neg z1, if_pos z]; rfl)
          refine ⟨rfl, ?_⟩
          split
          · exact hbad (by omega)
          split
          · split
            · exact hbad (by omega)
            · have z2 : ¬ (x = y ∨ l < 1 ∨ 100 < l) := by omega
              walk_at "rdw*"
              have hlr := Paired.len' hL.rd
              have h12 := hL.ok.rlen
              refine ⟨_, .inl hS, rfl, ?_⟩
              rw [List.length_map, hlr]
              split
              · rename_i h
                have z : Kh343.ROADS ≤ a.roads.length := by unfold Kh343.ROADS; omega
                exact k.no hC' (by simp only [Kh343.doing, if_neg z1, if_neg z2, if_pos z]) (by simp only [Kh343.doing, if_neg z1, if_neg z2, if_pos z]; rfl)
              · rename_i h
                have z : ¬ Kh343.ROADS ≤ a.roads.length := by unfold Kh343.ROADS; omega
                have ek : Kh343.doing (some a) (.road x y l u) = (some { a with roads := a.roads ++ [⟨x, y, l, if u = 0 then none else some (u - 1)⟩] }, Kh343.say a.roads.length) := by simp only [Kh343.doing, if_neg z1, if_neg z2, if_neg z]
                rw [ek] at k
                obtain ⟨n1, n2, n3, n4, n5, n6, n7⟩ := hL.ne
                refine ⟨.inl ⟨rfl, _, hS⟩, (by show 4 ≤ sizeLine; decide), fun t H1 m1 => ?_⟩
                have o1 := m1.same _ _ hL.obj
                have e1 := m1.same _ _ hL.hr
                refine ⟨_, e1, ?_, ?_⟩
                · rw [List.length_map, hlr, sizeLine_eq]
                  omega
                have e2 : upd H1 lr (.lst (rs.map V.ref ++ [.ref t])) p = some (.ins C dx (cfs true a.day a.need lc a.places lr)) := upd_at o1 n2.symm
                walk_at "rdw*"
                refine ⟨_, .inl (SqL.of upd_same), ?_⟩
                rw [List.length_append, List.length_map, hlr, show (((a.roads.length + [V.ref t].length : Nat) : Int) - 1) = (a.roads.length : Int) by simp]
                have tk : TKeep H (upd H1 lr (.lst (rs.map V.ref ++ [.ref t]))) := ((TKeep.refl H).same m1.same).lst e1
                have tk1 : TKeep H1 (upd H1 lr (.lst (rs.map V.ref ++ [.ref t]))) := (TKeep.refl H1).lst e1
                refine k _ L ⟨dx, lc, lr, cs, rs ++ [t], ⟨e2, upd_at (m1.same _ _ hL.hc) n3, ?_, Paired.mem' hL.sp fun c l hc y => y.keep tk fun xs e => upd_at (m1.same _ _ e) (n6 c hc), ?_, hL.el, hL.nd, road_ok hL.ok hx hy hk (by omega) (by omega) (by omega) (by unfold Kh343.ROADS at z; omega)⟩⟩ ?_ fun b hb => .inl hb
                · rw [upd_same, List.map_append]
                  rfl
                · refine Paired.snoc (R := RoadAt _) ?_ (Paired.imp' (fun _ _ e => tk _ _ e) hL.rd)
                  have e3 := tk1 _ _ m1.at_
                  have e4 : crV (if u = 0 then none else some (u - 1)) = (u : Int) := by
                    unfold crV
                    split
                    · rename_i h
                      rw [h]
                      rfl
                    · show ((u - 1 : Nat) : Int) + 1 = u
                      omega
                  unfold RoadAt
                  rw [e4]
                  exact e3
                · exact ((Keep.refl _ _).same m1.same).upd (by rw [hL.el]; simp)
          · exact hbad (by omega)
        · rw [if_pos (by omega)]
          refine ⟨p, L, a, u - 1, ?_, hC', _, rfl, ?_⟩
          · rw [show ((u : Int) - 1) = ((u - 1 : Nat) : Int) by omega]
          · rw [if_pos (by simp; omega)]
            exact hno (.inr (.inr (by omega)))
      · rw [if_pos (by simpa using hy)]
        exact hno (.inr (.inl (by omega)))
    · rw [if_pos (by simpa using hx)]
      exact hno (.inl (by omega))
end

section
variable {P : Program} {w : World} {K : PySem.W.Frag} {mg : Str → Option Value} {base : Heap} {C : Addr}
theorem nx_eq (s : Option Abs) (n : Nat) (ns : List Nat) : nx s n ns = ((Kh343.doing s (cl n ns)).1, (Kh343.doing s (cl n ns)).2.ret :: (Kh343.doing s (cl n ns)).2.out.map Int.ofNat) := rfl
theorem ansV_eq (s : Option Abs) (n : Nat) (ns : List Nat) : ansV s (cl n ns) = (nx s n ns).2.map V.int := rfl
def spMaking (C : Addr) : Sp := fun vs H Q _ => ∃ (p h : Addr) (L : List Addr) (a : Abs) (n : Nat) (ns : List Nat), vs = [.ref p, .int n, .ref h] ∧ CourseAt C H p L (some a) ∧ H h = some (.lst (ns.map fun (x : Nat) => V.int x)) ∧ 1 ≤ n ∧ n ≤ 6 ∧ ns.length = ar n ∧
  Made C H p L (Kh343.doing (some a) (cl n ns)).1 (.int (Kh343.doing (some a) (cl n ns)).2.ret) Q
abbrev s_answer_making : Stmt := top 92
theorem sc_answer_making : FnScope ["course", "number", "handed"] ["course", "number", "handed"] (defScope s_answer_making) := ⟨rfl, rfl, rfl, by decide +kernel, rfl, by decide +kernel, by decide +kernel⟩
theorem ok_answer_making (D : IsDef K mg "answer_making" s_answer_making) (T : Txt K mg C) (c_add_crossing : Cal P w K mg base "add_crossing" 1 ["course"] (spMk0 C .crossing)) (c_add_span : Cal P w K mg base "add_span" 2 ["course", "c", "start", "length"] (spMk3 C .span))
    (c_clear_spans : Cal P w K mg base "clear_spans" 2 ["course", "c"] (spMk1 C .clear)) (c_add_place : Cal P w K mg base "add_place" 1 ["course"] (spMk0 C .place)) (c_add_road : Cal P w K mg base "add_road" 2 ["course", "p", "q", "length", "over"] (spMk4 C .road))
    (c_change_gap : Cal P w K mg base "change_gap" 1 ["course", "n"] (spMk1 C .need)) : Cal P w K mg base "answer_making" 3 ["course", "number", "handed"] (spMaking C) := by
  refine cal_mk D sc_answer_making (fun _ _ _ _ _ _ => us3 (fun _ _ _ => rfl)) (fun vs H Q E h => ?_) (fun f cdv A outer s H vs Q E hr h => ?_)
  · obtain ⟨p, h, L, a, n, ns, rfl, _⟩ := h
    rfl
  · obtain ⟨p, h, L, a, n, ns, rfl, hC, hh, hn1, hn2, hl, k⟩ := h
    refine ⟨_, (pss_cons (ps_if (pt_cmpR op_eq (pv 1) (pe_gl T.g_CROSSING) (nomark _))
    (pss_one (ps_ret (pe_own c_add_crossing (hr.mono (by decide)) (pa_cons (pv 0) pa_nil))))
    pss_nil)
    (pss_cons (ps_if (pt_cmpR op_eq (pv 1) (pe_gl T.g_SPAN) (nomark _))
    (pss_one (ps_ret (pe_own c_add_span (hr.mono (by decide)) (pa_cons (pv 0) (pa_cons (pe_ix ix_list (pv 2) pe_int (fun _ _ => rfl)) (pa_cons (pe_ix ix_list (pv 2) pe_int (fun _ _ => rfl)) (pa_cons (pe_ix ix_list (pv 2) pe_int (fun _ _ => rfl)) pa_nil)))))))
    pss_nil)
    (pss_cons (ps_if (pt_cmpR op_eq (pv 1) (pe_gl T.g_CLEAR) (nomark _))
    (pss_one (ps_ret (pe_own c_clear_spans (hr.mono (by decide)) (pa_cons (pv 0) (pa_cons (pe_ix ix_list (pv 2) pe_int (fun _ _ => rfl)) pa_nil)))))
    pss_nil)
    (pss_cons (ps_if (pt_cmpR op_eq (pv 1) (pe_gl T.g_PLACE) (nomark _))
    (pss_one (ps_ret (pe_own c_add_place (hr.mono (by decide)) (pa_cons (pv 0) pa_nil))))
    pss_nil)
    (pss_cons (ps_if (pt_cmpR op_eq (pv 1) (pe_gl T.g_ROAD) (nomark _))
    (pss_one (ps_ret (pe_own c_add_road (hr.mono (by decide)) (pa_cons (pv 0) (pa_cons (pe_ix ix_list (pv 2) pe_int (fun _ _ => rfl)) (pa_cons (pe_ix ix_list (pv 2) pe_int (fun _ _ => rfl)) (pa_cons (pe_ix ix_list (pv 2) pe_int (fun _ _ => rfl)) (pa_cons (pe_ix ix_list (pv 2) pe_int (fun _ _ => rfl)) pa_nil))))))))
    pss_nil)
    (pss_one (ps_ret (pe_own c_change_gap (hr.mono (by decide)) (pa_cons (pv 0) (pa_cons (pe_ix ix_list (pv 2) pe_int (fun _ _ => rfl)) pa_nil)))))))))), ?_⟩
    show tSeq _ _ _ [some (.ref p), some (.int n), some (.ref h)] H
    have hS : SqL K H h (ns.map fun (x : Nat) => V.int x) := SqL.of hh
    walk_at "rd"
    refine ⟨rfl, ?_⟩
    obtain rfl | rfl | rfl | rfl | rfl | rfl : n = 1 ∨ n = 2 ∨ n = 3 ∨ n = 4 ∨ n = 5 ∨ n = 6 := by omega
    · refine iteP (by decide) ?_
      match ns, hl with
      | [], _ => exact ⟨p, L, a, rfl, hC, k⟩
    · refine iteN (by decide) ?_
      refine ⟨rfl, ?_⟩
      refine iteP (by decide) ?_
      match ns, hl with
      | [x, y, z], _ =>
        refine ⟨_, hS, _, at0, _, hS, _, at1, _, hS, _, at2, p, L, a, x, y, z, rfl, hC, k⟩
    · refine iteN (by decide) ?_
      refine ⟨rfl, ?_⟩
      refine iteN (by decide) ?_
      refine ⟨rfl, ?_⟩
      refine iteP (by decide) ?_
      match ns, hl with
      | [x], _ => exact ⟨_, hS, _, at0, p, L, a, x, rfl, hC, k⟩
    · refine iteN (by decide) ?_
      refine ⟨rfl, ?_⟩
      refine iteN (by decide) ?_
      refine ⟨rfl, ?_⟩
      refine iteN (by decide) ?_
      refine ⟨rfl, ?_⟩
      refine iteP (by decide) ?_
      match ns, hl with
      | [], _ => exact ⟨p, L, a, rfl, hC, k⟩
    · refine iteN (by decide) ?_
      refine ⟨rfl, ?_⟩
      refine iteN (by decide) ?_
      refine ⟨rfl, ?_⟩
      refine iteN (by decide) ?_
      refine ⟨rfl, ?_⟩
      refine iteN (by decide) ?_
      refine ⟨rfl, ?_⟩
      refine iteP (by decide) ?_
      match ns, hl with
      | [x, y, z, u], _ => exact ⟨_, hS, _, at0, _, hS, _, at1, _, hS, _, at2, _, hS, _, at3, p, L, a, x, y, z, u, rfl, hC, k⟩
    · refine iteN (by decide) ?_
      refine ⟨rfl, ?_⟩
      refine iteN (by decide) ?_
      refine ⟨rfl, ?_⟩
      refine iteN (by decide) ?_
      refine ⟨rfl, ?_⟩
      refine iteN (by decide) ?_
      refine ⟨rfl, ?_⟩
      refine iteN (by decide) ?_
      match ns, hl with
      | [x], _ => exact ⟨_, hS, _, at0, p, L, a, x, rfl, hC, k⟩
/-- what every call leaves: the course, and a new list, the answer -/
def Done (C : Addr) (H : Hp) (p : Addr) (L : List Addr) (s' : Option Abs) (l : List V) (Q : VK) : Prop :=
  ∀ (H' : Hp) (L' : List Addr) (q : Addr), CourseAt C H' p L' s' → Keep H H' L → (∀ b, b ∈ L' → b ∈ L ∨ H b = none) → H' q = some (.lst l) → (q ∈ L ∨ H q = none) → Q (.ref q) H'
theorem Keep.lost {H H1 : Hp} {L : List Addr} {q : Addr} (k : Keep H H1 L) (h : H1 q = none) : q ∈ L ∨ H q = none := by
  cases e : H q with
  | none => exact .inr rfl
  | some o =>
    by_cases m : q ∈ L
    · exact .inl m
    · rw [k q o e m] at h
      cases h
/-- of the calls by numbers lo to hi: the answer told -/
def spAsking (C : Addr) (lo hi : Nat → Prop) : Sp := fun vs H Q _ => ∃ (p h : Addr) (L : List Addr) (a : Abs) (n : Nat) (ns : List Nat), vs = [.ref p, .int n, .ref h] ∧ CourseAt C H p L (some a) ∧ H h = some (.lst (ns.map fun (x : Nat) => V.int x)) ∧ lo n ∧ hi n ∧ ns.length = ar n ∧
  Told H Q (ansV (some a) (cl n ns))
def spCall (C : Addr) : Sp := fun vs H Q _ => ∃ (p h : Addr) (L : List Addr) (s : Option Abs) (n : Nat) (ns : List Nat), vs = [.ref p, .int n, .ref h] ∧ CourseAt C H p L s ∧ H h = some (.lst (ns.map fun (x : Nat) => V.int x)) ∧ n ≤ 21 ∧ ns.length = ar n ∧
  (∀ x ∈ ns, x ≤ 4294967295) ∧ Done C H p L (nx s n ns).1 ((nx s n ns).2.map V.int) Q
theorem out0 (s : Option Abs) (x y : Nat) : (Kh343.doing s (.begin_ x y)).2.out = [] := by
  simp only [Kh343.doing]
  split <;> rfl
theorem out1 (a : Abs) : (Kh343.doing (some a) .crossing).2.out = [] := by
  simp only [Kh343.doing]
  split <;> rfl
theorem out2 (a : Abs) (x y z : Nat) : (Kh343.doing (some a) (.span x y z)).2.out = [] := by
  simp only [Kh343.doing]
  split
  · rfl
  · split
    · rfl
    · split <;> rfl
theorem out3 (a : Abs) (x : Nat) : (Kh343.doing (some a) (.clear x)).2.out = [] := by
  simp only [Kh343.doing]
  split <;> rfl
theorem out4 (a : Abs) : (Kh343.doing (some a) .place).2.out = [] := by
  simp only [Kh343.doing]
  split <;> rfl
theorem out5 (a : Abs) (x y z u : Nat) : (Kh343.doing (some a) (.road x y z u)).2.out = [] := by
  simp only [Kh343.doing]
  split
  · rfl
  · split
    · rfl
    · split <;> rfl
theorem out6 (a : Abs) (x : Nat) : (Kh343.doing (some a) (.need x)).2.out = [] := by
  simp only [Kh343.doing]
  split <;> rfl
theorem mk_out {a : Abs} {n : Nat} {ns : List Nat} (h1 : 1 ≤ n) (h : n ≤ 6) (hl : ns.length = ar n) : (Kh343.doing (some a) (cl n ns)).2.out = [] := by
  obtain rfl | rfl | rfl | rfl | rfl | rfl : n = 1 ∨ n = 2 ∨ n = 3 ∨ n = 4 ∨ n = 5 ∨ n = 6 := by omega
  · match ns, hl with
    | [], _ => exact out1 a
  · match ns, hl with
    | [x, y, z], _ => exact out2 a x y z
  · match ns, hl with
    | [x], _ => exact out3 a x
  · match ns, hl with
    | [], _ => exact out4 a
  · match ns, hl with
    | [x, y, z, u], _ => exact out5 a x y z u
  · match ns, hl with
    | [x], _ => exact out6 a x
end

section
variable {P : Program} {w : World} {K : PySem.W.Frag} {mg : Str → Option Value} {base : Heap} {C N : Addr}
def sp7 (C : Addr) : Sp := spAsking C (fun n => 7 ≤ n) (fun n => n ≤ 13)
def sp16 (C : Addr) : Sp := spAsking C (fun n => 16 ≤ n) (fun n => n ≤ 19)
def spRest (C : Addr) : Sp := spAsking C (fun n => 14 ≤ n ∧ n ≤ 21) (fun n => n ≤ 15 ∨ 20 ≤ n)
abbrev s_answer_asking : Stmt := top 93
theorem sc_answer_asking : FnScope ["course", "number", "handed"] ["course", "number", "handed"] (defScope s_answer_asking) := ⟨rfl, rfl, rfl, by decide +kernel, rfl, by decide +kernel, by decide +kernel⟩
theorem ok_answer_asking (D : IsDef K mg "answer_asking" s_answer_asking) (T : Txt K mg C) (c_ask_runs : Cal P w K mg base "ask_runs" 3 ["course", "c", "t"] (spAsk2 C .runs)) (c_ask_crossable : Cal P w K mg base "ask_crossable" 4 ["course", "c", "t"] (spAsk2 C .open_))
    (c_ask_next : Cal P w K mg base "ask_next" 4 ["course", "c", "t"] (spAsk2 C .next)) (c_ask_shuts : Cal P w K mg base "ask_shuts" 5 ["course", "c"] (spAsk1 C .shuts)) (c_ask_longest : Cal P w K mg base "ask_longest" 5 ["course", "c"] (spAsk1 C .longest))
    (c_ask_holds : Cal P w K mg base "ask_holds" 5 ["course", "c", "most"] (spAsk2 C .holds)) (c_ask_least : Cal P w K mg base "ask_least" 5 ["course", "c", "n"] (spAsk2 C .least)) : Cal P w K mg base "answer_asking" 6 ["course", "number", "handed"] (sp7 C) := by
  refine cal_mk D sc_answer_asking (fun _ _ _ _ _ _ => us3 (fun _ _ _ => rfl)) (fun vs H Q E h => ?_) (fun f cdv A outer s H vs Q E hr h => ?_)
  · obtain ⟨p, h, L, a, n, ns, rfl, _⟩ := h
    rfl
  · obtain ⟨p, h, L, a, n, ns, rfl, hC, hh, hn1, hn2, hl, k⟩ := h
    have hn1 : 7 ≤ n := hn1
    have hn2 : n ≤ 13 := hn2
    refine ⟨_, (pss_cons (ps_if (pt_cmpR op_eq (pv 1) (pe_gl T.g_RUNS) (nomark _))
    (pss_one (ps_ret (pe_own c_ask_runs (hr.mono (by decide)) (pa_cons (pv 0) (pa_cons (pe_ix ix_list (pv 2) pe_int (fun _ _ => rfl)) (pa_cons (pe_ix ix_list (pv 2) pe_int (fun _ _ => rfl)) pa_nil))))))
    pss_nil)
    (pss_cons (ps_if (pt_cmpR op_eq (pv 1) (pe_gl T.g_CROSSABLE) (nomark _))
    (pss_one (ps_ret (pe_own c_ask_crossable (hr.mono (by decide)) (pa_cons (pv 0) (pa_cons (pe_ix ix_list (pv 2) pe_int (fun _ _ => rfl)) (pa_cons (pe_ix ix_list (pv 2) pe_int (fun _ _ => rfl)) pa_nil))))))
    pss_nil)
    (pss_cons (ps_if (pt_cmpR op_eq (pv 1) (pe_gl T.g_NEXT) (nomark _))
    (pss_one (ps_ret (pe_own c_ask_next (hr.mono (by decide)) (pa_cons (pv 0) (pa_cons (pe_ix ix_list (pv 2) pe_int (fun _ _ => rfl)) (pa_cons (pe_ix ix_list (pv 2) pe_int (fun _ _ => rfl)) pa_nil))))))
    pss_nil)
    (pss_cons (ps_if (pt_cmpR op_eq (pv 1) (pe_gl T.g_SHUTS) (nomark _))
    (pss_one (ps_ret (pe_own c_ask_shuts (hr.mono (by decide)) (pa_cons (pv 0) (pa_cons (pe_ix ix_list (pv 2) pe_int (fun _ _ => rfl)) pa_nil)))))
    pss_nil)
    (pss_cons (ps_if (pt_cmpR op_eq (pv 1) (pe_gl T.g_LONGEST) (nomark _))
    (pss_one (ps_ret (pe_own c_ask_longest (hr.mono (by decide)) (pa_cons (pv 0) (pa_cons (pe_ix ix_list (pv 2) pe_int (fun _ _ => rfl)) pa_nil)))))
    pss_nil)
    (pss_cons (ps_if (pt_cmpR op_eq (pv 1) (pe_gl T.g_HOLDS) (nomark _))
    (pss_one (ps_ret (pe_own c_ask_holds (hr.mono (by decide)) (pa_cons (pv 0) (pa_cons (pe_ix ix_list (pv 2) pe_int (fun _ _ => rfl)) (pa_cons (pe_ix ix_list (pv 2) pe_int (fun _ _ => rfl)) pa_nil))))))
    pss_nil)
    (pss_one (ps_ret (pe_own c_ask_least (hr.mono (by decide)) (pa_cons (pv 0) (pa_cons (pe_ix ix_list (pv 2) pe_int (fun _ _ => rfl)) (pa_cons (pe_ix ix_list (pv 2) pe_int (fun _ _ => rfl)) pa_nil)))))))))))), ?_⟩
    show tSeq _ _ _ [some (.ref p), some (.int n), some (.ref h)] H
    have hS : SqL K H h (ns.map fun (x : Nat) => V.int x) := SqL.of hh
    walk_at "rd"
    refine ⟨rfl, ?_⟩
    obtain rfl | rfl | rfl | rfl | rfl | rfl | rfl : n = 7 ∨ n = 8 ∨ n = 9 ∨ n = 10 ∨ n = 11 ∨ n = 12 ∨ n = 13 := by omega
    · refine iteP (by decide) ?_
      match ns, hl with
      | [x, y], _ => exact ⟨_, hS, _, at0, _, hS, _, at1, p, L, a, x, y, rfl, hC, k⟩
    · refine iteN (by decide) ?_
      refine ⟨rfl, ?_⟩
      refine iteP (by decide) ?_
      match ns, hl with
      | [x, y], _ => exact ⟨_, hS, _, at0, _, hS, _, at1, p, L, a, x, y, rfl, hC, k⟩
    · refine iteN (by decide) ?_
      refine ⟨rfl, ?_⟩
      refine iteN (by decide) ?_
      refine ⟨rfl, ?_⟩
      refine iteP (by decide) ?_
      match ns, hl with
      | [x, y], _ => exact ⟨_, hS, _, at0, _, hS, _, at1, p, L, a, x, y, rfl, hC, k⟩
    · refine iteN (by decide) ?_
      refine ⟨rfl, ?_⟩
      refine iteN (by decide) ?_
      refine ⟨rfl, ?_⟩
      refine iteN (by decide) ?_
      refine ⟨rfl, ?_⟩
      refine iteP (by decide) ?_
      match ns, hl with
      | [x], _ => exact ⟨_, hS, _, at0, p, L, a, x, rfl, hC, k⟩
    · refine iteN (by decide) ?_
      refine ⟨rfl, ?_⟩
      refine iteN (by decide) ?_
      refine ⟨rfl, ?_⟩
      refine iteN (by decide) ?_
      refine ⟨rfl, ?_⟩
      refine iteN (by decide) ?_
      refine ⟨rfl, ?_⟩
      refine iteP (by decide) ?_
      match ns, hl with
      | [x], _ => exact ⟨_, hS, _, at0, p, L, a, x, rfl, hC, k⟩
    · refine iteN (by decide) ?_
      refine ⟨rfl, ?_⟩
      refine iteN (by decide) ?_
      refine ⟨rfl, ?_⟩
      refine iteN (by decide) ?_
      refine ⟨rfl, ?_⟩
      refine iteN (by decide) ?_
      refine ⟨rfl, ?_⟩
      refine iteN (by decide) ?_
      refine ⟨rfl, ?_⟩
      refine iteP (by decide) ?_
      match ns, hl with
      | [x, y], _ => exact ⟨_, hS, _, at0, _, hS, _, at1, p, L, a, x, y, rfl, hC, k⟩
    · refine iteN (by decide) ?_
      refine ⟨rfl, ?_⟩
      refine iteN (by decide) ?_
      refine ⟨rfl, ?_⟩
      refine iteN (by decide) ?_
      refine ⟨rfl, ?_⟩
      refine iteN (by decide) ?_
      refine ⟨rfl, ?_⟩
      refine iteN (by decide) ?_
      refine ⟨rfl, ?_⟩
      refine iteN (by decide) ?_
      match ns, hl with
      | [x, y], _ => exact ⟨_, hS, _, at0, _, hS, _, at1, p, L, a, x, y, rfl, hC, k⟩
abbrev s_answer_going : Stmt := top 94
theorem sc_answer_going : FnScope ["course", "number", "handed"] ["course", "number", "handed"] (defScope s_answer_going) := ⟨rfl, rfl, rfl, by decide +kernel, rfl, by decide +kernel, by decide +kernel⟩
theorem ok_answer_going (D : IsDef K mg "answer_going" s_answer_going) (T : Txt K mg C) (c_ask_arrive : Cal P w K mg base "ask_arrive" 6 ["course", "p", "q", "t"] (spAsk3 C .arrive)) (c_ask_all_places : Cal P w K mg base "ask_all_places" 6 ["course", "p", "t"] (spAsk2 C .all))
    (c_ask_latest : Cal P w K mg base "ask_latest" 6 ["course", "p", "q", "t"] (spAsk3 C .latest)) (c_ask_worst : Cal P w K mg base "ask_worst" 6 ["course", "p", "q"] (spAsk2 C .worst)) : Cal P w K mg base "answer_going" 7 ["course", "number", "handed"] (sp16 C) := by
  refine cal_mk D sc_answer_going (fun _ _ _ _ _ _ => us3 (fun _ _ _ => rfl)) (fun vs H Q E h => ?_) (fun f cdv A outer s H vs Q E hr h => ?_)
  · obtain ⟨p, h, L, a, n, ns, rfl, _⟩ := h
    rfl
  · obtain ⟨p, h, L, a, n, ns, rfl, hC, hh, hn1, hn2, hl, k⟩ := h
    have hn1 : 16 ≤ n := hn1
    have hn2 : n ≤ 19 := hn2
    refine ⟨_, (pss_cons (ps_if (pt_cmpR op_eq (pv 1) (pe_gl T.g_ARRIVE) (nomark _))
    (pss_one (ps_ret (pe_own c_ask_arrive (hr.mono (by decide)) (pa_cons (pv 0) (pa_cons (pe_ix ix_list (pv 2) pe_int (fun _ _ => rfl)) (pa_cons (pe_ix ix_list (pv 2) pe_int (fun _ _ => rfl)) (pa_cons (pe_ix ix_list (pv 2) pe_int (fun _ _ => rfl)) pa_nil)))))))
    pss_nil)
    (pss_cons (ps_if (pt_cmpR op_eq (pv 1) (pe_gl T.g_ALL_PLACES) (nomark _))
    (pss_one (ps_ret (pe_own c_ask_all_places (hr.mono (by decide)) (pa_cons (pv 0) (pa_cons (pe_ix ix_list (pv 2) pe_int (fun _ _ => rfl)) (pa_cons (pe_ix ix_list (pv 2) pe_int (fun _ _ => rfl)) pa_nil))))))
    pss_nil)
    (pss_cons (ps_if (pt_cmpR op_eq (pv 1) (pe_gl T.g_LATEST) (nomark _))
    (pss_one (ps_ret (pe_own c_ask_latest (hr.mono (by decide)) (pa_cons (pv 0) (pa_cons (pe_ix ix_list (pv 2) pe_int (fun _ _ => rfl)) (pa_cons (pe_ix ix_list (pv 2) pe_int (fun _ _ => rfl)) (pa_cons (pe_ix ix_list (pv 2) pe_int (fun _ _ => rfl)) pa_nil)))))))
    pss_nil)
    (pss_one (ps_ret (pe_own c_ask_worst (hr.mono (by decide)) (pa_cons (pv 0) (pa_cons (pe_ix ix_list (pv 2) pe_int (fun _ _ => rfl)) (pa_cons (pe_ix ix_list (pv 2) pe_int (fun _ _ => rfl)) pa_nil))))))))), ?_⟩
    show tSeq _ _ _ [some (.ref p), some (.int n), some (.ref h)] H
    have hS : SqL K H h (ns.map fun (x : Nat) => V.int x) := SqL.of hh
    walk_at "rd"
    refine ⟨rfl, ?_⟩
    obtain rfl | rfl | rfl | rfl : n = 16 ∨ n = 17 ∨ n = 18 ∨ n = 19 := by omega
    · refine iteP (by decide) ?_
      match ns, hl with
      | [x, y, z], _ => exact ⟨_, hS, _, at0, _, hS, _, at1, _, hS, _, at2, p, L, a, x, y, z, rfl, hC, k⟩
    · refine iteN (by decide) ?_
      refine ⟨rfl, ?_⟩
      refine iteP (by decide) ?_
      match ns, hl with
      | [x, y], _ => exact ⟨_, hS, _, at0, _, hS, _, at1, p, L, a, x, y, rfl, hC, k⟩
    · refine iteN (by decide) ?_
      refine ⟨rfl, ?_⟩
      refine iteN (by decide) ?_
      refine ⟨rfl, ?_⟩
      refine iteP (by decide) ?_
      match ns, hl with
      | [x, y, z], _ => exact ⟨_, hS, _, at0, _, hS, _, at1, _, hS, _, at2, p, L, a, x, y, z, rfl, hC, k⟩
    · refine iteN (by decide) ?_
      refine ⟨rfl, ?_⟩
      refine iteN (by decide) ?_
      refine ⟨rfl, ?_⟩
      refine iteN (by decide) ?_
      match ns, hl with
      | [x, y], _ => exact ⟨_, hS, _, at0, _, hS, _, at1, p, L, a, x, y, rfl, hC, k⟩
abbrev s_answer_overall : Stmt := top 95
theorem sc_answer_overall : FnScope ["course", "number", "handed"] ["course", "number", "handed"] (defScope s_answer_overall) := ⟨rfl, rfl, rfl, by decide +kernel, rfl, by decide +kernel, by decide +kernel⟩
theorem ok_answer_overall (D : IsDef K mg "answer_overall" s_answer_overall) (T : Txt K mg C) (c_ask_marshals : Cal P w K mg base "ask_marshals" 4 ["course"] (spAsk0 C .marshals)) (c_ask_duties : Cal P w K mg base "ask_duties" 6 ["course"] (spAsk0 C .duties))
    (c_ask_look : Cal P w K mg base "ask_look" 2 ["course", "r"] (spAsk1 C .look)) (c_ask_state : Cal P w K mg base "ask_state" 1 ["course"] (spAsk0 C .state)) : Cal P w K mg base "answer_overall" 7 ["course", "number", "handed"] (spRest C) := by
  refine cal_mk D sc_answer_overall (fun _ _ _ _ _ _ => us3 (fun _ _ _ => rfl)) (fun vs H Q E h => ?_) (fun f cdv A outer s H vs Q E hr h => ?_)
  · obtain ⟨p, h, L, a, n, ns, rfl, _⟩ := h
    rfl
  · obtain ⟨p, h, L, a, n, ns, rfl, hC, hh, hn1, hn2, hl, k⟩ := h
    have hn1 : 14 ≤ n ∧ n ≤ 21 := hn1
    have hn2 : n ≤ 15 ∨ 20 ≤ n := hn2
    refine ⟨_, (pss_cons (ps_if (pt_cmpR op_eq (pv 1) (pe_gl T.g_MARSHALS) (nomark _))
    (pss_one (ps_ret (pe_own c_ask_marshals (hr.mono (by decide)) (pa_cons (pv 0) pa_nil))))
    pss_nil)
    (pss_cons (ps_if (pt_cmpR op_eq (pv 1) (pe_gl T.g_DUTIES) (nomark _))
    (pss_one (ps_ret (pe_own c_ask_duties (hr.mono (by decide)) (pa_cons (pv 0) pa_nil))))
    pss_nil)
    (pss_cons (ps_if (pt_cmpR op_eq (pv 1) (pe_gl T.g_LOOK) (nomark _))
    (pss_one (ps_ret (pe_own c_ask_look (hr.mono (by decide)) (pa_cons (pv 0) (pa_cons (pe_ix ix_list (pv 2) pe_int (fun _ _ => rfl)) pa_nil)))))
    pss_nil)
    (pss_one (ps_ret (pe_own c_ask_state (hr.mono (by decide)) (pa_cons (pv 0) pa_nil))))))), ?_⟩
    show tSeq _ _ _ [some (.ref p), some (.int n), some (.ref h)] H
    have hS : SqL K H h (ns.map fun (x : Nat) => V.int x) := SqL.of hh
    walk_at "rd"
    refine ⟨rfl, ?_⟩
    obtain rfl | rfl | rfl | rfl : n = 14 ∨ n = 15 ∨ n = 20 ∨ n = 21 := by omega
    · refine iteP (by decide) ?_
      match ns, hl with
      | [], _ => exact ⟨p, L, a, rfl, hC, k⟩
    · refine iteN (by decide) ?_
      refine ⟨rfl, ?_⟩
      refine iteP (by decide) ?_
      match ns, hl with
      | [], _ => exact ⟨p, L, a, rfl, hC, k⟩
    · refine iteN (by decide) ?_
      refine ⟨rfl, ?_⟩
      refine iteN (by decide) ?_
      refine ⟨rfl, ?_⟩
      refine iteP (by decide) ?_
      match ns, hl with
      | [x], _ => exact ⟨_, hS, _, at0, p, L, a, x, rfl, hC, k⟩
    · refine iteN (by decide) ?_
      refine ⟨rfl, ?_⟩
      refine iteN (by decide) ?_
      refine ⟨rfl, ?_⟩
      refine iteN (by decide) ?_
      match ns, hl with
      | [], _ => exact ⟨p, L, a, rfl, hC, k⟩
end

section
variable {P : Program} {w : World} {K : PySem.W.Frag} {mg : Str → Option Value} {base : Heap} {C : Addr}
abbrev s_answer_call : Stmt := top 91
theorem sc_answer_call : FnScope ["course", "number", "handed"] ["course", "number", "handed"] (defScope s_answer_call) := ⟨rfl, rfl, rfl, by decide +kernel, rfl, by decide +kernel, by decide +kernel⟩
theorem ok_answer_call (D : IsDef K mg "answer_call" s_answer_call) (T : Txt K mg C) (c_begin : Cal P w K mg base "begin" 1 ["course", "minutes", "gap"] (spBegin C)) (c_answer_making : Cal P w K mg base "answer_making" 3 ["course", "number", "handed"] (spMaking C))
    (c_answer_asking : Cal P w K mg base "answer_asking" 6 ["course", "number", "handed"] (sp7 C)) (c_answer_going : Cal P w K mg base "answer_going" 7 ["course", "number", "handed"] (sp16 C)) (c_answer_overall : Cal P w K mg base "answer_overall" 7 ["course", "number", "handed"] (spRest C)) : Cal P w K mg base "answer_call" 9 ["course", "number", "handed"] (spCall C) := by
  refine cal_mk D sc_answer_call (fun _ _ _ _ _ _ => us3 (fun _ _ _ => rfl)) (fun vs H Q E h => ?_) (fun f cdv A outer s H vs Q E hr h => ?_)
  · obtain ⟨p, h, L, st, n, ns, rfl, _⟩ := h
    rfl
  · obtain ⟨p, h, L, st, n, ns, rfl, hC, hh, hn, hl, hb, k⟩ := h
    refine ⟨_, (pss_cons (ps_if (pt_cmpR op_eq (pv 1) (pe_gl T.g_BEGIN) (nomark _))
    (pss_one (ps_ret (pe_lst (pa_cons (pe_own c_begin (hr.mono (by decide)) (pa_cons (pv 0) (pa_cons (pe_ix ix_list (pv 2) pe_int (fun _ _ => rfl)) (pa_cons (pe_ix ix_list (pv 2) pe_int (fun _ _ => rfl)) pa_nil)))) pa_nil))))
    pss_nil)
    (pss_cons (ps_if (pt_not (pt_val (pe_fld (pv 0) rfl)))
    (pss_one (ps_ret (pe_lst (pa_cons (pe_gl T.g_NOT_BEGUN) pa_nil))))
    pss_nil)
    (pss_cons (ps_if (pt_cmpR op_le (pv 1) (pe_gl T.g_GAP) (nomark _))
    (pss_one (ps_ret (pe_lst (pa_cons (pe_own c_answer_making (hr.mono (by decide)) (pa_cons (pv 0) (pa_cons (pv 1) (pa_cons (pv 2) pa_nil)))) pa_nil))))
    pss_nil)
    (pss_cons (ps_if (pt_cmpR op_le (pv 1) (pe_gl T.g_LEAST) (nomark _))
    (pss_one (ps_ret (pe_own c_answer_asking (hr.mono (by decide)) (pa_cons (pv 0) (pa_cons (pv 1) (pa_cons (pv 2) pa_nil))))))
    pss_nil)
    (pss_cons (ps_if (pt_chain op_le op_le (pe_gl T.g_ARRIVE) (pv 1) (pe_gl T.g_WORST))
    (pss_one (ps_ret (pe_own c_answer_going (hr.mono (by decide)) (pa_cons (pv 0) (pa_cons (pv 1) (pa_cons (pv 2) pa_nil))))))
    pss_nil)
    (pss_one (ps_ret (pe_own c_answer_overall (hr.mono (by decide)) (pa_cons (pv 0) (pa_cons (pv 1) (pa_cons (pv 2) pa_nil))))))))))), ?_⟩
    show tSeq _ _ _ [some (.ref p), some (.int n), some (.ref h)] H
    have hS : SqL K H h (ns.map fun (x : Nat) => V.int x) := SqL.of hh
    obtain ⟨hp, dx, m, g, lc, n0, lr, h1⟩ := hC.obj
    have h2 := T.cl
    have h3 := T.nB
    walk_at "rd*"
    refine ⟨rfl, ?_⟩
    by_cases e0 : n = 0
    · subst e0
      refine iteP (by decide) ?_
      match ns, hl with
      | [x, y], _ =>
        refine ⟨_, hS, _, at0, _, hS, _, at1, p, L, st, x, y, rfl, hC, fun H1 L1 hC1 hK hL1 => ?_⟩
        walk_at "rd"
        refine ⟨(by show 1 ≤ sizeLine; decide), fun q H2 m2 => k H2 L1 q (hC1.same m2.same) (hK.same m2.same) hL1 ?_ (hK.lost m2.free)⟩
        rw [m2.at_, nx_eq]
        show _ = some (HO.lst (V.int (Kh343.doing st (.begin_ x y)).2.ret :: ((Kh343.doing st (.begin_ x y)).2.out.map Int.ofNat).map V.int))
        rw [out0]
        rfl
    · refine iteN (by omega) ?_
      cases st with
      | none =>
        refine iteP rfl ?_
        refine ⟨(by show 1 ≤ sizeLine; decide), fun q H2 m2 => ?_⟩
        have e : Kh343.doing none (cl n ns) = (none, Kh343.say (-61)) := none_61 (cl_some ns e0 hn)
        rw [nx_eq, e] at k
        exact k H2 L q (hC.same m2.same) ((Keep.refl _ _).same m2.same) (fun b hb => .inl hb) (by rw [m2.at_]; rfl) (.inr m2.free)
      | some a =>
        refine iteN (by simp) ?_
        by_cases h6 : n ≤ 6
        · refine iteP (by omega) ?_
          refine ⟨p, h, L, a, n, ns, rfl, hC, hh, by omega, h6, hl, fun H1 L1 hC1 hK hL1 => ?_⟩
          walk_at "rd"
          refine ⟨(by show 1 ≤ sizeLine; decide), fun q H2 m2 => k H2 L1 q (hC1.same m2.same) (hK.same m2.same) hL1 ?_ (hK.lost m2.free)⟩
          rw [m2.at_, nx_eq]
          show _ = some (HO.lst (V.int (Kh343.doing (some a) (cl n ns)).2.ret :: ((Kh343.doing (some a) (cl n ns)).2.out.map Int.ofNat).map V.int))
          rw [mk_out (by omega) h6 hl]
          rfl
        · refine iteN (by omega) ?_
          have told : Told H Q (ansV (some a) (cl n ns)) := fun H1 q s1 nq h1 => by
            have e : (nx (some a) n ns).1 = some a := ask_keep a ns (by omega) hn
            exact k H1 L q (by rw [e]; exact hC.same s1) ((Keep.refl _ _).same s1) (fun b hb => .inl hb) h1 (.inr nq)
          by_cases h13 : n ≤ 13
          · refine iteP (by omega) ?_
            exact ⟨p, h, L, a, n, ns, rfl, hC, hh, (by omega : 7 ≤ n), h13, hl, told⟩
          · refine iteN (by omega) ?_
            by_cases h16 : 16 ≤ n
            · refine iteP (by omega) ?_
              by_cases h19 : n ≤ 19
              · refine iteP (by omega) ?_
                exact ⟨p, h, L, a, n, ns, rfl, hC, hh, h16, h19, hl, told⟩
              · refine iteN (by omega) ?_
                exact ⟨p, h, L, a, n, ns, rfl, hC, hh, (by omega : 14 ≤ n ∧ n ≤ 21), (by omega : n ≤ 15 ∨ 20 ≤ n), hl, told⟩
            · refine iteN (by omega) ?_
              exact ⟨p, h, L, a, n, ns, rfl, hC, hh, (by omega : 14 ≤ n ∧ n ≤ 21), (by omega : n ≤ 15 ∨ 20 ≤ n), hl, told⟩
abbrev s_init : Stmt := inClass (top 1) 0
theorem sc_init : FnScope ["self"] ["self"] (defScope s_init) := ⟨rfl, rfl, rfl, by decide +kernel, rfl, by decide +kernel, by decide +kernel⟩
def spInit (C : Addr) : Sp := fun vs H Q _ => ∃ (p dx : Addr), vs = [.ref p] ∧ H p = some (.ins C dx []) ∧ ∀ (H' : Hp), CourseAt C H' p [p] none → (∀ b o, H b = some o → b ≠ p → H' b = some o) → Q .non H'
theorem ok_init {f : Addr} {fd : FuncData} (F : Fun K "__init__" "Course.__init__" s_init f fd) (T : Txt K mg C) : FnOk P w K mg base CX0 1 f fd ["self"] (spInit C) := by
  refine F.ok sc_init (fun vs H Q E h => ?_) (fun cdv A outer s H vs Q E hr h => ?_)
  · obtain ⟨p, dx, rfl, _⟩ := h
    rfl
  · obtain ⟨p, dx, rfl, h1, k⟩ := h
    refine ⟨_, (pss_cons (ps_fld (pv 0) pe_bl rfl) (pss_cons (ps_fld (pv 0) pe_int rfl) (pss_cons (ps_fld (pv 0) pe_int rfl) (pss_cons (ps_fld (pv 0) (pe_lst pa_nil) rfl) (pss_cons (ps_fld (pv 0) pe_int rfl) (pss_one (ps_fld (pv 0) (pe_lst pa_nil) rfl))))))), ?_⟩
    show tSeq _ _ _ [some (.ref p)] H
    have h2 := T.cl
    have h3 := T.nB
    have h4 := T.nM
    have h5 := T.nG
    have h6 := T.nC
    have h7 := T.nP
    have h8 := T.nR
    walk_at "rdw*"
    refine ⟨(by show 0 < 1000; decide), (by show 1 < 1000; decide), (by show 2 < 1000; decide), Nat.zero_le _, fun p1 H1 m1 => ?_⟩
    have e1 := m1.same _ _ (upd_same (H := H) (a := p))
    refine ⟨_, _, _, e1, h2, h6, (by show 3 < 1000; decide), h2, h7, (by show 4 < 1000; decide), Nat.zero_le _, fun p2 H2 m2 => ?_⟩
    have e2 := m2.same _ _ (upd_same (H := H1) (a := p))
    refine ⟨_, _, _, e2, h2, h8, (by show 5 < 1000; decide), ?_⟩
    refine k _ ⟨dx, 0, 0, p1, 0, p2, upd_same, rfl⟩ fun b o hb hne => ?_
    exact upd_at (m2.same _ _ (upd_at (m1.same _ _ (upd_at hb hne)) hne)) hne
end

section
variable {P : Program} {w : World} {K : PySem.W.Frag} {mg : Str → Option Value} {base : Heap} {C : Addr}
structure Txt2 (K : PySem.W.Frag) (mg : Str → Option Value) (C hA : Addr) : Prop extends Txt K mg C where
  mgC : mg "Course" = some (.ref C)
  g_HANDED : GlI mg "HANDED" (.ref hA)
  t_HANDED : ∀ H : Hp, SqT K H hA (ars.map fun (n : Nat) => V.int n)
/-- the def's promise: what the document asks -/
def spAnswers (K : PySem.W.Frag) : Sp := fun vs H Q _ => ∃ (a : Addr) (l : List Int), vs = [.ref a] ∧ SqL K H a (l.map V.int) ∧ l.length ≤ 500 ∧ (∀ x ∈ l, 0 ≤ x ∧ x ≤ 4294967295) ∧ PyKh343.answers_asked l = true ∧
  ∀ (H' : Hp) (p : Addr), H' p = some (.lst ((PyKh343.answers l).map V.int)) → Q (.ref p) H'
theorem made_same {H H1 : Hp} {x dx : Addr} (nx : H x = none) (nd : H dx = none) (k : ∀ b o, (upd (upd H dx (.own x)) x (.ins C dx [])) b = some o → b ≠ x → H1 b = some o) : Same H H1 := Same.made nx nd k
structure Main (C : Addr) (H : Hp) (a p tl : Addr) (l : List Int) (m : Nat) (σ : L2.St) (H' : Hp) : Prop where
  ex : ∃ (at_ : Nat) (L : List Addr) (s : Option Abs) (out don : List Int) (vb va : Option V), σ = [some (.ref a), some (.ref p), some (.ref tl), some (.int at_), vb, va] ∧ CourseAt C H' p L s ∧ (∀ b ∈ L, H b = none) ∧ tl ∉ L ∧
    H' tl = some (.lst (don.map V.int)) ∧ at_ ≤ l.length ∧ Plays s (l.drop at_) out ∧ don ++ out = PyKh343.answers l ∧ m = l.length - at_
  sm : Same H H'
  tf : H tl = none
theorem CourseAt.other {H : Hp} {p : Addr} {L : List Addr} {s : Option Abs} {t : Addr} {xs : List V} {o : HO} (h : CourseAt C H p L s) (ht : t ∉ L) (e : H t = some (.lst xs)) : CourseAt C (upd H t o) p L s := by
  cases s with
  | none =>
    obtain ⟨dx, m, g, lc, n, lr, h1, h2⟩ := h
    exact ⟨dx, m, g, lc, n, lr, upd_at h1 (fun z => ht (by rw [h2, z]; simp)), h2⟩
  | some a =>
    obtain ⟨dx, lc, lr, cs, rs, h⟩ := h
    have tk : TKeep H (upd H t o) := (TKeep.refl H).lst e
    have hn : ∀ b ∈ L, b ≠ t := fun b hb z => ht (z ▸ hb)
    rw [h.el] at hn
    exact ⟨dx, lc, lr, cs, rs, ⟨upd_at h.obj (hn _ (by simp)), upd_at h.hc (hn _ (by simp)), upd_at h.hr (hn _ (by simp)), Paired.mem' h.sp fun c l hc y => y.keep tk fun xs e => upd_at e (hn c (by simp [hc])), Paired.imp' (fun r x y => tk _ _ y) h.rd, h.el, h.nd, h.ok⟩⟩
theorem ars_at {n : Nat} (h : n ≤ 21) : ars[n]? = some (ar n) := by
  have : n < ars.length := by show n < 22; omega
  unfold ar
  rw [List.getD_eq_getElem?_getD, List.getElem?_eq_getElem this]
  rfl
theorem cut_args {l : List Int} {at_ n : Nat} {ns : List Nat} {rest : List Int} (hd : l.drop at_ = (n : Int) :: (ns.map Int.ofNat ++ rest)) :
    cutV (l.map V.int) (some ((at_ : Int) + 1)) (some ((at_ : Int) + 1 + (ns.length : Int))) = ns.map (fun (x : Nat) => V.int x) ∧ at_ + 1 + ns.length ≤ l.length ∧ l.drop (at_ + 1 + ns.length) = rest := by
  have hl := congrArg List.length hd
  rw [List.length_drop, List.length_cons, List.length_append, List.length_map] at hl
  have h1 : l.drop (at_ + 1) = ns.map Int.ofNat ++ rest := by
    rw [← List.drop_drop, hd]
    rfl
  refine ⟨?_, by omega, ?_⟩
  · unfold cutV
    rw [show ((at_ : Int) + 1) = ((at_ + 1 : Nat) : Int) by omega, show (((at_ + 1 : Nat) : Int) + (ns.length : Int)) = ((at_ + 1 + ns.length : Nat) : Int) by omega, HT.sIx_nat, HT.sIx_nat, List.length_map, Nat.min_eq_left (by omega), Nat.min_eq_left (by omega),
      Nat.add_sub_cancel_left, ← List.map_drop, h1, List.map_append, List.take_left' (by simp), List.map_map]
    rfl
  · rw [← List.drop_drop, h1, List.drop_left' (by simp)]
abbrev s_answers : Stmt := top 90
theorem sc_answers : FnScope ["calls", "course", "told", "at", "behind", "answer"] ["calls"] (defScope s_answers) := ⟨rfl, rfl, rfl, by decide +kernel, rfl, by decide +kernel, by decide +kernel⟩
theorem ok_answers {fI hA f : Addr} {fdI fd : FuncData} (F : Fun K "answers" "answers" s_answers f fd) (T : Txt2 K mg C hA) (M : Mk K C fI) (FI : Fun K "__init__" "Course.__init__" s_init fI fdI) (bI : Binds K fdI ["self"] [])
    (c_answer_call : Cal P w K mg base "answer_call" 9 ["course", "number", "handed"] (spCall C)) : FnOk P w K mg base CX0 10 f fd ["calls"] (spAnswers K) := by
  have G : FnOk P w K mg base CX0 8 fI fdI ["self"] (spInit C) := (ok_init FI T.toTxt).mono (by decide)
  refine F.ok sc_answers (fun vs H Q E h => ?_) (fun cdv A outer s H vs Q E hr h => ?_)
  · obtain ⟨a, l, rfl, _⟩ := h
    rfl
  · obtain ⟨a, l, rfl, hS, hlen, hb, hask, k⟩ := h
    obtain ⟨hpl, hal⟩ := asked_plays hask hb
    refine ⟨_, (pss_cons (ps_set (i := 1) sc_answers.nd rfl (by first | exact Or.inl rfl | exact Or.inr rfl) (pe_make0 M G hr rfl T.mgC bI .nil pass0))
    (pss_cons (ps_set (i := 2) sc_answers.nd rfl (by first | exact Or.inl rfl | exact Or.inr rfl) (pe_lst pa_nil))
    (pss_cons (ps_set (i := 3) sc_answers.nd rfl (by first | exact Or.inl rfl | exact Or.inr rfl) pe_int)
    (pss_cons (ps_while PassesOwn.never (pt_cmpR op_lt (pv 3) (pe_callB call_len_seq (by rfl) T.b_len bt_len (pa_cons (pv 0) pa_nil)) (nomark _))
    (pss_cons (ps_set (i := 4) sc_answers.nd rfl (by first | exact Or.inl rfl | exact Or.inr rfl) (pe_op op_add (pe_op op_add (pv 3) pe_int) (pe_ix ix_tup (pe_gl T.g_HANDED) (pe_ix ix_list (pv 0) (pv 3) (fun _ _ => rfl)) (fun _ _ => rfl))))
      (pss_cons (ps_set (i := 5) sc_answers.nd rfl (by first | exact Or.inl rfl | exact Or.inr rfl) (pe_own c_answer_call (hr.mono (by decide)) (pa_cons (pv 1) (pa_cons (pe_ix ix_list (pv 0) (pv 3) (fun _ _ => rfl)) (pa_cons (pe_slice sl_list (pv 0) (po_some (pe_op op_add (pv 3) pe_int)) (po_some (pv 4))) pa_nil)))))
      (pss_cons (ps_expr (pe_bm PySem.F.plainAttrs_list PySem.F.slot_list_append PySem.F.type_list_append mt_append (pv 2) (pa_cons (pe_callB call_len_seq (by rfl) T.b_len bt_len (pa_cons (pv 5) pa_nil)) pa_nil)))
      (pss_cons (ps_expr (pe_bm PySem.F.plainAttrs_list PySem.F.slot_list_extend PySem.F.type_list_extend mt_extend (pv 2) (pa_cons (pv 5) pa_nil)))
      (pss_one (ps_set (i := 3) sc_answers.nd rfl (by first | exact Or.inl rfl | exact Or.inr rfl) (pv 4))))))))
    (pss_one (ps_ret (pv 2))))))), ?_⟩
    show tSeq _ _ _ [some (.ref a), none, none, none, none, none] H
    walk_at "rd"
    intro p dx np nd ne
    refine ⟨p, dx, rfl, upd_same, fun H1 hC1 k1 => ⟨rfl, ?_⟩⟩
    have s1 : Same H H1 := Same.made np nd k1
    walk_at "rd"
    refine ⟨Nat.zero_le _, fun tl H2 m2 => ?_⟩
    have ntl : tl ∉ [p] := by
      intro z
      have : tl = p := by simpa using z
      obtain ⟨_, dx', m', g', lc', n', lr', e⟩ := hC1.obj
      have hf := m2.free
      rw [this, e] at hf
      cases hf
    have hpf : ∀ b ∈ [p], H b = none := fun b hb => by
      have : b = p := by simpa using hb
      rw [this]
      exact np
    have h0 : Main C H a p tl l (l.length - 0) [some (.ref a), some (.ref p), some (.ref tl), some (.int 0), none, none] H2 :=
      ⟨⟨0, [p], none, _, [], _, _, rfl, hC1.same m2.same, hpf, ntl, m2.at_, Nat.zero_le _, hpl, rfl, rfl⟩, s1.trans m2.same, s1.free m2.free⟩
    refine whileW (Main C H a p tl l) ⟨_, h0⟩ ?_
    rintro m σ H3 ⟨⟨at_, L, st, out, don, vb, va, rfl, hC, hL, hT, ht, ha, hP, he, rfl⟩, s3, tf⟩
    have hS3 := s3.seq hS
    walk_at "rd"
    refine ⟨_, .inl hS3, ?_⟩
    rw [List.length_map]
    split
    · rename_i hlt
      have hlt : at_ < l.length := by omega
      rcases hP.len with e | ⟨n, ns, rest, out', hn, hnl, hnb, hd, ho, hP'⟩
      · have := congrArg List.length e
        rw [List.length_drop] at this
        simp at this
        omega
      have hat : l[at_]? = some (n : Int) := by
        have := congrArg (fun z => z[0]?) hd
        rw [List.getElem?_drop] at this
        simpa using this
      have hat' : atI (l.map V.int) (at_ : Int) = some (.int n) := at_map hat
      refine ⟨_, fun _ _ h => h, _, hS3, _, hat', ?_⟩
      obtain ⟨hcut, hle, hrest⟩ := cut_args hd
      rw [hnl] at hcut hle hrest
      refine ⟨_, n, rfl, T.t_HANDED H3, _, at_map (ars_at hn), ar n, rfl, _, hS3, _, hat', _, hS3, fun h H4 m4 => ?_⟩
      have e4 := m4.at_
      rw [hcut] at e4
      refine ⟨p, h, L, st, n, ns, rfl, hC.same m4.same, e4, hn, hnl, hnb, fun H5 L5 q hC5 hK hL5 hq hqf => ?_⟩
      have ht4 := m4.same _ _ ht
      have ht5 := hK _ _ ht4 hT
      have hT5 : tl ∉ L5 := fun z => by
        rcases hL5 _ z with y | y
        · exact hT y
        · rw [ht4] at y
          cases y
      have hqt : q ≠ tl := fun z => by
        rcases hqf with y | y
        · exact hT (z ▸ y)
        · rw [z, ht4] at y
          cases y
      have s5 : Same H H5 := fun b o hb => hK b o (m4.same _ _ (s3 b o hb)) fun z => by
        rw [hL b z] at hb
        cases hb
      have hsz : don.length + 1 + (nx st n ns).2.length ≤ 10000000 := by
        have := congrArg List.length he
        rw [ho, List.length_append, List.length_cons, List.length_append] at this
        omega
      walk_at "rd"
      refine ⟨.inl ⟨rfl, _, SqL.of ht5⟩, _, .inl (SqL.of hq), _, ht5, ?_, .inl ⟨rfl, _, SqL.of upd_same⟩, _, upd_same, _, upd_at hq hqt, ?_, l.length - (at_ + 1 + ar n), by omega, ?_⟩
      · rw [List.length_map, sizeLine_eq]
        omega
      · rw [List.length_append, List.length_map, List.length_map, List.length_cons, List.length_nil, sizeLine_eq]
        omega
      · rw [upd_upd]
        refine ⟨⟨at_ + 1 + ar n, L5, (nx st n ns).1, out', don ++ (((nx st n ns).2.length : Int) :: (nx st n ns).2), _, _, rfl, hC5.other hT5 ht5, ?_, hT5, ?_, hle, ?_, ?_, rfl⟩, s5.own tf, tf⟩
        · intro b hb
          rcases hL5 b hb with y | y
          · exact hL b y
          · exact (s3.trans m4.same).free y
        · rw [upd_same]
          simp
        · rw [hrest]
          exact hP'
        · rw [← he, ho]
          simp
    · rename_i hlt
      have e : at_ = l.length := by omega
      subst e
      rw [List.drop_length] at hP
      have : out = [] := by cases hP; rfl
      subst this
      rw [List.append_nil] at he
      subst he
      exact k _ _ ht
end

/-! ### what the top has written -/
theorem isdef_mk {K : PySem.W.Frag} {h : Heap} {mg : Str → Option Value} {x : Str} {st : Stmt} {f : Addr} {oc : Value} {od an : Option Addr} {osl : Array (Option Value)} {kV doc pm cdv ct : Value} (X : K.In h) (G : h.Ns mainGlobals mg)
    (a : PySem.W.nsIn K mainGlobals x = some (some (.ref f))) (l : K.lookup f = some ⟨oc, od, .func (PySem.W.fnOf x x (defArgs st) (defBody st) (defScope st) .none kV doc pm an cdv ct), osl⟩) (c : PySem.W.codeIn K cdv x = true) (k : PySem.W.keepIn K (.ref f) = true) : IsDef K mg x st :=
  ⟨f, _, fun_mk l c k, PySem.W.mg_of X G a⟩
theorem gli_mk {K : PySem.W.Frag} {h : Heap} {mg : Str → Option Value} {x : Str} {i : Int} {t : Tok} (X : K.In h) (G : h.Ns mainGlobals mg) (a : PySem.W.nsIn K mainGlobals x = some (some (.int i t))) : GlI mg x (.int i) := ⟨_, PySem.W.mg_of X G a, ⟨t, rfl⟩⟩
theorem txt_mk {K : PySem.W.Frag} {h : Heap} {mg : Str → Option Value} {C hA : Addr} {odH : Option Addr} {nH : Nat} {slH : Array (Option Value)} {t_NO_SUCH t_WRONG t_FULL t_NO_WAY t_NOT_BEGUN t_GREATEST_MOST t_MOST_MINUTES t_MOST_GAP t_MOST_CROSSINGS t_MOST_SPANS t_MOST_PLACES t_MOST_ROADS t_MOST_ROAD_MINUTES t_BEGIN t_CROSSING t_SPAN t_CLEAR t_PLACE t_ROAD t_GAP t_RUNS t_CROSSABLE t_NEXT t_SHUTS t_LONGEST t_HOLDS t_LEAST t_MARSHALS t_DUTIES t_ARRIVE t_ALL_PLACES t_LATEST t_WORST t_LOOK tH0 tH1 tH2 tH3 tH4 tH5 tH6 tH7 tH8 tH9 tH10 tH11 tH12 tH13 tH14 tH15 tH16 tH17 tH18 tH19 tH20 tH21 : Tok} (X : K.In h) (G : h.Ns mainGlobals mg)
    (aC : PySem.W.nsIn K mainGlobals "Course" = some (some (.ref C))) (pg : PySem.W.plainGet K C Str.empty = true) (hd : PySem.W.hasDictIn K C = true) (po : PySem.W.plainOver K C = true) (sa : PySem.W.findIn K (.ref C) "__setattr__" = some (some (.builtin "object.__setattr__")))
    (nB : PySem.W.findIn K (.ref C) "begun" = some none) (nM : PySem.W.findIn K (.ref C) "minutes" = some none) (nG : PySem.W.findIn K (.ref C) "gap" = some none) (nC : PySem.W.findIn K (.ref C) "crossings" = some none) (nP : PySem.W.findIn K (.ref C) "places" = some none) (nR : PySem.W.findIn K (.ref C) "roads" = some none)
    (z_len : PySem.W.nsIn K mainGlobals "len" = some none) (z_list : PySem.W.nsIn K mainGlobals "list" = some none) (z_max : PySem.W.nsIn K mainGlobals "max" = some none) (z_min : PySem.W.nsIn K mainGlobals "min" = some none) (z_range : PySem.W.nsIn K mainGlobals "range" = some none) (z_sorted : PySem.W.nsIn K mainGlobals "sorted" = some none)
    (g_NO_SUCH : PySem.W.nsIn K mainGlobals "NO_SUCH" = some (some (.int (-2) t_NO_SUCH))) (g_WRONG : PySem.W.nsIn K mainGlobals "WRONG" = some (some (.int (-22) t_WRONG))) (g_FULL : PySem.W.nsIn K mainGlobals "FULL" = some (some (.int (-28) t_FULL))) (g_NO_WAY : PySem.W.nsIn K mainGlobals "NO_WAY" = some (some (.int (-33) t_NO_WAY))) (g_NOT_BEGUN : PySem.W.nsIn K mainGlobals "NOT_BEGUN" = some (some (.int (-61) t_NOT_BEGUN))) (g_GREATEST_MOST : PySem.W.nsIn K mainGlobals "GREATEST_MOST" = some (some (.int (120) t_GREATEST_MOST))) (g_MOST_MINUTES : PySem.W.nsIn K mainGlobals "MOST_MINUTES" = some (some (.int (120) t_MOST_MINUTES))) (g_MOST_GAP : PySem.W.nsIn K mainGlobals "MOST_GAP" = some (some (.int (8) t_MOST_GAP))) (g_MOST_CROSSINGS : PySem.W.nsIn K mainGlobals "MOST_CROSSINGS" = some (some (.int (6) t_MOST_CROSSINGS))) (g_MOST_SPANS : PySem.W.nsIn K mainGlobals "MOST_SPANS" = some (some (.int (6) t_MOST_SPANS))) (g_MOST_PLACES : PySem.W.nsIn K mainGlobals "MOST_PLACES" = some (some (.int (6) t_MOST_PLACES))) (g_MOST_ROADS : PySem.W.nsIn K mainGlobals "MOST_ROADS" = some (some (.int (12) t_MOST_ROADS))) (g_MOST_ROAD_MINUTES : PySem.W.nsIn K mainGlobals "MOST_ROAD_MINUTES" = some (some (.int (100) t_MOST_ROAD_MINUTES))) (g_BEGIN : PySem.W.nsIn K mainGlobals "BEGIN" = some (some (.int (0) t_BEGIN))) (g_CROSSING : PySem.W.nsIn K mainGlobals "CROSSING" = some (some (.int (1) t_CROSSING))) (g_SPAN : PySem.W.nsIn K mainGlobals "SPAN" = some (some (.int (2) t_SPAN))) (g_CLEAR : PySem.W.nsIn K mainGlobals "CLEAR" = some (some (.int (3) t_CLEAR))) (g_PLACE : PySem.W.nsIn K mainGlobals "PLACE" = some (some (.int (4) t_PLACE))) (g_ROAD : PySem.W.nsIn K mainGlobals "ROAD" = some (some (.int (5) t_ROAD))) (g_GAP : PySem.W.nsIn K mainGlobals "GAP" = some (some (.int (6) t_GAP))) (g_RUNS : PySem.W.nsIn K mainGlobals "RUNS" = some (some (.int (7) t_RUNS))) (g_CROSSABLE : PySem.W.nsIn K mainGlobals "CROSSABLE" = some (some (.int (8) t_CROSSABLE))) (g_NEXT : PySem.W.nsIn K mainGlobals "NEXT" = some (some (.int (9) t_NEXT))) (g_SHUTS : PySem.W.nsIn K mainGlobals "SHUTS" = some (some (.int (10) t_SHUTS))) (g_LONGEST : PySem.W.nsIn K mainGlobals "LONGEST" = some (some (.int (11) t_LONGEST))) (g_HOLDS : PySem.W.nsIn K mainGlobals "HOLDS" = some (some (.int (12) t_HOLDS))) (g_LEAST : PySem.W.nsIn K mainGlobals "LEAST" = some (some (.int (13) t_LEAST))) (g_MARSHALS : PySem.W.nsIn K mainGlobals "MARSHALS" = some (some (.int (14) t_MARSHALS))) (g_DUTIES : PySem.W.nsIn K mainGlobals "DUTIES" = some (some (.int (15) t_DUTIES))) (g_ARRIVE : PySem.W.nsIn K mainGlobals "ARRIVE" = some (some (.int (16) t_ARRIVE))) (g_ALL_PLACES : PySem.W.nsIn K mainGlobals "ALL_PLACES" = some (some (.int (17) t_ALL_PLACES))) (g_LATEST : PySem.W.nsIn K mainGlobals "LATEST" = some (some (.int (18) t_LATEST))) (g_WORST : PySem.W.nsIn K mainGlobals "WORST" = some (some (.int (19) t_WORST))) (g_LOOK : PySem.W.nsIn K mainGlobals "LOOK" = some (some (.int (20) t_LOOK)))
    (aH : PySem.W.nsIn K mainGlobals "HANDED" = some (some (.ref hA))) (lH : K.lookup hA = some ⟨.type "tuple", odH, .seq #[.int 2 tH0, .int 0 tH1, .int 3 tH2, .int 1 tH3, .int 0 tH4, .int 4 tH5, .int 1 tH6, .int 2 tH7, .int 2 tH8, .int 2 tH9, .int 1 tH10, .int 1 tH11, .int 2 tH12, .int 2 tH13, .int 0 tH14, .int 0 tH15, .int 3 tH16, .int 2 tH17, .int 3 tH18, .int 2 tH19, .int 1 tH20, .int 0 tH21] nH, slH⟩) : Txt2 K mg C hA :=
  { cl := ⟨pg, hd, po, sa⟩, nB := nB, nM := nM, nG := nG, nC := nC, nP := nP, nR := nR, b_len := PySem.W.mg_none_of X G z_len, b_list := PySem.W.mg_none_of X G z_list, b_max := PySem.W.mg_none_of X G z_max, b_min := PySem.W.mg_none_of X G z_min, b_range := PySem.W.mg_none_of X G z_range, b_sorted := PySem.W.mg_none_of X G z_sorted, g_NO_SUCH := gli_mk X G g_NO_SUCH, g_WRONG := gli_mk X G g_WRONG, g_FULL := gli_mk X G g_FULL, g_NO_WAY := gli_mk X G g_NO_WAY, g_NOT_BEGUN := gli_mk X G g_NOT_BEGUN, g_GREATEST_MOST := gli_mk X G g_GREATEST_MOST, g_MOST_MINUTES := gli_mk X G g_MOST_MINUTES, g_MOST_GAP := gli_mk X G g_MOST_GAP, g_MOST_CROSSINGS := gli_mk X G g_MOST_CROSSINGS, g_MOST_SPANS := gli_mk X G g_MOST_SPANS, g_MOST_PLACES := gli_mk X G g_MOST_PLACES, g_MOST_ROADS := gli_mk X G g_MOST_ROADS, g_MOST_ROAD_MINUTES := gli_mk X G g_MOST_ROAD_MINUTES, g_BEGIN := gli_mk X G g_BEGIN, g_CROSSING := gli_mk X G g_CROSSING, g_SPAN := gli_mk X G g_SPAN, g_CLEAR := gli_mk X G g_CLEAR, g_PLACE := gli_mk X G g_PLACE, g_ROAD := gli_mk X G g_ROAD, g_GAP := gli_mk X G g_GAP, g_RUNS := gli_mk X G g_RUNS, g_CROSSABLE := gli_mk X G g_CROSSABLE, g_NEXT := gli_mk X G g_NEXT, g_SHUTS := gli_mk X G g_SHUTS, g_LONGEST := gli_mk X G g_LONGEST, g_HOLDS := gli_mk X G g_HOLDS, g_LEAST := gli_mk X G g_LEAST, g_MARSHALS := gli_mk X G g_MARSHALS, g_DUTIES := gli_mk X G g_DUTIES, g_ARRIVE := gli_mk X G g_ARRIVE, g_ALL_PLACES := gli_mk X G g_ALL_PLACES, g_LATEST := gli_mk X G g_LATEST, g_WORST := gli_mk X G g_WORST, g_LOOK := gli_mk X G g_LOOK,
    mgC := PySem.W.mg_of X G aC, g_HANDED := ⟨_, PySem.W.mg_of X G aH, rfl⟩,
    t_HANDED := fun H => .inr ⟨_, _, _, lH, rfl, rfl, (by show 22 ≤ sizeLine; decide), .cons ⟨_, rfl⟩ (.cons ⟨_, rfl⟩ (.cons ⟨_, rfl⟩ (.cons ⟨_, rfl⟩ (.cons ⟨_, rfl⟩ (.cons ⟨_, rfl⟩ (.cons ⟨_, rfl⟩ (.cons ⟨_, rfl⟩ (.cons ⟨_, rfl⟩ (.cons ⟨_, rfl⟩ (.cons ⟨_, rfl⟩ (.cons ⟨_, rfl⟩ (.cons ⟨_, rfl⟩ (.cons ⟨_, rfl⟩ (.cons ⟨_, rfl⟩ (.cons ⟨_, rfl⟩ (.cons ⟨_, rfl⟩ (.cons ⟨_, rfl⟩ (.cons ⟨_, rfl⟩ (.cons ⟨_, rfl⟩ (.cons ⟨_, rfl⟩ (.cons ⟨_, rfl⟩ (.nil))))))))))))))))))))))⟩ }
/-- the class and its __init__ -/
structure Cour (K : PySem.W.Frag) (C : Addr) : Prop where
  ex : ∃ (fI : Addr) (fdI : FuncData), Mk K C fI ∧ Fun K "__init__" "Course.__init__" s_init fI fdI
theorem cour_mk {K : PySem.W.Frag} {C f : Addr} {oc : Value} {od an : Option Addr} {osl : Array (Option Value)} {kV doc pm cdv ct : Value} (a : PySem.W.findIn K (.ref C) "__init__" = some (some (.ref f))) (i : PySem.W.isFn K (.ref f) = true)
    (l : K.lookup f = some ⟨oc, od, .func (PySem.W.fnOf "__init__" "Course.__init__" (defArgs s_init) (defBody s_init) (defScope s_init) .none kV doc pm an cdv ct), osl⟩) (c : PySem.W.codeIn K cdv "Course.__init__" = true) (k : PySem.W.keepIn K (.ref f) = true)
    (mk : PySem.W.makesIn K C = true) (kc : PySem.W.keepIn K (.ref C) = true) : Cour K C := ⟨f, _, ⟨mk, a, i, kc⟩, fun_mk l c k⟩
theorem ntxt_mk {K : PySem.W.Frag} {h : Heap} {mg : Str → Option Value} {N : Addr} (X : K.In h) (G : h.Ns mainGlobals mg) (aN : PySem.W.nsIn K mainGlobals "Network" = some (some (.ref N))) (pg : PySem.W.plainGet K N Str.empty = true) (hd : PySem.W.hasDictIn K N = true)
    (po : PySem.W.plainOver K N = true) (sa : PySem.W.findIn K (.ref N) "__setattr__" = some (some (.builtin "object.__setattr__"))) (nW : PySem.W.findIn K (.ref N) "waits" = some none) (nS : PySem.W.findIn K (.ref N) "steps" = some none) : NTxt K mg N :=
  ⟨⟨pg, hd, po, sa⟩, nW, nS, PySem.W.mg_of X G aN⟩
structure Netw (K : PySem.W.Frag) (N : Addr) : Prop where
  ex : ∃ (fI : Addr) (fdI : FuncData), Mk K N fI ∧ Fun K "__init__" "Network.__init__" s_netinit fI fdI
theorem netw_mk {K : PySem.W.Frag} {N f : Addr} {oc : Value} {od an : Option Addr} {osl : Array (Option Value)} {kV doc pm cdv ct : Value} (a : PySem.W.findIn K (.ref N) "__init__" = some (some (.ref f))) (i : PySem.W.isFn K (.ref f) = true)
    (l : K.lookup f = some ⟨oc, od, .func (PySem.W.fnOf "__init__" "Network.__init__" (defArgs s_netinit) (defBody s_netinit) (defScope s_netinit) .none kV doc pm an cdv ct), osl⟩) (c : PySem.W.codeIn K cdv "Network.__init__" = true) (k : PySem.W.keepIn K (.ref f) = true)
    (mk : PySem.W.makesIn K N = true) (kc : PySem.W.keepIn K (.ref N) = true) : Netw K N := ⟨f, _, ⟨mk, a, i, kc⟩, fun_mk l c k⟩
/-- all defs, one upon another -/
structure All (K : PySem.W.Frag) (mg : Str → Option Value) : Prop where
  d_has_crossing : IsDef K mg "has_crossing" (top 2)
  d_has_place : IsDef K mg "has_place" (top 3)
  d_has_road : IsDef K mg "has_road" (top 4)
  d_hold_minutes : IsDef K mg "hold_minutes" (top 6)
  d_least_most : IsDef K mg "least_most" (top 7)
  d_runner_marks : IsDef K mg "runner_marks" (top 14)
  d_car_marks : IsDef K mg "car_marks" (top 15)
  d_first_car_minute : IsDef K mg "first_car_minute" (top 16)
  d_shut_spans : IsDef K mg "shut_spans" (top 17)
  d_cars_at : IsDef K mg "cars_at" (top 18)
  d_shuts_at : IsDef K mg "shuts_at" (top 19)
  d_minute_refusal : IsDef K mg "minute_refusal" (top 22)
  d_ask_runs : IsDef K mg "ask_runs" (top 23)
  d_ask_crossable : IsDef K mg "ask_crossable" (top 24)
  d_ask_next : IsDef K mg "ask_next" (top 25)
  d_ask_shuts : IsDef K mg "ask_shuts" (top 26)
  d_ask_longest : IsDef K mg "ask_longest" (top 27)
  d_ask_holds : IsDef K mg "ask_holds" (top 28)
  d_ask_least : IsDef K mg "ask_least" (top 29)
  d_crossing_minutes : IsDef K mg "crossing_minutes" (top 32)
  d_road_end : IsDef K mg "road_end" (top 33)
  d_crossed_in : IsDef K mg "crossed_in" (top 34)
  d_earliest_minutes : IsDef K mg "earliest_minutes" (top 35)
  d_way_refusal : IsDef K mg "way_refusal" (top 37)
  d_ask_arrive : IsDef K mg "ask_arrive" (top 38)
  d_ask_all_places : IsDef K mg "ask_all_places" (top 39)
  d_ask_latest : IsDef K mg "ask_latest" (top 40)
  d_ask_worst : IsDef K mg "ask_worst" (top 41)
  d_ask_look : IsDef K mg "ask_look" (top 43)
  d_ask_state : IsDef K mg "ask_state" (top 44)
  d_begin : IsDef K mg "begin" (top 53)
  d_add_crossing : IsDef K mg "add_crossing" (top 54)
  d_add_span : IsDef K mg "add_span" (top 55)
  d_clear_spans : IsDef K mg "clear_spans" (top 56)
  d_add_place : IsDef K mg "add_place" (top 57)
  d_add_road : IsDef K mg "add_road" (top 58)
  d_change_gap : IsDef K mg "change_gap" (top 59)
  d_ask_marshals : IsDef K mg "ask_marshals" (top 61)
  d_closed_in : IsDef K mg "closed_in" (top 62)
  d_ask_duties : IsDef K mg "ask_duties" (top 63)
  d_shuts_in_order : IsDef K mg "shuts_in_order" (top 64)
  d_give_out : IsDef K mg "give_out" (top 65)
  d_least_free : IsDef K mg "least_free" (top 66)
  d_answers : IsDef K mg "answers" (top 90)
  d_answer_call : IsDef K mg "answer_call" (top 91)
  d_answer_making : IsDef K mg "answer_making" (top 92)
  d_answer_asking : IsDef K mg "answer_asking" (top 93)
  d_answer_going : IsDef K mg "answer_going" (top 94)
  d_answer_overall : IsDef K mg "answer_overall" (top 95)
theorem all_ok {P : Program} {w : World} {K : PySem.W.Frag} {mg : Str → Option Value} {C N hA fa : Addr} (hfa : mg "answers" = some (.ref fa)) (T : Txt2 K mg C hA) (R : Cour K C) (NT : NTxt K mg N) (NR : Netw K N) (A : All K mg) :
    ∃ fd : FuncData, (∀ (s : Shared) (us : List Value), us.length = (["calls"] : List Str).length → BindsTo s fd ⟨us, []⟩ ((["calls"] : List Str).zip us)) ∧ ∀ base : Heap, K.In base → base.Ns mainGlobals mg → FnOk P w K mg base CX0 10 fa fd ["calls"] (spAnswers K) := by
  obtain ⟨f, fd, F, hm⟩ := A.d_answers
  have e := hfa.symm.trans hm
  cases e
  obtain ⟨fI, fdI, M, FI⟩ := R.ex
  have bI := FI.binds (ps := ["self"]) fun _ _ _ _ _ _ => us1 (fun _ => rfl)
  refine ⟨fd, ?_, fun base _ _ => ?_⟩
  · obtain ⟨oc, od, kV, doc, pm, an, cdv, ct, osl, rfl, lk, hcd⟩ := F.ex
    exact fun s => us1 (fun _ => .of_eq rfl)
  · have T1 := T.toTxt
    have c_has_crossing := ok_has_crossing (P := P) (w := w) (base := base) A.d_has_crossing T1
    have c_has_place := ok_has_place (P := P) (w := w) (base := base) A.d_has_place T1
    have c_begin := ok_begin (P := P) (w := w) (base := base) A.d_begin T1
    have c_am := ok_answer_making (P := P) (w := w) (base := base) A.d_answer_making T1 (ok_add_crossing A.d_add_crossing T1) (ok_add_span A.d_add_span T1 c_has_crossing) (ok_clear_spans A.d_clear_spans T1 c_has_crossing) (ok_add_place A.d_add_place T1) (ok_add_road A.d_add_road T1 c_has_crossing c_has_place) (ok_change_gap A.d_change_gap T1)
    have c_first := ok_first (P := P) (w := w) (base := base) A.d_first_car_minute T1
    have c_runner := ok_runner_marks (P := P) (w := w) (base := base) A.d_runner_marks T1
    have c_cars := ok_cars_at A.d_cars_at T1 (ok_car_marks A.d_car_marks T1 c_runner)
    have c_shuts := ok_shuts_at A.d_shuts_at T1 c_cars (ok_shuts A.d_shut_spans T1 c_first)
    have c_mr := ok_minute_refusal A.d_minute_refusal T1 c_has_crossing
    have c_hold := ok_hold_minutes (P := P) (w := w) (base := base) A.d_hold_minutes T1
    have c_aa := ok_answer_asking A.d_answer_asking T1 (ok_ask_runs A.d_ask_runs T1 c_mr c_runner) (ok_ask_crossable A.d_ask_crossable T1 c_mr c_cars) (ok_ask_next A.d_ask_next T1 c_mr c_cars c_first) (ok_ask_shuts A.d_ask_shuts T1 c_has_crossing c_shuts)
      (ok_ask_longest A.d_ask_longest T1 c_has_crossing c_shuts) (ok_ask_holds A.d_ask_holds T1 c_has_crossing c_shuts c_hold) (ok_ask_least A.d_ask_least T1 c_has_crossing c_shuts (ok_least_most A.d_least_most T1 c_hold))
    obtain ⟨fN, fdN, NM, NF⟩ := NR.ex
    have NB := NF.binds (ps := ["self", "course"]) fun _ _ _ _ _ _ => us2 (fun _ _ => rfl)
    have NG := ok_netinit (P := P) (w := w) (base := base) NF T1 NT c_cars (ok_crossing_minutes A.d_crossing_minutes T1 c_first)
    have c_em := ok_earliest_minutes A.d_earliest_minutes T1 NT (ok_road_end (P := P) (w := w) (base := base) A.d_road_end T1 NT (ok_crossed_in A.d_crossed_in T1))
    have c_wr := ok_way_refusal A.d_way_refusal T1 c_has_place
    have c_ag := ok_answer_going A.d_answer_going T1 (ok_ask_arrive A.d_ask_arrive T1 NT NM NG NB c_wr c_em) (ok_ask_all_places A.d_ask_all_places T1 NT NM NG NB c_wr c_em) (ok_ask_latest A.d_ask_latest T1 NT NM NG NB c_wr c_em) (ok_ask_worst A.d_ask_worst T1 NT NM NG NB c_wr c_em)
    have c_ao := ok_answer_overall A.d_answer_overall T1 (ok_ask_marshals A.d_ask_marshals T1 c_cars (ok_closed_in A.d_closed_in T1)) (ok_ask_duties A.d_ask_duties T1 (ok_shuts_in_order A.d_shuts_in_order T1 c_shuts) (ok_give_out A.d_give_out T1 (ok_least_free A.d_least_free T1)))
      (ok_ask_look A.d_ask_look T1 (ok_has_road A.d_has_road T1)) (ok_ask_state A.d_ask_state T1)
    exact ok_answers F T M FI bI (ok_answer_call A.d_answer_call T1 c_begin c_am c_aa c_ag c_ao)

end RC
end
def PySem.W.Fast.tw10951882969763354307 : Nat := 0
def PySem.W.Fast.tw15180696577280628057 : Nat := 0
def PySem.W.Fast.tw13496009076115928165 : Nat := 0
def PySem.W.Fast.tw5589204573966633726 : Nat := 0
def PySem.W.Fast.tw2530812468990357560 : Nat := 0
def PySem.W.Fast.tw1473130690640488898 : Nat := 0
def PySem.W.Fast.tw181695896774735881 : Nat := 0
open PySem PySem.W PyProof.Rows
set_option maxRecDepth 100000 in
set_option maxHeartbeats 0 in
theorem PySem.Challenge.cw_roadsclosed_s01_answers_holds : PySem.Challenge.rw_roadsclosed_s01_answers.Holds := by
  w_on; k_headS; (case hw => exact ⟨[.list [.int 21]], by decide +kernel, by decide +kernel⟩)
  k_fillS
  refine L2.walk_specK (r := PySem.Challenge.rw_roadsclosed_s01_answers) (k := 10) (CX := L2.CX0) (ps := ["calls"]) (sp := RC.spAnswers) (by decide +kernel) rfl rfl ⟨rfl, by decide, by decide⟩ (fun w h Y => PySem.W.kIn_of Y) ?F ?S (fun _ _ _ _ z => z)
  case F =>
    intro w mg fa h Y KX G hmg
    refine' RC.all_ok hmg (RC.txt_mk KX G ?aC ?pg ?hd ?po ?sa ?nB ?nM ?nG ?nC ?nP ?nR ?z_len ?z_list ?z_max ?z_min ?z_range ?z_sorted ?g_NO_SUCH ?g_WRONG ?g_FULL ?g_NO_WAY ?g_NOT_BEGUN ?g_GREATEST_MOST ?g_MOST_MINUTES ?g_MOST_GAP ?g_MOST_CROSSINGS ?g_MOST_SPANS ?g_MOST_PLACES ?g_MOST_ROADS ?g_MOST_ROAD_MINUTES ?g_BEGIN ?g_CROSSING ?g_SPAN ?g_CLEAR ?g_PLACE ?g_ROAD ?g_GAP ?g_RUNS ?g_CROSSABLE ?g_NEXT ?g_SHUTS ?g_LONGEST ?g_HOLDS ?g_LEAST ?g_MARSHALS ?g_DUTIES ?g_ARRIVE ?g_ALL_PLACES ?g_LATEST ?g_WORST ?g_LOOK ?aH ?lH) (RC.cour_mk ?ia ?ii ?il ?ic ?ik ?im ?ikc) (RC.ntxt_mk KX G ?aN ?pgN ?hdN ?poN ?saN ?nW ?nS) (RC.netw_mk ?na ?ni ?nl ?nc ?nk ?nm ?nkc) ⟨RC.isdef_mk KX G ?a_has_crossing ?l_has_crossing ?c_has_crossing ?k_has_crossing, RC.isdef_mk KX G ?a_has_place ?l_has_place ?c_has_place ?k_has_place, RC.isdef_mk KX G ?a_has_road ?l_has_road ?c_has_road ?k_has_road, RC.isdef_mk KX G ?a_hold_minutes ?l_hold_minutes ?c_hold_minutes ?k_hold_minutes, RC.isdef_mk KX G ?a_least_most ?l_least_most ?c_least_most ?k_least_most, RC.isdef_mk KX G ?a_runner_marks ?l_runner_marks ?c_runner_marks ?k_runner_marks, RC.isdef_mk KX G ?a_car_marks ?l_car_marks ?c_car_marks ?k_car_marks, RC.isdef_mk KX G ?a_first_car_minute ?l_first_car_minute ?c_first_car_minute ?k_first_car_minute, RC.isdef_mk KX G ?a_shut_spans ?l_shut_spans ?c_shut_spans ?k_shut_spans, RC.isdef_mk KX G ?a_cars_at ?l_cars_at ?c_cars_at ?k_cars_at, RC.isdef_mk KX G ?a_shuts_at ?l_shuts_at ?c_shuts_at ?k_shuts_at, RC.isdef_mk KX G ?a_minute_refusal ?l_minute_refusal ?c_minute_refusal ?k_minute_refusal, RC.isdef_mk KX G ?a_ask_runs ?l_ask_runs ?c_ask_runs ?k_ask_runs, RC.isdef_mk KX G ?a_ask_crossable ?l_ask_crossable ?c_ask_crossable ?k_ask_crossable, RC.isdef_mk KX G ?a_ask_next ?l_ask_next ?c_ask_next ?k_ask_next, RC.isdef_mk KX G ?a_ask_shuts ?l_ask_shuts ?c_ask_shuts ?k_ask_shuts, RC.isdef_mk KX G ?a_ask_longest ?l_ask_longest ?c_ask_longest ?k_ask_longest, RC.isdef_mk KX G ?a_ask_holds ?l_ask_holds ?c_ask_holds ?k_ask_holds, RC.isdef_mk KX G ?a_ask_least ?l_ask_least ?c_ask_least ?k_ask_least, RC.isdef_mk KX G ?a_crossing_minutes ?l_crossing_minutes ?c_crossing_minutes ?k_crossing_minutes, RC.isdef_mk KX G ?a_road_end ?l_road_end ?c_road_end ?k_road_end, RC.isdef_mk KX G ?a_crossed_in ?l_crossed_in ?c_crossed_in ?k_crossed_in, RC.isdef_mk KX G ?a_earliest_minutes ?l_earliest_minutes ?c_earliest_minutes ?k_earliest_minutes, RC.isdef_mk KX G ?a_way_refusal ?l_way_refusal ?c_way_refusal ?k_way_refusal, RC.isdef_mk KX G ?a_ask_arrive ?l_ask_arrive ?c_ask_arrive ?k_ask_arrive, RC.isdef_mk KX G ?a_ask_all_places ?l_ask_all_places ?c_ask_all_places ?k_ask_all_places, RC.isdef_mk KX G ?a_ask_latest ?l_ask_latest ?c_ask_latest ?k_ask_latest, RC.isdef_mk KX G ?a_ask_worst ?l_ask_worst ?c_ask_worst ?k_ask_worst, RC.isdef_mk KX G ?a_ask_look ?l_ask_look ?c_ask_look ?k_ask_look, RC.isdef_mk KX G ?a_ask_state ?l_ask_state ?c_ask_state ?k_ask_state, RC.isdef_mk KX G ?a_begin ?l_begin ?c_begin ?k_begin, RC.isdef_mk KX G ?a_add_crossing ?l_add_crossing ?c_add_crossing ?k_add_crossing, RC.isdef_mk KX G ?a_add_span ?l_add_span ?c_add_span ?k_add_span, RC.isdef_mk KX G ?a_clear_spans ?l_clear_spans ?c_clear_spans ?k_clear_spans, RC.isdef_mk KX G ?a_add_place ?l_add_place ?c_add_place ?k_add_place, RC.isdef_mk KX G ?a_add_road ?l_add_road ?c_add_road ?k_add_road, RC.isdef_mk KX G ?a_change_gap ?l_change_gap ?c_change_gap ?k_change_gap, RC.isdef_mk KX G ?a_ask_marshals ?l_ask_marshals ?c_ask_marshals ?k_ask_marshals, RC.isdef_mk KX G ?a_closed_in ?l_closed_in ?c_closed_in ?k_closed_in, RC.isdef_mk KX G ?a_ask_duties ?l_ask_duties ?c_ask_duties ?k_ask_duties, RC.isdef_mk KX G ?a_shuts_in_order ?l_shuts_in_order ?c_shuts_in_order ?k_shuts_in_order, RC.isdef_mk KX G ?a_give_out ?l_give_out ?c_give_out ?k_give_out, RC.isdef_mk KX G ?a_least_free ?l_least_free ?c_least_free ?k_least_free, RC.isdef_mk KX G ?a_answers ?l_answers ?c_answers ?k_answers, RC.isdef_mk KX G ?a_answer_call ?l_answer_call ?c_answer_call ?k_answer_call, RC.isdef_mk KX G ?a_answer_making ?l_answer_making ?c_answer_making ?k_answer_making, RC.isdef_mk KX G ?a_answer_asking ?l_answer_asking ?c_answer_asking ?k_answer_asking, RC.isdef_mk KX G ?a_answer_going ?l_answer_going ?c_answer_going ?k_answer_going, RC.isdef_mk KX G ?a_answer_overall ?l_answer_overall ?c_answer_overall ?k_answer_overall⟩
    (case aC => k_is)
    (case pg => k_is)
    (case hd => k_is)
    (case po => k_is)
    (case sa => k_is)
    (case nB => k_is)
    (case nM => k_is)
    (case nG => k_is)
    (case nC => k_is)
    (case nP => k_is)
    (case nR => k_is)
    (case z_len => k_is)
    (case z_list => k_is)
    (case z_max => k_is)
    (case z_min => k_is)
    (case z_range => k_is)
    (case z_sorted => k_is)
    (case g_NO_SUCH => k_is)
    (case g_WRONG => k_is)
    (case g_FULL => k_is)
    (case g_NO_WAY => k_is)
    (case g_NOT_BEGUN => k_is)
    (case g_GREATEST_MOST => k_is)
    (case g_MOST_MINUTES => k_is)
    (case g_MOST_GAP => k_is)
    (case g_MOST_CROSSINGS => k_is)
    (case g_MOST_SPANS => k_is)
    (case g_MOST_PLACES => k_is)
    (case g_MOST_ROADS => k_is)
    (case g_MOST_ROAD_MINUTES => k_is)
    (case g_BEGIN => k_is)
    (case g_CROSSING => k_is)
    (case g_SPAN => k_is)
    (case g_CLEAR => k_is)
    (case g_PLACE => k_is)
    (case g_ROAD => k_is)
    (case g_GAP => k_is)
    (case g_RUNS => k_is)
    (case g_CROSSABLE => k_is)
    (case g_NEXT => k_is)
    (case g_SHUTS => k_is)
    (case g_LONGEST => k_is)
    (case g_HOLDS => k_is)
    (case g_LEAST => k_is)
    (case g_MARSHALS => k_is)
    (case g_DUTIES => k_is)
    (case g_ARRIVE => k_is)
    (case g_ALL_PLACES => k_is)
    (case g_LATEST => k_is)
    (case g_WORST => k_is)
    (case g_LOOK => k_is)
    (case aH => k_is)
    (case lH => k_is)
    (case ia => k_is)
    (case ii => k_is)
    (case il => k_is)
    (case ic => k_is)
    (case ik => k_is)
    (case im => k_is)
    (case ikc => k_is)
    (case aN => k_is)
    (case pgN => k_is)
    (case hdN => k_is)
    (case poN => k_is)
    (case saN => k_is)
    (case nW => k_is)
    (case nS => k_is)
    (case na => k_is)
    (case ni => k_is)
    (case nl => k_is)
    (case nc => k_is)
    (case nk => k_is)
    (case nm => k_is)
    (case nkc => k_is)
    (case a_has_crossing => k_is); (case l_has_crossing => k_is); (case c_has_crossing => k_is); (case k_has_crossing => k_is)
    (case a_has_place => k_is); (case l_has_place => k_is); (case c_has_place => k_is); (case k_has_place => k_is)
    (case a_has_road => k_is); (case l_has_road => k_is); (case c_has_road => k_is); (case k_has_road => k_is)
    (case a_hold_minutes => k_is); (case l_hold_minutes => k_is); (case c_hold_minutes => k_is); (case k_hold_minutes => k_is)
    (case a_least_most => k_is); (case l_least_most => k_is); (case c_least_most => k_is); (case k_least_most => k_is)
    (case a_runner_marks => k_is); (case l_runner_marks => k_is); (case c_runner_marks => k_is); (case k_runner_marks => k_is)
    (case a_car_marks => k_is); (case l_car_marks => k_is); (case c_car_marks => k_is); (case k_car_marks => k_is)
    (case a_first_car_minute => k_is); (case l_first_car_minute => k_is); (case c_first_car_minute => k_is); (case k_first_car_minute => k_is)
    (case a_shut_spans => k_is); (case l_shut_spans => k_is); (case c_shut_spans => k_is); (case k_shut_spans => k_is)
    (case a_cars_at => k_is); (case l_cars_at => k_is); (case c_cars_at => k_is); (case k_cars_at => k_is)
    (case a_shuts_at => k_is); (case l_shuts_at => k_is); (case c_shuts_at => k_is); (case k_shuts_at => k_is)
    (case a_minute_refusal => k_is); (case l_minute_refusal => k_is); (case c_minute_refusal => k_is); (case k_minute_refusal => k_is)
    (case a_ask_runs => k_is); (case l_ask_runs => k_is); (case c_ask_runs => k_is); (case k_ask_runs => k_is)
    (case a_ask_crossable => k_is); (case l_ask_crossable => k_is); (case c_ask_crossable => k_is); (case k_ask_crossable => k_is)
    (case a_ask_next => k_is); (case l_ask_next => k_is); (case c_ask_next => k_is); (case k_ask_next => k_is)
    (case a_ask_shuts => k_is); (case l_ask_shuts => k_is); (case c_ask_shuts => k_is); (case k_ask_shuts => k_is)
    (case a_ask_longest => k_is); (case l_ask_longest => k_is); (case c_ask_longest => k_is); (case k_ask_longest => k_is)
    (case a_ask_holds => k_is); (case l_ask_holds => k_is); (case c_ask_holds => k_is); (case k_ask_holds => k_is)
    (case a_ask_least => k_is); (case l_ask_least => k_is); (case c_ask_least => k_is); (case k_ask_least => k_is)
    (case a_crossing_minutes => k_is); (case l_crossing_minutes => k_is); (case c_crossing_minutes => k_is); (case k_crossing_minutes => k_is)
    (case a_road_end => k_is); (case l_road_end => k_is); (case c_road_end => k_is); (case k_road_end => k_is)
    (case a_crossed_in => k_is); (case l_crossed_in => k_is); (case c_crossed_in => k_is); (case k_crossed_in => k_is)
    (case a_earliest_minutes => k_is); (case l_earliest_minutes => k_is); (case c_earliest_minutes => k_is); (case k_earliest_minutes => k_is)
    (case a_way_refusal => k_is); (case l_way_refusal => k_is); (case c_way_refusal => k_is); (case k_way_refusal => k_is)
    (case a_ask_arrive => k_is); (case l_ask_arrive => k_is); (case c_ask_arrive => k_is); (case k_ask_arrive => k_is)
    (case a_ask_all_places => k_is); (case l_ask_all_places => k_is); (case c_ask_all_places => k_is); (case k_ask_all_places => k_is)
    (case a_ask_latest => k_is); (case l_ask_latest => k_is); (case c_ask_latest => k_is); (case k_ask_latest => k_is)
    (case a_ask_worst => k_is); (case l_ask_worst => k_is); (case c_ask_worst => k_is); (case k_ask_worst => k_is)
    (case a_ask_look => k_is); (case l_ask_look => k_is); (case c_ask_look => k_is); (case k_ask_look => k_is)
    (case a_ask_state => k_is); (case l_ask_state => k_is); (case c_ask_state => k_is); (case k_ask_state => k_is)
    (case a_begin => k_is); (case l_begin => k_is); (case c_begin => k_is); (case k_begin => k_is)
    (case a_add_crossing => k_is); (case l_add_crossing => k_is); (case c_add_crossing => k_is); (case k_add_crossing => k_is)
    (case a_add_span => k_is); (case l_add_span => k_is); (case c_add_span => k_is); (case k_add_span => k_is)
    (case a_clear_spans => k_is); (case l_clear_spans => k_is); (case c_clear_spans => k_is); (case k_clear_spans => k_is)
    (case a_add_place => k_is); (case l_add_place => k_is); (case c_add_place => k_is); (case k_add_place => k_is)
    (case a_add_road => k_is); (case l_add_road => k_is); (case c_add_road => k_is); (case k_add_road => k_is)
    (case a_change_gap => k_is); (case l_change_gap => k_is); (case c_change_gap => k_is); (case k_change_gap => k_is)
    (case a_ask_marshals => k_is); (case l_ask_marshals => k_is); (case c_ask_marshals => k_is); (case k_ask_marshals => k_is)
    (case a_closed_in => k_is); (case l_closed_in => k_is); (case c_closed_in => k_is); (case k_closed_in => k_is)
    (case a_ask_duties => k_is); (case l_ask_duties => k_is); (case c_ask_duties => k_is); (case k_ask_duties => k_is)
    (case a_shuts_in_order => k_is); (case l_shuts_in_order => k_is); (case c_shuts_in_order => k_is); (case k_shuts_in_order => k_is)
    (case a_give_out => k_is); (case l_give_out => k_is); (case c_give_out => k_is); (case k_give_out => k_is)
    (case a_least_free => k_is); (case l_least_free => k_is); (case c_least_free => k_is); (case k_least_free => k_is)
    (case a_answers => k_is); (case l_answers => k_is); (case c_answers => k_is); (case k_answers => k_is)
    (case a_answer_call => k_is); (case l_answer_call => k_is); (case c_answer_call => k_is); (case k_answer_call => k_is)
    (case a_answer_making => k_is); (case l_answer_making => k_is); (case c_answer_making => k_is); (case k_answer_making => k_is)
    (case a_answer_asking => k_is); (case l_answer_asking => k_is); (case c_answer_asking => k_is); (case k_answer_asking => k_is)
    (case a_answer_going => k_is); (case l_answer_going => k_is); (case c_answer_going => k_is); (case k_answer_going => k_is)
    (case a_answer_overall => k_is); (case l_answer_overall => k_is); (case c_answer_overall => k_is); (case k_answer_overall => k_is)
  case S =>
    intro K H xs a hO hwi hask hx
    cases hx with
    | cons h1 h2 =>
      cases h2
      cases h1 with
      | lst hs ha =>
        have e := L2.ints_dw a.1 _ ha
        subst e
        have q : ((Codec.inLen 0 500 a.1 && a.1.all (Codec.inInt 0 4294967295)) && true) = true := hwi
        rw [Bool.and_eq_true, Bool.and_eq_true] at q
        refine ⟨_, a.1, rfl, hs, (Codec.inNat_iff.mp q.1.1).2, fun x hx => ?_, hask, fun H' p hp => .lst (L2.SqL.of hp) (L2.dw_ints _)⟩
        have := List.all_eq_true.mp q.1.2 x hx
        exact Codec.inInt_iff.mp this
#print axioms PySem.Challenge.cw_roadsclosed_s01_answers_holds

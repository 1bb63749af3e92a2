import PyProof.Rows.All
import Wide.All
import OpenK.AllK
import Wide.FinOn
import Lean
import PyProof.EqAt
import PyProof.EqKinds
import PyProof.TupleCall
import KE.KIntText
import KE.KSortAsk
import KE.KSortKey
import KE.KSortTup
import KE.KItemsList
import KE.KLam
import KE.KNestM
import PyProof.ListRange
import PyProof.Rows.StrLen
import PyProof.Rows.Range3
import PyProof.CallStr
import PyProof.StrBlockL
import PyProof.MeetsStr
import PyProof.Rows.StrDigits
import PySem.Challenge.RW_panelplace_k33_rows_not_read

set_option Elab.async false
set_option linter.all false
set_option maxRecDepth 100000

namespace L2
open PySem PySem.Spec PyProof.Rows
noncomputable abbrev Key := Sum Int Str
noncomputable def keyIs : Key → Value → Bool
  | .inl k, v => Value.isInt k v
  | .inr x, v => Value.isStrOf x v
noncomputable def keyH (w : World) : Key → Int
  | .inl k => hashInt k
  | .inr x => hashStr w x
theorem keyIs_shape : ∀ {k : Key} {v : Value}, keyIs k v = true → (∃ i t, k = Sum.inl i ∧ v = Value.int i t) ∨ (∃ x t, k = Sum.inr x ∧ v = Value.str x t)
  | .inl i, v, h => by
    obtain ⟨t, e⟩ := Value.isInt_shape (k := i) (v := v) h
    exact .inl ⟨i, t, rfl, e⟩
  | .inr x, v, h => by
    obtain ⟨t, e⟩ := Value.isStrOf_shape (x := x) (v := v) h
    exact .inr ⟨x, t, rfl, e⟩
theorem keyIs_int (i : Int) (t : Tok) : keyIs (.inl i) (.int i t) = true := by simp [keyIs, Value.isInt]
theorem keyIs_str (x : Str) (t : Tok) : keyIs (.inr x) (.str x t) = true := by simp [keyIs, Value.isStrOf]
theorem key_ll (a b : Int) : decide ((Sum.inl a : Key) = Sum.inl b) = (a == b) := by
  by_cases e : a = b
  · subst e; simp
  · have h : ¬ (Sum.inl a : Key) = Sum.inl b := fun q => e (Sum.inl.inj q)
    rw [decide_eq_false h]
    exact (beq_eq_false_iff_ne.mpr e).symm
theorem key_rr (a b : Str) : decide ((Sum.inr a : Key) = Sum.inr b) = decide (a = b) := by
  by_cases e : a = b
  · subst e; simp
  · have h : ¬ (Sum.inr a : Key) = Sum.inr b := fun q => e (Sum.inr.inj q)
    rw [decide_eq_false h, decide_eq_false e]
theorem key_lr (a : Int) (b : Str) : decide ((Sum.inl a : Key) = Sum.inr b) = false := decide_eq_false (fun q => nomatch q)
theorem key_rl (a : Str) (b : Int) : decide ((Sum.inr a : Key) = Sum.inl b) = false := decide_eq_false (fun q => nomatch q)
noncomputable def mixKind (prog : Program) (w : World) : PySem.KeyKind prog w Key where
  is := keyIs
  hash := keyH w
  inj := fun v a b ha hb => by
    rcases keyIs_shape ha with ⟨i, t, rfl, rfl⟩ | ⟨x, t, rfl, rfl⟩
    · rcases keyIs_shape hb with ⟨j, u, rfl, e⟩ | ⟨y, u, rfl, e⟩
      · injection e with e1 _; rw [e1]
      · exact nomatch e
    · rcases keyIs_shape hb with ⟨j, u, rfl, e⟩ | ⟨y, u, rfl, e⟩
      · exact nomatch e
      · injection e with e1 _; rw [e1]
  byValue := fun k v h => by
    rcases keyIs_shape h with ⟨i, t, rfl, rfl⟩ | ⟨x, t, rfl, rfl⟩ <;> rfl
  pyHash := fun hv h => by
    rcases keyIs_shape hv with ⟨i, t, rfl, rfl⟩ | ⟨x, t, rfl, rfl⟩
    · exact wpAny_pyHash_int h
    · exact wpAny_pyHash_str h
  eqBool := fun hu hv h => by
    rcases keyIs_shape hu with ⟨i, t, rfl, rfl⟩ | ⟨x, t, rfl, rfl⟩
    · rcases keyIs_shape hv with ⟨j, u, rfl, rfl⟩ | ⟨y, u, rfl, rfl⟩
      · rw [key_ll] at h; exact wpAny_eqBool_int h
      · rw [key_lr] at h; exact SeqAt.EqAt.int_str i t y u _ _ _ _ h
    · rcases keyIs_shape hv with ⟨j, u, rfl, rfl⟩ | ⟨y, u, rfl, rfl⟩
      · rw [key_rl] at h; exact SeqAt.EqAt.str_int x t j u _ _ _ _ h
      · rw [key_rr] at h; exact wpAny_eqBool_str h
  «strs» := fun k x t v h => by
    rcases keyIs_shape h with ⟨i, u, rfl, e⟩ | ⟨y, u, rfl, e⟩
    · exact nomatch e
    · injection e with e1 _
      subst e1
      cases v <;> rfl
theorem mixKind_int (prog : Program) (w : World) (i : Int) (t : Tok) : (mixKind prog w).is (.inl i) (.int i t) = true := keyIs_int i t
theorem mixKind_str (prog : Program) (w : World) (x : Str) (t : Tok) : (mixKind prog w).is (.inr x) (.str x t) = true := keyIs_str x t
end L2
namespace L2
open PySem PySem.Spec PyProof.Rows
inductive V where
  | non | bl (b : Bool) | int (i : Int) | str (x : Str) | byt (b : Array UInt8) | flt (b : UInt64) | ref (a : Addr) | ty (n : String)
  deriving DecidableEq
noncomputable def RelV : V → Value → Prop
  | .non, u => u = Value.none
  | .bl b, u => u = Value.bool b
  | .int i, u => ∃ t, u = Value.int i t
  | .str x, u => ∃ t, u = Value.str x t
  | .byt b, u => ∃ t, u = Value.bytes b t
  | .flt b, u => ∃ t, u = Value.float b t
  | .ref a, u => u = Value.ref a
  | .ty n, u => u = Value.type n
noncomputable abbrev Vals : List V → List Value → Prop := Paired RelV
theorem Vals.length {xs : List V} {us : List Value} (r : Vals xs us) : xs.length = us.length := Paired.length r
theorem Vals.get : ∀ {xs : List V} {us : List Value} {i : Nat} {x : V}, Vals xs us → xs[i]? = some x → ∃ u, us[i]? = some u ∧ RelV x u
  | _, _, _, _, .nil, e => by simp at e
  | _, _, 0, _, .cons r _, e => by simp at e; subst e; exact ⟨_, rfl, r⟩
  | _, _, i + 1, x, .cons _ t, e => by
    obtain ⟨u, h1, h2⟩ := Vals.get (i := i) (x := x) t (by simpa using e)
    exact ⟨u, by simpa using h1, h2⟩
theorem Vals.set {x : V} {u : Value} (r : RelV x u) : ∀ {xs : List V} {us : List Value} (i : Nat), Vals xs us → Vals (xs.set i x) (us.set i u)
  | _, _, _, .nil => .nil
  | _, _, 0, .cons _ t => .cons r t
  | _, _, i + 1, .cons q t => .cons q (Vals.set r i t)
theorem Vals.append : ∀ {xs ys : List V} {us ws : List Value}, Vals xs us → Vals ys ws → Vals (xs ++ ys) (us ++ ws)
  | _, _, _, _, .nil, s => s
  | _, _, _, _, .cons r t, s => .cons r (Vals.append t s)
theorem Vals.take : ∀ {xs : List V} {us : List Value} (n : Nat), Vals xs us → Vals (xs.take n) (us.take n)
  | _, _, 0, _ => .nil
  | _, _, _ + 1, .nil => .nil
  | _, _, n + 1, .cons r t => .cons r (Vals.take n t)
theorem Vals.drop : ∀ {xs : List V} {us : List Value} (n : Nat), Vals xs us → Vals (xs.drop n) (us.drop n)
  | _, _, 0, r => r
  | _, _, _ + 1, .nil => .nil
  | _, _, n + 1, .cons _ t => Vals.drop n t
noncomputable def RelO : Option V → Option Value → Prop
  | some v, some u => RelV v u
  | none, none => True
  | _, _ => False
noncomputable def KV {κ : Type} : List (κ × V) → List (κ × Value) → Prop := Paired fun (p : κ × V) (q : κ × Value) => p.1 = q.1 ∧ RelV p.2 q.2
noncomputable def kV : Key → V
  | .inl i => .int i
  | .inr x => .str x
inductive HO where
  /-- a list -/
  | lst (xs : List V)
  /-- a tuple (never changes) -/
  | tup (xs : List V)
  /-- a dict whose keys are ints and texts; one whose keys are tuples of ints and texts (the empty one is both) -/
  | dK (kvs : List (Key × V)) | dT (kvs : List (List Key × V))
  /-- a set of ints: its members, its size -/
  | set (S : Int → Bool) (n : Nat)
  /-- an instance of the class at C, its dict at dx, its attributes -/
  | ins (C dx : Addr) (fs : List (Str × V))
  /-- the dict of the instance at x -/
  | own (x : Addr)
  /-- the dict of an exception -/
  | xd (fs : List (Str × V))
  /-- a bound method, f of x -/
  | met (f x : Addr)
  /-- a range object lo, lo + 1, .. below hi -/
  | rng (lo hi : Int)
  /-- a thing that is known to the object (the script; a dict while a loop walks it): read, never written while it is so -/
  | frz (o : Obj) (u : HO)
  /-- a code object's table -/
  | tbl (ps : Array Value)
  /-- any other thing, by what is true of its one object (a def of one's own: SetO a S n := HO.ext fun h => ..) -/
  | ext (φ : Heap → Prop)
noncomputable abbrev Hp := Addr → Option HO
noncomputable def upd (H : Hp) (a : Addr) (o : HO) : Hp := fun b => if b = a then some o else H b
theorem upd_same {H : Hp} {a : Addr} {o : HO} : upd H a o a = some o := by unfold upd; rw [if_pos rfl]
theorem upd_ne {H : Hp} {a b : Addr} {o : HO} (h : b ≠ a) : upd H a o b = H b := by unfold upd; rw [if_neg h]
theorem upd_upd {H : Hp} {a : Addr} {o u : HO} : upd (upd H a o) a u = upd H a u := by
  funext b; unfold upd; split <;> rfl
theorem ne_of {H : Hp} {a b : Addr} {o u : HO} (h : H a = some o) (h' : H b = some u) (d : o ≠ u) : a ≠ b := by
  intro e; subst e; rw [h] at h'; exact d (Option.some.inj h')
theorem ne_of_none {H : Hp} {a b : Addr} {o : HO} (h : H a = some o) (h' : H b = none) : a ≠ b := by
  intro e; subst e; rw [h] at h'; cases h'
section
variable (P : Program) (w : World)
noncomputable def ObjOk (H : Hp) (h : Heap) (a : Addr) : HO → Prop
  | .lst xs => xs.length ≤ sizeLine ∧ ∃ (its : List Value) (n : Nat), Vals xs its ∧ h.get? a = some { cls := .type "list", data := .seq its.toArray n }
  | .tup xs => xs.length ≤ sizeLine ∧ ∃ its : List Value, Vals xs its ∧ IsTup h a its.toArray
  | .dK kvs => kvs.length ≤ sizeLine ∧ (a == sysModules) = false ∧ ∃ vs, KV kvs vs ∧ h.DictOf (mixKind P w) a vs
  | .dT kvs => kvs.length ≤ sizeLine ∧ (a == sysModules) = false ∧ ∃ xs : List (List Key × Addr × Value),
      Paired (fun (p : List Key × V) (q : List Key × Addr × Value) => p.1 = q.1 ∧ H q.2.1 = some (.tup (p.1.map kV)) ∧ RelV p.2 q.2.2) kvs xs ∧
      ∃ o es ep, h.get? a = some o ∧ o.ExactDict ∧ o.data = .dict es ep ∧ es.toList = xs.map (entryOfKey (tupleKind (mixKind P w))) ∧ (xs.map (·.1)).Nodup
  | .set S n => h.SetOf (intKind P w) a S n
  | .ins C dx fs => H dx = some (.own a) ∧ fs.length ≤ 1000 ∧ dx ≠ a ∧ h.get? a = some (PySem.W.instObj C dx) ∧
      ∃ mA, h.Ns1 dx mA ∧ (∀ f, RelO (fs.lookup f) (mA f)) ∧ PySem.Within mA (fs.map (·.1))
  | .own _ => ∃ o, h.get? a = some o
  | .xd fs => ∃ mA, h.Ns1 a mA ∧ ∀ f, RelO (fs.lookup f) (mA f)
  | .rng lo hi => ∃ t u v, h.get? a = some { cls := .type "range", data := .fields #[.int lo t, .int hi u, .int 1 v] }
  | .frz o u => h.get? a = some o ∧ ObjOk H h a u
  | .tbl ps => h.get? a = some { cls := .none, data := .fields ps }
  | .met f x => h.get? a = some (PySem.W.methodObj (.ref f) (.ref x))
  | .ext φ => φ h ∧ (∃ o, h.get? a = some o) ∧ ∀ h1 h2 : Heap, φ h1 → (∀ o, h1.get? a = some o → h2.get? a = some o) → φ h2
noncomputable def HOk (H : Hp) (h : Heap) : Prop := ∀ a o, H a = some o → ObjOk P w H h a o
end
section
variable {P : Program} {w : World} {H H' : Hp} {h h' : Heap} {a : Addr} {o : HO}
theorem ObjOk.lt (x : ObjOk P w H h a o) : a < h.objs.size := by
  cases o with
  | lst xs => obtain ⟨_, _, _, _, e⟩ := x; exact Heap.lt_size e
  | tup xs => obtain ⟨_, _, _, p⟩ := x; exact p.lt
  | dK kvs => obtain ⟨_, _, _, _, o, _, _, e, _⟩ := x; exact Heap.lt_size e
  | dT kvs => obtain ⟨_, _, _, _, o, _, _, e, _⟩ := x; exact Heap.lt_size e
  | set S n => obtain ⟨o, _, _, _, e, _⟩ := x; exact Heap.lt_size e
  | ins C dx fs => obtain ⟨_, _, _, e, _⟩ := x; exact Heap.lt_size e
  | own y => obtain ⟨_, e⟩ := x; exact Heap.lt_size e
  | xd fs => obtain ⟨_, ⟨_, _, _, e, _⟩, _⟩ := x; exact Heap.lt_size e
  | rng lo hi => obtain ⟨_, _, _, e⟩ := x; exact Heap.lt_size e
  | frz ob u => obtain ⟨e, _⟩ := x; exact Heap.lt_size e
  | tbl ps => exact Heap.lt_size (show h.get? a = some _ from x)
  | met f y => exact Heap.lt_size (show h.get? a = some _ from x)
  | ext φ => obtain ⟨_, ⟨_, e⟩, _⟩ := x; exact Heap.lt_size e
theorem Paired.mapP {α β : Type} {F G : α → β → Prop} : ∀ {l₁ : List α} {l₂ : List β}, Paired F l₁ l₂ → (∀ a b, F a b → G a b) → Paired G l₁ l₂
  | _, _, .nil, _ => .nil
  | _, _, .cons r t, f => .cons (f _ _ r) (Paired.mapP t f)
theorem ObjOk.stay (x : ObjOk P w H h a o) (k : ∀ b u, (b = a ∨ H b = some (.own a)) → h.get? b = some u → h'.get? b = some u)
    (ho : ∀ b, H b = some (.own a) → H' b = some (.own a)) (ht : ∀ b xs, H b = some (.tup xs) → H' b = some (.tup xs)) : ObjOk P w H' h' a o := by
  induction o with
  | lst xs => obtain ⟨z, its, n, r, e⟩ := x; exact ⟨z, its, n, r, k _ _ (.inl rfl) e⟩
  | tup xs => obtain ⟨z, its, r, ob, e, c⟩ := x; exact ⟨z, its, r, ob, k _ _ (.inl rfl) e, c⟩
  | dK kvs => obtain ⟨z, y, vs, r, ob, es, ep, e, c⟩ := x; exact ⟨z, y, vs, r, ob, es, ep, k _ _ (.inl rfl) e, c⟩
  | dT kvs =>
    obtain ⟨z, y, xs, r, ob, es, ep, e, c⟩ := x
    exact ⟨z, y, xs, Paired.mapP r fun p q z => ⟨z.1, ht _ _ z.2.1, z.2.2⟩, ob, es, ep, k _ _ (.inl rfl) e, c⟩
  | set S n => obtain ⟨ob, es, ep, t, e, c⟩ := x; exact ⟨ob, es, ep, t, k _ _ (.inl rfl) e, c⟩
  | ins C dx fs =>
    obtain ⟨d, z, ne, e, mA, ⟨od, es, ep, e2, c⟩, r⟩ := x
    exact ⟨ho _ d, z, ne, k _ _ (.inl rfl) e, mA, ⟨od, es, ep, k _ _ (.inr d) e2, c⟩, r⟩
  | own y => obtain ⟨ob, e⟩ := x; exact ⟨ob, k _ _ (.inl rfl) e⟩
  | xd fs => obtain ⟨mA, ⟨od, es, ep, e, c⟩, r⟩ := x; exact ⟨mA, ⟨od, es, ep, k _ _ (.inl rfl) e, c⟩, r⟩
  | rng lo hi => obtain ⟨t, u, v, e⟩ := x; exact ⟨t, u, v, k _ _ (.inl rfl) e⟩
  | frz ob u ih => obtain ⟨e, q⟩ := x; exact ⟨k _ _ (.inl rfl) e, ih q⟩
  | tbl ps =>
    have e : h.get? a = some { cls := .none, data := .fields ps } := x
    show h'.get? a = some { cls := .none, data := .fields ps }
    exact k a _ (.inl rfl) e
  | met f y =>
    have e : h.get? a = some (PySem.W.methodObj (.ref f) (.ref y)) := x
    show h'.get? a = some (PySem.W.methodObj (.ref f) (.ref y))
    exact k a _ (.inl rfl) e
  | ext φ => obtain ⟨p, ⟨o, e⟩, st⟩ := x; exact ⟨st _ _ p fun o q => k _ _ (.inl rfl) q, ⟨o, k _ _ (.inl rfl) e⟩, st⟩
theorem HOk.lt (x : HOk P w H h) (e : H a = some o) : a < h.objs.size := (x a o e).lt
theorem HOk.fresh (x : HOk P w H h) (e : h.objs.size ≤ a) : H a = none := by
  cases q : H a with
  | none => rfl
  | some u => exact absurd (Nat.lt_of_lt_of_le (x.lt q) e) (Nat.lt_irrefl _)
theorem HOk.kept (x : HOk P w H h) (k : ∀ b u, h.get? b = some u → h'.get? b = some u) : HOk P w H h' := fun a o e =>
  (x a o e).stay (fun b u _ q => k b u q) (fun _ q => q) fun _ _ q => q
theorem HOk.laid (x : HOk P w H h) (k : ∀ b u, h.get? b = some u → h'.get? b = some u) (hp : h.objs.size ≤ a) (new : ObjOk P w (upd H a o) h' a o) : HOk P w (upd H a o) h' := fun b u e => by
  have hn := x.fresh hp
  by_cases hb : b = a
  · subst hb; rw [upd_same] at e; cases e; exact new
  · rw [upd_ne hb] at e
    exact (x b u e).stay (fun c v _ q => k c v q) (fun c q => by rw [upd_ne (ne_of_none q hn)]; exact q) fun c xs q => by rw [upd_ne (ne_of_none q hn)]; exact q
end
noncomputable def Rd (H : Hp) (a : Addr) (u : HO) : Prop := H a = some u ∨ ∃ o, H a = some (.frz o u)
theorem Rd.ok {P : Program} {w : World} {H : Hp} {h : Heap} {a : Addr} {u : HO} (r : Rd H a u) (x : HOk P w H h) : ObjOk P w H h a u := by
  rcases r with r | ⟨o, r⟩
  · exact x a u r
  · obtain ⟨_, q⟩ := x a _ r
    exact q
noncomputable def Mut : Option HO → Prop
  | some (.lst _) => True
  | some (.dK _) => True
  | some (.dT _) => True
  | some (.set _ _) => True
  | some (.ins _ _ _) => True
  | some (.ext _) => True
  | _ => False
section
variable {P : Program} {w : World} {H : Hp} {h h' : Heap} {x e : Addr} {o' : HO}
theorem HOk.write (ok : HOk P w H h) (mu : Mut (H x)) (he : e = x ∨ H e = some (.own x)) (k : ∀ b u, b ≠ e → h.get? b = some u → h'.get? b = some u) (heo : ∃ u, h'.get? e = some u)
    (new : ObjOk P w (upd H x o') h' x o') : HOk P w (upd H x o') h' := fun b u q => by
  have nown : ∀ c y, H c = some (.own y) → c ≠ x := fun c y r z => by subst z; rw [r] at mu; exact mu
  have ntup : ∀ c xs, H c = some (.tup xs) → c ≠ x := fun c xs r z => by subst z; rw [r] at mu; exact mu
  by_cases hb : b = x
  · subst hb; rw [upd_same] at q; cases q; exact new
  · rw [upd_ne hb] at q
    by_cases hbe : b = e
    · have q' : H b = some (.own x) := by
        rcases he with z | z
        · exact absurd (hbe.trans z) hb
        · rw [hbe]; exact z
      rw [q] at q'; cases q'
      obtain ⟨v, hv⟩ := heo
      exact ⟨v, by rw [hbe]; exact hv⟩
    · refine (ok b u q).stay (fun c v hc r => k c v ?_ r) (fun c r => by rw [upd_ne (nown c b r)]; exact r) fun c xs r => by rw [upd_ne (ntup c xs r)]; exact r
      rcases hc with rfl | hc
      · exact hbe
      · rintro rfl
        rcases he with z | z
        · exact nown c b hc z
        · rw [hc] at z; cases z; exact hb rfl
end

structure Un (fs ex : List Addr) (H H' : Hp) (h h' : Heap) : Prop where
  keep : ∀ b o, h.get? b = some o → H b = none → b ∉ fs → b ∉ ex → h'.get? b = some o
  slot : ∀ b o, h.get? b = some o → H b = none → b ∈ fs → b ∉ ex → ∃ sl, h'.get? b = some { o with slots := sl }
  free : ∀ b o, h.get? b = some o → H b = none → b ∉ ex → H' b = none
  there : ∀ b o, h.get? b = some o → b ∉ ex → ∃ o', h'.get? b = some o'
  tups : ∀ b xs, H b = some (.tup xs) → H' b = some (.tup xs)
  frzs : ∀ b o u, H b = some (.frz o u) → H' b = some (.frz o u)
  tbls : ∀ b ps, H b = some (.tbl ps) → ∃ more, H' b = some (.tbl (ps ++ more))
section
variable {fs fs' ex ex' : List Addr} {H H1 H2 : Hp} {h h1 h2 h' : Heap} {a x e : Addr} {o : HO}
theorem Un.any (u : Un fs ex H H1 h h1) {b : Addr} {ob : Obj} (q : h.get? b = some ob) (n : H b = none) (hx : b ∉ ex) : ∃ sl, h1.get? b = some { ob with slots := sl } := by
  by_cases hb : b ∈ fs
  · exact u.slot b ob q n hb hx
  · exact ⟨ob.slots, u.keep b ob q n hb hx⟩
theorem Un.trans (a : Un fs ex H H1 h h1) (b : Un fs ex H1 H2 h1 h2) : Un fs ex H H2 h h2 where
  keep := fun c ob q n hc hx => b.keep c ob (a.keep c ob q n hc hx) (a.free c ob q n hx) hc hx
  slot := fun c ob q n hc hx => by
    obtain ⟨sl, e1⟩ := a.slot c ob q n hc hx
    obtain ⟨sl', e2⟩ := b.slot c _ e1 (a.free c ob q n hx) hc hx
    exact ⟨sl', e2⟩
  free := fun c ob q n hx => by
    obtain ⟨o', e1⟩ := a.there c ob q hx
    exact b.free c o' e1 (a.free c ob q n hx) hx
  there := fun c ob q hx => by
    obtain ⟨o', e1⟩ := a.there c ob q hx
    exact b.there c o' e1 hx
  tups := fun c xs q => b.tups c xs (a.tups c xs q)
  frzs := fun c ob xs q => b.frzs c ob xs (a.frzs c ob xs q)
  tbls := fun c ps q => by
    obtain ⟨m1, e1⟩ := a.tbls c ps q
    obtain ⟨m2, e2⟩ := b.tbls c _ e1
    exact ⟨m1 ++ m2, by rw [e2, Array.append_assoc]⟩
theorem Un.kept (k : ∀ b u, h.get? b = some u → h'.get? b = some u) : Un fs ex H H h h' :=
  ⟨fun b ob q _ _ _ => k b ob q, fun b ob q _ _ _ => ⟨ob.slots, k b ob q⟩, fun _ _ _ n _ => n, fun b ob q _ => ⟨ob, k b ob q⟩, fun _ _ q => q, fun _ _ _ q => q, fun _ ps q => ⟨#[], by rw [q]; simp⟩⟩
theorem Un.refl : Un fs ex H H h h := Un.kept fun _ _ q => q
theorem Un.laid (k : ∀ b u, h.get? b = some u → h'.get? b = some u) (hp : h.objs.size ≤ a) (hn : H a = none) : Un fs ex H (upd H a o) h h' where
  keep := fun b u q _ _ _ => k b u q
  slot := fun b u q _ _ _ => ⟨u.slots, k b u q⟩
  free := fun b u q n _ => by rw [upd_ne (Nat.ne_of_lt (Nat.lt_of_lt_of_le (Heap.lt_size q) hp))]; exact n
  there := fun b u q _ => ⟨u, k b u q⟩
  tups := fun b xs q => by rw [upd_ne (ne_of_none q hn)]; exact q
  frzs := fun b u xs q => by rw [upd_ne (ne_of_none q hn)]; exact q
  tbls := fun b ps q => ⟨#[], by rw [upd_ne (ne_of_none q hn), q]; simp⟩
theorem Un.write (mu : Mut (H x)) (he : e = x ∨ H e = some (.own x)) (k : ∀ b u, b ≠ e → h.get? b = some u → h'.get? b = some u) (heo : ∃ u, h'.get? e = some u) : Un fs ex H (upd H x o) h h' := by
  have hx : ∀ b, H b = none → b ≠ x := fun b n z => by subst z; rw [n] at mu; exact mu
  have hb : ∀ b, H b = none → b ≠ e := fun b n z => by
    subst z
    rcases he with r | r
    · exact hx b n r
    · rw [n] at r; cases r
  have hm : ∀ b u, H b = some u → ¬ Mut (some u) → b ≠ x := fun b u q nm z => by subst z; rw [q] at mu; exact nm mu
  refine ⟨fun b u q n _ _ => k b u (hb b n) q, fun b u q n _ _ => ⟨u.slots, k b u (hb b n) q⟩, fun b u q n _ => by rw [upd_ne (hx b n)]; exact n, fun b u q _ => ?_,
    fun b xs q => by rw [upd_ne (hm b _ q fun z => z)]; exact q, fun b u xs q => by rw [upd_ne (hm b _ q fun z => z)]; exact q, fun b ps q => ⟨#[], by rw [upd_ne (hm b _ q fun z => z), q]; simp⟩⟩
  by_cases hbe : b = e
  · subst hbe; exact heo
  · exact ⟨u, k b u hbe q⟩
end

noncomputable def trk (h : Heap) (H : Hp) : List Addr := (List.range h.objs.size).filter fun a => (H a).isSome
noncomputable def hidT (h : Heap) (H : Hp) : Heap := PySem.W.hideAll h (trk h H)
theorem hidT_size (h : Heap) (H : Hp) : (hidT h H).objs.size = h.objs.size := PySem.W.hideAll_size _ _
theorem hidT_get {h : Heap} {H : Hp} {b : Addr} {o : Obj} (e : h.get? b = some o) (n : H b = none) : (hidT h H).get? b = some o :=
  PySem.W.hideAll_get _ e fun hm => by
    have q : (H b).isSome = true := (List.mem_filter.mp hm).2
    rw [n] at q; simp at q
theorem of_hidT {h : Heap} {H : Hp} {b : Addr} {o : Obj} (e : (hidT h H).get? b = some o) : h.get? b = some o ∧ H b = none := by
  have e' : h.get? b = some o := PySem.W.of_hideAll (trk h H) e
  refine ⟨e', ?_⟩
  cases q : H b with
  | none => rfl
  | some x =>
    have hm : b ∈ trk h H := List.mem_filter.mpr ⟨List.mem_range.mpr (Heap.lt_size e'), by simp [q]⟩
    have z : (hidT h H).get? b = none := PySem.W.hideAll_none (trk h H) hm
    rw [z] at e; cases e

noncomputable def allNews (g h : Heap) (L : Addr) : List (Addr × Obj) := (List.range h.objs.size).filterMap fun a => if a = L ∨ (g.get? a).isSome = true then none else (h.get? a).map fun o => (a, o)
noncomputable def rest (g h : Heap) (L d : Addr) : List (Addr × Obj) := (allNews g h L).filter fun p => decide (p.1 ≠ d)
end L2
namespace L2
open PySem PySem.Spec PyProof.Rows
structure Mod (K : PySem.W.Frag) (mg : Str → Option Value) (base : Heap) : Prop where
  kin : K.In base
  glob : base.Ns mainGlobals mg
  blt : ∃ mb, base.Ns builtinsNs mb ∧ ∀ x : Str, x ≠ "__name__" → mb x = bootBuiltins x
  nolimit : base.NoLimit
/-- the context: a def's body (or a comprehension's block) running. base: fixed through the whole law; s₀, H₀: the entry; outer: the frames whose slots others may change (a def's callers); stack: all frames that run;
   ex: iterators that were made ahead of the entry and are walked here (a comprehension's); fn: the names whose cells were made at the entry (a def: all; a comprehension's block: its own); calm: not within an except suite; pn: pins that every state bears; xe: what is wanted of an exception that leaves the code -/
structure Cx where
  prog : Program
  w : World
  K : PySem.W.Frag
  mg : Str → Option Value
  base : Heap
  A : Around
  N : List Str
  s₀ : Shared
  H₀ : Hp
  env : Env
  outer : List Env
  stack : List Env
  ex : List Addr
  fn : Str → Bool
  calm : Bool
  pn : List (Addr × Obj)
  xe : Value → Shared → Prop
noncomputable def frs (l : List Env) : List Addr := l.filterMap (·.frame)
noncomputable abbrev Cx.fs (X : Cx) : List Addr := frs X.outer
noncomputable def Vis (sc : Scope) (x : Str) : Prop := sc.names.lookup x = some .local ∨ sc.names.lookup x = some .cell ∨ sc.names.lookup x = some .free
noncomputable def Loc (sc : Scope) (x : Str) : Prop := sc.names.lookup x = some .local ∨ sc.names.lookup x = some .cell
noncomputable def Look (env : Env) (h : Heap) (m : Str → Option Value) (x : Str) (u : Value) : Prop :=
  (env.kindOf x = some .local ∧ m x = some u) ∨ ((env.kindOf x = some .cell ∨ env.kindOf x = some .free) ∧ ∃ c, env.cells.lookup x = some c ∧ h.IsCell c (some u))
structure Cx.Ok (X : Cx) : Prop where
  mod : Mod X.K X.mg X.base
  kind : X.env.scope.kind = .function
  glob : X.env.globals = mainGlobals
  blt : X.env.builtins = builtinsNs
  above : X.s₀.heap.objs.size ≤ X.env.locals
  inj : ∀ x y c, X.env.cells.lookup x = some c → X.env.cells.lookup y = some c → x = y
  has : ∀ x, (X.env.kindOf x = some .cell ∨ X.env.kindOf x = some .free) → ∃ c, X.env.cells.lookup x = some c
  cab : ∀ x c, X.fn x = true → X.env.cells.lookup x = some c → X.s₀.heap.objs.size ≤ c
  hd : X.calm = true → X.A.handled = none
  frames : X.A.frames = some X.stack
  stk : X.stack = X.outer ∨ (X.stack = X.env :: X.outer ∧ X.env.frame = some X.env.locals)
  exf : ∀ b ∈ X.ex, b ≠ X.env.locals ∧ ∀ x c, X.env.cells.lookup x = some c → c ≠ b
  bs : ∀ b o, X.base.get? b = some o → X.s₀.heap.get? b = some o ∧ X.H₀ b = none
  bsz : X.base.objs.size ≤ X.s₀.heap.objs.size
  noex : ∀ b o, X.base.get? b = some o → b ∉ X.ex
  exfs : ∀ b ∈ X.ex, b ∉ X.fs
  funs : X.s₀.heap.FunFrames X.base X.outer
  frf : ∀ b ∈ X.fs, X.H₀ b = none
structure Inv (X : Cx) (pins : List (Addr × Obj)) (σ : List (Option V)) (H : Hp) (s : Shared) : Prop where
  ok : X.Ok
  os : s.os = X.s₀.os
  bare : AllBare s.gens
  base : Un X.fs X.ex X.H₀ H X.s₀.heap s.heap
  loc : ∃ m, s.heap.Ns X.env.locals m ∧ ∀ (i : Nat) (x : Str) (v : V), X.N[i]? = some x → σ[i]? = some (some v) → Vis X.env.scope x → ∃ u, RelV v u ∧ Look X.env s.heap m x u
  cell : ∀ x c, X.env.cells.lookup x = some c → ∃ v, s.heap.IsCell c v
  free : H X.env.locals = none
  freeC : ∀ x c, X.env.cells.lookup x = some c → H c = none
  pin : ∀ p ∈ X.pn ++ pins, s.heap.get? p.1 = some p.2 ∧ H p.1 = none ∧ p.1 ≠ X.env.locals ∧ p.1 ∉ X.fs ∧ ∀ v, p.2.data ≠ .cell v
  hok : HOk X.prog X.w H s.heap
  len : σ.length = X.N.length
section
variable {X : Cx} {pins : List (Addr × Obj)} {σ : List (Option V)} {H H' : Hp} {s : Shared} {h' : Heap}
theorem Cx.Ok.nofr (ok : X.Ok) {b : Addr} {o : Obj} (e : X.base.get? b = some o) : b ∉ X.fs := fun hb => by
  have := (ok.funs.mem hb).1
  rw [e] at this; cases this
theorem Inv.bs (I : Inv X pins σ H s) : ∀ b o, X.base.get? b = some o → s.heap.get? b = some o ∧ H b = none := fun b o e =>
  ⟨I.base.keep b o (I.ok.bs b o e).1 (I.ok.bs b o e).2 (I.ok.nofr e) (I.ok.noex b o e), I.base.free b o (I.ok.bs b o e).1 (I.ok.bs b o e).2 (I.ok.noex b o e)⟩
theorem Inv.bk (I : Inv X pins σ H s) : ∀ b o, X.base.get? b = some o → s.heap.get? b = some o := fun b o e => (I.bs b o e).1
theorem Inv.mod (I : Inv X pins σ H s) : Mod X.K X.mg X.base := I.ok.mod
theorem Inv.kIn (I : Inv X pins σ H s) : X.K.In s.heap := I.ok.mod.kin.keeps I.bk
theorem Inv.lt (I : Inv X pins σ H s) : X.env.locals < s.heap.objs.size := let ⟨_, hn, _⟩ := I.loc; hn.lt
theorem Inv.sz (I : Inv X pins σ H s) : X.s₀.heap.objs.size ≤ s.heap.objs.size := Nat.le_trans I.ok.above (Nat.le_of_lt I.lt)
theorem Inv.nofs (I : Inv X pins σ H s) {a : Addr} (h : s.heap.objs.size ≤ a) : a ∉ X.fs := fun hb => by
  obtain ⟨_, o, ho, _⟩ := I.ok.funs.mem hb
  exact absurd (Nat.lt_of_lt_of_le (Heap.lt_size ho) (Nat.le_trans I.sz h)) (Nat.lt_irrefl _)
theorem Inv.cne (I : Inv X pins σ H s) : ∀ x c, X.env.cells.lookup x = some c → c ≠ X.env.locals := fun x c e z => by
  obtain ⟨v, o, ho, hd⟩ := I.cell x c e
  obtain ⟨m, ⟨o', es, ep, ho', hd', _⟩, _⟩ := I.loc
  rw [z, ho'] at ho; cases ho; rw [hd'] at hd; cases hd
theorem Inv.funs (I : Inv X pins σ H s) : s.heap.FunFrames X.base X.outer := by
  have all : ∀ (l : List Env), (∀ b ∈ frs l, b ∈ X.fs) → X.s₀.heap.FunFrames X.base l → s.heap.FunFrames X.base l := by
    intro l
    induction l with
    | nil => intro _ _; trivial
    | cons env r ih =>
      intro hs hl
      obtain ⟨hk, ⟨L, o, hf, hn, ho, hd⟩, hr⟩ := hl
      have hL : L ∈ X.fs := hs L (by unfold frs; rw [List.filterMap_cons, hf]; exact List.mem_cons_self)
      obtain ⟨sl, e⟩ := I.base.slot L o ho (I.ok.frf L hL) hL fun z => I.ok.exfs L z hL
      exact ⟨hk, ⟨L, _, hf, hn, e, hd⟩, ih (fun b hb => hs b (by unfold frs; rw [List.filterMap_cons, hf]; exact List.mem_cons_of_mem _ hb)) hr⟩
  exact all X.outer (fun _ hb => hb) I.ok.funs
theorem Inv.stack (I : Inv X pins σ H s) : s.heap.FunFrames X.base X.stack := by
  rcases I.ok.stk with e | ⟨e, hf⟩
  · rw [e]; exact I.funs
  · rw [e]
    obtain ⟨m, hn, _⟩ := I.loc
    refine .cons (by rw [I.ok.kind]; decide) hf hn ?_ I.funs
    exact Heap.get?_none_of_le (Nat.le_trans I.ok.bsz I.ok.above)
theorem Inv.stkSub (I : Inv X pins σ H s) : ∀ b ∈ frs X.stack, b ∈ X.env.locals :: X.fs := fun b hb => by
  rcases I.ok.stk with e | ⟨e, hf⟩
  · rw [e] at hb; exact List.mem_cons_of_mem _ hb
  · rw [e] at hb
    unfold frs at hb
    rw [List.filterMap_cons, hf] at hb
    exact hb
theorem Inv.stkFree (I : Inv X pins σ H s) : ∀ b ∈ frs X.stack, H b = none := fun b hb => by
  rcases List.mem_cons.mp (I.stkSub b hb) with e | hb
  · rw [e]; exact I.free
  · obtain ⟨_, o, ho, _⟩ := I.ok.funs.mem hb
    exact I.base.free b o ho (I.ok.frf b hb) fun z => I.ok.exfs b z hb
theorem Inv.step {g' : Array GenState} {t' : Nat} {d' : Drawn} {ch : List Addr} (I : Inv X pins σ H s)
    (hch : ∀ b ∈ ch, (b ∈ X.ex ∨ X.s₀.heap.objs.size ≤ b) ∧ b ≠ X.env.locals ∧ (∀ x c, X.env.cells.lookup x = some c → c ≠ b) ∧ ∀ p ∈ X.pn ++ pins, p.1 ≠ b)
    (keep : ∀ b o, b ≠ X.env.locals → b ∉ X.fs → b ∉ ch → s.heap.get? b = some o → H b = none → h'.get? b = some o)
    (slot : ∀ b o, b ≠ X.env.locals → b ∈ X.fs → b ∉ ch → s.heap.get? b = some o → H b = none → ∃ sl, h'.get? b = some { o with slots := sl }) (free : ∀ b o, b ∉ ch → s.heap.get? b = some o → H b = none → H' b = none)
    (there : ∀ b o, b ∉ ch → s.heap.get? b = some o → ∃ o', h'.get? b = some o')
    (tups : ∀ b xs, H b = some (.tup xs) → H' b = some (.tup xs)) (frzs : ∀ b o u, H b = some (.frz o u) → H' b = some (.frz o u)) (tbls : ∀ b ps, H b = some (.tbl ps) → ∃ more, H' b = some (.tbl (ps ++ more)))
    (ns : ∀ m, s.heap.Ns X.env.locals m → h'.Ns X.env.locals m) (hok : HOk X.prog X.w H' h') (hg : AllBare g') :
    Inv X pins σ H' { s with heap := h', gens := g', drawn := d', toks := t' } := by
  have neL : ∀ b o, X.s₀.heap.get? b = some o → b ≠ X.env.locals := fun b o e => Nat.ne_of_lt (Nat.lt_of_lt_of_le (Heap.lt_size e) I.ok.above)
  have neC : ∀ b o, X.s₀.heap.get? b = some o → b ∉ X.ex → b ∉ ch := fun b o e hx hb => by
    rcases (hch b hb).1 with z | z
    · exact hx z
    · exact absurd (Nat.lt_of_lt_of_le (Heap.lt_size e) z) (Nat.lt_irrefl _)
  have cellK : ∀ x c, X.env.cells.lookup x = some c → ∀ v, s.heap.IsCell c v → h'.IsCell c v := fun x c e v ⟨o, ho, hd⟩ => by
    have nch : c ∉ ch := fun z => (hch c z).2.2.1 x c e rfl
    by_cases hc : c ∈ X.fs
    · obtain ⟨sl, q⟩ := slot c o (I.cne x c e) hc nch ho (I.freeC x c e)
      exact ⟨_, q, hd⟩
    · exact ⟨o, keep c o (I.cne x c e) hc nch ho (I.freeC x c e), hd⟩
  refine ⟨I.ok, I.os, hg, ⟨fun b o e n hb hx => ?_, fun b o e n hb hx => ?_, fun b o e n hx => ?_, fun b o e hx => ?_, fun b xs e => tups b xs (I.base.tups b xs e), fun b o xs e => frzs b o xs (I.base.frzs b o xs e), fun b ps e => ?_⟩, ?_, fun x c e => ?_, ?_, fun x c e => ?_, fun p hp => ?_, hok, I.len⟩
  · exact keep b o (neL b o e) hb (neC b o e hx) (I.base.keep b o e n hb hx) (I.base.free b o e n hx)
  · obtain ⟨sl, e1⟩ := I.base.slot b o e n hb hx
    obtain ⟨sl', e2⟩ := slot b _ (neL b o e) hb (neC b o e hx) e1 (I.base.free b o e n hx)
    exact ⟨sl', e2⟩
  · obtain ⟨o', e1⟩ := I.base.there b o e hx
    exact free b o' (neC b o e hx) e1 (I.base.free b o e n hx)
  · obtain ⟨o', e1⟩ := I.base.there b o e hx
    exact there b o' (neC b o e hx) e1
  · obtain ⟨m1, e1⟩ := I.base.tbls b ps e
    obtain ⟨m2, e2⟩ := tbls b _ e1
    exact ⟨m1 ++ m2, by rw [e2, Array.append_assoc]⟩
  · obtain ⟨m, hn, hl⟩ := I.loc
    refine ⟨m, ns m hn, fun i x v e1 e2 e3 => ?_⟩
    obtain ⟨u, r, l⟩ := hl i x v e1 e2 e3
    refine ⟨u, r, ?_⟩
    rcases l with l | ⟨k, c, e, z⟩
    · exact .inl l
    · exact .inr ⟨k, c, e, cellK x c e _ z⟩
  · obtain ⟨v, z⟩ := I.cell x c e
    exact ⟨v, cellK x c e v z⟩
  · obtain ⟨m, ⟨o, _, _, ho, _⟩, _⟩ := I.loc
    exact free _ o (fun z => (hch _ z).2.1 rfl) ho I.free
  · obtain ⟨v, o, ho, hd⟩ := I.cell x c e
    exact free c o (fun z => (hch c z).2.2.1 x c e rfl) ho (I.freeC x c e)
  · obtain ⟨e, n, ne, nf, d⟩ := I.pin p hp
    have nch : p.1 ∉ ch := fun z => (hch p.1 z).2.2.2 p hp rfl
    exact ⟨keep p.1 p.2 ne nf nch e n, free p.1 p.2 nch e n, ne, nf, d⟩
theorem Inv.un {t' : Nat} (I : Inv X pins σ H s) (u : Un X.fs [] H H' s.heap h') (hok : HOk X.prog X.w H' h') : Inv X pins σ H' { s with heap := h', toks := t' } := by
  obtain ⟨m, ⟨o, es, ep, ho, r⟩, _⟩ := id I.loc
  obtain ⟨sl, hL⟩ := u.any ho I.free (by simp)
  exact I.step (g' := s.gens) (d' := s.drawn) (ch := []) (fun _ z => nomatch z) (fun b o _ hb _ e n => u.keep b o e n hb (by simp)) (fun b o _ hb _ e n => u.slot b o e n hb (by simp)) (fun b o _ e n => u.free b o e n (by simp)) (fun b o _ e => u.there b o e (by simp)) u.tups u.frzs u.tbls (fun m' hm => by
    obtain ⟨o', es', ep', ho', r'⟩ := hm
    rw [ho] at ho'; cases ho'
    exact ⟨_, es', ep', hL, r'⟩) hok I.bare
theorem Inv.call {g' : Array GenState} {t' : Nat} {d' : Drawn} {ch : List Addr} (I : Inv X pins σ H s) (u : Un (frs X.stack) ch H H' s.heap h') (hok : HOk X.prog X.w H' h') (hg : AllBare g')
    (hch : ∀ b ∈ ch, (b ∈ X.ex ∨ X.s₀.heap.objs.size ≤ b) ∧ b ≠ X.env.locals ∧ (∀ x c, X.env.cells.lookup x = some c → c ≠ b) ∧ ∀ p ∈ X.pn ++ pins, p.1 ≠ b) :
    Inv X pins σ H' { s with heap := h', gens := g', drawn := d', toks := t' } := by
  obtain ⟨m, ⟨o, es, ep, ho, r⟩, _⟩ := id I.loc
  obtain ⟨sl, hL⟩ := u.any ho I.free fun z => (hch _ z).2.1 rfl
  exact I.step (ch := ch) hch (fun b o hL hb hc e n => u.keep b o e n (fun z => (List.mem_cons.mp (I.stkSub b z)).elim hL hb) hc) (fun b o _ _ hc e n => u.any e n hc) (fun b o hc e n => u.free b o e n hc) (fun b o hc e => u.there b o e hc) u.tups u.frzs u.tbls (fun m' hm => by
    obtain ⟨o', es', ep', ho', r'⟩ := hm
    rw [ho] at ho'; cases ho'
    exact ⟨_, es', ep', hL, r'⟩) hok hg
theorem Inv.turned {t' : Nat} {it : Addr} (I : Inv X pins σ H s) (k : ∀ b o, b ≠ it → s.heap.get? b = some o → h'.get? b = some o) (hn : H it = none) (hL : it ≠ X.env.locals)
    (h1 : it ∈ X.ex ∨ X.s₀.heap.objs.size ≤ it) (h2 : ∀ x c, X.env.cells.lookup x = some c → c ≠ it) (h3 : ∀ p ∈ X.pn ++ pins, p.1 ≠ it) : Inv X pins σ H { s with heap := h', toks := t' } := by
  have nit : ∀ b u, H b = some u → b ≠ it := fun b u e z => by rw [z, hn] at e; cases e
  refine I.step (g' := s.gens) (d' := s.drawn) (ch := [it]) (fun b hb => ?_) (fun b o _ _ hc e _ => k b o (fun z => hc (by simp [z])) e) (fun b o _ _ hc e _ => ⟨o.slots, k b o (fun z => hc (by simp [z])) e⟩) (fun _ _ _ _ n => n)
    (fun b o hc e => ⟨o, k b o (fun z => hc (by simp [z])) e⟩) (fun _ _ e => e) (fun _ _ _ e => e) (fun b ps e => ⟨#[], by rw [e]; simp⟩) (fun m hm => ?_) (fun b u e => ?_) I.bare
  · have e : b = it := by simpa using hb
    subst e
    exact ⟨h1, hL, h2, h3⟩
  · obtain ⟨o, es, ep, ho, r⟩ := hm
    exact ⟨o, es, ep, k _ o (Ne.symm hL) ho, r⟩
  · refine (I.hok b u e).stay (fun c v hc q => k c v ?_ q) (fun _ q => q) fun _ _ q => q
    rcases hc with z | z
    · rw [z]; exact nit b u e
    · exact nit c _ z
theorem Inv.tok (I : Inv X pins σ H s) (t : Nat) : Inv X pins σ H { s with toks := t } := I.un (h' := s.heap) (t' := t) Un.refl I.hok
theorem Inv.kept {t' : Nat} (I : Inv X pins σ H s) (k : ∀ b u, s.heap.get? b = some u → h'.get? b = some u) : Inv X pins σ H { s with heap := h', toks := t' } := I.un (Un.kept k) (I.hok.kept k)
theorem Inv.laid {a : Addr} {o : HO} {t' : Nat} (I : Inv X pins σ H s) (k : ∀ b u, s.heap.get? b = some u → h'.get? b = some u) (hp : s.heap.objs.size ≤ a) (new : ObjOk X.prog X.w (upd H a o) h' a o) :
    Inv X pins σ (upd H a o) { s with heap := h', toks := t' } := I.un (Un.laid k hp (I.hok.fresh hp)) (I.hok.laid k hp new)
theorem Inv.write {x e : Addr} {o : HO} {t' : Nat} (I : Inv X pins σ H s) (mu : Mut (H x)) (he : e = x ∨ H e = some (.own x)) (k : ∀ b u, b ≠ e → s.heap.get? b = some u → h'.get? b = some u) (heo : ∃ u, h'.get? e = some u)
    (new : ObjOk X.prog X.w (upd H x o) h' x o) : Inv X pins σ (upd H x o) { s with heap := h', toks := t' } := I.un (Un.write mu he k heo) (I.hok.write mu he k heo new)
theorem Inv.pins_of {pins' : List (Addr × Obj)} (I : Inv X pins σ H s) (h : ∀ p ∈ pins', s.heap.get? p.1 = some p.2 ∧ H p.1 = none ∧ p.1 ≠ X.env.locals ∧ p.1 ∉ X.fs ∧ ∀ v, p.2.data ≠ .cell v) : Inv X pins' σ H s :=
  ⟨I.ok, I.os, I.bare, I.base, I.loc, I.cell, I.free, I.freeC, fun p hp => (List.mem_append.mp hp).elim (fun z => I.pin p (List.mem_append_left _ z)) (h p), I.hok, I.len⟩
theorem nodup_ix {N : List Str} (hN : N.Nodup) {i j : Nat} {x : Str} (a : N[i]? = some x) (b : N[j]? = some x) : i = j := by
  obtain ⟨h1, e1⟩ := List.getElem?_eq_some_iff.mp a
  obtain ⟨h2, e2⟩ := List.getElem?_eq_some_iff.mp b
  exact (List.getElem_inj hN).mp (e1.trans e2.symm)
theorem store_ok2 {M : Model} {A : Around} {E : Value → Shared → Prop} {i : Nat} {x : Str} {v : V} {u : Value} {Q : Unit → Shared → Prop} (I : Inv X pins σ H s) (hN : X.N.Nodup) (hi : X.N[i]? = some x) (hx : Loc X.env.scope x) (r : RelV v u)
    (h : ∀ s', Inv X pins (σ.set i (some v)) H s' → (∃ a, Heap.SameBut a s.heap s'.heap ∧ (a = X.env.locals ∨ X.env.cells.lookup x = some a)) → Q () s') (hf : X.fn x = true ∨ X.env.scope.names.lookup x = some .local := by first | exact .inl rfl | exact .inr rfl | assumption) : wpAny M A (storeName X.env x u) Q E s := by
  obtain ⟨m, hn, hl⟩ := id I.loc
  have hcls : (X.env.scope.kind == .class || (X.env.scope.kind == .module && X.env.locals != X.env.globals)) = false := by rw [I.ok.kind]; rfl
  have hiσ : i < σ.length := by rw [I.len]; exact (List.getElem?_eq_some_iff.mp hi).1
  have cne := I.cne
  have tracked : ∀ {a : Addr} {h' : Heap}, (∃ o, s.heap.get? a = some o ∧ H a = none) → Heap.SameBut a s.heap h' → HOk X.prog X.w H h' := fun {a h'} ha hs b ob e => by
    obtain ⟨_, _, hfree⟩ := ha
    refine (I.hok b ob e).stay (fun c w' hc q => (hs.2 c ?_).trans q) (fun _ q => q) fun _ _ q => q
    rintro rfl
    rcases hc with rfl | hc
    · rw [hfree] at e; cases e
    · rw [hfree] at hc; cases hc
  rcases hx with hk | hk
  · refine wpAny_storeName_local hk hn (fun h' hn' hs => ?_) hcls
    obtain ⟨oL, _, _, hoL, _⟩ := id hn
    refine h _ ⟨I.ok, I.os, I.bare, ⟨fun b o e n hb hx => ?_, fun b o e n hb hx => ?_, I.base.free, fun b o e hx => ?_, I.base.tups, I.base.frzs, I.base.tbls⟩, ⟨_, hn', fun j y v' e1 e2 e3 => ?_⟩, fun y c e => ?_, I.free, I.freeC, fun p hp => ?_, tracked ⟨oL, hoL, I.free⟩ hs, by simpa using I.len⟩ ⟨_, hs, .inl rfl⟩
    · exact (hs.2 b (Nat.ne_of_lt (Nat.lt_of_lt_of_le (Heap.lt_size e) I.ok.above))).trans (I.base.keep b o e n hb hx)
    · obtain ⟨sl, e1⟩ := I.base.slot b o e n hb hx
      exact ⟨sl, (hs.2 b (Nat.ne_of_lt (Nat.lt_of_lt_of_le (Heap.lt_size e) I.ok.above))).trans e1⟩
    · obtain ⟨o', e1⟩ := I.base.there b o e hx
      exact ⟨o', (hs.2 b (Nat.ne_of_lt (Nat.lt_of_lt_of_le (Heap.lt_size e) I.ok.above))).trans e1⟩
    · by_cases hj : j = i
      · subst hj
        rw [hi] at e1; cases e1
        rw [List.getElem?_set_self hiσ] at e2
        cases e2
        exact ⟨u, r, .inl ⟨hk, by simp⟩⟩
      · rw [List.getElem?_set_ne (Ne.symm hj)] at e2
        obtain ⟨u', r', q⟩ := hl j y v' e1 e2 e3
        refine ⟨u', r', ?_⟩
        rcases q with ⟨k, e⟩ | ⟨k, c, e, z⟩
        · refine .inl ⟨k, ?_⟩
          have : y ≠ x := fun e => hj (nodup_ix hN e1 (e ▸ hi))
          simp [this, e]
        · exact .inr ⟨k, c, e, z.sameBut hs (cne y c e)⟩
    · obtain ⟨w', z⟩ := I.cell y c e
      exact ⟨w', z.sameBut hs (cne y c e)⟩
    · obtain ⟨e, n, ne, nf, d⟩ := I.pin p hp
      exact ⟨(hs.2 p.1 ne).trans e, n, ne, nf, d⟩
  · have hfn : X.fn x = true := by
      rcases hf with z | z
      · exact z
      · rw [z] at hk; cases hk
    obtain ⟨c, hc⟩ := I.ok.has x (.inl hk)
    obtain ⟨w', z⟩ := I.cell x c hc
    refine wpAny_storeName_cell I.ok.kind hk hc z (fun h' hc' hs => ?_)
    obtain ⟨oc, hoc, hocd⟩ := id z
    refine h { s with heap := h' } ⟨I.ok, I.os, I.bare, ⟨fun b o e n hb hx => ?_, fun b o e n hb hx => ?_, I.base.free, fun b o e hx => ?_, I.base.tups, I.base.frzs, I.base.tbls⟩, ⟨m, hn.sameBut hs (Ne.symm (cne x c hc)), fun j y v' e1 e2 e3 => ?_⟩, fun y c' e => ?_, I.free, I.freeC, fun p hp => ?_, tracked ⟨oc, hoc, I.freeC x c hc⟩ hs, by simpa using I.len⟩ ⟨c, hs, .inr hc⟩
    · exact (hs.2 b (Nat.ne_of_lt (Nat.lt_of_lt_of_le (Heap.lt_size e) (I.ok.cab x c hfn hc)))).trans (I.base.keep b o e n hb hx)
    · obtain ⟨sl, e1⟩ := I.base.slot b o e n hb hx
      exact ⟨sl, (hs.2 b (Nat.ne_of_lt (Nat.lt_of_lt_of_le (Heap.lt_size e) (I.ok.cab x c hfn hc)))).trans e1⟩
    · obtain ⟨o', e1⟩ := I.base.there b o e hx
      exact ⟨o', (hs.2 b (Nat.ne_of_lt (Nat.lt_of_lt_of_le (Heap.lt_size e) (I.ok.cab x c hfn hc)))).trans e1⟩
    · by_cases hj : j = i
      · subst hj
        rw [hi] at e1; cases e1
        rw [List.getElem?_set_self hiσ] at e2
        cases e2
        exact ⟨u, r, .inr ⟨.inl hk, c, hc, hc'⟩⟩
      · rw [List.getElem?_set_ne (Ne.symm hj)] at e2
        obtain ⟨u', r', q⟩ := hl j y v' e1 e2 e3
        refine ⟨u', r', ?_⟩
        rcases q with q | ⟨k, c', e, z'⟩
        · exact .inl q
        · refine .inr ⟨k, c', e, z'.sameBut hs ?_⟩
          rintro rfl
          exact hj (nodup_ix hN e1 (I.ok.inj _ _ _ e hc ▸ hi))
    · by_cases hcc : c' = c
      · subst hcc; exact ⟨_, hc'⟩
      · obtain ⟨w2, z2⟩ := I.cell y c' e
        exact ⟨w2, z2.sameBut hs hcc⟩
    · obtain ⟨e, n, ne, nf, d⟩ := I.pin p hp
      refine ⟨(hs.2 p.1 ?_).trans e, n, ne, nf, d⟩
      intro q
      rw [q, hoc] at e
      have q' : oc = p.2 := Option.some.inj e
      exact d w' (by rw [← q']; exact hocd)
theorem store_ok {M : Model} {A : Around} {E : Value → Shared → Prop} {i : Nat} {x : Str} {v : V} {u : Value} {Q : Unit → Shared → Prop} (I : Inv X pins σ H s) (hN : X.N.Nodup) (hi : X.N[i]? = some x) (hx : Loc X.env.scope x) (r : RelV v u)
    (h : ∀ s', Inv X pins (σ.set i (some v)) H s' → Q () s') (hf : X.fn x = true ∨ X.env.scope.names.lookup x = some .local := by first | exact .inl rfl | exact .inr rfl | assumption) : wpAny M A (storeName X.env x u) Q E s :=
  store_ok2 I hN hi hx r (fun s' I' _ => h s' I') hf
theorem Inv.call' {s' : Shared} {ch : List Addr} (I : Inv X pins σ H s) (ho : s'.os = s.os) (u : Un (frs X.stack) ch H H' s.heap s'.heap) (hok : HOk X.prog X.w H' s'.heap) (hg : AllBare s'.gens)
    (hch : ∀ b ∈ ch, (b ∈ X.ex ∨ X.s₀.heap.objs.size ≤ b) ∧ b ≠ X.env.locals ∧ (∀ x c, X.env.cells.lookup x = some c → c ≠ b) ∧ ∀ p ∈ X.pn ++ pins, p.1 ≠ b) : Inv X pins σ H' s' := by
  obtain ⟨h', g', d', t', o'⟩ := s'
  have e : o' = s.os := ho
  subst e
  exact I.call (g' := g') (t' := t') (d' := d') u hok hg hch
end

noncomputable abbrev XK := Value → Option Addr → Hp → Prop
noncomputable abbrev St := List (Option V)
noncomputable abbrev VK := V → Hp → Prop
noncomputable abbrev TE := St → Hp → VK → Prop
noncomputable abbrev TT := St → Hp → (Bool → Hp → Prop) → Prop
noncomputable abbrev TA := St → Hp → (List V → Hp → Prop) → Prop
structure Ends where
  nx : St → Hp → Prop
  rt : VK
  bk : St → Hp → Prop := fun _ _ => False
  ct : St → Hp → Prop := fun _ _ => False
noncomputable abbrev TS := Ends → St → Hp → Prop
noncomputable def EP (X : Cx) (pins : List (Addr × Obj)) (σ : St) (Q : VK) (u : Value) (s' : Shared) : Prop := ∃ v H', Inv X pins σ H' s' ∧ RelV v u ∧ Q v H'
noncomputable def TP (X : Cx) (pins : List (Addr × Obj)) (σ : St) (Q : Bool → Hp → Prop) (b : Bool) (s' : Shared) : Prop := ∃ H', Inv X pins σ H' s' ∧ Q b H'
noncomputable def AP (X : Cx) (pins : List (Addr × Obj)) (σ : St) (Q : List V → Hp → Prop) (us : List Value) (s' : Shared) : Prop := ∃ vs H', Inv X pins σ H' s' ∧ Vals vs us ∧ Q vs H'
noncomputable def SP (X : Cx) (pins : List (Addr × Obj)) (D : Ends) (f : Flow) (s' : Shared) : Prop :=
  match f with
  | .next => ∃ σ' H', Inv X pins σ' H' s' ∧ D.nx σ' H'
  | .brk => ∃ σ' H', Inv X pins σ' H' s' ∧ D.bk σ' H'
  | .cont => ∃ σ' H', Inv X pins σ' H' s' ∧ D.ct σ' H'
  | .ret u => ∃ v σ' H', Inv X pins σ' H' s' ∧ RelV v u ∧ D.rt v H'
noncomputable def PE (X : Cx) (e : Expr) (t : TE) : Prop :=
  ∀ (pins : List (Addr × Obj)) (s : Shared) (σ : St) (H : Hp) (Q : VK), Inv X pins σ H s → t σ H Q → wpAny (model X.prog X.w) X.A (eval e X.env) (EP X pins σ Q) X.xe s
noncomputable def PT (X : Cx) (e : Expr) (t : TT) : Prop :=
  ∀ (pins : List (Addr × Obj)) (s : Shared) (σ : St) (H : Hp) (Q : Bool → Hp → Prop), Inv X pins σ H s → t σ H Q → wpAny (model X.prog X.w) X.A (isTrue e X.env (eval e X.env)) (TP X pins σ Q) X.xe s
noncomputable def PW (X : Cx) (e : Expr) (t : TT) : Prop :=
  ∀ (whole : Sem Value) (pins : List (Addr × Obj)) (s : Shared) (σ : St) (H : Hp) (Q : Bool → Hp → Prop), Inv X pins σ H s → t σ H Q → wpAny (model X.prog X.w) X.A (isTrue e X.env whole) (TP X pins σ Q) X.xe s
theorem PW.pt {X : Cx} {e : Expr} {t : TT} (h : PW X e t) : PT X e t := h _
noncomputable def PA (X : Cx) (es : List Expr) (t : TA) : Prop :=
  ∀ (pos : Pos) (pins : List (Addr × Obj)) (s : Shared) (σ : St) (H : Hp) (Q : List V → Hp → Prop), Inv X pins σ H s → t σ H Q → wpAny (model X.prog X.w) X.A (spliced (backTo pos (starEach es X.env))) (AP X pins σ Q) X.xe s
noncomputable def PS (X : Cx) (st : Stmt) (t : TS) : Prop :=
  ∀ (pins : List (Addr × Obj)) (s : Shared) (σ : St) (H : Hp) (D : Ends), Inv X pins σ H s → t D σ H → wpAny (model X.prog X.w) X.A (exec st X.env) (SP X pins D) X.xe s
noncomputable def PSs (X : Cx) (st : List Stmt) (t : TS) : Prop :=
  ∀ (pins : List (Addr × Obj)) (s : Shared) (σ : St) (H : Hp) (D : Ends), Inv X pins σ H s → t D σ H → wpAny (model X.prog X.w) X.A (execs st X.env) (SP X pins D) X.xe s
theorem thn {α : Type} {t : Sem α} {Q Q' : α → Shared → Prop} {M : Model} {A : Around} {E : Value → Shared → Prop} {s : Shared} (h : wpAny M A t Q E s) (hQ : ∀ a s, Q a s → Q' a s) : wpAny M A t Q' E s := wpAny_mono h hQ fun _ _ x => x
end L2
namespace L2
open PySem PySem.Spec PyProof.Rows
section
variable {X : Cx}

inductive ITVar (i : Nat) (σ : St) (H : Hp) (Q : VK) : Prop
  | mk (v : _) : σ[i]? = some (some v) → Q v H → ITVar i σ H Q
noncomputable def tVar (i : Nat) : TE := fun σ H Q => ITVar i σ H Q
noncomputable def tC (v : V) : TE := fun _ H Q => Q v H
theorem pe_var {i : Nat} {x : Str} {pos : Pos} (hN : X.N[i]? = some x) (hv : Vis X.env.scope x) (hd : (x == ("__debug__" : Str)) = false := by decide) (hcd : (x == ("__classdict__" : Str)) = false := by decide) : PE X (.Name x pos) (tVar i) := by
  intro pins s σ H Q I h
  obtain ⟨v, e, h⟩ := h
  obtain ⟨m, hn, hl⟩ := I.loc
  obtain ⟨u, r, l⟩ := hl i x v hN e hv
  have fin : EP X pins σ Q u s := ⟨v, H, I, r, h⟩
  rcases l with ⟨hk, hm⟩ | ⟨hk, c, hc, hcell⟩
  · exact wpAny_Name (wpAny_loadName_local I.ok.kind hk hn hm fin) hd
  · rcases hk with hk | hk
    · exact wpAny_Name (wpAny_loadName_cell I.ok.kind hk hc hcell fin) hd
    · exact wpAny_Name (wpAny_loadName_free I.ok.kind hk hc hcell fin hcd) hd
theorem pe_int {i j pos} : PE X (.Constant (.int i) j pos) (tC (.int i)) := fun _ _ _ H _ I h => wpAny_Constant_int ⟨.int i, H, I.tok _, ⟨_, rfl⟩, h⟩
theorem pe_bl {b j pos} : PE X (.Constant (.bool b) j pos) (tC (.bl b)) := fun _ _ _ H _ I h => Constant_bool ⟨.bl b, H, I, rfl, h⟩
theorem pe_non {j pos} : PE X (.Constant .none j pos) (tC .non) := fun _ _ _ H _ I h => Constant_none ⟨.non, H, I, rfl, h⟩
theorem pe_str {x j pos} : PE X (.Constant (.str x) j pos) (tC (.str x)) := fun _ _ _ H _ I h => Calls.Constant_str ⟨.str x, H, I.tok _, ⟨_, rfl⟩, h⟩
noncomputable def Gl (X : Cx) (x : Str) : Prop := X.env.kindOf x = some .globalImplicit
theorem ld_glob {E : Value → Shared → Prop} {pins : List (Addr × Obj)} {s : Shared} {σ : St} {H : Hp} {x : Str} {u : Value} {pos : Pos} {Q : Value → Shared → Prop} (I : Inv X pins σ H s) (hg : Gl X x) (hm : X.mg x = some u) (h : Q u s)
    (hd : (x == ("__debug__" : Str)) = false := by decide) : wpAny (model X.prog X.w) X.A (eval (.Name x pos) X.env) Q E s :=
  Calls.Name_function_global I.ok.kind hg (Calls.loadGlobal_global (by rw [I.ok.glob]; exact I.mod.glob.keeps I.bk) hm h) hd
theorem ld_blt {E : Value → Shared → Prop} {pins : List (Addr × Obj)} {s : Shared} {σ : St} {H : Hp} {x : Str} {u : Value} {pos : Pos} {Q : Value → Shared → Prop} (I : Inv X pins σ H s) (hg : Gl X x) (hm : X.mg x = none) (hv : bootBuiltins x = some u) (h : Q u s)
    (hn : x ≠ "__name__" := by decide) (hd : (x == ("__debug__" : Str)) = false := by decide) : wpAny (model X.prog X.w) X.A (eval (.Name x pos) X.env) Q E s := by
  obtain ⟨mb, h1, h2⟩ := I.mod.blt
  exact Calls.Name_function_global I.ok.kind hg (Calls.loadGlobal_builtin (by rw [I.ok.glob]; exact I.mod.glob.keeps I.bk) hm (by rw [I.ok.blt]; exact h1.keeps I.bk) ((h2 x hn).trans hv) h) hd
theorem pe_glob {x : Str} {v : V} {u : Value} {pos : Pos} (hg : Gl X x) (hm : X.mg x = some u) (r : RelV v u) (hd : (x == ("__debug__" : Str)) = false := by decide) : PE X (.Name x pos) (tC v) :=
  fun _ _ _ H _ I h => ld_glob I hg hm ⟨v, H, I, r, h⟩ hd
theorem pe_bltn {x : Str} {v : V} {u : Value} {pos : Pos} (hg : Gl X x) (hm : X.mg x = none) (hv : bootBuiltins x = some u) (r : RelV v u) (hn : x ≠ "__name__" := by decide) (hd : (x == ("__debug__" : Str)) = false := by decide) : PE X (.Name x pos) (tC v) :=
  fun _ _ _ H _ I h => ld_blt I hg hm hv ⟨v, H, I, r, h⟩ hn hd

variable {a b : Expr} {ta tb : TE} {pos : Pos}

noncomputable def PC (X : Cx) (op : CmpOp) (a b : Expr) (t : TE) : Prop :=
  ∀ (pins : List (Addr × Obj)) (s : Shared) (σ : St) (H : Hp) (Q : VK), Inv X pins σ H s → t σ H Q →
    wpAny (model X.prog X.w) X.A (eval a X.env) (fun v s₁ => wpAny (model X.prog X.w) X.A (eval b X.env) (fun u s₂ => wpAny (model X.prog X.w) X.A (compareOp op v u) (EP X pins σ Q) X.xe s₂) X.xe s₁) X.xe s
inductive ITB (x : V) (H1 : Hp) (Q : Bool → Hp → Prop) : Prop
  | mk (c : _) : x = .bl c → Q c H1 → ITB x H1 Q
noncomputable def tB (t : TE) : TT := fun σ H Q => t σ H fun x H1 => ITB x H1 Q
theorem pt_cmp {op : CmpOp} {t : TE} (h : PC X op a b t) (h1 : behindInMarks op b = false := by first | exact nobehind _ (by decide) (by decide) | rfl) : PT X (.Compare a [op] [b] pos) (tB t) := by
  intro pins s σ H Q I hw
  refine wpAny_isTrue_Compare1 (thn (h pins s σ H _ I hw) fun v s1 h1 => thn h1 fun u s2 h2 => thn h2 fun c s3 ⟨x, H1, I1, r1, q1⟩ => ?_) h1
  obtain ⟨d, rfl, q⟩ := q1
  cases r1
  exact wpAny_truthy_bool ⟨H1, I1, q⟩
theorem pt_val {e : Expr} {t : TE} (h : PE X e t) (he : ∀ whole, isTrue e X.env whole = (do let v ← whole; standAt e.pos; holding [v] (truthy v)) := by intro _; rfl) : PT X e (tB t) := by
  intro pins s σ H Q I hw
  refine isTrue_plain (thn (h pins s σ H _ I hw) fun v s1 ⟨x, H1, I1, r1, q1⟩ => ?_) (he _)
  obtain ⟨d, rfl, q⟩ := q1
  cases r1
  exact wpAny_truthy_bool ⟨H1, I1, q⟩

variable {tA tB' : TT} {rest : List Expr}
noncomputable def tAnd (t u : TT) : TT := fun σ H Q => t σ H fun c H1 => if c = true then u σ H1 Q else Q false H1
noncomputable def tOr (t u : TT) : TT := fun σ H Q => t σ H fun c H1 => if c = true then Q true H1 else u σ H1 Q
noncomputable def tNot (t : TT) : TT := fun σ H Q => t σ H fun c H1 => Q (!c) H1
theorem pw_and1 (ha : PT X a tA) : PW X (.BoolOp .And [a] pos) tA := by
  intro wh pins s σ H Q I h
  refine isTrue_and (thn (ha pins s σ H Q I h) fun c s1 e => ?_)
  cases c with
  | true => exact isTrue_and_nil e
  | false => exact e
theorem pw_or1 (ha : PT X a tA) : PW X (.BoolOp .Or [a] pos) tA := by
  intro wh pins s σ H Q I h
  refine isTrue_or (thn (ha pins s σ H Q I h) fun c s1 e => ?_)
  cases c with
  | false => exact isTrue_or_nil e
  | true => exact e
theorem pw_and (ha : PT X a tA) (hb : PW X (.BoolOp .And (b :: rest) pos) tB') : PW X (.BoolOp .And (a :: b :: rest) pos) (tAnd tA tB') := by
  intro wh pins s σ H Q I h
  refine isTrue_and (thn (ha pins s σ H _ I h) fun c s1 ⟨H1, I1, q1⟩ => ?_)
  cases c with
  | true => exact hb wh pins s1 σ H1 Q I1 q1
  | false => exact ⟨H1, I1, q1⟩
theorem pw_or (ha : PT X a tA) (hb : PW X (.BoolOp .Or (b :: rest) pos) tB') : PW X (.BoolOp .Or (a :: b :: rest) pos) (tOr tA tB') := by
  intro wh pins s σ H Q I h
  refine isTrue_or (thn (ha pins s σ H _ I h) fun c s1 ⟨H1, I1, q1⟩ => ?_)
  cases c with
  | true => exact ⟨H1, I1, q1⟩
  | false => exact hb wh pins s1 σ H1 Q I1 q1
theorem pt_not (ha : PT X a tA) : PT X (.UnaryOp .Not a pos) (tNot tA) := by
  intro pins s σ H Q I h
  exact isTrue_not (ha pins s σ H (fun c H1 => Q (!c) H1) I h)
inductive ITAndV (tb : TE) (σ : St) (x : V) (H1 : Hp) (Q : VK) : Prop
  | mk (c : _) : x = .bl c → (if c = true then tb σ H1 Q else Q (.bl false) H1) → ITAndV tb σ x H1 Q
noncomputable def tAndV (ta tb : TE) : TE := fun σ H Q => ta σ H fun x H1 => ITAndV tb σ x H1 Q
inductive ITNotV (x : V) (H1 : Hp) (Q : VK) : Prop
  | mk (c : _) : x = .bl c → Q (.bl (!c)) H1 → ITNotV x H1 Q
noncomputable def tNotV (ta : TE) : TE := fun σ H Q => ta σ H fun x H1 => ITNotV x H1 Q
theorem pe_one {op} {t : TE} (h : PE X a t) : PE X (.BoolOp op [a] pos) t := fun pins s σ H Q I hw => BoolOp_one (h pins s σ H Q I hw)
theorem pe_and (ha : PE X a ta) (hb : PE X (.BoolOp .And (b :: rest) pos) tb) : PE X (.BoolOp .And (a :: b :: rest) pos) (tAndV ta tb) := by
  intro pins s σ H Q I h
  refine BoolOp_and (thn (ha pins s σ H _ I h) fun v s1 ⟨x, H1, I1, r1, q1⟩ => ?_)
  obtain ⟨c, rfl, q1⟩ := q1
  cases r1
  refine wpAny_truthy_bool ?_
  cases c with
  | true => exact hb pins s1 σ H1 Q I1 q1
  | false => exact ⟨.bl false, H1, I1, rfl, q1⟩
theorem pe_not (ha : PE X a ta) : PE X (.UnaryOp .Not a pos) (tNotV ta) := by
  intro pins s σ H Q I h
  refine UnaryOp_ (thn (ha pins s σ H _ I h) fun v s1 ⟨x, H1, I1, r1, q1⟩ => ?_)
  obtain ⟨c, rfl, q1⟩ := q1
  cases r1
  exact not_of (wpAny_truthy_bool ⟨.bl (!c), H1, I1, rfl, q1⟩)
noncomputable def tIf (t : TT) (ta tb : TE) : TE := fun σ H Q => t σ H fun c H1 => if c = true then ta σ H1 Q else tb σ H1 Q
theorem pe_ifExp {c : Expr} (hc : PT X c tA) (ha : PE X a ta) (hb : PE X b tb) : PE X (.IfExp c a b pos) (tIf tA ta tb) := by
  intro pins s σ H Q I h
  refine wpAny_IfExp (thn (hc pins s σ H _ I h) fun d s1 ⟨H1, I1, q1⟩ => ?_)
  cases d with
  | true => exact ha pins s1 σ H1 Q I1 q1
  | false => exact hb pins s1 σ H1 Q I1 q1
end
end L2
namespace L2
open PySem PySem.Spec PyProof.Rows

noncomputable def SqL (K : PySem.W.Frag) (H : Hp) (a : Addr) (xs : List V) : Prop :=
  Rd H a (.lst xs) ∨
    ∃ (o : Obj) (its : Array Value) (n : Nat), K.lookup a = some o ∧ o.cls = .type "list" ∧ o.dict = none ∧ o.data = .seq its n ∧ its.size ≤ sizeLine ∧ Vals xs its.toList
noncomputable def SqT (K : PySem.W.Frag) (H : Hp) (a : Addr) (xs : List V) : Prop :=
  Rd H a (.tup xs) ∨
    ∃ (o : Obj) (its : Array Value) (n : Nat), K.lookup a = some o ∧ o.cls = .type "tuple" ∧ o.data = .seq its n ∧ its.size ≤ sizeLine ∧ Vals xs its.toList
noncomputable def absV : Value → Option V
  | .none => some .non
  | .bool b => some (.bl b)
  | .int i _ => some (.int i)
  | .str x _ => some (.str x)
  | .bytes b _ => some (.byt b)
  | .float b _ => some (.flt b)
  | .ref a => some (.ref a)
  | .type n => some (.ty n)
  | _ => none
theorem RelV.abs {x : V} {u : Value} (r : RelV x u) : absV u = some x := by
  cases x with
  | non => cases r; rfl
  | bl _ => cases r; rfl
  | int _ => obtain ⟨t, rfl⟩ := r; rfl
  | str _ => obtain ⟨t, rfl⟩ := r; rfl
  | byt _ => obtain ⟨t, rfl⟩ := r; rfl
  | flt _ => obtain ⟨t, rfl⟩ := r; rfl
  | ref _ => cases r; rfl
  | ty _ => cases r; rfl
theorem RelV.inj {x y : V} {u : Value} (r : RelV x u) (q : RelV y u) : x = y := Option.some.inj (r.abs.symm.trans q.abs)
theorem Vals.inj : ∀ {xs ys : List V} {us : List Value}, Vals xs us → Vals ys us → xs = ys
  | _, _, _, .nil, .nil => rfl
  | _, _, _, .cons r t, .cons r' t' => by rw [r.inj r', Vals.inj t t']
section
variable {X : Cx} {pins : List (Addr × Obj)} {σ : St} {H : Hp} {s : Shared} {a : Addr} {xs ys : List V}
theorem SqL.of {K : PySem.W.Frag} (h : H a = some (.lst xs)) : SqL K H a xs := .inl (.inl h)
theorem SqT.of {K : PySem.W.Frag} (h : H a = some (.tup xs)) : SqT K H a xs := .inl (.inl h)
theorem Inv.list (I : Inv X pins σ H s) (h : SqL X.K H a xs) : ∃ its : List Value, Vals xs its ∧ PlainL s.heap a its.toArray ∧ xs.length ≤ sizeLine := by
  rcases h with h | ⟨o, its, n, hk, hc, hd, hs, hz, r⟩
  · obtain ⟨z, its, n, r, e⟩ := h.ok I.hok
    exact ⟨its, r, ⟨_, n, e, rfl, rfl, rfl⟩, z⟩
  · refine ⟨its.toList, r, ⟨o, n, I.kIn a o hk, hc, hd, by simpa using hs⟩, ?_⟩
    have e := r.length
    simp only [Array.length_toList] at e
    omega
theorem Inv.tuple (I : Inv X pins σ H s) (h : SqT X.K H a xs) : ∃ its : List Value, Vals xs its ∧ IsTup s.heap a its.toArray ∧ xs.length ≤ sizeLine := by
  rcases h with h | ⟨o, its, n, hk, hc, hs, hz, r⟩
  · obtain ⟨z, its, r, p⟩ := h.ok I.hok
    exact ⟨its, r, p, z⟩
  · refine ⟨its.toList, r, ⟨o, I.kIn a o hk, hc, n, by simpa using hs⟩, ?_⟩
    have e := r.length
    simp only [Array.length_toList] at e
    omega
theorem Inv.list_inj (I : Inv X pins σ H s) (h : SqL X.K H a xs) (h' : SqL X.K H a ys) : xs = ys := by
  obtain ⟨its, r, ⟨o, n, e, _, _, d⟩, _⟩ := I.list h
  obtain ⟨its', r', ⟨o', n', e', _, _, d'⟩, _⟩ := I.list h'
  rw [e] at e'; cases e'
  rw [d] at d'
  injection d' with d1 _
  have : its = its' := by simpa using congrArg Array.toList d1
  subst this
  exact r.inj r'
end

noncomputable abbrev Cx.wish (X : Cx) (E : Value → Shared → Prop) : Cx := { X with xe := E }
noncomputable abbrev Cx.nox (X : Cx) : Cx := X.wish fun _ _ => False
theorem Cx.Ok.wish {X : Cx} (ok : X.Ok) (E : Value → Shared → Prop) : (X.wish E).Ok :=
  ⟨ok.mod, ok.kind, ok.glob, ok.blt, ok.above, ok.inj, ok.has, ok.cab, ok.hd, ok.frames, ok.stk, ok.exf, ok.bs, ok.bsz, ok.noex, ok.exfs, ok.funs, ok.frf⟩
theorem Cx.Ok.unwish {X : Cx} {E : Value → Shared → Prop} (ok : (X.wish E).Ok) : X.Ok :=
  ⟨ok.mod, ok.kind, ok.glob, ok.blt, ok.above, ok.inj, ok.has, ok.cab, ok.hd, ok.frames, ok.stk, ok.exf, ok.bs, ok.bsz, ok.noex, ok.exfs, ok.funs, ok.frf⟩
section
variable {X : Cx} {pins : List (Addr × Obj)} {σ : St} {H : Hp} {s : Shared} {E : Value → Shared → Prop}
theorem Inv.wish (I : Inv X pins σ H s) (E : Value → Shared → Prop) : Inv (X.wish E) pins σ H s := ⟨I.ok.wish E, I.os, I.bare, I.base, I.loc, I.cell, I.free, I.freeC, I.pin, I.hok, I.len⟩
theorem Inv.unwish (I : Inv (X.wish E) pins σ H s) : Inv X pins σ H s := ⟨I.ok.unwish, I.os, I.bare, I.base, I.loc, I.cell, I.free, I.freeC, I.pin, I.hok, I.len⟩
theorem SP.unwish {D : Ends} {f : Flow} {s' : Shared} (h : SP (X.wish E) pins D f s') : SP X pins D f s' := by
  cases f with
  | next => obtain ⟨σ', H', I, q⟩ := h; exact ⟨σ', H', I.unwish, q⟩
  | brk => obtain ⟨σ', H', I, q⟩ := h; exact ⟨σ', H', I.unwish, q⟩
  | cont => obtain ⟨σ', H', I, q⟩ := h; exact ⟨σ', H', I.unwish, q⟩
  | ret u => obtain ⟨v, σ', H', I, r, q⟩ := h; exact ⟨v, σ', H', I.unwish, r, q⟩
theorem PSs.nox {st : List Stmt} {t : TS} (h : PSs X.nox st t) : PSs X st t := fun pins s σ H D I hw =>
  wpAny_mono (h pins s σ H D (I.wish _) hw) (fun _ _ q => q.unwish) fun _ _ z => False.elim z
end

section
variable {X : Cx} {st : Stmt} {rest : List Stmt} {t u : TS} {e : Expr} {te : TE} {pos : Pos}
noncomputable def tNext : TS := fun D σ H => D.nx σ H
noncomputable def tSeq (t u : TS) : TS := fun D σ H => t { D with nx := u D } σ H
theorem pss_nil : PSs X [] tNext := fun _ _ σ H _ I h => wpAny_execs_nil ⟨σ, H, I, h⟩
theorem pss_cons (h1 : PS X st t) (h2 : PSs X rest u) : PSs X (st :: rest) (tSeq t u) := by
  intro pins s σ H D I h
  refine wpAny_execs_cons (thn (h1 pins s σ H { D with nx := u D } I h) fun f s1 q => ?_)
  cases f with
  | next =>
    obtain ⟨σ', H', I', q⟩ := q
    exact h2 pins s1 σ' H' D I' q
  | ret v => exact q
  | brk => exact q
  | cont => exact q
theorem pss_one (h1 : PS X st t) : PSs X [st] t := by
  intro pins s σ H D I h
  refine wpAny_execs_cons (thn (h1 pins s σ H D I h) fun f s1 q => ?_)
  cases f with
  | next => exact wpAny_execs_nil q
  | ret v => exact q
  | brk => exact q
  | cont => exact q
theorem Inv.quiet {pins : List (Addr × Obj)} {σ : St} {H : Hp} {s : Shared} (I : Inv X pins σ H s) : interactive X.env = false := by simp [interactive, I.ok.kind]
noncomputable def tDrop (te : TE) : TS := fun D σ H => te σ H fun _ H1 => D.nx σ H1
theorem ps_expr (he : PE X e te) (hs : swapsWith e none pos.line X.env = pure false := by rfl) : PS X (.Expr e pos) (tDrop te) := by
  intro pins s σ H D I h
  exact wpAny_Expr_any (thn (he pins s σ H _ I h) fun v s1 ⟨x, H1, I1, r1, q1⟩ => ⟨σ, H1, I1, q1⟩) I.quiet hs
noncomputable def tRet (te : TE) : TS := fun D σ H => te σ H D.rt
theorem ps_ret (he : PE X e te) : PS X (.Return (some e) pos) (tRet te) := by
  intro pins s σ H D I h
  exact wpAny_Return_some (thn (he pins s σ H _ I h) fun v s1 ⟨x, H1, I1, r1, q1⟩ => ⟨x, σ, H1, I1, r1, q1⟩)
noncomputable def tIfS (c : TT) (t u : TS) : TS := fun D σ H => c σ H fun b H1 => if b = true then t D σ H1 else u D σ H1
theorem ps_if {c : Expr} {a b : List Stmt} {tc : TT} (hc : PT X c tc) (ha : PSs X a t) (hb : PSs X b u) : PS X (.If c a b pos) (tIfS tc t u) := by
  intro pins s σ H D I h
  refine wpAny_If (thn (hc pins s σ H _ I h) fun d s1 ⟨H1, I1, q1⟩ => ?_)
  cases d with
  | true => exact ha pins s1 σ H1 D I1 q1
  | false => exact hb pins s1 σ H1 D I1 q1
noncomputable def tNever : TS := fun _ _ _ => False
theorem ps_never : PS X st tNever := fun _ _ _ _ _ _ h => h.elim
end

noncomputable abbrev TG := V → St → Hp → (St → Hp → Prop) → Prop
noncomputable abbrev TGs := List V → St → Hp → (St → Hp → Prop) → Prop
noncomputable def PG (X : Cx) (target : Expr) (t : TG) : Prop :=
  ∀ (pins : List (Addr × Obj)) (s : Shared) (σ : St) (H : Hp) (v : V) (u : Value) (Q : St → Hp → Prop), Inv X pins σ H s → RelV v u → t v σ H Q →
    wpAny (model X.prog X.w) X.A (assign target X.env u) (fun _ s' => ∃ σ' H', Inv X pins σ' H' s' ∧ Q σ' H') X.xe s
noncomputable def PGs (X : Cx) (ts : List Expr) (t : TGs) : Prop :=
  ∀ (pins : List (Addr × Obj)) (s : Shared) (σ : St) (H : Hp) (vs : List V) (us : List Value) (Q : St → Hp → Prop), Inv X pins σ H s → Vals vs us → t vs σ H Q →
    wpAny (model X.prog X.w) X.A (assignInOrder ((assignEach ts X.env).map (·.2)) us) (fun _ s' => ∃ σ' H', Inv X pins σ' H' s' ∧ Q σ' H') X.xe s
section
variable {X : Cx} {pos : Pos}
noncomputable def gName (i : Nat) : TG := fun v σ H Q => Q (σ.set i (some v)) H
theorem pg_name {i : Nat} {x : Str} (hN : X.N.Nodup) (hi : X.N[i]? = some x) (hx : Loc X.env.scope x) (hf : X.fn x = true ∨ X.env.scope.names.lookup x = some .local := by first | exact .inl rfl | exact .inr rfl | assumption) : PG X (.Name x pos) (gName i) := by
  intro pins s σ H v u Q I r h
  exact wpAny_assign_Name (store_ok I hN hi hx r (fun s' I' => ⟨_, H, I', h⟩) hf)
noncomputable def gNil : TGs := fun vs σ H Q => vs = [] ∧ Q σ H
noncomputable def gCons (t : TG) (u : TGs) : TGs := fun vs σ H Q => ∃ v r, vs = v :: r ∧ t v σ H fun σ' H' => u r σ' H' Q
theorem pgs_nil : PGs X [] gNil := by
  intro pins s σ H vs us Q I r h
  obtain ⟨e, h⟩ := h
  subst e
  cases r
  exact assignInOrder_nil ⟨σ, H, I, h⟩
theorem pgs_cons {e : Expr} {es : List Expr} {t : TG} {u : TGs} (h1 : PG X e t) (h2 : PGs X es u)
    (hs : (assignEach (e :: es) X.env).map (·.2) = assign e X.env :: (assignEach es X.env).map (·.2) := by rfl) : PGs X (e :: es) (gCons t u) := by
  intro pins s σ H vs us Q I r h
  obtain ⟨v, vr, e1, h⟩ := h
  subst e1
  cases r with
  | cons r rr =>
    rw [hs]
    refine assignInOrder_cons (thn (h1 pins s σ H _ _ _ I r h) fun _ s1 ⟨σ1, H1, I1, q1⟩ => ?_)
    exact h2 pins s1 σ1 H1 _ _ Q I1 rr q1
noncomputable def gTup (K : PySem.W.Frag) (n : Nat) (t : TGs) : TG := fun v σ H Q => ∃ a xs, v = .ref a ∧ SqT K H a xs ∧ xs.length = n ∧ t xs σ H Q
theorem pg_tup {es : List Expr} {k : Nat} {t : TGs} {n : Nat} (hc : X.calm = true) (h : PGs X es t)
    (hn : (assignEach es X.env).length = n := by rfl) (hst : (assignEach es X.env).findIdx? (·.1) = none := by rfl) : PG X (.Tuple es k pos) (gTup X.K n t) := by
  intro pins s σ H v u Q I r hw
  obtain ⟨a, xs, e1, hq, hl, hw⟩ := hw
  subst e1
  cases r
  obtain ⟨its, rv, ht, hz⟩ := I.tuple hq
  refine assign_Tuple_tuple (I.ok.hd hc) ht (by simp [hn, ← hl, rv.length]) hst fun h' hx => ?_
  have I1 : Inv X pins σ H { s with heap := h' } := I.kept (t' := s.toks) fun b o e => hx b o (Nat.ne_of_lt (Heap.lt_size e)) e
  exact h pins _ σ H xs _ Q I1 (by simpa using rv) hw
noncomputable def tAsg (te : TE) (g : TG) : TS := fun D σ H => te σ H fun x H1 => g x σ H1 D.nx
theorem ps_set {i : Nat} {x : Str} {e : Expr} {te : TE} {pos' : Pos} (hN : X.N.Nodup) (hi : X.N[i]? = some x) (hx : Loc X.env.scope x) (he : PE X e te) (hs : swapsWith e (some (.Name x pos')) pos.line X.env = pure false := by rfl) (hf : X.fn x = true ∨ X.env.scope.names.lookup x = some .local := by first | exact .inl rfl | exact .inr rfl | assumption) :
    PS X (.Assign [.Name x pos'] e pos) (tAsg te (gName i)) := by
  intro pins s σ H D I h
  refine wpAny_Assign_Name (thn (he pins s σ H _ I h) fun v s1 ⟨y, H1, I1, r1, q1⟩ => ?_) hs
  exact store_ok I1 hN hi hx r1 (fun s2 I2 => ⟨_, H1, I2, q1⟩) hf
end

section
variable {X : Cx} {pos : Pos}
end

structure It where
  go : Nat → Hp → Prop
  yld : Nat → Hp → V → Hp → Prop
  stop : Nat → Hp → Prop
noncomputable def FpOk (X : Cx) (pins : List (Addr × Obj)) (H : Hp) (b : Addr) : Prop :=
  H b = none ∧ b ≠ X.env.locals ∧ b ∉ X.fs ∧ (b ∈ X.ex ∨ X.s₀.heap.objs.size ≤ b) ∧ (∀ x c, X.env.cells.lookup x = some c → c ≠ b) ∧ ∀ p ∈ X.pn ++ pins, p.1 ≠ b
theorem Inv.fpOk {X : Cx} {pins : List (Addr × Obj)} {σ : St} {H H' : Hp} {s : Shared} {b : Addr} (I : Inv X pins σ H s) (hb : s.heap.objs.size ≤ b) (hn : H' b = none) : FpOk X pins H' b := by
  refine ⟨hn, Nat.ne_of_gt (Nat.lt_of_lt_of_le I.lt hb), I.nofs hb, .inr (Nat.le_trans I.sz hb), fun x c e z => ?_, fun p hp z => ?_⟩
  · obtain ⟨v, q⟩ := I.cell x c e
    exact absurd (Nat.lt_of_lt_of_le q.lt (by rw [z]; exact hb)) (Nat.lt_irrefl _)
  · exact absurd (Nat.lt_of_lt_of_le (Heap.lt_size (I.pin p hp).1) (by rw [z]; exact hb)) (Nat.lt_irrefl _)
structure Turn (P : Program) (w : World) (K : PySem.W.Frag) (tg : Expr) (J : It) (fp : List Addr) (it : Addr) (tn : Nat → Heap → Prop) : Prop where
  mem : it ∈ fp
  obj : ∀ i h, tn i h → ∀ b ∈ fp, ∃ o, h.get? b = some o ∧ ∀ v, o.data ≠ .cell v
  keep : ∀ i h h', tn i h → (∀ b ∈ fp, ∀ o, h.get? b = some o → h'.get? b = some o) → tn i h'
  item : ∀ (X : Cx), X.prog = P → X.w = w → X.K = K → X.calm = true → ∀ (i : Nat) (pins : List (Addr × Obj)) (s : Shared) (σ : St) (H : Hp) (E : Value → Shared → Prop), Inv X pins σ H s → (∀ b ∈ fp, FpOk X pins H b) → tn i s.heap → J.go i H →
    wpAny (model P w) X.A (pyNext (.ref it)) (fun r s1 => ∃ u, r = some u ∧
      wpAny (model P w) X.A (letOwnedTupleGo tg (.ref it) u) (fun _ s2 => ∃ x H', Inv X pins σ H' s2 ∧ RelV x u ∧ J.yld i H x H' ∧ tn (i + 1) s2.heap ∧ ∀ b ∈ fp, H' b = none) E s1) E s
  done : ∀ (X : Cx), X.prog = P → X.w = w → X.K = K → X.calm = true → ∀ (i : Nat) (pins : List (Addr × Obj)) (s : Shared) (σ : St) (H : Hp) (E : Value → Shared → Prop), Inv X pins σ H s → (∀ b ∈ fp, FpOk X pins H b) → tn i s.heap → J.stop i H →
    wpAny (model P w) X.A (pyNext (.ref it)) (fun r s1 => r = none ∧ Inv X pins σ H s1) E s
  self : ∀ (A : Around) (i : Nat) (s : Shared) (Q : Value → Shared → Prop) (E : Value → Shared → Prop), tn i s.heap → Q (.ref it) s → wpAny (model P w) A (pyIter (.ref it)) Q E s
noncomputable abbrev TI := St → Hp → (It → Hp → Prop) → Prop
noncomputable def PIE (X : Cx) (pins : List (Addr × Obj)) (σ : St) (tg : Expr) (R : It → Hp → Prop) (itv : Value) (s2 : Shared) : Prop :=
  ∃ (it : Addr) (fp : List Addr) (tn : Nat → Heap → Prop) (J : It) (H' : Hp), itv = .ref it ∧ Inv X pins σ H' s2 ∧ Turn X.prog X.w X.K tg J fp it tn ∧ tn 0 s2.heap ∧ (∀ b ∈ fp, FpOk X pins H' b) ∧ R J H'
noncomputable def PI (X : Cx) (tg iter : Expr) (wi : TI) : Prop :=
  ∀ (pins : List (Addr × Obj)) (s : Shared) (σ : St) (H : Hp) (R : It → Hp → Prop), Inv X pins σ H s → wi σ H R →
    wpAny (model X.prog X.w) X.A (eval iter X.env) (fun v s1 => wpAny (model X.prog X.w) X.A (pyIter v) (PIE X pins σ tg R) X.xe s1) X.xe s
theorem go_of {M : Model} {A : Around} {E : Value → Shared → Prop} {s : Shared} {tg : Expr} {it : Addr} {u : Value} {o : Obj} {n : String} {vs : Array Value} {Q : Unit → Shared → Prop} (ho : s.heap.get? it = some o) (hc : o.cls = .type n) (hd : o.data = .fields vs)
    (hn : ["enumerate", "zip", "dict_itemiterator", "dict_reverseitemiterator", "odict_iterator", "itertools.zip_longest", "itertools.pairwise"].contains n = false) (hQ : Q () s) : wpAny M A (letOwnedTupleGo tg (.ref it) u) Q E s := by
  unfold letOwnedTupleGo
  cases tg <;> first
    | exact wpAny_pure hQ
    | (cases u <;> first
        | exact wpAny_pure hQ
        | (refine wpAny_bind (wpAny_load ho ?_)
           rw [hc, hd]
           show wpAny M A (if (["enumerate", "zip", "dict_itemiterator", "dict_reverseitemiterator", "odict_iterator", "itertools.zip_longest", "itertools.pairwise"].contains n && vs[0]? == some (rawInt _)) = true then _ else _) Q E s
           rw [if_neg (by intro h; rw [hn, Bool.false_and] at h; cases h)]
           exact wpAny_pure hQ))
noncomputable def Itl (K : PySem.W.Frag) (a : Addr) : It :=
  ⟨fun i H => ∃ xs x, SqL K H a xs ∧ xs[i]? = some x, fun i H x H' => H' = H ∧ ∀ xs, SqL K H a xs → xs[i]? = some x, fun i H => ∃ xs, SqL K H a xs ∧ xs.length ≤ i⟩
noncomputable def Itr (lo : Int) (n : Nat) : It := ⟨fun i _ => i < n, fun i H x H' => H' = H ∧ x = .int (lo + i), fun i _ => n ≤ i⟩
theorem turn_list {P : Program} {w : World} {K : PySem.W.Frag} {tg : Expr} (a it : Addr) : Turn P w K tg (Itl K a) [it] it (fun i h => h.IsListIter it a i) where
  mem := by simp
  obj := fun i h st b hb => by
    have e : b = it := by simpa using hb
    subst e
    obtain ⟨o, e, c, d⟩ := st
    exact ⟨o, e, fun v z => by rw [d] at z; cases z⟩
  keep := fun i h h' st k => st.at fun o e => k it (by simp) o e
  item := by
    intro X hP hw hK hc i pins s σ H E I hf st hg
    subst hP hw hK
    obtain ⟨xs, x, hq, hx⟩ := hg
    obtain ⟨its, rv, p, hz⟩ := I.list hq
    obtain ⟨u, hu, ru⟩ := rv.get hx
    obtain ⟨f0, f1, f2, f3, f4, f5⟩ := hf it (by simp)
    refine wpAny_pyNext_list_item st p.isList (x := u) (by simpa using hu) fun h' st' sb => ?_
    have I1 : Inv X pins σ H { s with heap := h' } := I.turned (t' := s.toks) (fun b o hb e => (sb.2 b hb).trans e) f0 f1 f3 f4 f5
    obtain ⟨o, e, c, d⟩ := id st'
    exact ⟨u, rfl, go_of (s := { s with heap := h' }) e c d (by decide) ⟨x, H, I1, ru, ⟨rfl, fun ys hy => by rw [I.list_inj hy hq]; exact hx⟩, st', fun b hb => (hf b hb).1⟩⟩
  done := by
    intro X hP hw hK hc i pins s σ H E I hf st hg
    subst hP hw hK
    obtain ⟨xs, hq, hx⟩ := hg
    obtain ⟨its, rv, p, hz⟩ := I.list hq
    obtain ⟨f0, f1, f2, f3, f4, f5⟩ := hf it (by simp)
    have hl := rv.length
    exact wpAny_pyNext_list_end (I.ok.hd hc) st p.isList (by simp; omega) fun h' eb => ⟨rfl, I.turned (t' := s.toks) (fun b o hb e => eb b o hb e) f0 f1 f3 f4 f5⟩
  self := fun _ _ _ _ _ st h => wpAny_pyIter_listiter st h
theorem turn_range {P : Program} {w : World} {K : PySem.W.Frag} {tg : Expr} (it : Addr) (lo : Int) (n : Nat) : Turn P w K tg (Itr lo n) [it] it (fun i h => IsRangeIter h it (lo + (i : Nat) * 1) ((n : Int) - (i : Nat)) 1) where
  mem := by simp
  obj := fun i h st b hb => by
    have e : b = it := by simpa using hb
    subst e
    exact ⟨_, st, fun v z => by
      have z' : Data.fields _ = Data.cell v := z
      cases z'⟩
  keep := fun i h h' st k => k it (by simp) _ st
  item := by
    intro X hP hw hK hc i pins s σ H E I hf st hg
    subst hP hw hK
    obtain ⟨f0, f1, f2, f3, f4, f5⟩ := hf it (by simp)
    have W := Walks.range (prog := X.prog) (w := X.w) (I.ok.hd hc) it lo 1 n
    refine W.item i s _ _ hg st fun v h' tk hv st' kk => ?_
    obtain ⟨t, rfl⟩ := hv
    have I1 : Inv X pins σ H { s with heap := h', toks := tk } := I.turned (fun b o hb e => kk b o (by simpa using hb) e) f0 f1 f3 f4 f5
    refine ⟨_, rfl, go_of (s := { s with heap := h', toks := tk }) (n := "range_iterator") st' rfl rfl (by decide) ⟨.int (lo + i), H, I1, ⟨t, ?_⟩, ⟨rfl, rfl⟩, st', fun b hb => (hf b hb).1⟩⟩
    rw [Int.mul_one]
  done := by
    intro X hP hw hK hc i pins s σ H E I hf st hg
    subst hP hw hK
    obtain ⟨f0, f1, f2, f3, f4, f5⟩ := hf it (by simp)
    exact wpAny_pyNext_range_end (I.ok.hd hc) st (by have : n ≤ i := hg; omega) fun h' eb => ⟨rfl, I.turned (t' := s.toks) (fun b o hb e => eb b o hb e) f0 f1 f3 f4 f5⟩
  self := fun _ _ _ _ _ st h => wpAny_pyIter_rangeiter st h
end L2
namespace L2
open PySem PySem.Spec PyProof.Rows
section
variable {X : Cx} {tg : Expr}
inductive IIList (K : PySem.W.Frag) (x : V) (H1 : Hp) (R : It → Hp → Prop) : Prop
  | mk (a : _) : x = .ref a → ((∃ xs, SqL K H1 a xs)) → R (Itl K a) H1 → IIList K x H1 R
noncomputable def iList (K : PySem.W.Frag) (tl : TE) : TI := fun σ H R => tl σ H fun x H1 => IIList K x H1 R
theorem pi_list {l : Expr} {tl : TE} (hl : PE X l tl) : PI X tg l (iList X.K tl) := by
  intro pins s σ H R I h
  refine thn (hl pins s σ H _ I h) fun v s1 ⟨x, H1, I1, r1, q1⟩ => ?_
  obtain ⟨a, e, ⟨xs, hq⟩, q⟩ := q1
  subst e
  cases r1
  obtain ⟨its, rv, p, hz⟩ := I1.list hq
  refine wpAny_pyIter_list p.isList ?_
  refine ⟨s1.heap.objs.size, [s1.heap.objs.size], _, _, H1, rfl, I1.kept (t' := s1.toks) fun b o e => Heap.get?_push_of_some _ e, turn_list a _, ⟨_, Heap.get?_push_size _ rfl, rfl, rfl⟩, fun b hb => ?_, q⟩
  have e : b = s1.heap.objs.size := by simpa using hb
  subst e
  exact I1.fpOk (Nat.le_refl _) (I1.hok.fresh (Nat.le_refl _))
theorem range_it {pins : List (Addr × Obj)} {σ : St} {H : Hp} {s : Shared} {R : It → Hp → Prop} {E : Value → Shared → Prop} {lo hi : Int} {t u v : Tok} {tk : Nat} (I : Inv X pins σ H s) (h1 : -(2 ^ 62) ≤ lo) (h2 : lo < 2 ^ 62) (h3 : -(2 ^ 62) ≤ hi) (h4 : hi < 2 ^ 62)
    (q : R (Itr lo (hi - lo).toNat) H) : wpAny (model X.prog X.w) X.A (pyIter (.ref s.heap.objs.size)) (PIE X pins σ tg R) E { s with heap := s.heap.push { cls := .type "range", data := .fields #[.int lo t, .int hi u, .int 1 v] }, toks := tk } := by
  refine wpAny_pyIter_range (IsRange.new ..) (small_one h1 h2 h3 h4) ?_
  have I1 : Inv X pins σ H { s with heap := s.heap.push { cls := .type "range", data := .fields #[.int lo t, .int hi u, .int 1 v] }, toks := tk } := I.kept fun b o e => Heap.get?_push_of_some _ e
  refine ⟨(s.heap.push { cls := .type "range", data := .fields #[.int lo t, .int hi u, .int 1 v] }).objs.size, [(s.heap.push { cls := .type "range", data := .fields #[.int lo t, .int hi u, .int 1 v] }).objs.size], _, _, H, rfl,
    I1.kept (t' := tk) fun b o e => Heap.get?_push_of_some _ e, turn_range _ lo (hi - lo).toNat, ?_, fun b hb => ?_, q⟩
  · have e1 : lo + ((0 : Nat) : Int) * 1 = lo := by simp
    have e2 : (((hi - lo).toNat : Nat) : Int) - ((0 : Nat) : Int) = Builtin.Range.rangeSize lo hi 1 := by rw [rangeSize_one]; split <;> omega
    show IsRangeIter _ _ (lo + ((0 : Nat) : Int) * 1) ((((hi - lo).toNat : Nat) : Int) - ((0 : Nat) : Int)) 1
    rw [e1, e2]
    exact Heap.get?_push_size _ rfl
  · have e : b = (s.heap.push { cls := .type "range", data := .fields #[.int lo t, .int hi u, .int 1 v] }).objs.size := by simpa using hb
    subst e
    exact I1.fpOk (Nat.le_refl _) (I1.hok.fresh (Nat.le_refl _))
inductive IIRng1 (vs : List V) (H1 : Hp) (R : It → Hp → Prop) : Prop
  | mk (j : Int) : vs = [.int j] → -(2 ^ 62) ≤ j → j < 2 ^ 62 → R (Itr 0 j.toNat) H1 → IIRng1 vs H1 R
noncomputable def iRng1 (ta : TA) : TI := fun σ H R => ta σ H fun vs H1 => IIRng1 vs H1 R
inductive IIRng2 (vs : List V) (H1 : Hp) (R : It → Hp → Prop) : Prop
  | mk (i j : Int) : vs = [.int i, .int j] → (-(2 ^ 62) ≤ i ∧ i < 2 ^ 62 ∧ -(2 ^ 62) ≤ j ∧ j < 2 ^ 62) → R (Itr i (j - i).toNat) H1 → IIRng2 vs H1 R
noncomputable def iRng2 (ta : TA) : TI := fun σ H R => ta σ H fun vs H1 => IIRng2 vs H1 R
theorem pi_range1 {a : Expr} {ta : TA} {p pos : Pos} (hg : Gl X "range") (hm : X.mg "range" = none) (ha : PA X [a] ta) (hs : starEach [a] X.env = [(false, eval a X.env)] := by rfl) : PI X tg (.Call (.Name "range" p) [a] [] pos) (iRng1 ta) := by
  intro pins s σ H R I h
  refine Call_ (ld_blt I hg hm boot_range (PyProof.Rows.callWith_type1 (thn (ha pos pins s σ H _ I h) fun us s1 ⟨vs, H1, I1, r1, q1⟩ => ?_) hs rfl))
  obtain ⟨j, e, q1, q2, q⟩ := q1
  subst e
  cases r1 with
  | cons r rr =>
    cases rr
    obtain ⟨t, rfl⟩ := r
    exact call_range_1 (range_it I1 (by omega) (by omega) q1 q2 (by simpa using q))
theorem pi_range2 {a b : Expr} {ta : TA} {p pos : Pos} (hg : Gl X "range") (hm : X.mg "range" = none) (ha : PA X [a, b] ta) (hs : starEach [a, b] X.env = [(false, eval a X.env), (false, eval b X.env)] := by rfl) (hs2 : starEach [b] X.env = [(false, eval b X.env)] := by rfl) :
    PI X tg (.Call (.Name "range" p) [a, b] [] pos) (iRng2 ta) := by
  intro pins s σ H R I h
  refine Call_ (ld_blt I hg hm boot_range (PyProof.Rows.callWith_type1 (thn (ha pos pins s σ H _ I h) fun us s1 ⟨vs, H1, I1, r1, q1⟩ => ?_) (by rw [hs, hs2]) (by rw [hs2]; rfl)))
  obtain ⟨i, j, e, ⟨q1, q2, q3, q4⟩, q⟩ := q1
  subst e
  cases r1 with
  | cons r rr =>
    cases rr with
    | cons r' rr =>
      cases rr
      obtain ⟨t, rfl⟩ := r
      obtain ⟨t', rfl⟩ := r'
      exact call_range_2 (range_it I1 q1 q2 q3 q4 q)

noncomputable def tFor (wi : TI) (g : TG) (tb : TS) : TS := fun D σ H => wi σ H fun J H1 => ∃ W : Nat → Nat → St → Hp → Prop, (∃ m, W 0 m σ H1) ∧ ∀ i m σ H, W i m σ H →
  (J.stop i H ∧ D.nx σ H) ∨ (J.go i H ∧ ∃ N : St → Hp → Prop, (∀ σ' H', N σ' H' → ∃ m', m' < m ∧ W (i + 1) m' σ' H') ∧ ∀ x H', J.yld i H x H' → g x σ H' fun σ2 H2 => tb { D with nx := N, ct := N, bk := D.nx } σ2 H2)
noncomputable def pinsAt (fp : List Addr) (h : Heap) : List (Addr × Obj) := fp.filterMap fun b => (h.get? b).map fun o => (b, o)
theorem mem_pinsAt {fp : List Addr} {h : Heap} {b : Addr} {o : Obj} (hb : b ∈ fp) (e : h.get? b = some o) : (b, o) ∈ pinsAt fp h := List.mem_filterMap.mpr ⟨b, hb, by rw [e]; rfl⟩
theorem of_pinsAt {fp : List Addr} {h : Heap} {p : Addr × Obj} (hp : p ∈ pinsAt fp h) : p.1 ∈ fp ∧ h.get? p.1 = some p.2 := by
  obtain ⟨b, hb, e⟩ := List.mem_filterMap.mp hp
  cases q : h.get? b with
  | none => rw [q] at e; cases e
  | some o =>
    rw [q] at e
    have e' : (b, o) = p := Option.some.inj e
    subst e'
    exact ⟨hb, q⟩
theorem Inv.pinned {pins : List (Addr × Obj)} {σ : St} {H : Hp} {s : Shared} {fp : List Addr} (I : Inv X pins σ H s) (hf : ∀ b ∈ fp, FpOk X pins H b) (ho : ∀ b ∈ fp, ∃ o, s.heap.get? b = some o ∧ ∀ v, o.data ≠ .cell v) : Inv X (pins ++ pinsAt fp s.heap) σ H s :=
  I.pins_of fun p hp => (List.mem_append.mp hp).elim (fun z => I.pin p (List.mem_append_right _ z)) fun z => by
    obtain ⟨hb, e⟩ := of_pinsAt z
    obtain ⟨f0, f1, f2, _⟩ := hf p.1 hb
    obtain ⟨o, e', d⟩ := ho p.1 hb
    rw [e] at e'; cases e'
    exact ⟨e, f0, f1, f2, d⟩
theorem Inv.unpinned {pins pl : List (Addr × Obj)} {σ : St} {H : Hp} {s : Shared} (I : Inv X (pins ++ pl) σ H s) : Inv X pins σ H s := I.pins_of fun p hp => I.pin p (List.mem_append_right _ (List.mem_append_left _ hp))
theorem ps_for {iter : Expr} {body : List Stmt} {wi : TI} {g : TG} {tb : TS} {pos : Pos} (hp : PassesOwn (model X.prog X.w) X.A X.env X.xe) (hc : X.calm = true) (hi : PI X tg iter wi) (hg : PG X tg g) (hb : PSs X body tb)
    (hs : ∀ x, foldedSetIterable iter X.env x = pure x := by intro _; rfl) : PS X (.For tg iter body [] pos) (tFor wi g tb) := by
  intro pins s σ H D I h
  refine wpAny_For (thn (hi pins s σ H _ I h) fun v s1 h1 => thn h1 fun itv s2 h2 => ?_) hs
  obtain ⟨it, fp, tn, J, H2, e, I2, T, st2, f2, W, ⟨m0, w0⟩, turn⟩ := h2
  subst e
  -- what stays true of the iterator's objects through the loop
  have stat : ∀ {H' : Hp}, (∀ b ∈ fp, H' b = none) → ∀ b ∈ fp, FpOk X pins H' b := fun hn b hb => ⟨hn b hb, (f2 b hb).2⟩
  refine codeAny_forLoop_any (fun n s' => ∃ i σ' H', Inv X pins σ' H' s' ∧ tn i s'.heap ∧ (∀ b ∈ fp, H' b = none) ∧ W i n σ' H') ?_ m0 ⟨0, σ, H2, I2, st2, fun b hb => (f2 b hb).1, w0⟩
  rintro n s3 ⟨i, σ3, H3, I3, st3, fr3, w3⟩
  rcases turn i n σ3 H3 w3 with ⟨stop, qn⟩ | ⟨go, N, hN, step⟩
  · refine wpAny_passesOwn hp (thn (T.done X rfl rfl rfl hc i pins s3 σ3 H3 X.xe I3 (stat fr3) st3 stop) fun r s4 ⟨hr, I4⟩ => ?_)
    subst hr
    exact wpAny_execs_nil ⟨σ3, H3, I4, qn⟩
  · refine wpAny_passesOwn hp (thn (T.item X rfl rfl rfl hc i pins s3 σ3 H3 X.xe I3 (stat fr3) st3 go) fun r s4 ⟨u, hr, h4⟩ => ?_)
    subst hr
    refine wpAny_passesOwn hp (thn h4 fun _ s5 ⟨x, H5, I5, r5, y5, st5, fr5⟩ => ?_)
    have I5' := I5.pinned (stat fr5) (T.obj _ _ st5)
    refine wpAny_passesOwn hp (thn (hg _ s5 σ3 H5 x u _ I5' r5 (step x H5 y5)) fun _ s6 ⟨σ6, H6, I6, q6⟩ => ?_)
    refine wpAny_passesOwn hp (thn (hb _ s6 σ6 H6 _ I6 q6) fun f s7 q7 => ?_)
    have again : ∀ {σ7 : St} {H7 : Hp}, Inv X (pins ++ pinsAt fp s5.heap) σ7 H7 s7 → N σ7 H7 → ∃ m, m < n ∧ ∃ i σ' H', Inv X pins σ' H' s7 ∧ tn i s7.heap ∧ (∀ b ∈ fp, H' b = none) ∧ W i m σ' H' := fun {σ7 H7} I7 n7 => by
      obtain ⟨m', hm, w7⟩ := hN σ7 H7 n7
      refine ⟨m', hm, i + 1, σ7, H7, I7.unpinned, T.keep _ _ _ st5 fun b hb o e => (I7.pin (b, o) (List.mem_append_right _ (List.mem_append_right _ (mem_pinsAt hb e)))).1, fun b hb => ?_, w7⟩
      obtain ⟨o, e, d⟩ := T.obj _ _ st5 b hb
      exact (I7.pin (b, o) (List.mem_append_right _ (List.mem_append_right _ (mem_pinsAt hb e)))).2.1
    cases f with
    | next => obtain ⟨σ7, H7, I7, n7⟩ := q7; exact again I7 n7
    | cont => obtain ⟨σ7, H7, I7, n7⟩ := q7; exact again I7 n7
    | brk => obtain ⟨σ7, H7, I7, q7⟩ := q7; exact ⟨σ7, H7, I7.unpinned, q7⟩
    | ret v => obtain ⟨x7, σ7, H7, I7, r7, q7⟩ := q7; exact ⟨x7, σ7, H7, I7.unpinned, r7, q7⟩
end

theorem for_list {K : PySem.W.Frag} {a : Addr} {xs : List V} {g : TG} {tb : TS} {D : Ends} {σ : St} {H : Hp} (Pv : Nat → St → Hp → Prop) (h0 : Pv 0 σ H) (hl : ∀ i σ H, i ≤ xs.length → Pv i σ H → SqL K H a xs)
    (hs : ∀ i x σ H, xs[i]? = some x → Pv i σ H → g x σ H fun σ2 H2 => tb { D with nx := Pv (i + 1), ct := Pv (i + 1), bk := D.nx } σ2 H2) (hd : ∀ σ H, Pv xs.length σ H → D.nx σ H) :
    ∃ W : Nat → Nat → St → Hp → Prop, (∃ m, W 0 m σ H) ∧ ∀ i m σ H, W i m σ H →
      ((Itl K a).stop i H ∧ D.nx σ H) ∨ ((Itl K a).go i H ∧ ∃ N : St → Hp → Prop, (∀ σ' H', N σ' H' → ∃ m', m' < m ∧ W (i + 1) m' σ' H') ∧ ∀ x H', (Itl K a).yld i H x H' → g x σ H' fun σ2 H2 => tb { D with nx := N, ct := N, bk := D.nx } σ2 H2) := by
  refine ⟨fun i m σ H => m = xs.length - i ∧ i ≤ xs.length ∧ Pv i σ H, ⟨xs.length, by simp, Nat.zero_le _, h0⟩, ?_⟩
  rintro i m σ H ⟨rfl, hi, p⟩
  have q := hl i σ H hi p
  by_cases hlt : i < xs.length
  · refine .inr ⟨⟨xs, xs[i], q, by simp [hlt]⟩, Pv (i + 1), fun σ' H' p' => ⟨xs.length - (i + 1), by omega, rfl, hlt, p'⟩, fun x H' y => ?_⟩
    obtain ⟨e, y⟩ := y
    subst e
    exact hs i x σ _ (y xs q) p
  · have e : i = xs.length := by omega
    subst e
    exact .inl ⟨⟨xs, q, Nat.le_refl _⟩, hd σ H p⟩
theorem for_range {lo : Int} {n : Nat} {g : TG} {tb : TS} {D : Ends} {σ : St} {H : Hp} (Pv : Nat → St → Hp → Prop) (h0 : Pv 0 σ H)
    (hs : ∀ i σ H, i < n → Pv i σ H → g (.int (lo + i)) σ H fun σ2 H2 => tb { D with nx := Pv (i + 1), ct := Pv (i + 1), bk := D.nx } σ2 H2) (hd : ∀ σ H, Pv n σ H → D.nx σ H) :
    ∃ W : Nat → Nat → St → Hp → Prop, (∃ m, W 0 m σ H) ∧ ∀ i m σ H, W i m σ H →
      ((Itr lo n).stop i H ∧ D.nx σ H) ∨ ((Itr lo n).go i H ∧ ∃ N : St → Hp → Prop, (∀ σ' H', N σ' H' → ∃ m', m' < m ∧ W (i + 1) m' σ' H') ∧ ∀ x H', (Itr lo n).yld i H x H' → g x σ H' fun σ2 H2 => tb { D with nx := N, ct := N, bk := D.nx } σ2 H2) := by
  refine ⟨fun i m σ H => m = n - i ∧ i ≤ n ∧ Pv i σ H, ⟨n, by simp, Nat.zero_le _, h0⟩, ?_⟩
  rintro i m σ H ⟨rfl, hi, p⟩
  by_cases hlt : i < n
  · refine .inr ⟨hlt, Pv (i + 1), fun σ' H' p' => ⟨n - (i + 1), by omega, rfl, hlt, p'⟩, fun x H' y => ?_⟩
    obtain ⟨e, y⟩ := y
    subst e y
    exact hs i σ _ hlt p
  · have e : i = n := by omega
    subst e
    exact .inl ⟨Nat.le_refl _, hd σ H p⟩
end L2
namespace L2
open PySem PySem.Spec PyProof.Rows
noncomputable abbrev R2 := V → V → Hp → VK → Prop
noncomputable def OpR (X : Cx) (f : Value → Value → Sem Value) (r : R2) : Prop :=
  ∀ (pins : List (Addr × Obj)) (s : Shared) (σ : St) (H : Hp) (x y : V) (v u : Value) (Q : VK), Inv X pins σ H s → RelV x v → RelV y u → r x y H Q →
    wpAny (model X.prog X.w) X.A (f v u) (EP X pins σ Q) X.xe s
noncomputable def UnR (X : Cx) (f : Value → Sem Value) (r : V → Hp → VK → Prop) : Prop :=
  ∀ (pins : List (Addr × Obj)) (s : Shared) (σ : St) (H : Hp) (x : V) (v : Value) (Q : VK), Inv X pins σ H s → RelV x v → r x H Q →
    wpAny (model X.prog X.w) X.A (f v) (EP X pins σ Q) X.xe s
noncomputable def CallR (X : Cx) (f : Value) (r : List V → Hp → VK → Prop) : Prop :=
  ∀ (pins : List (Addr × Obj)) (s : Shared) (σ : St) (H : Hp) (xs : List V) (us : List Value) (Q : VK), Inv X pins σ H s → Vals xs us → r xs H Q →
    wpAny (model X.prog X.w) X.A (call f us) (EP X pins σ Q) X.xe s
noncomputable def TruR (X : Cx) (r : V → Hp → (Bool → Hp → Prop) → Prop) : Prop :=
  ∀ (pins : List (Addr × Obj)) (s : Shared) (σ : St) (H : Hp) (x : V) (v : Value) (Q : Bool → Hp → Prop), Inv X pins σ H s → RelV x v → r x H Q →
    wpAny (model X.prog X.w) X.A (truthy v) (TP X pins σ Q) X.xe s
noncomputable def tOp (r : R2) (ta tb : TE) : TE := fun σ H Q => ta σ H fun x H1 => tb σ H1 fun y H2 => r x y H2 Q
noncomputable def tUn (r : V → Hp → VK → Prop) (ta : TE) : TE := fun σ H Q => ta σ H fun x H1 => r x H1 Q
inductive IRI (C : Int → Int → Prop) (g : Int → Int → V) (x y : V) (H : Hp) (Q : VK) : Prop
  | mk (i : _) (j : _) : x = .int i → y = .int j → C i j → Q (g i j) H → IRI C g x y H Q
noncomputable def rI (C : Int → Int → Prop) (g : Int → Int → V) : R2 := fun x y H Q => IRI C g x y H Q
inductive IRI0 (g : Int → Int → V) (x y : V) (H : Hp) (Q : VK) : Prop
  | mk (i : _) (j : _) : x = .int i → y = .int j → Q (g i j) H → IRI0 g x y H Q
noncomputable def rI0 (g : Int → Int → V) : R2 := fun x y H Q => IRI0 g x y H Q
inductive IRU (g : Int → V) (x : V) (H : Hp) (Q : VK) : Prop
  | mk (i : _) : x = .int i → Q (g i) H → IRU g x H Q
noncomputable def rU (g : Int → V) : V → Hp → VK → Prop := fun x H Q => IRU g x H Q
section
variable {X : Cx} {a b c : Expr} {ta tb tc : TE} {pos : Pos}
theorem binT (ha : PE X a ta) (hb : PE X b tb) {pins : List (Addr × Obj)} {s : Shared} {σ : St} {H : Hp} {R : V → V → Hp → Prop} (I : Inv X pins σ H s)
    (h : ta σ H fun x H1 => tb σ H1 fun y H2 => R x y H2) {Q : Value → Shared → Prop} {f : Value → Value → Sem Value}
    (hf : ∀ v u s2 x y H2, Inv X pins σ H2 s2 → RelV x v → RelV y u → R x y H2 → wpAny (model X.prog X.w) X.A (f v u) Q X.xe s2) :
    wpAny (model X.prog X.w) X.A (eval a X.env) (fun v s₁ => wpAny (model X.prog X.w) X.A (eval b X.env) (fun u s₂ => wpAny (model X.prog X.w) X.A (f v u) Q X.xe s₂) X.xe s₁) X.xe s := by
  refine thn (ha pins s σ H _ I h) fun v s1 ⟨x, H1, I1, r1, q1⟩ => ?_
  refine thn (hb pins s1 σ H1 _ I1 q1) fun u s2 ⟨y, H2, I2, r2, q2⟩ => ?_
  exact hf v u s2 x y H2 I2 r1 r2 q2
theorem pe_op {op : Operator} {r : R2} (ho : OpR X (binaryOp op) r) (ha : PE X a ta) (hb : PE X b tb) : PE X (.BinOp a op b pos) (tOp r ta tb) := by
  intro pins s σ H Q I h
  exact wpAny_BinOp (binT ha hb I h fun v u s2 x y H2 I2 rx ry q => ho pins s2 σ H2 x y v u Q I2 rx ry q)
theorem pe_un {op : UnaryOp} {r : V → Hp → VK → Prop} (ho : UnR X (unaryOp op) r) (ha : PE X a ta) : PE X (.UnaryOp op a pos) (tUn r ta) := by
  intro pins s σ H Q I h
  exact UnaryOp_ (thn (ha pins s σ H _ I h) fun v s1 ⟨x, H1, I1, r1, q1⟩ => ho pins s1 σ H1 x v Q I1 r1 q1)

theorem opI {f : Value → Value → Sem Value} {C : Int → Int → Prop} {g : Int → Int → Int}
    (rule : ∀ (i j : Int) (t u : Tok) (s : Shared) (Q : Value → Shared → Prop) (E : Value → Shared → Prop), C i j → Q (.int (g i j) s.toks) { s with toks := s.toks + 1 } → wpAny (model X.prog X.w) X.A (f (.int i t) (.int j u)) Q E s) :
    OpR X f (rI C fun i j => .int (g i j)) := by
  intro pins s σ H x y v u Q I rx ry h
  obtain ⟨i, j, rfl, rfl, hc, q⟩ := h
  obtain ⟨t, rfl⟩ := rx
  obtain ⟨t', rfl⟩ := ry
  exact rule i j t t' s _ _ hc ⟨.int (g i j), H, I.tok _, ⟨_, rfl⟩, q⟩
theorem opI0 {f : Value → Value → Sem Value} {g : Int → Int → Int}
    (rule : ∀ (i j : Int) (t u : Tok) (s : Shared) (Q : Value → Shared → Prop) (E : Value → Shared → Prop), Q (.int (g i j) s.toks) { s with toks := s.toks + 1 } → wpAny (model X.prog X.w) X.A (f (.int i t) (.int j u)) Q E s) :
    OpR X f (rI0 fun i j => .int (g i j)) := by
  intro pins s σ H x y v u Q I rx ry h
  obtain ⟨i, j, rfl, rfl, q⟩ := h
  obtain ⟨t, rfl⟩ := rx
  obtain ⟨t', rfl⟩ := ry
  exact rule i j t t' s _ _ ⟨.int (g i j), H, I.tok _, ⟨_, rfl⟩, q⟩
theorem opB0 {f : Value → Value → Sem Value} {g : Int → Int → Bool}
    (rule : ∀ (i j : Int) (t u : Tok) (s : Shared) (Q : Value → Shared → Prop) (E : Value → Shared → Prop), Q (.bool (g i j)) s → wpAny (model X.prog X.w) X.A (f (.int i t) (.int j u)) Q E s) :
    OpR X f (rI0 fun i j => .bl (g i j)) := by
  intro pins s σ H x y v u Q I rx ry h
  obtain ⟨i, j, rfl, rfl, q⟩ := h
  obtain ⟨t, rfl⟩ := rx
  obtain ⟨t', rfl⟩ := ry
  exact rule i j t t' s _ _ ⟨.bl (g i j), H, I, rfl, q⟩
noncomputable def CDiv (i j : Int) : Prop := 0 < j ∧ j < 1073741824
noncomputable def CMul (i j : Int) : Prop := (-(2 ^ 64) < i ∧ i < 2 ^ 64) ∨ (-(2 ^ 64) < j ∧ j < 2 ^ 64)
theorem CMul.ok {i j : Int} (h : CMul i j) : IntMulOk i j := by
  rcases h with ⟨h1, h2⟩ | ⟨h1, h2⟩
  · exact .of_left (intBits_le_64 h1 h2)
  · exact .of_right (intBits_le_64 h1 h2)
theorem op_add : OpR X (binaryOp .Add) (rI0 fun i j => .int (i + j)) := opI0 fun _ _ _ _ _ _ _ q => add_int q
theorem op_mul : OpR X (binaryOp .Mult) (rI CMul fun i j => .int (i * j)) := opI fun _ _ _ _ _ _ _ hc q => mul_int q hc.ok
theorem op_fdiv : OpR X (binaryOp .FloorDiv) (rI CDiv fun i j => .int (i / j)) := opI fun i j _ _ _ _ _ hc q => by
  have h1 : (0 : Int) < j := hc.1
  have h2 : j < 1073741824 := hc.2
  exact floordiv_int (by omega) (by rw [Int.fdiv_eq_ediv_of_nonneg i (by omega)]; exact q) (.inl (PyProof.noPylong_small (by omega)))
theorem op_mod : OpR X (binaryOp .Mod) (rI (fun _ j => 0 < j) fun i j => .int (i % j)) := opI fun i j _ _ _ _ _ hc q => by
  have h1 : (0 : Int) < j := hc
  exact mod_int' (by omega) (by rw [Int.fmod_eq_emod_of_nonneg i (by omega)]; exact q)
theorem unI {f : Value → Sem Value} {g : Int → Int}
    (rule : ∀ (i : Int) (t : Tok) (s : Shared) (Q : Value → Shared → Prop) (E : Value → Shared → Prop), Q (.int (g i) s.toks) { s with toks := s.toks + 1 } → wpAny (model X.prog X.w) X.A (f (.int i t)) Q E s) :
    UnR X f (rU fun i => .int (g i)) := by
  intro pins s σ H x v Q I rx h
  obtain ⟨i, rfl, q⟩ := h
  obtain ⟨t, rfl⟩ := rx
  exact rule i t s _ _ ⟨.int (g i), H, I.tok _, ⟨_, rfl⟩, q⟩
theorem un_neg : UnR X (unaryOp .USub) (rU fun i => .int (-i)) := unI fun _ _ _ _ _ q => neg_int q

end

noncomputable def scal : V → V → Bool
  | .non, .non => true | .non, .int _ => true | .int _, .non => true | .non, .bl _ => true | .bl _, .non => true | .non, .str _ => true | .str _, .non => true
  | .int _, .int _ => true | .bl _, .bl _ => true | .str _, .str _ => true | .byt _, .byt _ => true
  | .int _, .str _ => true | .str _, .int _ => true | .bl _, .str _ => true | .str _, .bl _ => true
  | _, _ => false
noncomputable def rEq : R2 := fun x y H Q => scal x y = true ∧ Q (.bl (decide (x = y))) H
noncomputable def rNe : R2 := fun x y H Q => scal x y = true ∧ Q (.bl (!decide (x = y))) H
theorem dec_int {i j : Int} : decide (V.int i = V.int j) = (i == j) := by
  rw [Bool.eq_iff_iff]
  simp
theorem dec_bl {i j : Bool} : decide (V.bl i = V.bl j) = (i == j) := by
  rw [Bool.eq_iff_iff]
  simp
theorem dec_str {i j : Str} : decide (V.str i = V.str j) = (i == j) := by
  rw [Bool.eq_iff_iff]
  simp
theorem dec_byt {i j : Array UInt8} : decide (V.byt i = V.byt j) = (i.toList == j.toList) := by
  rw [Bool.eq_iff_iff]
  cases i
  cases j
  simp
section
variable {X : Cx} {a b c : Expr} {ta tb tc : TE} {pos : Pos}
theorem fin_bl {pins : List (Addr × Obj)} {σ : St} {H : Hp} {s : Shared} {Q : VK} {k k' : Bool} (I : Inv X pins σ H s) (q : Q (.bl k) H) (e : k = k') : EP X pins σ Q (.bool k') s := by
  subst e
  exact ⟨.bl k, H, I, rfl, q⟩
theorem op_eq : OpR X (compareOp .Eq) rEq := by
  intro pins s σ H x y v u Q I rx ry h
  obtain ⟨hs, q⟩ := h
  cases x with
  | non =>
    cases rx
    cases y with
    | non => cases ry; exact PySem.EqNone.eq_none_none (fin_bl I q (by simp))
    | bl j => cases ry; exact PySem.EqNone.eq_none_bool (fin_bl I q (by simp))
    | int j => obtain ⟨t', rfl⟩ := ry; exact PySem.EqNone.eq_none_int (fin_bl I q (by simp))
    | str j => obtain ⟨t', rfl⟩ := ry; exact PySem.EqNone.eq_none_str (fin_bl I q (by simp))
    | _ => exact absurd (show false = true from hs) Bool.false_ne_true
  | bl i =>
    cases rx
    cases y with
    | non => cases ry; exact PySem.EqNone.eq_bool_none (fin_bl I q (by simp))
    | bl j => cases ry; exact eq_bool (fin_bl I q dec_bl)
    | str j => obtain ⟨t', rfl⟩ := ry; exact PySem.EqMixed.eq_bool_str (fin_bl I q (by simp))
    | _ => exact absurd (show false = true from hs) Bool.false_ne_true
  | int i =>
    obtain ⟨t, rfl⟩ := rx
    cases y with
    | non => cases ry; exact PySem.EqNone.eq_int_none (fin_bl I q (by simp))
    | int j => obtain ⟨t', rfl⟩ := ry; exact eq_int (fin_bl I q dec_int)
    | str j => obtain ⟨t', rfl⟩ := ry; exact PySem.EqMixed.eq_int_str (fin_bl I q (by simp))
    | _ => exact absurd (show false = true from hs) Bool.false_ne_true
  | str i =>
    obtain ⟨t, rfl⟩ := rx
    cases y with
    | non => cases ry; exact PySem.EqNone.eq_str_none (fin_bl I q (by simp))
    | bl j => cases ry; exact PySem.EqMixed.eq_str_bool (fin_bl I q (by simp))
    | int j => obtain ⟨t', rfl⟩ := ry; exact PySem.EqMixed.eq_str_int (fin_bl I q (by simp))
    | str j => obtain ⟨t', rfl⟩ := ry; exact eq_str (fin_bl I q dec_str)
    | _ => exact absurd (show false = true from hs) Bool.false_ne_true
  | byt i =>
    obtain ⟨t, rfl⟩ := rx
    cases y with
    | byt j => obtain ⟨t', rfl⟩ := ry; exact PySem.W.eq_bytes (fin_bl I q dec_byt)
    | _ => exact absurd (show false = true from hs) Bool.false_ne_true
  | _ => cases y <;> exact absurd (show false = true from hs) Bool.false_ne_true
theorem op_ne : OpR X (compareOp .NotEq) rNe := by
  intro pins s σ H x y v u Q I rx ry h
  obtain ⟨hs, q⟩ := h
  cases x with
  | non =>
    cases rx
    cases y with
    | non => cases ry; exact PySem.EqNone.ne_none_none (fin_bl I q (by simp))
    | bl j => cases ry; exact PySem.EqNone.ne_none_bool (fin_bl I q (by simp))
    | int j => obtain ⟨t', rfl⟩ := ry; exact PySem.EqNone.ne_none_int (fin_bl I q (by simp))
    | str j => obtain ⟨t', rfl⟩ := ry; exact PySem.EqNone.ne_none_str (fin_bl I q (by simp))
    | _ => exact absurd (show false = true from hs) Bool.false_ne_true
  | bl i =>
    cases rx
    cases y with
    | non => cases ry; exact PySem.EqNone.ne_bool_none (fin_bl I q (by simp))
    | bl j => cases ry; exact ne_bool (fin_bl I q (congrArg not dec_bl))
    | str j => obtain ⟨t', rfl⟩ := ry; exact PySem.EqMixed.ne_bool_str (fin_bl I q (by simp))
    | _ => exact absurd (show false = true from hs) Bool.false_ne_true
  | int i =>
    obtain ⟨t, rfl⟩ := rx
    cases y with
    | non => cases ry; exact PySem.EqNone.ne_int_none (fin_bl I q (by simp))
    | int j => obtain ⟨t', rfl⟩ := ry; exact ne_int (fin_bl I q (congrArg not dec_int))
    | str j => obtain ⟨t', rfl⟩ := ry; exact PySem.EqMixed.ne_int_str (fin_bl I q (by simp))
    | _ => exact absurd (show false = true from hs) Bool.false_ne_true
  | str i =>
    obtain ⟨t, rfl⟩ := rx
    cases y with
    | non => cases ry; exact PySem.EqNone.ne_str_none (fin_bl I q (by simp))
    | bl j => cases ry; exact PySem.EqMixed.ne_str_bool (fin_bl I q (by simp))
    | int j => obtain ⟨t', rfl⟩ := ry; exact PySem.EqMixed.ne_str_int (fin_bl I q (by simp))
    | str j => obtain ⟨t', rfl⟩ := ry; exact ne_str (fin_bl I q (congrArg not dec_str))
    | _ => exact absurd (show false = true from hs) Bool.false_ne_true
  | byt i =>
    obtain ⟨t, rfl⟩ := rx
    cases y with
    | byt j => obtain ⟨t', rfl⟩ := ry; exact PySem.W.ne_bytes (fin_bl I q (congrArg not dec_byt))
    | _ => exact absurd (show false = true from hs) Bool.false_ne_true
  | _ => cases y <;> exact absurd (show false = true from hs) Bool.false_ne_true
theorem op_lt : OpR X (compareOp .Lt) (rI0 fun i j => .bl (decide (i < j))) := opB0 fun _ _ _ _ _ _ _ q => lt_int q
theorem op_le : OpR X (compareOp .LtE) (rI0 fun i j => .bl (decide (i ≤ j))) := opB0 fun _ _ _ _ _ _ _ q => le_int q
theorem op_ge : OpR X (compareOp .GtE) (rI0 fun i j => .bl (decide (j ≤ i))) := opB0 fun _ _ _ _ _ _ _ q => ge_int q
theorem op_isN : OpR X (compareOp .Is) (fun x y H Q => y = .non ∧ Q (.bl (decide (x = .non))) H) := by
  intro pins s σ H x y v u Q I rx ry h
  obtain ⟨rfl, q⟩ := h
  cases ry
  refine is_none_gen (fin_bl I q ?_)
  cases x <;> first
    | (cases rx; rfl)
    | (obtain ⟨t, rfl⟩ := rx; rfl)
theorem nomark (b : Expr) {op : CmpOp} (h : op ≠ .In := by decide) (h2 : op ≠ .NotIn := by decide) : behindInMarks op b = false := by
  have e1 : (op == CmpOp.In) = false := by cases op <;> first | rfl | exact absurd rfl h
  have e2 : (op == CmpOp.NotIn) = false := by cases op <;> first | rfl | exact absurd rfl h2
  cases b <;> simp [behindInMarks, e1, e2]
theorem pe_cmpR {op : CmpOp} {r : R2} (ho : OpR X (compareOp op) r) (ha : PE X a ta) (hb : PE X b tb) (hm : behindInMarks op b = false) : PE X (.Compare a [op] [b] pos) (tOp r ta tb) := by
  intro pins s σ H Q I h
  exact wpAny_Compare1 (binT ha hb I h fun v u s2 x y H2 I2 rx ry q => ho pins s2 σ H2 x y v u Q I2 rx ry q) hm
inductive ITTest (x : V) (H' : Hp) (Q : Bool → Hp → Prop) : Prop
  | mk (k : _) : x = .bl k → Q k H' → ITTest x H' Q
noncomputable def tTest (t : TE) : TT := fun σ H Q => t σ H fun x H' => ITTest x H' Q
theorem pt_cmpR {op : CmpOp} {r : R2} (ho : OpR X (compareOp op) r) (ha : PE X a ta) (hb : PE X b tb) (hm : behindInMarks op b = false) : PT X (.Compare a [op] [b] pos) (tTest (tOp r ta tb)) := by
  intro pins s σ H Q I h
  refine wpAny_isTrue_Compare1 (thn (ha pins s σ H _ I h) fun v s1 ⟨x, H1, I1, r1, q1⟩ => thn (hb pins s1 σ H1 _ I1 q1) fun u s2 ⟨y, H2, I2, r2, q2⟩ =>
    thn (ho pins s2 σ H2 x y v u _ I2 r1 r2 q2) fun c s3 ⟨z, H3, I3, r3, k, e, q3⟩ => ?_) hm
  subst e
  cases r3
  exact wpAny_truthy_bool ⟨H3, I3, q3⟩
noncomputable def tChain (r r' : R2) (ta tb tc : TE) : TE := fun σ H Q => ta σ H fun x H1 => tb σ H1 fun y H2 => r x y H2 fun z H3 => ∃ k, z = .bl k ∧
  (if k = true then tc σ H3 fun w' H4 => r' y w' H4 Q else Q (.bl false) H3)
theorem pe_chain {op op' : CmpOp} {r r' : R2} (ho : OpR X (compareOp op) r) (ho' : OpR X (compareOp op') r') (ha : PE X a ta) (hb : PE X b tb) (hc : PE X c tc)
    (hm : lastMarks [op, op'] [b, c] = false := by with_unfolding_all rfl) : PE X (.Compare a [op, op'] [b, c] pos) (tChain r r' ta tb tc) := by
  intro pins s σ H Q I h
  refine Compare_chain (thn (ha pins s σ H _ I h) fun v s1 ⟨x, H1, I1, r1, q1⟩ => chain_link (thn (hb pins s1 σ H1 _ I1 q1) fun u s2 ⟨y, H2, I2, r2, q2⟩ =>
    thn (ho pins s2 σ H2 x y v u _ I2 r1 r2 q2) fun d s3 ⟨z, H3, I3, r3, k, e, q3⟩ => ?_)) hm
  subst e
  cases r3
  refine wpAny_truthy_bool ?_
  cases k with
  | false => exact ite_ff ⟨.bl false, H3, I3, rfl, q3⟩
  | true => exact ite_tt (chain_last (thn (hc pins s3 σ H3 _ I3 q3) fun w' s4 ⟨z', H4, I4, r4, q4⟩ => ho' pins s4 σ H4 y z' u w' Q I4 r2 r4 q4))

noncomputable def TruV (K : PySem.W.Frag) (x : V) (H : Hp) (k : Bool) : Prop :=
  match x with
  | .non => k = false
  | .bl b => k = b
  | .int i => k = (i != 0)
  | .str y => y.length ≤ sizeLine ∧ k = ((y.length : Int) != 0)
  | .byt y => y.size ≤ sizeLine ∧ k = ((y.size : Int) != 0)
  | .ref p => (∃ xs, SqL K H p xs ∧ k = !xs.isEmpty) ∨ (∃ xs, SqT K H p xs ∧ k = !xs.isEmpty) ∨ ∃ kvs, H p = some (.dK kvs) ∧ k = !kvs.isEmpty
  | _ => False
theorem isEmpty_kv {κ : Type} {kvs : List (κ × V)} {vs : List (κ × Value)} (r : KV kvs vs) : (!vs.isEmpty) = !kvs.isEmpty := by
  cases r <;> rfl
theorem isEmpty_of {xs : List V} {its : List Value} (r : Vals xs its) : (!its.toArray.isEmpty) = !xs.isEmpty := by
  cases r <;> simp
theorem line63 : (sizeLine : Nat) < 2 ^ 63 := by rw [sizeLine_eq]; decide
theorem tru_ok : TruR X (fun x H Q => ∃ k, TruV X.K x H k ∧ Q k H) := by
  intro pins s σ H x v Q I rx h
  obtain ⟨k, e, q⟩ := h
  have hl := line63
  have hs : sizeLine = 16777216 := sizeLine_eq
  cases x with
  | non =>
    cases rx
    have e' : k = false := e
    subst e'
    exact truthy_none ⟨H, I, q⟩
  | bl b =>
    cases rx
    have e' : k = b := e
    subst e'
    exact wpAny_truthy_bool ⟨H, I, q⟩
  | int i =>
    obtain ⟨t, rfl⟩ := rx
    have e' : k = (i != 0) := e
    subst e'
    exact PySem.P.truthy_int ⟨H, I, q⟩
  | str y =>
    obtain ⟨t, rfl⟩ := rx
    obtain ⟨hy, e'⟩ : y.length ≤ sizeLine ∧ k = ((y.length : Int) != 0) := e
    subst e'
    exact PySem.P.truthy_str (by omega) ⟨H, I.tok _, q⟩
  | byt y =>
    obtain ⟨t, rfl⟩ := rx
    obtain ⟨hy, e'⟩ : y.size ≤ sizeLine ∧ k = ((y.size : Int) != 0) := e
    subst e'
    exact PySem.W.truthy_bytes (by omega) ⟨H, I.tok _, q⟩
  | ref p =>
    cases rx
    have e' : (∃ xs, SqL X.K H p xs ∧ k = !xs.isEmpty) ∨ (∃ xs, SqT X.K H p xs ∧ k = !xs.isEmpty) ∨ ∃ kvs, H p = some (.dK kvs) ∧ k = !kvs.isEmpty := e
    rcases e' with ⟨xs, hx, e'⟩ | ⟨xs, hx, e'⟩ | ⟨kvs, hx, e'⟩
    · subst e'
      obtain ⟨its, r, pl, hz⟩ := I.list hx
      have hlen := r.length
      exact wpAny_truthy_list pl.isList (by simp only [List.size_toArray]; omega) ⟨H, I.tok _, by rw [isEmpty_of r]; exact q⟩
    · subst e'
      obtain ⟨its, r, pl, hz⟩ := I.tuple hx
      have hlen := r.length
      exact truthy_tuple pl (by simp only [List.size_toArray]; omega) ⟨H, I.tok _, by rw [isEmpty_of r]; exact q⟩
    · subst e'
      obtain ⟨hz, hS, vs, r, m⟩ : kvs.length ≤ sizeLine ∧ (p == sysModules) = false ∧ ∃ vs, KV kvs vs ∧ s.heap.DictOf (mixKind X.prog X.w) p vs := I.hok p _ hx
      have hlen : kvs.length = vs.length := Paired.length r
      exact wpAny_truthy_dict hS m (by omega) ⟨H, I.tok _, by rw [isEmpty_kv r]; exact q⟩
  | _ => exact (show False from e).elim
theorem pt_truth (ha : PE X a ta) (he : ∀ whole, isTrue a X.env whole = (do let v ← whole; standAt a.pos; holding [v] (truthy v))) :
    PT X a (fun σ H Q => ta σ H fun x H' => ∃ k, TruV X.K x H' k ∧ Q k H') := by
  intro pins s σ H Q I h
  exact isTrue_plain (thn (ha pins s σ H _ I h) fun v s1 ⟨x, H1, I1, r1, q1⟩ => tru_ok pins s1 σ H1 x v Q I1 r1 q1) (he _)

inductive IOp_add_str (x y : V) (H : Hp) (Q : VK) : Prop
  | mk (i : _) (j : _) : x = .str i → y = .str j → i.length + j.length ≤ sizeLine → Q (.str (i ++ j)) H → IOp_add_str x y H Q
theorem op_add_str : OpR X (binaryOp .Add) IOp_add_str := by
  intro pins s σ H x y v u Q I rx ry h
  obtain ⟨i, j, rfl, rfl, hz, q⟩ := h
  obtain ⟨t, rfl⟩ := rx
  obtain ⟨t', rfl⟩ := ry
  exact add_str (fun t' tk => ⟨.str (i ++ j), H, I.tok _, ⟨_, rfl⟩, q⟩) hz

theorem vals1 {x : V} {us : List Value} (r : Vals [x] us) : ∃ u, us = [u] ∧ RelV x u := by
  cases r with
  | cons r1 r2 => cases r2; exact ⟨_, rfl, r1⟩
inductive ICall_str_int (xs : List V) (H : Hp) (Q : VK) : Prop
  | mk (i : _) : xs = [.int i] → i.natAbs.log2 < 1920 → Q (.str (toString i)) H → ICall_str_int xs H Q
theorem call_str_int : CallR X (.type "str") ICall_str_int := by
  intro pins s σ H xs us Q I r h
  obtain ⟨i, rfl, hz, q⟩ := h
  obtain ⟨u, rfl, t, rfl⟩ := vals1 r
  exact PySem.P.str_of_int hz ⟨.str _, H, I.tok _, ⟨_, rfl⟩, q⟩
noncomputable def LenV (K : PySem.W.Frag) (x : V) (H : Hp) (n : Nat) : Prop :=
  match x with
  | .str y => y.length ≤ sizeLine ∧ n = y.length
  | .byt y => y.size ≤ sizeLine ∧ n = y.size
  | .ref p => (∃ xs, SqL K H p xs ∧ n = xs.length) ∨ ∃ xs, SqT K H p xs ∧ n = xs.length
  | _ => False
theorem call_len : CallR X (.builtin "len") (fun xs H Q => ∃ x n, xs = [x] ∧ LenV X.K x H n ∧ Q (.int n) H) := by
  intro pins s σ H xs us Q I r h
  obtain ⟨x, n, rfl, e, q⟩ := h
  obtain ⟨u, rfl, rx⟩ := vals1 r
  have hl := line63
  have hs : sizeLine = 16777216 := sizeLine_eq
  cases x with
  | str y =>
    obtain ⟨t, rfl⟩ := rx
    obtain ⟨hy, e'⟩ : y.length ≤ sizeLine ∧ n = y.length := e
    subst e'
    exact len_str (by omega) ⟨.int _, H, I.tok _, ⟨_, rfl⟩, q⟩
  | byt y =>
    obtain ⟨t, rfl⟩ := rx
    obtain ⟨hy, e'⟩ : y.size ≤ sizeLine ∧ n = y.size := e
    subst e'
    exact PySem.W.len_bytes (by omega) ⟨.int _, H, I.tok _, ⟨_, rfl⟩, q⟩
  | ref p =>
    cases rx
    have e' : (∃ xs, SqL X.K H p xs ∧ n = xs.length) ∨ ∃ xs, SqT X.K H p xs ∧ n = xs.length := e
    rcases e' with ⟨xs, hx, e'⟩ | ⟨xs, hx, e'⟩
    · subst e'
      obtain ⟨its, r', pl, hz⟩ := I.list hx
      have hlen := r'.length
      exact Calls.call_len_list pl.isList (by simp only [List.size_toArray]; omega) ⟨.int xs.length, H, I.tok _, ⟨_, by simp only [List.size_toArray]; rw [hlen]⟩, q⟩
    · subst e'
      obtain ⟨its, r', pl, hz⟩ := I.tuple hx
      have hlen := r'.length
      exact len_tuple pl (by simp only [List.size_toArray]; omega) ⟨.int xs.length, H, I.tok _, ⟨_, by simp only [List.size_toArray]; rw [hlen]⟩, q⟩
  | _ => exact (show False from e).elim
end
end L2
namespace L2
open PySem PySem.Spec PyProof.Rows

structure ObjM (h : Heap) (x dx C : Addr) (mA : Str → Option Value) : Prop where
  obj : h.get? x = some (PySem.W.instObj C dx)
  ns : h.Ns1 dx mA
  ne : dx ≠ x
theorem lookIn_ns {h : Heap} {dx : Addr} {mA : Str → Option Value} (n : h.Ns1 dx mA) : ∃ od, h.get? dx = some od ∧ ∀ name, PySem.W.lookIn name od = some (mA name) := by
  obtain ⟨o, es, ep, ho, hd, hk, _, hm⟩ := n
  refine ⟨o, ho, fun name => ?_⟩
  have e := hm name
  unfold nsFind findBy at e
  rw [← Array.find?_toList] at e
  unfold PySem.W.lookIn
  rw [hd]
  dsimp only
  split
  · rename_i y q
    rw [q] at e
    exact congrArg some e
  · rename_i q
    rw [q] at e
    have a : es.toList.any (·.refKey) = false := by
      rw [List.any_eq_false]
      intro y hy
      obtain ⟨z, t, hkey⟩ := hk y (Array.mem_toList_iff.mp hy)
      simp [DictEntry.refKey, hkey]
    have a' : ¬ es.toList.any (·.refKey) = true := by rw [a]; exact Bool.false_ne_true
    rw [if_neg a']
    exact congrArg some e
theorem ObjM.look {h : Heap} {x dx C : Addr} {mA : Str → Option Value} (I : ObjM h x dx C mA) : ∃ od, PySem.W.InstAt h x (PySem.W.instObj C dx) C (some od) ∧ ∀ name, PySem.W.lookIn name od = some (mA name) :=
  let ⟨od, ho, hl⟩ := lookIn_ns I.ns
  ⟨od, ⟨I.obj, rfl, rfl, ho⟩, hl⟩
section
variable {prog : Program} {w : World} {A : Around} {E : Value → Shared → Prop} {s : Shared} {K : PySem.W.Frag} {x dx C f : Addr} {mA : Str → Option Value} {name : Str} {v : Value}
theorem get_map {expr : Bool} {Q : Value → Shared → Prop} (X : K.In s.heap) (I : ObjM s.heap x dx C mA) (hg : PySem.W.plainGet K C name = true) (hh : PySem.W.hasDictIn K C = true)
    (ha : PySem.W.findIn K (.ref C) name = some none) (hv : mA name = some v) (hv' : PySem.W.handedIn v = true) (h : Q v { s with toks := s.toks + 1 }) :
    wpAny (model prog w) A (getAttr (.ref x) name expr) Q E s := by
  obtain ⟨od, J, hl⟩ := I.look
  exact PySem.W.get_value X J (PySem.W.plainGet_of hg).1 (PySem.W.findObj_own hh ha rfl (by rw [hl, hv])) hv' h
theorem get_meth {pl : Sem Bool} {Q : Value × List Value → Shared → Prop} (X : K.In s.heap) (I : ObjM s.heap x dx C mA) (hg : PySem.W.plainGet K C name = true)
    (hf : PySem.W.findIn K (.ref C) name = some (some (.ref f))) (ht : PySem.W.isFn K (.ref f) = true) (hv : mA name = none) (h : Q (.ref f, [.ref x]) s) :
    wpAny (model prog w) A (getMethod (.ref x) name pl) Q E s := by
  obtain ⟨od, J, hl⟩ := I.look
  exact PySem.W.method_fn X J (PySem.W.plainGet_of hg).1 (PySem.W.plainGet_of hg).2 hf (beq_iff_eq.mp ht) (by show (PySem.W.lookIn name od).map (·.isSome) = some false; rw [hl, hv]; rfl) h
theorem set_map {ns : List Str} {Q : Unit → Shared → Prop} (X : K.In s.heap) (I : ObjM s.heap x dx C mA)
    (hs : PySem.W.findIn K (.ref C) "__setattr__" = some (some (.builtin "object.__setattr__"))) (hp : PySem.W.plainOver K C = true) (ht : PySem.W.takerIn K C name = some none) (hh : PySem.W.hasDictIn K C = true)
    (hw : PySem.Within mA ns) (hsz : ns.length ≤ sizeLine)
    (h : ∀ h', ObjM h' x dx C (fun y => if y = name then some v else mA y) → Heap.SameBut dx s.heap h' → Q () { s with heap := h', toks := s.toks + 2 }) :
    wpAny (model prog w) A (setAttr (.ref x) name v) Q E s := by
  obtain ⟨od, J, hl⟩ := I.look
  refine PySem.W.set_plain X J hs (PySem.W.osa_open (s := { s with toks := s.toks + 1 }) (r := none) X J hp ht fun b => ?_)
  obtain ⟨cd, hc, hd'⟩ := PySem.W.any_some hh
  have hx : s.heap.get? x = some ⟨.ref C, some dx, .plain, #[]⟩ := I.obj
  refine wpAny_bind (wpAny_pure (wpAny_bind (wpAny_bind (wpAny_loadPart hx (wpAny_bind (PySem.W.Looks.here (s := { s with toks := s.toks + 1 }) (PySem.W.looks_clsIn X hc) ?_))))))
  rw [hd']
  refine wpAny_pure (a := some dx) (wpAny_bind (wpAny_pure (wpAny_bind ?_)))
  refine wpAny_nsSet1 (s := { s with toks := s.toks + 1 }) I.ns fun h' hn2 hs2 => ?_
  obtain ⟨oD, esD, epD, hoD, hdD, hcD⟩ := hn2.count (PySem.Within.cons name v hw)
  refine wpAny_bind (wpAny_lookBehind hoD (by rw [hdD]; exact pastItsLine_dict (Nat.le_trans hcD (by rw [List.length_cons]; omega))) ?_)
  exact wpAny_pure (h _ ⟨(hs2.2 _ (Ne.symm I.ne)).trans I.obj, hn2, I.ne⟩ hs2)
theorem make_map {R : Result → Shared → Prop} {vs : List Value} {kw : List (Str × Value)} (X : K.In s.heap) (hm : PySem.W.makesIn K C = true)
    (hi : PySem.W.findIn K (.ref C) "__init__" = some (some (.ref f))) (hf : PySem.W.typeIn K (.ref f) = some (.type "function"))
    (h : codeAny (model prog w) (A.under (.builtin "type.__call__" ⟨.ref C :: vs, kw⟩)) (.call (.ref f) ⟨.ref (s.heap.objs.size + 1) :: vs, kw⟩) (PySem.W.InitBack (s.heap.objs.size + 1) R)
      { s with heap := (s.heap.push PySem.W.emptyDict).push (PySem.W.instObj C s.heap.objs.size) }) :
    codeAny (model prog w) A (.call (.ref C) ⟨vs, kw⟩) R s := by
  obtain ⟨hh, g, d, t, os⟩ := s
  exact PySem.W.make_core (PySem.W.makes_of X hm) (PySem.W.looks_findIn X hi) (fun self => PySem.W.bind_fn X self hf) (.inl rfl) h
end

noncomputable def putF (f : Str) (v : V) : List (Str × V) → List (Str × V)
  | [] => [(f, v)]
  | (g, x) :: r => if g = f then (g, v) :: r else (g, x) :: putF f v r
theorem lookup_putF (f g : Str) (v : V) : ∀ fs : List (Str × V), (putF f v fs).lookup g = if g = f then some v else fs.lookup g
  | [] => by
    show List.lookup g [(f, v)] = _
    by_cases h : g = f
    · have hb : (g == f) = true := beq_iff_eq.mpr h
      simp only [List.lookup, hb, if_pos h]
    · have hb : (g == f) = false := beq_eq_false_iff_ne.mpr h
      simp only [List.lookup, hb, if_neg h]
  | (k, x) :: r => by
    have ih := lookup_putF f g v r
    rw [show putF f v ((k, x) :: r) = (if k = f then (k, v) :: r else (k, x) :: putF f v r) from rfl]
    by_cases hk : k = f
    · rw [if_pos hk]
      by_cases h : g = k
      · have hb : (g == k) = true := beq_iff_eq.mpr h
        simp only [List.lookup, hb, if_pos (h.trans hk)]
      · have hb : (g == k) = false := beq_eq_false_iff_ne.mpr h
        simp only [List.lookup, hb, if_neg (fun e : g = f => h (e.trans hk.symm))]
    · rw [if_neg hk]
      by_cases h : g = k
      · have hb : (g == k) = true := beq_iff_eq.mpr h
        simp only [List.lookup, hb, if_neg (fun e : g = f => hk (h.symm.trans e))]
      · have hb : (g == k) = false := beq_eq_false_iff_ne.mpr h
        simp only [List.lookup, hb]
        exact ih
theorem keys_putF (f : Str) (v : V) : ∀ fs : List (Str × V), f ∈ (putF f v fs).map (·.1) ∧ ∀ g, g ∈ fs.map (·.1) → g ∈ (putF f v fs).map (·.1)
  | [] => ⟨by simp [putF], fun g h => by simp at h⟩
  | (k, x) :: r => by
    obtain ⟨i1, i2⟩ := keys_putF f v r
    rw [show putF f v ((k, x) :: r) = (if k = f then (k, v) :: r else (k, x) :: putF f v r) from rfl]
    by_cases hk : k = f
    · rw [if_pos hk]
      subst hk
      exact ⟨by simp, fun g h => by simpa using h⟩
    · rw [if_neg hk]
      refine ⟨?_, fun g h => ?_⟩
      · rw [List.map_cons]
        exact List.mem_cons_of_mem _ i1
      · rw [List.map_cons] at h ⊢
        rcases List.mem_cons.mp h with e | e
        · exact List.mem_cons.mpr (.inl e)
        · exact List.mem_cons_of_mem _ (i2 g e)
theorem length_putF (f : Str) (v : V) : ∀ fs : List (Str × V), (putF f v fs).length ≤ fs.length + 1
  | [] => by simp [putF]
  | (k, x) :: r => by
    have ih := length_putF f v r
    rw [show putF f v ((k, x) :: r) = (if k = f then (k, v) :: r else (k, x) :: putF f v r) from rfl]
    by_cases hk : k = f
    · rw [if_pos hk, List.length_cons, List.length_cons]; omega
    · rw [if_neg hk, List.length_cons, List.length_cons]; omega
theorem RelO.some_of {v : V} {o : Option Value} (r : RelO (some v) o) : ∃ u, o = some u ∧ RelV v u := by
  cases o with
  | none => exact (show False from r).elim
  | some u => exact ⟨u, rfl, r⟩
theorem RelO.none_of {o : Option Value} (r : RelO none o) : o = none := by
  cases o with
  | none => rfl
  | some u => exact (show False from r).elim
theorem handed_of {v : V} {u : Value} (r : RelV v u) : PySem.W.handedIn u = true := by
  cases v with
  | non => cases (show u = Value.none from r); rfl
  | bl b => cases (show u = Value.bool b from r); rfl
  | int i => obtain ⟨t, e⟩ := (show ∃ t, u = Value.int i t from r); cases e; rfl
  | str x => obtain ⟨t, e⟩ := (show ∃ t, u = Value.str x t from r); cases e; rfl
  | byt b => obtain ⟨t, e⟩ := (show ∃ t, u = Value.bytes b t from r); cases e; rfl
  | flt b => obtain ⟨t, e⟩ := (show ∃ t, u = Value.float b t from r); cases e; rfl
  | ref a => cases (show u = Value.ref a from r); rfl
  | ty n => cases (show u = Value.type n from r); rfl
section
variable {P : Program} {w : World} {H H' : Hp} {h h' : Heap} {a C dx : Addr} {fs fs' : List (Str × V)}
theorem ins_get (hok : HOk P w H h) (e : H a = some (.ins C dx fs)) : ∃ mA, ObjM h a dx C mA ∧ (∀ f, RelO (fs.lookup f) (mA f)) ∧ PySem.Within mA (fs.map (·.1)) ∧ fs.length ≤ 1000 ∧ H dx = some (.own a) := by
  obtain ⟨d, z, ne, ob, mA, n, r, q⟩ := (show ObjOk P w H h a (.ins C dx fs) from hok a _ e)
  exact ⟨mA, ⟨ob, n, ne⟩, r, q, z, d⟩
end

structure Cls (K : PySem.W.Frag) (C : Addr) : Prop where
  pg : PySem.W.plainGet K C Str.empty = true
  hd : PySem.W.hasDictIn K C = true
  po : PySem.W.plainOver K C = true
  sa : PySem.W.findIn K (.ref C) "__setattr__" = some (some (.builtin "object.__setattr__"))
theorem Cls.get {K : PySem.W.Frag} {C : Addr} (c : Cls K C) (f : Str) : PySem.W.plainGet K C f = true := c.pg
noncomputable def NoAttr (K : PySem.W.Frag) (C : Addr) (f : Str) : Prop := PySem.W.findIn K (.ref C) f = some none
theorem NoAttr.taker {K : PySem.W.Frag} {C : Addr} {f : Str} (n : NoAttr K C f) : PySem.W.takerIn K C f = some none := by
  unfold PySem.W.takerIn
  rw [show PySem.W.findIn K (.ref C) f = some none from n]
  rfl
structure Meth (K : PySem.W.Frag) (C : Addr) (m : Str) (f : Addr) : Prop where
  at_ : PySem.W.findIn K (.ref C) m = some (some (.ref f))
  fn : PySem.W.isFn K (.ref f) = true
  kp : PySem.W.keepIn K (.ref f) = true
section
variable {X : Cx} {pins : List (Addr × Obj)} {σ : St} {H : Hp} {s : Shared} {a C dx : Addr} {fs : List (Str × V)} {f : Str} {v : V} {A : Around} {E : Value → Shared → Prop}
theorem getattr_ok {b : Bool} {Q : Value → Shared → Prop} (I : Inv X pins σ H s) (e : H a = some (.ins C dx fs)) (c : Cls X.K C) (n : NoAttr X.K C f) (l : fs.lookup f = some v)
    (h : ∀ u s', Inv X pins σ H s' → RelV v u → Q u s') : wpAny (model X.prog X.w) A (getAttr (.ref a) f b) Q E s := by
  obtain ⟨mA, O, r, _, _, _⟩ := ins_get I.hok e
  obtain ⟨u, hu, ru⟩ := RelO.some_of (v := v) (o := mA f) (by rw [← l]; exact r f)
  exact get_map I.kIn O (c.get f) c.hd n hu (handed_of ru) (h u _ (I.tok _) ru)
theorem getmeth_ok {m : Str} {g : Addr} {pl : Sem Bool} {Q : Value × List Value → Shared → Prop} (I : Inv X pins σ H s) (e : H a = some (.ins C dx fs)) (c : Cls X.K C) (k : Meth X.K C m g) (l : fs.lookup m = none)
    (h : Q (.ref g, [.ref a]) s) : wpAny (model X.prog X.w) A (getMethod (.ref a) m pl) Q E s := by
  obtain ⟨mA, O, r, _, _, _⟩ := ins_get I.hok e
  have hn : mA m = none := RelO.none_of (by rw [← l]; exact r m)
  exact get_meth I.kIn O (c.get m) k.at_ k.fn hn h
theorem setattr_ok {y : V} {u : Value} {Q : Unit → Shared → Prop} (I : Inv X pins σ H s) (e : H a = some (.ins C dx fs)) (c : Cls X.K C) (n : NoAttr X.K C f) (hl : fs.length < 1000) (ry : RelV y u)
    (h : ∀ s', Inv X pins σ (upd H a (.ins C dx (putF f y fs))) s' → Q () s') : wpAny (model X.prog X.w) A (setAttr (.ref a) f u) Q E s := by
  obtain ⟨mA, O, r, wi, _, ho⟩ := ins_get I.hok e
  have hz : (fs.map (·.1)).length ≤ sizeLine := by rw [List.length_map, sizeLine_eq]; omega
  refine set_map I.kIn O c.sa c.po n.taker c.hd wi hz fun h' O' sb => h _ ?_
  have hd : ∃ o, h'.get? dx = some o := let ⟨o, _, _, e', _⟩ := O'.ns; ⟨o, e'⟩
  refine I.write (x := a) (e := dx) (by rw [e]; exact True.intro) (.inr ho) (fun b q hb z => (sb.2 b hb).trans z) hd ?_
  refine ⟨by rw [upd_ne O.ne]; exact ho, ?_, O.ne, O'.obj, _, O'.ns, fun g => ?_, fun g hg => ?_⟩
  · have := length_putF f y fs; omega
  · show RelO ((putF f y fs).lookup g) (if g = f then some u else mA g)
    rw [lookup_putF]
    by_cases q : g = f
    · rw [if_pos q, if_pos q]; exact ry
    · rw [if_neg q, if_neg q]; exact r g
  · by_cases q : g = f
    · rw [q]; exact (keys_putF f y fs).1
    · refine (keys_putF f y fs).2 g (wi g fun z => hg ?_)
      show (if g = f then some u else mA g) = none
      rw [if_neg q]; exact z
theorem Inv.made (I : Inv X pins σ H s) : Inv X pins σ (upd (upd H s.heap.objs.size (.own (s.heap.objs.size + 1))) (s.heap.objs.size + 1) (.ins C s.heap.objs.size []))
    { s with heap := (s.heap.push PySem.W.emptyDict).push (PySem.W.instObj C s.heap.objs.size) } := by
  have e1 : (s.heap.push PySem.W.emptyDict).get? s.heap.objs.size = some PySem.W.emptyDict := Heap.get?_push_size s.heap rfl
  have e2 : ((s.heap.push PySem.W.emptyDict).push (PySem.W.instObj C s.heap.objs.size)).get? (s.heap.objs.size + 1) = some (PySem.W.instObj C s.heap.objs.size) := by
    have := Heap.get?_push_size (s.heap.push PySem.W.emptyDict) (o := PySem.W.instObj C s.heap.objs.size) rfl
    rwa [Heap.size_push] at this
  have e3 : (s.heap.push PySem.W.emptyDict).Ns s.heap.objs.size (fun _ => none) := ⟨PySem.W.emptyDict, #[], _, e1, rfl, (fun e he => absurd he (by simp)), fun _ => rfl⟩
  have I1 := I.laid (a := s.heap.objs.size) (o := .own (s.heap.objs.size + 1)) (h' := s.heap.push PySem.W.emptyDict) (t' := s.toks) (fun b u q => Heap.get?_push_of_some _ q) (Nat.le_refl _) ⟨_, e1⟩
  refine I1.laid (a := s.heap.objs.size + 1) (o := .ins C s.heap.objs.size []) (t' := s.toks) (fun b u q => Heap.get?_push_of_some _ q) (Nat.le_of_eq (Heap.size_push _ _)) ?_
  have ne : s.heap.objs.size ≠ s.heap.objs.size + 1 := Nat.ne_of_lt (Nat.lt_succ_self _)
  refine ⟨by rw [upd_ne ne, upd_same], Nat.zero_le _, ne, e2, fun _ => none, (Heap.Ns1.of_empty e3).at fun o q => Heap.get?_push_of_some _ q, fun _ => True.intro, fun y hy => absurd rfl hy⟩
theorem attr_of {prog : Program} {w : World} {env : Env} {e : Expr} {f : Str} {pos : Pos} {s : Shared} {Q : Value → Shared → Prop} (hb : attributeBase e f env (eval e env) = eval e env)
    (h : wpAny (model prog w) A (eval e env) (fun o s₁ => wpAny (model prog w) A (getAttr o f true) Q E s₁) E s) : wpAny (model prog w) A (eval (.Attribute e f pos) env) Q E s :=
  Attribute_any_ h (by rw [arm_eval_Attribute, hb])
end

inductive ITFld (K : PySem.W.Frag) (f : Str) (x : V) (H1 : Hp) (Q : VK) : Prop
  | mk (a : _) (C : _) (dx : _) (fs : _) (v : _) : x = .ref a → H1 a = some (.ins C dx fs) → Cls K C → NoAttr K C f → fs.lookup f = some v → Q v H1 → ITFld K f x H1 Q
noncomputable def tFld (K : PySem.W.Frag) (ta : TE) (f : Str) : TE := fun σ H Q => ta σ H fun x H1 => ITFld K f x H1 Q
noncomputable def sFld (K : PySem.W.Frag) (ta tv : TE) (f : Str) : TS := fun D σ H => tv σ H fun y H1 => ta σ H1 fun x H2 => ∃ a C dx fs, x = .ref a ∧ H2 a = some (.ins C dx fs) ∧ Cls K C ∧ NoAttr K C f ∧ fs.length < 1000 ∧
  D.nx σ (upd H2 a (.ins C dx (putF f y fs)))
section
variable {X : Cx} {o e value : Expr} {f : Str} {pos pos' tpos : Pos} {ta tv : TE}
theorem pe_fld (he : PE X e ta) (hb : attributeBase e f X.env (eval e X.env) = eval e X.env) : PE X (.Attribute e f pos) (tFld X.K ta f) := by
  intro pins s σ H Q I h
  refine attr_of hb (thn (he pins s σ H _ I h) fun u s1 ⟨x, H1, I1, rx, a, C, dx, fs, v, ex, ea, c, n, l, q⟩ => ?_)
  subst ex
  obtain rfl : u = Value.ref a := rx
  exact getattr_ok I1 ea c n l fun u' s2 I2 ru => ⟨v, H1, I2, ru, q⟩
theorem ps_fld (ha : PE X o ta) (hv : PE X value tv) (hs : swapsWith value (some (.Attribute o f pos')) pos.line X.env = pure false) : PS X (.Assign [.Attribute o f pos'] value pos) (sFld X.K ta tv f) := by
  intro pins s σ H D I h
  refine plainObj_wpAny_Assign_Attribute (thn (hv pins s σ H _ I h) fun u s1 ⟨y, H1, I1, ry, q⟩ => thn (ha pins s1 σ H1 _ I1 q) fun ov s2 ⟨x, H2, I2, rx, a, C, dx, fs, ex, ea, c, n, l, q2⟩ => ?_) hs
  subst ex
  obtain rfl : ov = Value.ref a := rx
  exact setattr_ok I2 ea c n l ry fun s3 I3 => ⟨σ, _, I3, q2⟩
end

section
variable {X : Cx} {pins : List (Addr × Obj)} {σ : St} {H : Hp} {s : Shared} {A : Around} {E : Value → Shared → Prop} {Q : Value → Shared → Prop} {c : Value} {b : Bool}
end
end L2
namespace L2
open PySem PySem.Spec PyProof.Rows

structure Room (k : Nat) (A : Around) : Prop where
  hd : A.handled = none
  dp : A.depth + 3 * k + 5 < recursionLimit
  un : A.units + 16 * k + 200 < cLine
theorem Room.mono {j k : Nat} {A : Around} (r : Room k A) (h : j ≤ k) : Room j A := ⟨r.hd, by have := r.dp; omega, by have := r.un; omega⟩
theorem Room.deeper {k : Nat} {A : Around} (r : Room (k + 1) A) (env : Env) : Room k (A.deeper env) :=
  ⟨r.hd, by have := r.dp; show A.depth + 1 + 3 * k + 5 < _; omega, by have := r.un; show A.units + 3 + 16 * k + 200 < _; omega⟩
theorem make_depth {A : Around} {C : Addr} {us : List Value} {kw : List (Str × Value)} : (A.under (.builtin "type.__call__" ⟨.ref C :: us, kw⟩)).depth = A.depth + 1 := by
  first | rfl | simp [Around.under, Code.weight, Code.isCreation, Code.isGuard, Code.isCaller, Code.frames, Code.isFrame, guardIds]
theorem make_units {A : Around} {C : Addr} {us : List Value} {kw : List (Str × Value)} : (A.under (.builtin "type.__call__" ⟨.ref C :: us, kw⟩)).units = A.units + 1 := by
  first | rfl | simp [Around.under, Code.cUnits, Code.frames, Code.isFrame]
theorem Room.make {k : Nat} {A : Around} (r : Room (k + 1) A) (C : Addr) (us : List Value) (kw : List (Str × Value)) : Room k (A.under (.builtin "type.__call__" ⟨.ref C :: us, kw⟩)) :=
  ⟨r.hd, by have := r.dp; rw [make_depth]; omega, by have := r.un; rw [make_units]; omega⟩
theorem Room.depth {k : Nat} {A : Around} (r : Room k A) : A.depth < recursionLimit := by have := r.dp; omega
theorem Room.units {k : Nat} {A : Around} (r : Room k A) : A.units + 64 < cLine := by have := r.un; omega
theorem Room.units0 {k : Nat} {A : Around} (r : Room k A) : A.units < cLine := by have := r.un; omega

noncomputable def tNil : TA := fun _ H Q => Q [] H
noncomputable def tCons (ta : TE) (tr : TA) : TA := fun σ H Q => ta σ H fun x H1 => tr σ H1 fun xs H2 => Q (x :: xs) H2
section
variable {X : Cx} {e : Expr} {es : List Expr} {te : TE} {t : TA} {pos : Pos}
theorem pa_nil : PA X [] tNil := fun _ _ _ _ H Q I h => Calls.spliced_nil ⟨[], H, I, .nil, h⟩
theorem pa_cons (ha : PE X e te) (hr : PA X es t) (hs : starEach (e :: es) X.env = (false, eval e X.env) :: starEach es X.env := by rfl) : PA X (e :: es) (tCons te t) := by
  intro pos pins s σ H Q I h
  rw [hs]
  show wpAny _ _ (spliced ((false, eval e X.env) :: backTo pos (starEach es X.env))) _ _ s
  refine Calls.spliced_cons (thn (ha pins s σ H _ I h) fun u s1 ⟨x, H1, I1, r1, q1⟩ => ?_)
  exact thn (hr pos pins s1 σ H1 _ I1 q1) fun us s2 ⟨xs, H2, I2, r2, q2⟩ => ⟨x :: xs, H2, I2, .cons r1 r2, q2⟩
noncomputable def tTup (t : TA) : TE := fun σ H Q => t σ H fun xs H1 => xs.length ≤ sizeLine ∧ ∀ p, H1 p = none → Q (.ref p) (upd H1 p (.tup xs))
noncomputable def tLst (t : TA) : TE := fun σ H Q => t σ H fun xs H1 => xs.length ≤ sizeLine ∧ ∀ p, H1 p = none → Q (.ref p) (upd H1 p (.lst xs))
theorem pe_tup {x1} (h : PA X es t) : PE X (.Tuple es x1 pos) (tTup t) := by
  intro pins s σ H Q I hq
  refine wpAny_Tuple_spliced (thn (h pos pins s σ H _ I hq) fun us s1 ⟨xs, H1, I1, r, z, q⟩ => ⟨by rw [← r.length]; exact z, ?_⟩)
  have hf : H1 s1.heap.objs.size = none := I1.hok.fresh (Nat.le_refl _)
  refine ⟨.ref s1.heap.objs.size, upd H1 s1.heap.objs.size (.tup xs), I1.laid (t' := s1.toks) (fun b u e => Heap.get?_push_of_some _ e) (Nat.le_refl _) ?_, rfl, q _ hf⟩
  exact ⟨z, us, r, ⟨_, Heap.get?_push_size _ rfl, rfl, _, rfl⟩⟩
theorem pe_lst (h : PA X es t) : PE X (.List es pos) (tLst t) := by
  intro pins s σ H Q I hq
  refine wpAny_List_spliced (thn (h pos pins s σ H _ I hq) fun us s1 ⟨xs, H1, I1, r, z, q⟩ => ⟨by rw [← r.length]; exact z, ?_⟩)
  have hf : H1 s1.heap.objs.size = none := I1.hok.fresh (Nat.le_refl _)
  refine ⟨.ref s1.heap.objs.size, upd H1 s1.heap.objs.size (.lst xs), I1.laid (t' := s1.toks) (fun b u e => Heap.get?_push_of_some _ e) (Nat.le_refl _) ?_, rfl, q _ hf⟩
  exact ⟨z, us, 0, r, Heap.get?_push_size _ rfl⟩
end

noncomputable abbrev Sp := List V → Hp → VK → XK → Prop
noncomputable abbrev CXT := List Env → Hp → Shared → XK → Value → Shared → Prop
structure Env0 (P : Program) (w : World) (K : PySem.W.Frag) (mg : Str → Option Value) (base : Heap) (A : Around) (outer : List Env) (s : Shared) (H : Hp) : Prop where
  frames : A.frames = some outer
  mod : Mod K mg base
  bs : ∀ b o, base.get? b = some o → s.heap.get? b = some o ∧ H b = none
  bsz : base.objs.size ≤ s.heap.objs.size
  funs : s.heap.FunFrames base outer
  frf : ∀ b ∈ frs outer, H b = none
  hok : HOk P w H s.heap
  bare : AllBare s.gens
noncomputable def CE (outer : List Env) (P : Program) (w : World) (H : Hp) (s : Shared) (Q : VK) (u : Value) (s' : Shared) : Prop :=
  ∃ v H', s'.os = s.os ∧ AllBare s'.gens ∧ Un (frs outer) [] H H' s.heap s'.heap ∧ HOk P w H' s'.heap ∧ RelV v u ∧ Q v H'
noncomputable def CR (CX : CXT) (outer : List Env) (P : Program) (w : World) (H : Hp) (s : Shared) (Q : VK) (E : XK) (r : Result) (s' : Shared) : Prop :=
  match r with
  | .ok (.ret u) => CE outer P w H s Q u s'
  | .ok _ => False
  | .error e => CX outer H s E e s'
structure FnOk (P : Program) (w : World) (K : PySem.W.Frag) (mg : Str → Option Value) (base : Heap) (CX : CXT) (k : Nat) (f : Addr) (fd : FuncData) (ps : List Str) (sp : Sp) : Prop where
  len : ∀ vs H Q E, sp vs H Q E → vs.length = ps.length
  run : ∀ (A : Around) (outer : List Env) (s : Shared) (H : Hp) (args : Args) (us : List Value) (vs : List V) (Q : VK) (E : XK), Room k A → Env0 P w K mg base A outer s H → BindsTo s fd args (ps.zip us) → Vals vs us → sp vs H Q E →
    codeAny (model P w) A (.call (.ref f) args) (CR CX outer P w H s Q E) s
theorem Env0.make {P : Program} {w : World} {K : PySem.W.Frag} {mg : Str → Option Value} {base : Heap} {A : Around} {outer : List Env} {s : Shared} {H : Hp} (e : Env0 P w K mg base A outer s H) (C : Addr) (us : List Value) (kw : List (Str × Value)) :
    Env0 P w K mg base (A.under (.builtin "type.__call__" ⟨.ref C :: us, kw⟩)) outer s H := ⟨by first | exact e.frames | (simpa [Around.under, Code.envs, Code.isFrame, pushEnvs] using e.frames), e.mod, e.bs, e.bsz, e.funs, e.frf, e.hok, e.bare⟩
section
variable {X : Cx} {pins : List (Addr × Obj)} {σ : St} {H : Hp} {s s' : Shared}
theorem Inv.env0 (I : Inv X pins σ H s) : Env0 X.prog X.w X.K X.mg X.base X.A X.stack s H :=
  ⟨I.ok.frames, I.ok.mod, I.bs, Nat.le_trans I.ok.bsz I.sz, I.stack, I.stkFree, I.hok, I.bare⟩
theorem Inv.after {Q : VK} {u : Value} (I : Inv X pins σ H s) (h : CE X.stack X.prog X.w H s Q u s') : EP X pins σ Q u s' := by
  obtain ⟨v, H', os, bare, un, hok, r, q⟩ := h
  obtain ⟨hh, g, d, t, os'⟩ := s'
  obtain rfl : os' = s.os := os
  exact ⟨v, H', I.call (h' := hh) (g' := g) (d' := d) (t' := t) (ch := []) un hok bare (fun b z => absurd z (by simp)), r, q⟩
end

noncomputable def tCall (sp : Sp) (dvs : List V) (E : XK) (t : TA) : TE := fun σ H Q => t σ H fun vs H1 => sp (vs ++ dvs) H1 Q E
inductive ITMeth (C : Addr) (m : Str) (sp : Sp) (dvs : List V) (E : XK) (t : TA) (σ : St) (x : V) (H1 : Hp) (Q : VK) : Prop
  | mk (a : _) (dx : _) (fs : _) : x = .ref a → H1 a = some (.ins C dx fs) → fs.lookup m = none → (t σ H1 fun vs H2 => sp (x :: (vs ++ dvs)) H2 Q E) → ITMeth C m sp dvs E t σ x H1 Q
noncomputable def tMeth (C : Addr) (m : Str) (sp : Sp) (dvs : List V) (E : XK) (ta : TE) (t : TA) : TE := fun σ H Q => ta σ H fun x H1 => ITMeth C m sp dvs E t σ x H1 Q
noncomputable def Binds (K : PySem.W.Frag) (fd : FuncData) (ps : List Str) (ds : List Value) : Prop :=
  ∀ (s : Shared) (us : List Value), K.In s.heap → (us ++ ds).length = ps.length → BindsTo s fd ⟨us, []⟩ (ps.zip (us ++ ds))
theorem Binds.all {K : PySem.W.Frag} {fd : FuncData} {ps : List Str} (h : ∀ us : List Value, us.length = ps.length → bindArgs fd ⟨us, []⟩ = pure (ps.zip us)) : Binds K fd ps [] := fun s us _ hl => by
  rw [List.append_nil] at hl ⊢
  exact .of_eq (h us hl)
noncomputable def Passes (CX : CXT) (X : Cx) (E : XK) : Prop := ∀ (pins : List (Addr × Obj)) (σ : St) (H : Hp) (s : Shared) (e : Value) (s' : Shared), Inv X pins σ H s → CX X.stack H s E e s' → X.xe e s'
section
variable {X : Cx} {CX : CXT} {k : Nat} {f C : Addr} {fd : FuncData} {ps : List Str} {sp : Sp} {dvs : List V} {ds : List Value} {E : XK} {x m : Str} {p pos apos : Pos} {e o : Expr} {es : List Expr} {ta : TE} {t : TA}
theorem run_fn {pins : List (Addr × Obj)} {σ : St} {H : Hp} {s : Shared} {Q : VK} {us : List Value} {vs : List V} (F : FnOk X.prog X.w X.K X.mg X.base CX k f fd ps sp) (hr : Room k X.A) (hb : Binds X.K fd ps ds) (hd : Vals dvs ds) (hx : Passes CX X E)
    (I : Inv X pins σ H s) (r : Vals vs us) (h : sp (vs ++ dvs) H Q E) : wpAny (model X.prog X.w) X.A (call (.ref f) us) (EP X pins σ Q) X.xe s := by
  have r2 : Vals (vs ++ dvs) (us ++ ds) := r.append hd
  have hl : (us ++ ds).length = ps.length := by rw [← r2.length]; exact F.len _ _ _ _ h
  refine wpAny_call (codeAny_mono (F.run X.A X.stack s H ⟨us, []⟩ (us ++ ds) (vs ++ dvs) Q E hr I.env0 (hb s us I.kIn hl) r2 h) fun r s' hq => ?_)
  cases r with
  | error e => exact hx pins σ H s e s' I hq
  | ok fl =>
    cases fl with
    | ret u => exact I.after hq
    | next => exact False.elim hq
    | brk => exact False.elim hq
    | cont => exact False.elim hq
theorem pe_call (F : FnOk X.prog X.w X.K X.mg X.base CX k f fd ps sp) (hr : Room k X.A) (hg : Gl X x) (hm : X.mg x = some (.ref f)) (hk : PySem.W.keepIn X.K (.ref f) = true) (hb : Binds X.K fd ps ds) (hd : Vals dvs ds) (hx : Passes CX X E)
    (ha : PA X (e :: es) t) (hdb : (x == ("__debug__" : Str)) = false := by decide) (he : starEach (e :: es) X.env = (false, eval e X.env) :: starEach es X.env := by rfl) (hpl : (backTo pos (starEach es X.env)).any (·.1) = false := by rfl) :
    PE X (.Call (.Name x p) (e :: es) [] pos) (tCall sp dvs E t) := by
  intro pins s σ H Q I h
  refine wpAny_Call_Name_kw (ld_glob I hg hm ?_ hdb)
  refine PySem.W.callWith_K (h₀ := X.base) I.ok.mod.kin hk (thn (ha pos pins s σ H _ I h) fun us s1 ⟨vs, H1, I1, r, q⟩ => ⟨I1.kIn, ?_⟩) he hpl
  exact run_fn F hr hb hd hx I1 r q
theorem pe_meth0 {pl : Sem Bool} (he : PE X o ta) (c : Cls X.K C) (hm : Meth X.K C m f) (F : FnOk X.prog X.w X.K X.mg X.base CX k f fd ps sp) (hr : Room k X.A) (hb : Binds X.K fd ps ds) (hd : Vals dvs ds) (hx : Passes CX X E)
    (ht : eval (.Call (.Attribute o m apos) [] [] pos) X.env = (do
      let ov ← eval o X.env
      standAt apos.atName
      let (f, first) ← holding [ov] (getMethod ov m pl)
      callWith pos f first (backTo pos (starEach [] X.env)) (backToKw pos (keywordEach [] X.env))) := by rfl) :
    PE X (.Call (.Attribute o m apos) [] [] pos) (tMeth C m sp dvs E ta tNil) := by
  intro pins s σ H Q I h
  refine PySem.W.methodCall_KW (pl := pl) (thn (he pins s σ H _ I h) fun u s1 ⟨x, H1, I1, rx, a, dx, fs, ex, ea, l, q⟩ => ?_) ht
  subst ex
  obtain rfl : u = Value.ref a := rx
  refine getmeth_ok I1 ea c hm l ?_
  exact PySem.W.callWith_K0 (first := [.ref a]) I1.kIn hm.kp (run_fn (us := [.ref a]) (vs := [.ref a]) F hr hb hd hx I1 (.cons rfl .nil) q)
structure Mk (K : PySem.W.Frag) (C f : Addr) : Prop where
  makes : PySem.W.makesIn K C = true
  init : PySem.W.findIn K (.ref C) "__init__" = some (some (.ref f))
  fn : PySem.W.isFn K (.ref f) = true
  kp : PySem.W.keepIn K (.ref C) = true
end

section
variable {X : Cx} {CX : CXT} {k : Nat} {f C : Addr} {fd : FuncData} {ps ks : List Str} {sp : Sp} {E : XK} {x m : Str} {p pos apos kpos : Pos} {e o : Expr} {es : List Expr} {kws : List Keyword} {te ta : TE} {t tk : TA} {nm : Option Str}
variable {g : List Value → List Value → List Value} {gV : List V → List V → List V}
end

structure FnScope (N P : List Str) (sc : Scope) : Prop where
  kind : sc.kind = .function
  co : sc.isCoroutine = false
  gen : sc.isGenerator = false
  nd : N.Nodup
  pre : N.take P.length = P
  par : ∀ x ∈ P, sc.names.lookup x = some .local ∨ sc.names.lookup x = some .cell
  nofree : ∀ y ∈ sc.names, y.2 ≠ .free
theorem bindL_out {kindOf : Str → Option NameKind} {x : Str} : ∀ {binds : List (Str × Value)} {m : Str → Option Value}, (∀ v, (x, v) ∉ binds) → bindL kindOf binds m x = m x
  | [], _, _ => rfl
  | (n, v) :: r, m, h => by
    unfold bindL
    rw [bindL_out fun w hw => h w (List.mem_cons_of_mem _ hw)]
    split
    · have : x ≠ n := by rintro rfl; exact h v List.mem_cons_self
      simp [this]
    · rfl
theorem bindC_out {kindOf : Str → Option NameKind} {x : Str} : ∀ {binds : List (Str × Value)} {m : Str → Option Value}, (∀ v, (x, v) ∉ binds) → bindC kindOf binds m x = m x
  | [], _, _ => rfl
  | (n, v) :: r, m, h => by
    unfold bindC
    rw [bindC_out fun w hw => h w (List.mem_cons_of_mem _ hw)]
    split
    · rfl
    · have : x ≠ n := by rintro rfl; exact h v List.mem_cons_self
      simp [this]
theorem bindL_get {kindOf : Str → Option NameKind} {x : Str} {v : Value} : ∀ {P : List Str} {vs : List Value} {i : Nat} {m : Str → Option Value}, P.Nodup → P[i]? = some x → vs[i]? = some v → kindOf x = some .local →
    bindL kindOf (P.zip vs) m x = some v
  | [], _, _, _, _, h, _, _ => by simp at h
  | _ :: _, [], _, _, _, _, h, _ => by simp at h
  | p :: P, w :: vs, 0, m, nd, h1, h2, hk => by
    simp at h1 h2; subst h1; subst h2
    show bindL kindOf ((p, w) :: P.zip vs) m p = _
    unfold bindL
    rw [bindL_out fun v hv => (List.nodup_cons.mp nd).1 (List.of_mem_zip hv).1, if_pos hk]
    simp
  | p :: P, w :: vs, i + 1, m, nd, h1, h2, hk => by
    show bindL kindOf ((p, w) :: P.zip vs) m x = _
    unfold bindL
    exact bindL_get (i := i) (List.nodup_cons.mp nd).2 (by simpa using h1) (by simpa using h2) hk
theorem bindC_get {kindOf : Str → Option NameKind} {x : Str} {v : Value} : ∀ {P : List Str} {vs : List Value} {i : Nat} {m : Str → Option Value}, P.Nodup → P[i]? = some x → vs[i]? = some v → kindOf x ≠ some .local →
    bindC kindOf (P.zip vs) m x = some v
  | [], _, _, _, _, h, _, _ => by simp at h
  | _ :: _, [], _, _, _, _, h, _ => by simp at h
  | p :: P, w :: vs, 0, m, nd, h1, h2, hk => by
    simp at h1 h2; subst h1; subst h2
    show bindC kindOf ((p, w) :: P.zip vs) m p = _
    unfold bindC
    rw [bindC_out fun v hv => (List.nodup_cons.mp nd).1 (List.of_mem_zip hv).1, if_neg hk]
    simp
  | p :: P, w :: vs, i + 1, m, nd, h1, h2, hk => by
    show bindC kindOf ((p, w) :: P.zip vs) m x = _
    unfold bindC
    exact bindC_get (i := i) (List.nodup_cons.mp nd).2 (by simpa using h1) (by simpa using h2) hk
noncomputable def start (N : List Str) (vs : List V) : St := vs.map some ++ List.replicate (N.length - vs.length) none
noncomputable def cxOf (CX : CXT) (P : Program) (w : World) (K : PySem.W.Frag) (mg : Str → Option Value) (base : Heap) (N : List Str) (qual : Str) (scope : Scope) (f : Addr) (cd : Value) (A : Around) (outer : List Env) (s : Shared) (H : Hp) (E : XK) : Cx where
  prog := P
  w := w
  K := K
  mg := mg
  base := base
  A := A.deeper (envOfC qual scope s.heap.objs.size f cd)
  N := N
  s₀ := s
  H₀ := H
  env := envOfC qual scope s.heap.objs.size f cd
  outer := outer
  stack := envOfC qual scope s.heap.objs.size f cd :: outer
  ex := []
  calm := true
  fn := fun _ => true
  pn := []
  xe := fun e s' => wpAny (model P w) (A.deeper (envOfC qual scope s.heap.objs.size f cd)) (leaving (envOfC qual scope s.heap.objs.size f cd) e) (fun _ s'' => CX outer H s E e s'') (fun e' s'' => CX outer H s E e' s'') s'
theorem cell_has {sc : Scope} {n : Nat} {x : Str} (h : sc.names.lookup x = some .cell) : ∃ c, (cellsFrom n sc.names []).lookup x = some c := by
  have q := PySem.W.cellsFrom_some sc.names n [] (.inl h)
  exact Option.isSome_iff_exists.mp q
theorem inv_start {CX : CXT} {P : Program} {w : World} {K : PySem.W.Frag} {mg : Str → Option Value} {base : Heap} {N ps : List Str} {qual : Str} {scope : Scope} {f : Addr} {cd : Value} {A : Around} {outer : List Env} {s s1 : Shared} {H : Hp} {E : XK} {us : List Value} {vs : List V}
    (S : FnScope N ps scope) (hd : A.handled = none) (e0 : Env0 P w K mg base A outer s H) (hl : vs.length = ps.length) (r : Vals vs us)
    (x : InCallC s s.heap.objs.size (bindL (envOfC qual scope s.heap.objs.size f cd).kindOf (ps.zip us) fun _ => none) (cellsFrom (s.heap.objs.size + 1) scope.names []) (bindC (envOfC qual scope s.heap.objs.size f cd).kindOf (ps.zip us) fun _ => none) s1) :
    Inv (cxOf CX P w K mg base N qual scope f cd A outer s H E) [] (start N vs) H s1 := by
  have hpl : ps.length ≤ N.length := by have := congrArg List.length S.pre; rw [List.length_take] at this; omega
  obtain ⟨h1, tk, rfl, hk⟩ := x.done
  have noA : ∀ b : Addr, b ∉ (cxOf CX P w K mg base N qual scope f cd A outer s H E).ex := fun b z => absurd (show b ∈ ([] : List Addr) from z) (by simp)
  refine ⟨⟨e0.mod, S.kind, rfl, rfl, Nat.le_refl _, fun y z c h1 h2 => ?_, fun y hy => ?_, fun y c _ h => ?_, fun _ => hd, Around.frames_deeper e0.frames, .inr ⟨rfl, rfl⟩, fun b z => absurd z (noA b), e0.bs, e0.bsz, fun b _ _ => noA b, fun b z => absurd z (noA b), e0.funs, e0.frf⟩,
    rfl, e0.bare, Un.kept hk, ⟨_, x.toInCall.ns, fun i y v h1 h2 h3 => ?_⟩, fun y c h => ⟨_, x.cell y c h⟩, e0.hok.fresh (Nat.le_refl _), fun y c h => ?_, fun p hp => absurd (show p ∈ ([] : List (Addr × Obj)) from hp) (by simp), e0.hok.kept hk, ?_⟩
  · exact name_of_addr x.apart (PySem.mem_of_lookup h1) (PySem.mem_of_lookup h2)
  · have hy : scope.names.lookup y = some .cell ∨ scope.names.lookup y = some .free := hy
    rcases hy with hy | hy
    · exact cell_has hy
    · exact absurd rfl (S.nofree _ (PySem.mem_of_lookup hy))
  · exact Nat.le_of_lt (x.above y c (PySem.mem_of_lookup h))
  · have hi : i < vs.length := by
      unfold start at h2
      by_cases hi : i < vs.length
      · exact hi
      · rw [List.getElem?_append_right (by simpa using hi)] at h2
        rw [List.getElem?_replicate] at h2
        split at h2 <;> cases h2
    have ha : vs[i]? = some v := by
      unfold start at h2
      rw [List.getElem?_append_left (by simpa using hi), List.getElem?_map] at h2
      cases e : vs[i]? with
      | none => rw [e] at h2; cases h2
      | some a => rw [e] at h2; cases h2; rfl
    obtain ⟨u, hu, rv⟩ := r.get ha
    have hp : ps[i]? = some y := by
      rw [← S.pre, List.getElem?_take_of_lt (by omega)]; exact h1
    have ndP : ps.Nodup := by rw [← S.pre]; exact S.nd.sublist (List.take_sublist _ _)
    refine ⟨u, rv, ?_⟩
    rcases S.par y (List.mem_of_getElem? hp) with k | k
    · exact .inl ⟨k, bindL_get ndP hp hu k⟩
    · obtain ⟨c, e⟩ := cell_has (n := s.heap.objs.size + 1) k
      refine .inr ⟨.inl k, c, e, ?_⟩
      have q := x.cell y c e
      rw [bindC_get ndP hp hu (by show scope.names.lookup y ≠ _; rw [k]; decide)] at q
      exact q
  · exact e0.hok.fresh (Nat.le_of_lt (x.above y c (PySem.mem_of_lookup h)))
  · unfold start
    show _ = N.length
    rw [List.length_append, List.length_map, List.length_replicate]
    omega
theorem fn_of {CX : CXT} {P : Program} {w : World} {K : PySem.W.Frag} {mg : Str → Option Value} {base : Heap} {k : Nat} {f : Addr} {name qual : Str} {params : Arguments} {body : List Stmt} {scope : Scope} {dV kV doc pm cdv ct oc : Value} {an od : Option Addr}
    {osl : Array (Option Value)} {N ps : List Str} {sp : Sp} (lk : K.lookup f = some ⟨oc, od, .func (PySem.W.fnOf name qual params body scope dV kV doc pm an cdv ct), osl⟩) (hcd : PySem.W.codeIn K cdv qual = true) (S : FnScope N ps scope)
    (len : ∀ vs H Q E, sp vs H Q E → vs.length = ps.length)
    (hbody : ∀ (A : Around) (outer : List Env) (s : Shared) (H : Hp) (vs : List V) (Q : VK) (E : XK), Room k (A.deeper (envOfC qual scope s.heap.objs.size f cdv)) → sp vs H Q E →
      ∃ t, PSs (cxOf CX P w K mg base N qual scope f cdv A outer s H E) body t ∧ t { nx := fun _ H' => Q .non H', rt := Q } (start N vs) H) :
    FnOk P w K mg base CX (k + 1) f (PySem.W.fnOf name qual params body scope dV kV doc pm an cdv ct) ps sp := by
  refine ⟨len, fun A outer s H args us vs Q E hr e0 hb r hsp => ?_⟩
  have hl := len _ _ _ _ hsp
  have KX : K.In s.heap := e0.mod.kin.keeps fun b o e => (e0.bs b o e).1
  have lim : s.heap.NoLimit := e0.mod.nolimit.keeps fun b o e => (e0.bs b o e).1
  have hkind : ∀ y ∈ ps.zip us, scope.names.lookup y.1 = some .local ∨ (scope.names.lookup y.1 = some .cell ∧ ((cellsFrom (s.heap.objs.size + 1) scope.names []).lookup y.1).isSome = true) := fun ⟨n, v⟩ hy => by
    rcases S.par n (List.of_mem_zip hy).1 with q | q
    · exact .inl q
    · exact .inr ⟨q, PySem.W.cellsFrom_some _ _ _ (.inl q)⟩
  refine codeAny_call_function hr.depth (KX _ _ lk) rfl S.co S.gen rfl (PySem.W.codeRec_of KX hcd) (hb _ _ _ _ ?_)
  refine wpAny_newFunctionEnv_cells S.kind hkind fun env he s1 x => ?_
  subst he
  refine ⟨lim.keeps x.toInCall.keep, codeAny_func ?_⟩
  obtain ⟨t, ht, hq⟩ := hbody A outer s H vs Q E (hr.deeper _) hsp
  have I : Inv (cxOf CX P w K mg base N qual scope f cdv A outer s H E) [] (start N vs) H s1 := inv_start S hr.hd e0 hl r x
  refine wpAny_mono (ht [] s1 (start N vs) H _ I hq) (fun fl s' hs => ?_) fun e s' hs => hs
  have fin : ∀ {σ' : St} {H' : Hp} {v : V} {u : Value}, Inv (cxOf CX P w K mg base N qual scope f cdv A outer s H E) [] σ' H' s' → RelV v u → Q v H' → CE outer P w H s Q u s' :=
    fun {σ' H' v u} J rv q => ⟨v, H', J.os, J.bare, J.base, J.hok, rv, q⟩
  cases fl with
  | ret u =>
    obtain ⟨v, σ', H', J, rv, q⟩ := hs
    exact fin J rv q
  | next =>
    obtain ⟨σ', H', J, q⟩ := hs
    exact fin (v := V.non) (u := Value.none) J rfl q
  | brk =>
    obtain ⟨_, _, _, q⟩ := hs
    exact False.elim q
  | cont =>
    obtain ⟨_, _, _, q⟩ := hs
    exact False.elim q
end L2
namespace L2
open PySem PySem.Spec PyProof.Rows
section
variable {X : Cx} {x : Str} {p pos : Pos} {e : Expr} {es : List Expr} {t : TA} {id T : String} {r : List V → Hp → VK → Prop}
noncomputable def tCB (r : List V → Hp → VK → Prop) (t : TA) : TE := fun σ H Q => t σ H fun vs H1 => r vs H1 Q
theorem pe_callB (hc : CallR X (.builtin id) r) (hg : Gl X x) (hm : X.mg x = none) (hv : bootBuiltins x = some (.builtin id)) (ha : PA X (e :: es) t) (hn : x ≠ "__name__" := by decide) (hdb : (x == ("__debug__" : Str)) = false := by decide)
    (he : starEach (e :: es) X.env = (false, eval e X.env) :: starEach es X.env := by rfl) (hpl : (backTo pos (starEach es X.env)).any (·.1) = false := by rfl) : PE X (.Call (.Name x p) (e :: es) [] pos) (tCB r t) := by
  intro pins s σ H Q I h
  refine wpAny_Call_Name_kw (ld_blt I hg hm hv ?_ hn hdb)
  exact PyProof.Rows.callWith_builtin1 (thn (ha pos pins s σ H _ I h) fun us s1 ⟨vs, H1, I1, r1, q1⟩ => hc pins s1 σ H1 vs us Q I1 r1 q1) he hpl
theorem pe_callTy (hc : CallR X (.type T) r) (hg : Gl X x) (hm : X.mg x = none) (hv : bootBuiltins x = some (.type T)) (ha : PA X (e :: es) t) (hn : x ≠ "__name__" := by decide) (hdb : (x == ("__debug__" : Str)) = false := by decide)
    (he : starEach (e :: es) X.env = (false, eval e X.env) :: starEach es X.env := by rfl) (hpl : (backTo pos (starEach es X.env)).any (·.1) = false := by rfl) : PE X (.Call (.Name x p) (e :: es) [] pos) (tCB r t) := by
  intro pins s σ H Q I h
  refine wpAny_Call_Name_kw (ld_blt I hg hm hv ?_ hn hdb)
  exact PyProof.Rows.callWith_type1 (thn (ha pos pins s σ H _ I h) fun us s1 ⟨vs, H1, I1, r1, q1⟩ => hc pins s1 σ H1 vs us Q I1 r1 q1) he hpl
end
end L2
namespace HT
open PySem PyProof.Rows
noncomputable def lexLt : List Int → List Int → Bool
  | [], [] => false
  | [], _ :: _ => true
  | _ :: _, [] => false
  | x :: xs, y :: ys => if x = y then lexLt xs ys else decide (x < y)
section
open PySem.SeqAt
open PySem.AutoSeq1 (wpAny_loadPart')
open PySem.MeetsSeq PySem.MeetsSeq2 PySem.MeetsSeq3
end
section
variable {prog : Program} {w : World} {A : Around} {E : Value → Shared → Prop} {s : Shared}
theorem cat_tup {t b : Addr} {vs ws : List Value} {Q : Value → Shared → Prop} (ht : IsTup s.heap t vs.toArray) (hb : IsTup s.heap b ws.toArray) (hv : vs ≠ [])
    (h1 : ws = [] → Q (.ref t) s) (h2 : ws ≠ [] → Q (.ref s.heap.objs.size) { s with heap := s.heap.push { cls := .type "tuple", data := .seq (vs ++ ws).toArray } })
    (hsz : vs.length + ws.length ≤ sizeLine) : wpAny (model prog w) A (binaryOp .Add (.ref t) (.ref b)) Q E s := by
  obtain ⟨⟨cls, dd, data, sl⟩, ho, hc, n, hd⟩ := id ht
  obtain ⟨⟨cls2, dd2, data2, sl2⟩, ho2, hc2, n2, hd2⟩ := id hb
  simp only at hc hd hc2 hd2
  subst hc hd hc2 hd2
  have e : vs.toArray ++ ws.toArray = (vs ++ ws).toArray := by simp
  by_cases hw : ws = []
  · exact concat_meets ⟨_, ho, rfl⟩ ⟨_, ho2, rfl⟩ noFill_tuple_add seq_tuple_add PySem.F.slot_tuple_add PySem.F.entry_tuple_add (PySem.F.args_tuple_add_2 _ _)
      (tuple_addW1 t b vs.toArray ws.toArray n n2 dd dd2 sl sl2 (by simpa using hv) (by simp [hw])) ⟨ho, ho2, h1 hw⟩
  · refine concat_meets ⟨_, ho, rfl⟩ ⟨_, ho2, rfl⟩ noFill_tuple_add seq_tuple_add PySem.F.slot_tuple_add PySem.F.entry_tuple_add (PySem.F.args_tuple_add_2 _ _)
      (tuple_addW2 t b vs.toArray ws.toArray n n2 dd dd2 sl sl2 (by simpa using hv) (by simpa using hw) (by rw [List.size_toArray, List.size_toArray]; exact hsz)) ⟨ho, ho2, ?_⟩
    rw [e]
    exact h2 hw

noncomputable def sIx (n d : Nat) : Option Int → Nat
  | none => d
  | some v => if v < 0 then (v + (n : Int)).toNat else min v.toNat n
theorem sIx_none (n d : Nat) : sIx n d none = d := rfl
theorem sIx_nat (n d k : Nat) : sIx n d (some (k : Int)) = min k n := by
  show (if (k : Int) < 0 then ((k : Int) + (n : Int)).toNat else min (k : Int).toNat n) = min k n
  rw [if_neg (by omega), Int.toNat_natCast]
theorem sIx_le (n d : Nat) (hd : d ≤ n) (o : Option Int) : sIx n d o ≤ n := by
  cases o with
  | none => exact hd
  | some v =>
    show (if v < 0 then (v + (n : Int)).toNat else min v.toNat n) ≤ n
    by_cases hv : v < 0
    · rw [if_pos hv]; omega
    · rw [if_neg hv]; exact Nat.min_le_right _ _
theorem clip_eq (v : Int) (n d : Nat) : (if v < 0 then max (v + (n : Int)) 0 else min v (n : Int)) = ((sIx n d (some v) : Nat) : Int) := by
  show (if v < 0 then max (v + (n : Int)) 0 else min v (n : Int)) = (((if v < 0 then (v + (n : Int)).toNat else min v.toNat n) : Nat) : Int)
  by_cases hv : v < 0
  · simp only [if_pos hv]; omega
  · simp only [if_neg hv]; omega
theorem adjust_gen (lo hi : Option Int) (n : Nat) : Builtin.Slice.sliceAdjust lo hi 1 (n : Int) = (((sIx n 0 lo : Nat) : Int), ((sIx n n hi : Nat) : Int)) := by
  have h1 : ¬ ((1 : Int) < 0) := by omega
  unfold Builtin.Slice.sliceAdjust
  simp only [h1, if_false]
  refine Prod.ext ?_ ?_
  · cases lo with
    | none => rfl
    | some v => exact clip_eq v n 0
  · cases hi with
    | none => rfl
    | some v => exact clip_eq v n n
theorem places_gen (i j : Nat) : Builtin.Slice.slicePlaces (i : Int) (j : Int) 1 = j - i := by
  unfold Builtin.Slice.slicePlaces
  have h1 : (1 : Int) > 0 := by omega
  simp only [h1, if_true, Int.ediv_one]
  split <;> omega
theorem slicePart_ {v : Value} {o : Option Int} {Q : Option Int → Shared → Prop} (p : IsPart v o) (h : Q o s) : wpAny (model prog w) A (Builtin.Slice.slicePartIndex v) Q E s := by
  cases p with
  | none => exact slicePart_none h
  | int i t => exact slicePart_int h
theorem sliceApplied_gen {sl : Addr} {vl vu : Value} {lo hi : Option Int} {n : Nat} {Q : Int × Int × Nat → Shared → Prop} (hs : s.heap.IsSliceOf sl vl vu .none) (pl : IsPart vl lo) (pu : IsPart vu hi)
    (h : Q (((sIx n 0 lo : Nat) : Int), 1, sIx n n hi - sIx n 0 lo) s) : wpAny (model prog w) A (Builtin.Slice.sliceApplied (.ref sl) (pure (n : Int))) Q E s := by
  obtain ⟨os, hos, hcs, hds⟩ := id hs
  unfold Builtin.Slice.sliceApplied Builtin.Slice.sliceFields
  refine wpAny_bind (wpAny_bind (wpAny_field hos hds (x := vl) rfl (wpAny_bind (wpAny_field hos hds (x := vu) rfl (wpAny_bind (wpAny_field hos hds (x := .none) rfl (wpAny_pure ?_)))))))
  refine wpAny_bind (slicePart_none ?_)
  show wpAny _ _ (if ((1 : Int) == 0) = true then _ else _) _ _ s
  rw [if_neg (by decide)]
  refine wpAny_bind (slicePart_ pl (wpAny_bind (slicePart_ pu (wpAny_bind (wpAny_pure ?_)))))
  show wpAny _ _ (match Builtin.Slice.sliceAdjust lo hi 1 (n : Int) with | (lo, hi) => pure (lo, (1 : Int), Builtin.Slice.slicePlaces lo hi 1)) _ _ s
  rw [adjust_gen lo hi n]
  show wpAny _ _ (pure (((sIx n 0 lo : Nat) : Int), (1 : Int), Builtin.Slice.slicePlaces ((sIx n 0 lo : Nat) : Int) ((sIx n n hi : Nat) : Int) 1)) _ _ s
  rw [places_gen]
  exact wpAny_pure h
theorem pick_gen (xs : Array Value) (i k : Nat) : ((List.range k).filterMap fun (m : Nat) => xs[((i : Int) + (m : Int) * 1).toNat]?).toArray = ((xs.toList.drop i).take k).toArray := by
  have e : (fun (m : Nat) => xs[((i : Int) + (m : Int) * 1).toNat]?) = fun m => xs[i + m]? := by
    funext m
    have : ((i : Int) + (m : Int) * 1).toNat = i + m := by omega
    rw [this]
  rw [e]
  have := pick_run xs i k
  rw [List.filterMap_map] at this
  have e2 : ((fun x => xs[x]?) ∘ fun x => i + x) = fun m => xs[i + m]? := rfl
  rw [e2] at this
  rw [this]
theorem getItem_tuple_cut {t sl : Addr} {items : Array Value} {vl vu : Value} {lo hi : Option Int} {Q : Value → Shared → Prop} (ht : IsTup s.heap t items) (hs : s.heap.IsSliceOf sl vl vu .none) (pl : IsPart vl lo) (pu : IsPart vu hi)
    (hw : ¬ (sIx items.size 0 lo = 0 ∧ sIx items.size items.size hi = items.size))
    (h : Q (.ref s.heap.objs.size) { s with heap := s.heap.push { cls := .type "tuple", data := .seq ((items.toList.drop (sIx items.size 0 lo)).take (sIx items.size items.size hi - sIx items.size 0 lo)).toArray } })
    (hsz : items.size ≤ sizeLine) : wpAny (model prog w) A (getItem (.ref t) (.ref sl)) Q E s := by
  have htake : sizeOk (.seq ((items.toList.drop (sIx items.size 0 lo)).take (sIx items.size items.size hi - sIx items.size 0 lo)).toArray) := by
    show ((items.toList.drop (sIx items.size 0 lo)).take (sIx items.size items.size hi - sIx items.size 0 lo)).toArray.size ≤ sizeLine
    rw [List.size_toArray, List.length_take, List.length_drop, Array.length_toList]
    omega
  have hj : sIx items.size items.size hi ≤ items.size := sIx_le _ _ (Nat.le_refl _) hi
  obtain ⟨os, hos, hcs, hds⟩ := id hs
  have hTs : s.TypeIs (.ref sl) "slice" := ⟨os, hos, hcs⟩
  unfold getItem
  try with_reducible refine wpAny_holding ?_
  first | refine wpAny_bind (wpAny_pure ?_) | skip
  refine wpAny_bind (wpAny_sequenceKey ht.typeIs (by decide) ?_)
  refine wpAny_bind (wpAny_callSpecial?_slot (name := Str.ofString "__getitem__") ht.typeIs PyProof.Rows.slot_tuple_getitem
    (wpAny_call_entry PyProof.Rows.slot_tuple_getitem ht.typeIs entry_tuple_getitem ?_ (args_tuple_getitem _ _)))
  show wpAny _ _ (Builtin.Tuple.tupleItemsOf (.ref t) >>= _) _ _ s
  refine wpAny_bind (tupleItemsOf_ ht ?_)
  refine wpAny_bind (wpAny_typeOf hTs ?_)
  rw [if_pos (by decide)]
  refine wpAny_bind (sliceApplied_gen hs pl pu ?_)
  have hno : ¬ ((((sIx items.size 0 lo : Nat) : Int) == 0 && (1 : Int) == 1 && (sIx items.size items.size hi - sIx items.size 0 lo) == items.size) = true) := by
    intro q
    rw [Bool.and_eq_true, Bool.and_eq_true] at q
    have q1 : ((sIx items.size 0 lo : Nat) : Int) = 0 := eq_of_beq q.1.1
    have q2 : sIx items.size items.size hi - sIx items.size 0 lo = items.size := eq_of_beq q.2
    exact hw ⟨by omega, by omega⟩
  show wpAny _ _ (if (((sIx items.size 0 lo : Nat) : Int) == 0 && (1 : Int) == 1 && (sIx items.size items.size hi - sIx items.size 0 lo) == items.size) = true then _ else _) _ _ s
  rw [if_neg hno, pick_gen]
  first
    | exact wpAny_bind (m := Builtin.Tuple.tupleExact _) (wpAny_newObj_type (wpAny_pure ⟨_, rfl, wpAny_pure h⟩) htake)
    | exact wpAny_bind (m := Builtin.Tuple.tupleExact _) (wpAny_newObj_type (wpAny_bind (wpAny_pure (wpAny_pure ⟨_, rfl, wpAny_pure h⟩))) htake)
    | exact wpAny_bind (wpAny_bind (m := Builtin.Tuple.tupleExact _) (wpAny_newObj_type (wpAny_pure (wpAny_pure ⟨_, rfl, wpAny_pure h⟩)) htake))
    | exact wpAny_bind (wpAny_bind (m := Builtin.Tuple.tupleExact _) (wpAny_newObj_type (wpAny_pure ⟨_, rfl, wpAny_pure h⟩) htake))
end
end HT
namespace L2
open PySem PySem.Spec PyProof.Rows

noncomputable abbrev TO := St → Hp → (Option Int → Hp → Prop) → Prop
noncomputable def PO (X : Cx) (e : Option Expr) (t : TO) : Prop :=
  ∀ (pins : List (Addr × Obj)) (s : Shared) (σ : St) (H : Hp) (Q : Option Int → Hp → Prop), Inv X pins σ H s → t σ H Q →
    wpAny (model X.prog X.w) X.A (evalPart e X.env) (fun u s' => ∃ o H', Inv X pins σ H' s' ∧ IsPart u o ∧ Q o H') X.xe s
noncomputable def tNoPart : TO := fun _ H Q => Q none H
inductive ITPart (x : V) (H1 : Hp) (Q : Option Int → Hp → Prop) : Prop
  | mk (i : _) : x = .int i → Q (some i) H1 → ITPart x H1 Q
noncomputable def tPart (t : TE) : TO := fun σ H Q => t σ H fun x H1 => ITPart x H1 Q
theorem intsAre_of {ns : List Int} : ∀ {us : List Value}, Vals (ns.map V.int) us → IntsAre us ns := by
  induction ns with
  | nil => intro us r; rw [List.map_nil] at r; cases r; exact .nil
  | cons n ns ih =>
    intro us r
    rw [List.map_cons] at r
    cases r with
    | cons r1 r2 =>
      obtain ⟨t, e⟩ := r1
      subst e
      exact .cons n t (ih r2)
section
variable {X : Cx} {e : Expr} {te : TE} {lo hi : Option Expr} {tl th : TO} {pos p2 : Pos}
theorem po_none : PO X none tNoPart := by
  intro pins s σ H Q I h
  rw [evalPart_none]
  exact wpAny_pure ⟨none, H, I, .none, h⟩
theorem po_some (h : PE X e te) : PO X (some e) (tPart te) := by
  intro pins s σ H Q I hw
  rw [evalPart_some]
  refine thn (h pins s σ H _ I hw) fun u s1 ⟨x, H1, I1, r1, q1⟩ => ?_
  obtain ⟨i, rfl, q⟩ := q1
  obtain ⟨t, rfl⟩ := r1
  exact ⟨some i, H1, I1, .int i t, q⟩
noncomputable def SlR (X : Cx) (r : V → Option Int → Option Int → Hp → VK → Prop) : Prop :=
  ∀ (pins : List (Addr × Obj)) (s : Shared) (σ : St) (H : Hp) (x : V) (v vl vu : Value) (lo hi : Option Int) (sl : Addr) (Q : VK), Inv X pins σ H s → RelV x v → s.heap.IsSliceOf sl vl vu .none → IsPart vl lo → IsPart vu hi → r x lo hi H Q →
    ∃ T id, typeLookup (.type T) "__getitem__" = pure (some (.builtin id)) ∧ s.TypeIs v T ∧ wpAny (model X.prog X.w) X.A (getItem v (.ref sl)) (EP X pins σ Q) X.xe s
noncomputable def tSl (r : V → Option Int → Option Int → Hp → VK → Prop) (te : TE) (tl th : TO) : TE := fun σ H Q => te σ H fun x H1 => tl σ H1 fun l H2 => th σ H2 fun u H3 => r x l u H3 Q
theorem pe_slice {r : V → Option Int → Option Int → Hp → VK → Prop} (hr : SlR X r) (he : PE X e te) (hl : PO X lo tl) (hu : PO X hi th) : PE X (.Subscript e (.Slice lo hi none p2) pos) (tSl r te tl th) := by
  intro pins s σ H Q I h
  refine Subscript_ (thn (he pins s σ H _ I h) fun v s1 ⟨x, H1, I1, r1, q1⟩ => ?_)
  refine wpAny_Slice (thn (hl pins s1 σ H1 _ I1 q1) fun vl s2 ⟨l, H2, I2, pl, q2⟩ => thn (hu pins s2 σ H2 _ I2 q2) fun vu s3 ⟨u, H3, I3, pu, q3⟩ => ?_)
  rw [evalPart_none]
  refine wpAny_pure ?_
  have I4 : Inv X pins σ H3 { s3 with heap := s3.heap.push { cls := .type "slice", data := .fields #[vl, vu, .none] } } := I3.kept (t' := s3.toks) fun b ob q => Heap.get?_push_of_some _ q
  obtain ⟨T, id, hT, ht, hg⟩ := hr pins { s3 with heap := s3.heap.push { cls := .type "slice", data := .fields #[vl, vu, .none] } } σ H3 x v vl vu l u s3.heap.objs.size Q I4 r1 (Heap.IsSliceOf.new ..) pl pu q3
  show wpAny (model X.prog X.w) X.A (subscriptTail e (.Slice lo hi none p2) v (.ref s3.heap.objs.size)) (EP X pins σ Q) X.xe { s3 with heap := s3.heap.push { cls := .type "slice", data := .fields #[vl, vu, .none] } }
  exact tail_any (ops := [.ref s3.heap.objs.size, v]) ht hT hg (by with_unfolding_all rfl)
noncomputable def cutV (xs : List V) (lo hi : Option Int) : List V := (xs.drop (HT.sIx xs.length 0 lo)).take (HT.sIx xs.length xs.length hi - HT.sIx xs.length 0 lo)
theorem cutV_length (xs : List V) (lo hi : Option Int) : (cutV xs lo hi).length ≤ xs.length := by
  unfold cutV
  rw [List.length_take, List.length_drop]
  omega
noncomputable def rSlT (K : PySem.W.Frag) : V → Option Int → Option Int → Hp → VK → Prop := fun x lo hi H Q => ∃ a xs, x = .ref a ∧ SqT K H a xs ∧
  ¬ (HT.sIx xs.length 0 lo = 0 ∧ HT.sIx xs.length xs.length hi = xs.length) ∧ ∀ p, H p = none → Q (.ref p) (upd H p (.tup (cutV xs lo hi)))
theorem sl_tup : SlR X (rSlT X.K) := by
  intro pins s σ H x v vl vu lo hi sl Q I rx hs pl pu h
  obtain ⟨a, xs, rfl, hx, hw, q⟩ := h
  cases rx
  obtain ⟨its, r, ht, hz⟩ := I.tuple hx
  have hlen : its.toArray.size = xs.length := by rw [List.size_toArray]; exact r.length.symm
  refine ⟨"tuple", _, PyProof.Rows.slot_tuple_getitem.lookup, ht.typeIs, ?_⟩
  refine HT.getItem_tuple_cut ht hs pl pu (by rw [hlen]; exact hw) ?_ (by rw [hlen]; exact hz)
  rw [hlen]
  refine ⟨.ref s.heap.objs.size, _, I.laid (t' := s.toks) (o := .tup (cutV xs lo hi)) (fun b ob q => Heap.get?_push_of_some _ q) (Nat.le_refl _) ?_, rfl, q _ (I.hok.fresh (Nat.le_refl _))⟩
  exact ⟨Nat.le_trans (cutV_length xs lo hi) hz, _, (r.drop (HT.sIx xs.length 0 lo)).take (HT.sIx xs.length xs.length hi - HT.sIx xs.length 0 lo), IsTup.new _ _⟩

noncomputable def rCatT (K : PySem.W.Frag) : R2 := fun x y H Q => ∃ a b xs ys, x = .ref a ∧ y = .ref b ∧ SqT K H a xs ∧ SqT K H b ys ∧ xs ≠ [] ∧ xs.length + ys.length ≤ sizeLine ∧
  (ys = [] → Q (.ref a) H) ∧ (ys ≠ [] → ∀ p, H p = none → Q (.ref p) (upd H p (.tup (xs ++ ys))))
theorem Vals.nil_iff {xs : List V} {us : List Value} (r : Vals xs us) : us = [] ↔ xs = [] := by
  cases r with
  | nil => simp
  | cons _ _ => simp
theorem op_catT : OpR X (binaryOp .Add) (rCatT X.K) := by
  intro pins s σ H x y v u Q I rx ry h
  obtain ⟨a, b, xs, ys, rfl, rfl, ha, hb, hx, hz, q1, q2⟩ := h
  cases rx
  cases ry
  obtain ⟨its, r1, p1, _⟩ := I.tuple ha
  obtain ⟨its2, r2, p2, _⟩ := I.tuple hb
  refine HT.cat_tup p1 p2 (fun z => hx (r1.nil_iff.mp z)) (fun z => ⟨.ref a, H, I, rfl, q1 (r2.nil_iff.mp z)⟩) (fun z => ?_) (by rw [← r1.length, ← r2.length]; exact hz)
  refine ⟨.ref s.heap.objs.size, _, I.laid (t' := s.toks) (o := .tup (xs ++ ys)) (fun b ob q => Heap.get?_push_of_some _ q) (Nat.le_refl _) ?_, rfl, q2 (fun w => z (r2.nil_iff.mpr w)) _ (I.hok.fresh (Nat.le_refl _))⟩
  exact ⟨by rw [List.length_append]; exact hz, _, r1.append r2, IsTup.new _ _⟩
end
end L2
namespace L2
open PySem PySem.Spec PyProof.Rows

noncomputable def ixN (n : Nat) (i : Int) : Option Nat := if 0 ≤ i then (if i < n then some i.toNat else none) else if -(n : Int) ≤ i then some (i + n).toNat else none
noncomputable def atI {α : Type} (xs : List α) (i : Int) : Option α := (ixN xs.length i).bind fun j => xs[j]?
theorem ixN_seq {n : Nat} {i : Int} {j : Nat} (h : ixN n i = some j) : seqIndex? i n = some j ∧ j < n ∧ -(n : Int) ≤ i ∧ i < n := by
  unfold ixN at h
  by_cases h0 : 0 ≤ i
  · rw [if_pos h0] at h
    by_cases h1 : i < n
    · rw [if_pos h1] at h
      have e : i.toNat = j := Option.some.inj h
      exact ⟨by rw [seqIndex_of h0 h1, e], by omega, by omega, h1⟩
    · rw [if_neg h1] at h; cases h
  · rw [if_neg h0] at h
    by_cases h1 : -(n : Int) ≤ i
    · rw [if_pos h1] at h
      have e : (i + n).toNat = j := Option.some.inj h
      exact ⟨by rw [seqIndex_neg (by omega) h1, e], by omega, h1, by omega⟩
    · rw [if_neg h1] at h; cases h
theorem atI_get {α : Type} {xs : List α} {i : Int} {v : α} (h : atI xs i = some v) : ∃ j, seqIndex? i xs.length = some j ∧ xs[j]? = some v ∧ j < xs.length ∧ -(xs.length : Int) ≤ i ∧ i < xs.length := by
  unfold atI at h
  cases e : ixN xs.length i with
  | none => rw [e] at h; cases h
  | some j =>
    rw [e] at h
    obtain ⟨h1, h2, h3, h4⟩ := ixN_seq e
    exact ⟨j, h1, h, h2, h3, h4⟩
theorem atI_nat {α : Type} {xs : List α} {j : Nat} {v : α} (h : xs[j]? = some v) : atI xs (j : Int) = some v := by
  have hj : j < xs.length := (List.getElem?_eq_some_iff.mp h).1
  have e : ixN xs.length (j : Int) = some j := by
    unfold ixN
    rw [if_pos (by omega), if_pos (by omega)]; simp
  unfold atI; rw [e]; exact h

noncomputable def PlainIx (b : Expr) : Prop := ∀ o i, subscripted b false o i = operate [o, i] (getItem o i)
noncomputable def IxR (X : Cx) (r : R2) : Prop :=
  ∀ (value slice : Expr) (pins : List (Addr × Obj)) (s : Shared) (σ : St) (H : Hp) (x y : V) (v u : Value) (Q : VK), Inv X pins σ H s → RelV x v → RelV y u → r x y H Q →
    subscripted slice false v u = operate [v, u] (getItem v u) → wpAny (model X.prog X.w) X.A (subscriptTail value slice v u) (EP X pins σ Q) X.xe s
noncomputable def MtR (X : Cx) (id : String) (r : V → List V → Hp → VK → Prop) : Prop :=
  ∀ (pins : List (Addr × Obj)) (s : Shared) (σ : St) (H : Hp) (x : V) (xs : List V) (v : Value) (us : List Value) (Q : VK), Inv X pins σ H s → RelV x v → Vals xs us → r x xs H Q →
    wpAny (model X.prog X.w) X.A (call (.builtin id) (v :: us)) (EP X pins σ Q) X.xe s
section
variable {X : Cx} {a b : Expr} {ta tb : TE} {pos : Pos}
theorem pe_ix {r : R2} (hr : IxR X r) (ha : PE X a ta) (hb : PE X b tb) (hs : PlainIx b) : PE X (.Subscript a b pos) (tOp r ta tb) := by
  intro pins s σ H Q I h
  exact Subscript_ (binT ha hb I h fun v u s2 x y H2 I2 rx ry q => hr a b pins s2 σ H2 x y v u Q I2 rx ry q (hs _ _))
inductive IRIxL (K : PySem.W.Frag) (x y : V) (H : Hp) (Q : VK) : Prop
  | mk (p : _) (xs : _) (i : _) (v : _) : x = .ref p → y = .int i → SqL K H p xs → atI xs i = some v → Q v H → IRIxL K x y H Q
noncomputable def rIxL (K : PySem.W.Frag) : R2 := fun x y H Q => IRIxL K x y H Q
inductive IRIxT (K : PySem.W.Frag) (x y : V) (H : Hp) (Q : VK) : Prop
  | mk (p : _) (xs : _) (i : _) (v : _) : x = .ref p → y = .int i → SqT K H p xs → atI xs i = some v → Q v H → IRIxT K x y H Q
noncomputable def rIxT (K : PySem.W.Frag) : R2 := fun x y H Q => IRIxT K x y H Q
noncomputable def rIxS : R2 := fun x y H Q => ∃ z i c, x = .str z ∧ y = .int i ∧ z.length ≤ sizeLine ∧ atI z.cps.toList i = some c ∧ Q (.str ⟨#[c]⟩) H
theorem ix_list : IxR X (rIxL X.K) := by
  intro value slice pins s σ H x y v u Q I rx ry h hs
  obtain ⟨p, xs, i, z, rfl, rfl, hq, he, q⟩ := h
  cases rx
  obtain ⟨t, rfl⟩ := ry
  obtain ⟨its, r, pl, hz⟩ := I.list hq
  obtain ⟨j, h1, h2, h3, h4, h5⟩ := atI_get he
  obtain ⟨w, ew, rw'⟩ := r.get h2
  have hl := r.length
  have hn := line63
  have fin : EP X pins σ Q w s := ⟨z, H, I, rw', q⟩
  by_cases h0 : 0 ≤ i
  · have hj : i.toNat = j := by
      rw [seqIndex_of h0 h5] at h1
      exact Option.some.inj h1
    exact item_listR pl.isList h0 (by omega) (by rw [hj]; simpa using ew) fin hs
  · have hj : (i + (its.toArray.size : Int)).toNat = j := by
      rw [seqIndex_neg (by omega) h4] at h1
      rw [List.size_toArray, ← hl]
      exact Option.some.inj h1
    exact subscriptTail_builtinR (x := w) pl.isList.typeIs slot_list_getitem.lookup
      (wpAny_getItem_list_neg (Q := fun r s' => r = w ∧ EP X pins σ Q r s') pl.isList (by omega) (by rw [List.size_toArray] <;> omega) (by omega) (by rw [hj]; simpa using ew) ⟨rfl, fin⟩) hs
theorem ix_tup : IxR X (rIxT X.K) := by
  intro value slice pins s σ H x y v u Q I rx ry h hs
  obtain ⟨p, xs, i, z, rfl, rfl, hq, he, q⟩ := h
  cases rx
  obtain ⟨t, rfl⟩ := ry
  obtain ⟨its, r, pl, hz⟩ := I.tuple hq
  obtain ⟨j, h1, h2, h3, h4, h5⟩ := atI_get he
  obtain ⟨w, ew, rw'⟩ := r.get h2
  have hl := r.length
  have hn := line63
  have fin : EP X pins σ Q w s := ⟨z, H, I, rw', q⟩
  exact subscriptTail_builtinR (x := w) pl.typeIs slot_tuple_getitem.lookup
    (getItem_tuple (j := j) (Q := fun r s' => r = w ∧ EP X pins σ Q r s') pl (by omega) (by omega) (by rw [List.size_toArray, ← hl]; exact h1) (by simpa using ew) ⟨rfl, fin⟩) hs
theorem ix_str : IxR X rIxS := by
  intro value slice pins s σ H x y v u Q I rx ry h hs
  obtain ⟨z, i, c, rfl, rfl, hz, he, q⟩ := h
  obtain ⟨t, rfl⟩ := rx
  obtain ⟨t', rfl⟩ := ry
  obtain ⟨j, h1, h2, h3, h4, h5⟩ := atI_get he
  have hl : z.cps.toList.length = z.length := by simp [Str.length]
  rw [hl] at h1 h4 h5
  have hn := line63
  exact tail_any (typeIs_str s z t) slot_str_getitem.lookup (getItem_str (c := c) (by
    have e1 : decide (i < -(2 ^ 63 : Int)) = false := decide_eq_false (by omega)
    have e2 : decide (i ≥ 2 ^ 63) = false := decide_eq_false (by omega)
    rw [e1, e2, Bool.or_false]) (by rw [h1]; simpa using h2) ⟨.str ⟨#[c]⟩, H, I.tok _, ⟨_, rfl⟩, q⟩) hs


theorem slice_bounds (lo hi : Option Int) (n : Nat) : (sliceBounds lo hi none n).1 = ((HT.sIx n 0 lo : Nat) : Int) ∧ (sliceBounds lo hi none n).2.1 = ((HT.sIx n n hi : Nat) : Int) ∧ (sliceBounds lo hi none n).2.2 = 1 := by
  refine ⟨?_, ?_, rfl⟩
  · cases lo with
    | none => simp [sliceBounds, HT.sIx]
    | some i =>
      simp only [sliceBounds, HT.sIx, Option.getD_none, show (1 : Int) > 0 by decide, if_true]
      by_cases h : i < 0
      · simp only [h, if_true] <;> omega
      · simp only [h, if_false] <;> omega
  · cases hi with
    | none => simp [sliceBounds, HT.sIx]
    | some i =>
      simp only [sliceBounds, HT.sIx, Option.getD_none, show (1 : Int) > 0 by decide, if_true]
      by_cases h : i < 0
      · simp only [h, if_true] <;> omega
      · simp only [h, if_false] <;> omega
theorem slicePick_cut (its : List Value) (lo hi : Option Int) : slicePick its.toArray lo hi none = ((its.drop (HT.sIx its.length 0 lo)).take (HT.sIx its.length its.length hi - HT.sIx its.length 0 lo)).toArray := by
  obtain ⟨h1, h2, h3⟩ := slice_bounds lo hi its.toArray.size
  unfold slicePick
  rw [h1, h2, h3]
  simp only [sliceRange_one, pick_run, List.size_toArray] <;> rfl
inductive IRSlL (K : PySem.W.Frag) (x : V) (lo hi : Option Int) (H : Hp) (Q : VK) : Prop
  | mk (a : _) (xs : _) : x = .ref a → SqL K H a xs → (∀ p, H p = none → Q (.ref p) (upd H p (.lst (cutV xs lo hi)))) → IRSlL K x lo hi H Q
noncomputable def rSlL (K : PySem.W.Frag) : V → Option Int → Option Int → Hp → VK → Prop := fun x lo hi H Q => IRSlL K x lo hi H Q
theorem sl_list : SlR X (rSlL X.K) := by
  intro pins s σ H x v vl vu lo hi sl Q I rx hs pl pu h
  obtain ⟨a, xs, rfl, hx, q⟩ := h
  cases rx
  obtain ⟨its, r, ht, hz⟩ := I.list hx
  have hlen := r.length
  refine ⟨"list", _, slot_list_getitem.lookup, ht.isList.typeIs, ?_⟩
  refine wpAny_getItem_list_slice ht.isList hs pl pu .none (by simp) ?_ (by rw [List.size_toArray] <;> omega)
  rw [slicePick_cut, ← hlen]
  refine ⟨.ref s.heap.objs.size, _, I.laid (t' := s.toks) (o := .lst (cutV xs lo hi)) (fun b ob q => Heap.get?_push_of_some _ q) (Nat.le_refl _) ?_, rfl, q _ (I.hok.fresh (Nat.le_refl _))⟩
  exact ⟨Nat.le_trans (cutV_length xs lo hi) hz, _, 0, (r.drop (HT.sIx xs.length 0 lo)).take (HT.sIx xs.length xs.length hi - HT.sIx xs.length 0 lo), Heap.get?_push_size _ rfl⟩

noncomputable def flatV : V → Bool
  | .non => true
  | .bl _ => true
  | .int _ => true
  | .str _ => true
  | _ => false
noncomputable def eqV : V → V → Bool
  | .non, .non => true
  | .bl a, .bl b => a == b
  | .bl a, .int b => (if a then 1 else 0) == b
  | .int a, .bl b => a == (if b then 1 else 0)
  | .int a, .int b => a == b
  | .str a, .str b => a == b
  | _, _ => false
theorem eqAt_V {A : Around} {s : Shared} {y x : V} {u v : Value} (ry : RelV y u) (rx : RelV x v) (fy : flatV y = true) (fx : flatV x = true) : SeqAt.EqAt A s u v (eqV y x) := by
  cases y with
  | non =>
    cases ry
    cases x with
    | non => cases rx; exact SeqAt.EqAt.same _
    | bl b => cases rx; exact SeqAt.EqAt.none_bool b
    | int b => obtain ⟨t, rfl⟩ := rx; exact SeqAt.EqAt.none_int b t
    | str b => obtain ⟨t, rfl⟩ := rx; exact SeqAt.EqAt.none_str b t
    | _ => exact absurd (show false = true from fx) Bool.false_ne_true
  | bl a =>
    cases ry
    cases x with
    | non => cases rx; exact SeqAt.EqAt.bool_none a
    | bl b => cases rx; exact SeqAt.EqAt.bool_bool a b
    | int b => obtain ⟨t, rfl⟩ := rx; exact SeqAt.EqAt.bool_int a b t
    | str b => obtain ⟨t, rfl⟩ := rx; exact SeqAt.EqAt.bool_str a b t
    | _ => exact absurd (show false = true from fx) Bool.false_ne_true
  | int a =>
    obtain ⟨t', rfl⟩ := ry
    cases x with
    | non => cases rx; exact SeqAt.EqAt.int_none a t'
    | bl b => cases rx; exact SeqAt.EqAt.int_bool a t' b
    | int b => obtain ⟨t, rfl⟩ := rx; exact SeqAt.EqAt.int_int a t' b t
    | str b => obtain ⟨t, rfl⟩ := rx; exact SeqAt.EqAt.int_str a t' b t
    | _ => exact absurd (show false = true from fx) Bool.false_ne_true
  | str a =>
    obtain ⟨t', rfl⟩ := ry
    cases x with
    | non => cases rx; exact SeqAt.EqAt.str_none a t'
    | bl b => cases rx; exact SeqAt.EqAt.str_bool a t' b
    | int b => obtain ⟨t, rfl⟩ := rx; exact SeqAt.EqAt.str_int a t' b t
    | str b => obtain ⟨t, rfl⟩ := rx; exact SeqAt.EqAt.str_str a t' b t
    | _ => exact absurd (show false = true from fx) Bool.false_ne_true
  | _ => exact absurd (show false = true from fy) Bool.false_ne_true
noncomputable def eqU (x : V) (u : Value) : Bool := match u with
  | .none => eqV .non x
  | .bool b => eqV (.bl b) x
  | .int i _ => eqV (.int i) x
  | .str z _ => eqV (.str z) x
  | _ => false
theorem eqU_of {x y : V} {u : Value} (r : RelV y u) (f : flatV y = true) : eqU x u = eqV y x := by
  cases y with
  | non => cases r; rfl
  | bl b => cases r; rfl
  | int i => obtain ⟨t, rfl⟩ := r; rfl
  | str z => obtain ⟨t, rfl⟩ := r; rfl
  | _ => exact absurd (show false = true from f) Bool.false_ne_true
theorem any_eqU {x : V} : ∀ {xs : List V} {us : List Value}, Vals xs us → xs.all flatV = true → us.any (eqU x) = xs.any fun y => eqV y x
  | _, _, .nil, _ => rfl
  | y :: xs, u :: us, .cons r t, f => by
    rw [List.all_cons, Bool.and_eq_true] at f
    rw [List.any_cons, List.any_cons, eqU_of r f.1, any_eqU t f.2]
theorem mem_eqAt {A : Around} {s : Shared} {x : V} {v : Value} (rx : RelV x v) (fx : flatV x = true) : ∀ {xs : List V} {us : List Value}, Vals xs us → xs.all flatV = true → ∀ u ∈ us, SeqAt.EqAt A s u v (eqU x u)
  | _, _, .nil, _ => fun u hu => by cases hu
  | y :: xs, u :: us, .cons r t, f => fun u' hu => by
    rw [List.all_cons, Bool.and_eq_true] at f
    rcases List.mem_cons.mp hu with rfl | hu
    · rw [eqU_of r f.1]; exact eqAt_V r rx f.1 fx
    · exact mem_eqAt rx fx t f.2 u' hu
noncomputable def inV (x : V) (xs : List V) : Bool := xs.any fun y => eqV y x
inductive IRIn (K : PySem.W.Frag) (neg : Bool) (x y : V) (H : Hp) (Q : VK) : Prop
  | mk (p : _) (xs : _) : y = .ref p → ((SqL K H p xs ∨ SqT K H p xs)) → flatV x = true → xs.all flatV = true → (Q (.bl (if neg then !inV x xs else inV x xs)) H) → IRIn K neg x y H Q
noncomputable def rIn (K : PySem.W.Frag) (neg : Bool) : R2 := fun x y H Q => IRIn K neg x y H Q
theorem op_in_seq : OpR X (compareOp .In) (rIn X.K false) := by
  intro pins s σ H x y v u Q I rx ry h
  obtain ⟨p, xs, rfl, hq, fx, fs, q⟩ := h
  cases ry
  rcases hq with hq | hq
  · obtain ⟨its, r, pl, hz⟩ := I.list hq
    refine SeqAt.in_listAt (eqU x) pl.isList (fun w hw => mem_eqAt rx fx r fs w (by simpa using hw)) ⟨.bl _, H, I, rfl, ?_⟩
    rw [show its.toArray.any (eqU x) = its.any (eqU x) by simp, any_eqU r fs]
    exact q
  · obtain ⟨its, r, pl, hz⟩ := I.tuple hq
    refine SeqAt.in_tupleAt (eqU x) pl (fun w hw => mem_eqAt rx fx r fs w (by simpa using hw)) ⟨.bl _, H, I, rfl, ?_⟩
    rw [show its.toArray.any (eqU x) = its.any (eqU x) by simp, any_eqU r fs]
    exact q
theorem op_notIn_seq : OpR X (compareOp .NotIn) (rIn X.K true) := by
  intro pins s σ H x y v u Q I rx ry h
  obtain ⟨p, xs, rfl, hq, fx, fs, q⟩ := h
  cases ry
  rcases hq with hq | hq
  · obtain ⟨its, r, pl, hz⟩ := I.list hq
    refine SeqAt.notIn_listAt (eqU x) pl.isList (fun w hw => mem_eqAt rx fx r fs w (by simpa using hw)) ⟨.bl _, H, I, rfl, ?_⟩
    rw [show its.toArray.any (eqU x) = its.any (eqU x) by simp, any_eqU r fs]
    exact q
  · obtain ⟨its, r, pl, hz⟩ := I.tuple hq
    refine SeqAt.notIn_tupleAt (eqU x) pl (fun w hw => mem_eqAt rx fx r fs w (by simpa using hw)) ⟨.bl _, H, I, rfl, ?_⟩
    rw [show its.toArray.any (eqU x) = its.any (eqU x) by simp, any_eqU r fs]
    exact q

inductive ICall_len_seq (K : PySem.W.Frag) (xs : List V) (H : Hp) (Q : VK) : Prop
  | mk (p : _) (ys : _) : xs = [.ref p] → ((SqL K H p ys ∨ SqT K H p ys)) → Q (.int ys.length) H → ICall_len_seq K xs H Q
theorem call_len_seq : CallR X (.builtin "len") (ICall_len_seq X.K) := by
  intro pins s σ H xs us Q I r h
  obtain ⟨p, ys, rfl, hq, q⟩ := h
  obtain ⟨u, rfl, rx⟩ := vals1 r
  cases rx
  have hn := line63
  rcases hq with hq | hq
  · obtain ⟨its, r', pl, hz⟩ := I.list hq
    have hlen := r'.length
    exact Calls.call_len_list pl.isList (by simp only [List.size_toArray] <;> omega) ⟨.int ys.length, H, I.tok _, ⟨s.toks + 1, by rw [List.size_toArray, hlen]⟩, q⟩
  · obtain ⟨its, r', pl, hz⟩ := I.tuple hq
    have hlen := r'.length
    exact len_tuple pl (by simp only [List.size_toArray] <;> omega) ⟨.int ys.length, H, I.tok _, ⟨s.toks + 1, by rw [List.size_toArray, hlen]⟩, q⟩
inductive ICall_len_str (xs : List V) (H : Hp) (Q : VK) : Prop
  | mk (z : _) : xs = [.str z] → z.length ≤ sizeLine → Q (.int z.length) H → ICall_len_str xs H Q
theorem call_len_str : CallR X (.builtin "len") ICall_len_str := by
  intro pins s σ H xs us Q I r h
  obtain ⟨z, rfl, hz, q⟩ := h
  obtain ⟨u, rfl, t, rfl⟩ := vals1 r
  have hn := line63
  exact len_str (by omega) ⟨.int z.length, H, I.tok _, ⟨_, rfl⟩, q⟩
inductive ICall_list_of (K : PySem.W.Frag) (xs : List V) (H : Hp) (Q : VK) : Prop
  | mk (p : _) (ys : _) : xs = [.ref p] → ((SqL K H p ys ∨ SqT K H p ys)) → (∀ l, H l = none → Q (.ref l) (upd H l (.lst ys))) → ICall_list_of K xs H Q
theorem call_list_of : CallR X (.type "list") (ICall_list_of X.K) := by
  intro pins s σ H xs us Q I r h
  obtain ⟨p, ys, rfl, hq, q⟩ := h
  obtain ⟨u, rfl, rx⟩ := vals1 r
  cases rx
  have fin : ∀ (its : List Value), Vals ys its → ys.length ≤ sizeLine → ∀ (h' : Heap) (c' : Nat), (∀ b o', s.heap.get? b = some o' → h'.get? b = some o') →
      h'.get? s.heap.objs.size = some { cls := .type "list", dict := none, data := .seq its.toArray c', slots := #[] } → EP X pins σ Q (.ref s.heap.objs.size) { s with heap := h' } := fun its r' hz h' c' kp e =>
    ⟨.ref s.heap.objs.size, _, I.laid (t' := s.toks) kp (Nat.le_refl _) (show ObjOk X.prog X.w _ h' _ (.lst ys) from ⟨hz, its, c', r', e⟩), rfl, q _ (I.hok.fresh (Nat.le_refl _))⟩
  rcases hq with hq | hq
  · obtain ⟨its, r', pl, hz⟩ := I.list hq
    have hlen := r'.length
    obtain ⟨o, ho, hc, n, hd⟩ := pl.isList
    exact call_list_seq p (.inl rfl) ho hc hd (fun h' c' kp e => fin its r' hz h' c' kp e) (by simp only [List.size_toArray] <;> omega)
  · obtain ⟨its, r', pl, hz⟩ := I.tuple hq
    have hlen := r'.length
    obtain ⟨o, ho, hc, n, hd⟩ := pl
    exact call_list_seq p (.inr rfl) ho hc hd (fun h' c' kp e => fin its r' hz h' c' kp e) (by simp only [List.size_toArray] <;> omega)

noncomputable def tyV (K : PySem.W.Frag) (T : String) (x : V) (H : Hp) : Prop := match x with
  | .str _ => T = "str"
  | .int _ => T = "int"
  | .ref p => (T = "list" ∧ ∃ xs, SqL K H p xs) ∨ (T = "tuple" ∧ ∃ o, K.lookup p = some o ∧ o.cls = .type "tuple" ∧ o.dict = none) ∨
      (T = "dict" ∧ ((∃ kvs, H p = some (.dK kvs)) ∨ ∃ kvs, H p = some (.dT kvs))) ∨ (T = "set" ∧ ∃ S n, H p = some (.set S n))
  | _ => False
theorem tyV_is {pins : List (Addr × Obj)} {σ : St} {H : Hp} {s : Shared} {T : String} {x : V} {v : Value} (I : Inv X pins σ H s) (r : RelV x v) (ty : tyV X.K T x H) :
    s.TypeIs v T ∧ ∀ a, v = .ref a → ∃ ob, s.heap.get? a = some ob ∧ ob.dict = none := by
  cases x with
  | str z =>
    obtain ⟨t, rfl⟩ := r
    cases (show T = "str" from ty)
    exact ⟨typeIs_str s z t, fun _ e => nomatch e⟩
  | int i =>
    obtain ⟨t, rfl⟩ := r
    cases (show T = "int" from ty)
    exact ⟨typeIs_int s i t, fun _ e => nomatch e⟩
  | ref p =>
    cases r
    rcases ty with ⟨rfl, xs, hq⟩ | ⟨rfl, o, hk, hc, hd⟩ | ⟨rfl, hk⟩ | ⟨rfl, S, n, hk⟩
    · obtain ⟨its, _, pl, _⟩ := I.list hq
      refine ⟨pl.isList.typeIs, fun a e => ?_⟩
      cases e
      obtain ⟨o, n, e, c, hd, _⟩ := pl
      exact ⟨o, e, hd⟩
    · refine ⟨⟨o, I.kIn p o hk, hc⟩, fun a e => ?_⟩
      cases e
      exact ⟨o, I.kIn _ o hk, hd⟩
    · have z : ∃ o, s.heap.get? p = some o ∧ o.ExactDict := by
        rcases hk with ⟨kvs, hk⟩ | ⟨kvs, hk⟩
        · obtain ⟨_, _, _, _, o, _, _, e, ex, _⟩ := I.hok p _ hk
          exact ⟨o, e, ex⟩
        · obtain ⟨_, _, _, _, o, _, _, e, ex, _⟩ := I.hok p _ hk
          exact ⟨o, e, ex⟩
      obtain ⟨o, e, ex⟩ := z
      refine ⟨⟨o, e, ex.1⟩, fun a e2 => ?_⟩
      cases e2
      exact ⟨o, e, ex.2.1⟩
    · obtain ⟨o, _, _, _, e, ex, _⟩ := I.hok p _ hk
      refine ⟨⟨o, e, ex.1⟩, fun a e2 => ?_⟩
      cases e2
      exact ⟨o, e, ex.2.1⟩
  | _ => exact False.elim ty
noncomputable def tBM (K : PySem.W.Frag) (T : String) (r : V → List V → Hp → VK → Prop) (to : TE) (t : TA) : TE := fun σ H Q => to σ H fun x H1 => tyV K T x H1 ∧ t σ H1 fun xs H2 => r x xs H2 Q
variable {o e : Expr} {es : List Expr} {to : TE} {t : TA} {name : Str} {apos cpos : Pos} {T id : String} {r : V → List V → Hp → VK → Prop}
theorem pe_bm (pa : PlainAttrs T) (slot : Slot T name id) (hty : typeOf (.builtin id) = pure (.type "method_descriptor")) (hm : MtR X id r) (ho : PE X o to) (ha : PA X (e :: es) t)
    (hbase : attributeBase o name X.env (eval o X.env) = eval o X.env := by rfl)
    (hfew : ((backTo cpos (starEach (e :: es) X.env)).all (fun x => !x.1) && (backToKw cpos (keywordEach [] X.env)).all (fun x => x.1.isSome)
      && decide ((e :: es).length + ([] : List Keyword).length + (if ([] : List Keyword).isEmpty then 0 else 1) < 30)) = true := by rfl)
    (hline : (apos.endLine == cpos.line) = true := by rfl) (hs : starEach (e :: es) X.env = (false, eval e X.env) :: starEach es X.env := by rfl) (hplain : (backTo cpos (starEach es X.env)).any (·.1) = false := by rfl) :
    PE X (.Call (.Attribute o name apos) (e :: es) [] cpos) (tBM X.K T r to t) := by
  intro pins s σ H Q I h
  refine wpAny_Call_method_late hbase hfew hline rfl (thn (ho pins s σ H _ I h) fun v s1 ⟨x, H1, I1, r1, ty, q1⟩ => ?_)
  obtain ⟨h1, h2⟩ := tyV_is I1 r1 ty
  refine ⟨T, id, pa, slot, hty, h1, h2, ?_⟩
  have hA := ha cpos pins s1 σ H1 _ I1 q1
  rw [hs] at hA ⊢
  refine Calls.callWith_builtin (by show (false || (backTo cpos (starEach es X.env)).any (·.1)) = false; rw [hplain] <;> rfl) (Calls.evalArgs_plain ?_)
  exact thn hA fun us s2 ⟨vs, H2, I2, r2, q2⟩ => hm pins s2 σ H2 x vs v us Q I2 r1 r2 q2
/- xs.append(e), list.index on a module's tuple .. are MtR facts of 06m -/
end
end L2
namespace L2
open PySem PySem.Spec PyProof.Rows
noncomputable def MtM (X : Cx) (id : String) (r : V → List V → Hp → VK → Prop) : Prop :=
  ∀ (pins : List (Addr × Obj)) (s : Shared) (σ : St) (H : Hp) (x : V) (xs : List V) (v : Value) (us : List Value) (Q : VK), Inv X pins σ H s → RelV x v → Vals xs us → r x xs H Q →
    wpAny (model X.prog X.w) X.A (call (.builtin id) (v :: us)) (EP X pins σ Q) X.xe s

theorem Vals.one : ∀ {x : V} {us : List Value}, Vals [x] us → ∃ u, us = [u] ∧ RelV x u
  := by
  intro x us h
  cases h with
  | cons r q => cases q; exact ⟨_, rfl, r⟩
theorem Vals.two : ∀ {x y : V} {us : List Value}, Vals [x, y] us → ∃ u v, us = [u, v] ∧ RelV x u ∧ RelV y v
  := by
  intro x y us h
  cases h with
  | cons r z => cases z with
    | cons q z => cases z; exact ⟨_, _, rfl, r, q⟩
section
variable {X : Cx} {pins : List (Addr × Obj)} {σ : St} {H : Hp} {s : Shared} {l b : Addr} {xs ys zs : List V}

theorem Inv.lset {its its' : List Value} {n : Nat} {f : Array Value → Array Value} {t' : Nat} (I : Inv X pins σ H s) (hH : H l = some (.lst xs))
    (e : s.heap.get? l = some { cls := .type "list", data := .seq its.toArray n }) (hf : f its.toArray = its'.toArray) (hv : Vals ys its') (hz : ys.length ≤ sizeLine) :
    Inv X pins σ (upd H l (.lst ys)) { s with heap := s.heap.update l (Obj.mapSeq f), toks := t' } := by
  have q := PySem.IsL.update e f
  rw [hf] at q
  refine I.write (x := l) (e := l) (by rw [hH]; exact trivial) (.inl rfl) (fun b' u hb hu => (Heap.get?_update_other s.heap (Obj.mapSeq f) (Ne.symm hb)).trans hu) ⟨_, q⟩ ?_
  exact ⟨hz, its', _, hv, q⟩
theorem Inv.lnew {its : List Value} {t' : Nat} (I : Inv X pins σ H s) (hv : Vals ys its) (hz : ys.length ≤ sizeLine) :
    Inv X pins σ (upd H s.heap.objs.size (.lst ys)) { s with heap := s.heap.push { cls := .type "list", data := .seq its.toArray }, toks := t' } :=
  I.laid (fun _ _ q => Heap.get?_push_of_some _ q) (Nat.le_refl _) ⟨hz, its, 0, hv, Heap.get?_push_size _ rfl⟩
theorem Inv.fresh (I : Inv X pins σ H s) : H s.heap.objs.size = none := I.hok.fresh (Nat.le_refl _)
theorem Inv.lstM (I : Inv X pins σ H s) (hH : H l = some (.lst xs)) : xs.length ≤ sizeLine ∧ ∃ (its : List Value) (n : Nat), Vals xs its ∧ xs.length = its.length ∧ s.heap.get? l = some { cls := .type "list", data := .seq its.toArray n } := by
  obtain ⟨z, its, n, r, e⟩ := I.hok l _ hH
  exact ⟨z, its, n, r, r.length, e⟩
end
section
variable {X : Cx}

inductive IRAppend (x : V) (vs : List V) (H : Hp) (Q : VK) : Prop
  | mk (l : _) (xs : _) (y : _) : x = .ref l → vs = [y] → H l = some (.lst xs) → xs.length < sizeLine → Q .non (upd H l (.lst (xs ++ [y]))) → IRAppend x vs H Q
noncomputable def rAppend : V → List V → Hp → VK → Prop := fun x vs H Q => IRAppend x vs H Q
theorem mt_append : MtM X "list.append" rAppend := by
  intro pins s σ H x vs v us Q I rx rv h
  obtain ⟨l, xs, y, rfl, rfl, hH, hz, q⟩ := h
  cases rx
  obtain ⟨u, rfl, ru⟩ := rv.one
  obtain ⟨z, its, n, r, hl, e⟩ := I.lstM hH
  refine call_meets F.slot_list_append ⟨_, e, rfl⟩ F.entry_list_append (F.args_list_append_2 _ _) (PySem.list_append l its.toArray n u (by rw [List.size_toArray]; omega)) ⟨e, ?_⟩
  refine ⟨.non, _, I.lset (its' := its ++ [u]) hH e (by simp) (r.append (.cons ru .nil)) ?_, rfl, q⟩
  rw [List.length_append, List.length_singleton]
  omega

inductive IRCat (x y : V) (H : Hp) (Q : VK) : Prop
  | mk (l : _) (b : _) (xs : _) (zs : _) : x = .ref l → y = .ref b → H l = some (.lst xs) → H b = some (.lst zs) → xs.length + zs.length ≤ sizeLine → (∀ p, H p = none → Q (.ref p) (upd H p (.lst (xs ++ zs)))) → IRCat x y H Q
noncomputable def rCat : R2 := fun x y H Q => IRCat x y H Q
theorem op_cat : OpR X (binaryOp .Add) rCat := by
  intro pins s σ H x y v u Q I rx ry h
  obtain ⟨l, b, xs, zs, rfl, rfl, hH, hB, hz, q⟩ := h
  cases rx
  cases ry
  obtain ⟨z, its, n, r, hl, e⟩ := I.lstM hH
  obtain ⟨z2, its2, n2, r2, hl2, e2⟩ := I.lstM hB
  refine PySem.P.add_list e e2 ?_ (by rw [List.size_toArray, List.size_toArray]; omega)
  have ea : its.toArray ++ its2.toArray = (its ++ its2).toArray := by simp
  rw [ea]
  exact ⟨.ref _, _, I.lnew (t' := s.toks) (r.append r2) (by rw [List.length_append]; omega), rfl, q _ I.fresh⟩

end

section
variable {prog : Program} {w : World} {A : Around} {E : Value → Shared → Prop} {s : Shared}
end
section
variable {X : Cx}
end
end L2
namespace Att
open PySem PySem.W PySem.Calls PyProof.Rows

theorem ints_of_wellAll {P : Params} {h : Heap} : ∀ (ns : List Int) (vs : List Value), WellAll P h vs (ns.map WData.int) → IntsAre vs ns := by
  intro ns
  induction ns with
  | nil =>
    intro vs w
    rw [List.map_nil] at w
    cases w
    exact .nil
  | cons n ns ih =>
    intro vs w
    rw [List.map_cons] at w
    cases w with
    | cons a b =>
      cases a
      exact .cons _ _ (ih _ b)
theorem script_of {l : OpenLaw} {n : Nat} (hn : l.most = some n) {P : Params} {h : Heap} {args : List WData} {vals : List Value}
    (hpre : l.row.toRowW.claim.pre args = true) (hwl : WellAll P h vals args) :
    ∃ a vs ns, vals = [Value.ref a] ∧ args = [WData.list (ns.map WData.int)] ∧ h.get? a = some { cls := .type "list", data := .seq vs.toArray } ∧ IntsAre vs ns ∧ ns.length ≤ n := by
  have hsh : WShape.hasAll [] args [.list .int] = true := (pre_splitW hpre).1
  have hc : l.pre.holds [] { args := args } = true := (pre_splitW hpre).2
  obtain ⟨d, r, rfl, h1, h2⟩ := hasAllW_cons hsh
  obtain rfl := hasAllW_nil h2
  obtain ⟨xs, rfl, h3⟩ := hasW_list h1
  obtain ⟨ns, rfl⟩ := items_int h3
  have hlen : ns.length ≤ n := by
    unfold OpenLaw.pre at hc
    have h4 : (WTm.not (.lt (.lit (.int (n : Int))) (.len (.arg 0)))).holds [] { args := [.list (ns.map .int)] } = true := by
      have h4 := (holds_andW hc).1
      rw [hn] at h4
      exact h4
    have h5 := condW_of h4 (w_not (w_lt w_lit (w_len_list (w_arg rfl))))
    rw [List.length_map] at h5
    refine Nat.le_of_not_lt fun q => ?_
    have q' : (n : Int) < ((ns.length : Nat) : Int) := by omega
    first
      | (rw [decide_eq_true q'] at h5; exact absurd h5 (by decide))
      | (simp at h5; omega)
  cases hwl with
  | cons w1 w2 =>
    cases w2
    cases w1 with
    | list ho hall => exact ⟨_, _, ns, rfl, rfl, ho, ints_of_wellAll ns _ hall, hlen⟩
theorem post_true (l : OpenLaw) (args : List WData) : l.row.toRowW.claim.post args (.bool true) args = true :=
  postW_of (r := l.row.toRowW) (X := (true == true))
    (show WShape.has [] (.bool true) .bool = true by first | rfl | decide | simp [WShape.has, WShape.arms, WShape.armsAll])
    (show (WTm.eq .res (.lit (.bool true))).value [] { args := args, res := some (.bool true), after := args } = some (.bool (true == true)) from w_eq_bool (w_res rfl) w_lit) rfl

theorem attach_call {l : OpenLaw} {n : Nat} {q : Program} {loose : List Str} {XP : (Str → Option Value) → Heap → Prop} {YP : World → Heap → Prop} {d : DefRec}
    (hn : l.most = some n) (hdf : d.params.defaults = [])
    (call : ∀ (w : World) (s₀ s₁ : Shared) (mg mb : Str → Option Value) (fa : Addr) (o : Obj) (pm cd doc : Value) (a : Addr) (vs : List Value) (ns : List Int),
      Ground q loose [] XP w s₀ mg mb s₁.heap → YP w s₁.heap →
      s₁.heap.get? fa = some o → o.data = .func (docDef d.name d.params d.body d.scope pm cd doc) → s₁.heap.CodeRec cd d.name → mg d.name = some (.ref fa) →
      s₁.heap.get? a = some { cls := .type "list", data := .seq vs.toArray } → IntsAre vs ns → ns.length ≤ n → s₁.gens = #[] →
      codeAny (model l.prog w) callerA (.call (.ref fa) ⟨[.ref a], []⟩) (fun r s' => r = .ok (.ret (.bool true)) ∧ OldK s₁.heap s'.heap ∧ s'.os = s₁.os ∧ AllBare s'.gens) s₁) :
    WalkO q loose XP YP l.row.toRowW d [] (fun f vs => PySem.call f vs) := by
  intro w s₀ s₁ mg mb G Y fa o pm cd doc dV kV ho hd hcd hD hmg hg args vals as hpre hlay hrd hwl hlo
  obtain rfl : dV = .none := Dflts.none hD hdf
  obtain rfl : kV = .none := Dflts.noKw hD
  obtain ⟨a, vs, ns, rfl, rfl, hobj, hints, hlen⟩ := script_of hn hpre hwl
  refine enter_call (codeAny_mono (call w s₀ s₁ mg mb fa o pm cd doc a vs ns G Y ho (fd_plain hd) hcd hmg hobj hints hlen hg) fun r s' hq => ?_)
  obtain ⟨rfl, h2, h3, h4⟩ := hq
  exact ⟨.inl ⟨.bool true, .bool true, [], rfl, fun _ => rfl, .bool true, post_true l _, fun _ => ⟨List.Pairwise.nil, fun _ hm => (nomatch hm)⟩⟩, h2, h3, h4⟩

section
variable {prog : Program} {w : World} {A : Around} {E : Value → Shared → Prop} {s : Shared} {K : Frag}

noncomputable def ledger (h : Heap) (L d : Addr) : List (Addr × Obj) := (List.range h.objs.size).filterMap fun a => if a = L ∨ a = d then none else (h.get? a).map fun o => (a, o)
end
end Att
namespace L2
open PySem PySem.Spec PyProof.Rows
theorem vals_ints : ∀ {vs : List Value} {ns : List Int}, IntsAre vs ns → Vals (ns.map V.int) vs
  | _, _, .nil => .nil
  | _, _, .cons n t h => .cons ⟨t, rfl⟩ (vals_ints h)
noncomputable def Only (H : Hp) : Prop := ∀ b, H b = none ∨ ∃ o xs, H b = some (.frz o (.lst xs))
theorem law_call {P : Program} {w : World} {K : PySem.W.Frag} {mg mb : Str → Option Value} {CX : CXT} {k : Nat} {fa a : Addr} {fd : FuncData} {x : Str} {sp : Sp} {s₁ : Shared} {vs : List Value} {ns : List Int}
    (KX : K.In s₁.heap) (hns : s₁.heap.Ns mainGlobals mg) (hb : s₁.heap.Ns builtinsNs mb) (hbb : ∀ x : Str, x ≠ "__name__" → mb x = bootBuiltins x) (hlim : s₁.heap.NoLimit) (hg : s₁.gens = #[])
    (ha : s₁.heap.get? a = some { cls := .type "list", data := .seq vs.toArray }) (hi : IntsAre vs ns) (hl : ns.length ≤ sizeLine) (hr : Room k callerA)
    (F : ∀ base : Heap, K.In base → base.Ns mainGlobals mg → FnOk P w K mg base CX k fa fd [x] sp) (hbind : ∀ (s : Shared) (u : Value), BindsTo s fd ⟨[u], []⟩ [(x, u)])
    (hsp : ∀ H : Hp, Only H → SqL K H a (ns.map V.int) → sp [.ref a] H (fun v _ => v = .bl true) fun _ _ _ => False)
    (hCX : ∀ H e s', CX [] H s₁ (fun _ _ _ => False) e s' → False) :
    codeAny (model P w) callerA (.call (.ref fa) ⟨[.ref a], []⟩) (fun r s' => r = .ok (.ret (.bool true)) ∧ OldK s₁.heap s'.heap ∧ s'.os = s₁.os ∧ AllBare s'.gens) s₁ := by
  have rv := vals_ints hi
  have lenV := hi.length
  -- from an abstract heap in which nothing but the script may be tracked
  have core : ∀ H : Hp, Only H → SqL K H a (ns.map V.int) → HOk P w H s₁.heap → (∀ b, H b ≠ none → b = a) → (H a ≠ none → K.lookup a = none) →
      codeAny (model P w) callerA (.call (.ref fa) ⟨[.ref a], []⟩) (fun r s' => r = .ok (.ret (.bool true)) ∧ OldK s₁.heap s'.heap ∧ s'.os = s₁.os ∧ AllBare s'.gens) s₁ := by
    intro H hO hS hok hA hK
    have base_of : ∀ {b : Addr} {o : Obj}, s₁.heap.get? b = some o → H b = none → (hidT s₁.heap H).get? b = some o := fun e n => hidT_get e n
    have noA : ∀ {b : Addr} {o : Obj} {es : Array DictEntry} {ep : Nat}, s₁.heap.get? b = some o → o.data = .dict es ep → H b = none := fun {b o es ep} e d => by
      cases q : H b with
      | none => rfl
      | some u =>
        have e' : b = a := hA b (by rw [q]; simp)
        subst e'
        rw [ha] at e; cases e
        have d' : Data.seq vs.toArray _ = Data.dict es ep := d
        cases d'
    have nsK : ∀ {b : Addr} {m : Str → Option Value}, s₁.heap.Ns b m → (hidT s₁.heap H).Ns b m := fun {b m} ⟨o, es, ep, e, d, r⟩ => ⟨o, es, ep, base_of e (noA e d), d, r⟩
    have hKb : K.In (hidT s₁.heap H) := fun b o e => base_of (KX b o e) (by
      cases q : H b with
      | none => rfl
      | some u =>
        have e' : b = a := hA b (by rw [q]; simp)
        subst e'
        rw [hK (by rw [q]; simp)] at e; cases e)
    have hM : Mod K mg (hidT s₁.heap H) := ⟨hKb, nsK hns, ⟨mb, nsK hb, hbb⟩, let ⟨mc, h1, h2⟩ := hlim; ⟨mc, nsK h1, h2⟩⟩
    have e0 : Env0 P w K mg (hidT s₁.heap H) callerA [] s₁ H := ⟨rfl, hM, fun b o e => of_hidT e, Nat.le_of_eq (hidT_size _ _), trivial, fun b hb => absurd (show b ∈ ([] : List Addr) from hb) (by simp), hok, .of_eq hg⟩
    refine codeAny_mono ((F _ hKb (nsK hns)).run callerA [] s₁ H ⟨[.ref a], []⟩ [.ref a] [.ref a] _ _ hr e0 (hbind s₁ (.ref a)) (.cons rfl .nil) (hsp H hO hS)) fun r s' h => ?_
    cases r with
    | error e => exact (hCX H e s' h).elim
    | ok fl =>
      cases fl with
      | next => exact False.elim h
      | brk => exact False.elim h
      | cont => exact False.elim h
      | ret u =>
        obtain ⟨v, H', os, bare, un, hok', r', q⟩ := h
        have q' : v = .bl true := q
        subst q'
        obtain rfl : u = Value.bool true := r'
        refine ⟨rfl, OldK.of_keep fun b o e => ?_, os, bare⟩
        cases q : H b with
        | none => exact un.keep b o e q (by intro z; exact absurd (show b ∈ ([] : List Addr) from z) (by simp)) (by simp)
        | some u =>
          rcases hO b with z | ⟨ob, xs, z⟩
          · rw [q] at z; cases z
          · have z2 := un.frzs b ob _ z
            obtain ⟨e1, _⟩ := hok b _ z
            obtain ⟨e2, _⟩ := hok' b _ z2
            rw [e] at e1; cases e1
            exact e2
  cases hk : K.lookup a with
  | some o =>
    -- the script is one of the module's own objects
    have e := KX a o hk
    rw [ha] at e
    cases e
    refine core (fun _ => none) (fun _ => .inl rfl) (.inr ⟨_, vs.toArray, _, hk, rfl, rfl, rfl, by rw [List.size_toArray, lenV]; exact hl, by simpa using rv⟩) (fun b u z => by have z' : (none : Option HO) = some u := z; cases z') (fun b z => absurd rfl z) fun z => absurd rfl z
  | none =>
    refine core (fun b => if b = a then some (.frz { cls := .type "list", data := .seq vs.toArray } (.lst (ns.map V.int))) else none) (fun b => ?_) (.inl (.inr ⟨{ cls := .type "list", data := .seq vs.toArray }, if_pos rfl⟩)) (fun b u z => ?_) (fun b z => ?_) fun _ => hk
    · by_cases hb : b = a
      · exact .inr ⟨_, _, if_pos hb⟩
      · exact .inl (if_neg hb)
    · by_cases hb : b = a
      · have z' := (if_pos hb).symm.trans z
        cases z'
        subst hb
        exact ⟨ha, by rw [List.length_map]; exact hl, vs, _, rv, ha⟩
      · have z' := (if_neg hb).symm.trans z
        cases z'
    · by_cases hb : b = a
      · exact hb
      · exact absurd (if_neg hb) z
end L2
namespace L2
open PySem PySem.Spec PyProof.Rows
theorem walk_of {l : PySem.W.OpenLaw} {n k : Nat} {q : Program} {loose : List Str} {XP : (Str → Option Value) → Heap → Prop} {YP : World → Heap → Prop} {d : DefRec} {K : Params → PySem.W.Frag} {CX : World → CXT} {sp : World → Sp} {x : Str}
    (hn : l.most = some n) (hn2 : n ≤ sizeLine) (hdf : d.params.defaults = []) (hr : Room k callerA)
    (hY : ∀ (w : World) (h : Heap), YP w h → (K w.params).In h)
    (F : ∀ (w : World) (mg : Str → Option Value) (fa : Addr) (h : Heap), (K w.params).In h → h.Ns mainGlobals mg → mg d.name = some (.ref fa) →
      ∃ fd : FuncData, (∀ (s : Shared) (u : Value), BindsTo s fd ⟨[u], []⟩ [(x, u)]) ∧
        ∀ base : Heap, (K w.params).In base → base.Ns mainGlobals mg → FnOk l.prog w (K w.params) mg base (CX w) k fa fd [x] (sp w))
    (hsp : ∀ (w : World) (H : Hp) (a : Addr) (ns : List Int), ns.length ≤ n → Only H → SqL (K w.params) H a (ns.map V.int) → sp w [.ref a] H (fun v _ => v = .bl true) fun _ _ _ => False)
    (hCX : ∀ (w : World) (H : Hp) (s : Shared) (e : Value) (s' : Shared), CX w [] H s (fun _ _ _ => False) e s' → False) :
    PySem.W.WalkO q loose XP YP l.row.toRowW d [] (fun f vs => PySem.call f vs) := by
  refine Att.attach_call hn hdf fun w s₀ s₁ mg mb fa o pm cd doc a vs ns G Y ho hd hcd hmg hobj hints hlen hg => ?_
  have KX := hY w _ Y
  obtain ⟨fd, hb, hF⟩ := F w mg fa _ KX G.T.g hmg
  exact law_call KX G.T.g G.T.b G.T.builtins G.T.nolimit hg hobj hints (Nat.le_trans hlen hn2) hr hF hb (fun H hO hS => hsp w H a ns hlen hO hS) fun H e s' => hCX w H s₁ e s'
end L2
/- THE LAST THEOREM (shape; LID, My.* are yours):
   My.Adr: a structure of the addresses that your layer names (classes, functions); My.Txt K t: a structure (Prop) of the equations over K;
   My.txt_mk : {K} {implicit addresses ..} (e1 : nsIn K mainGlobals "law" = some (some (.ref f))) (e2 : K.lookup f = some ⟨oc, od, .func (fnOf "law" "law" params body scope dV kV doc pm an cdv ct), sl⟩) (e3 : codeIn K cdv "law" = true) .. : ∃ t, My.Txt K t
(the tactic k_is has no namespace: write k_is) -/

namespace L2
open PySem PySem.Spec PyProof.Rows

noncomputable def inClass (s : Stmt) (j : Nat) : Stmt := match s with
  | .ClassDef _ _ _ body _ _ _ _ _ _ _ => body.getD j (.Pass ⟨0, 0, 0, 0⟩)
  | _ => .Pass ⟨0, 0, 0, 0⟩
noncomputable def defArgs (s : Stmt) : Arguments := match s with
  | .FunctionDef _ a _ _ _ _ _ _ _ _ => a
  | _ => { posonlyargs := [], args := [], vararg := none, kwonlyargs := [], kw_defaults := [], kwarg := none, defaults := [] }
noncomputable def defBody (s : Stmt) : List Stmt := match s with
  | .FunctionDef _ _ b _ _ _ _ _ _ _ => b
  | _ => []
noncomputable def defScope (s : Stmt) : Scope := match s with
  | .FunctionDef _ _ _ _ _ _ sc _ _ _ => sc
  | _ => { kind := .function, names := [], isGenerator := false, isCoroutine := false }

noncomputable abbrev CX0 : CXT := fun _ _ _ _ _ _ => False
noncomputable abbrev E0 : XK := fun _ _ _ => False
theorem pass0 {X : Cx} : Passes CX0 X E0 := fun _ _ _ _ _ _ _ h => h.elim

structure Fun (K : PySem.W.Frag) (x qual : Str) (st : Stmt) (f : Addr) (fd : FuncData) : Prop where
  ex : ∃ (oc : Value) (od : Option Addr) (kV doc pm : Value) (an : Option Addr) (cdv ct : Value) (osl : Array (Option Value)),
    fd = PySem.W.fnOf x qual (defArgs st) (defBody st) (defScope st) .none kV doc pm an cdv ct ∧ K.lookup f = some ⟨oc, od, .func fd, osl⟩ ∧ PySem.W.codeIn K cdv qual = true
  kp : PySem.W.keepIn K (.ref f) = true
section
variable {P : Program} {w : World} {K : PySem.W.Frag} {mg : Str → Option Value} {base : Heap}
theorem Fun.ok {x qual : Str} {st : Stmt} {f : Addr} {fd : FuncData} {N ps : List Str} {k : Nat} {sp : Sp} (F : Fun K x qual st f fd) (S : FnScope N ps (defScope st)) (len : ∀ vs H Q E, sp vs H Q E → vs.length = ps.length)
    (hbody : ∀ (cdv : Value) (A : Around) (outer : List Env) (s : Shared) (H : Hp) (vs : List V) (Q : VK) (E : XK), Room k (A.deeper (envOfC qual (defScope st) s.heap.objs.size f cdv)) → sp vs H Q E →
      ∃ t, PSs (cxOf CX0 P w K mg base N qual (defScope st) f cdv A outer s H E).nox (defBody st) t ∧ t { nx := fun _ H' => Q .non H', rt := Q } (start N vs) H) : FnOk P w K mg base CX0 (k + 1) f fd ps sp := by
  obtain ⟨oc, od, kV, doc, pm, an, cdv, ct, osl, rfl, lk, hcd⟩ := F.ex
  refine fn_of lk hcd S len fun A outer s H vs Q E hr hsp => ?_
  obtain ⟨t, h, q⟩ := hbody cdv A outer s H vs Q E hr hsp
  exact ⟨t, h.nox, q⟩
theorem Fun.binds {x qual : Str} {st : Stmt} {f : Addr} {fd : FuncData} {ps : List Str} (F : Fun K x qual st f fd)
    (h : ∀ (kV doc pm : Value) (an : Option Addr) (cdv ct : Value) (us : List Value), us.length = ps.length → bindArgs (PySem.W.fnOf x qual (defArgs st) (defBody st) (defScope st) .none kV doc pm an cdv ct) ⟨us, []⟩ = pure (ps.zip us)) : Binds K fd ps [] := by
  obtain ⟨oc, od, kV, doc, pm, an, cdv, ct, osl, rfl, lk, hcd⟩ := F.ex
  exact .all (h kV doc pm an cdv ct)
theorem fun_mk {x qual : Str} {st : Stmt} {f : Addr} {oc : Value} {od an : Option Addr} {osl : Array (Option Value)} {kV doc pm cdv ct : Value} (l : K.lookup f = some ⟨oc, od, .func (PySem.W.fnOf x qual (defArgs st) (defBody st) (defScope st) .none kV doc pm an cdv ct), osl⟩)
    (c : PySem.W.codeIn K cdv qual = true) (k : PySem.W.keepIn K (.ref f) = true) : Fun K x qual st f (PySem.W.fnOf x qual (defArgs st) (defBody st) (defScope st) .none kV doc pm an cdv ct) := ⟨⟨oc, od, kV, doc, pm, an, cdv, ct, osl, rfl, l, c⟩, k⟩
end
theorem hu_of {A : Around} {k : Nat} (hr : Room k A) : A.units + 1 < cLine := Nat.lt_of_le_of_lt (Nat.add_le_add_left (by decide : 1 ≤ 64) _) hr.units

section
variable {X : Cx}
theorem pv (i : Nat) {x : Str} {pos : Pos} (hN : X.N[i]? = some x := by rfl) (hv : Vis X.env.scope x := by first | exact Or.inl rfl | exact Or.inr (Or.inl rfl) | exact Or.inr (Or.inr rfl)) (hd : (x == ("__debug__" : Str)) = false := by decide)
    (hcd : (x == ("__classdict__" : Str)) = false := by decide) : PE X (.Name x pos) (tVar i) := pe_var hN hv hd hcd
end

theorem iteF {A B : Prop} (h : B) : if false = true then A else B := by
  rw [if_neg Bool.false_ne_true]
  exact h
theorem iteT {A B : Prop} (h : A) : if true = true then A else B := by
  rw [if_pos rfl]
  exact h
theorem iteNS {c A B : Prop} [Decidable c] (hc : c) (h : B) : if (!decide c) = true then A else B := by
  rw [decide_eq_true hc]
  exact iteF h

noncomputable def Same (H H' : Hp) : Prop := ∀ b o, H b = some o → H' b = some o
theorem Same.refl (H : Hp) : Same H H := fun _ _ h => h
theorem Same.trans {H H1 H2 : Hp} (a : Same H H1) (b : Same H1 H2) : Same H H2 := fun c o h => b c o (a c o h)
theorem Same.free {H H' : Hp} (e : Same H H') {l : Addr} (h : H' l = Option.none) : H l = Option.none := by
  cases q : H l with
  | none => rfl
  | some o =>
    rw [e l o q] at h
    cases h
theorem Same.seq {K : PySem.W.Frag} {H H' : Hp} {a : Addr} {xs : List V} (e : Same H H') (h : SqL K H a xs) : SqL K H' a xs := by
  rcases h with (h | ⟨o, h⟩) | h
  · exact .inl (.inl (e _ _ h))
  · exact .inl (.inr ⟨o, e _ _ h⟩)
  · exact .inr h
end L2
set_option Elab.async false
set_option linter.all false
set_option maxRecDepth 100000
namespace L2
open PySem PySem.Spec PyProof.Rows

theorem closure_loop {env : Env} : ∀ (l : List (Str × NameKind)) (acc : List (Str × Addr)), (∀ y ∈ l, y.2 = .free → ∃ c, env.cells.lookup y.1 = some c) → (∀ y c, acc.lookup y = some c → env.cells.lookup y = some c) →
    ∃ cl, (forIn l acc fun (x : Str × NameKind) (r : List (Str × Addr)) => if (x.2 == NameKind.free) = true then (do let a ← cellOf env x.1; pure (ForInStep.yield ((x.1, a) :: r))) else (pure (ForInStep.yield r) : Sem (ForInStep (List (Str × Addr))))) = (pure cl : Sem (List (Str × Addr))) ∧
      (∀ y c, cl.lookup y = some c → env.cells.lookup y = some c) ∧ (∀ y, ((y, NameKind.free) ∈ l ∨ (acc.lookup y).isSome = true) → ∃ c, cl.lookup y = some c)
  | [], acc, _, ha => ⟨acc, rfl, ha, fun y h => by
      rcases h with h | h
      · cases h
      · exact Option.isSome_iff_exists.mp h⟩
  | (n, k) :: r, acc, h, ha => by
    by_cases hk : k = .free
    · subst hk
      obtain ⟨c, hc⟩ := h (n, .free) List.mem_cons_self rfl
      obtain ⟨cl, e, h1, h2⟩ := closure_loop r ((n, c) :: acc) (fun y hy => h y (List.mem_cons_of_mem _ hy)) (fun y d hd => by
        rw [List.lookup_cons] at hd
        by_cases hy : y = n
        · subst hy; simp at hd; subst hd; exact hc
        · rw [beq_eq_false_iff_ne.mpr hy] at hd; exact ha y d hd)
      refine ⟨cl, ?_, h1, fun y hy => h2 y ?_⟩
      · rw [List.forIn_cons]
        have : cellOf env n = pure c := by unfold cellOf; rw [hc]
        simp only [this]
        exact e
      · rcases hy with hy | hy
        · rcases List.mem_cons.mp hy with z | z
          · have : y = n := by injection z
            right; simp [List.lookup_cons, this]
          · exact .inl z
        · right
          rw [List.lookup_cons]
          split
          · rfl
          · exact hy
    · obtain ⟨cl, e, h1, h2⟩ := closure_loop r acc (fun y hy => h y (List.mem_cons_of_mem _ hy)) ha
      refine ⟨cl, ?_, h1, fun y hy => h2 y ?_⟩
      · rw [List.forIn_cons]
        have hb : (k == NameKind.free) = false := by simpa using hk
        simp only [hb]
        exact e
      · rcases hy with hy | hy
        · rcases List.mem_cons.mp hy with z | z
          · injection z with _ z2; exact absurd z2.symm hk
          · exact .inl z
        · exact .inr hy
theorem closure_ok {env : Env} {scope : Scope} (h : ∀ y ∈ scope.names, y.2 = .free → ∃ c, env.cells.lookup y.1 = some c) :
    ∃ cl, closureFor scope env = pure cl ∧ (∀ y c, cl.lookup y = some c → env.cells.lookup y = some c) ∧ ∀ y, (y, NameKind.free) ∈ scope.names → ∃ c, cl.lookup y = some c := by
  obtain ⟨cl, e, h1, h2⟩ := closure_loop scope.names [] h (fun y c z => by cases z)
  refine ⟨cl, ?_, h1, fun y hy => h2 y (.inl hy)⟩
  unfold closureFor
  exact (congrArg (fun (m : Sem (List (Str × Addr))) => m >>= fun r => pure r) e).trans rfl
end L2
set_option Elab.async false
set_option linter.all false
set_option maxRecDepth 100000
namespace L2
open PySem PySem.Spec PyProof.Rows
theorem lookup_map_back {f : Str × NameKind → Str × NameKind} (h1 : ∀ p, (f p).1 = p.1) : ∀ {names : List (Str × NameKind)} {y : Str} {k : NameKind}, (names.map f).lookup y = some k → ∃ k0, (y, k0) ∈ names ∧ (f (y, k0)).2 = k
  | [], _, _, h => by cases h
  | p :: r, y, k, h => by
    rw [List.map_cons] at h
    generalize hq : f p = q at h
    obtain ⟨q1, q2⟩ := q
    rw [List.lookup_cons] at h
    have e1 : q1 = p.1 := by have := h1 p; rw [hq] at this; exact this
    by_cases hy : y = q1
    · have hb : (y == q1) = true := by simp [hy]
      rw [hb] at h
      have h' : q2 = k := Option.some.inj h
      refine ⟨p.2, ?_, ?_⟩
      · rw [hy, e1]; exact List.mem_cons_self
      · rw [hy, e1]
        have : f (p.1, p.2) = (q1, q2) := hq
        rw [this]; exact h'
    · rw [beq_eq_false_iff_ne.mpr hy] at h
      obtain ⟨k0, m, e⟩ := lookup_map_back h1 (names := r) h
      exact ⟨k0, List.mem_cons_of_mem _ m, e⟩
theorem lookup_map_fwd {f : Str × NameKind → Str × NameKind} (h1 : ∀ p, (f p).1 = p.1) : ∀ {names : List (Str × NameKind)} {y : Str} {k : NameKind}, names.lookup y = some k → (names.map f).lookup y = some (f (y, k)).2
  | [], _, _, h => by cases h
  | p :: r, y, k, h => by
    rw [List.map_cons]
    obtain ⟨p1, p2⟩ := p
    have e1 := h1 (p1, p2)
    generalize hq : f (p1, p2) = q at e1 ⊢
    obtain ⟨q1, q2⟩ := q
    have e1 : q1 = p1 := e1
    subst e1
    rw [List.lookup_cons] at h ⊢
    by_cases hy : y = q1
    · have hb : (y == q1) = true := by simp [hy]
      rw [hb] at h ⊢
      have h' : p2 = k := Option.some.inj h
      subst h'
      subst hy
      show some q2 = _
      rw [hq]
    · rw [beq_eq_false_iff_ne.mpr hy] at h ⊢
      exact lookup_map_fwd h1 h
noncomputable def rl (env : Env) (p : Str × NameKind) : Str × NameKind := if (p.2 == NameKind.free && env.scope.kind == .function && env.kindOf p.1 == some .cell) then (p.1, NameKind.cell) else (p.1, p.2)
theorem rl_fst (env : Env) (p : Str × NameKind) : (rl env p).1 = p.1 := by unfold rl; split <;> rfl
theorem rl_free (env : Env) (y : Str) : (rl env (y, .free)).2 = .cell ∨ (rl env (y, .free)).2 = .free := by
  unfold rl
  split
  · exact .inl rfl
  · exact .inr rfl
theorem rl_not (env : Env) (y : Str) (k : NameKind) (h : k ≠ .free) : (rl env (y, k)).2 = k := by
  unfold rl
  have hb : (k == NameKind.free) = false := by simpa using h
  simp [hb]
theorem relabel_names (scope : Scope) (env : Env) : (relabel scope env).names = scope.names.map (rl env) := rfl
theorem relabel_back {env : Env} {scope : Scope} {y : Str} (hc : ∀ z ∈ scope.names, z.2 ≠ .cell) (h : (relabel scope env).names.lookup y = some .cell ∨ (relabel scope env).names.lookup y = some .free) : (y, NameKind.free) ∈ scope.names := by
  rw [relabel_names] at h
  have go : ∀ k, (k = .cell ∨ k = .free) → (scope.names.map (rl env)).lookup y = some k → (y, NameKind.free) ∈ scope.names := fun k hk q => by
    obtain ⟨k0, m, e⟩ := lookup_map_back (rl_fst env) q
    by_cases hf : k0 = .free
    · rw [hf] at m; exact m
    · rw [rl_not env y k0 hf] at e
      rcases hk with z | z
      · exact absurd (e.trans z) (hc _ m)
      · exact absurd (e.trans z) hf
  rcases h with h | h
  · exact go _ (.inl rfl) h
  · exact go _ (.inr rfl) h
theorem relabel_free {env : Env} {scope : Scope} {y : Str} (h : scope.names.lookup y = some .free) : (relabel scope env).names.lookup y = some .cell ∨ (relabel scope env).names.lookup y = some .free := by
  rw [relabel_names, lookup_map_fwd (rl_fst env) h]
  rcases rl_free env y with z | z
  · exact .inl (congrArg some z)
  · exact .inr (congrArg some z)
noncomputable def blk (X : Cx) (N : List Str) (scope : Scope) (cl : List (Str × Addr)) (C : Addr) (s2 : Shared) (H2 : Hp) (fp : List Addr) : Cx where
  prog := X.prog
  w := X.w
  K := X.K
  mg := X.mg
  base := X.base
  A := X.A
  N := N
  s₀ := s2
  H₀ := H2
  env := compEnvC scope cl C X.env
  outer := X.stack
  stack := X.stack
  ex := fp
  fn := fun _ => false
  calm := X.calm
  pn := []
  xe := fun _ _ => False
structure CompScope (sc : Scope) (N : List Str) (x : Str) (fr : List Str) (ix : List Nat) (scope : Scope) : Prop where
  kind : scope.kind = .function
  nocell : ∀ y ∈ scope.names, y.2 ≠ .cell
  lcl : ∀ y ∈ scope.names, y.2 = .local → scope.names.lookup y.1 = some .local
  lx : scope.names.lookup x = some .local
  free : ∀ y ∈ scope.names, y.2 = .free → sc.names.lookup y.1 = some .cell ∨ sc.names.lookup y.1 = some .free
  at' : fr.map some = ix.map fun i => N[i]?
  frk : ∀ y ∈ fr, scope.names.lookup y = some .free ∧ (sc.names.lookup y = some .cell ∨ sc.names.lookup y = some .free)
  nd : (x :: fr).Nodup
noncomputable def cap (ix : List Nat) (σ : St) : St := ix.map fun i => (σ[i]?).join
section
variable {X : Cx} {pins : List (Addr × Obj)} {σ : St} {H : Hp} {s : Shared} {x : Str} {fr : List Str} {ix : List Nat} {scope : Scope} {cl : List (Str × Addr)} {fp : List Addr} {C D : Addr}
theorem blk_ok (S : CompScope X.env.scope X.N x fr ix scope) (I : Inv X pins σ H s) (hf : ∀ b ∈ fp, FpOk X pins H b) (hfo : ∀ b ∈ fp, b < s.heap.objs.size) (hC : s.heap.objs.size ≤ C)
    (h1 : ∀ y c, cl.lookup y = some c → X.env.cells.lookup y = some c) (h2 : ∀ y, (y, NameKind.free) ∈ scope.names → ∃ c, cl.lookup y = some c) : (blk X (x :: fr) scope cl C s H fp).Ok where
  mod := I.ok.mod
  kind := S.kind
  glob := I.ok.glob
  blt := I.ok.blt
  above := hC
  inj := fun y z c a b => I.ok.inj y z c (h1 y c a) (h1 z c b)
  has := fun y hy => h2 y (relabel_back (env := X.env) (scope := scope) S.nocell hy)
  cab := fun y c h _ => Bool.noConfusion (show false = true from h)
  hd := I.ok.hd
  frames := I.ok.frames
  stk := .inl rfl
  exf := fun b hb => ⟨fun z => absurd (hfo b hb) (by rw [z]; exact Nat.not_lt.mpr hC), fun y c e => (hf b hb).2.2.2.2.1 y c (h1 y c e)⟩
  bs := I.bs
  bsz := Nat.le_trans I.ok.bsz I.sz
  noex := fun b o e hb => by
    rcases (hf b hb).2.2.2.1 with z | z
    · exact I.ok.noex b o e z
    · exact absurd (Nat.lt_of_lt_of_le (Heap.lt_size e) (Nat.le_trans I.ok.bsz z)) (Nat.lt_irrefl _)
  exfs := fun b hb z => by
    rcases List.mem_cons.mp (I.stkSub b z) with e | e
    · exact (hf b hb).2.1 e
    · exact (hf b hb).2.2.1 e
  funs := I.stack
  frf := I.stkFree
theorem cap_len : (cap ix σ).length = ix.length := by unfold cap; rw [List.length_map]
theorem CompScope.len (S : CompScope X.env.scope X.N x fr ix scope) : fr.length = ix.length := by have := congrArg List.length S.at'; simpa using this
theorem blk_inv {s' : Shared} {pn : List (Addr × Obj)} {m : Str → Option Value} (S : CompScope X.env.scope X.N x fr ix scope) (I : Inv X pins σ H s) (hf : ∀ b ∈ fp, FpOk X pins H b) (hfo : ∀ b ∈ fp, b < s.heap.objs.size) (hC : s.heap.objs.size ≤ C)
    (h1 : ∀ y c, cl.lookup y = some c → X.env.cells.lookup y = some c) (h2 : ∀ y, (y, NameKind.free) ∈ scope.names → ∃ c, cl.lookup y = some c)
    (ho : s'.os = s.os) (hg : s'.gens = s.gens) (k : ∀ b o, s.heap.get? b = some o → s'.heap.get? b = some o) (hn : s'.heap.Ns C m)
    (hp : ∀ p ∈ pn, s'.heap.get? p.1 = some p.2 ∧ s.heap.objs.size ≤ p.1 ∧ p.1 ≠ C ∧ ∀ v, p.2.data ≠ .cell v) :
    Inv (blk X (x :: fr) scope cl C s H fp) pn (none :: cap ix σ) H s' := by
  obtain ⟨mX, hnX, hlX⟩ := I.loc
  refine ⟨blk_ok S I hf hfo hC h1 h2, ho, by rw [hg]; exact I.bare, Un.kept k, ⟨m, hn, fun i y v e1 e2 e3 => ?_⟩, fun y c e => ?_, I.hok.fresh hC, fun y c e => I.freeC y c (h1 y c e), fun p hp' => ?_, I.hok.kept k, by
    show (none :: cap ix σ).length = (x :: fr).length
    simp [cap_len, S.len]⟩
  · cases i with
    | zero => cases e2
    | succ j =>
      have e1' : fr[j]? = some y := e1
      have e2' : (cap ix σ)[j]? = some (some v) := e2
      obtain ⟨f1, f2⟩ := S.frk y (List.mem_of_getElem? e1')
      unfold cap at e2'
      rw [List.getElem?_map] at e2'
      cases ei : ix[j]? with
      | none => rw [ei] at e2'; cases e2'
      | some i =>
        rw [ei] at e2'
        have e3' : (σ[i]?).join = some v := Option.some.inj e2'
        have e4 : σ[i]? = some (some v) := by
          cases q : σ[i]? with
          | none => rw [q] at e3'; cases e3'
          | some w => rw [q] at e3'; have : w = some v := e3'; rw [this]
        have e5 : X.N[i]? = some y := by
          have := congrArg (fun l => l[j]?) S.at'
          simp only [List.getElem?_map, e1', ei] at this
          simpa using this.symm
        have vis : Vis X.env.scope y := by
          rcases f2 with z | z
          · exact .inr (.inl z)
          · exact .inr (.inr z)
        obtain ⟨u, r, l⟩ := hlX i y v e5 e4 vis
        refine ⟨u, r, .inr ⟨relabel_free f1, ?_⟩⟩
        rcases l with ⟨z, _⟩ | ⟨_, c, ec, hc⟩
        · rcases f2 with q | q
          · have q' := (show X.env.scope.names.lookup y = some .local from z).symm.trans q; cases q'
          · have q' := (show X.env.scope.names.lookup y = some .local from z).symm.trans q; cases q'
        · obtain ⟨c', hc'⟩ := h2 y (PySem.mem_of_lookup f1)
          have : c' = c := by have := h1 y c' hc'; rw [ec] at this; exact (Option.some.inj this).symm
          subst this
          refine ⟨c', hc', ?_⟩
          obtain ⟨o, ho', hd⟩ := hc
          exact ⟨o, k _ _ ho', hd⟩
  · obtain ⟨v, o, ho', hd⟩ := I.cell y c (h1 y c e)
    exact ⟨v, o, k _ _ ho', hd⟩
  · have hp'' : p ∈ pn := by simpa [blk] using hp'
    obtain ⟨q1, q2, q3, q4⟩ := hp p hp''
    refine ⟨q1, I.hok.fresh q2, q3, fun z => ?_, q4⟩
    obtain ⟨_, o, ho', _⟩ := I.stack.mem z
    exact absurd (Nat.lt_of_lt_of_le (Heap.lt_size ho') q2) (Nat.lt_irrefl _)
end
noncomputable def PIf (X : Cx) (ifs : List Expr) (t : TT) : Prop :=
  ∀ (pins : List (Addr × Obj)) (s : Shared) (σ : St) (H : Hp) (Q : Bool → Hp → Prop), Inv X pins σ H s → t σ H Q →
    wpAny (model X.prog X.w) X.A (forIn ifs true fun c r => if r = true then do let ok ← isTrue c X.env (eval c X.env); pure (ForInStep.yield ok) else pure (ForInStep.yield r)) (TP X pins σ Q) X.xe s
noncomputable def tYes : TT := fun _ H Q => Q true H
theorem pf_nil {X : Cx} : PIf X [] tYes := fun _ _ _ H _ I h => wpAny_tests_nil ⟨H, I, h⟩
theorem pf_one {X : Cx} {c : Expr} {t : TT} (h : PT X c t) : PIf X [c] t := fun pins s σ H Q I q => wpAny_tests_one (h pins s σ H Q I q)
noncomputable def wComp (J : It) (c : St) (tc : TT) (te : TE) (H1 : Hp) (fin : List V → Hp → Prop) : Prop :=
  ∃ W : Nat → Nat → List V → Hp → Prop, (∃ m, W 0 m [] H1) ∧ ∀ i m ys H, W i m ys H →
    (J.stop i H ∧ ys.length ≤ sizeLine ∧ fin ys H) ∨
    (J.go i H ∧ ys.length < sizeLine ∧ ∃ N : List V → Hp → Prop, (∀ ys' H', N ys' H' → ∃ m', m' < m ∧ W (i + 1) m' ys' H') ∧ ∀ x H', J.yld i H x H' → tc (some x :: c) H' fun b H2 => if b = true then te (some x :: c) H2 fun y H3 => N (ys ++ [y]) H3 else N ys H2)
noncomputable def tComp (ix : List Nat) (wi : TI) (tc : TT) (te : TE) : TE := fun σ H Q => wi σ H fun J H1 => wComp J (cap ix σ) tc te H1 fun ys H2 => ∀ l, H2 l = none → Q (.ref l) (upd H2 l (.lst ys))
theorem compLoop_own {prog : Program} {w : World} {A : Around} {R : Result → Shared → Prop} {s : Shared} {elt tg it0 : Expr} {tests : List Expr} {scope : Scope} {pos : Pos} {it acc : Value} {env : Env} (J : Nat → Shared → Prop)
    (turn : ∀ n s, J n s → wpAny (model prog w) A (pyNext it) (fun r s1 => match r with
      | none => R (.ok .next) s1
      | some v => wpAny (model prog w) A (letOwnedTupleGo tg it v) (fun _ s2 => wpAny (model prog w) A (assign tg env v) (fun _ s3 =>
          wpAny (model prog w) A (forIn tests true fun c r => if r = true then do let ok ← isTrue c env (eval c env); pure (ForInStep.yield ok) else pure (ForInStep.yield r)) (fun ok s4 =>
            if ok = true then wpAny (model prog w) A (eval elt env) (fun x s5 =>
              wpAny (model prog w) A (call (.builtin "list.append") [acc, x]) (fun _ s6 => ∃ m, m < n ∧ J m s6) (fun _ _ => False) s5) (fun _ _ => False) s4
            else ∃ m, m < n ∧ J m s4) (fun _ _ => False) s3) (fun _ _ => False) s2) (fun _ _ => False) s1) (fun _ _ => False) s)
    (n : Nat) (h : J n s) : codeAny (model prog w) A (.compLoop (.ListComp elt [⟨tg, it0, tests, 0⟩] scope pos) 0 it acc env) R s := by
  have up : ∀ {α : Type} {t : Sem α} {q q' : α → Shared → Prop} {E' : Value → Shared → Prop} {s : Shared}, wpAny (model prog w) A t q (fun _ _ => False) s → (∀ a s, q a s → q' a s) → wpAny (model prog w) A t q' E' s := fun h k => wpAny_mono h k fun _ _ z => False.elim z
  refine codeAny_loop rfl J (fun n s hJ => ?_) n h
  show wpAny _ A ((compTurn (.ListComp elt [⟨tg, it0, tests, 0⟩] scope pos) 0 it acc env).onRaise (fun x => do noteFrame x env; theTreesLotGoes x)) _ _ s
  refine wpAny_noted ?_
  rw [compTurn_list]
  refine wpAny_bind (wpAny_standAt (wpAny_bind (up (turn n s hJ) fun r s1 h1 => ?_)))
  cases r with
  | none => exact wpAny_pure h1
  | some v =>
    refine wpAny_bind (up h1 fun _ s2 h2 => wpAny_bind (up h2 fun _ s3 h3 => wpAny_bind (up h3 fun ok s4 h4 => ?_)))
    cases ok with
    | false => exact wpAny_pure ⟨rfl, h4⟩
    | true =>
      exact wpAny_bind (wpAny_bind (up h4 fun x s5 h5 => wpAny_bind (up h5 fun _ s6 h6 => wpAny_pure (wpAny_pure ⟨rfl, h6⟩))))
section
variable {X : Cx} {x : Str} {fr : List Str} {ix : List Nat} {scope : Scope} {elt iter : Expr} {ifs : List Expr} {px pos : Pos} {wi : TI} {tc : TT} {te : TE}
theorem comp_run {use : Option (Value → Sem Unit)} {Q : Value → Shared → Prop} {pins : List (Addr × Obj)} {s2 : Shared} {σ : St} {H2 : Hp} {it : Addr} {fp : List Addr} {tn : Nat → Heap → Prop} {J : It} {cl : List (Str × Addr)} (S : CompScope X.env.scope X.N x fr ix scope) (hc : X.calm = true)
    (hif : ∀ cl C s2 H2 fp, PIf (blk X (x :: fr) scope cl C s2 H2 fp) ifs tc) (he : ∀ cl C s2 H2 fp, PE (blk X (x :: fr) scope cl C s2 H2 fp) elt te)
    (h1 : ∀ y c, cl.lookup y = some c → X.env.cells.lookup y = some c) (h2 : ∀ y, (y, NameKind.free) ∈ scope.names → ∃ c, cl.lookup y = some c)
    (I2 : Inv X pins σ H2 s2) (T : Turn X.prog X.w X.K (.Name x px) J fp it tn) (st2 : tn 0 s2.heap) (f2 : ∀ b ∈ fp, FpOk X pins H2 b) {fin : List V → Hp → Prop} (wc : wComp J (cap ix σ) tc te H2 fin)
    (hQ : ∀ (D C : Addr) (ys : List V) (H' : Hp) (s' : Shared) (m : Str → Option Value), Inv X pins σ (upd H' D (.lst ys)) s' → H' D = none → s'.heap.Ns C m → D ≠ C → s2.heap.objs.size ≤ C → H' C = none → fin ys H' →
      compPost (model X.prog X.w) X.A X.xe use Q (.ref D) C (.ok .next) s') :
    wpAny (model X.prog X.w) X.A (newList []) (fun acc s₃ => wpAny (model X.prog X.w) X.A (newFunctionEnv scope X.env.globals cl [] X.env.qual none .none (some X.env)) (fun cenv s₄ =>
      codeAny (model X.prog X.w) X.A (.compStart (.ListComp elt [⟨.Name x px, iter, ifs, 0⟩] scope pos) 0 (.ref it) acc { cenv with scope := relabel scope X.env }) (compPost (model X.prog X.w) X.A X.xe use Q acc cenv.locals) s₄) X.xe s₃) X.xe s2 := by
  have hfo : ∀ b ∈ fp, b < s2.heap.objs.size := fun b hb => by
    obtain ⟨o, e, _⟩ := T.obj 0 _ st2 b hb
    exact Heap.lt_size e
  refine wpAny_newObj_type (wpAny_newFunctionEnv S.nocell (by intro y hy; simp at hy) (fun h₁ hns₁ hsb₁ => ?_) S.kind)
  dsimp only at hns₁ hsb₁ ⊢
  generalize hHp : s2.heap.push { cls := .type "list", dict := none, data := .seq ([] : List Value).toArray } = Hp2 at hns₁ hsb₁ ⊢
  have hCs : Hp2.objs.size = s2.heap.objs.size + 1 := by rw [← hHp, Heap.size_push]
  have hDC : s2.heap.objs.size ≠ Hp2.objs.size := by rw [hCs]; exact Nat.ne_of_lt (Nat.lt_succ_self _)
  have hCle : s2.heap.objs.size ≤ Hp2.objs.size := by rw [hCs]; exact Nat.le_succ _
  have below : ∀ b, b < s2.heap.objs.size → b ≠ Hp2.objs.size := fun b hb => by rw [hCs]; exact Nat.ne_of_lt (Nat.lt_succ_of_lt hb)
  have old : ∀ b o, s2.heap.get? b = some o → h₁.get? b = some o := fun b o e => hsb₁.extBut b o (below b (Heap.lt_size e)) (Heap.get?_push_of_some _ (hHp ▸ Heap.get?_push_of_some _ e))
  have hacc : h₁.get? s2.heap.objs.size = some { cls := .type "list", data := .seq ([] : List Value).toArray 0 } := hsb₁.extBut _ _ hDC (Heap.get?_push_of_some _ (hHp ▸ Heap.get?_push_size _ rfl))
  have st1 : tn 0 h₁ := T.keep 0 _ _ st2 fun b _ o e => old b o e
  have fpD : ∀ b ∈ fp, b ≠ s2.heap.objs.size := fun b hb => Nat.ne_of_lt (hfo b hb)
  generalize hD : s2.heap.objs.size = D at hacc hDC fpD ⊢
  have hDle : s2.heap.objs.size ≤ D := Nat.le_of_eq hD
  generalize hC : Hp2.objs.size = C at hns₁ hsb₁ hDC hCle ⊢
  have oldD : ∀ b o, s2.heap.get? b = some o → b ≠ D := fun b o e z => absurd (Heap.lt_size e) (by rw [z, ← hD]; exact Nat.lt_irrefl _)
  obtain ⟨W, ⟨m0, w0⟩, turn⟩ := wc
  have loop : ∀ s₃ : Shared, s₃ = { s2 with heap := h₁, toks := s2.toks + ([] : List (Str × Value)).length } →
      codeAny (model X.prog X.w) X.A (.compLoop (.ListComp elt [⟨.Name x px, iter, ifs, 0⟩] scope pos) 0 (.ref it) (.ref D) (compEnvC scope cl C X.env))
        (compPost (model X.prog X.w) X.A X.xe use Q (.ref D) C) s₃ := by
    rintro s₃ rfl
    have I0 : Inv (blk X (x :: fr) scope cl C s2 H2 fp) [(D, { cls := .type "list", data := .seq ([] : List Value).toArray 0 })] (none :: cap ix σ) H2 { s2 with heap := h₁, toks := s2.toks + ([] : List (Str × Value)).length } :=
      blk_inv S I2 f2 hfo hCle h1 h2 rfl rfl old hns₁ (fun p hp => by
        have e : p = (D, { cls := .type "list", data := .seq ([] : List Value).toArray 0 }) := by simpa using hp
        subst e
        exact ⟨hacc, hDle, hDC, fun v z => by cases z⟩)
    have stat : ∀ {its : Obj} {H' : Hp}, (∀ b ∈ fp, H' b = none) → ∀ b ∈ fp, FpOk (blk X (x :: fr) scope cl C s2 H2 fp) [(D, its)] H' b := fun {its H'} hn b hb => by
      refine ⟨hn b hb, fun z => ?_, fun z => (I0.ok.exfs b hb z), .inl hb, fun y c e => (I0.ok.exf b hb).2 y c e, fun p hp z => ?_⟩
      · exact (I0.ok.exf b hb).1 z
      · have e : p = (D, its) := by simpa [blk] using hp
        subst e
        exact fpD b hb (Eq.symm z)
    refine compLoop_own (env := compEnvC scope cl C X.env)
      (fun n s' => ∃ i ys its k v0 H', Vals ys its ∧ Inv (blk X (x :: fr) scope cl C s2 H2 fp) [(D, { cls := .type "list", data := .seq its.toArray k })] (v0 :: cap ix σ) H' s' ∧ tn i s'.heap ∧ (∀ b ∈ fp, H' b = none) ∧ W i n ys H') ?_ m0
      ⟨0, [], [], 0, none, H2, .nil, I0, st1, fun b hb => (f2 b hb).1, w0⟩
    rintro n s3 ⟨i, ys, its, k, v0, H3, rv, I3, st3, fr3, w3⟩
    rcases turn i n ys H3 w3 with ⟨stop, hz, hfin⟩ | ⟨go, hz, N, hN, step⟩
    · refine thn (T.done (blk X (x :: fr) scope cl C s2 H2 fp) rfl rfl rfl hc i _ s3 _ H3 _ I3 (stat fr3) st3 stop) fun r s4 ⟨hr, I4⟩ => ?_
      subst hr
      have pD := I4.pin (D, { cls := .type "list", data := .seq its.toArray k }) (by simp [blk])
      obtain ⟨mC, hnC, _⟩ := I4.loc
      have hH3D : H3 D = none := pD.2.1
      have hok' : HOk X.prog X.w (upd H3 D (.lst ys)) s4.heap := fun b u e => by
        by_cases hb : b = D
        · subst hb
          rw [upd_same] at e; cases e
          exact ⟨hz, its, k, rv, pD.1⟩
        · rw [upd_ne hb] at e
          exact (I4.hok b u e).stay (fun c v _ q => q) (fun c q => by rw [upd_ne (ne_of_none q hH3D)]; exact q) fun c xs q => by rw [upd_ne (ne_of_none q hH3D)]; exact q
      have b4 : Un (frs X.stack) fp H2 H3 s2.heap s4.heap := I4.base
      have un : Un (frs X.stack) fp H2 (upd H3 D (.lst ys)) s2.heap s4.heap :=
        ⟨b4.keep, b4.slot, fun b o q n hx => by
          rw [upd_ne (oldD b o q)]; exact b4.free b o q n hx, b4.there, fun b xs q => by rw [upd_ne (ne_of_none (b4.tups b xs q) hH3D)]; exact b4.tups b xs q,
          fun b o u q => by rw [upd_ne (ne_of_none (b4.frzs b o u q) hH3D)]; exact b4.frzs b o u q, fun b ps q => by
            obtain ⟨more, e⟩ := b4.tbls b ps q
            exact ⟨more, by rw [upd_ne (ne_of_none e hH3D)]; exact e⟩⟩
      have I5 : Inv X pins σ (upd H3 D (.lst ys)) s4 := I2.call' (ch := fp) I4.os un hok' I4.bare fun b hb => by
        obtain ⟨g0, g1, g2, g3, g4, g5⟩ := f2 b hb
        exact ⟨g3, g1, g4, g5⟩
      exact hQ D C ys H3 s4 mC I5 hH3D hnC hDC hCle I4.free hfin
    · refine thn (T.item (blk X (x :: fr) scope cl C s2 H2 fp) rfl rfl rfl hc i _ s3 _ H3 _ I3 (stat fr3) st3 go) fun r s4 ⟨u, hr, h4⟩ => ?_
      subst hr
      refine thn h4 fun _ s5 ⟨y, H5, I5, r5, y5, st5, fr5⟩ => ?_
      have I5' := I5.pinned (stat fr5) (T.obj _ _ st5)
      have pg : PG (blk X (x :: fr) scope cl C s2 H2 fp) (.Name x px) (gName 0) := pg_name S.nd rfl (.inl (lookup_relabel_local S.lx)) (.inr (lookup_relabel_local S.lx))
      refine thn (pg _ s5 _ H5 y u (fun σ6 H6 => σ6 = some y :: cap ix σ ∧ H6 = H5) I5' r5 ⟨rfl, rfl⟩) fun _ s6 ⟨σ6, H6, I6, e6, e6'⟩ => ?_
      subst e6 e6'
      refine thn (hif cl C s2 H2 fp _ s6 _ _ _ I6 (step y _ y5)) fun b s7 ⟨H7, I7, q7⟩ => ?_
      have again : ∀ {s8 : Shared} {H8 : Hp} {its' : List Value} {k' : Nat} {ys' : List V}, Vals ys' its' → Inv (blk X (x :: fr) scope cl C s2 H2 fp) [(D, { cls := .type "list", data := .seq its'.toArray k' })] (some y :: cap ix σ) H8 s8 → (∀ b ∈ fp, ∀ o, s5.heap.get? b = some o → s8.heap.get? b = some o) → (∀ b ∈ fp, H8 b = none) → N ys' H8 →
          ∃ m, m < n ∧ ∃ i ys its k v0 H', Vals ys its ∧ Inv (blk X (x :: fr) scope cl C s2 H2 fp) [(D, { cls := .type "list", data := .seq its.toArray k })] (v0 :: cap ix σ) H' s8 ∧ tn i s8.heap ∧ (∀ b ∈ fp, H' b = none) ∧ W i m ys H' :=
        fun {s8 H8 its' k' ys'} rv8 I8 kp fr8 nn => let ⟨m', hm, w8⟩ := hN ys' H8 nn; ⟨m', hm, i + 1, ys', its', k', some y, H8, rv8, I8, T.keep _ _ _ st5 kp, fr8, w8⟩
      cases b with
      | false =>
        rw [if_neg Bool.false_ne_true] at q7 ⊢
        refine again rv I7.unpinned (fun b hb o e => (I7.pin (b, o) (by simp [blk]; exact .inr (mem_pinsAt hb e))).1) (fun b hb => ?_) q7
        obtain ⟨o, e, d⟩ := T.obj _ _ st5 b hb
        exact (I7.pin (b, o) (by simp [blk]; exact .inr (mem_pinsAt hb e))).2.1
      | true =>
        rw [if_pos rfl] at q7 ⊢
        refine thn (he cl C s2 H2 fp _ s7 _ _ _ I7 q7) fun v s8 ⟨z, H8, I8, r8, q8⟩ => ?_
        have pD := I8.pin (D, { cls := .type "list", data := .seq its.toArray k }) (by simp [blk])
        have hvl : ys.length = its.length := rv.length
        refine append_at (hsz := by show its.toArray.size ≤ sizeLine; rw [List.size_toArray]; omega) pD.1 fun h₉ hs₉ hD₉ => ?_
        have eo : ({ cls := .type "list", data := .seq (its.toArray.push v) (k + 1) } : Obj) = { cls := .type "list", data := .seq (its ++ [v]).toArray (k + 1) } := by rw [List.push_toArray]
        rw [eo] at hD₉
        have pn8 : ∀ b ∈ fp, ∀ o, s5.heap.get? b = some o → s8.heap.get? b = some o ∧ H8 b = none := fun b hb o e => by
          have q := I8.pin (b, o) (by simp [blk]; exact .inr (mem_pinsAt hb e))
          exact ⟨q.1, q.2.1⟩
        have J8 := I8.unpinned.pins_of (pins' := []) (fun p hp => by cases hp)
        have f2D : FpOk (blk X (x :: fr) scope cl C s2 H2 fp) [] H8 D := ⟨pD.2.1, pD.2.2.1, pD.2.2.2.1, .inr hDle, fun y c e z => by
            obtain ⟨v, o, ho, _⟩ := I2.cell y c (h1 y c e)
            exact oldD c o ho z, fun p hp => by cases hp⟩
        have I9 : Inv (blk X (x :: fr) scope cl C s2 H2 fp) [] (some y :: cap ix σ) H8 { s8 with heap := h₉ } := J8.turned (t' := s8.toks) (it := D) (fun b o hb e => (hs₉.2 b hb).trans e) f2D.1 f2D.2.1 f2D.2.2.2.1 f2D.2.2.2.2.1 f2D.2.2.2.2.2
        refine again (its' := its ++ [v]) (k' := k + 1) (ys' := ys ++ [z]) (rv.append (.cons r8 .nil)) (I9.pins_of fun p hp => ?_) (fun b hb o e => (hs₉.2 b (fpD b hb)).trans (pn8 b hb o e).1) (fun b hb => ?_) q8
        · have e : p = (D, { cls := .type "list", data := .seq (its ++ [v]).toArray (k + 1) }) := by simpa using hp
          subst e
          exact ⟨hD₉, f2D.1, f2D.2.1, f2D.2.2.1, fun v z => by cases z⟩
        · obtain ⟨o, e, d⟩ := T.obj _ _ st5 b hb
          exact (pn8 b hb o e).2
  exact codeAny_compStart_list (loop _ rfl) (T.self X.A 0 _ _ _ st1 (loop _ rfl))
theorem pe_comp (S : CompScope X.env.scope X.N x fr ix scope) (hc : X.calm = true) (hi : PI X (.Name x px) iter wi) (hif : ∀ cl C s2 H2 fp, PIf (blk X (x :: fr) scope cl C s2 H2 fp) ifs tc) (he : ∀ cl C s2 H2 fp, PE (blk X (x :: fr) scope cl C s2 H2 fp) elt te)
    (hs : ∀ x, foldedSetIterable iter X.env x = pure x := by intro _; rfl) : PE X (.ListComp elt [⟨.Name x px, iter, ifs, 0⟩] scope pos) (tComp ix wi tc te) := by
  intro pins s σ H Q I h
  obtain ⟨cl, ecl, h1, h2⟩ := closure_ok (env := X.env) (scope := scope) fun y hy hf => I.ok.has y.1 (S.free y hy hf)
  rw [eval_ListComp]
  refine wpAny_comprehension_free (use := none) rfl hs ecl S.kind S.lcl (thn (hi pins s σ H _ I h) fun xv s1 q1 => thn q1 fun itv s2 q2 => ?_)
  obtain ⟨it, fp, tn, J, H2, rfl, I2, T, st2, f2, wc⟩ := q2
  refine comp_run S hc hif he h1 h2 I2 T st2 f2 wc fun D C ys H' s' m I' hD hn hDC hC hHC fin => ?_
  refine ⟨m, hn, fun h' sb => ⟨.ref D, upd H' D (.lst ys), ?_, rfl, fin D hD⟩⟩
  have hcf : FpOk X pins (upd H' D (.lst ys)) C := by
    have z := I2.fpOk (H' := upd H' D (.lst ys)) hC (by rw [upd_ne (Ne.symm hDC)]; exact hHC)
    exact z
  exact I'.turned (t' := s'.toks) (it := C) (fun b o hb e => (sb.2 b hb).trans e) hcf.1 hcf.2.1 hcf.2.2.2.1 hcf.2.2.2.2.1 hcf.2.2.2.2.2
theorem ps_setcomp {i : Nat} {y : Str} {py spos : Pos} (S : CompScope X.env.scope X.N x fr ix scope) (hc : X.calm = true) (hN : X.N.Nodup) (hiy : X.N[i]? = some y) (hy : Loc X.env.scope y) (hi : PI X (.Name x px) iter wi) (hif : ∀ cl C s2 H2 fp, PIf (blk X (x :: fr) scope cl C s2 H2 fp) ifs tc) (he : ∀ cl C s2 H2 fp, PE (blk X (x :: fr) scope cl C s2 H2 fp) elt te)
    (hsw : swapsWith (.ListComp elt [⟨.Name x px, iter, ifs, 0⟩] scope pos) (some (.Name y py)) spos.line X.env = pure true := by rfl)
    (hf : X.fn y = true ∨ X.env.scope.names.lookup y = some .local := by first | exact .inl rfl | exact .inr rfl | assumption)
    (hs : ∀ x, foldedSetIterable iter X.env x = pure x := by intro _; rfl) :
    PS X (.Assign [.Name y py] (.ListComp elt [⟨.Name x px, iter, ifs, 0⟩] scope pos) spos) (tAsg (tComp ix wi tc te) (gName i)) := by
  intro pins s σ H Dn I h
  obtain ⟨cl, ecl, h1, h2⟩ := closure_ok (env := X.env) (scope := scope) fun y hy hf => I.ok.has y.1 (S.free y hy hf)
  rw [exec_Assign_Name_used _ _ _ _ hsw]
  refine wpAny_bind (wpAny_standAt (wpAny_bind ?_))
  show wpAny _ X.A (do let _ ← comprehension (.ListComp elt [⟨.Name x px, iter, ifs, 0⟩] scope pos) scope X.env _ (newList []) false (eval iter X.env) (some (assign (.Name y py) X.env))) _ _ s
  refine wpAny_bind (thn (Q := fun _ s' => SP X pins Dn .next s') ?_ fun _ s' q => wpAny_pure (wpAny_pure q))
  refine wpAny_comprehension_free (use := some (assign (.Name y py) X.env)) rfl hs ecl S.kind S.lcl (thn (hi pins s σ H _ I h) fun xv s1 q1 => thn q1 fun itv s2 q2 => ?_)
  obtain ⟨it, fp, tn, J, H2, rfl, I2, T, st2, f2, wc⟩ := q2
  refine comp_run S hc hif he h1 h2 I2 T st2 f2 wc fun D C ys H' s' m I' hD hn hDC hC hHC fin => ?_
  have hcf : FpOk X pins (upd H' D (.lst ys)) C := I2.fpOk (H' := upd H' D (.lst ys)) hC (by rw [upd_ne (Ne.symm hDC)]; exact hHC)
  show wpAny _ X.A (assign (.Name y py) X.env (.ref D)) _ _ s'
  refine wpAny_assign_Name (store_ok2 (v := V.ref D) I' hN hiy hy rfl (fun s'' I'' hsb => ?_) hf)
  obtain ⟨a, sb, ha⟩ := hsb
  have hCa : C ≠ a := fun z => by
    rcases ha with q | q
    · exact hcf.2.1 (z.trans q)
    · exact hcf.2.2.2.2.1 y a q z.symm
  refine ⟨m, hn.sameBut sb hCa, fun h' sb' => ⟨_, _, I''.turned (t' := s''.toks) (it := C) (fun b o hb e => (sb'.2 b hb).trans e) hcf.1 hcf.2.1 hcf.2.2.2.1 hcf.2.2.2.2.1 hcf.2.2.2.2.2, fin D hD⟩⟩
end
end L2
set_option Elab.async false
set_option linter.all false
set_option maxRecDepth 100000
namespace L2
open PySem PySem.Spec PyProof.Rows
section
variable {X : Cx}


noncomputable def isInt : V → Option Bool
  | .int _ => some true
  | .bl _ => some true
  | .str _ => some false
  | .non => some false
  | _ => none
noncomputable def isBool : V → Option Bool
  | .int _ => some false
  | .bl _ => some true
  | .str _ => some false
  | .non => some false
  | _ => none
noncomputable def isStr : V → Option Bool
  | .int _ => some false
  | .bl _ => some false
  | .str _ => some true
  | .non => some false
  | _ => none
inductive IsLst (K : PySem.W.Frag) (H : Hp) : V → Bool → Prop
  | yes {a : Addr} {xs : List V} : SqL K H a xs → IsLst K H (.ref a) true
  | no {a : Addr} {xs : List V} : SqT K H a xs → IsLst K H (.ref a) false
inductive IsTpl (K : PySem.W.Frag) (H : Hp) : V → Bool → Prop
  | yes {a : Addr} {xs : List V} : SqT K H a xs → IsTpl K H (.ref a) true
  | no {a : Addr} {xs : List V} : SqL K H a xs → IsTpl K H (.ref a) false
inductive ICall_isi_int (xs : List V) (H : Hp) (Q : VK) : Prop
  | mk (x : _) (b : _) : xs = [x, .ty "int"] → isInt x = some b → Q (.bl b) H → ICall_isi_int xs H Q
theorem call_isi_int : CallR X (.builtin "isinstance") ICall_isi_int := by
  intro pins s σ H xs us Q I r h
  obtain ⟨x, b, rfl, e, q⟩ := h
  obtain ⟨u, t, rfl, ru, rt⟩ := r.two
  cases rt
  cases x with
  | int i => obtain ⟨t', rfl⟩ := ru; cases e; exact IsiPair.int_int ⟨.bl true, H, I, rfl, q⟩
  | bl i => cases ru; cases e; exact IsiPair.bool_int ⟨.bl true, H, I, rfl, q⟩
  | str i => obtain ⟨t', rfl⟩ := ru; cases e; exact IsiPair.str_int ⟨.bl false, H, I.tok _, rfl, q⟩
  | non => cases ru; cases e; exact IsiPair.NoneType_int ⟨.bl false, H, I.tok _, rfl, q⟩
  | _ => cases e
inductive ICall_isi_bool (xs : List V) (H : Hp) (Q : VK) : Prop
  | mk (x : _) (b : _) : xs = [x, .ty "bool"] → isBool x = some b → Q (.bl b) H → ICall_isi_bool xs H Q
theorem call_isi_bool : CallR X (.builtin "isinstance") ICall_isi_bool := by
  intro pins s σ H xs us Q I r h
  obtain ⟨x, b, rfl, e, q⟩ := h
  obtain ⟨u, t, rfl, ru, rt⟩ := r.two
  cases rt
  cases x with
  | int i => obtain ⟨t', rfl⟩ := ru; cases e; exact IsiPair.int_bool ⟨.bl false, H, I.tok _, rfl, q⟩
  | bl i => cases ru; cases e; exact IsiPair.bool_bool ⟨.bl true, H, I, rfl, q⟩
  | str i => obtain ⟨t', rfl⟩ := ru; cases e; exact IsiPair.str_bool ⟨.bl false, H, I.tok _, rfl, q⟩
  | non => cases ru; cases e; exact IsiPair.NoneType_bool ⟨.bl false, H, I.tok _, rfl, q⟩
  | _ => cases e
inductive ICall_isi_str (xs : List V) (H : Hp) (Q : VK) : Prop
  | mk (x : _) (b : _) : xs = [x, .ty "str"] → isStr x = some b → Q (.bl b) H → ICall_isi_str xs H Q
theorem call_isi_str : CallR X (.builtin "isinstance") ICall_isi_str := by
  intro pins s σ H xs us Q I r h
  obtain ⟨x, b, rfl, e, q⟩ := h
  obtain ⟨u, t, rfl, ru, rt⟩ := r.two
  cases rt
  cases x with
  | int i => obtain ⟨t', rfl⟩ := ru; cases e; exact IsiPair.int_str ⟨.bl false, H, I.tok _, rfl, q⟩
  | bl i => cases ru; cases e; exact IsiPair.bool_str ⟨.bl false, H, I.tok _, rfl, q⟩
  | str i => obtain ⟨t', rfl⟩ := ru; cases e; exact IsiPair.str_str ⟨.bl true, H, I, rfl, q⟩
  | non => cases ru; cases e; exact IsiPair.NoneType_str ⟨.bl false, H, I.tok _, rfl, q⟩
  | _ => cases e
inductive ICall_isi_list (K : PySem.W.Frag) (xs : List V) (H : Hp) (Q : VK) : Prop
  | mk (x : _) (b : _) : xs = [x, .ty "list"] → IsLst K H x b → Q (.bl b) H → ICall_isi_list K xs H Q
theorem call_isi_list : CallR X (.builtin "isinstance") (ICall_isi_list X.K) := by
  intro pins s σ H xs us Q I r h
  obtain ⟨x, b, rfl, e, q⟩ := h
  obtain ⟨u, t, rfl, ru, rt⟩ := r.two
  cases rt
  cases e with
  | yes hq =>
    cases ru
    obtain ⟨its, r, ⟨o, n, e, c1, c2, c3⟩, z⟩ := I.list hq
    exact IsiPair.list_list e c1 ⟨.bl true, H, I, rfl, q⟩
  | no hq =>
    cases ru
    obtain ⟨its, r, ⟨o, e, c1, n, c3⟩, z⟩ := I.tuple hq
    exact IsiPair.tuple_list e c1 ⟨.bl false, H, I.tok _, rfl, q⟩
inductive ICall_isi_tuple (K : PySem.W.Frag) (xs : List V) (H : Hp) (Q : VK) : Prop
  | mk (x : _) (b : _) : xs = [x, .ty "tuple"] → IsTpl K H x b → Q (.bl b) H → ICall_isi_tuple K xs H Q
theorem call_isi_tuple : CallR X (.builtin "isinstance") (ICall_isi_tuple X.K) := by
  intro pins s σ H xs us Q I r h
  obtain ⟨x, b, rfl, e, q⟩ := h
  obtain ⟨u, t, rfl, ru, rt⟩ := r.two
  cases rt
  cases e with
  | yes hq =>
    cases ru
    obtain ⟨its, r, ⟨o, e, c1, n, c3⟩, z⟩ := I.tuple hq
    exact IsiPair.tuple_tuple e c1 ⟨.bl true, H, I, rfl, q⟩
  | no hq =>
    cases ru
    obtain ⟨its, r, ⟨o, n, e, c1, c2, c3⟩, z⟩ := I.list hq
    exact IsiPair.list_tuple e c1 ⟨.bl false, H, I.tok _, rfl, q⟩

end
end L2
set_option Elab.async false
set_option linter.all false
set_option maxRecDepth 100000
namespace L2
open PySem PySem.Spec PyProof.Rows

structure Can (P : Program) (w : World) (K : PySem.W.Frag) (mg : Str → Option Value) (base : Heap) (k : Nat) (x : Str) (ps : List Str) (sp : Sp) : Prop where
  ex : ∃ f fd, FnOk P w K mg base CX0 k f fd ps sp ∧ mg x = some (.ref f) ∧ PySem.W.keepIn K (.ref f) = true ∧ Binds K fd ps []
theorem Can.of {P : Program} {w : World} {K : PySem.W.Frag} {mg : Str → Option Value} {base : Heap} {k : Nat} {x : Str} {ps : List Str} {sp : Sp} {f : Addr} {fd : FuncData} {qual : Str} {st : Stmt}
    (F : Fun K x qual st f fd) (G : FnOk P w K mg base CX0 k f fd ps sp) (hm : mg x = some (.ref f)) (b : Binds K fd ps []) : Can P w K mg base k x ps sp := ⟨f, fd, G, hm, F.kp, b⟩
section
variable {X : Cx} {k : Nat} {x : Str} {ps : List Str} {sp : Sp} {p pos : Pos} {e : Expr} {es : List Expr} {t : TA}
theorem pe_own (C : Can X.prog X.w X.K X.mg X.base k x ps sp) (hr : Room k X.A) (hg : Gl X x) (ha : PA X (e :: es) t) (hdb : (x == ("__debug__" : Str)) = false := by decide) (he : starEach (e :: es) X.env = (false, eval e X.env) :: starEach es X.env := by rfl)
    (hpl : (backTo pos (starEach es X.env)).any (·.1) = false := by rfl) : PE X (.Call (.Name x p) (e :: es) [] pos) (tCall sp [] E0 t) := by
  obtain ⟨f, fd, F, hm, hk, hb⟩ := C.ex
  exact pe_call F hr hg hm hk hb .nil pass0 ha hdb he hpl
end

theorem comp_list {K : PySem.W.Frag} {a : Addr} {xs : List V} {c : St} {tc : TT} {te : TE} {H : Hp} {fin : List V → Hp → Prop} (Pv : Nat → List V → Hp → Prop) (h0 : Pv 0 [] H) (hl : ∀ i ys H, i ≤ xs.length → Pv i ys H → SqL K H a xs ∧ ys.length ≤ i) (hz : xs.length ≤ sizeLine)
    (hs : ∀ i x ys H, xs[i]? = some x → Pv i ys H → tc (some x :: c) H fun b H2 => if b = true then te (some x :: c) H2 fun y H3 => Pv (i + 1) (ys ++ [y]) H3 else Pv (i + 1) ys H2)
    (hd : ∀ ys H, Pv xs.length ys H → fin ys H) : wComp (Itl K a) c tc te H fin := by
  refine ⟨fun i m ys H => m = xs.length - i ∧ i ≤ xs.length ∧ Pv i ys H, ⟨xs.length, by simp, Nat.zero_le _, h0⟩, ?_⟩
  rintro i m ys H ⟨rfl, hi, p⟩
  obtain ⟨q, hy⟩ := hl i ys H hi p
  by_cases hlt : i < xs.length
  · refine .inr ⟨⟨xs, xs[i], q, by simp [hlt]⟩, by omega, Pv (i + 1), fun ys' H' p' => ⟨_, by omega, rfl, hlt, p'⟩, fun x H' y => ?_⟩
    obtain ⟨e, y⟩ := y
    subst e
    exact hs i x ys _ (y xs q) p
  · have e : i = xs.length := by omega
    subst e
    exact .inl ⟨⟨xs, q, Nat.le_refl _⟩, by omega, hd ys H p⟩
theorem comp_list0 {K : PySem.W.Frag} {a : Addr} {xs : List V} {c : St} {te : TE} {H : Hp} {fin : List V → Hp → Prop} (Pv : Nat → List V → Hp → Prop) (h0 : Pv 0 [] H) (hl : ∀ i ys H, i ≤ xs.length → Pv i ys H → SqL K H a xs ∧ ys.length ≤ i) (hz : xs.length ≤ sizeLine)
    (hs : ∀ i x ys H, xs[i]? = some x → Pv i ys H → te (some x :: c) H fun y H3 => Pv (i + 1) (ys ++ [y]) H3) (hd : ∀ ys H, Pv xs.length ys H → fin ys H) : wComp (Itl K a) c tYes te H fin :=
  comp_list Pv h0 hl hz (fun i x ys H e p => iteT (B := Pv (i + 1) ys H) (hs i x ys H e p)) hd
end L2
set_option Elab.async false
set_option linter.all false
set_option maxRecDepth 100000
namespace L2
open PySem PySem.Spec PyProof.Rows

theorem pe_const {X : Cx} {x : Str} {i : Int} {pos : Pos} (h : ∃ t, X.mg x = some (.int i t)) (hg : Gl X x) (hd : (x == ("__debug__" : Str)) = false := by decide) : PE X (.Name x pos) (tC (.int i)) := by
  obtain ⟨t, h⟩ := h
  exact pe_glob hg h ⟨t, rfl⟩ hd
theorem iteD {c A B : Prop} [Decidable c] (h1 : c → A) (h2 : ¬ c → B) : if decide c = true then A else B := by
  by_cases h : c
  · rw [if_pos (decide_eq_true h)]; exact h1 h
  · rw [if_neg (by rw [decide_eq_false h]; exact Bool.false_ne_true)]; exact h2 h
theorem iteND {c A B : Prop} [Decidable c] (h1 : ¬ c → A) (h2 : c → B) : if (!decide c) = true then A else B := by
  by_cases h : c
  · rw [decide_eq_true h]; exact iteF (h2 h)
  · rw [decide_eq_false h]; exact iteT (h1 h)
theorem iteB {b : Bool} {A B : Prop} (h1 : b = true → A) (h2 : b = false → B) : if b = true then A else B := by
  cases b with
  | true => exact iteT (h1 rfl)
  | false => exact iteF (h2 rfl)
theorem Same.new {H : Hp} {l : Addr} {o : HO} (h : H l = Option.none) : Same H (upd H l o) := fun b u e => by rw [upd_ne (ne_of_none e h)]; exact e
theorem Same.newT {H H' : Hp} {l : Addr} {o : HO} (s : Same H H') (h : H' l = Option.none) : Same H (upd H' l o) := s.trans (Same.new h)
theorem Same.seqT {K : PySem.W.Frag} {H H' : Hp} {a : Addr} {xs : List V} (e : Same H H') (h : SqT K H a xs) : SqT K H' a xs := by
  rcases h with (h | ⟨o, h⟩) | h
  · exact .inl (.inl (e _ _ h))
  · exact .inl (.inr ⟨o, e _ _ h⟩)
  · exact .inr h
theorem SqL.new {K : PySem.W.Frag} {H : Hp} {l : Addr} {xs : List V} : SqL K (upd H l (.lst xs)) l xs := SqL.of upd_same
theorem SqT.new {K : PySem.W.Frag} {H : Hp} {l : Addr} {xs : List V} : SqT K (upd H l (.tup xs)) l xs := SqT.of upd_same
theorem atI_ok {xs : List V} {i : Int} {v : V} (h0 : 0 ≤ i) (h : xs[i.toNat]? = some v) : atI xs i = some v := by
  have := atI_nat h
  rwa [Int.toNat_of_nonneg h0] at this
theorem ints_at {ns : List Int} {i : Nat} (h : i < ns.length) : (ns.map V.int)[i]? = some (.int (ns.getD i 0)) := by
  rw [List.getElem?_map, List.getElem?_eq_getElem h, List.getD_eq_getElem?_getD, List.getElem?_eq_getElem h]; rfl
theorem atI_ints {ns : List Int} {i : Int} (h0 : 0 ≤ i) (h : i < ns.length) : atI (ns.map V.int) i = some (.int (ns.getD i.toNat 0)) := atI_ok h0 (ints_at (by omega))
theorem flat_ints (ns : List Int) : (ns.map V.int).all flatV = true := by
  rw [List.all_map]; exact List.all_eq_true.mpr fun _ _ => rfl
theorem inV_ints (ns : List Int) (c : Int) : inV (.int c) (ns.map V.int) = decide (c ∈ ns) := by
  unfold inV
  induction ns with
  | nil => rfl
  | cons a ns ih =>
    rw [List.map_cons, List.any_cons, ih]
    show ((a == c) || _) = _
    by_cases h : a = c
    · subst h; simp
    · have : ¬ c = a := fun e => h e.symm
      simp [h, this]
theorem cut_from {xs : List V} {k : Int} (h : 0 ≤ k) : cutV xs (some k) none = xs.drop k.toNat := by
  obtain ⟨n, rfl⟩ := Int.eq_ofNat_of_zero_le h
  unfold cutV
  rw [HT.sIx_none]
  show (xs.drop (HT.sIx xs.length 0 (some ((n : Nat) : Int)))).take _ = _
  rw [HT.sIx_nat, Int.toNat_natCast]
  by_cases h : n ≤ xs.length
  · rw [Nat.min_eq_left h, List.take_of_length_le (by rw [List.length_drop]; exact Nat.le_refl _)]
  · rw [Nat.min_eq_right (by omega), List.drop_of_length_le (Nat.le_refl _), List.drop_of_length_le (by omega), List.take_nil]
theorem cut_upto {xs : List V} {k : Int} (h : 0 ≤ k) : cutV xs none (some k) = xs.take k.toNat := by
  obtain ⟨n, rfl⟩ := Int.eq_ofNat_of_zero_le h
  unfold cutV
  rw [HT.sIx_none, List.drop_zero]
  show xs.take (HT.sIx xs.length xs.length (some ((n : Nat) : Int)) - 0) = _
  rw [HT.sIx_nat, Int.toNat_natCast, Nat.sub_zero]
  by_cases h : n ≤ xs.length
  · rw [Nat.min_eq_left h]
  · rw [Nat.min_eq_right (by omega), List.take_of_length_le (Nat.le_refl _), List.take_of_length_le (by omega)]
theorem line_ge : 1000000 ≤ sizeLine := by decide
theorem take_next {ns : List Int} {i : Nat} (hi : i < ns.length) : ns.take (i + 1) = ns.take i ++ [ns.getD i 0] := by
  rw [List.take_succ, List.getElem?_eq_getElem hi, List.getD_eq_getElem?_getD, List.getElem?_eq_getElem hi]; rfl
theorem ints_get {ns : List Int} {i : Nat} {x : V} (hx : (ns.map V.int)[i]? = some x) : i < ns.length ∧ x = .int (ns.getD i 0) := by
  have hi : i < ns.length := by have := (List.getElem?_eq_some_iff.mp hx).1; rwa [List.length_map] at this
  refine ⟨hi, ?_⟩
  rw [ints_at hi] at hx
  exact (Option.some.inj hx).symm
theorem getD_ix {ns : List Int} {i : Nat} (hi : i < ns.length) : ns.getD i 0 = ns[i] := by rw [List.getD_eq_getElem?_getD, List.getElem?_eq_getElem hi]; rfl
theorem getD_in {ns : List Int} {i : Nat} (hi : i < ns.length) : ns.getD i 0 ∈ ns := by rw [getD_ix hi]; exact List.getElem_mem hi
theorem app_ints (ns : List Int) (x : Int) : ns.map V.int ++ [V.int x] = (ns ++ [x]).map V.int := by rw [List.map_append]; rfl
theorem lst_app {H : Hp} {l : Addr} (ns : List Int) (x : Int) : upd H l (.lst (ns.map V.int ++ [V.int x])) l = some (.lst ((ns ++ [x]).map V.int)) := upd_same.trans (congrArg (fun l => some (HO.lst l)) (app_ints ns x))
end L2
set_option Elab.async false
set_option linter.all false
set_option maxRecDepth 100000
namespace L2
open PySem PySem.Spec PyProof.Rows

noncomputable def eqL : List V → List V → Bool
  | [], [] => true
  | x :: xs, y :: ys => eqV x y && eqL xs ys
  | _, _ => false
noncomputable def eqAtJ (xs ys : List V) (j : Nat) : Bool := match xs[j]?, ys[j]? with
  | some x, some y => eqV x y
  | _, _ => false
theorem range_eqL : ∀ {xs ys : List V}, xs.length = ys.length → (List.range xs.length).all (eqAtJ xs ys) = eqL xs ys
  | [], [], _ => rfl
  | x :: xs, y :: ys, h => by
    have h' : xs.length = ys.length := by simpa using h
    show (List.range (xs.length + 1)).all _ = (eqV x y && eqL xs ys)
    rw [List.range_succ_eq_map, List.all_cons, List.all_map, ← range_eqL h']
    rfl
theorem eqL_len : ∀ {xs ys : List V}, xs.length ≠ ys.length → eqL xs ys = false
  | [], [], h => absurd rfl h
  | [], _ :: _, _ => rfl
  | _ :: _, [], _ => rfl
  | x :: xs, y :: ys, h => by
    show (eqV x y && eqL xs ys) = false
    rw [eqL_len (fun e => h (by simp [e])), Bool.and_false]
theorem eqL_ints : ∀ (ns ms : List Int), eqL (ns.map V.int) (ms.map V.int) = decide (ns = ms)
  | [], [] => rfl
  | [], _ :: _ => rfl
  | _ :: _, [] => rfl
  | a :: ns, b :: ms => by
    show ((a == b) && eqL (ns.map V.int) (ms.map V.int)) = _
    rw [eqL_ints ns ms]
    by_cases h : a = b
    · subst h; simp
    · simp [h]
theorem eqAt_j {A : Around} {s : Shared} {xs ys : List V} {us vs : List Value} (ru : Vals xs us) (rv : Vals ys vs) (fx : xs.all flatV = true) (fy : ys.all flatV = true) :
    ∀ j (h1 : j < us.toArray.size) (h2 : j < vs.toArray.size), SeqAt.EqAt A s us.toArray[j] vs.toArray[j] (eqAtJ xs ys j) := fun j h1 h2 => by
  have l1 := ru.length
  have l2 := rv.length
  have h1' : j < us.length := by simpa using h1
  have h2' : j < vs.length := by simpa using h2
  obtain ⟨u, eu, r1⟩ := ru.get (i := j) (x := xs[j]) (List.getElem?_eq_getElem (by omega))
  obtain ⟨v, ev, r2⟩ := rv.get (i := j) (x := ys[j]) (List.getElem?_eq_getElem (by omega))
  have e1 : us.toArray[j] = u := by rw [List.getElem_toArray]; rw [List.getElem?_eq_getElem h1'] at eu; exact Option.some.inj eu
  have e2 : vs.toArray[j] = v := by rw [List.getElem_toArray]; rw [List.getElem?_eq_getElem h2'] at ev; exact Option.some.inj ev
  rw [e1, e2]
  have ej : eqAtJ xs ys j = eqV xs[j] ys[j] := by unfold eqAtJ; rw [List.getElem?_eq_getElem (by omega), List.getElem?_eq_getElem (by omega)]
  rw [ej]
  exact eqAt_V r1 r2 (List.all_eq_true.mp fx _ (List.getElem_mem _)) (List.all_eq_true.mp fy _ (List.getElem_mem _))
section
variable {X : Cx}
inductive IREqL (K : PySem.W.Frag) (x y : V) (H : Hp) (Q : VK) : Prop
  | mk (a : _) (b : _) (xs : _) (ys : _) : x = .ref a → y = .ref b → SqL K H a xs → SqL K H b ys → xs.all flatV = true → ys.all flatV = true → Q (.bl (eqL xs ys)) H → IREqL K x y H Q
noncomputable def rEqL (K : PySem.W.Frag) : R2 := fun x y H Q => IREqL K x y H Q
theorem op_eq_list (hu : X.A.units < cLine) : OpR X (compareOp .Eq) (rEqL X.K) := by
  intro pins s σ H x y v u Q I rx ry h
  obtain ⟨a, b, xs, ys, rfl, rfl, ha, hb, fx, fy, q⟩ := h
  cases rx
  cases ry
  obtain ⟨its, r1, p1, z1⟩ := I.list ha
  obtain ⟨its2, r2, p2, z2⟩ := I.list hb
  have l1 := r1.length
  have l2 := r2.length
  by_cases hl : xs.length = ys.length
  · refine SeqAt.eq_listAt p1.isList p2.isList (by simp; omega) hu (eqAt_j r1 r2 fx fy) ⟨.bl (eqL xs ys), H, I, ?_, q⟩
    rw [List.size_toArray, ← l1, range_eqL hl]
    rfl
  · refine SeqAt.eq_list_lengthsAt p1.isList p2.isList (by simp; omega) hu ⟨.bl (eqL xs ys), H, I, ?_, q⟩
    rw [eqL_len hl]
    rfl
inductive IREqT (K : PySem.W.Frag) (x y : V) (H : Hp) (Q : VK) : Prop
  | mk (a : _) (b : _) (xs : _) (ys : _) : x = .ref a → y = .ref b → SqT K H a xs → SqT K H b ys → xs.all flatV = true → ys.all flatV = true → Q (.bl (eqL xs ys)) H → IREqT K x y H Q
noncomputable def rEqT (K : PySem.W.Frag) : R2 := fun x y H Q => IREqT K x y H Q
theorem op_eq_tup (hu : X.A.units < cLine) : OpR X (compareOp .Eq) (rEqT X.K) := by
  intro pins s σ H x y v u Q I rx ry h
  obtain ⟨a, b, xs, ys, rfl, rfl, ha, hb, fx, fy, q⟩ := h
  cases rx
  cases ry
  obtain ⟨its, r1, p1, z1⟩ := I.tuple ha
  obtain ⟨its2, r2, p2, z2⟩ := I.tuple hb
  have l1 := r1.length
  have l2 := r2.length
  refine SeqAt.eq_tupleAt (show s.heap.IsTuple a its.toArray from p1) (show s.heap.IsTuple b its2.toArray from p2) hu (eqAt_j r1 r2 fx fy) ⟨.bl (eqL xs ys), H, I, ?_, q⟩
  show Value.bool _ = Value.bool _
  congr 1
  simp only [List.size_toArray]
  by_cases hl : xs.length = ys.length
  · rw [show min its.length its2.length = xs.length by omega, range_eqL hl, show (its.length == its2.length) = true by simp; omega, Bool.and_true]
  · rw [eqL_len hl, show (its.length == its2.length) = false by simp; omega, Bool.and_false]

theorem vals_of_ints {ns : List Int} : ∀ {us : List Value}, IntsAre us ns → Vals (ns.map V.int) us := by
  intro us h
  induction h with
  | nil => exact .nil
  | cons n t _ ih => exact .cons ⟨t, rfl⟩ ih
inductive ICall_sorted (K : PySem.W.Frag) (xs : List V) (H : Hp) (Q : VK) : Prop
  | mk (a : Addr) (ns : List Int) : xs = [.ref a] → SqL K H a (ns.map V.int) → ns.length < 64 → (∀ (l : Addr) (ms : List Int), H l = none → ms.Perm ns → ms.Pairwise (· ≤ ·) → Q (.ref l) (upd H l (.lst (ms.map V.int)))) → ICall_sorted K xs H Q
theorem call_sorted : CallR X (.builtin "sorted") (ICall_sorted X.K) := by
  intro pins s σ H xs us Q I r h
  obtain ⟨a, ns, rfl, hS, hz, q⟩ := h
  obtain ⟨u, rfl, ru⟩ := r.one
  cases ru
  obtain ⟨its, r1, p1, z1⟩ := I.list hS
  have l1 := r1.length
  rw [List.length_map] at l1
  refine sorted_ints p1.isList (intsAre_of r1) (by omega) fun out ns' hI hp hw => ?_
  obtain ⟨e, he⟩ := sortedAll_at s.heap its out
  have hf : H (s.heap.objs.size + 1) = none := I.hok.fresh (Nat.le_succ _)
  have hv := vals_of_ints hI
  have hlen : ns'.length < 64 := by rw [hp.length_eq]; exact hz
  refine ⟨.ref (s.heap.objs.size + 1), upd H (s.heap.objs.size + 1) (.lst (ns'.map V.int)), I.laid (t' := s.toks) (fun b o e => sortedAll_old e) (Nat.le_succ _) ⟨?_, out.toList, e, hv, ?_⟩, rfl, q _ ns' hf hp hw⟩
  · rw [List.length_map]; have := line_ge; omega
  · exact he
end
end L2
set_option Elab.async false
set_option linter.all false
set_option maxRecDepth 100000
namespace L2
open PySem PySem.Spec PyProof.Rows
section
variable {X : Cx}

theorem bools_at {bs : List Bool} {us : List Value} (r : Vals (bs.map V.bl) us) {i : Nat} {v : Value} (h : us[i]? = some v) : v = .bool (bs.getD i false) := by
  have hl := r.length
  rw [List.length_map] at hl
  have hi : i < bs.length := by rw [hl]; exact (List.getElem?_eq_some_iff.mp h).1
  obtain ⟨u, e, ru⟩ := r.get (i := i) (x := .bl bs[i]) (by rw [List.getElem?_map, List.getElem?_eq_getElem hi]; rfl)
  rw [e] at h
  cases h
  rw [List.getD_eq_getElem?_getD, List.getElem?_eq_getElem hi]
  exact ru
theorem range_all (bs : List Bool) : (List.range bs.length).all (fun i => bs.getD i false) = bs.all id := by
  induction bs with
  | nil => rfl
  | cons b bs ih =>
    rw [List.length_cons, List.range_succ_eq_map, List.all_cons, List.all_map, List.all_cons, ← ih]
    rfl
inductive ICall_all (K : PySem.W.Frag) (xs : List V) (H : Hp) (Q : VK) : Prop
  | mk (a : Addr) (bs : List Bool) : xs = [.ref a] → SqL K H a (bs.map V.bl) → Q (.bl (bs.all id)) H → ICall_all K xs H Q
theorem call_all (hc : X.calm = true) : CallR X (.builtin "all") (ICall_all X.K) := by
  intro pins s σ H xs us Q I r h
  obtain ⟨a, bs, rfl, hS, q⟩ := h
  obtain ⟨u, rfl, ru⟩ := r.one
  cases ru
  obtain ⟨its, r1, p1, z1⟩ := I.list hS
  have l1 := r1.length
  rw [List.length_map] at l1
  have hlt : a < s.heap.objs.size := by obtain ⟨o, n, e, _⟩ := p1; exact Heap.lt_size e
  refine call_all_walk (wpAny_pyIter_list p1.isList ?_)
  have I1 : Inv X pins σ H { s with heap := s.heap.push { cls := .type "list_iterator", data := .fields #[.ref a, .int 0 0] } } := I.kept (t' := s.toks) fun b o e => Heap.get?_push_of_some _ e
  refine ⟨s.heap.objs.size, _, _, its.toArray.size, _, _, fun i => bs.getD i false, rfl, Walks.list (by simpa using I.ok.hd hc) s.heap.objs.size a (Nat.ne_of_lt hlt) its.toArray, ⟨⟨_, Heap.get?_push_size _ rfl, rfl, rfl⟩, p1.isList.push _⟩, ?_, fun h' tk hk => ?_⟩
  · intro i v s' Q' E' hP hQ
    have := bools_at r1 (i := i) (v := v) (by simpa using hP)
    subst this
    exact wpAny_truthy_bool hQ
  · have f := I.fpOk (H' := H) (Nat.le_refl _) (I.hok.fresh (Nat.le_refl _))
    refine ⟨.bl (bs.all id), H, I1.turned (it := s.heap.objs.size) (fun b o hb e => hk b o (by simpa using hb) e) f.1 f.2.1 f.2.2.2.1 f.2.2.2.2.1 f.2.2.2.2.2, ?_, q⟩
    rw [List.size_toArray, ← l1, range_all]
    rfl

theorem call_set_int (hc : X.calm = true) : CallR X (.type "set") (fun xs H Q => ∃ (a : Addr) (ns : List Int), xs = [.ref a] ∧ SqL X.K H a (ns.map V.int) ∧ ns.length < 4000 ∧
    ∀ l, H l = none → Q (.ref l) (upd H l (.set (fun k => (firstMet (fun i => ns.getD i 0) ns.length).any (· == k)) (firstMet (fun i => ns.getD i 0) ns.length).length))) := by
  intro pins s σ H xs us Q I r h
  obtain ⟨a, ns, rfl, hS, hz, q⟩ := h
  obtain ⟨u, rfl, ru⟩ := r.one
  cases ru
  obtain ⟨its, r1, p1, z1⟩ := I.list hS
  have l1 := r1.length
  rw [List.length_map] at l1
  have hsb : scanBound = 4096 := rfl
  refine call_set_list (ns := ns) (I.ok.hd hc) p1.isList (by simpa using intsAre_of r1) (by rw [List.size_toArray]; omega) fun h' tk hset hk => ?_
  have esz : its.toArray.size = ns.length := by rw [List.size_toArray]; omega
  rw [esz] at hset
  refine ⟨.ref s.heap.objs.size, _, I.laid (t' := tk) (o := .set _ _) (fun b o e => hk b o (Heap.lt_size e) e) (Nat.le_refl _) hset, rfl, q _ (I.hok.fresh (Nat.le_refl _))⟩
theorem call_len_set : CallR X (.builtin "len") (fun xs H Q => ∃ a S n, xs = [.ref a] ∧ H a = some (.set S n) ∧ Q (.int n) H) := by
  intro pins s σ H xs us Q I r h
  obtain ⟨a, S, n, rfl, hS, q⟩ := h
  obtain ⟨u, rfl, ru⟩ := r.one
  cases ru
  obtain ⟨o, es, ep, t, ho, hex, hd, _, _, hsz, hf, hn⟩ := I.hok a _ hS
  have hsb : scanBound = 4096 := rfl
  refine PySem.call_len_set ho hex hd hf (by omega) ⟨.int n, H, I.tok _, ⟨s.toks + 1, ?_⟩, q⟩
  rw [hn]
end
theorem firstMet_list (ns : List Int) : firstMet (fun i => ns.getD i 0) ns.length = ns.foldl step_dedup [] := by
  unfold firstMet
  congr 1
  refine List.ext_getElem (by simp) fun i h1 h2 => ?_
  rw [List.getElem_map, List.getElem_range, List.getD_eq_getElem?_getD, List.getElem?_eq_getElem h2]
  rfl
theorem dedup_le (acc ns : List Int) : (ns.foldl step_dedup acc).length ≤ acc.length + ns.length := by
  induction ns generalizing acc with
  | nil => exact Nat.le_refl _
  | cons a ns ih =>
    rw [List.foldl_cons]
    refine Nat.le_trans (ih _) ?_
    rw [step_length, List.length_cons]
    split <;> omega
theorem dedup_full (acc ns : List Int) (hacc : acc.Nodup) : (ns.foldl step_dedup acc).length = acc.length + ns.length ↔ (acc ++ ns).Nodup := by
  induction ns generalizing acc with
  | nil => simpa using hacc
  | cons a ns ih =>
    rw [List.foldl_cons]
    by_cases h : acc.any (· == a) = true
    · have e : step_dedup acc a = acc := by unfold step_dedup; rw [if_pos h]
      rw [e]
      have hm : a ∈ acc := by
        obtain ⟨x, hx, hb⟩ := List.any_eq_true.mp h
        have : x = a := by simpa using hb
        rw [← this]; exact hx
      constructor
      · intro q
        have := dedup_le acc ns
        rw [List.length_cons] at q
        omega
      · intro q
        rw [List.nodup_append] at q
        exact absurd rfl (q.2.2 a hm a List.mem_cons_self)
    · have e : step_dedup acc a = acc ++ [a] := by unfold step_dedup; rw [if_neg h]
      have hm : a ∉ acc := fun hm => h (List.any_eq_true.mpr ⟨a, hm, by simp⟩)
      have hn : (acc ++ [a]).Nodup := by
        rw [List.nodup_append]
        exact ⟨hacc, by simp, fun x hx y hy z => hm (by rw [List.mem_singleton.mp hy] at z; rw [← z]; exact hx)⟩
      rw [e]
      have := ih (acc ++ [a]) hn
      rw [List.append_assoc, List.singleton_append] at this
      rw [← this, List.length_append, List.length_singleton, List.length_cons]
      omega
theorem set_full (ns : List Int) : (firstMet (fun i => ns.getD i 0) ns.length).length = ns.length ↔ ns.Nodup := by
  rw [firstMet_list]
  have := dedup_full [] ns List.nodup_nil
  simpa using this

inductive ITMid (t : TS) (D : Ends) (σ : St) (H : Hp) : Prop
  | mk (P : St → Hp → Prop) : t { D with nx := P } σ H → (∀ σ' H', P σ' H' → D.nx σ' H') → ITMid t D σ H
noncomputable def tMid (t : TS) : TS := fun D σ H => ITMid t D σ H
theorem ps_mid {X : Cx} {st : Stmt} {t : TS} (h : PS X st t) : PS X st (tMid t) := by
  intro pins s σ H D I hw
  obtain ⟨P, h1, h2⟩ := hw
  refine thn (h pins s σ H _ I h1) fun f s' q => ?_
  cases f with
  | next => obtain ⟨σ', H', I', q⟩ := q; exact ⟨σ', H', I', h2 _ _ q⟩
  | brk => exact q
  | cont => exact q
  | ret u => exact q
end L2
set_option Elab.async false
set_option linter.all false
set_option maxRecDepth 100000
namespace L2
open PySem PySem.Spec PyProof.Rows

structure Fly (P : Program) (w : World) (outer : List Env) (H : Hp) (s : Shared) (x : Addr) (cls : Value) (H' : Hp) (s' : Shared) : Prop where
  os : s'.os = s.os
  bare : AllBare s'.gens
  ex : ∃ B a0, Heap.FlyingW B outer x cls a0 s'.heap ∧ HOk P w H' B ∧ (∀ b o, s.heap.get? b = some o → H b = none → b ∉ frs outer → B.get? b = some o) ∧ ∀ b o, s.heap.get? b = some o → b ∉ frs outer → ∃ o', B.get? b = some o'
  slot : ∀ b o, s.heap.get? b = some o → H b = none → b ∈ frs outer → ∃ sl, s'.heap.get? b = some { o with slots := sl }
  free : ∀ b o, s.heap.get? b = some o → H b = none → H' b = none
  tups : ∀ b xs, H b = some (.tup xs) → H' b = some (.tup xs)
  frzs : ∀ b o u, H b = some (.frz o u) → H' b = some (.frz o u)
  tbls : ∀ b ps, H b = some (.tbl ps) → ∃ more, H' b = some (.tbl (ps ++ more))
  new : H' x = none
noncomputable def CX1 (P : Program) (w : World) : CXT := fun outer H s E e s' => ∃ x cls H', e = .ref x ∧ Fly P w outer H s x cls H' s' ∧ E cls none H'
section
variable {P : Program} {w : World} {outer : List Env} {H H' : Hp} {s s' : Shared} {x : Addr} {cls : Value}
theorem ObjOk.obj {H : Hp} {h : Heap} {a : Addr} {o : HO} (x : ObjOk P w H h a o) : ∃ ob, h.get? a = some ob := by
  cases o with
  | lst xs => obtain ⟨_, _, _, _, e⟩ := x; exact ⟨_, e⟩
  | tup xs => obtain ⟨_, _, _, ob, e, _⟩ := x; exact ⟨ob, e⟩
  | dK kvs => obtain ⟨_, _, _, _, o, _, _, e, _⟩ := x; exact ⟨o, e⟩
  | dT kvs => obtain ⟨_, _, _, _, o, _, _, e, _⟩ := x; exact ⟨o, e⟩
  | set S n => obtain ⟨o, _, _, _, e, _⟩ := x; exact ⟨o, e⟩
  | ins C dx fs => obtain ⟨_, _, _, e, _⟩ := x; exact ⟨_, e⟩
  | own y => obtain ⟨o, e⟩ := x; exact ⟨o, e⟩
  | xd fs => obtain ⟨_, ⟨o, _, _, e, _⟩, _⟩ := x; exact ⟨o, e⟩
  | rng lo hi => obtain ⟨_, _, _, e⟩ := x; exact ⟨_, e⟩
  | frz ob u => obtain ⟨e, _⟩ := x; exact ⟨_, e⟩
  | tbl ps => exact ⟨_, (show h.get? a = some _ from x)⟩
  | met f y => exact ⟨_, (show h.get? a = some _ from x)⟩
  | ext φ => obtain ⟨_, ⟨o, e⟩, _⟩ := x; exact ⟨o, e⟩
theorem Fly.un (f : Fly P w outer H s x cls H' s') {B h : Heap} {a0 : Value} {l : List Env} (hB : HOk P w H' B) (k1 : ∀ b o, s.heap.get? b = some o → H b = none → b ∉ frs outer → B.get? b = some o) (k2 : ∀ b o, s.heap.get? b = some o → b ∉ frs outer → ∃ o', B.get? b = some o')
    (st : B.StaysIn h) (sl : ∀ b o, s.heap.get? b = some o → H b = none → b ∈ frs outer → ∃ q, h.get? b = some { o with slots := q }) (nf : ∀ b ∈ frs outer, H b = none) : Un (frs outer) [] H H' s.heap h where
  keep := fun b o q n hb _ => st b o (k1 b o q n hb)
  slot := fun b o q n hb _ => sl b o q n hb
  free := fun b o q n _ => f.free b o q n
  there := fun b o q _ => by
    by_cases hb : b ∈ frs outer
    · obtain ⟨z, e⟩ := sl b o q (nf b hb) hb
      exact ⟨_, e⟩
    · obtain ⟨o', e⟩ := k2 b o q hb
      exact ⟨o', st b o' e⟩
  tups := f.tups
  frzs := f.frzs
  tbls := f.tbls
end
section
variable {X : Cx} {pins : List (Addr × Obj)} {σ : St} {H H' : Hp} {s s' : Shared} {x : Addr} {cls : Value}
theorem Inv.nodata (I : Inv X pins σ H s) {b : Addr} (hb : b ∈ frs X.stack) {o : Obj} (e : s.heap.get? b = some o) : ∀ vs, o.data ≠ .fields vs := by
  obtain ⟨_, o', e', d⟩ := I.stack.mem hb
  rw [e] at e'; cases e'
  exact d
noncomputable def frameBase (h : Heap) (l : List Env) : Heap := PySem.W.hideAll h (frs l)
theorem frameBase_get {h : Heap} {l : List Env} {b : Addr} {o : Obj} (e : h.get? b = some o) (n : b ∉ frs l) : (frameBase h l).get? b = some o := PySem.W.hideAll_get _ e n
theorem of_frameBase {h : Heap} {l : List Env} {b : Addr} {o : Obj} (e : (frameBase h l).get? b = some o) : h.get? b = some o := PySem.W.of_hideAll _ e
theorem Inv.frameOk (I : Inv X pins σ H s) : HOk X.prog X.w H (frameBase s.heap X.stack) := fun a o e =>
  (I.hok a o e).stay (fun b u hb q => frameBase_get q fun z => by
    have n := I.stkFree b z
    rcases hb with hb | hb
    · rw [hb, e] at n; cases n
    · rw [n] at hb; cases hb) (fun _ q => q) fun _ _ q => q
end
noncomputable abbrev XW := St → Value → Hp → Prop
noncomputable def Fl (X : Cx) (W : XW) : Prop := ∀ (pins : List (Addr × Obj)) (σ : St) (H : Hp) (s : Shared) (x : Addr) (cls : Value) (H' : Hp) (s' : Shared), Inv X pins σ H s → Fly X.prog X.w X.stack H s x cls H' s' → W σ cls H' → X.xe (.ref x) s'
noncomputable def Md (X : Cx) (W : XW) : Prop := ∀ (pins : List (Addr × Obj)) (σ : St) (H : Hp) (s : Shared) (x : Addr) (cls : Value) (args : List Value) (h' : Heap), Inv X pins σ H s → Heap.MadeExcOf s.heap h' x cls args → W σ cls H → X.xe (.ref x) { s with heap := h' }
section
variable {P : Program} {w : World} {K : PySem.W.Frag} {mg : Str → Option Value} {base : Heap} {N : List Str} {qual : Str} {scope : Scope} {f : Addr} {cd : Value} {A : Around} {outer : List Env} {s0 : Shared} {H0 : Hp} {E : XK}
theorem fly_def : Fl (cxOf (CX1 P w) P w K mg base N qual scope f cd A outer s0 H0 E) fun _ cls H' => E cls none H' := by
  intro pins σ H s x cls H' s' I fl hE
  obtain ⟨B, a0, hfl, hB, k1, k2⟩ := fl.ex
  have hst : frs (envOfC qual scope s0.heap.objs.size f cd :: outer) = s0.heap.objs.size :: frs outer := rfl
  have old : ∀ b o, s0.heap.get? b = some o → b ∉ frs outer → b ∉ frs (envOfC qual scope s0.heap.objs.size f cd :: outer) := fun b o e hb => by
    rw [hst]
    exact fun z => (List.mem_cons.mp z).elim (fun q => absurd (Heap.lt_size e) (by rw [q]; exact Nat.lt_irrefl _)) hb
  refine wpAny_leaves_onW (base := B) (L := s0.heap.objs.size) I.ok.frames rfl hfl fun h2 hfl2 up => ?_
  refine ⟨x, cls, H', rfl, ⟨fl.os.trans I.os, fl.bare, ⟨B, a0, hfl2, hB, fun b o e n hb => ?_, fun b o e hb => ?_⟩, fun b o e n hb => ?_, fun b o e n => ?_, fun b xs e => fl.tups b xs (I.base.tups b xs e), fun b o u e => fl.frzs b o u (I.base.frzs b o u e), fun b ps e => ?_, fl.new⟩, hE⟩
  · exact k1 b o (I.base.keep b o e n hb (by simp [cxOf])) (I.base.free b o e n (by simp [cxOf])) (old b o e hb)
  · obtain ⟨o1, e1⟩ := I.base.there b o e (by simp [cxOf])
    exact k2 b o1 e1 (old b o e hb)
  · obtain ⟨sl, e1⟩ := I.base.slot b o e n hb (by simp [cxOf])
    obtain ⟨sl2, e2⟩ := fl.slot b _ e1 (I.base.free b o e n (by simp [cxOf])) (List.mem_cons_of_mem _ hb)
    obtain ⟨_, o', e', d⟩ := I.ok.funs.mem hb
    have eo : o' = o := by
      have e'' : s0.heap.get? b = some o' := e'
      rw [e] at e''; exact (Option.some.inj e'').symm
    subst eo
    obtain ⟨sl3, e3⟩ := up b _ e2 d
    exact ⟨sl3, e3⟩
  · obtain ⟨o1, e1⟩ := I.base.there b o e (by simp [cxOf])
    exact fl.free b o1 e1 (I.base.free b o e n (by simp [cxOf]))
  · obtain ⟨m1, e1⟩ := I.base.tbls b ps e
    obtain ⟨m2, e2⟩ := fl.tbls b _ e1
    exact ⟨m1 ++ m2, by rw [e2, Array.append_assoc]⟩
theorem md_def : Md (cxOf (CX1 P w) P w K mg base N qual scope f cd A outer s0 H0 E) fun _ cls H' => E cls none H' := by
  intro pins σ H s x cls args h' I mk hE
  have hst : frs (envOfC qual scope s0.heap.objs.size f cd :: outer) = s0.heap.objs.size :: frs outer := rfl
  have old : ∀ b o, s0.heap.get? b = some o → b ∉ frs outer → b ∉ frs (envOfC qual scope s0.heap.objs.size f cd :: outer) := fun b o e hb => by
    rw [hst]
    exact fun z => (List.mem_cons.mp z).elim (fun q => absurd (Heap.lt_size e) (by rw [q]; exact Nat.lt_irrefl _)) hb
  have hl : s.heap.FunFrames (frameBase s.heap (envOfC qual scope s0.heap.objs.size f cd :: outer)) (envOfC qual scope s0.heap.objs.size f cd :: outer) :=
    PySem.W.funFrames_hide I.stack fun env he b hb => List.mem_filterMap.mpr ⟨env, he, hb⟩
  have hB : HOk P w H (frameBase s.heap (envOfC qual scope s0.heap.objs.size f cd :: outer)) := I.frameOk
  have hx : H x = none := by
    cases q : H x with
    | none => rfl
    | some o =>
      obtain ⟨o', e⟩ := (I.hok x o q).obj
      rw [mk.new] at e; cases e
  refine wpAny_leaves_madeW (L := s0.heap.objs.size) (h := s.heap) (base := frameBase s.heap (envOfC qual scope s0.heap.objs.size f cd :: outer)) I.ok.frames rfl (fun b o e => of_frameBase e) hl mk fun h2 t hfl2 _ _ up => ?_
  refine ⟨x, cls, H, rfl, ⟨I.os, I.bare, ⟨_, _, hfl2, hB, fun b o e n hb => ?_, fun b o e hb => ?_⟩, fun b o e n hb => ?_, fun b o e n => I.base.free b o e n (by simp [cxOf]), I.base.tups, I.base.frzs, I.base.tbls, hx⟩, hE⟩
  · exact frameBase_get (I.base.keep b o e n hb (by simp [cxOf])) (old b o e hb)
  · obtain ⟨o1, e1⟩ := I.base.there b o e (by simp [cxOf])
    exact ⟨o1, frameBase_get e1 (old b o e hb)⟩
  · obtain ⟨sl, e1⟩ := I.base.slot b o e n hb (by simp [cxOf])
    obtain ⟨_, o', e', d⟩ := I.ok.funs.mem hb
    have eo : o' = o := by
      have e'' : s0.heap.get? b = some o' := e'
      rw [e] at e''; exact (Option.some.inj e'').symm
    subst eo
    obtain ⟨sl3, e3⟩ := up b _ (mk.keeps _ _ e1) d
    exact ⟨sl3, e3⟩
end
end L2
set_option Elab.async false
set_option linter.all false
set_option maxRecDepth 100000
namespace L2
open PySem PySem.Spec PyProof.Rows

noncomputable abbrev TJ := St → Hp → Str → (Str → Hp → Prop) → Prop
noncomputable def PJ (X : Cx) (es : List Expr) (t : TJ) : Prop :=
  ∀ (pins : List (Addr × Obj)) (s : Shared) (σ : St) (H : Hp) (acc : Str) (Q : Str → Hp → Prop), Inv X pins σ H s → t σ H acc Q →
    wpAny (model X.prog X.w) X.A (joinParts acc (evalEach es X.env)) (EP X pins σ fun v H' => ∃ y, v = .str y ∧ Q y H') X.xe s
noncomputable def jNil : TJ := fun _ H acc Q => acc.length ≤ sizeLine ∧ Q acc H
noncomputable def jCons (te : TE) (t : TJ) : TJ := fun σ H acc Q => te σ H fun x H1 => ∃ y, x = .str y ∧ (acc ++ y).length ≤ sizeLine ∧ t σ H1 (acc ++ y) Q
noncomputable def tFmt (te : TE) : TE := fun σ H Q => te σ H fun x H1 => (∃ i, x = .int i ∧ i.natAbs.log2 < 1920 ∧ Q (.str (toString i)) H1) ∨ (∃ y, x = .str y ∧ y.length ≤ sizeLine ∧ Q (.str y) H1)
noncomputable def tJoin (t : TJ) : TE := fun σ H Q => t σ H Str.empty fun y H1 => Q (.str y) H1
section
variable {X : Cx} {e v1 v2 : Expr} {es : List Expr} {te : TE} {t : TJ} {pos : Pos}
theorem pj_nil : PJ X [] jNil := fun pins s σ H acc Q I h => joinParts_nil ⟨.str acc, H, I.tok _, ⟨_, rfl⟩, acc, rfl, h.2⟩ h.1
theorem pj_cons (he : PE X e te) (hr : PJ X es t) : PJ X (e :: es) (jCons te t) := by
  intro pins s σ H acc Q I h
  show wpAny _ _ (joinParts acc (eval e X.env :: evalEach es X.env)) _ _ s
  refine joinParts_cons (thn (he pins s σ H _ I h) fun u s1 ⟨x, H1, I1, r1, y, ey, hz, q⟩ => ?_)
  subst ey
  obtain ⟨t', rfl⟩ := r1
  exact ⟨hz, hr pins s1 σ H1 _ Q I1 q⟩
theorem pe_fmt (he : PE X e te) : PE X (.FormattedValue e (-1) none pos) (tFmt te) := by
  intro pins s σ H Q I h
  refine FormattedValue_plain (thn (he pins s σ H _ I h) fun u s1 ⟨x, H1, I1, r1, q⟩ => ?_)
  rcases q with ⟨i, ex, hd, q⟩ | ⟨y, ex, hz, q⟩
  · subst ex
    obtain ⟨t', rfl⟩ := r1
    exact formatField_int_small hd ⟨.str (toString i), H1, I1.tok _, ⟨_, rfl⟩, q⟩
  · subst ex
    obtain ⟨t', rfl⟩ := r1
    exact formatField_str (fun t2 tk => ⟨.str y, H1, I1.tok _, ⟨_, rfl⟩, q⟩) hz
theorem pe_fstr {rest : List Expr} (h : PJ X (v1 :: v2 :: rest) t) : PE X (.JoinedStr (v1 :: v2 :: rest) pos) (tJoin t) := by
  intro pins s σ H Q I q
  exact JoinedStr_many (thn (h pins s σ H Str.empty _ I q) fun u s1 ⟨x, H1, I1, r1, y, ey, q1⟩ => ⟨x, H1, I1, r1, by subst ey; exact q1⟩)
end

noncomputable def bmV : List Value := [.type "ValueError", .type "Exception", .type "BaseException", .type "object"]
noncomputable abbrev ExC (K : PySem.W.Frag) (C : Addr) : Prop := PySem.W.excIn K C bmV "ValueError.__new__" = true
noncomputable def subIn (K : PySem.W.Frag) (C D : Addr) : Bool := match K.lookup C with
  | some ⟨_, _, .cls cd, _⟩ => cd.mro.contains (.ref D)
  | _ => false
theorem exc_obj {K : PySem.W.Frag} {h : Heap} {C : Addr} (hk : K.In h) (q : ExC K C) : ∃ tl N nm qn bs hd sn sb ab cl dd a0 a1 a2 a3 a5 mN,
    h.get? C = some (excClassObj nm qn C N bs tl hd sn sb ab cl dd a0 a1 a2 a3 a5 "ValueError.__new__") ∧ h.Ns N mN ∧ mN "__init__" = none ∧ OwnTail h bmV tl ∧ ∀ D, (Value.ref C :: tl).contains (.ref D) = subIn K C D := by
  unfold ExC PySem.W.excIn at q
  split at q
  next dd cd sl ho =>
    split at q
    next C' tl a0 a1 a2 a3 n a5 em es =>
      simp only [Bool.and_eq_true, beq_iff_eq, Bool.not_eq_true'] at q
      obtain ⟨⟨⟨⟨⟨z1, z2⟩, z3⟩, z4⟩, z5⟩, z6⟩ := q
      subst z1 z2
      have sb : ∀ D, (Value.ref C' :: tl).contains (.ref D) = subIn K C' D := fun D => by unfold subIn; rw [ho]; show _ = cd.mro.contains _; rw [em]
      obtain ⟨nm, bs, mro, ns, qn, hd, sn, sub, ab, cl, del⟩ := cd
      dsimp only at em z3 z5 z6
      subst em z3
      obtain ⟨l⟩ := sl
      have es' : l = [a0, a1, a2, a3, some (.builtin "ValueError.__new__"), a5] := es
      subst es'
      exact ⟨tl, ns, nm, qn, bs, hd, sn, sub, ab, cl, dd, a0, a1, a2, a3, a5, _, hk _ _ ho, .of_isNs (PySem.W.isNs_of_in hk z5), PySem.W.nsMap_none_of_in hk z5 z6, PySem.W.tail_of_in hk z4, sb⟩
    next => cases q
  next => cases q
section
variable {X : Cx}
noncomputable def tRaise (C : Addr) (W : XW) (ta : TA) : TS := fun _ σ H => ta σ H fun vs H1 => vs.length ≤ sizeLine ∧ W σ (.ref C) H1
theorem ps_raise {x : Str} {C : Addr} {W : XW} {np cpos pos : Pos} {e : Expr} {es : List Expr} {ta : TA} (hc : X.calm = true) (md : Md X W) (hg : Gl X x) (hm : X.mg x = some (.ref C)) (hx : ExC X.K C) (ha : PA X (e :: es) ta)
    (hdb : (x == ("__debug__" : Str)) = false := by decide) (he : starEach (e :: es) X.env = (false, eval e X.env) :: starEach es X.env := by rfl) (hpl : (backTo cpos (starEach es X.env)).any (·.1) = false := by rfl) :
    PS X (.Raise (some (.Call (.Name x np) (e :: es) [] cpos)) none pos) (tRaise C W ta) := by
  intro pins s σ H D I h
  obtain ⟨tl, N, nm, qn, bs, hd, sn, sb, ab, cl, dd, a0, a1, a2, a3, a5, mN, hC, hN, hni, T, _⟩ := exc_obj I.mod.kin hx
  refine wpAny_Raise_call_subT (C := C) (bm := tl) (nm := nm) (q := qn) (N := N) (bs := bs) (hdct := hd) (sn := sn) (sub := sb) (ab := ab) (col := cl) (dd := dd) (k0 := a0) (k1 := a1) (k2 := a2) (k3 := a3) (k5 := a5) PySem.F.excBase_ValueError (mN := mN) (T.hasType (by decide)) (I.ok.hd hc) (by rw [he]; show (false || (backTo cpos (starEach es X.env)).any (·.1)) = false; rw [hpl]; rfl) hni (ld_glob I hg hm ⟨rfl, ?_⟩ hdb)
  have hA := ha cpos pins s σ H _ I h
  rw [he] at hA ⊢
  refine Calls.evalArgs_plain (thn hA fun us s1 ⟨vs, H1, I1, r1, hz, q⟩ => ⟨rfl, by show us.length ≤ sizeLine; rw [← r1.length]; exact hz, I1.bk _ _ hC, hN.keeps I1.bk, T.keeps I1.bk, fun h' x mk => ?_⟩)
  exact md pins σ H1 s1 x (.ref C) us h' I1 mk q
end

structure CanX (P : Program) (w : World) (K : PySem.W.Frag) (mg : Str → Option Value) (base : Heap) (k : Nat) (x : Str) (ps : List Str) (sp : Sp) : Prop where
  ex : ∃ f fd, FnOk P w K mg base (CX1 P w) k f fd ps sp ∧ mg x = some (.ref f) ∧ PySem.W.keepIn K (.ref f) = true ∧ Binds K fd ps []
theorem CanX.of {P : Program} {w : World} {K : PySem.W.Frag} {mg : Str → Option Value} {base : Heap} {k : Nat} {x : Str} {ps : List Str} {sp : Sp} {f : Addr} {fd : FuncData} {qual : Str} {st : Stmt}
    (F : Fun K x qual st f fd) (G : FnOk P w K mg base (CX1 P w) k f fd ps sp) (hm : mg x = some (.ref f)) (b : Binds K fd ps []) : CanX P w K mg base k x ps sp := ⟨f, fd, G, hm, F.kp, b⟩
theorem Fun.okX {P : Program} {w : World} {K : PySem.W.Frag} {mg : Str → Option Value} {base : Heap} {x qual : Str} {st : Stmt} {f : Addr} {fd : FuncData} {N ps : List Str} {k : Nat} {sp : Sp} (F : Fun K x qual st f fd) (S : FnScope N ps (defScope st)) (len : ∀ vs H Q E, sp vs H Q E → vs.length = ps.length)
    (hbody : ∀ (X : Cx) (W : XW) (cdv : Value) (A : Around) (outer : List Env) (s : Shared) (H : Hp) (vs : List V) (Q : VK) (E : XK), X = cxOf (CX1 P w) P w K mg base N qual (defScope st) f cdv A outer s H E → W = (fun _ cls H' => E cls none H') → Fl X W → Md X W → Room k X.A → sp vs H Q E →
      ∃ t, PSs X (defBody st) t ∧ t { nx := fun _ H' => Q .non H', rt := Q } (start N vs) H) : FnOk P w K mg base (CX1 P w) (k + 1) f fd ps sp := by
  obtain ⟨oc, od, kV, doc, pm, an, cdv, ct, osl, rfl, lk, hcd⟩ := F.ex
  refine fn_of lk hcd S len fun A outer s H vs Q E hr hsp => ?_
  exact hbody _ _ cdv A outer s H vs Q E rfl rfl fly_def md_def hr hsp
noncomputable def tCallX (W : XW) (sp : Sp) (t : TA) : TE := fun σ H Q => t σ H fun vs H1 => sp vs H1 Q fun cls _ H' => W σ cls H'
section
variable {X : Cx} {k : Nat} {x : Str} {ps : List Str} {sp : Sp} {p pos : Pos} {e : Expr} {es : List Expr} {t : TA} {W : XW}
theorem run_fnX {pins : List (Addr × Obj)} {σ : St} {H : Hp} {s : Shared} {Q : VK} {us : List Value} {vs : List V} {f : Addr} {fd : FuncData} (F : FnOk X.prog X.w X.K X.mg X.base (CX1 X.prog X.w) k f fd ps sp) (hr : Room k X.A) (hb : Binds X.K fd ps []) (fl : Fl X W)
    (I : Inv X pins σ H s) (r : Vals vs us) (h : sp vs H Q fun cls _ H' => W σ cls H') : wpAny (model X.prog X.w) X.A (call (.ref f) us) (EP X pins σ Q) X.xe s := by
  have hl : us.length = ps.length := by rw [← r.length]; exact F.len _ _ _ _ h
  have hb' := hb s us I.kIn (by rw [List.append_nil]; exact hl)
  rw [List.append_nil] at hb'
  refine wpAny_call (codeAny_mono (F.run X.A X.stack s H ⟨us, []⟩ us vs Q _ hr I.env0 hb' r h) fun r s' hq => ?_)
  cases r with
  | error e =>
    obtain ⟨y, cls, H', rfl, fly, w⟩ := hq
    exact fl pins σ H s y cls H' s' I fly w
  | ok fl' =>
    cases fl' with
    | ret u => exact I.after hq
    | next => exact False.elim hq
    | brk => exact False.elim hq
    | cont => exact False.elim hq
theorem pe_ownX (C : CanX X.prog X.w X.K X.mg X.base k x ps sp) (fl : Fl X W) (hr : Room k X.A) (hg : Gl X x) (ha : PA X (e :: es) t) (hdb : (x == ("__debug__" : Str)) = false := by decide) (he : starEach (e :: es) X.env = (false, eval e X.env) :: starEach es X.env := by rfl)
    (hpl : (backTo pos (starEach es X.env)).any (·.1) = false := by rfl) : PE X (.Call (.Name x p) (e :: es) [] pos) (tCallX W sp t) := by
  obtain ⟨f, fd, F, hm, hk, hb⟩ := C.ex
  intro pins s σ H Q I h
  refine wpAny_Call_Name_kw (ld_glob I hg hm ?_ hdb)
  refine PySem.W.callWith_K (h₀ := X.base) I.ok.mod.kin hk (thn (ha pos pins s σ H _ I h) fun us s1 ⟨vs, H1, I1, r, q⟩ => ⟨I1.kIn, ?_⟩) he hpl
  exact run_fnX F hr hb fl I1 r q
end
end L2
set_option Elab.async false
set_option linter.all false
set_option maxRecDepth 100000
namespace L2
open PySem PySem.Spec PyProof.Rows
noncomputable def excO (x : Addr) (cls : Value) : HO := .ext fun h => ∃ o, h.get? x = some o ∧ o.cls = cls
noncomputable def suiteX (X : Cx) (x : Addr) : Cx := { X with A := X.A.mark (some (.ref x)), calm := false, xe := fun _ _ => False }
section
variable {X : Cx} {pins : List (Addr × Obj)} {σ : St} {H H' : Hp} {s s' : Shared} {x : Addr} {cls : Value}
theorem Cx.Ok.suite (ok : X.Ok) : (suiteX X x).Ok :=
  ⟨ok.mod, ok.kind, ok.glob, ok.blt, ok.above, ok.inj, ok.has, ok.cab, fun z => Bool.noConfusion (show false = true from z), ok.frames, ok.stk, ok.exf, ok.bs, ok.bsz, ok.noex, ok.exfs, ok.funs, ok.frf⟩
theorem Inv.suite (I : Inv X pins σ H s) : Inv (suiteX X x) pins σ H s := ⟨I.ok.suite, I.os, I.bare, I.base, I.loc, I.cell, I.free, I.freeC, I.pin, I.hok, I.len⟩
theorem Inv.unsuite (ok : X.Ok) (I : Inv (suiteX X x) pins σ H s) : Inv X pins σ H s := ⟨ok, I.os, I.bare, I.base, I.loc, I.cell, I.free, I.freeC, I.pin, I.hok, I.len⟩
theorem Fly.inv (I : Inv X pins σ H s) (f : Fly X.prog X.w X.stack H s x cls H' s') : Inv X pins σ H' s' := by
  obtain ⟨B, a0, hfl, hB, k1, k2⟩ := f.ex
  refine I.call' (ch := []) f.os (f.un (a0 := a0) (l := X.stack) hB k1 k2 hfl.1 f.slot I.stkFree) (hB.kept hfl.1) f.bare fun b z => nomatch z
theorem Fly.to (I : Inv X pins σ H s) (f : Fly X.prog X.w X.stack H s x cls H' s') {B h : Heap} {a0 : Value} (hB : HOk X.prog X.w H' B) (k1 : ∀ b o, s.heap.get? b = some o → H b = none → b ∉ frs X.stack → B.get? b = some o)
    (k2 : ∀ b o, s.heap.get? b = some o → b ∉ frs X.stack → ∃ o', B.get? b = some o') (hfl : Heap.FlyingW B X.stack x cls a0 h) (up : s'.heap.UpToSlots h) : Fly X.prog X.w X.stack H s x cls H' { s' with heap := h } :=
  ⟨f.os, f.bare, ⟨B, a0, hfl, hB, k1, k2⟩, fun b o e n hb => by
    obtain ⟨sl, e1⟩ := f.slot b o e n hb
    obtain ⟨sl2, e2⟩ := up b _ e1 (show ∀ vs, o.data ≠ .fields vs from I.nodata hb e)
    exact ⟨sl2, e2⟩, f.free, f.tups, f.frzs, f.tbls, f.new⟩
theorem fly_land {M : Model} {E : Value → Shared → Prop} {Q : Unit → Shared → Prop} (I : Inv X pins σ H s) (f : Fly X.prog X.w X.stack H s x cls H' s') (hst : X.stack = X.env :: X.outer) (hf : X.env.frame = some X.env.locals)
    (k : ∀ s'', Fly X.prog X.w X.stack H s x cls H' s'' → Q () s'') : wpAny M X.A (noteFrame (.ref x) X.env) (fun _ s2 => wpAny M X.A (setFlight (.ref x) none) Q E s2) E s' := by
  obtain ⟨B, a0, hfl, hB, k1, k2⟩ := f.ex
  have hfl' := hfl
  rw [hst] at hfl'
  refine wpAny_looks_onW (base := B) (by rw [← hst]; exact I.ok.frames) hf hfl' fun h1 hh up1 => ?_
  refine wpAny_landsW hh fun h2 hfl2 up2 => ?_
  rw [← hst] at hfl2
  exact k _ (f.to I hB k1 k2 hfl2 (up1.trans up2))
theorem fly_again {M : Model} {A : Around} {E : Value → Shared → Prop} {Q : Unit → Shared → Prop} (I : Inv X pins σ H s) (f : Fly X.prog X.w X.stack H s x cls H' s')
    (k : ∀ s'', Fly X.prog X.w X.stack H s x cls H' s'' → Q () s'') : wpAny M A (setFlight (.ref x) none) Q E s' := by
  obtain ⟨B, a0, hfl, hB, k1, k2⟩ := f.ex
  exact lands_againW hfl fun h2 hfl2 up2 => k _ (f.to I hB k1 k2 hfl2 up2)
theorem Fly.there (f : Fly X.prog X.w X.stack H s x cls H' s') : ∃ o, s'.heap.get? x = some o ∧ o.cls = cls := by
  obtain ⟨B, a0, hfl, _⟩ := f.ex
  exact hfl.there
theorem Inv.track (I : Inv X pins σ H s) (hx : H x = none) (he : ∃ o, s.heap.get? x = some o ∧ o.cls = cls) (ne : x ≠ X.env.locals) (nc : ∀ y c, X.env.cells.lookup y = some c → c ≠ x) (np : ∀ p ∈ X.pn ++ pins, p.1 ≠ x) (nb : X.s₀.heap.get? x = none) : Inv X pins σ (upd H x (excO x cls)) s := by
  obtain ⟨o, eo, ec⟩ := he
  refine ⟨I.ok, I.os, I.bare, ⟨I.base.keep, I.base.slot, fun b ob q n hb => ?_, I.base.there, fun b xs q => ?_, fun b ob u q => ?_, fun b ps q => ?_⟩, I.loc, I.cell, ?_, fun y c e => ?_, fun p hp => ?_, fun b u q => ?_, I.len⟩
  · rw [upd_ne (fun z => by rw [z, nb] at q; cases q)]; exact I.base.free b ob q n hb
  · have := I.base.tups b xs q; rw [upd_ne (ne_of_none this hx)]; exact this
  · have := I.base.frzs b ob u q; rw [upd_ne (ne_of_none this hx)]; exact this
  · obtain ⟨m, e⟩ := I.base.tbls b ps q
    exact ⟨m, by rw [upd_ne (ne_of_none e hx)]; exact e⟩
  · rw [upd_ne (Ne.symm ne)]; exact I.free
  · rw [upd_ne (nc y c e)]; exact I.freeC y c e
  · obtain ⟨p1, p2, p3⟩ := I.pin p hp
    exact ⟨p1, by rw [upd_ne (np p hp)]; exact p2, p3⟩
  · by_cases hb : b = x
    · subst hb
      rw [upd_same] at q; cases q
      exact ⟨⟨o, eo, ec⟩, ⟨o, eo⟩, fun h1 h2 ⟨o1, e1, c1⟩ k => ⟨o1, k o1 e1, c1⟩⟩
    · rw [upd_ne hb] at q
      exact (I.hok b u q).stay (fun c v _ z => z) (fun c z => by rw [upd_ne (ne_of_none z hx)]; exact z) fun c xs z => by rw [upd_ne (ne_of_none z hx)]; exact z
theorem gone_ok {M : Model} {A : Around} {E : Value → Shared → Prop} {i : Nat} {n : Str} {pos : Pos} {Q : Unit → Shared → Prop} (I : Inv X pins σ H s) (hN : X.N.Nodup) (hi : X.N[i]? = some n) (hk : X.env.scope.names.lookup n = some .local)
    (h : ∀ s', Inv X pins (σ.set i none) H s' → Q () s') : wpAny M A (do bindName X.env n .none; unbindBehindTheSuite X.env n pos) Q E s := by
  obtain ⟨m, hn, hl⟩ := id I.loc
  have hcls : (X.env.scope.kind == .class || (X.env.scope.kind == .module && X.env.locals != X.env.globals)) = false := by rw [I.ok.kind]; rfl
  refine wpAny_nameGoes_keeps hk hn hcls fun h' v hn' hs => ?_
  obtain ⟨oL, _, _, hoL, _⟩ := id hn
  have lt : ∀ b o, X.s₀.heap.get? b = some o → b ≠ X.env.locals := fun b o e => Nat.ne_of_lt (Nat.lt_of_lt_of_le (Heap.lt_size e) I.ok.above)
  refine h _ ⟨I.ok, I.os, I.bare, ⟨fun b o e q hb hx => (hs.2 b (lt b o e)).trans (I.base.keep b o e q hb hx), fun b o e q hb hx => ?_, I.base.free, fun b o e hx => ?_, I.base.tups, I.base.frzs, I.base.tbls⟩, ⟨_, hn', fun j y w e1 e2 e3 => ?_⟩, fun y c e => ?_, I.free, I.freeC, fun p hp => ?_, fun b ob e => ?_, by simpa using I.len⟩
  · obtain ⟨sl, e1⟩ := I.base.slot b o e q hb hx
    exact ⟨sl, (hs.2 b (lt b o e)).trans e1⟩
  · obtain ⟨o', e1⟩ := I.base.there b o e hx
    exact ⟨o', (hs.2 b (lt b o e)).trans e1⟩
  · have hji : j ≠ i := fun z => by
      subst z
      rw [List.getElem?_set_self (by rw [I.len]; exact (List.getElem?_eq_some_iff.mp hi).1)] at e2
      cases e2
    rw [List.getElem?_set_ne (Ne.symm hji)] at e2
    obtain ⟨u, r, q⟩ := hl j y w e1 e2 e3
    refine ⟨u, r, ?_⟩
    rcases q with ⟨k, e⟩ | ⟨k, c, e, z⟩
    · refine .inl ⟨k, ?_⟩
      have : y ≠ n := fun e => hji (nodup_ix hN e1 (e ▸ hi))
      simp [this, e]
    · exact .inr ⟨k, c, e, z.sameBut hs (I.cne y c e)⟩
  · obtain ⟨w', z⟩ := I.cell y c e
    exact ⟨w', z.sameBut hs (I.cne y c e)⟩
  · obtain ⟨e, q, ne, nf, d⟩ := I.pin p hp
    exact ⟨(hs.2 p.1 ne).trans e, q, ne, nf, d⟩
  · refine (I.hok b ob e).stay (fun c w' hc q => (hs.2 c ?_).trans q) (fun _ q => q) fun _ _ q => q
    rintro rfl
    have nl := I.free
    rcases hc with hc | hc
    · rw [hc, e] at nl; cases nl
    · rw [nl] at hc; cases hc
end

theorem exc_match {M : Model} {A : Around} {E : Value → Shared → Prop} {h : Heap} {g : Array GenState} {d : Drawn} {t : Nat} {os : OsState} {K : PySem.W.Frag} {e C D : Addr} {oe : Obj} {Q : Bool → Shared → Prop} (hk : K.In h) (xC : ExC K C) (xD : ExC K D)
    (he : h.get? e = some oe) (hcls : oe.cls = .ref C) (hq : Q (subIn K C D) ⟨h, g, d, t, os⟩) : wpAny M A (excMatches (.ref e) (.ref D)) Q E ⟨h, g, d, t, os⟩ := by
  obtain ⟨tl, N, nm, qn, bs, hd, sn, sb, ab, cl, dd, a0, a1, a2, a3, a5, mN, hC, hN, hni, T, sub⟩ := exc_obj hk xC
  obtain ⟨tl', N', nm', qn', bs', hd', sn', sb', ab', cl', dd', b0, b1, b2, b3, b5, mN', hD, hN', hni', T', sub'⟩ := exc_obj hk xD
  have cB : (Value.ref D :: tl').contains (.type "BaseException") = true := by rw [List.contains_cons, T'.hasType (X := "BaseException") (b := true) (by decide), Bool.or_true]
  have cD := sub D
  have f := tc_notTuple
  unfold excMatches
  repeat (first | (with_reducible refine wpAny_loadPart_at he ?_; rw [hcls]) | with_reducible refine wpAny_loadPart_at hD ?_ | (with_reducible refine wpAny_isSubtype_exc hD ?_; rw [cB]) | (with_reducible refine wpAny_isSubtype_exc hC ?_; rw [cD]) | wp_step)
  all_goals (cases hb : subIn K C D <;> (rw [hb] at hq; first | exact hq | (wp_walk; exact hq)))
noncomputable def PH (X : Cx) (hs : List ExceptHandler) (th : Value → TS) : Prop :=
  ∀ (pins : List (Addr × Obj)) (s0 s : Shared) (σ : St) (H H' : Hp) (x : Addr) (cls : Value) (D : Ends), Inv X pins σ H s0 → Fly X.prog X.w X.stack H s0 x cls H' s → th cls D σ H' → wpAny (model X.prog X.w) X.A (handleBy (.ref x) X.env hs) (SP X pins D) X.xe s
noncomputable def thNever : Value → TS := fun _ _ _ _ => False
theorem ph_never {X : Cx} {hs : List ExceptHandler} : PH X hs thNever := fun _ _ _ _ _ _ _ _ _ _ _ h => h.elim
noncomputable def Ends.gone (D : Ends) (i : Nat) : Ends := ⟨fun σ H => D.nx (σ.set i none) H, D.rt, fun σ H => D.bk (σ.set i none) H, fun σ H => D.ct (σ.set i none) H⟩
noncomputable def thAs (K : PySem.W.Frag) (Dx : Addr) (i : Nat) (ts : TS) (tr : Value → TS) : Value → TS := fun cls D σ H => ∃ C, cls = .ref C ∧ ExC K C ∧
  if subIn K C Dx = true then ∀ x, H x = none → ts (D.gone i) (σ.set i (some (.ref x))) (upd H x (excO x (.ref C))) else tr cls D σ H
noncomputable def thNo (K : PySem.W.Frag) (Dx : Addr) (ts : TS) (tr : Value → TS) : Value → TS := fun cls D σ H => ∃ C, cls = .ref C ∧ ExC K C ∧ if subIn K C Dx = true then ts D σ H else tr cls D σ H
section
variable {X : Cx} {x n : Str} {Dx : Addr} {np hpos : Pos} {b0 : Stmt} {suite : List Stmt} {rest : List ExceptHandler} {ts : TS} {tr : Value → TS} {i : Nat}
theorem SP.back {pins : List (Addr × Obj)} {D : Ends} {y : Addr} (ok : X.Ok) {f : Flow} {s : Shared} (h : SP (suiteX X y) pins D f s) : SP X pins D f s := by
  cases f with
  | next => obtain ⟨σ', H', I, q⟩ := h; exact ⟨σ', H', I.unsuite ok, q⟩
  | brk => obtain ⟨σ', H', I, q⟩ := h; exact ⟨σ', H', I.unsuite ok, q⟩
  | cont => obtain ⟨σ', H', I, q⟩ := h; exact ⟨σ', H', I.unsuite ok, q⟩
  | ret u => obtain ⟨v, σ', H', I, r, q⟩ := h; exact ⟨v, σ', H', I.unsuite ok, r, q⟩
theorem ph_as (hg : Gl X x) (hm : X.mg x = some (.ref Dx)) (hx : ExC X.K Dx) (hN : X.N.Nodup) (hi : X.N[i]? = some n) (hk : X.env.scope.names.lookup n = some .local) (hs : ∀ y, PSs (suiteX X y) (b0 :: suite) ts) (hr : PH X rest tr) (hex : X.ex = [] := by rfl)
    (hdb : (x == ("__debug__" : Str)) = false := by decide) : PH X (.ExceptHandler (some (.Name x np)) (some n) (b0 :: suite) hpos :: rest) (thAs X.K Dx i ts tr) := by
  intro pins s0 s σ H H' y cls D I fl h
  obtain ⟨C, rfl, hC, h⟩ := h
  have I1 : Inv X pins σ H' s := fl.inv I
  obtain ⟨oe, he, hcls⟩ := fl.there
  refine wpAny_handleBy_cons (codeAny_handlers_test ?_) (by intro q; cases q)
  refine ld_glob (X := suiteX X y) I1.suite hg hm ?_ hdb
  refine exc_match (K := X.K) (g := s.gens) (d := s.drawn) (t := s.toks) (os := s.os) I1.kIn hC hx he hcls ?_
  cases hb : subIn X.K C Dx with
  | false =>
    rw [hb, if_neg Bool.false_ne_true] at h
    exact hr pins s0 s σ H H' y (.ref C) D I fl h
  | true =>
    rw [hb, if_pos rfl] at h
    show codeAny _ _ (.handlers (.ref y) [.ExceptHandler none (some n) (b0 :: suite) hpos] X.env) _ s
    refine codeAny_handlers_suite_as ?_
    refine fly_again I fl fun s2 fl2 => ?_
    have I2 : Inv X pins σ H' s2 := fl2.inv I
    have hyn : H' y = none := fl2.new
    obtain ⟨B, a0, hfl, hB, k1, k2⟩ := fl2.ex
    have nB : B.get? y = none := hfl.2.1
    have nst : y ∉ frs X.stack := fun z => by
      obtain ⟨_, o1, e1, d⟩ := hfl.2.2.1.mem z
      obtain ⟨o2, vs, e2, _, d2, _⟩ := hfl.first
      rw [e1] at e2; cases e2
      exact d _ d2
    have n0 : s0.heap.get? y = none := by
      cases q : s0.heap.get? y with
      | none => rfl
      | some o => obtain ⟨o', e⟩ := k2 y o q nst; rw [nB] at e; cases e
    have J : Inv X pins σ (upd H' y (excO y (.ref C))) s2 := by
      refine I2.track hyn fl2.there (fun z => ?_) (fun z c e q => ?_) (fun p hp q => ?_) ?_
      · obtain ⟨m, ⟨o, _, _, ho, _⟩, _⟩ := I.loc
        rw [← z, n0] at ho; cases ho
      · obtain ⟨v, o, ho, _⟩ := I.cell z c e
        rw [q, n0] at ho; cases ho
      · have := (I.pin p hp).1
        rw [q, n0] at this; cases this
      · cases q : X.s₀.heap.get? y with
        | none => rfl
        | some o =>
          obtain ⟨o', e⟩ := I.base.there y o q (by rw [hex]; exact List.not_mem_nil)
          rw [n0] at e; cases e
    have J' : Inv (suiteX X y) pins σ (upd H' y (excO y (.ref C))) s2 := J.suite
    refine store_ok (X := suiteX X y) J' hN hi (.inl hk) (show RelV (.ref y) (.ref y) from rfl) (fun s3 I3 => ?_) (.inr hk)
    refine wpAny_mono (hs y pins s3 _ _ (D.gone i) I3 (h y hyn)) (fun f s4 q4 => ?_) fun _ _ z => False.elim z
    have q5 := SP.back I.ok q4
    cases f with
    | next => obtain ⟨σ', H2, I4, q⟩ := q5; exact gone_ok I4 hN hi hk fun s5 I5 => ⟨_, _, I5, q⟩
    | brk => obtain ⟨σ', H2, I4, q⟩ := q5; exact gone_ok I4 hN hi hk fun s5 I5 => ⟨_, _, I5, q⟩
    | cont => obtain ⟨σ', H2, I4, q⟩ := q5; exact gone_ok I4 hN hi hk fun s5 I5 => ⟨_, _, I5, q⟩
    | ret u => obtain ⟨v, σ', H2, I4, r, q⟩ := q5; exact gone_ok I4 hN hi hk fun s5 I5 => ⟨v, _, _, I5, r, q⟩
theorem ph_no (hg : Gl X x) (hm : X.mg x = some (.ref Dx)) (hx : ExC X.K Dx) (hs : ∀ y, PSs (suiteX X y) (b0 :: suite) ts) (hr : PH X rest tr) (hdb : (x == ("__debug__" : Str)) = false := by decide) :
    PH X (.ExceptHandler (some (.Name x np)) none (b0 :: suite) hpos :: rest) (thNo X.K Dx ts tr) := by
  intro pins s0 s σ H H' y cls D I fl h
  obtain ⟨C, rfl, hC, h⟩ := h
  have I1 : Inv X pins σ H' s := fl.inv I
  obtain ⟨oe, he, hcls⟩ := fl.there
  refine wpAny_handleBy_cons (codeAny_handlers_test ?_) (by intro q; cases q)
  refine ld_glob (X := suiteX X y) I1.suite hg hm ?_ hdb
  refine exc_match (K := X.K) (g := s.gens) (d := s.drawn) (t := s.toks) (os := s.os) I1.kIn hC hx he hcls ?_
  cases hb : subIn X.K C Dx with
  | false =>
    rw [hb, if_neg Bool.false_ne_true] at h
    exact hr pins s0 s σ H H' y (.ref C) D I fl h
  | true =>
    rw [hb, if_pos rfl] at h
    show codeAny _ _ (.handlers (.ref y) [.ExceptHandler none none (b0 :: suite) hpos] X.env) _ s
    refine codeAny_handlers_suite ?_
    refine fly_again I fl fun s2 fl2 => ?_
    have I2 : Inv X pins σ H' s2 := fl2.inv I
    exact wpAny_mono (hs y pins s2 _ _ D I2.suite h) (fun f s4 q4 => SP.back I.ok q4) fun _ _ z => False.elim z

noncomputable abbrev _root_.L2.Cx.inTry (X : Cx) (E : Value → Shared → Prop) (pn : List (Addr × Obj)) : Cx := { X with xe := E, pn := pn }
noncomputable def tTry (tb : XW → TS) (th : Value → TS) : TS := fun D σ H => ∃ W : XW, tb W D σ H ∧ ∀ σ1 cls H1, W σ1 cls H1 → th cls D σ1 H1
theorem Inv.tried {E : Value → Shared → Prop} {pins : List (Addr × Obj)} {σ : St} {H : Hp} {s : Shared} (I : Inv X pins σ H s) : Inv (X.inTry E (X.pn ++ pins)) [] σ H s :=
  ⟨⟨I.ok.mod, I.ok.kind, I.ok.glob, I.ok.blt, I.ok.above, I.ok.inj, I.ok.has, I.ok.cab, I.ok.hd, I.ok.frames, I.ok.stk, I.ok.exf, I.ok.bs, I.ok.bsz, I.ok.noex, I.ok.exfs, I.ok.funs, I.ok.frf⟩, I.os, I.bare, I.base, I.loc, I.cell, I.free, I.freeC, fun p hp => I.pin p (by simpa using hp), I.hok, I.len⟩
theorem Inv.untried {E : Value → Shared → Prop} {pins pins1 : List (Addr × Obj)} {σ : St} {H : Hp} {s : Shared} (I : Inv (X.inTry E (X.pn ++ pins)) pins1 σ H s) : Inv X pins σ H s :=
  ⟨⟨I.ok.mod, I.ok.kind, I.ok.glob, I.ok.blt, I.ok.above, I.ok.inj, I.ok.has, I.ok.cab, I.ok.hd, I.ok.frames, I.ok.stk, I.ok.exf, I.ok.bs, I.ok.bsz, I.ok.noex, I.ok.exfs, I.ok.funs, I.ok.frf⟩, I.os, I.bare, I.base, I.loc, I.cell, I.free, I.freeC, fun p hp => I.pin p (List.mem_append_left _ hp), I.hok, I.len⟩
theorem ps_try {body : List Stmt} {h0 : ExceptHandler} {hs : List ExceptHandler} {pos : Pos} {tb : XW → TS} {th : Value → TS} (hst : X.stack = X.env :: X.outer) (hf : X.env.frame = some X.env.locals)
    (hb : ∀ (E : Value → Shared → Prop) (pn : List (Addr × Obj)) (W : XW), Fl (X.inTry E pn) W → PSs (X.inTry E pn) body (tb W)) (hh : PH X (h0 :: hs) th) : PS X (.Try body (h0 :: hs) [] [] pos) (tTry tb th) := by
  intro pins s σ H D I h
  obtain ⟨W, h1, h2⟩ := h
  refine wpAny_Try_except ?_
  refine wpAny_mono (hb (fun e s₁ => wpAny (model X.prog X.w) X.A (noteFrame e X.env) (fun _ s₂ => wpAny (model X.prog X.w) X.A (setFlight e none) (fun _ s₃ => wpAny (model X.prog X.w) X.A (handleBy e X.env (h0 :: hs)) (SP X pins D) X.xe s₃) X.xe s₂) X.xe s₁) (X.pn ++ pins) W ?_ [] s σ H D I.tried h1) (fun f s1 q => ?_) fun e s1 q => q
  · intro pins1 σ1 H1 s1 x cls H' s' I1 fly w1
    exact fly_land (X := X) (pins := pins) I1.untried fly hst hf fun s2 fly2 => hh pins s1 s2 σ1 H1 H' x cls D I1.untried fly2 (h2 σ1 cls H' w1)
  · cases f with
    | next => obtain ⟨σ', H', I', q⟩ := q; exact wpAny_execs_nil ⟨σ', H', I'.untried, q⟩
    | brk => obtain ⟨σ', H', I', q⟩ := q; exact ⟨σ', H', I'.untried, q⟩
    | cont => obtain ⟨σ', H', I', q⟩ := q; exact ⟨σ', H', I'.untried, q⟩
    | ret u => obtain ⟨v, σ', H', I', r, q⟩ := q; exact ⟨v, σ', H', I'.untried, r, q⟩
end
end L2
set_option Elab.async false
set_option linter.all false
set_option maxRecDepth 100000
namespace L2
open PySem PySem.Spec PyProof.Rows

theorem looks_cls {M : Model} {h : Heap} {x : Addr} {o : Obj} {t : Value} (e : h.get? x = some o) (c : o.cls = t) : PySem.W.Looks M h (typeOf (.ref x)) t := by
  intro A Q E s k q
  show wpAny M A (loadHead x >>= fun o => pure o.cls) Q E s
  unfold loadHead
  exact wpAny_bind (wpAny_loadPart (k _ _ e) (wpAny_pure (by rw [c]; exact q)))
section
variable {X : Cx}
end
theorem fl_no {X : Cx} : Fl X fun _ _ _ => False := fun _ _ _ _ _ _ _ _ _ _ h => h.elim
noncomputable abbrev ClsN (K : PySem.W.Frag) (x : Str) (C : Addr) : Prop := PySem.W.nsIn K mainGlobals x = some (some (.ref C))
theorem ClsN.inj {K : PySem.W.Frag} {x : Str} {C D : Addr} (a : ClsN K x C) (b : ClsN K x D) : C = D := by
  have := a.symm.trans b
  cases this
  rfl
theorem pe_cls {X : Cx} {x : Str} {C : Addr} {pos : Pos} (hg : Gl X x) (hm : X.mg x = some (.ref C)) (hd : (x == ("__debug__" : Str)) = false := by decide) : PE X (.Name x pos) (tC (.ref C)) := pe_glob hg hm rfl hd
end L2
set_option Elab.async false
set_option linter.all false
set_option maxRecDepth 100000
namespace L2
open PySem PySem.Spec PyProof.Rows

section
variable {X : Cx} {K : PySem.W.Frag}
theorem ix_tupK (h : X.K = K) : IxR X (rIxT K) := by subst h; exact ix_tup
end
theorem iteY {b : Bool} {A B : Prop} (h : b = true) (k : A) : if b = true then A else B := by rw [if_pos h]; exact k
theorem iteNo {b : Bool} {A B : Prop} (h : b = false) (k : B) : if b = true then A else B := by rw [h, if_neg Bool.false_ne_true]; exact k
end L2
set_option Elab.async false
set_option linter.all false
set_option maxRecDepth 100000
namespace L2
open PySem PySem.Spec PyProof.Rows

section
variable {α : Type} [DecidableEq α]
noncomputable def meet (acc : List α) (v : α) : List α := if v ∈ acc then acc else acc ++ [v]
noncomputable def met (val : Nat → α) (i : Nat) : List α := ((List.range i).map val).foldl meet []
theorem met_succ (val : Nat → α) (i : Nat) : met val (i + 1) = meet (met val i) (val i) := by
  unfold met; rw [List.range_succ, List.map_append, List.foldl_append]; rfl
theorem mem_meet {acc : List α} {v k : α} : k ∈ meet acc v ↔ k ∈ acc ∨ k = v := by
  unfold meet
  split
  · rename_i h
    exact ⟨.inl, fun z => z.elim id fun e => by rw [e]; exact h⟩
  · rw [List.mem_append, List.mem_singleton]
theorem len_meet (acc : List α) (v : α) : (meet acc v).length = if decide (v ∈ acc) = true then acc.length else acc.length + 1 := by
  unfold meet
  by_cases h : v ∈ acc
  · rw [if_pos h, decide_eq_true h, if_pos rfl]
  · rw [if_neg h, decide_eq_false h, if_neg (by decide), List.length_append]; rfl
theorem met_len (val : Nat → α) : ∀ i, (met val i).length ≤ i
  | 0 => Nat.le_refl _
  | i + 1 => by
    rw [met_succ, len_meet]
    have := met_len val i
    split <;> omega
theorem met_list (ts : List α) (d : α) : met (fun i => ts.getD i d) ts.length = ts.foldl meet [] := by
  unfold met
  congr 1
  refine List.ext_getElem (by simp) fun i h1 h2 => ?_
  rw [List.getElem_map, List.getElem_range, List.getD_eq_getElem?_getD, List.getElem?_eq_getElem h2]
  rfl
theorem fold_meet_le (acc ts : List α) : (ts.foldl meet acc).length ≤ acc.length + ts.length := by
  induction ts generalizing acc with
  | nil => exact Nat.le_refl _
  | cons a ts ih =>
    rw [List.foldl_cons]
    refine Nat.le_trans (ih _) ?_
    rw [len_meet, List.length_cons]
    split <;> omega
theorem fold_meet_full (acc ts : List α) (hacc : acc.Nodup) : (ts.foldl meet acc).length = acc.length + ts.length ↔ (acc ++ ts).Nodup := by
  induction ts generalizing acc with
  | nil => simpa using hacc
  | cons a ts ih =>
    rw [List.foldl_cons]
    by_cases h : a ∈ acc
    · have e : meet acc a = acc := by unfold meet; rw [if_pos h]
      rw [e]
      constructor
      · intro q
        have := fold_meet_le acc ts
        rw [List.length_cons] at q
        omega
      · intro q
        rw [List.nodup_append] at q
        exact absurd rfl (q.2.2 a h a List.mem_cons_self)
    · have e : meet acc a = acc ++ [a] := by unfold meet; rw [if_neg h]
      have hn : (acc ++ [a]).Nodup := by
        rw [List.nodup_append]
        exact ⟨hacc, by simp, fun x hx y hy z => h (by rw [List.mem_singleton.mp hy] at z; rw [← z]; exact hx)⟩
      rw [e]
      have := ih (acc ++ [a]) hn
      rw [List.append_assoc, List.singleton_append] at this
      rw [← this, List.length_append, List.length_singleton, List.length_cons]
      omega
theorem met_full (ts : List α) (d : α) : (met (fun i => ts.getD i d) ts.length).length = ts.length ↔ ts.Nodup := by
  rw [met_list]
  have := fold_meet_full [] ts List.nodup_nil
  simpa using this
end

section
variable {prog : Program} {w : World} {A : Around} {R : Result → Shared → Prop} {it : Addr} {fp wr : List Addr} {G : Array GenState → Array GenState → Prop} {n : Nat} {P : Nat → Value → Prop} {St : Nat → Shared → Prop}
variable {α : Type} [DecidableEq α] {knd : KeyKind prog w α}
theorem setOf_moved {h h' : Heap} {a : Addr} {S : α → Bool} {m : Nat} (x : h.SetOf knd a S m) (k : ∀ o, h.get? a = some o → h'.get? a = some o) : h'.SetOf knd a S m := by
  obtain ⟨o, es, ep, t, ho, r⟩ := x
  exact ⟨o, es, ep, t, k _ ho, r⟩
theorem setOf_as {h : Heap} {a : Addr} {S S' : α → Bool} {m m' : Nat} (x : h.SetOf knd a S m) (e : S = S') (e' : m = m') : h.SetOf knd a S' m' := by subst e; subst e'; exact x
theorem set_fill (W : WalksS prog w A.in1 it fp wr G n P St) (S : Addr) (hS : S ∉ fp) (val : Nat → α) (hv : ∀ i v, P i v → knd.is (val i) v = true ∧ v.scannable = true) (hb : n + 1 < scanBound) :
    ∀ (k i : Nat) (s : Shared), k + i = n → St i s → s.heap.SetOf knd S (fun x => decide (x ∈ met val i)) (met val i).length →
      (∀ s', Moved (S :: wr) G s s' → s'.heap.SetOf knd S (fun x => decide (x ∈ met val n)) (met val n).length → R (.ok (.ret .none)) s') →
      codeAny (model prog w) A (.builtin "set.update.loop" ⟨[.ref S, .ref it], []⟩) R s := by
  have hw : S ∉ wr := fun z => hS (W.sub _ z)
  intro k
  induction k with
  | zero =>
    intro i s hk st hs hR
    rw [Nat.zero_add] at hk
    subst hk
    refine codeAny_builtin F.entry_set_update_loop ?_
    rw [Around.under_plainId F.plain_set_update_loop _]
    refine wpAny_bind (W.done s _ _ st fun s' hm => ?_)
    exact wpAny_pure (hR s' (hm.mono fun b z => List.mem_cons_of_mem _ z) (setOf_moved hs fun o e => hm.heap S o hw e))
  | succ k ih =>
    intro i s hk st hs hR
    refine codeAny_builtin F.entry_set_update_loop ?_
    rw [Around.under_plainId F.plain_set_update_loop _]
    refine wpAny_bind (W.item i s _ _ (by omega) st fun v s' hP st' hm => ?_)
    obtain ⟨kv, sv⟩ := hv i v hP
    have hs' := setOf_moved hs fun o e => hm.heap S o hw e
    refine wpAny_bind (m := holding [v] (setAdd S v)) (wpAny_holding ?_)
    unfold setAdd
    refine wpAny_holding (wpAny_bind (knd.pyHash kv ?_))
    refine wpAny_setAddHashed_of (knd := knd) (s := { s' with toks := s'.toks + 1 }) kv sv hs' (by have := met_len val i; omega) fun h' hsb hs2 => ?_
    have hs3 : h'.SetOf knd S (fun x => decide (x ∈ met val (i + 1))) (met val (i + 1)).length := by
      refine setOf_as hs2 (funext fun x => ?_) ?_
      · rw [met_succ]
        by_cases h1 : x ∈ met val i
        · rw [decide_eq_true h1, decide_eq_true (mem_meet.mpr (.inl h1)), Bool.true_or]
        · by_cases h2 : x = val i
          · rw [decide_eq_true h2, decide_eq_true (mem_meet.mpr (.inr h2)), Bool.or_true]
          · rw [decide_eq_false h1, decide_eq_false h2, decide_eq_false fun z => (mem_meet.mp z).elim h1 h2]; rfl
      · rw [met_succ, len_meet]
    refine wpAny_pure ⟨plainId_quiet F.plain_set_update_loop _, ih (i + 1) _ (by omega) (W.frame _ s' _ _ st' (Nat.le_succ _) fun b hb o e => ?_) hs3 fun s'' hm'' => hR s'' ?_⟩
    · rw [hsb.2 b fun z => hS (by rw [← z]; exact hb)]; exact e
    · refine Moved.trans W.gtrans ((hm.mono fun b z => List.mem_cons_of_mem _ z).then_heap (Nat.le_succ _) fun b o hb e => ?_) hm''
      rw [hsb.2 b fun z => hb (by rw [z]; exact List.mem_cons_self)]; exact e
end

section
variable {prog : Program} {w : World} {A : Around} {E : Value → Shared → Prop} {s : Shared} {α : Type} [DecidableEq α] {knd : KeyKind prog w α}
noncomputable def Filled (knd : KeyKind prog w α) (s : Shared) (ks : List α) (s2 : Shared) : Prop :=
  ∃ (h' : Heap) (tk : Nat), s2 = { s with heap := h', toks := tk } ∧ h'.SetOf knd s.heap.objs.size (fun k => decide (k ∈ ks)) ks.length ∧ ∀ b o, b < s.heap.objs.size → s.heap.get? b = some o → h'.get? b = some o
set_option maxHeartbeats 3200000 in
theorem call_set_of {l : Addr} {items : Array Value} {val : Nat → α} {Q : Value → Shared → Prop} (hh : A.handled = none) (hl : s.heap.IsList l items) (hv : ∀ i v, items[i]? = some v → knd.is (val i) v = true ∧ v.scannable = true) (hb : items.size + 1 < scanBound)
    (h : ∀ s2, Filled knd s (met val items.size) s2 → Q (.ref s.heap.objs.size) s2) : wpAny (model prog w) A (call (.type "set") [.ref l]) Q E s := by
  have hlt : l < s.heap.objs.size := by obtain ⟨o, e, _⟩ := hl; exact Heap.lt_size e
  obtain ⟨c, tl, hmro⟩ := F.called_set.mro
  have hmade := F.called_set.made
  have hsub := F.called_set.sub
  refine wpAny_call (codeAny_of_tree ?_)
  show wpAny _ _ (callAny (.type "set") _) _ _ _
  refine wpAny_pure ⟨Code.quiet_builtin _ (by decide +kernel), codeAny_builtin F.entry_type_call ?_⟩
  rw [Around.under_plain (weight_type_call_type "set" [.ref l] []) rfl]
  have h1 := F.called_set.notType
  have h2 := F.called_set.canCreate
  have h3 := F.typeCall_set_1 (.ref l)
  repeat (any_goals (first | assumption | wp_step))
  refine codeAny_mono (code_set_new_1 (.ref l) (E := E) (Q₁ := fun v s₁ => ∃ led : Bool, v = .ref s.heap.objs.size ∧ s₁ = { s with heap := s.heap.push { cls := .type "set", dict := none, data := .set #[] 0 (.fresh 0 0 led) } }) fun led => ⟨led, rfl, rfl⟩) fun r s₁ hr => ?_
  rcases r with e | fl
  · exact hr
  cases fl with
  | ret v =>
    obtain ⟨led, rfl, rfl⟩ := hr
    generalize hob : ({ cls := .type "set", dict := none, data := .set #[] 0 (.fresh 0 0 led) } : Obj) = ob
    have hS : (s.heap.push ob).get? s.heap.objs.size = some ob := Heap.get?_push_size _ (by rw [← hob]; rfl)
    have hT : Shared.TypeIs { s with heap := s.heap.push ob } (.ref s.heap.objs.size) "set" := ⟨_, hS, by rw [← hob]⟩
    have h4 := F.called_set.init.lookup
    have h5 := F.called_set.init.bind (.ref s.heap.objs.size)
    repeat (any_goals (first | assumption | wp_step))
    refine codeAny_mono (codeAny_call_builtin (R := wants (fun r s₂ => r = .none ∧ Filled knd s (met val items.size) s₂) E) F.called_set.init.plain F.entry_set_init (check_set_init_1 hT ?_)) fun r₂ s₂ hr₂ => ?_
    · have hl1 : (s.heap.push ob).IsList l items := hl.push _
      obtain ⟨⟨ocls, odict, odata, oslots⟩, hol, hcl, nl, hdl⟩ := id hl1
      simp only at hcl hdl
      subst hcl hdl
      have h6 := F.sub_list_set
      have h7 := F.sub_list_frozenset
      have h8 : (Value.type "list" == Value.type "dict") = false := by decide
      subst hob
      unfold Builtin.«set.__init__» noKeywords Builtin.Frozenset.updateFrom
      generalize hPI : pyIter = PI
      wp_walk
      subst hPI
      refine wpAny_pyIter_list hl1 (wpAny_bind (wpAny_runValue ?_))
      have hsz : (s.heap.push { cls := .type "set", dict := none, data := .set #[] 0 (.fresh 0 0 led) }).objs.size = s.heap.objs.size + 1 := Heap.size_push ..
      refine set_fill (knd := knd) ((Walks.list (by simp [hh]) _ l (by rw [hsz]; exact Nat.ne_of_lt (Nat.lt_succ_of_lt hlt)) items).toS) s.heap.objs.size ?_ val hv hb items.size 0 _ rfl ⟨⟨_, Heap.get?_push_size _ rfl, rfl, rfl⟩, hl1.push _⟩ ?_ fun s' hm hS' => ?_
      · rw [hsz]
        simp only [List.mem_cons, List.not_mem_nil, or_false, not_or]
        exact ⟨Nat.ne_of_lt (Nat.lt_succ_self _), Nat.ne_of_gt hlt⟩
      · exact setOf_as ((setObjOf_fresh (knd := knd) led).setOf (Heap.get?_push_of_some _ hS) (by unfold scanBound; omega)) rfl rfl
      · obtain ⟨h', g', d', tk', os'⟩ := s'
        have eg : g' = s.gens := hm.gens
        have ed : d' = s.drawn := hm.drawn
        have eo : os' = s.os := hm.os
        subst eg ed eo
        refine wpAny_pure (show wpAny _ _ (ret Value.none) _ _ _ from wpAny_pure ⟨rfl, h', tk', rfl, hS', fun b o hb e => ?_⟩)
        refine hm.heap b o ?_ (Heap.get?_push_of_some _ (Heap.get?_push_of_some _ e))
        rw [hsz]
        simp only [List.mem_cons, List.not_mem_nil, or_false, not_or]
        exact ⟨Nat.ne_of_lt hb, Nat.ne_of_lt (Nat.lt_succ_of_lt hb)⟩
    · rcases r₂ with e | fl₂
      · exact hr₂
      cases fl₂ with
      | ret r =>
        obtain ⟨rfl, hf⟩ := hr₂
        repeat (any_goals (first | assumption | wp_step))
        exact h _ hf
      | _ => exact hr₂.elim
  | _ => exact hr.elim
end
end L2
set_option Elab.async false
set_option linter.all false
set_option maxRecDepth 100000
namespace L2
open PySem PySem.Spec PyProof.Rows
section
variable {X : Cx}

inductive IOp_le_str (x y : V) (H : Hp) (Q : VK) : Prop
  | mk (i : _) (j : _) : x = .str i → y = .str j → Q (.bl (!decide (j.cps.toList < i.cps.toList))) H → IOp_le_str x y H Q
theorem op_le_str : OpR X (compareOp .LtE) IOp_le_str := by
  intro pins s σ H x y v u Q I rx ry h
  obtain ⟨i, j, rfl, rfl, q⟩ := h
  obtain ⟨t, rfl⟩ := rx
  obtain ⟨t', rfl⟩ := ry
  exact PySem.P.le_str (fin_bl I q rfl)
inductive IRSlS (x : V) (lo hi : Option Int) (H : Hp) (Q : VK) : Prop
  | mk (z : _) : x = .str z → z.length ≤ sizeLine → Q (.str (PySem.Txt.slice z lo hi)) H → IRSlS x lo hi H Q
noncomputable def rSlS : V → Option Int → Option Int → Hp → VK → Prop := fun x lo hi H Q => IRSlS x lo hi H Q
theorem part_as {v : Value} {o : Option Int} (h : IsPart v o) : ∃ p : Option (Int × Tok), v = partValue p ∧ p.map (·.1) = o := by
  cases h with
  | none => exact ⟨none, rfl, rfl⟩
  | int i t => exact ⟨some (i, t), rfl, rfl⟩
theorem sl_str : SlR X rSlS := by
  intro pins s σ H x v vl vu lo hi sl Q I rx hs pl pu h
  obtain ⟨z, rfl, hz, q⟩ := h
  obtain ⟨t, rfl⟩ := rx
  obtain ⟨l, rfl, rfl⟩ := part_as pl
  obtain ⟨u, rfl, rfl⟩ := part_as pu
  refine ⟨"str", _, PySem.F.slot_str_getitem.lookup, typeIs_str _ _ _, wpAny_getItem_str_slice (l := l) (u := u) (st := none) hs rfl (post_val_or_str ⟨Nat.le_trans (PySem.Txt.slice_le z _ _) hz, fun t' k => ?_⟩)⟩
  exact ⟨.str (PySem.Txt.slice z _ _), H, I.tok _, ⟨t', rfl⟩, q⟩

noncomputable def Its (z : Str) : It := ⟨fun i _ => i < z.length, fun i H x H' => H' = H ∧ ∃ c, z.cps[i]? = some c ∧ x = .str ⟨#[c]⟩, fun i _ => i = z.length⟩
theorem turn_str {P : Program} {w : World} {K : PySem.W.Frag} {tg : Expr} (it : Addr) (T : String) (z : Str) (t : Tok)
    (hT : ["enumerate", "zip", "dict_itemiterator", "dict_reverseitemiterator", "odict_iterator", "itertools.zip_longest", "itertools.pairwise"].contains T = false)
    (W : ∀ A : Around, A.handled = none → Walks P w A it [it] [it] z.cps.size (SignAt z) (fun i h => h.IsStrIter it T z t i))
    (slf : ∀ (A : Around) (i : Nat) (s : Shared) (Q : Value → Shared → Prop) (E : Value → Shared → Prop), s.heap.IsStrIter it T z t i → Q (.ref it) s → wpAny (model P w) A (pyIter (.ref it)) Q E s) :
    Turn P w K tg (Its z) [it] it (fun i h => h.IsStrIter it T z t i) where
  mem := by simp
  obj := fun i h st b hb => by
    have e : b = it := by simpa using hb
    subst e
    obtain ⟨o, e, c, d⟩ := st
    exact ⟨o, e, fun v z => by rw [d] at z; cases z⟩
  keep := fun i h h' st k => by obtain ⟨o, e, r⟩ := st; exact ⟨o, k it (by simp) o e, r⟩
  item := by
    intro X hP hw hK hc i pins s σ H E I hf st hg
    subst hP hw hK
    obtain ⟨f0, f1, f2, f3, f4, f5⟩ := hf it (by simp)
    refine (W X.A (I.ok.hd hc)).item i s _ _ hg st fun v h' tk hv st' kk => ?_
    obtain ⟨c, u, ec, rfl⟩ := hv
    have I1 : Inv X pins σ H { s with heap := h', toks := tk } := I.turned (fun b o hb e => kk b o (by simpa using hb) e) f0 f1 f3 f4 f5
    obtain ⟨o, e, c1, d⟩ := id st'
    exact ⟨_, rfl, go_of (s := { s with heap := h', toks := tk }) (n := T) e c1 d hT ⟨.str ⟨#[c]⟩, H, I1, ⟨u, rfl⟩, ⟨rfl, c, ec, rfl⟩, st', fun b hb => (hf b hb).1⟩⟩
  done := by
    intro X hP hw hK hc i pins s σ H E I hf st hg
    subst hP hw hK
    obtain ⟨f0, f1, f2, f3, f4, f5⟩ := hf it (by simp)
    have hg : i = z.cps.size := hg
    subst hg
    exact (W X.A (I.ok.hd hc)).done s _ _ st fun h' tk kk => ⟨rfl, I.turned (fun b o hb e => kk b o (by simpa using hb) e) f0 f1 f3 f4 f5⟩
  self := fun A i s Q E st h => slf A i s Q E st h
inductive IIStr (x : V) (H1 : Hp) (R : It → Hp → Prop) : Prop
  | mk (z : _) : x = .str z → R (Its z) H1 → IIStr x H1 R
noncomputable def iStr (tl : TE) : TI := fun σ H R => tl σ H fun x H1 => IIStr x H1 R
theorem pi_str {tg l : Expr} {tl : TE} (hl : PE X l tl) : PI X tg l (iStr tl) := by
  intro pins s σ H R I h
  refine thn (hl pins s σ H _ I h) fun v s1 ⟨x, H1, I1, r1, q1⟩ => ?_
  obtain ⟨z, e, q⟩ := q1
  subst e
  obtain ⟨t, rfl⟩ := r1
  have hf : ∀ b ∈ [s1.heap.objs.size], FpOk X pins H1 b := fun b hb => by
    have e : b = s1.heap.objs.size := by simpa using hb
    subst e
    exact I1.fpOk (Nat.le_refl _) (I1.hok.fresh (Nat.le_refl _))
  have hk : ∀ o : Obj, Inv X pins σ H1 { s1 with heap := s1.heap.push o } := fun o => I1.kept (t' := s1.toks) fun b u e => Heap.get?_push_of_some _ e
  cases ha : z.cps.all (· < 128)
  · refine wpAny_pyIter_wide ha ⟨s1.heap.objs.size, [s1.heap.objs.size], _, _, H1, rfl, hk _, turn_str _ "str_iterator" z t (by decide) (fun A hA => Walks.strWide hA _ z t) (fun A i s Q E st h => wpAny_pyIter_striter_wide st h), ⟨_, Heap.get?_push_size _ rfl, rfl, rfl⟩, hf, q⟩
  · refine wpAny_pyIter_ascii ha ⟨s1.heap.objs.size, [s1.heap.objs.size], _, _, H1, rfl, hk _, turn_str _ "str_ascii_iterator" z t (by decide) (fun A hA => Walks.strAscii hA _ z t) (fun A i s Q E st h => wpAny_pyIter_striter_ascii st h), ⟨_, Heap.get?_push_size _ rfl, rfl, rfl⟩, hf, q⟩
theorem comp_str0 {z : Str} {c : St} {te : TE} {H : Hp} {fin : List V → Hp → Prop} (Pv : Nat → List V → Hp → Prop) (h0 : Pv 0 [] H) (hl : ∀ i ys H, i ≤ z.length → Pv i ys H → ys.length ≤ i) (hz : z.length ≤ sizeLine)
    (hs : ∀ i d ys H, z.cps.toList[i]? = some d → Pv i ys H → te (some (.str ⟨#[d]⟩) :: c) H fun y H3 => Pv (i + 1) (ys ++ [y]) H3) (hd : ∀ ys H, Pv z.length ys H → fin ys H) : wComp (Its z) c tYes te H fin := by
  refine ⟨fun i m ys H => m = z.length - i ∧ i ≤ z.length ∧ Pv i ys H, ⟨z.length, by simp, Nat.zero_le _, h0⟩, ?_⟩
  rintro i m ys H ⟨rfl, hi, p⟩
  have hy := hl i ys H hi p
  by_cases hlt : i < z.length
  · refine .inr ⟨hlt, by omega, Pv (i + 1), fun ys' H' p' => ⟨_, by omega, rfl, hlt, p'⟩, fun x H' y => ?_⟩
    obtain ⟨e, d, ed, ex⟩ := y
    subst e ex
    exact iteT (B := Pv (i + 1) ys H') (hs i d ys _ (by rw [Array.getElem?_toList]; exact ed) p)
  · have e : i = z.length := by omega
    subst e
    exact .inl ⟨rfl, by omega, hd ys H p⟩

theorem strs_val {ts : List Str} {us : List Value} (r : Vals (ts.map V.str) us) {i : Nat} {v : Value} (h : us[i]? = some v) (d : Str) : ∃ t, v = .str (ts.getD i d) t := by
  have hl := r.length
  rw [List.length_map] at hl
  have hi : i < ts.length := by rw [hl]; exact (List.getElem?_eq_some_iff.mp h).1
  obtain ⟨u, e, ru⟩ := r.get (i := i) (x := .str ts[i]) (by rw [List.getElem?_map, List.getElem?_eq_getElem hi]; rfl)
  rw [e] at h
  cases h
  obtain ⟨t, rfl⟩ := ru
  exact ⟨t, by rw [List.getD_eq_getElem?_getD, List.getElem?_eq_getElem hi]; rfl⟩
noncomputable def tLenSetS (K : PySem.W.Frag) (te : TE) : TE := fun σ H Q => te σ H fun x H1 => ∃ (a : Addr) (ts : List Str), x = .ref a ∧ SqL K H1 a (ts.map V.str) ∧ ts.length < 4000 ∧ Q (.int (met (fun i => ts.getD i "") ts.length).length) H1
theorem pe_lensetS {e : Expr} {te : TE} {p p2 pos pos2 : Pos} (hc : X.calm = true) (hg : Gl X "len") (hm : X.mg "len" = none) (hg2 : Gl X "set") (hm2 : X.mg "set" = none) (he : PE X e te)
    (h1 : starEach [.Call (.Name "set" p2) [e] [] pos2] X.env = [(false, eval (.Call (.Name "set" p2) [e] [] pos2) X.env)] := by rfl) (h2 : starEach [e] X.env = [(false, eval e X.env)] := by rfl) :
    PE X (.Call (.Name "len" p) [.Call (.Name "set" p2) [e] [] pos2] [] pos) (tLenSetS X.K te) := by
  intro pins s σ H Q I h
  refine wpAny_Call_Name_kw (ld_blt I hg hm PySem.boot_len ?_)
  refine PyProof.Rows.callWith_builtin1 ?_ h1 rfl
  rw [h1]
  show wpAny _ _ (spliced ((false, eval (.Call (.Name "set" p2) [e] [] pos2) X.env) :: backTo pos [])) _ _ s
  refine Calls.spliced_cons ?_
  refine wpAny_Call_Name_kw (ld_blt I hg2 hm2 PyProof.Rows.boot_set ?_)
  refine PyProof.Rows.callWith_type1 ?_ h2 rfl
  rw [h2]
  show wpAny _ _ (spliced ((false, eval e X.env) :: backTo pos2 [])) _ _ s
  refine Calls.spliced_cons (thn (he pins s σ H _ I h) fun v s1 ⟨x, H1, I1, r1, q1⟩ => ?_)
  obtain ⟨a, ts, rfl, hS, hz, q⟩ := q1
  cases r1
  obtain ⟨its, rv, pl, hz2⟩ := I1.list hS
  have hl := rv.length
  rw [List.length_map] at hl
  have hsb : scanBound = 4096 := rfl
  refine Calls.spliced_nil ?_
  refine call_set_of (knd := strKind X.prog X.w) (val := fun i => ts.getD i "") (I1.ok.hd hc) pl.isList (fun i v hv => ?_) (by rw [List.size_toArray]; omega) fun s2 ⟨h', tk, e2, hs, hk⟩ => ?_
  · obtain ⟨t, rfl⟩ := strs_val rv (i := i) (v := v) (by simpa using hv) ""
    exact ⟨beq_self_eq_true _, rfl⟩
  subst e2
  have I2 : Inv X pins σ H1 { s1 with heap := h', toks := tk } := I1.kept (t' := tk) fun b o e => hk b o (Heap.lt_size e) e
  refine Calls.spliced_nil ?_
  have esz : its.toArray.size = ts.length := by rw [List.size_toArray]; omega
  rw [esz] at hs
  obtain ⟨o, es, ep, t, ho, hex, hd, _, _, hsz, hf, hn⟩ := hs
  refine PySem.call_len_set ho hex hd hf (by omega) ⟨.int (met (fun i => ts.getD i "") ts.length).length, H1, I2.tok _, ⟨tk + 1, ?_⟩, q⟩
  rw [hn]

theorem strs_at {ts : List Str} {i : Nat} (h : i < ts.length) : (ts.map V.str)[i]? = some (.str (ts.getD i "")) := by
  rw [List.getElem?_map, List.getElem?_eq_getElem h, List.getD_eq_getElem?_getD, List.getElem?_eq_getElem h]; rfl
theorem atI_strs {ts : List Str} {i : Int} (h0 : 0 ≤ i) (h : i < ts.length) : atI (ts.map V.str) i = some (.str (ts.getD i.toNat "")) := atI_ok h0 (strs_at (by omega))
theorem flat_strs (ts : List Str) : (ts.map V.str).all flatV = true := by
  rw [List.all_map]; exact List.all_eq_true.mpr fun _ _ => rfl
theorem inV_strs (ts : List Str) (c : Str) : inV (.str c) (ts.map V.str) = decide (c ∈ ts) := by
  unfold inV
  induction ts with
  | nil => rfl
  | cons a ts ih =>
    rw [List.map_cons, List.any_cons, ih]
    show ((a == c) || _) = _
    by_cases h : a = c
    · subst h; simp
    · have : ¬ c = a := fun e => h e.symm
      simp [h, this]
theorem cut_uptoS {ts : List Str} {k : Int} (h : 0 ≤ k) : cutV (ts.map V.str) none (some k) = (ts.take k.toNat).map V.str := by rw [cut_upto h, List.map_take]
theorem strs_get {ts : List Str} {i : Nat} {x : V} (hx : (ts.map V.str)[i]? = some x) : i < ts.length ∧ x = .str (ts.getD i "") := by
  have hi : i < ts.length := by have := (List.getElem?_eq_some_iff.mp hx).1; rwa [List.length_map] at this
  refine ⟨hi, ?_⟩
  rw [strs_at hi] at hx
  exact (Option.some.inj hx).symm
theorem take_nextS {ts : List Str} {i : Nat} (hi : i < ts.length) : ts.take (i + 1) = ts.take i ++ [ts.getD i ""] := by
  rw [List.take_succ, List.getElem?_eq_getElem hi, List.getD_eq_getElem?_getD, List.getElem?_eq_getElem hi]; rfl
theorem getD_inS {ts : List Str} {i : Nat} (hi : i < ts.length) : ts.getD i "" ∈ ts := by
  rw [List.getD_eq_getElem?_getD, List.getElem?_eq_getElem hi]; exact List.getElem_mem hi
theorem len_add (x y : Str) : (x ++ y).length = x.length + y.length := by
  show (x.cps ++ y.cps).size = x.cps.size + y.cps.size
  exact Array.size_append

noncomputable def small (c : Nat) : Bool := decide (97 ≤ c) && decide (c ≤ 122)
end
end L2
set_option Elab.async false
set_option linter.all false
set_option maxRecDepth 100000
namespace L2
open PySem PySem.Spec PyProof.Rows
section
variable {X : Cx}

end
end L2
set_option Elab.async false
set_option linter.all false
set_option maxRecDepth 100000
namespace L2
open PySem PySem.Spec PyProof.Rows

structure CompScopeC (sc : Scope) (N : List Str) (x : Str) (fr : List Str) (ix : List Nat) (scope : Scope) : Prop where
  kind : scope.kind = .function
  one : ∀ a acc, cellsFrom a scope.names acc = (x, a) :: acc
  push : ∀ h : Heap, pushCells h scope.names = h.push { cls := .type "cell", data := .cell none }
  cells : ∀ y ∈ scope.names, y.2 = .cell → y.1 = x
  lcl : ∀ y ∈ scope.names, y.2 = .local → scope.names.lookup y.1 = some .local
  lx : scope.names.lookup x = some .cell
  free : ∀ y ∈ scope.names, y.2 = .free → sc.names.lookup y.1 = some .cell ∨ sc.names.lookup y.1 = some .free
  at' : fr.map some = ix.map fun i => N[i]?
  frk : ∀ y ∈ fr, scope.names.lookup y = some .free ∧ (sc.names.lookup y = some .cell ∨ sc.names.lookup y = some .free)
  nd : (x :: fr).Nodup
section
variable {X : Cx} {pins : List (Addr × Obj)} {σ : St} {H : Hp} {s : Shared} {x : Str} {fr : List Str} {ix : List Nat} {scope : Scope} {cl : List (Str × Addr)} {fp : List Addr} {C D cx : Addr}
theorem CompScopeC.len (S : CompScopeC X.env.scope X.N x fr ix scope) : fr.length = ix.length := by have := congrArg List.length S.at'; simpa using this
end
section
variable {X : Cx} {x : Str} {fr : List Str} {ix : List Nat} {scope : Scope} {elt iter : Expr} {ifs : List Expr} {px pos : Pos} {wi : TI} {tc : TT} {te : TE}
end
end L2
set_option Elab.async false
set_option linter.all false
set_option maxRecDepth 100000
namespace L2
open PySem PySem.Spec PyProof.Rows

section
open PySem.SeqAt
open PySem.AutoSeq1 (wpAny_loadPart')
open PySem.MeetsSeq PySem.MeetsSeq2 PySem.MeetsSeq3
end
section
variable {X : Cx}
inductive IRNeL (K : PySem.W.Frag) (x y : V) (H : Hp) (Q : VK) : Prop
  | mk (a : _) (b : _) (xs : _) (ys : _) : x = .ref a → y = .ref b → SqL K H a xs → SqL K H b ys → xs.all flatV = true → ys.all flatV = true → Q (.bl (!eqL xs ys)) H → IRNeL K x y H Q
noncomputable def rNeL (K : PySem.W.Frag) : R2 := fun x y H Q => IRNeL K x y H Q
theorem op_ne_list (hu : X.A.units < cLine) : OpR X (compareOp .NotEq) (rNeL X.K) := by
  intro pins s σ H x y v u Q I rx ry h
  obtain ⟨a, b, xs, ys, rfl, rfl, ha, hb, fx, fy, q⟩ := h
  cases rx
  cases ry
  obtain ⟨its, r1, p1, z1⟩ := I.list ha
  obtain ⟨its2, r2, p2, z2⟩ := I.list hb
  have l1 := r1.length
  have l2 := r2.length
  by_cases hl : xs.length = ys.length
  · refine SeqAt.RcNeAt.lists p1.isList p2.isList (by simp; omega) hu (eqAt_j r1 r2 fx fy) _ _ _ _ ⟨.bl (!eqL xs ys), H, I, ?_, q⟩
    rw [List.size_toArray, ← l1, range_eqL hl]
    rfl
  · refine SeqAt.RcNeAt.lists_lengths p1.isList p2.isList (by simp; omega) hu _ _ _ _ ⟨.bl (!eqL xs ys), H, I, ?_, q⟩
    rw [eqL_len hl]
    rfl
end
end L2
set_option Elab.async false
set_option linter.all false
set_option maxRecDepth 100000
namespace L2
open PySem PySem.Spec PyProof.Rows

structure CanM (P : Program) (w : World) (K : PySem.W.Frag) (mg : Str → Option Value) (base : Heap) (k : Nat) (C : Addr) (m : Str) (ps : List Str) (sp : Sp) : Prop where
  ex : ∃ f fd, FnOk P w K mg base CX0 k f fd ps sp ∧ Meth K C m f ∧ Binds K fd ps []
structure CanMX (P : Program) (w : World) (K : PySem.W.Frag) (mg : Str → Option Value) (base : Heap) (k : Nat) (C : Addr) (m : Str) (ps : List Str) (sp : Sp) : Prop where
  ex : ∃ f fd, FnOk P w K mg base (CX1 P w) k f fd ps sp ∧ Meth K C m f ∧ Binds K fd ps []
inductive ITMethX (C : Addr) (m : Str) (W : XW) (sp : Sp) (t : TA) (σ : St) (x : V) (H1 : Hp) (Q : VK) : Prop
  | mk (a : _) (dx : _) (fs : _) : x = .ref a → H1 a = some (.ins C dx fs) → fs.lookup m = none → (t σ H1 fun vs H2 => sp (.ref a :: vs) H2 Q fun cls _ H' => W σ cls H') → ITMethX C m W sp t σ x H1 Q
noncomputable def tMethX (C : Addr) (m : Str) (W : XW) (sp : Sp) (ta : TE) (t : TA) : TE := fun σ H Q => ta σ H fun x H1 => ITMethX C m W sp t σ x H1 Q
section
variable {X : Cx} {k : Nat} {C : Addr} {m : Str} {ps : List Str} {sp : Sp} {apos pos : Pos} {o e : Expr} {es : List Expr} {ta : TE} {t : TA} {W : XW} {pl : Sem Bool}
theorem pe_ownMX (M : CanMX X.prog X.w X.K X.mg X.base k C m ps sp) (c : Cls X.K C) (fl : Fl X W) (hr : Room k X.A) (he : PE X o ta) (ha : PA X (e :: es) t)
    (hst : starEach (e :: es) X.env = (false, eval e X.env) :: starEach es X.env := by rfl) (hpl : (backTo pos (starEach es X.env)).any (·.1) = false := by rfl)
    (ht : eval (.Call (.Attribute o m apos) (e :: es) [] pos) X.env = (do
      let ov ← eval o X.env
      standAt apos.atName
      let (f, first) ← holding [ov] (getMethod ov m pl)
      callWith pos f first (backTo pos (starEach (e :: es) X.env)) (backToKw pos (keywordEach [] X.env))) := by rfl) :
    PE X (.Call (.Attribute o m apos) (e :: es) [] pos) (tMethX C m W sp ta t) := by
  obtain ⟨f, fd, F, hm, hb⟩ := M.ex
  intro pins s σ H Q I h
  refine PySem.W.methodCall_KW (pl := pl) (thn (he pins s σ H _ I h) fun u s1 ⟨x, H1, I1, rx, a, dx, fs, ex, ea, l, q⟩ => ?_) ht
  subst ex
  obtain rfl : u = Value.ref a := rx
  refine getmeth_ok I1 ea c hm l ?_
  refine PySem.W.callWith_K (first := [.ref a]) (h₀ := X.base) I.ok.mod.kin hm.kp (thn (ha pos pins s1 σ H1 _ I1 q) fun us s2 ⟨vs, H2, I2, r, q2⟩ => ⟨I2.kIn, ?_⟩) hst hpl
  exact run_fnX (us := .ref a :: us) (vs := .ref a :: vs) F hr hb fl I2 (.cons rfl r) q2
theorem pe_ownMX0 (M : CanMX X.prog X.w X.K X.mg X.base k C m ps sp) (c : Cls X.K C) (fl : Fl X W) (hr : Room k X.A) (he : PE X o ta)
    (ht : eval (.Call (.Attribute o m apos) [] [] pos) X.env = (do
      let ov ← eval o X.env
      standAt apos.atName
      let (f, first) ← holding [ov] (getMethod ov m pl)
      callWith pos f first (backTo pos (starEach [] X.env)) (backToKw pos (keywordEach [] X.env))) := by rfl) :
    PE X (.Call (.Attribute o m apos) [] [] pos) (tMethX C m W sp ta tNil) := by
  obtain ⟨f, fd, F, hm, hb⟩ := M.ex
  intro pins s σ H Q I h
  refine PySem.W.methodCall_KW (pl := pl) (thn (he pins s σ H _ I h) fun u s1 ⟨x, H1, I1, rx, a, dx, fs, ex, ea, l, q⟩ => ?_) ht
  subst ex
  obtain rfl : u = Value.ref a := rx
  refine getmeth_ok I1 ea c hm l ?_
  exact PySem.W.callWith_K0 (first := [.ref a]) I1.kIn hm.kp (run_fnX (us := [.ref a]) (vs := [.ref a]) F hr hb fl I1 (.cons rfl .nil) q)
theorem pe_ownM0 (M : CanM X.prog X.w X.K X.mg X.base k C m ps sp) (c : Cls X.K C) (hr : Room k X.A) (he : PE X o ta)
    (ht : eval (.Call (.Attribute o m apos) [] [] pos) X.env = (do
      let ov ← eval o X.env
      standAt apos.atName
      let (f, first) ← holding [ov] (getMethod ov m pl)
      callWith pos f first (backTo pos (starEach [] X.env)) (backToKw pos (keywordEach [] X.env))) := by rfl) :
    PE X (.Call (.Attribute o m apos) [] [] pos) (tMeth C m sp [] E0 ta tNil) := by
  obtain ⟨f, fd, F, hm, hb⟩ := M.ex
  exact pe_meth0 (pl := pl) he c hm F hr hb .nil pass0 ht
structure CanK (P : Program) (w : World) (K : PySem.W.Frag) (mg : Str → Option Value) (base : Heap) (k : Nat) (x : Str) (C : Addr) (ps : List Str) (sp : Sp) : Prop where
  ex : ∃ f fd, FnOk P w K mg base (CX1 P w) k f fd ps sp ∧ mg x = some (.ref C) ∧ Mk K C f ∧ Binds K fd ps []
noncomputable def tMakeX (C : Addr) (W : XW) (sp : Sp) (t : TA) : TE := fun σ H Q => t σ H fun vs H1 => ∀ x dx, H1 x = none → H1 dx = none → dx ≠ x → sp (.ref x :: vs) (upd (upd H1 dx (.own x)) x (.ins C dx [])) (fun v H2 => v = .non ∧ Q (.ref x) H2) fun cls _ H' => W σ cls H'
theorem run_makeX {pins : List (Addr × Obj)} {σ : St} {H : Hp} {s : Shared} {Q : VK} {us : List Value} {vs : List V} {f : Addr} {fd : FuncData} (M : Mk X.K C f) (F : FnOk X.prog X.w X.K X.mg X.base (CX1 X.prog X.w) k f fd ps sp) (hr : Room (k + 1) X.A) (hb : Binds X.K fd ps []) (fl : Fl X W) (I : Inv X pins σ H s) (r : Vals vs us)
    (h : ∀ x dx, H x = none → H dx = none → dx ≠ x → sp (.ref x :: vs) (upd (upd H dx (.own x)) x (.ins C dx [])) (fun v H2 => v = .non ∧ Q (.ref x) H2) fun cls _ H' => W σ cls H') :
    wpAny (model X.prog X.w) X.A (call (.ref C) us) (EP X pins σ Q) X.xe s := by
  have hq := h (s.heap.objs.size + 1) s.heap.objs.size (I.hok.fresh (Nat.le_succ _)) (I.hok.fresh (Nat.le_refl _)) (Nat.ne_of_lt (Nat.lt_succ_self _))
  have I2 := Inv.made (C := C) I
  have r2 : Vals (V.ref (s.heap.objs.size + 1) :: vs) (Value.ref (s.heap.objs.size + 1) :: us) := .cons rfl r
  have hl : (Value.ref (s.heap.objs.size + 1) :: us).length = ps.length := by
    have e := r2.length
    rw [F.len _ _ _ _ hq] at e
    exact e.symm
  have hb' := hb { s with heap := (s.heap.push PySem.W.emptyDict).push (PySem.W.instObj C s.heap.objs.size) } (Value.ref (s.heap.objs.size + 1) :: us) I2.kIn (by rw [List.append_nil]; exact hl)
  rw [List.append_nil] at hb'
  refine wpAny_call (make_map (f := f) I.kIn M.makes M.init (beq_iff_eq.mp M.fn) (codeAny_mono (F.run _ X.stack _ _ ⟨Value.ref (s.heap.objs.size + 1) :: us, []⟩ (Value.ref (s.heap.objs.size + 1) :: us) _ _ _ (hr.make C us [])
    (I2.env0.make C us []) hb' r2 hq) fun r s' hq' => ?_))
  cases r with
  | error e =>
    obtain ⟨y, cls, H', rfl, fly, w⟩ := hq'
    exact fl pins σ _ _ y cls H' s' I2 fly w
  | ok fl =>
    cases fl with
    | ret u =>
      obtain ⟨v, H', I3, rv, ev, q3⟩ := I2.after hq'
      subst ev
      exact ⟨rv, ⟨V.ref (s.heap.objs.size + 1), H', I3, rfl, q3⟩⟩
    | next => exact False.elim hq'
    | brk => exact False.elim hq'
    | cont => exact False.elim hq'
theorem pe_makeX {x : Str} {p : Pos} (M : CanK X.prog X.w X.K X.mg X.base k x C ps sp) (fl : Fl X W) (hr : Room (k + 1) X.A) (hg : Gl X x) (ha : PA X (e :: es) t) (hdb : (x == ("__debug__" : Str)) = false := by decide)
    (he : starEach (e :: es) X.env = (false, eval e X.env) :: starEach es X.env := by rfl) (hpl : (backTo pos (starEach es X.env)).any (·.1) = false := by rfl) : PE X (.Call (.Name x p) (e :: es) [] pos) (tMakeX C W sp t) := by
  obtain ⟨f, fd, F, hm, hk, hb⟩ := M.ex
  intro pins s σ H Q I h
  refine wpAny_Call_Name_kw (ld_glob I hg hm ?_ hdb)
  refine PySem.W.callWith_K (h₀ := X.base) I.ok.mod.kin hk.kp (thn (ha pos pins s σ H _ I h) fun us s1 ⟨vs, H1, I1, r, q⟩ => ⟨I1.kIn, ?_⟩) he hpl
  exact run_makeX hk F hr hb fl I1 r q
theorem pe_fldK {K : PySem.W.Frag} {f : Str} (h : X.K = K) (he : PE X e ta) (hb : attributeBase e f X.env (eval e X.env) = eval e X.env) : PE X (.Attribute e f pos) (tFld K ta f) := by subst h; exact pe_fld he hb
end
noncomputable def clsA (K : PySem.W.Frag) (x : Str) : Addr := match PySem.W.nsIn K mainGlobals x with
  | some (some (.ref C)) => C
  | _ => 0
theorem clsA_of {K : PySem.W.Frag} {x : Str} {C : Addr} (h : PySem.W.nsIn K mainGlobals x = some (some (.ref C))) : clsA K x = C := by unfold clsA; rw [h]
theorem CanM.of {P : Program} {w : World} {K : PySem.W.Frag} {mg : Str → Option Value} {base : Heap} {k : Nat} {C : Addr} {x m : Str} {ps : List Str} {sp : Sp} {f : Addr} {fd : FuncData} (hC : clsA K x = C) (G : FnOk P w K mg base CX0 k f fd ps sp) (hm : Meth K C m f) (b : Binds K fd ps []) : CanM P w K mg base k (clsA K x) m ps sp := by rw [hC]; exact ⟨f, fd, G, hm, b⟩
theorem CanMX.of {P : Program} {w : World} {K : PySem.W.Frag} {mg : Str → Option Value} {base : Heap} {k : Nat} {C : Addr} {x m : Str} {ps : List Str} {sp : Sp} {f : Addr} {fd : FuncData} (hC : clsA K x = C) (G : FnOk P w K mg base (CX1 P w) k f fd ps sp) (hm : Meth K C m f) (b : Binds K fd ps []) : CanMX P w K mg base k (clsA K x) m ps sp := by rw [hC]; exact ⟨f, fd, G, hm, b⟩
theorem CanK.of {P : Program} {w : World} {K : PySem.W.Frag} {mg : Str → Option Value} {base : Heap} {k : Nat} {C : Addr} {x : Str} {ps : List Str} {sp : Sp} {f : Addr} {fd : FuncData} (hC : clsA K x = C) (G : FnOk P w K mg base (CX1 P w) k f fd ps sp) (hg : mg x = some (.ref C)) (hm : Mk K C f) (b : Binds K fd ps []) : CanK P w K mg base k x (clsA K x) ps sp := by rw [hC]; exact ⟨f, fd, G, hg, hm, b⟩
end L2
set_option Elab.async false
set_option linter.all false
set_option maxRecDepth 100000
namespace L2
open PySem PySem.Spec PyProof.Rows
section
variable {X : Cx}


end
end L2
set_option Elab.async false
set_option linter.all false
set_option maxRecDepth 100000
namespace L2
open PySem PySem.Spec PyProof.Rows
section
variable {X : Cx}

end
end L2
set_option Elab.async false
set_option linter.all false
set_option maxRecDepth 100000
namespace L2
open PySem PySem.Spec PyProof.Rows PySem.W PySem.Calls Builtin Builtin.ObjectAttr Builtin.Getset_descriptor

section
variable {prog : Program} {w : World} {A : Around} {s : Shared} {K : PySem.W.Frag} {x C : Addr} {E : Value → Shared → Prop}
theorem exc_class_get {R : Result → Shared → Prop} {tp : Value} (L0 : Looks (model prog w) s.heap (typeOf (.ref x)) (.ref C)) (L1 : Looks (model prog w) s.heap (isSubtype (.ref C) (.type "object")) true) (hR : R (.ok (.ret (.ref C))) s) :
    codeAny (model prog w) A (.call (.builtin "getset_descriptor.__get__") ⟨[.builtin "object.__class__", .ref x, tp], []⟩) R s := by
  obtain ⟨h1, g1, d1, t1, o1⟩ := s
  refine codeAny_call_builtin KF.slot_gs.plain KF.entry_gs ?_
  refine KF.slot_gs.check _ _ _ _ _ _ _ _ KF.type_class (KF.args_gs _ _ _) ?_
  unfold Builtin.«getset_descriptor.__get__»
  unfold descrGet
  rw [dga_obj]
  refine wpAny_bind ?_
  refine wpAny_pure ?_
  unfold descrGetter descrCheckInstance
  unfold descrNameAndClass isInstance
  simp only [KF.owner_class]
  repeat lk
  refine ⟨Code.quiet_builtin _ (by decide +kernel), ?_⟩
  refine codeAny_builtin KF.entry_class ?_
  unfold Builtin.«object.__class__»
  unfold shownTypeOf
  repeat lk
  exact hR
theorem exc_find (X : K.In s.heap) (ha : findIn K (.ref C) "__class__" = some (some (.builtin "object.__class__"))) (hn : specialIn K (.builtin "object.__class__") "__get__" = some (some (.builtin "getset_descriptor.__get__"))) (ht : takesIn K (.builtin "object.__class__") = some true) :
    Looks (model prog w) s.heap (find (.ref x) (.ref C) "__class__") (.bind (.builtin "getset_descriptor.__get__") (.builtin "object.__class__")) := by
  have M1 := looks_findIn (M := model prog w) X ha
  have M2 : Looks (model prog w) s.heap (getOf (some (.builtin "object.__class__"))) (some (.builtin "getset_descriptor.__get__")) := looks_specialIn X hn
  have M3 := looks_takesIn (M := model prog w) X ht
  refine M1.andThen (M2.andThen ?_)
  have M4 : Looks (model prog w) s.heap (dataDescriptor? (some (.builtin "object.__class__")) (some (.builtin "getset_descriptor.__get__"))) (some (.builtin "getset_descriptor.__get__", .builtin "object.__class__")) := M3.andThen .now
  exact M4.andThen (Looks.tag .now)
theorem exc_ga_check {M : Model} {nm : Value} {Q : Unit → Shared → Prop} (LI : Looks M s.heap (isInstance (.ref x) (.type "BaseException")) true) (hQ : Q () s) : wpAny M A (checkBuiltinCall "BaseException.__getattribute__" ⟨[.ref x, nm], []⟩) Q E s := by
  have hk : builtinKind "BaseException.__getattribute__" = some .slot := by decide +kernel
  have hsp : splitId "BaseException.__getattribute__" = some ("BaseException", "__getattribute__") := by decide +kernel
  have hargs := F.args_bexc_ga (.ref x) nm
  obtain ⟨h1, g1, d1, t1, o1⟩ := s
  simp only [checkBuiltinCall, hk, hsp]
  refine wpAny_bind (LI.at ?_)
  repeat (first | wp_step | exact hQ)
theorem exc_ga {R : Result → Shared → Prop} {tk : Tok} (L0 : Looks (model prog w) s.heap (typeOf (.ref x)) (.ref C)) (F1 : Looks (model prog w) s.heap (find (.ref x) (.ref C) "__class__") (.bind (.builtin "getset_descriptor.__get__") (.builtin "object.__class__")))
    (S1 : Looks (model prog w) s.heap (isSubtype (.ref C) (.type "object")) true) (S2 : Looks (model prog w) s.heap (isSubtype (.ref C) (.type "BaseException")) true) (hR : R (.ok (.ret (.ref C))) s) :
    codeAny (model prog w) A (.call (.builtin "BaseException.__getattribute__") ⟨[.ref x, .str "__class__" tk], []⟩) R s := by
  refine codeAny_call_builtin F.excAttr_ValueError.ga.plain F.entry_bexc_ga ?_
  refine exc_ga_check (L0.andThen S2) ?_
  obtain ⟨h1, g1, d1, t1, o1⟩ := s
  unfold Builtin.«object.__getattribute__»
  repeat (first | with_reducible refine wpAny_bind (L0.at ?_) | with_reducible refine wpAny_bind (F1.at ?_) | wp_step)
  exact exc_class_get (s := ⟨h1, g1, d1, t1, o1⟩) L0 S1 (wpAny_pure hR)
theorem exc_attr {Q : Option Value → Shared → Prop} (X : K.In s.heap) (he : ∃ o, s.heap.get? x = some o ∧ o.cls = .ref C) (hga : findIn K (.ref C) "__getattribute__" = some (some (.builtin "BaseException.__getattribute__"))) (hgb : findIn K (.ref C) "__getattr__" = some none)
    (ha : findIn K (.ref C) "__class__" = some (some (.builtin "object.__class__"))) (hn : specialIn K (.builtin "object.__class__") "__get__" = some (some (.builtin "getset_descriptor.__get__"))) (ht : takesIn K (.builtin "object.__class__") = some true) (hm : mroIn K C (.type "object") = some true) (hm2 : mroIn K C (.type "BaseException") = some true)
    (hQ : Q (some (.ref C)) { s with toks := s.toks + 1 }) : wpAny (model prog w) A (getAttr? (.ref x) "__class__") Q E s := by
  obtain ⟨o, eo, ec⟩ := he
  have F1 := exc_find (s := { s with toks := s.toks + 1 }) (x := x) (prog := prog) (w := w) X ha hn ht
  obtain ⟨h1, g1, d1, t1, o1⟩ := s
  have L0 := looks_cls (M := model prog w) eo ec
  have G0 := looks_findIn (M := model prog w) X hga
  have G1 := looks_findIn (M := model prog w) X hgb
  have S1 := looks_mroIn (M := model prog w) X hm
  have S2 := looks_mroIn (M := model prog w) X hm2
  unfold getAttr? getAttrBy?
  unfold getAttrBy
  refine wpAny_bind (wpAny_mkText ?_)
  refine wpAny_bind (wpAny_attempt ?_)
  refine wpAny_holding ?_
  refine wpAny_bind (L0.at ?_)
  refine wpAny_bind (G0.at ?_)
  have hx2 : (onTheHeap (Value.ref C) && Value.builtin "BaseException.__getattribute__" == Value.builtin "object.__getattribute__") = false := by
    rw [show (Value.builtin "BaseException.__getattribute__" == Value.builtin "object.__getattribute__") = false by decide +kernel]
    rfl
  dsimp only
  rw [if_neg (by rw [hx2]; exact Bool.false_ne_true)]
  unfold getAttrByItsOwn hookBefore
  rw [if_pos (show onTheHeap (Value.ref C) = true from rfl)]
  refine wpAny_bind (G1.at ?_)
  unfold callGetattribute
  rw [if_neg (by simp)]
  unfold boundAndCalled
  refine wpAny_bind (wpAny_attempt (wpAny_holding ?_))
  rw [F.excAttr_ValueError.ga.bind]
  refine wpAny_bind (wpAny_pure ?_)
  dsimp only
  refine wpAny_call ?_
  refine exc_ga (s := ⟨h1, g1, d1, t1 + 1, o1⟩) L0 F1 S1 S2 ?_
  exact handed_on rfl (wpAny_pure hQ)
noncomputable def exI (K : PySem.W.Frag) (C : Addr) : Bool :=
  (findIn K (.ref C) "__getattribute__" == some (some (.builtin "BaseException.__getattribute__")) && findIn K (.ref C) "__getattr__" == some none && findIn K (.ref C) "__class__" == some (some (.builtin "object.__class__"))) &&
  (specialIn K (.builtin "object.__class__") "__get__" == some (some (.builtin "getset_descriptor.__get__")) && takesIn K (.builtin "object.__class__") == some true && mroIn K C (.type "object") == some true && mroIn K C (.type "BaseException") == some true && (clsIn K C).isSome)
theorem kitx_exc (hi : exI K C = true) : KitX K (.ref x) (.ref C) (fun h => ∃ o, h.get? x = some o ∧ o.cls = .ref C) := by
  unfold exI at hi
  simp only [Bool.and_eq_true, beq_iff_eq] at hi
  obtain ⟨⟨⟨i1, i2⟩, i3⟩, ⟨⟨⟨i4, i5⟩, i6⟩, i7⟩, i8⟩ := hi
  obtain ⟨cd, hcd⟩ := Option.isSome_iff_exists.mp i8
  have hob : ∃ a b c, K.lookup C = some ⟨a, b, .cls cd, c⟩ := by
    unfold clsIn at hcd
    split at hcd
    · rename_i q; cases hcd; exact ⟨_, _, _, q⟩
    · cases hcd
  obtain ⟨a1, a2, a3, hob⟩ := hob
  refine ⟨fun M h _ ⟨o, eo, ec⟩ => looks_cls eo ec, fun M h X _ => ?_, fun h tp dd its n sl X e => ?_, fun X p k => exc_attr X p i1 i2 i3 i4 i5 i6 i7 k⟩
  · intro A' Q' E' s' k q
    unfold isType
    unfold loadHead
    exact wpAny_bind (wpAny_loadPart (k _ _ (X _ _ hob)) (wpAny_pure q))
  · refine Bool.eq_false_iff.mpr fun q => ?_
    have ez : C = tp := by injection beq_iff_eq.mp q
    subst ez
    have := X _ _ hob
    rw [e] at this
    cases this
end
section
variable {X : Cx}
inductive ICall_isi_excB (K : PySem.W.Frag) (xs : List V) (H : Hp) (Q : VK) : Prop
  | mk (x : _) (C : _) (v : _) (c : _) (b : _) : xs = [.ref x, v] → RelV v c → H x = some (excO x (.ref C)) → exI K C = true → PySem.W.kitOne K (.ref C) c = some b → Q (.bl b) H → ICall_isi_excB K xs H Q
theorem call_isi_excB : CallR X (.builtin "isinstance") (ICall_isi_excB X.K) := by
  intro pins s σ H xs us Q I r h
  obtain ⟨x, C, v, c, b, rfl, rc, hx, hi, e, q⟩ := h
  obtain ⟨u, t, rfl, ru, rt⟩ := r.two
  cases ru
  have no : ∀ z, PySem.W.kitCls X.K (.ref C) z = none → (Value.ref C == z) = false → PySem.W.kitOne X.K (.ref C) z = none := fun z h1 h2 => by unfold PySem.W.kitOne; rw [h2]; exact h1
  have ect : t = c := by
    cases v with
    | ref a => rw [show t = _ from rt, show c = _ from rc]
    | ty n => rw [show t = _ from rt, show c = _ from rc]
    | non => rw [show t = _ from rt, show c = _ from rc]
    | bl b => rw [show t = _ from rt, show c = _ from rc]
    | int i => obtain ⟨k, rfl⟩ := rc; rw [no _ rfl rfl] at e; cases e
    | str i => obtain ⟨k, rfl⟩ := rc; rw [no _ rfl rfl] at e; cases e
    | byt i => obtain ⟨k, rfl⟩ := rc; rw [no _ rfl rfl] at e; cases e
    | flt i => obtain ⟨k, rfl⟩ := rc; rw [no _ rfl rfl] at e; cases e
  subst ect
  obtain ⟨ho, _, _⟩ := I.hok x _ hx
  exact kia_one (kitx_exc hi) I.kIn ho e (by intro q; cases q) fun tk => ⟨.bl b, H, I.tok tk, rfl, q⟩
theorem call_isi_excBK {K : PySem.W.Frag} (h : X.K = K) : CallR X (.builtin "isinstance") (ICall_isi_excB K) := by subst h; exact call_isi_excB
end
end L2
set_option Elab.async false
set_option linter.all false
set_option maxRecDepth 100000
namespace L2
open PySem PySem.Spec PyProof.Rows
open PySem.Builtin PySem.Builtin.Str
theorem vals_strs : ∀ (l : List (PySem.Str × Tok)), Vals (l.map fun p => V.str p.1) (strValues l)
  | [] => .nil
  | (x, t) :: l => .cons ⟨t, rfl⟩ (vals_strs l)
section
variable {X : Cx}
theorem ms_split : MtR X "str.split" (fun x xs H Q => ∃ z y, x = .str z ∧ xs = [.str y] ∧ (y.length == 0) = false ∧ z.length + 2 ≤ sizeLine ∧ (Txt.split z y).length ≤ sizeLine ∧ ∀ l, H l = none → Q (.ref l) (upd H l (.lst ((Txt.split z y).map V.str)))) := by
  intro pins s σ H x xs v us Q I rx rv h
  obtain ⟨z, y, rfl, rfl, hy, hz, hn, q⟩ := h
  obtain ⟨t, rfl⟩ := rx
  obtain ⟨u, rfl, ru⟩ := rv.one
  obtain ⟨t2, rfl⟩ := ru
  have hf : H s.heap.objs.size = none := I.hok.fresh (Nat.le_refl _)
  have fin : ∀ (l : List (PySem.Str × Tok)) (tk : Nat), l.map (·.1) = Txt.split z y → EP X pins σ Q (.ref s.heap.objs.size) { s with toks := tk, heap := s.heap.push { cls := .type "list", data := .seq (strValues l).toArray } } := fun l tk e => by
    refine ⟨.ref s.heap.objs.size, upd H s.heap.objs.size (.lst ((Txt.split z y).map V.str)), I.laid (t' := tk) (fun b u e => Heap.get?_push_of_some _ e) (Nat.le_refl _) ⟨by rw [List.length_map]; exact hn, strValues l, 0, ?_, Heap.get?_push_size _ rfl⟩, rfl, q _ hf⟩
    rw [← e, List.map_map]
    exact vals_strs l
  cases h1 : (decide (z.length < y.length) || decide (strKind z < strKind y)) with
  | true =>
    have e : Txt.split z y = [z] := if_pos h1
    exact call_meets F.slot_str_split (typeIs_str _ _ _) F.entry_str_split (F.args_str_split_2 _ _) (meets_str_split_cannot_occur z y t t2 h1) (fin [(z, t)] s.toks e.symm)
  | false =>
    cases h2 : (occurrences z y 0 z.length (z.length + 1)).isEmpty with
    | true =>
      have e : Txt.split z y = [z] := (if_neg (ne_true_of_eq_false h1)).trans (if_pos h2)
      exact call_meets F.slot_str_split (typeIs_str _ _ _) F.entry_str_split (F.args_str_split_2 _ _) (meets_str_split_not_found z y t t2 h1 hy h2) (fin [(z, t)] s.toks e.symm)
    | false =>
      have e : Txt.split z y = partsBetween z (occurrences z y 0 z.length (z.length + 1)) y.length := (if_neg (ne_true_of_eq_false h1)).trans (if_neg (ne_true_of_eq_false h2))
      refine call_meets F.slot_str_split (typeIs_str _ _ _) F.entry_str_split (F.args_str_split_2 _ _) (meets_str_split_sep z y t t2 h1 hy h2 (by omega) (by rw [← e]; exact hn)) ?_
      show EP X pins σ Q (.ref s.heap.objs.size) { s with toks := _, heap := s.heap.push { cls := .type "list", data := .seq (strsFrom s.toks (partsBetween z (occurrences z y 0 z.length (z.length + 1)) y.length)).toArray } }
      rw [strsFrom_eq]
      exact fin (numbered s.toks _) _ ((numbered_texts _ _).trans e.symm)
theorem call_int_text : CallR X (.type "int") (fun xs H Q => ∃ x n, xs = [.str x] ∧ PySem.intText? x = some n ∧ x.length ≤ 640 ∧ Q (.int n) H) := by
  intro pins s σ H vs us Q I rv h
  obtain ⟨x, n, rfl, hn, hl, q⟩ := h
  obtain ⟨u, rfl, ru⟩ := rv.one
  obtain ⟨t, rfl⟩ := ru
  exact PySem.W.KIN.call_text hn hl ⟨.int n, H, I.tok _, ⟨_, rfl⟩, q⟩
end
structure CTup (K : PySem.W.Frag) (mg : Str → Option Value) (x : Str) (xs : List Str) : Prop where
  ex : ∃ a, mg x = some (.ref a) ∧ ∀ H, SqT K H a (xs.map V.str)
noncomputable def tCT (K : PySem.W.Frag) (xs : List Str) : TE := fun _ H Q => ∀ a, (∀ H, SqT K H a (xs.map V.str)) → Q (.ref a) H
theorem pe_ctup {X : Cx} {x : Str} {xs : List Str} {pos : Pos} (c : CTup X.K X.mg x xs) (hg : Gl X x) (hd : (x == ("__debug__" : Str)) = false := by decide) : PE X (.Name x pos) (tCT X.K xs) := by
  intro pins s σ H Q I h
  obtain ⟨a, hm, ha⟩ := c.ex
  exact ld_glob I hg hm ⟨.ref a, H, I, rfl, h a ha⟩ hd
theorem ctup_mk {K : PySem.W.Frag} {h : Heap} {mg : Str → Option Value} {x : Str} {a : Addr} {xs : List Str} {oc : Value} {od : Option Addr} {its : Array Value} {n : Nat} {sl : Array (Option Value)} (X : K.In h) (G : h.Ns mainGlobals mg) (e : PySem.W.nsIn K mainGlobals x = some (some (.ref a)))
    (l : K.lookup a = some ⟨oc, od, .seq its n, sl⟩) (hc : oc = .type "tuple") (hz : its.size ≤ sizeLine) (hv : Vals (xs.map V.str) its.toList) : CTup K mg x xs :=
  ⟨a, PySem.W.mg_of X G e, fun H => .inr ⟨_, its, n, l, hc, rfl, hz, hv⟩⟩

inductive StrEs : List Expr → List Str → Prop
  | nil : StrEs [] []
  | cons {x : Str} {k : Nat} {p : Pos} {es : List Expr} {xs : List Str} (h : StrEs es xs) : StrEs (.Constant (.str x) k p :: es) (x :: xs)
noncomputable def tStrs (xs : List Str) : TA := fun _ H Q => Q (xs.map V.str) H
theorem pa_strs {X : Cx} {es : List Expr} {xs : List Str} (h : StrEs es xs) : PA X es (tStrs xs) := by
  induction h with
  | nil => exact pa_nil
  | @cons x k p es xs h ih => exact (pa_cons pe_str ih : PA X (.Constant (.str x) k p :: es) (tCons (tC (.str x)) (tStrs xs)))
noncomputable def tLstS (xs : List Str) : TE := fun _ H Q => xs.length ≤ sizeLine ∧ ∀ p, H p = none → Q (.ref p) (upd H p (.lst (xs.map V.str)))
theorem pe_lstS {X : Cx} {es : List Expr} {xs : List Str} {pos : Pos} (h : StrEs es xs) : PE X (.List es pos) (tLstS xs) := by
  intro pins s σ H Q I q
  refine pe_lst (pa_strs h) pins s σ H Q I ?_
  exact ⟨by rw [List.length_map]; exact q.1, q.2⟩
theorem swaps_list {es : List Expr} {pos : Pos} {t : Option Expr} {l : Nat} {env : Env} : swapsWith (.List es pos) t l env = pure false := rfl
end L2
set_option Elab.async false
set_option linter.all false
namespace M14
open PySem PySem.W PyProof.Rows
noncomputable abbrev g (p : Array Nat) (i : Nat) : Nat := p.getD i 0
section
variable (key : Nat → Int) (N : Nat)
noncomputable def R (a b : Nat) : Prop := key a < key b ∨ key a = key b ∧ a < b
structure B (p : Array Nat) (m : Nat) : Prop where
  pm : p.Perm (List.range N).toArray
  tl : ∀ i, m ≤ i → i < N → g p i = i
  lo : ∀ i, i < m → g p i < m
  le : m ≤ N
noncomputable def I (p : Array Nat) (m : Nat) : Prop := B N p m ∧ ∀ i j, i < j → j < m → R key (g p i) (g p j)
noncomputable def E (p : Array Nat) (m : Nat) : Prop := B N p m ∧ ∀ i j, i < j → j < m → R key (g p j) (g p i)
structure D (p : Array Nat) (m b : Nat) : Prop where
  bs : B N p m
  lt : b < m
  ds : ∀ i j, i < j → j < b → R key (g p j) (g p i)
  sp : ∀ i j, i < b → b ≤ j → j < m → key (g p j) < key (g p i)
  bk : ∀ i j, b ≤ i → i < j → j < m → key (g p i) = key (g p j) ∧ g p i < g p j
variable {key N}
theorem B.size {p : Array Nat} {m : Nat} (b : B N p m) : p.size = N := by
  have := b.pm.size_eq
  simpa using this
theorem B.up {p : Array Nat} {m : Nat} (b : B N p m) (h : m < N) : B N p (m + 1) := by
  refine ⟨b.pm, fun i h1 h2 => b.tl i (by omega) h2, fun i hi => ?_, h⟩
  by_cases c : i < m
  · have := b.lo i c; omega
  · have e : i = m := by omega
    rw [e, b.tl m (Nat.le_refl _) h]
    omega
theorem R.le {a b : Nat} (h : R key a b) : key a ≤ key b := by
  rcases h with h | h
  · omega
  · omega
theorem E.step {p : Array Nat} {m : Nat} (h : E key N p m) (h1 : 1 ≤ m) (hm : m < N) (hk : key (g p m) < key (g p (m - 1))) : D key N p (m + 1) m := by
  refine ⟨h.1.up hm, by omega, h.2, fun i j hi h2 h3 => ?_, fun i j h2 h3 h4 => by omega⟩
  have e : j = m := by omega
  subst e
  by_cases c : i = j - 1
  · subst c; exact hk
  · have := (h.2 i (j - 1) (by omega) (by omega)).le
    omega
end
end M14
set_option Elab.async false
set_option linter.all false
set_option maxRecDepth 100000
namespace L2
open PySem PySem.W PySem.Calls PyProof.Rows
section
variable {X : Cx} {pins : List (Addr × Obj)} {σ : St} {H : Hp} {s : Shared} {a kS : Addr} {A : Around} {E : Value → Shared → Prop}
end
end L2
set_option Elab.async false
set_option linter.all false
set_option maxRecDepth 100000
namespace L2
open PySem PySem.W
section
variable {P : Program} {w : World} {A : Around} {E : Value → Shared → Prop} {s : Shared} {z TI TO T i1 i2 l1 l2 : Addr} {b : Bool}
end
end L2
set_option Elab.async false
set_option linter.all false
set_option maxRecDepth 100000
namespace L2
open PySem PySem.W PyProof.Rows
section
variable {X : Cx} {pins : List (Addr × Obj)} {σ : St} {H : Hp} {s : Shared} {h' : Heap} {t' : Nat} {ch : List Addr}
variable {A : Around} {E : Value → Shared → Prop} {z TI TO i1 i2 l1 l2 S : Addr} {xs ys : List Value} {xv yv : List V}
end
end L2
set_option Elab.async false
set_option linter.all false
set_option maxRecDepth 100000
namespace L2
open PySem PySem.W PyProof.Rows PySem.Calls
section
variable {X : Cx} {pins : List (Addr × Obj)} {σ : St} {H : Hp} {s : Shared} {A : Around} {E : Value → Shared → Prop} {z TI TO i1 i2 l1 l2 : Addr} {xs ys : List Value} {xv yv : List V}
end
end L2
set_option Elab.async false
set_option linter.all false
set_option maxRecDepth 100000
namespace L2
open PySem PySem.W PyProof.Rows PySem.Calls
section
variable {X : Cx} {pins : List (Addr × Obj)} {σ : St} {H : Hp} {s : Shared} {A : Around} {E : Value → Shared → Prop} {z TI TO i1 i2 l1 l2 q : Addr} {xs ys : List Value} {xv yv : List V} {kz : List Int}
end
end L2
set_option Elab.async false
set_option linter.all false
set_option maxRecDepth 100000
namespace L2
open PySem PySem.W PyProof.Rows PySem.Calls
section
variable {X : Cx} {pins : List (Addr × Obj)} {σ : St} {H : Hp} {s : Shared} {A : Around} {E : Value → Shared → Prop} {l1 l2 : Addr} {xv yv : List V}
end
end L2
set_option Elab.async false
set_option linter.all false
set_option maxRecDepth 100000
namespace L2
open PySem PySem.W PySem.Spec PyProof.Rows PySem.Calls
noncomputable def SameN (H H' : Hp) : Prop := (∀ b u, H b = some u → (∀ ps, u ≠ .tbl ps) → H' b = some u) ∧ ∀ b ps, H b = some (.tbl ps) → ∃ qs, H' b = some (.tbl qs)
theorem SameN.trans {H H1 H2 : Hp} (a : SameN H H1) (b : SameN H1 H2) : SameN H H2 := ⟨fun c u e n => b.1 c u (a.1 c u e n) n, fun c ps e => let ⟨qs, e1⟩ := a.2 c ps e; b.2 c qs e1⟩
noncomputable def noT (H : Hp) : Hp := fun b => match H b with
  | some (.tbl _) => none
  | x => x
theorem noT_of {H : Hp} {b : Addr} {u : HO} (e : H b = some u) (n : ∀ ps, u ≠ .tbl ps) : noT H b = some u := by
  unfold noT
  rw [e]
  cases u <;> first | rfl | exact absurd rfl (n _)
theorem of_noT {H : Hp} {b : Addr} {u : HO} (e : noT H b = some u) : H b = some u ∧ ∀ ps, u ≠ .tbl ps := by
  unfold noT at e
  split at e
  · cases e
  · rename_i z
    refine ⟨e, fun ps w => ?_⟩
    subst w
    exact z ps e
theorem SameN.same {H H' : Hp} (s : SameN H H') : Same (noT H) H' := fun b u e => let ⟨h, n⟩ := of_noT e; s.1 b u h n
theorem SqL.noT {K : Frag} {H : Hp} {a : Addr} {xs : List V} (h : SqL K H a xs) : SqL K (L2.noT H) a xs := by
  rcases h with (h | ⟨o, h⟩) | h
  · exact .inl (.inl (noT_of h fun _ z => by cases z))
  · exact .inl (.inr ⟨o, noT_of h fun _ z => by cases z⟩)
  · exact .inr h
section
variable {X : Cx} {pins : List (Addr × Obj)} {σ : St} {H : Hp} {s : Shared} {E : Value → Shared → Prop}
end
end L2
set_option Elab.async false
set_option linter.all false
set_option maxRecDepth 100000
namespace L2
open PySem PySem.W PySem.Spec PyProof.Rows PySem.Calls
section
variable {X : Cx} {ex ey : Expr} {t : TA} {c P : Addr} {y : Str} {p1 p2 p3 p4 p5 pos pos2 lpos kp : Pos} {j : Nat} {params : Arguments} {scope : Scope}
end
end L2
set_option Elab.async false
set_option linter.all false
set_option maxRecDepth 100000
namespace L2
open PySem PySem.W PySem.Spec PyProof.Rows PySem.Calls
section
variable {P : Program} {w : World} {K : Frag} {mg : Str → Option Value} {base : Heap}
end
end L2
set_option Elab.async false
set_option linter.all false
set_option maxRecDepth 100000
namespace L2
open PySem PySem.Spec PyProof.Rows

structure CompScope2 (sc : Scope) (N : List Str) (x x2 : Str) (fr : List Str) (ix : List Nat) (scope : Scope) : Prop where
  kind : scope.kind = .function
  nocell : ∀ y ∈ scope.names, y.2 ≠ .cell
  lcl : ∀ y ∈ scope.names, y.2 = .local → scope.names.lookup y.1 = some .local
  lx : scope.names.lookup x = some .local
  lx2 : scope.names.lookup x2 = some .local
  free : ∀ y ∈ scope.names, y.2 = .free → sc.names.lookup y.1 = some .cell ∨ sc.names.lookup y.1 = some .free
  at' : fr.map some = ix.map fun i => N[i]?
  frk : ∀ y ∈ fr, scope.names.lookup y = some .free ∧ (sc.names.lookup y = some .cell ∨ sc.names.lookup y = some .free)
  nd : (x :: x2 :: fr).Nodup
section
variable {X : Cx} {pins : List (Addr × Obj)} {σ : St} {H : Hp} {s : Shared} {x x2 : Str} {fr : List Str} {ix : List Nat} {scope : Scope} {cl : List (Str × Addr)} {fp : List Addr} {C D : Addr}
theorem blk_ok2 (S : CompScope2 X.env.scope X.N x x2 fr ix scope) (I : Inv X pins σ H s) (hf : ∀ b ∈ fp, FpOk X pins H b) (hfo : ∀ b ∈ fp, b < s.heap.objs.size) (hC : s.heap.objs.size ≤ C)
    (h1 : ∀ y c, cl.lookup y = some c → X.env.cells.lookup y = some c) (h2 : ∀ y, (y, NameKind.free) ∈ scope.names → ∃ c, cl.lookup y = some c) : (blk X (x :: x2 :: fr) scope cl C s H fp).Ok where
  mod := I.ok.mod
  kind := S.kind
  glob := I.ok.glob
  blt := I.ok.blt
  above := hC
  inj := fun y z c a b => I.ok.inj y z c (h1 y c a) (h1 z c b)
  has := fun y hy => h2 y (relabel_back (env := X.env) (scope := scope) S.nocell hy)
  cab := fun y c h _ => Bool.noConfusion (show false = true from h)
  hd := I.ok.hd
  frames := I.ok.frames
  stk := .inl rfl
  exf := fun b hb => ⟨fun z => absurd (hfo b hb) (by rw [z]; exact Nat.not_lt.mpr hC), fun y c e => (hf b hb).2.2.2.2.1 y c (h1 y c e)⟩
  bs := I.bs
  bsz := Nat.le_trans I.ok.bsz I.sz
  noex := fun b o e hb => by
    rcases (hf b hb).2.2.2.1 with z | z
    · exact I.ok.noex b o e z
    · exact absurd (Nat.lt_of_lt_of_le (Heap.lt_size e) (Nat.le_trans I.ok.bsz z)) (Nat.lt_irrefl _)
  exfs := fun b hb z => by
    rcases List.mem_cons.mp (I.stkSub b z) with e | e
    · exact (hf b hb).2.1 e
    · exact (hf b hb).2.2.1 e
  funs := I.stack
  frf := I.stkFree
theorem CompScope2.len (S : CompScope2 X.env.scope X.N x x2 fr ix scope) : fr.length = ix.length := by have := congrArg List.length S.at'; simpa using this
theorem blk_inv2 {s' : Shared} {pn : List (Addr × Obj)} {m : Str → Option Value} (S : CompScope2 X.env.scope X.N x x2 fr ix scope) (I : Inv X pins σ H s) (hf : ∀ b ∈ fp, FpOk X pins H b) (hfo : ∀ b ∈ fp, b < s.heap.objs.size) (hC : s.heap.objs.size ≤ C)
    (h1 : ∀ y c, cl.lookup y = some c → X.env.cells.lookup y = some c) (h2 : ∀ y, (y, NameKind.free) ∈ scope.names → ∃ c, cl.lookup y = some c)
    (ho : s'.os = s.os) (hg : s'.gens = s.gens) (k : ∀ b o, s.heap.get? b = some o → s'.heap.get? b = some o) (hn : s'.heap.Ns C m)
    (hp : ∀ p ∈ pn, s'.heap.get? p.1 = some p.2 ∧ s.heap.objs.size ≤ p.1 ∧ p.1 ≠ C ∧ ∀ v, p.2.data ≠ .cell v) :
    Inv (blk X (x :: x2 :: fr) scope cl C s H fp) pn (none :: none :: cap ix σ) H s' := by
  obtain ⟨mX, hnX, hlX⟩ := I.loc
  refine ⟨blk_ok2 S I hf hfo hC h1 h2, ho, by rw [hg]; exact I.bare, Un.kept k, ⟨m, hn, fun i y v e1 e2 e3 => ?_⟩, fun y c e => ?_, I.hok.fresh hC, fun y c e => I.freeC y c (h1 y c e), fun p hp' => ?_, I.hok.kept k, by
    show (none :: none :: cap ix σ).length = (x :: x2 :: fr).length
    simp [cap_len, S.len]⟩
  · rcases i with _ | _ | j
    · cases e2
    · cases e2
    · have e1' : fr[j]? = some y := e1
      have e2' : (cap ix σ)[j]? = some (some v) := e2
      obtain ⟨f1, f2⟩ := S.frk y (List.mem_of_getElem? e1')
      unfold cap at e2'
      rw [List.getElem?_map] at e2'
      cases ei : ix[j]? with
      | none => rw [ei] at e2'; cases e2'
      | some i =>
        rw [ei] at e2'
        have e3' : (σ[i]?).join = some v := Option.some.inj e2'
        have e4 : σ[i]? = some (some v) := by
          cases q : σ[i]? with
          | none => rw [q] at e3'; cases e3'
          | some w => rw [q] at e3'; have : w = some v := e3'; rw [this]
        have e5 : X.N[i]? = some y := by
          have := congrArg (fun l => l[j]?) S.at'
          simp only [List.getElem?_map, e1', ei] at this
          simpa using this.symm
        have vis : Vis X.env.scope y := by
          rcases f2 with z | z
          · exact .inr (.inl z)
          · exact .inr (.inr z)
        obtain ⟨u, r, l⟩ := hlX i y v e5 e4 vis
        refine ⟨u, r, .inr ⟨relabel_free f1, ?_⟩⟩
        rcases l with ⟨z, _⟩ | ⟨_, c, ec, hc⟩
        · rcases f2 with q | q
          · have q' := (show X.env.scope.names.lookup y = some .local from z).symm.trans q; cases q'
          · have q' := (show X.env.scope.names.lookup y = some .local from z).symm.trans q; cases q'
        · obtain ⟨c', hc'⟩ := h2 y (PySem.mem_of_lookup f1)
          have : c' = c := by have := h1 y c' hc'; rw [ec] at this; exact (Option.some.inj this).symm
          subst this
          refine ⟨c', hc', ?_⟩
          obtain ⟨o, ho', hd⟩ := hc
          exact ⟨o, k _ _ ho', hd⟩
  · obtain ⟨v, o, ho', hd⟩ := I.cell y c (h1 y c e)
    exact ⟨v, o, k _ _ ho', hd⟩
  · have hp'' : p ∈ pn := by simpa [blk] using hp'
    obtain ⟨q1, q2, q3, q4⟩ := hp p hp''
    refine ⟨q1, I.hok.fresh q2, q3, fun z => ?_, q4⟩
    obtain ⟨_, o, ho', _⟩ := I.stack.mem z
    exact absurd (Nat.lt_of_lt_of_le (Heap.lt_size ho') q2) (Nat.lt_irrefl _)
end
noncomputable def wComp2 (K : PySem.W.Frag) (J : It) (c : St) (tc : TT) (te : TE) (H1 : Hp) (fin : List V → Hp → Prop) : Prop :=
  ∃ W : Nat → Nat → List V → Hp → Prop, (∃ m, W 0 m [] H1) ∧ ∀ i m ys H, W i m ys H →
    (J.stop i H ∧ ys.length ≤ sizeLine ∧ fin ys H) ∨
    (J.go i H ∧ ys.length < sizeLine ∧ ∃ N : List V → Hp → Prop, (∀ ys' H', N ys' H' → ∃ m', m' < m ∧ W (i + 1) m' ys' H') ∧ ∀ x H', J.yld i H x H' → ∃ t a b, x = .ref t ∧ SqT K H' t [a, b] ∧ tc (some a :: some b :: c) H' fun d H2 => if d = true then te (some a :: some b :: c) H2 fun y H3 => N (ys ++ [y]) H3 else N ys H2)
noncomputable def tComp2 (K : PySem.W.Frag) (ix : List Nat) (wi : TI) (tc : TT) (te : TE) : TE := fun σ H Q => wi σ H fun J H1 => wComp2 K J (cap ix σ) tc te H1 fun ys H2 => ∀ l, H2 l = none → Q (.ref l) (upd H2 l (.lst ys))
section
variable {X : Cx} {x x2 : Str} {fr : List Str} {ix : List Nat} {scope : Scope} {elt iter : Expr} {ifs : List Expr} {px px2 tp pos : Pos} {tk : Nat} {wi : TI} {tc : TT} {te : TE}
theorem comp_run2 {use : Option (Value → Sem Unit)} {Q : Value → Shared → Prop} {pins : List (Addr × Obj)} {s2 : Shared} {σ : St} {H2 : Hp} {it : Addr} {fp : List Addr} {tn : Nat → Heap → Prop} {J : It} {cl : List (Str × Addr)} (S : CompScope2 X.env.scope X.N x x2 fr ix scope) (hc : X.calm = true)
    (hif : ∀ cl C s2 H2 fp, PIf (blk X (x :: x2 :: fr) scope cl C s2 H2 fp) ifs tc) (he : ∀ cl C s2 H2 fp, PE (blk X (x :: x2 :: fr) scope cl C s2 H2 fp) elt te)
    (h1 : ∀ y c, cl.lookup y = some c → X.env.cells.lookup y = some c) (h2 : ∀ y, (y, NameKind.free) ∈ scope.names → ∃ c, cl.lookup y = some c)
    (I2 : Inv X pins σ H2 s2) (T : Turn X.prog X.w X.K (.Tuple [.Name x px, .Name x2 px2] tk tp) J fp it tn) (st2 : tn 0 s2.heap) (f2 : ∀ b ∈ fp, FpOk X pins H2 b) {fin : List V → Hp → Prop} (wc : wComp2 X.K J (cap ix σ) tc te H2 fin)
    (hQ : ∀ (D C : Addr) (ys : List V) (H' : Hp) (s' : Shared) (m : Str → Option Value), Inv X pins σ (upd H' D (.lst ys)) s' → H' D = none → s'.heap.Ns C m → D ≠ C → s2.heap.objs.size ≤ C → H' C = none → fin ys H' →
      compPost (model X.prog X.w) X.A X.xe use Q (.ref D) C (.ok .next) s') :
    wpAny (model X.prog X.w) X.A (newList []) (fun acc s₃ => wpAny (model X.prog X.w) X.A (newFunctionEnv scope X.env.globals cl [] X.env.qual none .none (some X.env)) (fun cenv s₄ =>
      codeAny (model X.prog X.w) X.A (.compStart (.ListComp elt [⟨.Tuple [.Name x px, .Name x2 px2] tk tp, iter, ifs, 0⟩] scope pos) 0 (.ref it) acc { cenv with scope := relabel scope X.env }) (compPost (model X.prog X.w) X.A X.xe use Q acc cenv.locals) s₄) X.xe s₃) X.xe s2 := by
  have hfo : ∀ b ∈ fp, b < s2.heap.objs.size := fun b hb => by
    obtain ⟨o, e, _⟩ := T.obj 0 _ st2 b hb
    exact Heap.lt_size e
  refine wpAny_newObj_type (wpAny_newFunctionEnv S.nocell (by intro y hy; simp at hy) (fun h₁ hns₁ hsb₁ => ?_) S.kind)
  dsimp only at hns₁ hsb₁ ⊢
  generalize hHp : s2.heap.push { cls := .type "list", dict := none, data := .seq ([] : List Value).toArray } = Hp2 at hns₁ hsb₁ ⊢
  have hCs : Hp2.objs.size = s2.heap.objs.size + 1 := by rw [← hHp, Heap.size_push]
  have hDC : s2.heap.objs.size ≠ Hp2.objs.size := by rw [hCs]; exact Nat.ne_of_lt (Nat.lt_succ_self _)
  have hCle : s2.heap.objs.size ≤ Hp2.objs.size := by rw [hCs]; exact Nat.le_succ _
  have below : ∀ b, b < s2.heap.objs.size → b ≠ Hp2.objs.size := fun b hb => by rw [hCs]; exact Nat.ne_of_lt (Nat.lt_succ_of_lt hb)
  have old : ∀ b o, s2.heap.get? b = some o → h₁.get? b = some o := fun b o e => hsb₁.extBut b o (below b (Heap.lt_size e)) (Heap.get?_push_of_some _ (hHp ▸ Heap.get?_push_of_some _ e))
  have hacc : h₁.get? s2.heap.objs.size = some { cls := .type "list", data := .seq ([] : List Value).toArray 0 } := hsb₁.extBut _ _ hDC (Heap.get?_push_of_some _ (hHp ▸ Heap.get?_push_size _ rfl))
  have st1 : tn 0 h₁ := T.keep 0 _ _ st2 fun b _ o e => old b o e
  have fpD : ∀ b ∈ fp, b ≠ s2.heap.objs.size := fun b hb => Nat.ne_of_lt (hfo b hb)
  generalize hD : s2.heap.objs.size = D at hacc hDC fpD ⊢
  have hDle : s2.heap.objs.size ≤ D := Nat.le_of_eq hD
  generalize hC : Hp2.objs.size = C at hns₁ hsb₁ hDC hCle ⊢
  have oldD : ∀ b o, s2.heap.get? b = some o → b ≠ D := fun b o e z => absurd (Heap.lt_size e) (by rw [z, ← hD]; exact Nat.lt_irrefl _)
  obtain ⟨W, ⟨m0, w0⟩, turn⟩ := wc
  have loop : ∀ s₃ : Shared, s₃ = { s2 with heap := h₁, toks := s2.toks + ([] : List (Str × Value)).length } →
      codeAny (model X.prog X.w) X.A (.compLoop (.ListComp elt [⟨.Tuple [.Name x px, .Name x2 px2] tk tp, iter, ifs, 0⟩] scope pos) 0 (.ref it) (.ref D) (compEnvC scope cl C X.env))
        (compPost (model X.prog X.w) X.A X.xe use Q (.ref D) C) s₃ := by
    rintro s₃ rfl
    have I0 : Inv (blk X (x :: x2 :: fr) scope cl C s2 H2 fp) [(D, { cls := .type "list", data := .seq ([] : List Value).toArray 0 })] (none :: none :: cap ix σ) H2 { s2 with heap := h₁, toks := s2.toks + ([] : List (Str × Value)).length } :=
      blk_inv2 S I2 f2 hfo hCle h1 h2 rfl rfl old hns₁ (fun p hp => by
        have e : p = (D, { cls := .type "list", data := .seq ([] : List Value).toArray 0 }) := by simpa using hp
        subst e
        exact ⟨hacc, hDle, hDC, fun v z => by cases z⟩)
    have stat : ∀ {its : Obj} {H' : Hp}, (∀ b ∈ fp, H' b = none) → ∀ b ∈ fp, FpOk (blk X (x :: x2 :: fr) scope cl C s2 H2 fp) [(D, its)] H' b := fun {its H'} hn b hb => by
      refine ⟨hn b hb, fun z => ?_, fun z => (I0.ok.exfs b hb z), .inl hb, fun y c e => (I0.ok.exf b hb).2 y c e, fun p hp z => ?_⟩
      · exact (I0.ok.exf b hb).1 z
      · have e : p = (D, its) := by simpa [blk] using hp
        subst e
        exact fpD b hb (Eq.symm z)
    refine compLoop_own (env := compEnvC scope cl C X.env)
      (fun n s' => ∃ i ys its k v0 v1 H', Vals ys its ∧ Inv (blk X (x :: x2 :: fr) scope cl C s2 H2 fp) [(D, { cls := .type "list", data := .seq its.toArray k })] (v0 :: v1 :: cap ix σ) H' s' ∧ tn i s'.heap ∧ (∀ b ∈ fp, H' b = none) ∧ W i n ys H') ?_ m0
      ⟨0, [], [], 0, none, none, H2, .nil, I0, st1, fun b hb => (f2 b hb).1, w0⟩
    rintro n s3 ⟨i, ys, its, k, v0, v1, H3, rv, I3, st3, fr3, w3⟩
    rcases turn i n ys H3 w3 with ⟨stop, hz, hfin⟩ | ⟨go, hz, N, hN, step⟩
    · refine thn (T.done (blk X (x :: x2 :: fr) scope cl C s2 H2 fp) rfl rfl rfl hc i _ s3 _ H3 _ I3 (stat fr3) st3 stop) fun r s4 ⟨hr, I4⟩ => ?_
      subst hr
      have pD := I4.pin (D, { cls := .type "list", data := .seq its.toArray k }) (by simp [blk])
      obtain ⟨mC, hnC, _⟩ := I4.loc
      have hH3D : H3 D = none := pD.2.1
      have hok' : HOk X.prog X.w (upd H3 D (.lst ys)) s4.heap := fun b u e => by
        by_cases hb : b = D
        · subst hb
          rw [upd_same] at e; cases e
          exact ⟨hz, its, k, rv, pD.1⟩
        · rw [upd_ne hb] at e
          exact (I4.hok b u e).stay (fun c v _ q => q) (fun c q => by rw [upd_ne (ne_of_none q hH3D)]; exact q) fun c xs q => by rw [upd_ne (ne_of_none q hH3D)]; exact q
      have b4 : Un (frs X.stack) fp H2 H3 s2.heap s4.heap := I4.base
      have un : Un (frs X.stack) fp H2 (upd H3 D (.lst ys)) s2.heap s4.heap :=
        ⟨b4.keep, b4.slot, fun b o q n hx => by
          rw [upd_ne (oldD b o q)]; exact b4.free b o q n hx, b4.there, fun b xs q => by rw [upd_ne (ne_of_none (b4.tups b xs q) hH3D)]; exact b4.tups b xs q,
          fun b o u q => by rw [upd_ne (ne_of_none (b4.frzs b o u q) hH3D)]; exact b4.frzs b o u q, fun b ps q => by
            obtain ⟨more, e⟩ := b4.tbls b ps q
            exact ⟨more, by rw [upd_ne (ne_of_none e hH3D)]; exact e⟩⟩
      have I5 : Inv X pins σ (upd H3 D (.lst ys)) s4 := I2.call' (ch := fp) I4.os un hok' I4.bare fun b hb => by
        obtain ⟨g0, g1, g2, g3, g4, g5⟩ := f2 b hb
        exact ⟨g3, g1, g4, g5⟩
      exact hQ D C ys H3 s4 mC I5 hH3D hnC hDC hCle I4.free hfin
    · refine thn (T.item (blk X (x :: x2 :: fr) scope cl C s2 H2 fp) rfl rfl rfl hc i _ s3 _ H3 _ I3 (stat fr3) st3 go) fun r s4 ⟨u, hr, h4⟩ => ?_
      subst hr
      refine thn h4 fun _ s5 ⟨y, H5, I5, r5, y5, st5, fr5⟩ => ?_
      have I5' := I5.pinned (stat fr5) (T.obj _ _ st5)
      have pg : PG (blk X (x :: x2 :: fr) scope cl C s2 H2 fp) (.Tuple [.Name x px, .Name x2 px2] tk tp) (gTup X.K 2 (gCons (gName 0) (gCons (gName 1) gNil))) :=
        pg_tup hc (pgs_cons (pg_name S.nd rfl (.inl (lookup_relabel_local S.lx)) (.inr (lookup_relabel_local S.lx))) (pgs_cons (pg_name S.nd rfl (.inl (lookup_relabel_local S.lx2)) (.inr (lookup_relabel_local S.lx2))) pgs_nil))
      obtain ⟨t5, y1, y2, ey, ht5, q5⟩ := step y _ y5
      refine thn (pg _ s5 _ H5 y u (fun σ6 H6 => σ6 = some y1 :: some y2 :: cap ix σ ∧ H6 = H5) I5' r5 ⟨t5, _, ey, ht5, rfl, _, _, rfl, _, _, rfl, rfl, rfl, rfl⟩) fun _ s6 ⟨σ6, H6, I6, e6, e6'⟩ => ?_
      subst e6 e6'
      refine thn (hif cl C s2 H2 fp _ s6 _ _ _ I6 q5) fun b s7 ⟨H7, I7, q7⟩ => ?_
      have again : ∀ {s8 : Shared} {H8 : Hp} {its' : List Value} {k' : Nat} {ys' : List V}, Vals ys' its' → Inv (blk X (x :: x2 :: fr) scope cl C s2 H2 fp) [(D, { cls := .type "list", data := .seq its'.toArray k' })] (some y1 :: some y2 :: cap ix σ) H8 s8 → (∀ b ∈ fp, ∀ o, s5.heap.get? b = some o → s8.heap.get? b = some o) → (∀ b ∈ fp, H8 b = none) → N ys' H8 →
          ∃ m, m < n ∧ ∃ i ys its k v0 v1 H', Vals ys its ∧ Inv (blk X (x :: x2 :: fr) scope cl C s2 H2 fp) [(D, { cls := .type "list", data := .seq its.toArray k })] (v0 :: v1 :: cap ix σ) H' s8 ∧ tn i s8.heap ∧ (∀ b ∈ fp, H' b = none) ∧ W i m ys H' :=
        fun {s8 H8 its' k' ys'} rv8 I8 kp fr8 nn => let ⟨m', hm, w8⟩ := hN ys' H8 nn; ⟨m', hm, i + 1, ys', its', k', some y1, some y2, H8, rv8, I8, T.keep _ _ _ st5 kp, fr8, w8⟩
      cases b with
      | false =>
        rw [if_neg Bool.false_ne_true] at q7 ⊢
        refine again rv I7.unpinned (fun b hb o e => (I7.pin (b, o) (by simp [blk]; exact .inr (mem_pinsAt hb e))).1) (fun b hb => ?_) q7
        obtain ⟨o, e, d⟩ := T.obj _ _ st5 b hb
        exact (I7.pin (b, o) (by simp [blk]; exact .inr (mem_pinsAt hb e))).2.1
      | true =>
        rw [if_pos rfl] at q7 ⊢
        refine thn (he cl C s2 H2 fp _ s7 _ _ _ I7 q7) fun v s8 ⟨z, H8, I8, r8, q8⟩ => ?_
        have pD := I8.pin (D, { cls := .type "list", data := .seq its.toArray k }) (by simp [blk])
        have hvl : ys.length = its.length := rv.length
        refine append_at (hsz := by show its.toArray.size ≤ sizeLine; rw [List.size_toArray]; omega) pD.1 fun h₉ hs₉ hD₉ => ?_
        have eo : ({ cls := .type "list", data := .seq (its.toArray.push v) (k + 1) } : Obj) = { cls := .type "list", data := .seq (its ++ [v]).toArray (k + 1) } := by rw [List.push_toArray]
        rw [eo] at hD₉
        have pn8 : ∀ b ∈ fp, ∀ o, s5.heap.get? b = some o → s8.heap.get? b = some o ∧ H8 b = none := fun b hb o e => by
          have q := I8.pin (b, o) (by simp [blk]; exact .inr (mem_pinsAt hb e))
          exact ⟨q.1, q.2.1⟩
        have J8 := I8.unpinned.pins_of (pins' := []) (fun p hp => by cases hp)
        have f2D : FpOk (blk X (x :: x2 :: fr) scope cl C s2 H2 fp) [] H8 D := ⟨pD.2.1, pD.2.2.1, pD.2.2.2.1, .inr hDle, fun y c e z => by
            obtain ⟨v, o, ho, _⟩ := I2.cell y c (h1 y c e)
            exact oldD c o ho z, fun p hp => by cases hp⟩
        have I9 : Inv (blk X (x :: x2 :: fr) scope cl C s2 H2 fp) [] (some y1 :: some y2 :: cap ix σ) H8 { s8 with heap := h₉ } := J8.turned (t' := s8.toks) (it := D) (fun b o hb e => (hs₉.2 b hb).trans e) f2D.1 f2D.2.1 f2D.2.2.2.1 f2D.2.2.2.2.1 f2D.2.2.2.2.2
        refine again (its' := its ++ [v]) (k' := k + 1) (ys' := ys ++ [z]) (rv.append (.cons r8 .nil)) (I9.pins_of fun p hp => ?_) (fun b hb o e => (hs₉.2 b (fpD b hb)).trans (pn8 b hb o e).1) (fun b hb => ?_) q8
        · have e : p = (D, { cls := .type "list", data := .seq (its ++ [v]).toArray (k + 1) }) := by simpa using hp
          subst e
          exact ⟨hD₉, f2D.1, f2D.2.1, f2D.2.2.1, fun v z => by cases z⟩
        · obtain ⟨o, e, d⟩ := T.obj _ _ st5 b hb
          exact (pn8 b hb o e).2
  exact codeAny_compStart_list (loop _ rfl) (T.self X.A 0 _ _ _ st1 (loop _ rfl))
theorem pe_comp2 (S : CompScope2 X.env.scope X.N x x2 fr ix scope) (hc : X.calm = true) (hi : PI X (.Tuple [.Name x px, .Name x2 px2] tk tp) iter wi) (hif : ∀ cl C s2 H2 fp, PIf (blk X (x :: x2 :: fr) scope cl C s2 H2 fp) ifs tc) (he : ∀ cl C s2 H2 fp, PE (blk X (x :: x2 :: fr) scope cl C s2 H2 fp) elt te)
    (hs : ∀ x, foldedSetIterable iter X.env x = pure x := by intro _; rfl) : PE X (.ListComp elt [⟨.Tuple [.Name x px, .Name x2 px2] tk tp, iter, ifs, 0⟩] scope pos) (tComp2 X.K ix wi tc te) := by
  intro pins s σ H Q I h
  obtain ⟨cl, ecl, h1, h2⟩ := closure_ok (env := X.env) (scope := scope) fun y hy hf => I.ok.has y.1 (S.free y hy hf)
  rw [eval_ListComp]
  refine wpAny_comprehension_free (use := none) rfl hs ecl S.kind S.lcl (thn (hi pins s σ H _ I h) fun xv s1 q1 => thn q1 fun itv s2 q2 => ?_)
  obtain ⟨it, fp, tn, J, H2, rfl, I2, T, st2, f2, wc⟩ := q2
  refine comp_run2 S hc hif he h1 h2 I2 T st2 f2 wc fun D C ys H' s' m I' hD hn hDC hC hHC fin => ?_
  refine ⟨m, hn, fun h' sb => ⟨.ref D, upd H' D (.lst ys), ?_, rfl, fin D hD⟩⟩
  have hcf : FpOk X pins (upd H' D (.lst ys)) C := by
    have z := I2.fpOk (H' := upd H' D (.lst ys)) hC (by rw [upd_ne (Ne.symm hDC)]; exact hHC)
    exact z
  exact I'.turned (t' := s'.toks) (it := C) (fun b o hb e => (sb.2 b hb).trans e) hcf.1 hcf.2.1 hcf.2.2.2.1 hcf.2.2.2.2.1 hcf.2.2.2.2.2
end
end L2
set_option Elab.async false
set_option linter.all false
set_option maxRecDepth 100000
namespace L2
open PySem PySem.W PySem.Spec PyProof.Rows PySem.Calls
section
variable {X : Cx} {pins : List (Addr × Obj)} {σ : St} {H : Hp} {s : Shared} {h' : Heap} {t' : Nat} {ch : List Addr}
end
section
variable {X : Cx} {ex ey : Expr} {t : TA} {p pos tp : Pos} {elts : List Expr} {tk : Nat}
end
end L2
set_option Elab.async false
set_option linter.all false
set_option maxRecDepth 100000
namespace L2
open PySem PySem.W PySem.Spec PyProof.Rows
theorem comp2_list {K : Frag} {a : Addr} {xs : List V} {c : St} {tc : TT} {te : TE} {H : Hp} {fin : List V → Hp → Prop} (Pv : Nat → List V → Hp → Prop) (h0 : Pv 0 [] H) (hl : ∀ i ys H, i ≤ xs.length → Pv i ys H → SqL K H a xs ∧ ys.length ≤ i) (hz : xs.length ≤ sizeLine)
    (hs : ∀ i x ys H, xs[i]? = some x → Pv i ys H → ∃ t u v, x = .ref t ∧ SqT K H t [u, v] ∧ tc (some u :: some v :: c) H fun b H2 => if b = true then te (some u :: some v :: c) H2 fun y H3 => Pv (i + 1) (ys ++ [y]) H3 else Pv (i + 1) ys H2) (hd : ∀ ys H, Pv xs.length ys H → fin ys H) : wComp2 K (Itl K a) c tc te H fin := by
  refine ⟨fun i m ys H => m = xs.length - i ∧ i ≤ xs.length ∧ Pv i ys H, ⟨xs.length, by simp, Nat.zero_le _, h0⟩, ?_⟩
  rintro i m ys H ⟨rfl, hi, p⟩
  obtain ⟨q, hy⟩ := hl i ys H hi p
  by_cases hlt : i < xs.length
  · refine .inr ⟨⟨xs, xs[i], q, by simp [hlt]⟩, by omega, fun ys' H' => Pv (i + 1) ys' H', fun ys' H' p' => ⟨xs.length - (i + 1), by omega, rfl, hlt, p'⟩, fun x H' y => ?_⟩
    obtain ⟨e, y⟩ := y
    subst e
    exact hs i x ys _ (y xs q) p
  · have e : i = xs.length := by omega
    subst e
    exact .inl ⟨⟨xs, q, Nat.le_refl _⟩, by omega, hd ys H p⟩
theorem comp2_list0 {K : Frag} {a : Addr} {xs : List V} {c : St} {te : TE} {H : Hp} {fin : List V → Hp → Prop} (Pv : Nat → List V → Hp → Prop) (h0 : Pv 0 [] H) (hl : ∀ i ys H, i ≤ xs.length → Pv i ys H → SqL K H a xs ∧ ys.length ≤ i) (hz : xs.length ≤ sizeLine)
    (hs : ∀ i x ys H, xs[i]? = some x → Pv i ys H → ∃ t u v, x = .ref t ∧ SqT K H t [u, v] ∧ te (some u :: some v :: c) H fun y H3 => Pv (i + 1) (ys ++ [y]) H3) (hd : ∀ ys H, Pv xs.length ys H → fin ys H) : wComp2 K (Itl K a) c tYes te H fin :=
  comp2_list Pv h0 hl hz (fun i x ys H e p => let ⟨t, u, v, e1, e2, h⟩ := hs i x ys H e p; ⟨t, u, v, e1, e2, iteT (B := Pv (i + 1) ys H) h⟩) hd
end L2
set_option Elab.async false
set_option linter.all false
set_option maxRecDepth 100000
namespace L2
open PySem PySem.Spec PyProof.Rows
section
variable {X : Cx}
end
end L2
set_option Elab.async false
set_option linter.all false
set_option maxRecDepth 100000
namespace L2
open PySem PySem.Spec PyProof.Rows
section
variable {X : Cx}
end
end L2
set_option Elab.async false
set_option linter.all false
set_option maxRecDepth 100000
namespace L2
open PySem PySem.W PySem.Spec PyProof.Rows PySem.Calls
section
variable {X : Cx} {pins : List (Addr × Obj)} {σ : St} {H : Hp} {s : Shared} {E : Value → Shared → Prop}
end
section
variable {X : Cx} {ex ey : Expr} {t : TA} {c P : Addr} {y : Str} {p1 p2 p3 p4 p5 pos pos2 lpos kp : Pos} {j : Nat} {params : Arguments} {scope : Scope}
end
end L2
set_option Elab.async false
set_option linter.all false
set_option maxRecDepth 100000
namespace L2
open PySem PySem.Spec PyProof.Rows
section
variable {X : Cx}
end
end L2
set_option Elab.async false
set_option linter.all false
set_option maxRecDepth 100000
namespace L2
open PySem PySem.Spec PyProof.Rows
section
variable {X : Cx}
end
end L2
set_option Elab.async false
set_option linter.all false
set_option maxRecDepth 100000
namespace L2
open PySem PySem.Spec PyProof.Rows

section
variable {X : Cx} {tg : Expr}
end
end L2
set_option Elab.async false
set_option linter.all false
set_option maxRecDepth 100000
namespace L2
open PySem PySem.Spec PyProof.Rows
end L2
set_option Elab.async false
set_option linter.all false
set_option maxRecDepth 100000
namespace L2
open PySem PySem.Spec PyProof.Rows PySem.Builtin PySem.Builtin.Str
theorem strs_of : ∀ {ts : List Str} {us : List Value}, Vals (ts.map V.str) us → ∃ l : List (Str × Tok), us = strValues l ∧ l.map (·.1) = ts
  | [], _, h => by cases h; exact ⟨[], rfl, rfl⟩
  | x :: ts, _, h => by
    cases h with
    | cons r h =>
      obtain ⟨t, rfl⟩ := r
      obtain ⟨l, rfl, e⟩ := strs_of h
      exact ⟨(x, t) :: l, rfl, by rw [List.map_cons, e]⟩
theorem join_fits {z : Str} {ts : List Str} (hz : z.length ≤ 10) (hl : ts.length ≤ 200) (h : ∀ t ∈ ts, t.length ≤ 2000) : tooLong (ts.toArray.foldl (· + ·.length + z.length) 0) = false := by
  have go : ∀ (l : List Str) (n : Nat), (∀ t ∈ l, t.length ≤ 2000) → l.foldl (· + ·.length + z.length) n ≤ n + 2010 * l.length := by
    intro l
    induction l with
    | nil => intro n _; simp
    | cons t l ih =>
      intro n h
      have := ih (n + t.length + z.length) fun u hu => h u (List.mem_cons_of_mem _ hu)
      have h1 := h t (List.mem_cons_self ..)
      rw [List.foldl_cons, List.length_cons]
      omega
  have := go ts 0 h
  have hln := line_ge
  unfold tooLong
  rw [List.foldl_toArray]
  simp only [gt_iff_lt, decide_eq_false_iff_not]
  omega
section
variable {X : Cx}
theorem call_str : CallR X (.type "str") (fun xs H Q => (∃ i : Int, xs = [.int i] ∧ i.natAbs.log2 < 1920 ∧ Q (.str (toString i)) H) ∨ ∃ y, xs = [.str y] ∧ Q (.str y) H) := by
  intro pins s σ H xs us Q I r h
  rcases h with ⟨i, rfl, hd, q⟩ | ⟨y, rfl, q⟩
  · obtain ⟨u, rfl, ⟨t, rfl⟩⟩ := r.one
    exact P.str_of_int hd ⟨.str _, H, I.tok _, ⟨_, rfl⟩, q⟩
  · obtain ⟨u, rfl, ⟨t, rfl⟩⟩ := r.one
    exact P.str_of_str ⟨.str _, H, I, ⟨_, rfl⟩, q⟩
inductive IRJoin (K : PySem.W.Frag) (x : V) (xs : List V) (H : Hp) (Q : VK) : Prop
  | mk (z : Str) (a : Addr) (ts : List Str) : x = .str z → xs = [.ref a] → SqL K H a (ts.map V.str) → z.length ≤ 10 → ts.length ≤ 200 → ((∀ t ∈ ts, t.length ≤ 2000)) → Q (.str (Txt.join z ts)) H → IRJoin K x xs H Q
noncomputable def rJoin (K : PySem.W.Frag) : V → List V → Hp → VK → Prop := fun x xs H Q => IRJoin K x xs H Q
theorem ms_join : MtR X "str.join" (rJoin X.K) := by
  intro pins s σ H x xs v us Q I rx rv h
  obtain ⟨z, a, ts, rfl, rfl, hq, h1, h2, h3, q⟩ := h
  obtain ⟨t, rfl⟩ := rx
  obtain ⟨u, rfl, ru⟩ := rv.one
  cases ru
  obtain ⟨its, rr, p, _⟩ := I.list hq
  obtain ⟨l, rfl, rfl⟩ := strs_of rr
  have hf := join_fits h1 h2 h3
  exact call_meets F.slot_str_join (typeIs_str _ _ _) F.entry_str_join (F.args_str_join_2 _ _) (meets_str_join_list z t a l hf) ⟨p.isList, post_join l ⟨joinFit_length hf, fun t' k => ⟨.str _, H, I.tok _, ⟨_, rfl⟩, q⟩⟩⟩
end
end L2
namespace L2
open PySem
noncomputable def tN (n : Int) : Str := Str.ofString (toString n)
theorem log_ok {i : Int} (h : i.natAbs ≤ 100000) : i.natAbs.log2 < 1920 := by
  by_cases h0 : i.natAbs = 0
  · rw [h0]; decide
  · have : i.natAbs.log2 < 17 := (Nat.log2_lt h0).mpr (by omega)
    omega
end L2
set_option Elab.async false
set_option linter.all false
set_option maxRecDepth 100000
namespace L2
open PySem PySem.Spec PyProof.Rows

structure DF (K : PySem.W.Frag) (x : Str) (st : Stmt) (ps : List Str) : Prop where
  ex : ∃ f fd, PySem.W.nsIn K mainGlobals x = some (some (.ref f)) ∧ Fun K x x st f fd ∧ Binds K fd ps []
structure DM (K : PySem.W.Frag) (C : Addr) (m qual : Str) (st : Stmt) (ps : List Str) : Prop where
  ex : ∃ f fd, PySem.W.findIn K (.ref C) m = some (some (.ref f)) ∧ PySem.W.isFn K (.ref f) = true ∧ Fun K m qual st f fd ∧ Binds K fd ps []
section
variable {K : PySem.W.Frag} {st : Stmt} {f C : Addr} {oc : Value} {od an : Option Addr} {osl : Array (Option Value)} {kV doc pm cdv ct : Value} {ps : List Str}
theorem df {x : Str} (a : PySem.W.nsIn K mainGlobals x = some (some (.ref f))) (l : K.lookup f = some ⟨oc, od, .func (PySem.W.fnOf x x (defArgs st) (defBody st) (defScope st) .none kV doc pm an cdv ct), osl⟩) (c : PySem.W.codeIn K cdv x = true) (k : PySem.W.keepIn K (.ref f) = true)
    (h : ∀ (kV doc pm : Value) (an : Option Addr) (cdv ct : Value) (us : List Value), us.length = ps.length → bindArgs (PySem.W.fnOf x x (defArgs st) (defBody st) (defScope st) .none kV doc pm an cdv ct) ⟨us, []⟩ = pure (ps.zip us)) : DF K x st ps := ⟨⟨f, _, a, fun_mk l c k, (fun_mk l c k).binds h⟩⟩
theorem dm {m qual : Str} (a : PySem.W.findIn K (.ref C) m = some (some (.ref f))) (i : PySem.W.isFn K (.ref f) = true) (l : K.lookup f = some ⟨oc, od, .func (PySem.W.fnOf m qual (defArgs st) (defBody st) (defScope st) .none kV doc pm an cdv ct), osl⟩) (c : PySem.W.codeIn K cdv qual = true) (k : PySem.W.keepIn K (.ref f) = true)
    (h : ∀ (kV doc pm : Value) (an : Option Addr) (cdv ct : Value) (us : List Value), us.length = ps.length → bindArgs (PySem.W.fnOf m qual (defArgs st) (defBody st) (defScope st) .none kV doc pm an cdv ct) ⟨us, []⟩ = pure (ps.zip us)) : DM K C m qual st ps := ⟨⟨f, _, a, i, fun_mk l c k, (fun_mk l c k).binds h⟩⟩
end
section
variable {K : PySem.W.Frag} {mg : Str → Option Value} {st : Stmt} {C : Addr} {ps : List Str} {k : Nat} {sp : Sp} {h : Heap} {x m qual : Str} (P : Program) (w : World) (base : Heap)
theorem canF (X : K.In h) (G : h.Ns mainGlobals mg) (d : DF K x st ps) (g : ∀ {f fd}, Fun K x x st f fd → FnOk P w K mg base CX0 k f fd ps sp) : Can P w K mg base k x ps sp := by
  obtain ⟨f, fd, a, F, b⟩ := d.ex
  exact Can.of F (g F) (PySem.W.mg_of X G a) b
theorem canFX (X : K.In h) (G : h.Ns mainGlobals mg) (d : DF K x st ps) (g : ∀ {f fd}, Fun K x x st f fd → FnOk P w K mg base (CX1 P w) k f fd ps sp) : CanX P w K mg base k x ps sp := by
  obtain ⟨f, fd, a, F, b⟩ := d.ex
  exact CanX.of F (g F) (PySem.W.mg_of X G a) b
theorem canM (hC : clsA K x = C) (d : DM K C m qual st ps) (g : ∀ {f fd}, Fun K m qual st f fd → FnOk P w K mg base CX0 k f fd ps sp) : CanM P w K mg base k (clsA K x) m ps sp := by
  obtain ⟨f, fd, a, i, F, b⟩ := d.ex
  exact CanM.of hC (g F) ⟨a, i, F.kp⟩ b
theorem canMX (hC : clsA K x = C) (d : DM K C m qual st ps) (g : ∀ {f fd}, Fun K m qual st f fd → FnOk P w K mg base (CX1 P w) k f fd ps sp) : CanMX P w K mg base k (clsA K x) m ps sp := by
  obtain ⟨f, fd, a, i, F, b⟩ := d.ex
  exact CanMX.of hC (g F) ⟨a, i, F.kp⟩ b
theorem canK (hC : clsA K x = C) (X : K.In h) (G : h.Ns mainGlobals mg) (ha : PySem.W.nsIn K mainGlobals x = some (some (.ref C))) (mk : PySem.W.makesIn K C = true) (kc : PySem.W.keepIn K (.ref C) = true) (d : DM K C "__init__" qual st ps) (g : ∀ {f fd}, Fun K "__init__" qual st f fd → FnOk P w K mg base (CX1 P w) k f fd ps sp) : CanK P w K mg base k x (clsA K x) ps sp := by
  obtain ⟨f, fd, a, i, F, b⟩ := d.ex
  exact CanK.of hC (g F) (PySem.W.mg_of X G ha) ⟨mk, a, i, kc⟩ b
end
section
variable {P : List Value → Prop}
theorem on0 (p : P []) : ∀ us : List Value, us.length = 0 → P us
  | [], _ => p
theorem onS {n : Nat} (p : ∀ (a : Value) (us : List Value), us.length = n → P (a :: us)) : ∀ us : List Value, us.length = n + 1 → P us := by
  intro us e
  cases us with
  | nil => cases e
  | cons a r => exact p a r (Nat.succ.inj e)
end
end L2
set_option Elab.async false
set_option linter.all false
set_option maxRecDepth 100000
namespace L2
open PySem PySem.Spec PyProof.Rows


theorem scM {N P : List Str} {sc : Scope} (a1 : sc.kind = .function := by exact rfl) (a2 : sc.isCoroutine = false := by exact rfl) (a3 : sc.isGenerator = false := by exact rfl) (a4 : N.Nodup := by decide +kernel) (a5 : N.take P.length = P := by exact rfl) (a6 : ∀ x ∈ P, sc.names.lookup x = some .local ∨ sc.names.lookup x = some .cell := by decide +kernel) (a7 : ∀ y ∈ sc.names, y.2 ≠ .free := by decide +kernel) : FnScope N P sc := ⟨a1, a2, a3, a4, a5, a6, a7⟩
section
variable {sc : Scope} {N : List Str} {x x2 : Str} {fr : List Str} {ix : List Nat} {scope : Scope}
theorem csM (a1 : scope.kind = .function := by exact rfl) (a2 : ∀ y ∈ scope.names, y.2 ≠ .cell := by decide +kernel) (a3 : ∀ y ∈ scope.names, y.2 = .local → scope.names.lookup y.1 = some .local := by decide +kernel) (a4 : scope.names.lookup x = some .local := by exact rfl) (a5 : ∀ y ∈ scope.names, y.2 = .free → sc.names.lookup y.1 = some .cell ∨ sc.names.lookup y.1 = some .free := by decide +kernel)
    (a6 : fr.map some = ix.map fun i => N[i]? := by exact rfl) (a7 : ∀ y ∈ fr, scope.names.lookup y = some .free ∧ (sc.names.lookup y = some .cell ∨ sc.names.lookup y = some .free) := by decide +kernel) (a8 : (x :: fr).Nodup := by decide +kernel) : CompScope sc N x fr ix scope := ⟨a1, a2, a3, a4, a5, a6, a7, a8⟩
theorem csM2 (a1 : scope.kind = .function := by exact rfl) (a2 : ∀ y ∈ scope.names, y.2 ≠ .cell := by decide +kernel) (a3 : ∀ y ∈ scope.names, y.2 = .local → scope.names.lookup y.1 = some .local := by decide +kernel) (a4 : scope.names.lookup x = some .local := by exact rfl) (b4 : scope.names.lookup x2 = some .local := by exact rfl) (a5 : ∀ y ∈ scope.names, y.2 = .free → sc.names.lookup y.1 = some .cell ∨ sc.names.lookup y.1 = some .free := by decide +kernel)
    (a6 : fr.map some = ix.map fun i => N[i]? := by exact rfl) (a7 : ∀ y ∈ fr, scope.names.lookup y = some .free ∧ (sc.names.lookup y = some .cell ∨ sc.names.lookup y = some .free) := by decide +kernel) (a8 : (x :: x2 :: fr).Nodup := by decide +kernel) : CompScope2 sc N x x2 fr ix scope := ⟨a1, a2, a3, a4, b4, a5, a6, a7, a8⟩
end
section
variable {X : Cx} {e : Expr} {p pos : Pos} {te : TE}
theorem pLen (hm : X.mg "len" = none) (he : PE X e te) (hg : Gl X "len" := by rfl) (hs : starEach [e] X.env = (false, eval e X.env) :: starEach [] X.env := by rfl) (hpl : (backTo pos (starEach [] X.env)).any (·.1) = false := by rfl) :
    PE X (.Call (.Name "len" p) [e] [] pos) (tCB (ICall_len_seq X.K) (tCons te tNil)) := pe_callB call_len_seq hg hm PySem.boot_len (pa_cons he pa_nil (hs := hs)) (he := hs) (hpl := hpl)
end
end L2
set_option Elab.async false
set_option linter.all false
set_option maxRecDepth 100000
namespace L2
open PySem PySem.Spec PyProof.Rows

noncomputable def Air (B : Heap) (l : List Env) (x : Addr) (cls a0 : Value) (h : Heap) : Prop := B.StaysIn h ∧ B.get? x = none ∧ h.FunFrames B l ∧ ∃ fl, h.TracedAtW B x cls a0 fl
section
variable {M : Model} {A : Around} {E : Value → Shared → Prop} {s : Shared} {B : Heap} {env : Env} {outer l : List Env} {L x : Addr} {cls a0 : Value} {Q : Unit → Shared → Prop}
theorem air_note (hfr : A.frames = some (env :: outer)) (hf : env.frame = some L) (a : Air B (env :: outer) x cls a0 s.heap) (hQ : ∀ h', Air B (env :: outer) x cls a0 h' → s.heap.UpToSlots h' → Q () { s with heap := h' }) :
    wpAny M A (noteFrame (.ref x) env) Q E s := by
  obtain ⟨b1, b2, b3, fl, tr⟩ := a
  have tr0 := tr
  obtain ⟨oe, vs, T, oT, ts, he, ⟨hc, h0⟩, hd, h1, hnT, hTx, hT, hdT, h3⟩ := tr
  subst hc
  unfold noteFrame
  simp only [hf]
  refine wpAny_bind (wpAny_field he hd h1 ?_)
  rw [if_pos (by simp)]
  refine wpAny_bind (wpAny_field hT hdT h3 ?_)
  by_cases hb : (fl == rawInt L) = true
  · rw [if_pos hb]
    exact wpAny_pure (hQ s.heap ⟨b1, b2, b3, fl, tr0⟩ (.refl _))
  rw [if_neg hb]
  have hz : 3 < ts.size := (Array.getElem?_eq_some_iff.mp h3).1
  refine wpAny_bind (wpAny_setField hT hdT hz ?_)
  have ne : ∀ b, b ≠ T → (s.heap.update T (Obj.mapFields (·.setIfInBounds 3 Value.none))).get? b = s.heap.get? b := fun b hb => Heap.get?_update_other _ _ (Ne.symm hb)
  have nf : ∀ b o, s.heap.get? b = some o → (∀ ws, o.data ≠ .fields ws) → b ≠ T := fun b o ho hn z => by
    subst z
    rw [hT] at ho
    cases ho
    exact hn ts hdT
  refine wpAny_entryW hfr (b3.of_keeps fun b o ho hn => ⟨o, (ne b (nf b o ho hn)).trans ho, rfl⟩) hf ((ne x (Ne.symm hTx)).trans he) (fun b o ho => ?_) b2 hd (Array.getElem?_eq_some_iff.mp h1).1 h0 fun h' ⟨y1, y2, y3, y4⟩ => ?_
  · refine (ne b fun z => ?_).trans (b1 b o ho)
    subst z
    rw [hnT] at ho
    cases ho
  · exact hQ h' ⟨y1, b2, y2, _, y3⟩ fun b o ho hn => y4 b o ((ne b (nf b o ho hn)).trans ho) hn
theorem air_flight {fr : Option Addr} (a : Air B l x cls a0 s.heap) (hQ : ∀ h', Air B l x cls a0 h' → h'.TracedAtW B x cls a0 (fr.elim Value.none fun f => rawInt f) → s.heap.UpToSlots h' → Q () { s with heap := h' }) : wpAny M A (setFlight (.ref x) fr) Q E s := by
  obtain ⟨b1, b2, b3, fl, oe, vs, T, oT, ts, he, hc, hd, h1, hnT, hTx, hT, hdT, h3⟩ := a
  have hz : 3 < ts.size := (Array.getElem?_eq_some_iff.mp h3).1
  unfold setFlight
  refine wpAny_bind (wpAny_field he hd h1 ?_)
  rw [if_pos (by simp)]
  refine wpAny_setField hT hdT hz ?_
  generalize hfl : (fr.elim Value.none fun f => rawInt f) = fl'
  rw [hfl] at hQ
  have ne : ∀ b, b ≠ T → (s.heap.update T (Obj.mapFields (·.setIfInBounds 3 fl'))).get? b = s.heap.get? b := fun b hb => Heap.get?_update_other _ _ (Ne.symm hb)
  have nf : ∀ b o, s.heap.get? b = some o → (∀ ws, o.data ≠ .fields ws) → b ≠ T := fun b o ho hn z => by
    subst z
    rw [hT] at ho
    cases ho
    exact hn ts hdT
  have tr : (s.heap.update T (Obj.mapFields (·.setIfInBounds 3 fl'))).TracedAtW B x cls a0 fl' := ⟨oe, vs, T, _, _, (ne x (Ne.symm hTx)).trans he, hc, hd, h1, hnT, hTx, Heap.get?_update_self _ hT (Obj.isFreed_of_fields (Obj.data_mapFields hdT _)), Obj.data_mapFields hdT _, by simp [hz]⟩
  refine hQ _ ⟨fun b o ho => ?_, b2, b3.of_keeps fun b o ho hn => ⟨o, (ne b (nf b o ho hn)).trans ho, rfl⟩, _, tr⟩ tr fun b o ho hn => ⟨o.slots, (ne b (nf b o ho hn)).trans ho⟩
  refine (ne b fun z => ?_).trans (b1 b o ho)
  subst z
  rw [hnT] at ho
  cases ho
theorem air_leaves (hfr : A.frames = some (env :: outer)) (hf : env.frame = some L) (a : Air B (env :: outer) x cls a0 s.heap) (hQ : ∀ h', Heap.FlyingW B outer x cls a0 h' → s.heap.UpToSlots h' → Q () { s with heap := h' }) :
    wpAny M A (leaving env (.ref x)) Q E s := by
  unfold leaving
  refine wpAny_bind (air_note hfr hf a fun h1 a1 u1 => ?_)
  refine air_flight (s := { s with heap := h1 }) a1 fun h2 a2 t2 u2 => ?_
  obtain ⟨b1, b2, ⟨_, _, b3⟩, _⟩ := a2
  exact hQ h2 ⟨b1, b2, b3, t2⟩ (u1.trans u2)
theorem Air.but {h h' : Heap} {C : Addr} {oC : Obj} (a : Air B l x cls a0 h) (hC : B.get? C = some oC) (sb : Heap.SameBut C h h') : Air (PySem.W.hideAll B [C]) l x cls a0 h' := by
  obtain ⟨b1, b2, b3, fl, oe, vs, T, oT, ts, he, hc, hd, h1, hnT, hTx, hT, hdT, h3⟩ := a
  have k : (PySem.W.hideAll B [C]).StaysIn B := fun b o e => PySem.W.of_hideAll _ e
  have none_of : ∀ {b}, B.get? b = none → (PySem.W.hideAll B [C]).get? b = none := fun {b} hb => by
    cases e : (PySem.W.hideAll B [C]).get? b with
    | none => rfl
    | some o => rw [k b o e] at hb; cases hb
  have neC : ∀ {b}, B.get? b = none → b ≠ C := fun {b} hb z => by rw [z, hC] at hb; cases hb
  have fr : h'.FunFrames B l := by
    have go : ∀ {l : List Env}, h.FunFrames B l → h'.FunFrames B l := fun {l} => by
      induction l with
      | nil => exact fun _ => trivial
      | cons e r ih =>
        rintro ⟨q1, ⟨L, o, q2, q3, q4, q5⟩, q6⟩
        exact ⟨q1, ⟨L, o, q2, q3, (sb.2 L (neC q3)).trans q4, q5⟩, ih q6⟩
    exact go b3
  have fr2 : h'.FunFrames (PySem.W.hideAll B [C]) l := by
    have go : ∀ {l : List Env}, h'.FunFrames B l → h'.FunFrames (PySem.W.hideAll B [C]) l := fun {l} => by
      induction l with
      | nil => exact fun _ => trivial
      | cons e r ih =>
        rintro ⟨q1, ⟨L, o, q2, q3, q4, q5⟩, q6⟩
        exact ⟨q1, ⟨L, o, q2, none_of q3, q4, q5⟩, ih q6⟩
    exact go fr
  refine ⟨fun b o e => (sb.2 b fun z => ?_).trans (b1 b o (k b o e)), none_of b2, fr2, fl, oe, vs, T, oT, ts, (sb.2 x (neC b2)).trans he, hc, hd, h1, none_of hnT, hTx, (sb.2 T (neC hnT)).trans hT, hdT, h3⟩
  subst z
  have := PySem.W.hideAll_none [b] (h := B) (List.mem_singleton.mpr rfl)
  rw [this] at e
  cases e
end
structure FlyB (X : Cx) (B : Heap) (a0 : Value) (x : Addr) (cls : Value) (H' : Hp) (s' : Shared) : Prop where
  os : s'.os = X.s₀.os
  bare : AllBare s'.gens
  air : Air B X.stack x cls a0 s'.heap
  hok : HOk X.prog X.w H' B
  k1 : ∀ b o, X.s₀.heap.get? b = some o → X.H₀ b = none → b ∉ frs X.stack → b ∉ X.ex → B.get? b = some o
  k2 : ∀ b o, X.s₀.heap.get? b = some o → b ∉ frs X.stack → b ∉ X.ex → ∃ o', B.get? b = some o'
  slot : ∀ b o, X.s₀.heap.get? b = some o → X.H₀ b = none → b ∈ frs X.stack → b ∉ X.ex → ∃ sl, s'.heap.get? b = some { o with slots := sl }
  free : ∀ b o, X.s₀.heap.get? b = some o → X.H₀ b = none → b ∉ X.ex → H' b = none
  tups : ∀ b xs, X.H₀ b = some (.tup xs) → H' b = some (.tup xs)
  frzs : ∀ b o u, X.H₀ b = some (.frz o u) → H' b = some (.frz o u)
  tbls : ∀ b ps, X.H₀ b = some (.tbl ps) → ∃ more, H' b = some (.tbl (ps ++ more))
  new : H' x = none
section
variable {X : Cx} {pins : List (Addr × Obj)} {σ : St} {H H' : Hp} {s s' : Shared} {x : Addr} {cls : Value}
theorem Cx.Ok.outer (ok : X.Ok) {b : Addr} {o : Obj} (e : X.s₀.heap.get? b = some o) : b ∈ frs X.stack ↔ b ∈ frs X.outer := by
  rcases ok.stk with z | ⟨z, hf⟩
  · rw [z]
  · rw [z]
    have : frs (X.env :: X.outer) = X.env.locals :: frs X.outer := by unfold frs; rw [List.filterMap_cons, hf]
    rw [this, List.mem_cons]
    refine ⟨fun q => q.resolve_left fun z => ?_, .inr⟩
    have := Heap.lt_size e
    rw [z] at this
    exact absurd (Nat.lt_of_lt_of_le this ok.above) (Nat.lt_irrefl _)
theorem Fly.toB (I : Inv X pins σ H s) (f : Fly X.prog X.w X.stack H s x cls H' s') : ∃ B a0, FlyB X B a0 x cls H' s' ∧ ∀ b o, s.heap.get? b = some o → H b = none → b ∉ frs X.stack → B.get? b = some o := by
  obtain ⟨B, a0, ⟨f1, f2, f3, f4⟩, hB, k1, k2⟩ := f.ex
  refine ⟨B, a0, ⟨f.os.trans I.os, f.bare, ⟨f1, f2, f3, _, f4⟩, hB, fun b o e n hb hx => ?_, fun b o e hb hx => ?_, fun b o e n hb hx => ?_, fun b o e n hx => ?_, fun b xs e => f.tups b xs (I.base.tups b xs e), fun b o u e => f.frzs b o u (I.base.frzs b o u e), fun b ps e => ?_, f.new⟩, k1⟩
  · exact k1 b o (I.base.keep b o e n (fun z => hb ((I.ok.outer e).mpr z)) hx) (I.base.free b o e n hx) hb
  · obtain ⟨o1, e1⟩ := I.base.there b o e hx
    exact k2 b o1 e1 hb
  · obtain ⟨sl, e1⟩ := I.base.slot b o e n ((I.ok.outer e).mp hb) hx
    obtain ⟨sl2, e2⟩ := f.slot b _ e1 (I.base.free b o e n hx) hb
    exact ⟨sl2, e2⟩
  · obtain ⟨o1, e1⟩ := I.base.there b o e hx
    exact f.free b o1 e1 (I.base.free b o e n hx)
  · obtain ⟨m1, e1⟩ := I.base.tbls b ps e
    obtain ⟨m2, e2⟩ := f.tbls b _ e1
    exact ⟨m1 ++ m2, by rw [e2, Array.append_assoc]⟩
end
noncomputable def FlB (X : Cx) (W : XW) : Prop := X.Ok → ∀ (B : Heap) (a0 : Value) (σ : St) (x : Addr) (cls : Value) (H' : Hp) (s' : Shared), FlyB X B a0 x cls H' s' → W σ cls H' → X.xe (.ref x) s'
section
variable {P : Program} {w : World} {K : PySem.W.Frag} {mg : Str → Option Value} {base : Heap} {N : List Str} {qual : Str} {scope : Scope} {f : Addr} {cd : Value} {A : Around} {outer : List Env} {s0 : Shared} {H0 : Hp} {E : XK}
theorem flB_def : FlB (cxOf (CX1 P w) P w K mg base N qual scope f cd A outer s0 H0 E) fun _ cls H' => E cls none H' := by
  intro ok B a0 σ x cls H' s' fl hE
  have nd : ∀ b o, s0.heap.get? b = some o → b ∈ frs outer → ∀ vs, o.data ≠ .fields vs := fun b o e hb => by
    obtain ⟨_, o', e', d⟩ := ok.funs.mem (show b ∈ frs outer from hb)
    have e' : s0.heap.get? b = some o' := e'
    rw [e] at e'
    cases e'
    exact d
  have hst : frs (envOfC qual scope s0.heap.objs.size f cd :: outer) = s0.heap.objs.size :: frs outer := rfl
  have old : ∀ b o, s0.heap.get? b = some o → b ∉ frs outer → b ∉ frs (envOfC qual scope s0.heap.objs.size f cd :: outer) := fun b o e hb => by
    rw [hst]
    exact fun z => (List.mem_cons.mp z).elim (fun q => absurd (Heap.lt_size e) (by rw [q]; exact Nat.lt_irrefl _)) hb
  have nx : ∀ b, b ∉ (cxOf (CX1 P w) P w K mg base N qual scope f cd A outer s0 H0 E).ex := fun b z => nomatch z
  refine air_leaves (B := B) (L := s0.heap.objs.size) (a0 := a0) ok.frames rfl fl.air fun h2 hfl2 up => ?_
  refine ⟨x, cls, H', rfl, ⟨fl.os, fl.bare, ⟨B, a0, hfl2, fl.hok, fun b o e n hb => fl.k1 b o e n (old b o e hb) (nx b), fun b o e hb => fl.k2 b o e (old b o e hb) (nx b)⟩, fun b o e n hb => ?_, fun b o e n => fl.free b o e n (nx b), fl.tups, fl.frzs, fl.tbls, fl.new⟩, hE⟩
  obtain ⟨sl, e1⟩ := fl.slot b o e n (List.mem_cons_of_mem _ hb) (nx b)
  obtain ⟨sl2, e2⟩ := up b _ e1 (nd b o e hb)
  exact ⟨sl2, e2⟩
end
noncomputable def blkX (X : Cx) (W : Value → Hp → Prop) (N : List Str) (scope : Scope) (cl : List (Str × Addr)) (C : Addr) (s2 : Shared) (H2 : Hp) (fp : List Addr) : Cx :=
  { blk X N scope cl C s2 H2 fp with xe := fun e s' => ∃ x cls H' B a0 oC m, e = .ref x ∧ FlyB (blk X N scope cl C s2 H2 fp) B a0 x cls H' s' ∧ B.get? C = some oC ∧ B.Ns C m ∧ H' C = none ∧ W cls H' }
section
variable {X : Cx} {W : Value → Hp → Prop} {pins : List (Addr × Obj)} {σ : St} {H : Hp} {s : Shared} {x : Str} {fr : List Str} {N : List Str} {ix : List Nat} {scope : Scope} {cl : List (Str × Addr)} {fp : List Addr} {C D : Addr} {s2 : Shared} {H2 : Hp}
theorem Inv.toX (I : Inv (blk X N scope cl C s2 H2 fp) pins σ H s) : Inv (blkX X W N scope cl C s2 H2 fp) pins σ H s :=
  ⟨⟨I.ok.mod, I.ok.kind, I.ok.glob, I.ok.blt, I.ok.above, I.ok.inj, I.ok.has, I.ok.cab, I.ok.hd, I.ok.frames, I.ok.stk, I.ok.exf, I.ok.bs, I.ok.bsz, I.ok.noex, I.ok.exfs, I.ok.funs, I.ok.frf⟩, I.os, I.bare, I.base, I.loc, I.cell, I.free, I.freeC, I.pin, I.hok, I.len⟩
theorem Inv.ofX (I : Inv (blkX X W N scope cl C s2 H2 fp) pins σ H s) : Inv (blk X N scope cl C s2 H2 fp) pins σ H s :=
  ⟨⟨I.ok.mod, I.ok.kind, I.ok.glob, I.ok.blt, I.ok.above, I.ok.inj, I.ok.has, I.ok.cab, I.ok.hd, I.ok.frames, I.ok.stk, I.ok.exf, I.ok.bs, I.ok.bsz, I.ok.noex, I.ok.exfs, I.ok.funs, I.ok.frf⟩, I.os, I.bare, I.base, I.loc, I.cell, I.free, I.freeC, I.pin, I.hok, I.len⟩
theorem flX : Fl (blkX X W N scope cl C s2 H2 fp) fun _ cls H' => W cls H' := by
  intro pins σ H s x cls H' s' I fl hW
  obtain ⟨B, a0, fb, k1⟩ := Fly.toB I.ofX fl
  obtain ⟨m, hn, _⟩ := I.loc
  have hn : s.heap.Ns C m := hn
  have hC : C ∉ frs X.stack := fun z => by
    obtain ⟨_, o, e, _⟩ := I.ok.funs.mem z
    exact absurd (Nat.lt_of_lt_of_le (Heap.lt_size e) I.ok.above) (Nat.lt_irrefl _)
  obtain ⟨oC, eC⟩ : ∃ o, s.heap.get? C = some o := by obtain ⟨o, _, _, e, _⟩ := hn; exact ⟨o, e⟩
  have hB := k1 C oC eC I.free hC
  exact ⟨x, cls, H', B, a0, oC, m, rfl, fb, hB, hn.at' fun o e => by rw [eC] at e; cases e; exact hB, fl.free C oC eC I.free, hW⟩
theorem FlyB.over {B : Heap} {a0 : Value} {a : Addr} {cls : Value} {H' : Hp} {s' : Shared} (f : FlyB (blk X N scope cl C s2 H2 fp) B a0 a cls H' s') (I : Inv X pins σ H2 s2) (hf : ∀ b ∈ fp, FpOk X pins H2 b) : FlyB X B a0 a cls H' s' where
  os := f.os.trans I.os
  bare := f.bare
  air := f.air
  hok := f.hok
  k1 := fun b o e n hb hx => by
    have nb : b ∉ fp := fun z => by
      rcases (hf b z).2.2.2.1 with q | q
      · exact hx q
      · exact absurd (Nat.lt_of_lt_of_le (Heap.lt_size e) q) (Nat.lt_irrefl _)
    exact f.k1 b o (I.base.keep b o e n (fun z => hb ((I.ok.outer e).mpr z)) hx) (I.base.free b o e n hx) hb nb
  k2 := fun b o e hb hx => by
    have nb : b ∉ fp := fun z => by
      rcases (hf b z).2.2.2.1 with q | q
      · exact hx q
      · exact absurd (Nat.lt_of_lt_of_le (Heap.lt_size e) q) (Nat.lt_irrefl _)
    obtain ⟨o1, e1⟩ := I.base.there b o e hx
    exact f.k2 b o1 e1 hb nb
  slot := fun b o e n hb hx => by
    have nb : b ∉ fp := fun z => by
      rcases (hf b z).2.2.2.1 with q | q
      · exact hx q
      · exact absurd (Nat.lt_of_lt_of_le (Heap.lt_size e) q) (Nat.lt_irrefl _)
    obtain ⟨sl, e1⟩ := I.base.slot b o e n ((I.ok.outer e).mp hb) hx
    obtain ⟨sl2, e2⟩ := f.slot b _ e1 (I.base.free b o e n hx) hb nb
    exact ⟨sl2, e2⟩
  free := fun b o e n hx => by
    have nb : b ∉ fp := fun z => by
      rcases (hf b z).2.2.2.1 with q | q
      · exact hx q
      · exact absurd (Nat.lt_of_lt_of_le (Heap.lt_size e) q) (Nat.lt_irrefl _)
    obtain ⟨o1, e1⟩ := I.base.there b o e hx
    exact f.free b o1 e1 (I.base.free b o e n hx) nb
  tups := fun b xs e => f.tups b xs (I.base.tups b xs e)
  frzs := fun b o u e => f.frzs b o u (I.base.frzs b o u e)
  tbls := fun b ps e => by
    obtain ⟨m1, e1⟩ := I.base.tbls b ps e
    obtain ⟨m2, e2⟩ := f.tbls b _ e1
    exact ⟨m1 ++ m2, by rw [e2, Array.append_assoc]⟩
  new := f.new
theorem comp_flies {M : Model} {E : Value → Shared → Prop} {use : Option (Value → Sem Unit)} {Q : Value → Shared → Prop} {acc e : Value} {s' : Shared} {WX : XW} (hW : ∀ σ cls H', W cls H' → WX σ cls H') (fl : FlB X WX) (I : Inv X pins σ H2 s2) (hf : ∀ b ∈ fp, FpOk X pins H2 b) (hC : s2.heap.objs.size ≤ C)
    (hst : X.stack = X.env :: X.outer) (hfr : X.env.frame = some X.env.locals) (h : (blkX X W N scope cl C s2 H2 fp).xe e s') : wpAny M X.A (noteFrame e (compEnvC scope cl C X.env)) (fun _ s'' => compPost M X.A X.xe use Q acc C (.error e) s'') E s' := by
  obtain ⟨x, cls, H', B, a0, oC, m, rfl, fb, eC, hn, hn0, w⟩ := h
  have nd : ∀ b o, X.s₀.heap.get? b = some o → b ∈ frs X.stack → ∀ vs, o.data ≠ .fields vs := fun b o e hb => by
    obtain ⟨_, o', e', d⟩ := I.ok.funs.mem ((I.ok.outer e).mp hb)
    rw [e] at e'
    cases e'
    exact d
  show wpAny M X.A (noteFrame (.ref x) X.env) _ E s'
  have fa : Air B (X.env :: X.outer) x cls a0 s'.heap := by have := fb.air; rw [← hst]; exact this
  refine air_note (by rw [← hst]; exact I.ok.frames) hfr fa fun h1 a1 u1 => ?_
  have fo := fb.over I hf
  refine ⟨m, hn.at' fun o e => a1.1 C o e, fun h2 sb cenv _ => ?_⟩
  have a2 := a1.but eC sb
  have a2' := a2
  obtain ⟨_, _, _, fl2, oe, vs, T, oT, ts, he, hc, hd, h1', _⟩ := a2
  unfold PySem.passOn
  refine wpAny_bind (wpAny_field he hd h1' ?_)
  rw [if_neg (by simp)]
  refine wpAny_bind (air_flight (s := { s' with heap := h2 }) (fr := cenv.frame) a2' fun h3 a3 _ u3 => ?_)
  refine wpAny_throw (fl I.ok (PySem.W.hideAll B [C]) a0 σ x cls H' _ ?_ (hW _ _ _ w))
  have sC : ∀ b o, X.s₀.heap.get? b = some o → b ≠ C := fun b o e z => by
    have := Nat.lt_of_lt_of_le (Heap.lt_size e) I.sz
    rw [z] at this
    exact absurd (Nat.lt_of_lt_of_le this hC) (Nat.lt_irrefl _)
  have hC2 : s2.heap.get? C = none := by
    cases q : s2.heap.get? C with
    | none => rfl
    | some o => exact absurd (Nat.lt_of_lt_of_le (Heap.lt_size q) hC) (Nat.lt_irrefl _)
  have keep : ∀ {b o}, B.get? b = some o → b ≠ C → (PySem.W.hideAll B [C]).get? b = some o := fun {b o} e n => PySem.W.hideAll_get _ e fun z => n (List.mem_singleton.mp z)
  refine ⟨fo.os, fo.bare, by rw [hst]; exact a3, ?_, fun b o e n hb hx => keep (fo.k1 b o e n hb hx) (sC b o e), fun b o e hb hx => ?_, fun b o e n hb hx => ?_, fo.free, fo.tups, fo.frzs, fo.tbls, fo.new⟩
  · refine fun a o e => (fo.hok a o e).stay (fun b u hb q => keep q fun z => ?_) (fun _ q => q) fun _ _ q => q
    subst z
    rcases hb with hb | hb
    · rw [hb, e] at hn0; cases hn0
    · rw [hn0] at hb; cases hb
  · obtain ⟨o', e'⟩ := fo.k2 b o e hb hx
    exact ⟨o', keep e' (sC b o e)⟩
  · obtain ⟨sl, e1⟩ := fo.slot b o e n hb hx
    obtain ⟨sl1, e2⟩ := u1 b _ e1 (nd b o e hb)
    have e3 := (sb.2 b (sC b o e)).trans e2
    obtain ⟨sl3, e4⟩ := u3 b _ e3 (nd b o e hb)
    exact ⟨sl3, e4⟩
end
end L2
set_option Elab.async false
set_option linter.all false
set_option maxRecDepth 100000
namespace L2
open PySem PySem.Spec PyProof.Rows
theorem compLoop_ownX {prog : Program} {w : World} {A : Around} {R : Result → Shared → Prop} {EE : Value → Shared → Prop} {s : Shared} {elt tg it0 : Expr} {scope : Scope} {pos : Pos} {it acc : Value} {env : Env} (J : Nat → Shared → Prop)
    (hE : ∀ e s, EE e s → notedBy (model prog w) A env (fun x s' => R (.error x) s') e s)
    (turn : ∀ n s, J n s → wpAny (model prog w) A (pyNext it) (fun r s1 => match r with
      | none => R (.ok .next) s1
      | some v => wpAny (model prog w) A (letOwnedTupleGo tg it v) (fun _ s2 => wpAny (model prog w) A (assign tg env v) (fun _ s3 => wpAny (model prog w) A (eval elt env) (fun x s5 =>
              wpAny (model prog w) A (call (.builtin "list.append") [acc, x]) (fun _ s6 => ∃ m, m < n ∧ J m s6) (fun _ _ => False) s5) EE s3) (fun _ _ => False) s2) (fun _ _ => False) s1) (fun _ _ => False) s)
    (n : Nat) (h : J n s) : codeAny (model prog w) A (.compLoop (.ListComp elt [⟨tg, it0, [], 0⟩] scope pos) 0 it acc env) R s := by
  have up : ∀ {α : Type} {t : Sem α} {q q' : α → Shared → Prop} {E' : Value → Shared → Prop} {s : Shared}, wpAny (model prog w) A t q (fun _ _ => False) s → (∀ a s, q a s → q' a s) → wpAny (model prog w) A t q' E' s := fun h k => wpAny_mono h k fun _ _ z => False.elim z
  refine codeAny_loop rfl J (fun n s hJ => ?_) n h
  show wpAny _ A ((compTurn (.ListComp elt [⟨tg, it0, [], 0⟩] scope pos) 0 it acc env).onRaise (fun x => do noteFrame x env; theTreesLotGoes x)) _ _ s
  refine wpAny_noted ?_
  rw [compTurn_list]
  refine wpAny_bind (wpAny_standAt (wpAny_bind (up (turn n s hJ) fun r s1 h1 => ?_)))
  cases r with
  | none => exact wpAny_pure h1
  | some v =>
    refine wpAny_bind (up h1 fun _ s2 h2 => wpAny_bind (up h2 fun _ s3 h3 => wpAny_bind (wpAny_tests_nil ?_)))
    refine wpAny_bind (wpAny_bind (wpAny_mono h3 (fun x s5 h5 => wpAny_bind (up h5 fun _ s6 h6 => wpAny_pure (wpAny_pure ⟨rfl, h6⟩))) hE))
section
variable {X : Cx} {W : Value → Hp → Prop} {WX : XW} {x : Str} {fr : List Str} {ix : List Nat} {scope : Scope} {elt iter : Expr} {px pos : Pos} {wi : TI} {te : TE}
theorem comp_runX {use : Option (Value → Sem Unit)} {Q : Value → Shared → Prop} {pins : List (Addr × Obj)} {s2 : Shared} {σ : St} {H2 : Hp} {it : Addr} {fp : List Addr} {tn : Nat → Heap → Prop} {J : It} {cl : List (Str × Addr)} (S : CompScope X.env.scope X.N x fr ix scope) (hc : X.calm = true)
    (fl : FlB X WX) (hst : X.stack = X.env :: X.outer) (hfr : X.env.frame = some X.env.locals) (hW : ∀ σ cls H', W cls H' → WX σ cls H') (he : ∀ cl C s2 H2 fp, PE (blkX X W (x :: fr) scope cl C s2 H2 fp) elt te)
    (h1 : ∀ y c, cl.lookup y = some c → X.env.cells.lookup y = some c) (h2 : ∀ y, (y, NameKind.free) ∈ scope.names → ∃ c, cl.lookup y = some c)
    (I2 : Inv X pins σ H2 s2) (T : Turn X.prog X.w X.K (.Name x px) J fp it tn) (st2 : tn 0 s2.heap) (f2 : ∀ b ∈ fp, FpOk X pins H2 b) {fin : List V → Hp → Prop} (wc : wComp J (cap ix σ) (fun _ H Q => Q true H) te H2 fin)
    (hQ : ∀ (D C : Addr) (ys : List V) (H' : Hp) (s' : Shared) (m : Str → Option Value), Inv X pins σ (upd H' D (.lst ys)) s' → H' D = none → s'.heap.Ns C m → D ≠ C → s2.heap.objs.size ≤ C → H' C = none → fin ys H' →
      compPost (model X.prog X.w) X.A X.xe use Q (.ref D) C (.ok .next) s') :
    wpAny (model X.prog X.w) X.A (newList []) (fun acc s₃ => wpAny (model X.prog X.w) X.A (newFunctionEnv scope X.env.globals cl [] X.env.qual none .none (some X.env)) (fun cenv s₄ =>
      codeAny (model X.prog X.w) X.A (.compStart (.ListComp elt [⟨.Name x px, iter, [], 0⟩] scope pos) 0 (.ref it) acc { cenv with scope := relabel scope X.env }) (compPost (model X.prog X.w) X.A X.xe use Q acc cenv.locals) s₄) X.xe s₃) X.xe s2 := by
  have hfo : ∀ b ∈ fp, b < s2.heap.objs.size := fun b hb => by
    obtain ⟨o, e, _⟩ := T.obj 0 _ st2 b hb
    exact Heap.lt_size e
  refine wpAny_newObj_type (wpAny_newFunctionEnv S.nocell (by intro y hy; simp at hy) (fun h₁ hns₁ hsb₁ => ?_) S.kind)
  dsimp only at hns₁ hsb₁ ⊢
  generalize hHp : s2.heap.push { cls := .type "list", dict := none, data := .seq ([] : List Value).toArray } = Hp2 at hns₁ hsb₁ ⊢
  have hCs : Hp2.objs.size = s2.heap.objs.size + 1 := by rw [← hHp, Heap.size_push]
  have hDC : s2.heap.objs.size ≠ Hp2.objs.size := by rw [hCs]; exact Nat.ne_of_lt (Nat.lt_succ_self _)
  have hCle : s2.heap.objs.size ≤ Hp2.objs.size := by rw [hCs]; exact Nat.le_succ _
  have below : ∀ b, b < s2.heap.objs.size → b ≠ Hp2.objs.size := fun b hb => by rw [hCs]; exact Nat.ne_of_lt (Nat.lt_succ_of_lt hb)
  have old : ∀ b o, s2.heap.get? b = some o → h₁.get? b = some o := fun b o e => hsb₁.extBut b o (below b (Heap.lt_size e)) (Heap.get?_push_of_some _ (hHp ▸ Heap.get?_push_of_some _ e))
  have hacc : h₁.get? s2.heap.objs.size = some { cls := .type "list", data := .seq ([] : List Value).toArray 0 } := hsb₁.extBut _ _ hDC (Heap.get?_push_of_some _ (hHp ▸ Heap.get?_push_size _ rfl))
  have st1 : tn 0 h₁ := T.keep 0 _ _ st2 fun b _ o e => old b o e
  have fpD : ∀ b ∈ fp, b ≠ s2.heap.objs.size := fun b hb => Nat.ne_of_lt (hfo b hb)
  generalize hD : s2.heap.objs.size = D at hacc hDC fpD ⊢
  have hDle : s2.heap.objs.size ≤ D := Nat.le_of_eq hD
  generalize hC : Hp2.objs.size = C at hns₁ hsb₁ hDC hCle ⊢
  have oldD : ∀ b o, s2.heap.get? b = some o → b ≠ D := fun b o e z => absurd (Heap.lt_size e) (by rw [z, ← hD]; exact Nat.lt_irrefl _)
  obtain ⟨Wt, ⟨m0, w0⟩, turn⟩ := wc
  have loop : ∀ s₃ : Shared, s₃ = { s2 with heap := h₁, toks := s2.toks + ([] : List (Str × Value)).length } →
      codeAny (model X.prog X.w) X.A (.compLoop (.ListComp elt [⟨.Name x px, iter, [], 0⟩] scope pos) 0 (.ref it) (.ref D) (compEnvC scope cl C X.env))
        (compPost (model X.prog X.w) X.A X.xe use Q (.ref D) C) s₃ := by
    rintro s₃ rfl
    have I0 : Inv (blkX X W (x :: fr) scope cl C s2 H2 fp) [(D, { cls := .type "list", data := .seq ([] : List Value).toArray 0 })] (none :: cap ix σ) H2 { s2 with heap := h₁, toks := s2.toks + ([] : List (Str × Value)).length } :=
      Inv.toX <| blk_inv S I2 f2 hfo hCle h1 h2 rfl rfl old hns₁ (fun p hp => by
        have e : p = (D, { cls := .type "list", data := .seq ([] : List Value).toArray 0 }) := by simpa using hp
        subst e
        exact ⟨hacc, hDle, hDC, fun v z => by cases z⟩)
    have stat : ∀ {its : Obj} {H' : Hp}, (∀ b ∈ fp, H' b = none) → ∀ b ∈ fp, FpOk (blkX X W (x :: fr) scope cl C s2 H2 fp) [(D, its)] H' b := fun {its H'} hn b hb => by
      refine ⟨hn b hb, fun z => ?_, fun z => (I0.ok.exfs b hb z), .inl hb, fun y c e => (I0.ok.exf b hb).2 y c e, fun p hp z => ?_⟩
      · exact (I0.ok.exf b hb).1 z
      · have e : p = (D, its) := by simpa [blkX, blk] using hp
        subst e
        exact fpD b hb (Eq.symm z)
    refine compLoop_ownX (env := compEnvC scope cl C X.env) (EE := (blkX X W (x :: fr) scope cl C s2 H2 fp).xe)
      (fun n s' => ∃ i ys its k v0 H', Vals ys its ∧ Inv (blkX X W (x :: fr) scope cl C s2 H2 fp) [(D, { cls := .type "list", data := .seq its.toArray k })] (v0 :: cap ix σ) H' s' ∧ tn i s'.heap ∧ (∀ b ∈ fp, H' b = none) ∧ Wt i n ys H') (fun e s' q => comp_flies (σ := σ) hW fl I2 f2 hCle hst hfr q) ?_ m0
      ⟨0, [], [], 0, none, H2, .nil, I0, st1, fun b hb => (f2 b hb).1, w0⟩
    rintro n s3 ⟨i, ys, its, k, v0, H3, rv, I3, st3, fr3, w3⟩
    rcases turn i n ys H3 w3 with ⟨stop, hz, hfin⟩ | ⟨go, hz, N, hN, step⟩
    · refine thn (T.done (blkX X W (x :: fr) scope cl C s2 H2 fp) rfl rfl rfl hc i _ s3 _ H3 _ I3 (stat fr3) st3 stop) fun r s4 ⟨hr, I4⟩ => ?_
      subst hr
      have pD := I4.pin (D, { cls := .type "list", data := .seq its.toArray k }) (by simp [blkX, blk])
      obtain ⟨mC, hnC, _⟩ := I4.loc
      have hH3D : H3 D = none := pD.2.1
      have hok' : HOk X.prog X.w (upd H3 D (.lst ys)) s4.heap := fun b u e => by
        by_cases hb : b = D
        · subst hb
          rw [upd_same] at e; cases e
          exact ⟨hz, its, k, rv, pD.1⟩
        · rw [upd_ne hb] at e
          exact (I4.hok b u e).stay (fun c v _ q => q) (fun c q => by rw [upd_ne (ne_of_none q hH3D)]; exact q) fun c xs q => by rw [upd_ne (ne_of_none q hH3D)]; exact q
      have b4 : Un (frs X.stack) fp H2 H3 s2.heap s4.heap := I4.base
      have un : Un (frs X.stack) fp H2 (upd H3 D (.lst ys)) s2.heap s4.heap :=
        ⟨b4.keep, b4.slot, fun b o q n hx => by
          rw [upd_ne (oldD b o q)]; exact b4.free b o q n hx, b4.there, fun b xs q => by rw [upd_ne (ne_of_none (b4.tups b xs q) hH3D)]; exact b4.tups b xs q,
          fun b o u q => by rw [upd_ne (ne_of_none (b4.frzs b o u q) hH3D)]; exact b4.frzs b o u q, fun b ps q => by
            obtain ⟨more, e⟩ := b4.tbls b ps q
            exact ⟨more, by rw [upd_ne (ne_of_none e hH3D)]; exact e⟩⟩
      have I5 : Inv X pins σ (upd H3 D (.lst ys)) s4 := I2.call' (ch := fp) I4.os un hok' I4.bare fun b hb => by
        obtain ⟨g0, g1, g2, g3, g4, g5⟩ := f2 b hb
        exact ⟨g3, g1, g4, g5⟩
      exact hQ D C ys H3 s4 mC I5 hH3D hnC hDC hCle I4.free hfin
    · refine thn (T.item (blkX X W (x :: fr) scope cl C s2 H2 fp) rfl rfl rfl hc i _ s3 _ H3 _ I3 (stat fr3) st3 go) fun r s4 ⟨u, hr, h4⟩ => ?_
      subst hr
      refine thn h4 fun _ s5 ⟨y, H5, I5, r5, y5, st5, fr5⟩ => ?_
      have I5' := I5.pinned (stat fr5) (T.obj _ _ st5)
      have pg : PG (blk X (x :: fr) scope cl C s2 H2 fp) (.Name x px) (gName 0) := pg_name S.nd rfl (.inl (lookup_relabel_local S.lx)) (.inr (lookup_relabel_local S.lx))
      refine thn (pg _ s5 _ H5 y u (fun σ6 H6 => σ6 = some y :: cap ix σ ∧ H6 = H5) I5'.ofX r5 ⟨rfl, rfl⟩) fun _ s6 ⟨σ6, H6, I6', e6, e6'⟩ => ?_
      subst e6 e6'
      have I6 := Inv.toX (W := W) I6'
      have again : ∀ {s8 : Shared} {H8 : Hp} {its' : List Value} {k' : Nat} {ys' : List V}, Vals ys' its' → Inv (blkX X W (x :: fr) scope cl C s2 H2 fp) [(D, { cls := .type "list", data := .seq its'.toArray k' })] (some y :: cap ix σ) H8 s8 → (∀ b ∈ fp, ∀ o, s5.heap.get? b = some o → s8.heap.get? b = some o) → (∀ b ∈ fp, H8 b = none) → N ys' H8 →
          ∃ m, m < n ∧ ∃ i ys its k v0 H', Vals ys its ∧ Inv (blkX X W (x :: fr) scope cl C s2 H2 fp) [(D, { cls := .type "list", data := .seq its.toArray k })] (v0 :: cap ix σ) H' s8 ∧ tn i s8.heap ∧ (∀ b ∈ fp, H' b = none) ∧ Wt i m ys H' :=
        fun {s8 H8 its' k' ys'} rv8 I8 kp fr8 nn => let ⟨m', hm, w8⟩ := hN ys' H8 nn; ⟨m', hm, i + 1, ys', its', k', some y, H8, rv8, I8, T.keep _ _ _ st5 kp, fr8, w8⟩
      refine thn (he cl C s2 H2 fp _ s6 _ _ _ I6 (step y _ y5)) fun v s8 ⟨z, H8, I8, r8, q8⟩ => ?_
      have pD := I8.pin (D, { cls := .type "list", data := .seq its.toArray k }) (by simp [blkX, blk])
      have hvl : ys.length = its.length := rv.length
      refine append_at (hsz := by show its.toArray.size ≤ sizeLine; rw [List.size_toArray]; omega) pD.1 fun h₉ hs₉ hD₉ => ?_
      have eo : ({ cls := .type "list", data := .seq (its.toArray.push v) (k + 1) } : Obj) = { cls := .type "list", data := .seq (its ++ [v]).toArray (k + 1) } := by rw [List.push_toArray]
      rw [eo] at hD₉
      have pn8 : ∀ b ∈ fp, ∀ o, s5.heap.get? b = some o → s8.heap.get? b = some o ∧ H8 b = none := fun b hb o e => by
        have q := I8.pin (b, o) (by simp [blkX, blk]; exact .inr (mem_pinsAt hb e))
        exact ⟨q.1, q.2.1⟩
      have J8 := I8.unpinned.pins_of (pins' := []) (fun p hp => by cases hp)
      have f2D : FpOk (blkX X W (x :: fr) scope cl C s2 H2 fp) [] H8 D := ⟨pD.2.1, pD.2.2.1, pD.2.2.2.1, .inr hDle, fun y c e z => by
          obtain ⟨v, o, ho, _⟩ := I2.cell y c (h1 y c e)
          exact oldD c o ho z, fun p hp => by cases hp⟩
      have I9 : Inv (blkX X W (x :: fr) scope cl C s2 H2 fp) [] (some y :: cap ix σ) H8 { s8 with heap := h₉ } := J8.turned (t' := s8.toks) (it := D) (fun b o hb e => (hs₉.2 b hb).trans e) f2D.1 f2D.2.1 f2D.2.2.2.1 f2D.2.2.2.2.1 f2D.2.2.2.2.2
      refine again (its' := its ++ [v]) (k' := k + 1) (ys' := ys ++ [z]) (rv.append (.cons r8 .nil)) (I9.pins_of fun p hp => ?_) (fun b hb o e => (hs₉.2 b (fpD b hb)).trans (pn8 b hb o e).1) (fun b hb => ?_) q8
      · have e : p = (D, { cls := .type "list", data := .seq (its ++ [v]).toArray (k + 1) }) := by simpa using hp
        subst e
        exact ⟨hD₉, f2D.1, f2D.2.1, f2D.2.2.1, fun v z => by cases z⟩
      · obtain ⟨o, e, d⟩ := T.obj _ _ st5 b hb
        exact (pn8 b hb o e).2
  exact codeAny_compStart_list (loop _ rfl) (T.self X.A 0 _ _ _ st1 (loop _ rfl))
theorem pe_compX (S : CompScope X.env.scope X.N x fr ix scope) (hc : X.calm = true) (fl : FlB X WX) (hst : X.stack = X.env :: X.outer) (hfr : X.env.frame = some X.env.locals) (hW : ∀ σ cls H', W cls H' → WX σ cls H')
    (hi : PI X (.Name x px) iter wi) (he : ∀ cl C s2 H2 fp, PE (blkX X W (x :: fr) scope cl C s2 H2 fp) elt te)
    (hs : ∀ x, foldedSetIterable iter X.env x = pure x := by intro _; rfl) : PE X (.ListComp elt [⟨.Name x px, iter, [], 0⟩] scope pos) (tComp ix wi tYes te) := by
  intro pins s σ H Q I h
  obtain ⟨cl, ecl, h1, h2⟩ := closure_ok (env := X.env) (scope := scope) fun y hy hf => I.ok.has y.1 (S.free y hy hf)
  rw [eval_ListComp]
  refine wpAny_comprehension_free (use := none) rfl hs ecl S.kind S.lcl (thn (hi pins s σ H _ I h) fun xv s1 q1 => thn q1 fun itv s2 q2 => ?_)
  obtain ⟨it, fp, tn, J, H2, rfl, I2, T, st2, f2, wc⟩ := q2
  refine comp_runX S hc fl hst hfr hW he h1 h2 I2 T st2 f2 wc fun D C ys H' s' m I' hD hn hDC hC hHC fin => ?_
  refine ⟨m, hn, fun h' sb => ⟨.ref D, upd H' D (.lst ys), ?_, rfl, fin D hD⟩⟩
  have hcf : FpOk X pins (upd H' D (.lst ys)) C := I2.fpOk (H' := upd H' D (.lst ys)) hC (by rw [upd_ne (Ne.symm hDC)]; exact hHC)
  exact I'.turned (t' := s'.toks) (it := C) (fun b o hb e => (sb.2 b hb).trans e) hcf.1 hcf.2.1 hcf.2.2.2.1 hcf.2.2.2.2.1 hcf.2.2.2.2.2
end
end L2
set_option Elab.async false
set_option linter.all false
set_option maxRecDepth 100000
namespace L2
open PySem PySem.Spec PyProof.Rows

structure CompN (sc scope : Scope) : Prop where
  kind : scope.kind = .function
  lcl : ∀ y ∈ scope.names, y.2 = .local → scope.names.lookup y.1 = some .local
  free : ∀ y ∈ scope.names, y.2 = .free → sc.names.lookup y.1 = some .cell ∨ sc.names.lookup y.1 = some .free
noncomputable def tCompN (te : TE) : TE := fun σ H _ => te σ H fun _ _ => False
theorem pe_compN {X : Cx} {scope : Scope} {elt iter tg : Expr} {ifs : List Expr} {pos : Pos} {te : TE} (S : CompN X.env.scope scope) (hi : PE X iter te) (hs : ∀ x, foldedSetIterable iter X.env x = pure x := by intro _; rfl) :
    PE X (.ListComp elt [⟨tg, iter, ifs, 0⟩] scope pos) (tCompN te) := by
  intro pins s σ H Q I h
  obtain ⟨cl, ecl, _, _⟩ := closure_ok (env := X.env) (scope := scope) fun y hy hf => I.ok.has y.1 (S.free y hy hf)
  rw [eval_ListComp]
  exact wpAny_comprehension_free (use := none) rfl hs ecl S.kind S.lcl (thn (hi pins s σ H _ I h) fun xv s1 ⟨_, _, _, _, z⟩ => z.elim)
end L2
namespace L2
open PySem PySem.Spec PyProof.Rows

section
variable {κ : Type} [DecidableEq κ]
noncomputable def valV (kvs : List (κ × V)) (k : κ) : Option V := (kvs.find? fun kv => decide (kv.1 = k)).map (·.2)
noncomputable def putK (kvs : List (κ × V)) (k : κ) (v : V) : List (κ × V) :=
  if (kvs.any fun kv => decide (kv.1 = k)) = true then kvs.map (fun kv => if kv.1 = k then (kv.1, v) else kv) else kvs ++ [(k, v)]
theorem valV_pos {p : κ × V} {r : List (κ × V)} {k : κ} (e : p.1 = k) : valV (p :: r) k = some p.2 := by simp [valV, List.find?_cons, e]
theorem valV_neg {p : κ × V} {r : List (κ × V)} {k : κ} (e : ¬ p.1 = k) : valV (p :: r) k = valV r k := by simp [valV, List.find?_cons, e]
theorem valV_any (k : κ) : ∀ kvs : List (κ × V), (kvs.any fun kv => decide (kv.1 = k)) = (valV kvs k).isSome
  | [] => rfl
  | p :: r => by
    rw [List.any_cons]
    by_cases e : p.1 = k
    · simp only [valV_pos e, decide_eq_true e, Bool.true_or, Option.isSome_some]
    · rw [valV_neg e, decide_eq_false e, Bool.false_or]; exact valV_any k r
theorem valV_map (k j : κ) (y : V) : ∀ kvs : List (κ × V), valV (kvs.map fun kv => if kv.1 = k then (kv.1, y) else kv) j = (valV kvs j).map fun x => if j = k then y else x
  | [] => rfl
  | p :: r => by
    have ih := valV_map k j y r
    rw [List.map_cons]
    by_cases h : p.1 = k
    · rw [if_pos h]
      by_cases e : p.1 = j
      · rw [valV_pos (p := (p.1, y)) e, valV_pos e, Option.map_some, if_pos (e.symm.trans h)]
      · rw [valV_neg (p := (p.1, y)) e, valV_neg e, ih]
    · rw [if_neg h]
      by_cases e : p.1 = j
      · rw [valV_pos (p := p) e, valV_pos e, Option.map_some, if_neg (fun z => h (e.trans z))]
      · rw [valV_neg (p := p) e, valV_neg e, ih]
theorem valV_snoc (k j : κ) (y : V) : ∀ kvs : List (κ × V), valV kvs k = none → valV (kvs ++ [(k, y)]) j = if j = k then some y else valV kvs j
  | [], _ => by
    by_cases e : k = j
    · rw [if_pos e.symm]; exact valV_pos (p := (k, y)) e
    · rw [if_neg (fun z => e z.symm)]; exact valV_neg (p := (k, y)) e
  | p :: r, hn => by
    rw [List.cons_append]
    have hk : ¬ p.1 = k := fun z => by rw [valV_pos z] at hn; cases hn
    rw [valV_neg hk] at hn
    have ih := valV_snoc k j y r hn
    by_cases e : p.1 = j
    · rw [valV_pos e, valV_pos e, if_neg (fun z => hk (e.trans z))]
    · rw [valV_neg e, valV_neg e, ih]
theorem valV_put (kvs : List (κ × V)) (k j : κ) (y : V) : valV (putK kvs k y) j = if j = k then some y else valV kvs j := by
  unfold putK
  by_cases a : (kvs.any fun kv => decide (kv.1 = k)) = true
  · rw [if_pos a, valV_map]
    rw [valV_any] at a
    by_cases e : j = k
    · obtain ⟨x, hx⟩ := Option.isSome_iff_exists.mp a
      rw [if_pos e, e, hx, Option.map_some, if_pos rfl]
    · rw [if_neg e]
      cases valV kvs j with
      | none => rfl
      | some x => rw [Option.map_some, if_neg e]
  · rw [if_neg a]
    refine valV_snoc k j y kvs ?_
    rw [valV_any] at a
    cases q : valV kvs k with
    | none => rfl
    | some x => rw [q] at a; exact (a rfl).elim
theorem length_putK (kvs : List (κ × V)) (k : κ) (v : V) : (putK kvs k v).length ≤ kvs.length + 1 := by
  unfold putK
  split
  · rw [List.length_map]; omega
  · rw [List.length_append, List.length_cons, List.length_nil]; omega
theorem RelO.isSome_eq {o : Option V} {u : Option Value} (r : RelO o u) : o.isSome = u.isSome := by
  cases o with
  | none => cases u with
    | none => rfl
    | some _ => exact (show False from r).elim
  | some _ => cases u with
    | none => exact (show False from r).elim
    | some _ => rfl
theorem KV.val {kvs : List (κ × V)} {vs : List (κ × Value)} (r : KV kvs vs) (k : κ) : RelO (valV kvs k) (valueAt vs k) := by
  unfold KV at r
  induction r with
  | nil => exact True.intro
  | @cons p q ps qs h t ih =>
    obtain ⟨h1, h2⟩ := h
    by_cases e : p.1 = k
    · have e' : q.1 = k := h1.symm.trans e
      have b : valueAt (q :: qs) k = some q.2 := by simp [valueAt, List.find?_cons, e']
      rw [valV_pos e, b]; exact h2
    · have e' : ¬ q.1 = k := fun z => e (h1.trans z)
      have b : valueAt (q :: qs) k = valueAt qs k := by simp [valueAt, List.find?_cons, e']
      rw [valV_neg e, b]; exact ih
theorem KV.any {kvs : List (κ × V)} {vs : List (κ × Value)} (r : KV kvs vs) (k : κ) : (kvs.any fun kv => decide (kv.1 = k)) = vs.any fun kv => decide (kv.1 = k) := by
  unfold KV at r
  induction r with
  | nil => rfl
  | cons h t ih => rw [List.any_cons, List.any_cons, ih, h.1]
theorem KV.repl {kvs : List (κ × V)} {vs : List (κ × Value)} (r : KV kvs vs) (k : κ) {y : V} {u : Value} (ry : RelV y u) :
    KV (kvs.map fun kv => if kv.1 = k then (kv.1, y) else kv) (vs.map fun kv => if kv.1 = k then (kv.1, u) else kv) := by
  unfold KV at r ⊢
  induction r with
  | nil => exact .nil
  | @cons p q ps qs h t ih =>
    rw [List.map_cons, List.map_cons]
    refine .cons ?_ ih
    obtain ⟨h1, h2⟩ := h
    by_cases e : p.1 = k
    · rw [if_pos e, if_pos (h1.symm.trans e)]; exact ⟨h1, ry⟩
    · rw [if_neg e, if_neg (fun z => e (h1.trans z))]; exact ⟨h1, h2⟩
theorem KV.put {kvs : List (κ × V)} {vs : List (κ × Value)} (r : KV kvs vs) (k : κ) {y : V} {u : Value} (ry : RelV y u) : KV (putK kvs k y) (stored vs k u) := by
  unfold putK stored
  rw [r.any k]
  by_cases e : (vs.any fun kv => decide (kv.1 = k)) = true
  · rw [if_pos e, if_pos e]; exact r.repl k ry
  · rw [if_neg e, if_neg e]; exact Paired.snoc r ⟨rfl, ry⟩
theorem KV.length {kvs : List (κ × V)} {vs : List (κ × Value)} (r : KV kvs vs) : kvs.length = vs.length := Paired.length r
end

theorem kV_is {P : Program} {w : World} {k : Key} {u : Value} (r : RelV (kV k) u) : (mixKind P w).is k u = true := by
  cases k with
  | inl i => obtain ⟨t, e⟩ := (show ∃ t, u = Value.int i t from r); subst e; exact mixKind_int P w i t
  | inr x => obtain ⟨t, e⟩ := (show ∃ t, u = Value.str x t from r); subst e; exact mixKind_str P w x t
theorem items_are {P : Program} {w : World} : ∀ {ks : List Key} {us : List Value}, Vals (ks.map kV) us → ItemsAre (mixKind P w) ks us
  | [], _, r => by rw [List.map_nil] at r; cases r; exact .nil
  | k :: ks, _, r => by
    rw [List.map_cons] at r
    cases r with
    | cons h t => exact .cons (kV_is h) (items_are t)
noncomputable abbrev KT (H : Hp) : List (List Key × V) → List (List Key × Addr × Value) → Prop := Paired fun p q => p.1 = q.1 ∧ H q.2.1 = some (.tup (p.1.map kV)) ∧ RelV p.2 q.2.2
theorem KT.val {H : Hp} {kvs : List (List Key × V)} {xs : List (List Key × Addr × Value)} (r : KT H kvs xs) (k : List Key) : RelO (valV kvs k) ((atKey xs k).map (·.2)) := by
  induction r with
  | nil => exact True.intro
  | @cons p q ps qs h t ih =>
    obtain ⟨h1, _, h2⟩ := h
    by_cases e : p.1 = k
    · have e' : q.1 = k := h1.symm.trans e
      have b : atKey (q :: qs) k = some q.2 := by simp [atKey, List.find?_cons, e']
      rw [valV_pos e, b]; exact h2
    · have e' : ¬ q.1 = k := fun z => e (h1.trans z)
      have b : atKey (q :: qs) k = atKey qs k := by simp [atKey, List.find?_cons, e']
      rw [valV_neg e, b]; exact ih
theorem KT.repl {H : Hp} {kvs : List (List Key × V)} {xs : List (List Key × Addr × Value)} (r : KT H kvs xs) (k : List Key) {y : V} {u : Value} (ry : RelV y u) :
    KT H (kvs.map fun kv => if kv.1 = k then (kv.1, y) else kv) (xs.map (putAt k u)) := by
  induction r with
  | nil => exact .nil
  | @cons p q ps qs h t ih =>
    rw [List.map_cons, List.map_cons]
    refine .cons ?_ ih
    obtain ⟨h1, h2, h3⟩ := h
    unfold putAt
    by_cases e : p.1 = k
    · rw [if_pos e, if_pos (h1.symm.trans e)]; exact ⟨h1, h2, ry⟩
    · rw [if_neg e, if_neg (fun z => e (h1.trans z))]; exact ⟨h1, h2, h3⟩
theorem KT.put {H : Hp} {kvs : List (List Key × V)} {xs : List (List Key × Addr × Value)} (r : KT H kvs xs) (k : List Key) {b : Addr} {y : V} {u : Value} (hb : H b = some (.tup (k.map kV))) (ry : RelV y u) :
    KT H (putK kvs k y) (storedH xs k b u) := by
  have e : (kvs.any fun kv => decide (kv.1 = k)) = (atKey xs k).isSome := by
    rw [valV_any, (r.val k).isSome_eq, Option.isSome_map]
  unfold putK storedH
  rw [e]
  by_cases q : (atKey xs k).isSome = true
  · rw [if_pos q, if_pos q]; exact r.repl k ry
  · rw [if_neg q, if_neg q]; exact Paired.snoc r ⟨rfl, hb, ry⟩
theorem KT.keeps {H H' : Hp} {kvs : List (List Key × V)} {xs : List (List Key × Addr × Value)} (r : KT H kvs xs) (ht : ∀ b ys, H b = some (.tup ys) → H' b = some (.tup ys)) : KT H' kvs xs :=
  Paired.mapP r fun _ _ z => ⟨z.1, ht _ _ z.2.1, z.2.2⟩
section
variable {P : Program} {w : World} {H : Hp} {h : Heap} {a : Addr}
theorem rd_of {u : HO} (ok : HOk P w H h) (e : Rd H a u) : ObjOk P w H h a u := e.ok ok
theorem dk_rd {kvs : List (Key × V)} (ok : HOk P w H h) (e : Rd H a (.dK kvs)) : kvs.length ≤ sizeLine ∧ (a == sysModules) = false ∧ ∃ vs, KV kvs vs ∧ h.DictOf (mixKind P w) a vs :=
  show ObjOk P w H h a (.dK kvs) from rd_of ok e
theorem dk_of {kvs : List (Key × V)} (ok : HOk P w H h) (e : H a = some (.dK kvs)) : kvs.length ≤ sizeLine ∧ (a == sysModules) = false ∧ ∃ vs, KV kvs vs ∧ h.DictOf (mixKind P w) a vs := dk_rd ok (.inl e)
theorem key_of {ks : List Key} (ok : HOk P w H h) (e : H a = some (.tup (ks.map kV))) : (tupleKind (mixKind P w)).is h ks a := by
  obtain ⟨_, its, r, o, h1, h2, n, h3⟩ := (show ObjOk P w H h a (.tup (ks.map kV)) from ok a _ e)
  exact ⟨o, its.toArray, n, h1, h2, h3, by simpa using items_are r⟩
theorem dt_rd {kvs : List (List Key × V)} (ok : HOk P w H h) (e : Rd H a (.dT kvs)) : kvs.length ≤ sizeLine ∧ (a == sysModules) = false ∧
    ∃ xs, KT H kvs xs ∧ h.DictOfH (tupleKind (mixKind P w)) a xs := by
  obtain ⟨z, y, xs, r, o, es, ep, h1, h2, h3, h4, h5⟩ := (show ObjOk P w H h a (.dT kvs) from rd_of ok e)
  refine ⟨z, y, xs, r, o, es, ep, h1, h2, h3, h4, fun x hx => ?_, h5⟩
  have all : ∀ {l : List (List Key × V)} {m : List (List Key × Addr × Value)}, KT H l m → ∀ x ∈ m, (tupleKind (mixKind P w)).is h x.1 x.2.1 := by
    intro l m q
    induction q with
    | nil => intro x hx; exact nomatch hx
    | @cons p q ps qs hq t ih =>
      intro x hx
      rcases List.mem_cons.mp hx with e | hx
      · subst e
        exact key_of ok (by rw [← hq.1]; exact hq.2.1)
      · exact ih x hx
  exact all r x hx
theorem dt_of {kvs : List (List Key × V)} (ok : HOk P w H h) (e : H a = some (.dT kvs)) : kvs.length ≤ sizeLine ∧ (a == sysModules) = false ∧
    ∃ xs, KT H kvs xs ∧ h.DictOfH (tupleKind (mixKind P w)) a xs := dt_rd ok (.inl e)
end
noncomputable def DGet (H : Hp) (a : Addr) (y : V) (r : Option V) : Prop :=
  (∃ kvs k, Rd H a (.dK kvs) ∧ y = kV k ∧ r = valV kvs k) ∨ ∃ kvs k b, Rd H a (.dT kvs) ∧ y = .ref b ∧ H b = some (.tup (k.map kV)) ∧ r = valV kvs k
noncomputable def DPut (H : Hp) (a : Addr) (y v : V) (H' : Hp) : Prop :=
  (∃ kvs k, H a = some (.dK kvs) ∧ y = kV k ∧ kvs.length < sizeLine ∧ H' = upd H a (.dK (putK kvs k v))) ∨
  ∃ kvs k b, H a = some (.dT kvs) ∧ y = .ref b ∧ H b = some (.tup (k.map kV)) ∧ kvs.length < sizeLine ∧ H' = upd H a (.dT (putK kvs k v))
theorem DGet.k {H : Hp} {a : Addr} {kvs : List (Key × V)} {k : Key} (e : H a = some (.dK kvs)) : DGet H a (kV k) (valV kvs k) := .inl ⟨kvs, k, .inl e, rfl, rfl⟩
theorem DGet.t {H : Hp} {a b : Addr} {kvs : List (List Key × V)} {k : List Key} (e : H a = some (.dT kvs)) (eb : H b = some (.tup (k.map kV))) : DGet H a (.ref b) (valV kvs k) := .inr ⟨kvs, k, b, .inl e, rfl, eb, rfl⟩
theorem DPut.k {H : Hp} {a : Addr} {kvs : List (Key × V)} {k : Key} {v : V} (e : H a = some (.dK kvs)) (hl : kvs.length < sizeLine) : DPut H a (kV k) v (upd H a (.dK (putK kvs k v))) := .inl ⟨kvs, k, e, rfl, hl, rfl⟩
theorem DPut.t {H : Hp} {a b : Addr} {kvs : List (List Key × V)} {k : List Key} {v : V} (e : H a = some (.dT kvs)) (eb : H b = some (.tup (k.map kV))) (hl : kvs.length < sizeLine) :
    DPut H a (.ref b) v (upd H a (.dT (putK kvs k v))) := .inr ⟨kvs, k, b, e, rfl, eb, hl, rfl⟩
section
variable {X : Cx} {pins : List (Addr × Obj)} {σ : St} {H : Hp} {s : Shared} {a : Addr} {y v : V} {u r : Value} {o : Option V} {A : Around} {E : Value → Shared → Prop}
theorem Inv.big (I : Inv X pins σ H s) : sysModules < s.heap.objs.size := by
  have h : mainGlobals < s.heap.objs.size := (I.mod.glob.keeps I.bk).lt
  exact Nat.lt_trans (by decide) h
theorem d_getItem {Q : Value → Shared → Prop} (hu : A.units + 1 < cLine) (I : Inv X pins σ H s) (g : DGet H a y (some v)) (ry : RelV y u) (h : ∀ w' s', Inv X pins σ H s' → RelV v w' → Q w' s') :
    wpAny (model X.prog X.w) A (getItem (.ref a) u) Q E s := by
  rcases g with ⟨kvs, k, e, ey, l⟩ | ⟨kvs, k, b, e, ey, eb, l⟩
  · subst ey
    obtain ⟨z, hd, vs, rel, dd⟩ := dk_rd I.hok e
    obtain ⟨w', hw, rw'⟩ := RelO.some_of (v := v) (o := valueAt vs k) (by rw [l]; exact rel.val k)
    exact wpAny_getItem_of (kV_is ry) dd.mapOf hw (h w' _ (I.tok _) rw')
  · subst ey
    cases (show u = Value.ref b from ry)
    obtain ⟨z, hd, xs, rel, dd⟩ := dt_rd I.hok e
    obtain ⟨w', hw, rw'⟩ := RelO.some_of (v := v) (o := (atKey xs k).map (·.2)) (by rw [l]; exact rel.val k)
    obtain ⟨p, hp, hp2⟩ := Option.map_eq_some_iff.mp hw
    refine wpAny_getItem_heap (tupleKind_room_in1 hu) (key_of I.hok eb) dd hp ?_
    rw [hp2]
    exact h w' _ (I.tok _) rw'
theorem d_in {Q : Value → Shared → Prop} (hu : A.units + 1 < cLine) (I : Inv X pins σ H s) (g : DGet H a y o) (ry : RelV y u) (h : ∀ s', Inv X pins σ H s' → Q (.bool o.isSome) s') :
    wpAny (model X.prog X.w) A (compareOp .In u (.ref a)) Q E s := by
  rcases g with ⟨kvs, k, e, ey, l⟩ | ⟨kvs, k, b, e, ey, eb, l⟩
  · subst ey
    obtain ⟨z, hd, vs, rel, dd⟩ := dk_rd I.hok e
    refine wpAny_in_of (kV_is ry) hd dd.mapOf ?_
    rw [← (rel.val k).isSome_eq, ← l]
    exact h _ (I.tok _)
  · subst ey
    cases (show u = Value.ref b from ry)
    obtain ⟨z, hd, xs, rel, dd⟩ := dt_rd I.hok e
    refine wpAny_in_heap (tupleKind_room_in1 hu) (key_of I.hok eb) hd dd ?_
    have q := (rel.val k).isSome_eq
    rw [Option.isSome_map] at q
    rw [← q, ← l]
    exact h _ (I.tok _)
theorem d_notIn {Q : Value → Shared → Prop} (hu : A.units + 1 < cLine) (I : Inv X pins σ H s) (g : DGet H a y o) (ry : RelV y u) (h : ∀ s', Inv X pins σ H s' → Q (.bool (!o.isSome)) s') :
    wpAny (model X.prog X.w) A (compareOp .NotIn u (.ref a)) Q E s := by
  rcases g with ⟨kvs, k, e, ey, l⟩ | ⟨kvs, k, b, e, ey, eb, l⟩
  · subst ey
    obtain ⟨z, hd, vs, rel, dd⟩ := dk_rd I.hok e
    refine wpAny_notIn_of (kV_is ry) hd dd.mapOf ?_
    rw [← (rel.val k).isSome_eq, ← l]
    exact h _ (I.tok _)
  · subst ey
    cases (show u = Value.ref b from ry)
    obtain ⟨z, hd, xs, rel, dd⟩ := dt_rd I.hok e
    refine wpAny_notIn_heap (tupleKind_room_in1 hu) (key_of I.hok eb) hd dd ?_
    have q := (rel.val k).isSome_eq
    rw [Option.isSome_map] at q
    rw [← q, ← l]
    exact h _ (I.tok _)
theorem d_write {h' : Heap} {t' : Nat} {ob : HO} (I : Inv X pins σ H s) (mu : Mut (H a)) (hs : Heap.SameBut a s.heap h') (he : ∃ q, h'.get? a = some q) (new : ObjOk X.prog X.w (upd H a ob) h' a ob) :
    Inv X pins σ (upd H a ob) { s with heap := h', toks := t' } :=
  I.write (x := a) (e := a) mu (.inl rfl) (fun b q hb z => (hs.2 b hb).trans z) he new
theorem dk_new {P : Program} {w : World} {H' : Hp} {h' : Heap} {kvs : List (Key × V)} {vs : List (Key × Value)} (z : kvs.length ≤ sizeLine) (hd : (a == sysModules) = false) (rel : KV kvs vs) (dd : h'.DictOf (mixKind P w) a vs) :
    ObjOk P w H' h' a (.dK kvs) := ⟨z, hd, vs, rel, dd⟩
theorem d_setItem {H' : Hp} {Q : Unit → Shared → Prop} (hu : A.units + 1 < cLine) (I : Inv X pins σ H s) (g : DPut H a y v H') (ry : RelV y u) (rv : RelV v r) (h : ∀ s', Inv X pins σ H' s' → Q () s') :
    wpAny (model X.prog X.w) A (setItem (.ref a) u r) Q E s := by
  rcases g with ⟨kvs, k, e, ey, l, eH⟩ | ⟨kvs, k, b, e, ey, eb, l, eH⟩
  · subst ey eH
    obtain ⟨z, hd, vs, rel, dd⟩ := dk_of I.hok e
    have hz : vs.length ≤ sizeLine := by rw [← rel.length]; exact z
    have hl : (putK kvs k v).length ≤ sizeLine := by have := length_putK kvs k v; omega
    refine wpAny_setItem_pairs (hsz := hz) (kV_is ry) dd fun h' dd' hs => h _ ?_
    have he : ∃ q, h'.get? a = some q := let ⟨q, _, _, hq, _⟩ := dd'; ⟨q, hq⟩
    exact d_write I (by rw [e]; exact True.intro) hs he (dk_new hl hd (rel.put k rv) dd')
  · subst ey eH
    cases (show u = Value.ref b from ry)
    obtain ⟨z, hd, xs, rel, dd⟩ := dt_of I.hok e
    have hz : xs.length ≤ sizeLine := by rw [← Paired.length rel]; exact z
    have hl : (putK kvs k v).length ≤ sizeLine := by have := length_putK kvs k v; omega
    refine wpAny_setItem_heap (hsz := hz) (tupleKind_room_in1 hu) (key_of I.hok eb) dd fun h' dd' hs => h _ ?_
    obtain ⟨q, es, ep, hq, h2, h3, h4, _, h5⟩ := dd'
    refine d_write I (by rw [e]; exact True.intro) hs ⟨q, hq⟩ ⟨hl, hd, _, (rel.put k eb rv).keeps fun c ys ec => ?_, q, es, ep, hq, h2, h3, h4, h5⟩
    rw [upd_ne (ne_of ec e (fun z => nomatch z))]
    exact ec
end
section
variable {X : Cx} {pins : List (Addr × Obj)} {σ : St} {H : Hp} {s : Shared} {a : Addr} {kvs : List (Key × V)} {k : Key} {u : Value} {A : Around} {E : Value → Shared → Prop}
end

noncomputable def NoSl (i : Expr) : Prop := ∀ ov iv, subscripted i false ov iv = operate [ov, iv] (getItem ov iv)
theorem subD_of {prog : Program} {w : World} {A : Around} {E : Value → Shared → Prop} {s : Shared} {env : Env} {value slice : Expr} {pos : Pos} {T id : String} {Q : Value → Shared → Prop}
    (hl : typeLookup (.type T) "__getitem__" = pure (some (.builtin id))) (hs : NoSl slice)
    (h : wpAny (model prog w) A (eval value env) (fun o s₁ => wpAny (model prog w) A (eval slice env) (fun i s₂ => s₂.TypeIs o T ∧ wpAny (model prog w) A (getItem o i) Q E s₂) E s₁) E s) :
    wpAny (model prog w) A (eval (.Subscript value slice pos) env) Q E s := by
  refine Subscript_ (wpAny_mono h (fun o s₁ h₁ => wpAny_mono h₁ (fun i s₂ h₂ => ?_) fun _ _ x => x) fun _ _ x => x)
  obtain ⟨hT, h₂⟩ := h₂
  unfold subscriptTail
  refine wpAny_bind ?_
  rw [getitemInPython_of_ne hT.not_modules]
  refine wpAny_bind (wpAny_specialOf hT hl ?_)
  have fin : wpAny (model prog w) A (subscripted slice false o i) (fun r s₃ => wpAny (model prog w) A (letTemporaryGo value o r >>= fun _ => pure r) Q E s₃) E s₂ := by
    rw [hs o i]
    exact wpAny_operating (wpAny_mono h₂ (fun r s₃ h₃ => wpAny_bind (wpAny_letTemporaryGo (wpAny_pure h₃))) fun _ _ x => x)
  first
    | exact wpAny_pure (wpAny_bind fin)
    | exact wpAny_bind (wpAny_pure (wpAny_bind fin))
    | exact wpAny_bind fin
theorem dict_typeIs {X : Cx} {pins : List (Addr × Obj)} {σ : St} {H : Hp} {s : Shared} {a : Addr} {y : V} {o : Option V} (I : Inv X pins σ H s) (g : DGet H a y o) : s.TypeIs (.ref a) "dict" := by
  rcases g with ⟨kvs, k, e, _, _⟩ | ⟨kvs, k, b, e, _, _, _⟩
  · obtain ⟨_, _, vs, _, dd⟩ := dk_rd I.hok e
    exact dd.typeIs
  · obtain ⟨_, _, xs, _, dd⟩ := dt_rd I.hok e
    exact dd.typeIs
noncomputable def tDGet (td ty : TE) : TE := fun σ H Q => td σ H fun x H1 => ty σ H1 fun y H2 => ∃ a v, x = .ref a ∧ DGet H2 a y (some v) ∧ Q v H2
noncomputable def tDIn (ty td : TE) : TE := fun σ H Q => ty σ H fun y H1 => td σ H1 fun x H2 => ∃ a o, x = .ref a ∧ DGet H2 a y o ∧ Q (.bl o.isSome) H2
noncomputable def tDNotIn (ty td : TE) : TE := fun σ H Q => ty σ H fun y H1 => td σ H1 fun x H2 => ∃ a o, x = .ref a ∧ DGet H2 a y o ∧ Q (.bl (!o.isSome)) H2
noncomputable def sDPut (td ty tv : TE) : TS := fun D σ H => tv σ H fun v H1 => td σ H1 fun x H2 => ty σ H2 fun y H3 => ∃ a H4, x = .ref a ∧ DPut H3 a y v H4 ∧ D.nx σ H4
section
variable {X : Cx} {o i e value : Expr} {pos pos' tpos : Pos} {td ty tv : TE}
theorem pe_dget (hu : X.A.units + 1 < cLine) (ho : PE X o td) (hi : PE X i ty) (hs : NoSl i) : PE X (.Subscript o i pos) (tDGet td ty) := by
  intro pins s σ H Q I h
  refine subD_of PySem.F.slot_dict_getitem.lookup hs (thn (ho pins s σ H _ I h) fun u s1 ⟨x, H1, I1, rx, q1⟩ => thn (hi pins s1 σ H1 _ I1 q1) fun iv s2 ⟨y, H2, I2, ry, a, v, ex, g, q2⟩ => ?_)
  subst ex
  obtain rfl : u = Value.ref a := rx
  exact ⟨dict_typeIs I2 g, d_getItem hu I2 g ry fun w' s3 I3 rw' => ⟨v, H2, I3, rw', q2⟩⟩
theorem pc_din (hu : X.A.units + 1 < cLine) (hi : PE X i ty) (ho : PE X o td) : PC X .In i o (tDIn ty td) := by
  intro pins s σ H Q I h
  refine thn (hi pins s σ H _ I h) fun iv s1 ⟨y, H1, I1, ry, q1⟩ => thn (ho pins s1 σ H1 _ I1 q1) fun u s2 ⟨x, H2, I2, rx, a, ov, ex, g, q2⟩ => ?_
  subst ex
  obtain rfl : u = Value.ref a := rx
  exact d_in hu I2 g ry fun s3 I3 => ⟨.bl ov.isSome, H2, I3, rfl, q2⟩
theorem pc_dnotin (hu : X.A.units + 1 < cLine) (hi : PE X i ty) (ho : PE X o td) : PC X .NotIn i o (tDNotIn ty td) := by
  intro pins s σ H Q I h
  refine thn (hi pins s σ H _ I h) fun iv s1 ⟨y, H1, I1, ry, q1⟩ => thn (ho pins s1 σ H1 _ I1 q1) fun u s2 ⟨x, H2, I2, rx, a, ov, ex, g, q2⟩ => ?_
  subst ex
  obtain rfl : u = Value.ref a := rx
  exact d_notIn hu I2 g ry fun s3 I3 => ⟨.bl (!ov.isSome), H2, I3, rfl, q2⟩
theorem ps_dput (hu : X.A.units + 1 < cLine) (ho : PE X o td) (hi : PE X i ty) (hv : PE X value tv) (hs : swapsWith value (some (.Subscript o i pos')) pos.line X.env = pure false) :
    PS X (.Assign [.Subscript o i pos'] value pos) (sDPut td ty tv) := by
  intro pins s σ H D I h
  refine wpAny_Assign_Subscript (thn (hv pins s σ H _ I h) fun r s1 ⟨v, H1, I1, rv, q1⟩ => thn (ho pins s1 σ H1 _ I1 q1) fun u s2 ⟨x, H2, I2, rx, q2⟩ => thn (hi pins s2 σ H2 _ I2 q2) fun iv s3 ⟨y, H3, I3, ry, a, H4, ex, g, q3⟩ => ?_) hs
  subst ex
  obtain rfl : u = Value.ref a := rx
  exact d_setItem hu I3 g ry rv fun s4 I4 => ⟨σ, H4, I4, q3⟩
end

theorem dk_empty {P : Program} {w : World} {H : Hp} (h : Heap) (hb : sysModules < h.objs.size) : ObjOk P w H (h.push { cls := .type "dict", data := .dict #[] }) h.objs.size (.dK []) :=
  ⟨Nat.zero_le _, beq_eq_false_iff_ne.mpr (Ne.symm (Nat.ne_of_lt hb)), [], .nil, Heap.DictOf.new h⟩
noncomputable def tDNewK : TE := fun _ H Q => ∀ p, H p = none → Q (.ref p) (upd H p (.dK []))
section
variable {X : Cx} {pos : Pos}
theorem pe_dnewK : PE X (.Dict [] [] pos) tDNewK := fun pins s σ H Q I h =>
  wpAny_Dict_empty ⟨.ref s.heap.objs.size, _, I.laid (a := s.heap.objs.size) (o := .dK []) (t' := s.toks) (fun _ _ q => Heap.get?_push_of_some _ q) (Nat.le_refl _) (dk_empty s.heap I.big), rfl, h _ (I.hok.fresh (Nat.le_refl _))⟩
end

structure M1 (X : Cx) (o : Expr) (m : Str) (apos : Pos) (e : Expr) (cpos : Pos) : Prop where
  base : attributeBase o m X.env (eval o X.env) = eval o X.env
  few : ((backTo cpos (starEach [e] X.env)).all (fun x => !x.1) && (backToKw cpos (keywordEach [] X.env)).all (fun x => x.1.isSome)
    && decide (([e] : List Expr).length + ([] : List Keyword).length + (if ([] : List Keyword).isEmpty then 0 else 1) < 30)) = true
  line : (apos.endLine == cpos.line) = true
  trees : backTo cpos (starEach [e] X.env) = [(false, eval e X.env)]
structure M2 (X : Cx) (o : Expr) (m : Str) (apos : Pos) (e f : Expr) (cpos : Pos) : Prop where
  base : attributeBase o m X.env (eval o X.env) = eval o X.env
  few : ((backTo cpos (starEach [e, f] X.env)).all (fun x => !x.1) && (backToKw cpos (keywordEach [] X.env)).all (fun x => x.1.isSome)
    && decide (([e, f] : List Expr).length + ([] : List Keyword).length + (if ([] : List Keyword).isEmpty then 0 else 1) < 30)) = true
  line : (apos.endLine == cpos.line) = true
  trees : backTo cpos (starEach [e, f] X.env) = [(false, eval e X.env), (false, eval f X.env)]
section
variable {X : Cx} {pins : List (Addr × Obj)} {σ : St} {H : Hp} {s : Shared} {a : Addr} {y d : V} {u r : Value} {o : Option V} {A : Around} {E : Value → Shared → Prop}
end
section
variable {X : Cx} {o e f : Expr} {apos cpos : Pos} {td ty tx : TE}
end

section
variable {X : Cx} {pins : List (Addr × Obj)} {σ : St} {H : Hp} {s : Shared} {a : Addr} {kvs : List (Key × V)} {A : Around} {E : Value → Shared → Prop}
end
section
variable {X : Cx} {pins : List (Addr × Obj)} {σ : St} {H : Hp} {s : Shared} {a : Addr} {y : V} {u : Value} {A : Around} {E : Value → Shared → Prop}
end
end L2
namespace L2
open PySem PySem.Spec PyProof.Rows
section
variable {X : Cx}
end
end L2
namespace L2
open PySem PySem.Spec PyProof.Rows

section
variable {κ : Type} [DecidableEq κ]
end
end L2
set_option linter.all false
namespace M1
noncomputable def gap (c : Int) : Int := [1, 7, 500, 998].getD (c % 4).toNat 1
noncomputable def couples (c : Int) (m : Nat) : List Int := (List.range m).map fun (k : Nat) => (c / 4 + (k : Int) * gap c) % 999 + 1
noncomputable def goodC (ns : List Int) : Bool := (decide (1 ≤ (ns.length : Int)) && decide ((ns.length : Int) ≤ 24)) && (decide ns.Nodup && (ns.map fun n => decide (1 ≤ n) && decide (n ≤ 999)).all id)
end M1
set_option linter.all false
namespace M2
open PySem L2
noncomputable def goodN (z : Str) : Bool := (decide (1 ≤ (z.length : Int)) && decide ((z.length : Int) ≤ 8)) && (z.cps.toList.map small).all id
noncomputable def goodJ (ts : List Str) : Bool := (decide (1 ≤ (ts.length : Int)) && decide ((ts.length : Int) ≤ 15)) && (decide ts.Nodup && (ts.map goodN).all id)
theorem goodN_iff (z : Str) : goodN z = true ↔ (1 ≤ z.length ∧ z.length ≤ 8) ∧ ∀ c ∈ z.cps.toList, small c = true := by
  unfold goodN
  simp only [Bool.and_eq_true, decide_eq_true_eq, List.all_map, List.all_eq_true, Function.comp, id]
  constructor
  · rintro ⟨⟨h1, h2⟩, h3⟩
    exact ⟨⟨by omega, by omega⟩, h3⟩
  · rintro ⟨⟨h1, h2⟩, h3⟩
    exact ⟨⟨by omega, by omega⟩, h3⟩
theorem goodJ_iff (ts : List Str) : goodJ ts = true ↔ (1 ≤ ts.length ∧ ts.length ≤ 15) ∧ ts.Nodup ∧ ∀ z ∈ ts, (1 ≤ z.length ∧ z.length ≤ 8) ∧ ∀ c ∈ z.cps.toList, small c = true := by
  unfold goodJ
  simp only [Bool.and_eq_true, decide_eq_true_eq, List.all_map, List.all_eq_true, Function.comp, id, goodN_iff]
  constructor
  · rintro ⟨⟨h1, h2⟩, h3, h4⟩
    exact ⟨⟨by omega, by omega⟩, h3, h4⟩
  · rintro ⟨⟨h1, h2⟩, h3, h4⟩
    exact ⟨⟨by omega, by omega⟩, h3, h4⟩
theorem le_a (c : Nat) : (!decide ((⟨#[c]⟩ : Str).cps.toList < ("a" : Str).cps.toList)) = decide (97 ≤ c) := by
  have e : ("a" : Str).cps.toList = [97] := by decide +kernel
  rw [e]
  show (!decide ([c] < [97])) = _
  by_cases h : 97 ≤ c
  · rw [decide_eq_true h, decide_eq_false]; rfl
    simp [List.cons_lt_cons_iff]; omega
  · rw [decide_eq_false h, decide_eq_true]; rfl
    simp [List.cons_lt_cons_iff]; omega
theorem le_z (c : Nat) : (!decide (("z" : Str).cps.toList < (⟨#[c]⟩ : Str).cps.toList)) = decide (c ≤ 122) := by
  have e : ("z" : Str).cps.toList = [122] := by decide +kernel
  rw [e]
  show (!decide ([122] < [c])) = _
  by_cases h : c ≤ 122
  · rw [decide_eq_true h, decide_eq_false]; rfl
    simp [List.cons_lt_cons_iff]; omega
  · rw [decide_eq_false h, decide_eq_true]; rfl
    simp [List.cons_lt_cons_iff]; omega
end M2
set_option linter.all false
set_option maxRecDepth 100000
namespace M10
open PySem L2 M2
end M10
set_option linter.all false
namespace M3
open PySem L2
noncomputable def got (ms : List Int) (n : Int) : List Int := ms.filter fun m => decide (m ≤ n)
noncomputable def cnt (ms : List Int) (n : Int) : Nat := (got ms n).length
noncomputable def sm (ms : List Int) (n : Int) : Int := (got ms n).sum
end M3
set_option linter.all false
set_option maxRecDepth 100000
namespace L2
open PySem

inductive All2 {α β : Type} (R : α → β → Prop) : List α → List β → Prop
  | nil : All2 R [] []
  | cons {a : α} {b : β} {as : List α} {bs : List β} : R a b → All2 R as bs → All2 R (a :: as) (b :: bs)
namespace All2
variable {α β : Type} {R S : α → β → Prop} {as as' : List α} {bs bs' : List β}
theorem length (h : All2 R as bs) : as.length = bs.length := by
  induction h with
  | nil => rfl
  | cons _ _ ih => rw [List.length_cons, List.length_cons, ih]
theorem imp (f : ∀ a b, R a b → S a b) (h : All2 R as bs) : All2 S as bs := by
  induction h with
  | nil => exact .nil
  | cons r _ ih => exact .cons (f _ _ r) ih
theorem getL (h : All2 R as bs) : ∀ {i : Nat} {a : α}, as[i]? = some a → ∃ b, bs[i]? = some b ∧ R a b := by
  induction h with
  | nil => intro i b e; simp at e
  | cons r _ ih =>
    intro i b e
    cases i with
    | zero => simp only [List.getElem?_cons_zero] at e ⊢; cases e; exact ⟨_, rfl, r⟩
    | succ i => simp only [List.getElem?_cons_succ] at e ⊢; exact ih e
end All2
noncomputable def TPl (K : PySem.W.Frag) (H : Hp) (l : Addr) (p : Int × Int) : Prop := SqT K H l [.int p.1, .int p.2]
theorem refs_get {ls : List Addr} {i : Nat} {x : V} (h : (ls.map V.ref)[i]? = some x) : ∃ l, ls[i]? = some l ∧ x = .ref l := by
  rw [List.getElem?_map] at h
  cases e : ls[i]? with
  | none => rw [e] at h; cases h
  | some l => rw [e] at h; cases h; exact ⟨l, rfl, rfl⟩

end L2
set_option linter.all false
set_option maxRecDepth 100000
namespace L2
open PySem

theorem pe_both {X : Cx} {e : Expr} {t u : TE} (h1 : PE X e t) (h2 : PE X e u) : PE X e (fun σ H Q => t σ H Q ∨ u σ H Q) := by
  intro pins s σ H Q I h
  rcases h with h | h
  · exact h1 pins s σ H Q I h
  · exact h2 pins s σ H Q I h

structure Sh where
  couples : List Int
  struck : List Int
  panel : List Str
  card : Str → Option (List Int)
  taken : Nat
  shut : Bool
noncomputable def wo (c : Int) (l : List Int) : List Int := l.filter fun o => !decide (o = c)
namespace Sh
structure Ok (S : Sh) : Prop where
  c1 : 1 ≤ S.couples.length
  c24 : S.couples.length + S.struck.length ≤ 24
  nd : S.couples.Nodup
  rng : ∀ c ∈ S.couples, 1 ≤ c ∧ c ≤ 999
  p1 : 1 ≤ S.panel.length
  p15 : S.panel.length ≤ 15
  pnd : S.panel.Nodup
  cd : ∀ j c, S.card j = some c → j ∈ S.panel ∧ c.Perm S.couples
  t200 : S.taken ≤ 200
noncomputable def handed (S : Sh) : List Str := S.panel.filter fun j => (S.card j).isSome
noncomputable def cardsIn (S : Sh) : List (List Int) := S.handed.map fun j => (S.card j).getD []
noncomputable def new (us : List Int) (ts : List Str) : Sh := ⟨us, [], ts, fun _ => none, 0, false⟩
noncomputable def hand (S : Sh) (j : Str) (c : List Int) : Sh := { S with card := fun k => if k = j then some c else S.card k, taken := S.taken + 1 }
noncomputable def refuse (S : Sh) (j : Str) (c : List Int) : Option Str :=
  if S.shut = true then some "SheetSealed" else if j ∈ S.panel then (if c.Perm S.couples then (if 200 ≤ S.taken then some "TooManyCards" else none) else some "BadCard") else some "UnknownJudge"
noncomputable def strike (S : Sh) (c : Int) : Sh := { S with couples := wo c S.couples, struck := S.struck ++ [c], card := fun j => (S.card j).map (wo c) }
noncomputable def refuseS (S : Sh) (c : Int) : Option Str :=
  if S.shut = true then some "SheetSealed" else if c ∈ S.couples then (if S.couples.length = 1 then some "LastCouple" else none) else some "UnknownCouple"
noncomputable def close (S : Sh) : Sh := { S with shut := true }
theorem Ok.new {us : List Int} {ts : List Str} (h1 : M1.goodC us = true) (h2 : M2.goodJ ts = true) : (new us ts).Ok := by
  have g1 := h1
  unfold M1.goodC at g1
  simp only [Bool.and_eq_true, decide_eq_true_eq, List.all_map, List.all_eq_true, Function.comp, id] at g1
  obtain ⟨⟨a1, a2⟩, a3, a4⟩ := g1
  obtain ⟨⟨b1, b2⟩, b3, _⟩ := (M2.goodJ_iff ts).mp h2
  exact ⟨by show 1 ≤ us.length; omega, by show us.length + 0 ≤ 24; omega, a3, a4, b1, b2, b3, (fun _ _ h => nomatch h), Nat.zero_le _⟩
theorem Ok.hand {S : Sh} (h : S.Ok) {j : Str} {c : List Int} (hr : S.refuse j c = none) : (S.hand j c).Ok ∧ j ∈ S.panel ∧ c.Perm S.couples ∧ S.taken < 200 ∧ S.shut = false := by
  unfold refuse at hr
  split at hr
  · cases hr
  rename_i h1
  split at hr
  rename_i h2
  split at hr
  rename_i h3
  split at hr
  · cases hr
  rename_i h4
  · refine ⟨⟨h.c1, h.c24, h.nd, h.rng, h.p1, h.p15, h.pnd, fun k d e => ?_, by show S.taken + 1 ≤ 200; omega⟩, h2, h3, by omega, by simpa using h1⟩
    have e : (if k = j then some c else S.card k) = some d := e
    by_cases ek : k = j
    · rw [if_pos ek] at e
      cases e
      subst ek
      exact ⟨h2, h3⟩
    · rw [if_neg ek] at e
      exact h.cd k d e
  · cases hr
  · cases hr
theorem wo_len {c : Int} {l : List Int} (nd : l.Nodup) (hc : c ∈ l) : (wo c l).length + 1 = l.length := by
  unfold wo
  have e : (l.filter fun o => !decide (o = c)) = l.erase c := by
    rw [nd.erase_eq_filter]
    refine List.filter_congr fun x _ => ?_
    by_cases h : x = c
    · subst h; simp
    · simp [h]
  rw [e, List.length_erase_of_mem hc]
  have := List.length_pos_of_mem hc
  omega
theorem Ok.strike {S : Sh} (h : S.Ok) {c : Int} (hr : S.refuseS c = none) : (S.strike c).Ok ∧ c ∈ S.couples ∧ 2 ≤ S.couples.length ∧ S.shut = false := by
  unfold refuseS at hr
  split at hr
  · cases hr
  rename_i h1
  split at hr
  rename_i h2
  split at hr
  · cases hr
  rename_i h3
  · have hl := wo_len h.nd h2
    have h0 := h.c1
    have h24 := h.c24
    refine ⟨⟨?_, ?_, h.nd.filter _, fun d hd => h.rng d (List.mem_filter.mp hd).1, h.p1, h.p15, h.pnd, fun k d e => ?_, h.t200⟩, h2, by omega, by simpa using h1⟩
    · show 1 ≤ (wo c S.couples).length
      omega
    · show (wo c S.couples).length + (S.struck ++ [c]).length ≤ 24
      rw [List.length_append, List.length_singleton]
      omega
    · have e : (S.card k).map (wo c) = some d := e
      cases q : S.card k with
      | none => rw [q] at e; cases e
      | some b =>
        rw [q] at e
        cases e
        exact ⟨(h.cd k b q).1, (h.cd k b q).2.filter _⟩
  · cases hr
theorem Ok.close {S : Sh} (h : S.Ok) : S.close.Ok := ⟨h.c1, h.c24, h.nd, h.rng, h.p1, h.p15, h.pnd, h.cd, h.t200⟩
end Sh
noncomputable def shF (a1 a2 a3 d : Addr) (S : Sh) : List (Str × V) := [("standing", .ref a1), ("struck_so_far", .ref a2), ("panel", .ref a3), ("card_by_judge", .ref d), ("taken_so_far", .int S.taken), ("sealed", .bl S.shut)]
structure Shape (K : PySem.W.Frag) (H : Hp) (p : Addr) (F : Addr → Prop) (S : Sh) (dx a1 a2 a3 d : Addr) (kvs : List (Key × V)) : Prop where
  ip : H p = some (.ins (clsA K "Sheet") dx (shF a1 a2 a3 d S))
  i1 : H a1 = some (.lst (S.couples.map V.int))
  i2 : H a2 = some (.lst (S.struck.map V.int))
  i3 : H a3 = some (.lst (S.panel.map V.str))
  i4 : H d = some (.dK kvs)
  kl : kvs.length ≤ S.taken
  cn : ∀ j, S.card j = none → valV kvs (Sum.inr j) = none
  cs : ∀ j c, S.card j = some c → ∃ l, valV kvs (Sum.inr j) = some (.ref l) ∧ H l = some (.lst (c.map V.int)) ∧ F l ∧ l ≠ a2
  fp : F p
  f1 : F a1
  f2 : F a2
  f3 : F a3
  f4 : F d
  n12 : a1 ≠ a2
  n32 : a3 ≠ a2
  fh : ∀ b, F b → H b ≠ none
structure SheetIn (K : PySem.W.Frag) (H : Hp) (p : Addr) (F : Addr → Prop) (S : Sh) (dx a1 a2 a3 d : Addr) (kvs : List (Key × V)) : Prop extends Shape K H p F S dx a1 a2 a3 d kvs where
  ok : S.Ok
noncomputable def ShapeAt (K : PySem.W.Frag) (H : Hp) (p : Addr) (F : Addr → Prop) (S : Sh) : Prop := ∃ dx a1 a2 a3 d kvs, Shape K H p F S dx a1 a2 a3 d kvs
noncomputable def SheetAt (K : PySem.W.Frag) (H : Hp) (p : Addr) (F : Addr → Prop) (S : Sh) : Prop := ∃ dx a1 a2 a3 d kvs, SheetIn K H p F S dx a1 a2 a3 d kvs
theorem SheetIn.off {K : PySem.W.Frag} {H H' : Hp} {p : Addr} {F : Addr → Prop} {S : Sh} {dx a1 a2 a3 d : Addr} {kvs : List (Key × V)} (h : SheetIn K H p F S dx a1 a2 a3 d kvs) (e : ∀ b, F b → H' b = H b) : SheetIn K H' p F S dx a1 a2 a3 d kvs :=
  ⟨⟨(e _ h.fp).trans h.ip, (e _ h.f1).trans h.i1, (e _ h.f2).trans h.i2, (e _ h.f3).trans h.i3, (e _ h.f4).trans h.i4, h.kl, h.cn,
    fun j c hc => let ⟨l, x1, x2, x3, x4⟩ := h.cs j c hc; ⟨l, x1, (e _ x3).trans x2, x3, x4⟩, h.fp, h.f1, h.f2, h.f3, h.f4, h.n12, h.n32, fun b hb => by rw [e b hb]; exact h.fh b hb⟩, h.ok⟩
theorem SheetAt.off {K : PySem.W.Frag} {H H' : Hp} {p : Addr} {F : Addr → Prop} {S : Sh} (h : SheetAt K H p F S) (e : ∀ b, F b → H' b = H b) : SheetAt K H' p F S := by
  obtain ⟨dx, a1, a2, a3, d, kvs, h⟩ := h
  exact ⟨dx, a1, a2, a3, d, kvs, h.off e⟩
theorem SheetAt.fh {K : PySem.W.Frag} {H : Hp} {p : Addr} {F : Addr → Prop} {S : Sh} (h : SheetAt K H p F S) : ∀ b, F b → H b ≠ none := by
  obtain ⟨dx, a1, a2, a3, d, kvs, h⟩ := h
  exact h.fh
theorem SheetAt.ok {K : PySem.W.Frag} {H : Hp} {p : Addr} {F : Addr → Prop} {S : Sh} (h : SheetAt K H p F S) : S.Ok := by
  obtain ⟨dx, a1, a2, a3, d, kvs, h⟩ := h
  exact h.ok
theorem SheetAt.shape {K : PySem.W.Frag} {H : Hp} {p : Addr} {F : Addr → Prop} {S : Sh} (h : SheetAt K H p F S) : ShapeAt K H p F S := by
  obtain ⟨dx, a1, a2, a3, d, kvs, h⟩ := h
  exact ⟨dx, a1, a2, a3, d, kvs, h.toShape⟩
theorem SheetAt.same {K : PySem.W.Frag} {H H' : Hp} {p : Addr} {F : Addr → Prop} {S : Sh} (h : SheetAt K H p F S) (s : Same H H') : SheetAt K H' p F S := h.off fun b hb => by
  have := h.fh b hb
  cases e : H b with
  | none => exact absurd e this
  | some o => exact s b o e
noncomputable def Deed (F : Addr → Prop) (H : Hp) (F' : Addr → Prop) (H' : Hp) : Prop := ∀ b o, H b = some o → ¬ F b → H' b = some o ∧ ¬ F' b
noncomputable def LQ (K : PySem.W.Frag) (F : Addr → Prop) (H : Hp) (a : Addr) (xs : List V) : Prop :=
  (Rd H a (.lst xs) ∧ ¬ F a) ∨ ∃ (o : Obj) (its : Array Value) (n : Nat), K.lookup a = some o ∧ o.cls = .type "list" ∧ o.dict = none ∧ o.data = .seq its n ∧ its.size ≤ sizeLine ∧ Vals xs its.toList
theorem SqL.none {K : PySem.W.Frag} {H : Hp} {a : Addr} {xs : List V} (h : SqL K H a xs) : LQ K (fun _ => False) H a xs := h.imp (fun z => ⟨z, fun w => w⟩) id
theorem Deed.same {F : Addr → Prop} {H H' : Hp} (s : Same H H') : Deed F H F H' := fun b o e n => ⟨s b o e, n⟩
theorem Deed.trans {F F1 F2 : Addr → Prop} {H H1 H2 : Hp} (a : Deed F H F1 H1) (b : Deed F1 H1 F2 H2) : Deed F H F2 H2 := fun c o e n => b c o (a c o e n).1 (a c o e n).2
theorem step_new {H : Hp} {x l : Addr} {o u i : HO} (hx : H x = some i) (hl : H l = none) : upd (upd H l o) x u x = some u ∧ upd (upd H l o) x u l = some o ∧ l ≠ x ∧ ∀ b v, H b = some v → b ≠ x → upd (upd H l o) x u b = some v := by
  have n : l ≠ x := fun e => by rw [e, hx] at hl; cases hl
  exact ⟨upd_same, by rw [upd_ne n]; exact upd_same, n, fun b v e nb => by rw [upd_ne nb, upd_ne (ne_of_none e hl)]; exact e⟩
theorem putF_hit (f : Str) (v x : V) (r : List (Str × V)) : putF f v ((f, x) :: r) = (f, v) :: r := by rw [putF, if_pos rfl]
theorem putF_on {f g : Str} (v x : V) (r : List (Str × V)) (h : g ≠ f) : putF f v ((g, x) :: r) = (g, x) :: putF f v r := by rw [putF, if_neg h]
theorem pf1 (v : V) : putF "standing" v [] = ([("standing", v)] : List (Str × V)) := rfl
theorem pf2 (u v : V) : putF "struck_so_far" v [("standing", u)] = ([("standing", u), ("struck_so_far", v)] : List (Str × V)) := by rw [putF_on _ _ _ (by decide)]; rfl
theorem pf3 (u w v : V) : putF "panel" v [("standing", u), ("struck_so_far", w)] = ([("standing", u), ("struck_so_far", w), ("panel", v)] : List (Str × V)) := by rw [putF_on _ _ _ (by decide), putF_on _ _ _ (by decide)]; rfl
theorem pf4 (u w y v : V) : putF "card_by_judge" v [("standing", u), ("struck_so_far", w), ("panel", y)] = ([("standing", u), ("struck_so_far", w), ("panel", y), ("card_by_judge", v)] : List (Str × V)) := by rw [putF_on _ _ _ (by decide), putF_on _ _ _ (by decide), putF_on _ _ _ (by decide)]; rfl
theorem pf5 (u w y z v : V) : putF "taken_so_far" v [("standing", u), ("struck_so_far", w), ("panel", y), ("card_by_judge", z)] = ([("standing", u), ("struck_so_far", w), ("panel", y), ("card_by_judge", z), ("taken_so_far", v)] : List (Str × V)) := by rw [putF_on _ _ _ (by decide), putF_on _ _ _ (by decide), putF_on _ _ _ (by decide), putF_on _ _ _ (by decide)]; rfl
theorem pf6 (u w y z t v : V) : putF "sealed" v [("standing", u), ("struck_so_far", w), ("panel", y), ("card_by_judge", z), ("taken_so_far", t)] = ([("standing", u), ("struck_so_far", w), ("panel", y), ("card_by_judge", z), ("taken_so_far", t), ("sealed", v)] : List (Str × V)) := by rw [putF_on _ _ _ (by decide), putF_on _ _ _ (by decide), putF_on _ _ _ (by decide), putF_on _ _ _ (by decide), putF_on _ _ _ (by decide)]; rfl
theorem pf_standing (a1 a2 a3 d b : Addr) (S S' : Sh) (h : S'.taken = S.taken) (h2 : S'.shut = S.shut) : putF "standing" (.ref b) (shF a1 a2 a3 d S) = shF b a2 a3 d S' := by unfold shF; rw [putF_hit, h, h2]
theorem pf_taken (a1 a2 a3 d : Addr) (S S' : Sh) (h2 : S'.shut = S.shut) : putF "taken_so_far" (.int S'.taken) (shF a1 a2 a3 d S) = shF a1 a2 a3 d S' := by
  unfold shF
  rw [putF_on _ _ _ (by decide), putF_on _ _ _ (by decide), putF_on _ _ _ (by decide), putF_on _ _ _ (by decide), putF_hit, h2]
theorem pf_sealed (a1 a2 a3 d : Addr) (S S' : Sh) (h : S'.taken = S.taken) : putF "sealed" (.bl S'.shut) (shF a1 a2 a3 d S) = shF a1 a2 a3 d S' := by
  unfold shF
  rw [putF_on _ _ _ (by decide), putF_on _ _ _ (by decide), putF_on _ _ _ (by decide), putF_on _ _ _ (by decide), putF_on _ _ _ (by decide), putF_hit, h]
theorem putK_len {kvs : List (Key × V)} {k : Key} {v u : V} (h : valV kvs k = some u) : (putK kvs k v).length = kvs.length := by
  unfold putK
  have : (kvs.any fun kv => decide (kv.1 = k)) = true := by rw [valV_any, h]; rfl
  rw [if_pos this, List.length_map]
theorem SheetAt.ins {K : PySem.W.Frag} {H : Hp} {p : Addr} {F : Addr → Prop} {S : Sh} (h : SheetAt K H p F S) : ∃ dx a1 a2 a3 d, H p = some (.ins (clsA K "Sheet") dx (shF a1 a2 a3 d S)) := by
  obtain ⟨dx, a1, a2, a3, d, kvs, h⟩ := h
  exact ⟨dx, a1, a2, a3, d, h.ip⟩

noncomputable def Sh.rows (S : Sh) : List (List Int) := S.panel.map fun j => (S.card j).getD []
theorem All2.set {α β : Type} {R : α → β → Prop} {as : List α} {bs : List β} (h : All2 R as bs) {a : α} {b : β} (r : R a b) : ∀ k, All2 R (as.set k a) (bs.set k b) := by
  induction h with
  | nil => intro k; exact .nil
  | cons r' h' ih =>
    intro k
    cases k with
    | zero => exact .cons r h'
    | succ k => exact .cons r' (ih k)
noncomputable def Rows (F : Addr → Prop) (H : Hp) (lc : Addr) (ls : List Addr) (cs : List (List Int)) : Prop := H lc = some (.lst (ls.map V.ref)) ∧ ¬ F lc ∧ All2 (fun l c => H l = some (.lst (c.map V.int)) ∧ ¬ F l) ls cs
theorem Rows.len {F : Addr → Prop} {H : Hp} {lc : Addr} {ls : List Addr} {cs : List (List Int)} (h : Rows F H lc ls cs) : ls.length = cs.length := h.2.2.length
theorem refs_ne {ls : List Addr} {c : List Int} (h : ls ≠ []) : (HO.lst (c.map V.int)) ≠ .lst (ls.map V.ref) := fun z => by
  injection z with z
  cases ls with
  | nil => exact h rfl
  | cons l ls => cases c with
    | nil => cases z
    | cons x c => simp at z
theorem Rows.set {F : Addr → Prop} {H : Hp} {lc : Addr} {ls : List Addr} {cs : List (List Int)} (h : Rows F H lc ls cs) (hne : ls ≠ []) {m : Addr} {c : List Int} (hm : H m = some (.lst (c.map V.int))) (nm : ¬ F m) (k : Nat) :
    Rows F (upd H lc (.lst ((ls.map V.ref).set k (.ref m)))) lc (ls.set k m) (cs.set k c) := by
  refine ⟨by rw [upd_same, List.map_set], h.2.1, All2.set (h.2.2.imp fun l c z => ⟨?_, z.2⟩) ⟨?_, nm⟩ k⟩
  · rw [upd_ne (ne_of z.1 h.1 (refs_ne hne))]; exact z.1
  · rw [upd_ne (ne_of hm h.1 (refs_ne hne))]; exact hm
theorem Sh.refuse_cases {S : Sh} {j : Str} {c : List Int} {x : Str} (h : S.refuse j c = some x) : x = "SheetSealed" ∨ x = "UnknownJudge" ∨ x = "BadCard" ∨ x = "TooManyCards" := by
  unfold Sh.refuse at h
  split at h
  · cases h; exact .inl rfl
  split at h
  · split at h
    · split at h
      · cases h; exact .inr (.inr (.inr rfl))
      · cases h
    · cases h; exact .inr (.inr (.inl rfl))
  · cases h; exact .inr (.inl rfl)
theorem Sh.refuseS_cases {S : Sh} {c : Int} {x : Str} (h : S.refuseS c = some x) : x = "SheetSealed" ∨ x = "UnknownCouple" ∨ x = "LastCouple" := by
  unfold Sh.refuseS at h
  split at h
  · cases h; exact .inl rfl
  split at h
  · split at h
    · cases h; exact .inr (.inr rfl)
    · cases h
  · cases h; exact .inr (.inl rfl)
end L2
set_option Elab.async false
set_option linter.all false
namespace M19
open PySem
theorem join_cons (y x : PySem.Str) (z : PySem.Str) (r : List PySem.Str) : Str.join y (x :: z :: r) = x ++ y ++ Str.join y (z :: r) := rfl
theorem cat_list (x y : PySem.Str) : (x ++ y).cps.toList = x.cps.toList ++ y.cps.toList := by
  show (x.cps ++ y.cps).toList = _
  simp
theorem str_eq {x y : PySem.Str} (h : x.cps.toList = y.cps.toList) : x = y := by
  cases x; cases y
  have : _ = _ := Array.toList_inj.mp h
  simpa using this
theorem join_list (c : Nat) (x z : PySem.Str) (r : List PySem.Str) : (Str.join ⟨#[c]⟩ (x :: z :: r)).cps.toList = x.cps.toList ++ c :: (Str.join ⟨#[c]⟩ (z :: r)).cps.toList := by
  rw [join_cons, cat_list, cat_list, List.append_assoc]
  rfl
end M19
set_option Elab.async false
set_option linter.all false
set_option maxRecDepth 100000
namespace M20
open PySem L2
noncomputable def BARE : List Str := ["seal", "couples", "places", "parts", "deciders"]
noncomputable def JUDGE : List Str := ["card", "show", "leave", "step"]
noncomputable def COUPLE : List Str := ["strike", "step", "row"]
noncomputable def strN (n : Int) : Str := Str.ofString (toString n)
noncomputable def blank : Str := ⟨#[32]⟩
theorem blank_eq : (" " : Str) = blank := by decide +kernel
theorem digits_fine : ∀ m : Fin 1000, 0 < m.val → ((Nat.toDigits 10 m.val).map Char.toNat).length ≤ 3 ∧ ((Nat.toDigits 10 m.val).map Char.toNat).head? ≠ some 48 ∧ ((Nat.toDigits 10 m.val).map Char.toNat) ≠ [] ∧ (((Nat.toDigits 10 m.val).map Char.toNat).all fun c => decide (48 ≤ c) && decide (c ≤ 57)) = true := by decide +kernel
theorem strN_list {n : Int} (h0 : 0 ≤ n) : (strN n).cps.toList = (Nat.toDigits 10 n.toNat).map Char.toNat := by
  obtain ⟨m, rfl⟩ := Int.eq_ofNat_of_zero_le h0
  exact PySem.W.KIN.signs_num m
structure Num (z : Str) : Prop where
  len : z.length ≤ 3
  ex : ∃ c r, z.cps.toList = c :: r ∧ c ≠ 48
  all : ∀ c ∈ z.cps.toList, 48 ≤ c ∧ c ≤ 57
theorem len_list (z : Str) : z.length = z.cps.toList.length := by simp [PySem.Str.length]
theorem strN_num {n : Int} (h : 1 ≤ n ∧ n ≤ 999) : Num (strN n) := by
  have e := strN_list (n := n) (by omega)
  obtain ⟨d1, d2, d3, d4⟩ := digits_fine ⟨n.toNat, by omega⟩ (by show 0 < n.toNat; omega)
  dsimp only at d1 d2 d3 d4
  rw [← e] at d1 d2 d3 d4
  refine ⟨by rw [len_list]; exact d1, ?_, fun c hc => ?_⟩
  · cases q : (strN n).cps.toList with
    | nil => exact absurd q d3
    | cons c r =>
      rw [q] at d2
      exact ⟨c, r, rfl, fun z => d2 (by rw [z]; rfl)⟩
  · have := List.all_eq_true.mp d4 c hc
    simpa using this
theorem strN_reads {n : Int} (h : 1 ≤ n ∧ n ≤ 999) : PySem.intText? (strN n) = some n := PySem.W.KIN.num_reads (by omega) (by omega)
structure Wd (z : Str) : Prop where
  ne : z ≠ Str.ofString ""
  no : (32 : Nat) ∉ z.cps.toList
  len : z.length ≤ 12
theorem empty_list : (Str.ofString "").cps.toList = [] := by decide +kernel
theorem strN_wd {n : Int} (h : 1 ≤ n ∧ n ≤ 999) : Wd (strN n) := by
  have q := strN_num h
  obtain ⟨c, r, e, _⟩ := q.ex
  refine ⟨fun z => ?_, fun z => ?_, by have := q.len; omega⟩
  · rw [z, empty_list] at e; cases e
  · have := q.all 32 z; omega
noncomputable def inW (f : Str) (l : List Str) : Bool := inV (.str f) (l.map V.str)
noncomputable def due (f : Str) : Int := if inW f COUPLE = true then 1 else 0
noncomputable def words (f j : Str) (ns : List Int) : List Str := f :: ((if inW f JUDGE = true then [j] else []) ++ ns.map strN)
noncomputable def row (f j : Str) (ns : List Int) : Str := Str.join blank (words f j ns)
theorem strs_flat (ws : List Str) : (ws.map V.str).all flatV = true := by
  rw [List.all_eq_true]
  intro y hy
  obtain ⟨w, _, rfl⟩ := List.mem_map.mp hy
  rfl
noncomputable def fig (c : Nat) : Bool := decide (48 ≤ c) && decide (c ≤ 57)
theorem le_0 (c : Nat) : (!decide ((⟨#[c]⟩ : Str).cps.toList < ("0" : Str).cps.toList)) = decide (48 ≤ c) := by
  have e : ("0" : Str).cps.toList = [48] := by decide +kernel
  rw [e]
  show (!decide ([c] < [48])) = _
  by_cases h : 48 ≤ c
  · rw [decide_eq_true h, decide_eq_false]; rfl
    simp [List.cons_lt_cons_iff]; omega
  · rw [decide_eq_false h, decide_eq_true]; rfl
    simp [List.cons_lt_cons_iff]; omega
theorem le_9 (c : Nat) : (!decide (("9" : Str).cps.toList < (⟨#[c]⟩ : Str).cps.toList)) = decide (c ≤ 57) := by
  have e : ("9" : Str).cps.toList = [57] := by decide +kernel
  rw [e]
  show (!decide ([57] < [c])) = _
  by_cases h : c ≤ 57
  · rw [decide_eq_true h, decide_eq_false]; rfl
    simp [List.cons_lt_cons_iff]; omega
  · rw [decide_eq_false h, decide_eq_true]; rfl
    simp [List.cons_lt_cons_iff]; omega
noncomputable def pre (f j : Str) : List Str := f :: (if inW f JUDGE = true then [j] else [])
end M20
set_option linter.all false
namespace M5
open PySem L2 M3
noncomputable def key (ms : List Int) : Nat → List Int
  | 0 => []
  | k + 1 => (fun a : List Int => if a = [] then [] else a ++ [-((got ms ((k : Int) + 1)).length : Int), (got ms ((k : Int) + 1)).sum])
      (if key ms k = [] ∧ ms.length < 2 * (got ms ((k : Int) + 1)).length then [(k : Int) + 1] else key ms k)
noncomputable def marksOf (cs : List (List Int)) (c : Int) : List Int := cs.map fun card => (card.idxOf c : Int) + 1
noncomputable def below (rs : List (List Int)) (m : List Int) : Nat := (rs.filter fun r => HT.lexLt r m).length
noncomputable def rows (ps us : List Int) : List (Int × Int) := (List.range us.length).flatMap fun (i : Nat) => (ps.zip us).filter fun p => decide (p.1 = (i : Int) + 1)
end M5
set_option linter.all false
namespace M6
open PySem L2 M3 M5
noncomputable abbrev Sg := Option (Int × Int)
noncomputable def sg (a : List Int) (k : Int) : Sg := if a.length < 2 * cnt a k then some ((cnt a k : Int), sm a k) else none
noncomputable def olt : Sg → Sg → Bool
  | some _, none => true
  | none, _ => false
  | some p, some q => decide (q.1 < p.1) || (decide (p.1 = q.1) && decide (p.2 < q.2))
noncomputable def firstLt : List Sg → List Sg → Bool
  | x :: xs, y :: ys => if x = y then firstLt xs ys else olt x y
  | _, _ => false
noncomputable def seqs (a : List Int) (n : Nat) : List Sg := (List.range n).map fun (i : Nat) => sg a ((i : Int) + 1)
noncomputable def ahead (a b : List Int) (n : Nat) : Bool := firstLt (seqs a n) (seqs b n)

noncomputable def tl (a : List Int) (f m : Nat) : List Int := (List.range m).flatMap fun (i : Nat) => [-(cnt a ((f : Int) + i) : Int), sm a ((f : Int) + i)]


noncomputable def word : Sg → Sg → Str
  | some p, some q => if p.1 = q.1 then "sum" else "count"
  | _, _ => "half"
end M6
set_option linter.all false
set_option maxRecDepth 100000
namespace L2
open PySem
end L2
namespace M6
open PySem L2 M3 M5
noncomputable def places (cs : List (List Int)) (us : List Int) : List Int := us.map fun c => 1 + ((us.filter fun d => ahead (marksOf cs d) (marksOf cs c) us.length).length : Int)
end M6
namespace L2
open PySem
end L2
set_option linter.all false
namespace M3
open PySem L2
end M3
set_option linter.all false
namespace M6
open PySem L2 M3 M5
end M6
set_option Elab.async false
set_option linter.all false
set_option maxRecDepth 100000
namespace L2
open PySem
noncomputable def Sh.cardsWo (S : Sh) (j : Str) : List (List Int) := (S.handed.filter fun i => !decide (i = j)).map fun i => (S.card i).getD []
end L2
set_option Elab.async false
set_option linter.all false
set_option maxRecDepth 100000
namespace M6
open PySem L2 M3 M5

end M6
set_option Elab.async false
set_option linter.all false
set_option maxRecDepth 100000
namespace M6
open PySem L2 M3 M5
end M6
namespace L2
open PySem
end L2
set_option Elab.async false
set_option linter.all false
set_option maxRecDepth 100000
namespace M6
open PySem L2 M3 M5


variable {cs : List (List Int)} {us : List Int} {c : Int}
end M6
namespace L2
open PySem
end L2
set_option Elab.async false
set_option linter.all false
set_option maxRecDepth 100000
namespace M6
open PySem L2 M3 M5
end M6
namespace L2
open PySem
end L2
set_option linter.all false
set_option maxRecDepth 100000
namespace M6
open PySem L2 M3 M5
noncomputable def partFind (a b : List Int) (n : Nat) : Option (Nat × Str) := ((List.range n).find? fun (i : Nat) => decide (sg a ((i : Int) + 1) ≠ sg b ((i : Int) + 1))).map fun (i : Nat) => (i + 1, word (sg a ((i : Int) + 1)) (sg b ((i : Int) + 1)))
noncomputable abbrev R4 := Int × Int × Int × Str
noncomputable def nb (cs : List (List Int)) (us : List Int) (p q : Int × Int) : Option R4 := if p.1 = q.1 then none else (partFind (marksOf cs p.2) (marksOf cs q.2) us.length).map fun r => (p.2, q.2, (r.1 : Int), r.2)
noncomputable def partings (cs : List (List Int)) (us : List Int) : List R4 := ((rows (places cs us) us).zip (rows (places cs us) us).tail).filterMap fun pq => nb cs us pq.1 pq.2
end M6
namespace L2
open PySem
end L2
set_option linter.all false
set_option maxRecDepth 100000
namespace M9
open PySem L2 M3 M5
end M9
set_option Elab.async false
set_option linter.all false
set_option maxRecDepth 100000
namespace M6
open PySem L2 M3 M5 M9
variable {cs : List (List Int)} {us : List Int} {c d f : Int}
end M6
set_option Elab.async false
set_option linter.all false
set_option maxRecDepth 100000
namespace L2
open PySem
end L2
set_option Elab.async false
set_option linter.all false
set_option maxRecDepth 100000
namespace L2
open PySem
end L2
set_option Elab.async false
set_option linter.all false
set_option maxRecDepth 100000
namespace M6
open PySem L2 M3 M5
noncomputable def Rise1 (c : Int) (d d' : List Int) : Prop := d'.Perm d ∧ d'.idxOf c ≤ d.idxOf c ∧ ∀ e ∈ d, e ≠ c → d.idxOf e ≤ d'.idxOf e
theorem Rise1.nil {c : Int} {d d' : List Int} (h : Rise1 c d d') : d = [] ↔ d' = [] := by
  constructor
  · intro e; rw [e] at h; exact List.Perm.eq_nil h.1
  · intro e; rw [e] at h; exact List.Perm.eq_nil h.1.symm
variable {cs cs' : List (List Int)} {us : List Int} {c : Int}

end M6
namespace L2
open PySem M6 M5
noncomputable def Sh.more (S : Sh) (n : Nat) : Sh := { S with taken := S.taken + n }
section
variable {S : Sh} {j : Str} {d : List Int} {k : Nat}
end
end L2
set_option Elab.async false
set_option linter.all false
set_option maxRecDepth 100000
namespace M6
open PySem L2 M3 M5
section
variable {A B C : List Int} {c : Int}
end
end M6
set_option Elab.async false
set_option linter.all false
set_option maxRecDepth 100000
namespace L2
open PySem
end L2
set_option Elab.async false
set_option linter.all false
set_option maxRecDepth 100000
namespace L2
open PySem
noncomputable def firstsK (ps us : List Int) (n : Nat) : List Int := ((List.range n).filter fun k => decide (ps.getD k 0 = 1)).map fun k => us.getD k 0
noncomputable def firstsC (cs : List (List Int)) (us : List Int) : List Int := firstsK (M6.places cs us) us us.length
noncomputable def Sh.decide (S : Sh) : List Str := S.handed.filter fun j => !Decidable.decide (firstsC (S.cardsWo j) S.couples = firstsC S.cardsIn S.couples)
end L2
set_option Elab.async false
set_option linter.all false
set_option maxRecDepth 100000
namespace M6
open PySem L2 M3 M5
variable {cs : List (List Int)} {us : List Int} {c : Int}

end M6
set_option Elab.async false
set_option linter.all false
set_option maxRecDepth 100000
namespace L2
open PySem
end L2
set_option Elab.async false
set_option linter.all false
set_option maxRecDepth 100000
namespace M6
open PySem L2 M3 M5
noncomputable def blk (f : Int → Int) (us : List Int) (i : Nat) : List (Int × Int) := (us.filter fun c => decide (f c = (i : Int) + 1)).map fun c => (f c, c)
variable {cs : List (List Int)} {us : List Int} {c : Int}
end M6
set_option Elab.async false
set_option linter.all false
set_option maxRecDepth 100000
namespace L2
open PySem
end L2
set_option Elab.async false
set_option linter.all false
set_option maxRecDepth 100000
namespace L2
open PySem
theorem SameN.seq {K : PySem.W.Frag} {H H' : Hp} (s : SameN H H') {a : Addr} {xs : List V} (h : SqL K H a xs) : SqL K H' a xs := s.same.seq h.noT
end L2
set_option Elab.async false
set_option linter.all false
set_option maxRecDepth 100000
namespace L2
open PySem
end L2
set_option Elab.async false
set_option linter.all false
set_option maxRecDepth 100000
namespace M6
open PySem L2 M3 M5 M9

section
variable {φ : Sg → Sg} {cs cs' : List (List Int)} {us : List Int}
end

end M6
set_option Elab.async false
set_option linter.all false
set_option maxRecDepth 100000
namespace M6
open PySem L2 M3 M5

section
variable {cs : List (List Int)} {us d : List Int}
end
end M6
namespace L2
open PySem
end L2
set_option Elab.async false
set_option linter.all false
set_option maxRecDepth 100000
namespace L2
open PySem
end L2
set_option Elab.async false
set_option linter.all false
set_option maxRecDepth 100000
namespace M6
open PySem L2 M3 M5

noncomputable def sl : Str := Str.ofString "/"
noncomputable def blank : Str := Str.ofString " "
theorem emp_app (y : Str) : Str.empty ++ y = y := by
  refine PySem.Str.ext' ?_
  show (#[] : Array Nat) ++ y.cps = y.cps
  simp
end M6
namespace L2
open PySem
theorem comp2_strs {K : PySem.W.Frag} {a : Addr} {ls : List Addr} {rs : List (Int × Int)} {f : Int × Int → Str} {c : St} {te : TE} {H : Hp} {fin : List V → Hp → Prop} (hA : SqL K H a (ls.map V.ref)) (hR : All2 (TPl K H) ls rs) (hz : rs.length ≤ 1000)
    (hte : ∀ (p : Int × Int) (H' : Hp) (Q : VK), p ∈ rs → Same H H' → (∀ H2, Same H' H2 → Q (.str (f p)) H2) → te (some (.int p.1) :: some (.int p.2) :: c) H' Q)
    (hd : ∀ (H' : Hp), Same H H' → fin ((rs.map f).map V.str) H') : wComp2 K (Itl K a) c tYes te H fin := by
  have hln := line_ge
  have hl := hR.length
  refine comp2_list0 (xs := ls.map V.ref) (fun i ys H3 => Same H H3 ∧ ys = ((rs.take i).map f).map V.str) ⟨Same.refl _, rfl⟩ ?_ (by rw [List.length_map]; omega) ?_ ?_
  · rintro i ys H3 hi ⟨s3, rfl⟩
    refine ⟨s3.seq hA, ?_⟩
    rw [List.length_map, List.length_map, List.length_take]
    omega
  · rintro i x ys H3 hx ⟨s3, rfl⟩
    obtain ⟨p, ep, rfl⟩ := refs_get hx
    obtain ⟨m, em, rm⟩ := hR.getL ep
    refine ⟨p, .int m.1, .int m.2, rfl, s3.seqT rm, hte m H3 _ (List.mem_of_getElem? em) s3 fun H4 s4 => ⟨s3.trans s4, ?_⟩⟩
    rw [List.take_succ, em, List.map_append, List.map_append]
    rfl
  · rintro ys H3 ⟨s3, rfl⟩
    rw [List.length_map, hl, List.take_length]
    exact hd H3 s3
theorem comp_strN {K : PySem.W.Frag} {a : Addr} {us : List Int} {f : Int → Str} {c : St} {te : TE} {H : Hp} {fin : List V → Hp → Prop} (hA : SqL K H a (us.map V.int)) (hz : us.length ≤ 1000)
    (hte : ∀ (x : Int) (H' : Hp) (Q : VK), x ∈ us → Same H H' → (∀ (H2 : Hp), Same H' H2 → Q (.str (f x)) H2) → te (some (.int x) :: c) H' Q)
    (hd : ∀ (H' : Hp), Same H H' → fin ((us.map f).map V.str) H') : wComp (Itl K a) c tYes te H fin := by
  have hln := line_ge
  refine comp_list0 (xs := us.map V.int) (fun k ys H5 => ys = ((us.take k).map f).map V.str ∧ Same H H5) ⟨rfl, Same.refl _⟩ ?_ (by rw [List.length_map]; omega) ?_ ?_
  · rintro k ys H5 hk ⟨rfl, s5⟩
    refine ⟨s5.seq hA, ?_⟩
    rw [List.length_map, List.length_map, List.length_take]
    omega
  · rintro k x ys H5 hx ⟨rfl, s5⟩
    obtain ⟨hk, rfl⟩ := ints_get hx
    refine hte _ H5 _ (getD_in hk) s5 fun H2 s2 => ⟨?_, s5.trans s2⟩
    rw [take_next hk, List.map_append, List.map_append]
    rfl
  · rintro ys H5 ⟨rfl, s5⟩
    rw [List.length_map, List.take_length]
    exact hd H5 s5
end L2
set_option Elab.async false
set_option linter.all false
set_option maxRecDepth 100000
namespace M6
open PySem L2

theorem app_assoc (x y z : Str) : x ++ y ++ z = x ++ (y ++ z) := M19.str_eq (by simp only [M19.cat_list, List.append_assoc])
theorem join_head (z x y : Str) (r : List Str) : Str.join z ((x ++ z ++ y) :: r) = x ++ z ++ Str.join z (y :: r) := by
  cases r with
  | nil => rfl
  | cons w r => rw [M19.join_cons, M19.join_cons, app_assoc, app_assoc, app_assoc, app_assoc, app_assoc]
theorem glued_cons (z : Str) : ∀ (r : List Str) (x : Str), Builtin.Str.glued z (x :: r) = Str.join z (x :: r)
  | [], x => rfl
  | y :: r, x => by
    have ih := glued_cons z r (x ++ z ++ y)
    rw [M19.join_cons, ← join_head, ← ih]
    rfl
theorem join_txt (z : Str) (ts : List Str) : Txt.join z ts = Str.join z ts := by
  cases ts with
  | nil => rfl
  | cons x r => exact glued_cons z r x
end M6
set_option Elab.async false
set_option linter.all false
set_option maxRecDepth 100000
namespace M6
open PySem L2 M3 M5

noncomputable def colon : Str := Str.ofString ":"
noncomputable def spotW (p : Int × Int) : Str := tN p.1 ++ colon ++ tN p.2
theorem colon_len : colon.length = 1 := by decide +kernel
theorem tN_short {n : Int} (h : 1 ≤ n ∧ n ≤ 999) : (tN n).length ≤ 12 := (M20.strN_wd h).len
theorem spotW_len {p : Int × Int} (h1 : 1 ≤ p.1 ∧ p.1 ≤ 999) (h2 : 1 ≤ p.2 ∧ p.2 ≤ 999) : (tN p.1).length ≤ 12 ∧ (tN p.2).length ≤ 12 ∧ (spotW p).length ≤ 25 := by
  have a := tN_short h1
  have b := tN_short h2
  refine ⟨a, b, ?_⟩
  unfold spotW
  rw [len_add, len_add, colon_len]
  omega

end M6
namespace L2
open PySem
end L2
set_option Elab.async false
set_option linter.all false
set_option maxRecDepth 100000
namespace M57
open PySem L2 M20

theorem toD1 : ∀ a : Fin 10, 0 < a.val → (Nat.toDigits 10 a.val).map Char.toNat = [48 + a.val] := by decide +kernel
theorem toD2 : ∀ a b : Fin 10, 0 < a.val → (Nat.toDigits 10 (a.val * 10 + b.val)).map Char.toNat = [48 + a.val, 48 + b.val] := by decide +kernel
theorem toD3 : ∀ a b c : Fin 10, 0 < a.val → (Nat.toDigits 10 (a.val * 100 + b.val * 10 + c.val)).map Char.toNat = [48 + a.val, 48 + b.val, 48 + c.val] := by decide +kernel
theorem num_strN {w : Str} (h : Num w) : ∃ n : Int, (1 ≤ n ∧ n ≤ 999) ∧ w = strN n := by
  obtain ⟨c, r, e, hc⟩ := h.ex
  have hl := h.len
  rw [len_list, e] at hl
  have ha := h.all
  rw [e] at ha
  have h0 := ha c List.mem_cons_self
  have fin : ∀ {m : Nat}, 1 ≤ m → m ≤ 999 → (Nat.toDigits 10 m).map Char.toNat = c :: r → ∃ n : Int, (1 ≤ n ∧ n ≤ 999) ∧ w = strN n := fun {m} a b q => by
    refine ⟨(m : Int), ⟨by omega, by omega⟩, M19.str_eq ?_⟩
    rw [e, strN_list (by omega), show ((m : Int)).toNat = m by omega, q]
  match r, hl, ha with
  | [], _, _ =>
    refine fin (m := c - 48) (by omega) (by omega) ?_
    have := toD1 ⟨c - 48, by omega⟩ (by show 0 < c - 48; omega)
    dsimp only at this
    rw [this, show 48 + (c - 48) = c by omega]
  | [d], _, ha =>
    have h1 := ha d (by simp)
    refine fin (m := (c - 48) * 10 + (d - 48)) (by omega) (by omega) ?_
    have := toD2 ⟨c - 48, by omega⟩ ⟨d - 48, by omega⟩ (by show 0 < c - 48; omega)
    dsimp only at this
    rw [this, show 48 + (c - 48) = c by omega, show 48 + (d - 48) = d by omega]
  | [d, f], _, ha =>
    have h1 := ha d (by simp)
    have h2 := ha f (by simp)
    refine fin (m := (c - 48) * 100 + (d - 48) * 10 + (f - 48)) (by omega) (by omega) ?_
    have := toD3 ⟨c - 48, by omega⟩ ⟨d - 48, by omega⟩ ⟨f - 48, by omega⟩ (by show 0 < c - 48; omega)
    dsimp only at this
    rw [this, show 48 + (c - 48) = c by omega, show 48 + (d - 48) = d by omega, show 48 + (f - 48) = f by omega]
  | _ :: _ :: _ :: _, hl, _ => simp at hl
noncomputable def cw (w : Str) : Bool := decide (w.length ≤ 3) && (!decide (w.cps.toList.head? = some 48) && w.cps.toList.all fig)
theorem cw_iff {w : Str} (hw : w ≠ Str.ofString "") : cw w = true ↔ Num w := by
  unfold cw
  rw [Bool.and_eq_true, Bool.and_eq_true, decide_eq_true_eq, List.all_eq_true]
  constructor
  · rintro ⟨h1, h2, h3⟩
    refine ⟨h1, ?_, fun c hc => ?_⟩
    · cases e : w.cps.toList with
      | nil => exact absurd (M19.str_eq (by rw [e, empty_list])) hw
      | cons c r =>
        rw [e] at h2
        exact ⟨c, r, rfl, fun z => by rw [z] at h2; simp at h2⟩
    · have := h3 c hc
      unfold fig at this
      simpa using this
  · intro h
    refine ⟨h.len, ?_, fun c hc => ?_⟩
    · obtain ⟨c, r, e, n⟩ := h.ex
      rw [e]
      simpa using n
    · obtain ⟨a, b⟩ := h.all c hc
      unfold fig
      rw [decide_eq_true a, decide_eq_true b]
      rfl
theorem strN_inj {n m : Int} (h : 1 ≤ n ∧ n ≤ 999) (g : 1 ≤ m ∧ m ≤ 999) (e : strN n = strN m) : n = m := by
  have a := strN_reads h
  rw [e, strN_reads g] at a
  exact (Option.some.inj a).symm
noncomputable def num (w : Str) : Int := match (List.range 999).find? fun (k : Nat) => decide (w = strN (k + 1)) with
  | some k => k + 1
  | none => 0
theorem num_of {n : Int} (h : 1 ≤ n ∧ n ≤ 999) : num (strN n) = n := by
  unfold num
  cases q : (List.range 999).find? fun (k : Nat) => decide (strN n = strN (k + 1)) with
  | none =>
    have := List.find?_eq_none.mp q (n.toNat - 1) (List.mem_range.mpr (by omega))
    rw [decide_eq_true_eq, show (((n.toNat - 1 : Nat) : Int) + 1) = n by omega] at this
    exact absurd rfl this
  | some k =>
    have h1 := List.find?_some q
    have h2 := List.mem_range.mp (List.mem_of_find?_eq_some q)
    rw [decide_eq_true_eq] at h1
    exact (strN_inj h (by omega) h1).symm
theorem num_range (w : Str) : num w = 0 ∨ (1 ≤ num w ∧ num w ≤ 999) ∧ w = strN (num w) := by
  unfold num
  cases q : (List.range 999).find? fun (k : Nat) => decide (w = strN (k + 1)) with
  | none => exact .inl rfl
  | some k =>
    have h1 := List.find?_some q
    have h2 := List.mem_range.mp (List.mem_of_find?_eq_some q)
    rw [decide_eq_true_eq] at h1
    exact .inr ⟨⟨by show (1 : Int) ≤ k + 1; omega, by show (k : Int) + 1 ≤ 999; omega⟩, h1⟩
theorem cw_num {w : Str} (hw : w ≠ Str.ofString "") : cw w = !decide (num w = 0) := by
  by_cases h : Num w
  · obtain ⟨n, hn, rfl⟩ := num_strN h
    rw [(cw_iff hw).mpr h, num_of hn, decide_eq_false (by omega)]
    rfl
  · have : num w = 0 := by
      rcases num_range w with e | ⟨e, g⟩
      · exact e
      · exact absurd (by rw [g]; exact strN_num e) h
    rw [this]
    cases q : cw w with
    | true => exact absurd ((cw_iff hw).mp q) h
    | false => rfl
noncomputable def ALL : List Str := BARE ++ JUDGE ++ COUPLE
noncomputable def nums (f : Str) (r : List Str) : Option (List Int) :=
  if decide (f = Str.ofString "card") = false ∧ (r.length : Int) ≠ due f then none else if r.all cw = true then some (r.map num) else none
noncomputable def saidW (ws : List Str) : Option (Str × Str × List Int) :=
  if inW (Str.ofString "") ws = true then none else match ws with
    | [] => none
    | f :: r => if inW f ALL = false then none else if inW f JUDGE = false then (nums f r).map fun ns => (f, Str.ofString "", ns) else match r with
      | [] => none
      | j :: r => (nums f r).map fun ns => (f, j, ns)
noncomputable def said (z : Str) : Option (Str × Str × List Int) := saidW (Txt.split z blank)
theorem join_ge (c : Nat) : ∀ ws : List Str, ws.length ≤ (Str.join ⟨#[c]⟩ ws).cps.toList.length + 1
  | [] => Nat.zero_le _
  | [x] => by show 1 ≤ _; omega
  | x :: z :: r => by
    have ih := join_ge c (z :: r)
    rw [M19.join_list, List.length_append]
    simp only [List.length_cons] at ih ⊢
    omega
theorem split_len (z : Str) : (Txt.split z blank).length ≤ z.length + 1 := by
  have h := join_ge 32 (Txt.split z blank)
  rw [show Str.join ⟨#[32]⟩ (Txt.split z blank) = z from StrLaws.join_split _ _] at h
  rw [len_list]
  exact h
theorem join_word (c : Nat) : ∀ (ws : List Str), ∀ w ∈ ws, w.cps.toList.length ≤ (Str.join ⟨#[c]⟩ ws).cps.toList.length
  | [x], w, h => by rw [List.mem_singleton.mp h]; exact Nat.le_refl _
  | x :: z :: r, w, h => by
    rw [M19.join_list, List.length_append]
    simp only [List.length_cons]
    rcases List.mem_cons.mp h with e | h
    · rw [e]; omega
    · have := join_word c (z :: r) w h
      omega
theorem split_word {z w : Str} (h : w ∈ Txt.split z blank) : w.length ≤ z.length := by
  have := join_word 32 (Txt.split z blank) w h
  rw [show Str.join ⟨#[32]⟩ (Txt.split z blank) = z from StrLaws.join_split _ _] at this
  rw [len_list, len_list]
  exact this
end M57
set_option Elab.async false
set_option linter.all false
set_option maxRecDepth 100000
namespace M59
open PySem PySem.Builtin PySem.Builtin.Str

theorem sl_len (x : PySem.Str) (l u : Option Int) (k : Nat) (h : (strSliceIndices l u 1 x.length).length ≤ k) : (Txt.slice x l u).length ≤ k := by
  unfold Txt.slice
  split
  · rename_i e
    have : (strSliceIndices l u 1 x.length).length = x.length := by simpa using e
    omega
  · show (List.filterMap _ (strSliceIndices l u 1 x.length)).toArray.size ≤ k
    rw [List.size_toArray]
    exact Nat.le_trans (List.length_filterMap_le _ _) h
theorem sl_from (x : PySem.Str) {i : Int} (h : 0 ≤ i) : (Txt.slice x (some i) none).length ≤ x.length - i.toNat := by
  refine sl_len _ _ _ _ ?_
  unfold strSliceIndices sliceRange
  simp only [show (1 : Int) > 0 by decide, if_true, List.length_map, List.length_range]
  split <;> (try split) <;> (try split) <;> (try simp only [Int.ediv_one]) <;> omega
theorem sl_to (x : PySem.Str) {i : Int} (h : 0 ≤ i) : (Txt.slice x none (some i)).length ≤ i.toNat := by
  refine sl_len _ _ _ _ ?_
  unfold strSliceIndices sliceRange
  simp only [show (1 : Int) > 0 by decide, if_true, List.length_map, List.length_range]
  split <;> (try split) <;> (try split) <;> (try simp only [Int.ediv_one]) <;> omega
end M59
set_option Elab.async false
set_option linter.all false
set_option maxRecDepth 100000
namespace M57
open PySem L2 M20

theorem nums_spec {f : Str} {r : List Str} {ns : List Int} (h : nums f r = some ns) : (f = Str.ofString "card" ∨ (ns.length : Int) = due f) ∧ ns.length = r.length := by
  unfold nums at h
  split at h
  · cases h
  rename_i h1
  split at h
  · cases h
    rw [List.length_map]
    refine ⟨?_, rfl⟩
    by_cases hc : f = Str.ofString "card"
    · exact .inl hc
    · refine .inr ?_
      by_cases hd : (r.length : Int) = due f
      · exact hd
      · exact absurd ⟨decide_eq_false hc, hd⟩ h1
  · cases h
theorem said_spec {z f j : Str} {ns : List Int} (h : said z = some (f, j, ns)) : inW f ALL = true ∧ (f = Str.ofString "card" ∨ (ns.length : Int) = due f) ∧ ns.length ≤ z.length := by
  unfold said at h
  have hl := split_len z
  generalize Txt.split z blank = ws at h hl
  unfold saidW at h
  by_cases he : inW (Str.ofString "") ws = true
  · rw [if_pos he] at h; cases h
  rw [if_neg he] at h
  obtain _ | ⟨f', r⟩ := ws
  · cases h
  dsimp only at h
  cases hA : inW f' ALL with
  | false => rw [if_pos hA] at h; cases h
  | true =>
  rw [if_neg (by rw [hA]; exact fun z => Bool.noConfusion z)] at h
  cases hJ : inW f' JUDGE with
  | false =>
    rw [if_pos hJ] at h
    cases q : nums f' r with
    | none => rw [q] at h; cases h
    | some ms =>
      rw [q] at h
      cases h
      obtain ⟨a, b⟩ := nums_spec q
      rw [List.length_cons] at hl
      exact ⟨hA, a, by omega⟩
  | true =>
    rw [if_neg (by rw [hJ]; exact fun z => Bool.noConfusion z)] at h
    obtain _ | ⟨j', r⟩ := r
    · cases h
    dsimp only at h
    cases q : nums f' r with
    | none => rw [q] at h; cases h
    | some ms =>
      rw [q] at h
      cases h
      obtain ⟨a, b⟩ := nums_spec q
      simp only [List.length_cons] at hl
      exact ⟨hA, a, by omega⟩
noncomputable def TOLD : List Str := ["couples", "show", "places", "leave", "step", "parts", "deciders", "row"]
noncomputable def CLS : List Str := ["SheetSealed", "UnknownJudge", "BadCard", "TooManyCards", "UnknownCouple", "LastCouple", "NoCard", "TooFewCards"]
noncomputable def CLT : List Str := ["UnknownJudge", "NoCard", "TooFewCards"]
theorem all_cases {f : Str} (h : inW f ALL = true) : f = Str.ofString "card" ∨ f = Str.ofString "strike" ∨ f = Str.ofString "seal" ∨ f ∈ TOLD := by
  unfold inW inV at h
  rw [List.any_eq_true] at h
  obtain ⟨v, hv, e⟩ := h
  obtain ⟨w, hw, rfl⟩ := List.mem_map.mp hv
  have e : w = f := by
    have : (w == f) = true := e
    simpa using this
  subst e
  have go : ∀ w ∈ ALL, w = Str.ofString "card" ∨ w = Str.ofString "strike" ∨ w = Str.ofString "seal" ∨ w ∈ TOLD := by decide +kernel
  exact go w hw
noncomputable def RW : Str := Str.ofString "refused: row"
theorem handed_nil {S : Sh} (h : ∀ j, S.card j = none) : S.handed = [] := by
  unfold Sh.handed
  rw [List.filter_eq_nil_iff]
  intro j _
  rw [h j]
  exact Bool.false_ne_true
end M57
set_option Elab.async false
set_option linter.all false
set_option maxRecDepth 100000
namespace M57
open PySem L2 M20

noncomputable def FORMS : List Str := ["seal couples places parts deciders=", "show leave=j", "strike row=c", "step=jc", "card=jm"]
noncomputable def HD : List Str := ["seal couples places parts deciders", "show leave", "strike row", "step", "card"]
noncomputable def PLW : List (List Str) := [["seal", "couples", "places", "parts", "deciders"], ["show", "leave"], ["strike", "row"], ["step"], ["card"]]
noncomputable def PLN : List Str := ["", "j", "c", "jc", "jm"]
theorem forms_split : ∀ k : Fin 5, Txt.split (FORMS.getD k.val "") "=" = [HD.getD k.val "", PLN.getD k.val ""] ∧ Txt.split (HD.getD k.val "") " " = PLW.getD k.val [] ∧ (FORMS.getD k.val "").length ≤ 60 ∧ (HD.getD k.val "").length ≤ 60 ∧ (PLW.getD k.val []).length ≤ 5 := by decide +kernel
noncomputable def planAt (f : Str) : Nat → Str
  | 0 => "?"
  | k + 1 => if f ∈ PLW.getD k [] then PLN.getD k "" else planAt f k
theorem inW_eq (f : Str) (l : List Str) : inW f l = decide (f ∈ l) := inV_strs l f
theorem plan_no {f : Str} (h : inW f ALL = false) : planAt f 5 = "?" := by
  rw [inW_eq, decide_eq_false_iff_not] at h
  have go : ∀ k : Nat, k ≤ 5 → planAt f k = "?" := fun k => by
    induction k with
    | zero => exact fun _ => rfl
    | succ k ih =>
      intro hk
      have sub : ∀ k : Fin 5, ∀ w ∈ PLW.getD k.val [], w ∈ ALL := by decide +kernel
      unfold planAt
      rw [if_neg fun z => h (sub ⟨k, by omega⟩ f z)]
      exact ih (by omega)
  exact go 5 (Nat.le_refl _)
theorem plan_yes {f : Str} (h : inW f ALL = true) : planAt f 5 ≠ "?" ∧ decide (Txt.slice (planAt f 5) none (some 1) = "j") = inW f JUDGE ∧ decide (Txt.slice (planAt f 5) (some (-1)) none = "c") = (!decide (f = Str.ofString "card") && decide (due f = 1)) ∧
    decide (planAt f 5 ∈ ([Str.ofString "", Str.ofString "j"] : List Str)) = (!decide (f = Str.ofString "card") && decide (due f = 0)) ∧ (planAt f 5).length ≤ 2 := by
  rw [inW_eq, decide_eq_true_eq] at h
  have go : ∀ f ∈ ALL, planAt f 5 ≠ "?" ∧ decide (Txt.slice (planAt f 5) none (some 1) = "j") = inW f JUDGE ∧ decide (Txt.slice (planAt f 5) (some (-1)) none = "c") = (!decide (f = Str.ofString "card") && decide (due f = 1)) ∧
    decide (planAt f 5 ∈ ([Str.ofString "", Str.ofString "j"] : List Str)) = (!decide (f = Str.ofString "card") && decide (due f = 0)) ∧ (planAt f 5).length ≤ 2 := by decide +kernel
  exact go f h
theorem due_01 (f : Str) : due f = 0 ∨ due f = 1 := by unfold due; split <;> simp
theorem nums_eq {f : Str} {r : List Str} (hr : ∀ w ∈ r, w ≠ Str.ofString "") : nums f r = if (0 : Int) ∈ r.map num ∨ ((f ≠ Str.ofString "card" ∧ due f = 1) ∧ r.length ≠ 1) ∨ ((f ≠ Str.ofString "card" ∧ due f = 0) ∧ r ≠ []) then none else some (r.map num) := by
  have h0 : r.all cw = true ↔ ¬ (0 : Int) ∈ r.map num := by
    rw [List.all_eq_true]
    constructor
    · intro h z
      obtain ⟨w, hw, e⟩ := List.mem_map.mp z
      have := h w hw
      rw [cw_num (hr w hw), e] at this
      cases this
    · intro h w hw
      rw [cw_num (hr w hw)]
      have : num w ≠ 0 := fun e => h (by rw [← e]; exact List.mem_map.mpr ⟨w, hw, rfl⟩)
      rw [decide_eq_false this]
      rfl
  unfold nums
  by_cases hc : f = Str.ofString "card"
  · rw [if_neg (fun z => by rw [decide_eq_true hc] at z; exact Bool.noConfusion z.1)]
    by_cases hz : (0 : Int) ∈ r.map num
    · rw [if_neg fun z => (h0.mp z) hz, if_pos (.inl hz)]
    · rw [if_pos (h0.mpr hz), if_neg]
      rintro (z | z | z)
      · exact hz z
      · exact z.1.1 hc
      · exact z.1.1 hc
  · by_cases hd : (r.length : Int) = due f
    · rw [if_neg fun z => z.2 hd]
      by_cases hz : (0 : Int) ∈ r.map num
      · rw [if_neg fun z => (h0.mp z) hz, if_pos (.inl hz)]
      · rw [if_pos (h0.mpr hz), if_neg]
        rintro (z | z | z)
        · exact hz z
        · have := z.1.2; omega
        · have h := z.1.2
          exact z.2 (List.eq_nil_of_length_eq_zero (by omega))
    · rw [if_pos ⟨decide_eq_false hc, hd⟩, if_pos]
      rcases due_01 f with e | e
      · refine .inr (.inr ⟨⟨hc, e⟩, fun z => hd ?_⟩)
        rw [z, e]; rfl
      · exact .inr (.inl ⟨⟨hc, e⟩, by omega⟩)
end M57
set_option Elab.async false
set_option linter.all false
set_option maxRecDepth 100000
set_option maxHeartbeats 4000000
namespace Pp
open PySem L2
noncomputable def top (i : Nat) : Stmt := PySem.Challenge.pw_panelplace_k33_rows_not_read.main.body.getD i (.Pass ⟨0, 0, 0, 0⟩)
structure Txt (K : PySem.W.Frag) (mg : Str → Option Value) : Prop where
  b_all : mg "all" = none
  b_bool : mg "bool" = none
  b_int : mg "int" = none
  b_isinstance : mg "isinstance" = none
  b_len : mg "len" = none
  b_list : mg "list" = none
  b_range : mg "range" = none
  b_set : mg "set" = none
  b_sorted : mg "sorted" = none
  b_str : mg "str" = none
  b_tuple : mg "tuple" = none
  c_BARE_WORDS : CTup K mg "BARE_WORDS" ["seal", "couples", "places", "parts", "deciders"]
  c_JUDGE_WORDS : CTup K mg "JUDGE_WORDS" ["card", "show", "leave", "step"]
  c_COUPLE_WORDS : CTup K mg "COUPLE_WORDS" ["strike", "step", "row"]
  c_MOST_FIGURES : ∃ t, mg "MOST_FIGURES" = some (.int 3 t)
  c_MOST_COUPLES : ∃ t, mg "MOST_COUPLES" = some (.int 24 t)
  c_MOST_JUDGES : ∃ t, mg "MOST_JUDGES" = some (.int 15 t)
  c_MOST_NUMBER : ∃ t, mg "MOST_NUMBER" = some (.int 999 t)
  c_MOST_SIGNS : ∃ t, mg "MOST_SIGNS" = some (.int 8 t)
  c_MOST_CARDS : ∃ t, mg "MOST_CARDS" = some (.int 200 t)
  x_PanelError : ∃ C, ClsN K "PanelError" C ∧ mg "PanelError" = some (.ref C) ∧ ExC K C
  x_BadCouples : ∃ C, ClsN K "BadCouples" C ∧ mg "BadCouples" = some (.ref C) ∧ ExC K C
  x_BadJudges : ∃ C, ClsN K "BadJudges" C ∧ mg "BadJudges" = some (.ref C) ∧ ExC K C
  x_SheetSealed : ∃ C, ClsN K "SheetSealed" C ∧ mg "SheetSealed" = some (.ref C) ∧ ExC K C
  s_SheetSealed_SheetSealed : ∀ C D, ClsN K "SheetSealed" C → ClsN K "SheetSealed" D → subIn K C D = true
  s_SheetSealed_BadRow : ∀ C D, ClsN K "SheetSealed" C → ClsN K "BadRow" D → subIn K C D = false
  x_UnknownJudge : ∃ C, ClsN K "UnknownJudge" C ∧ mg "UnknownJudge" = some (.ref C) ∧ ExC K C
  s_UnknownJudge_SheetSealed : ∀ C D, ClsN K "UnknownJudge" C → ClsN K "SheetSealed" D → subIn K C D = false
  s_UnknownJudge_UnknownJudge : ∀ C D, ClsN K "UnknownJudge" C → ClsN K "UnknownJudge" D → subIn K C D = true
  s_UnknownJudge_BadRow : ∀ C D, ClsN K "UnknownJudge" C → ClsN K "BadRow" D → subIn K C D = false
  x_BadCard : ∃ C, ClsN K "BadCard" C ∧ mg "BadCard" = some (.ref C) ∧ ExC K C
  s_BadCard_SheetSealed : ∀ C D, ClsN K "BadCard" C → ClsN K "SheetSealed" D → subIn K C D = false
  s_BadCard_UnknownJudge : ∀ C D, ClsN K "BadCard" C → ClsN K "UnknownJudge" D → subIn K C D = false
  s_BadCard_BadCard : ∀ C D, ClsN K "BadCard" C → ClsN K "BadCard" D → subIn K C D = true
  s_BadCard_BadRow : ∀ C D, ClsN K "BadCard" C → ClsN K "BadRow" D → subIn K C D = false
  x_TooManyCards : ∃ C, ClsN K "TooManyCards" C ∧ mg "TooManyCards" = some (.ref C) ∧ ExC K C
  s_TooManyCards_SheetSealed : ∀ C D, ClsN K "TooManyCards" C → ClsN K "SheetSealed" D → subIn K C D = false
  s_TooManyCards_UnknownJudge : ∀ C D, ClsN K "TooManyCards" C → ClsN K "UnknownJudge" D → subIn K C D = false
  s_TooManyCards_BadCard : ∀ C D, ClsN K "TooManyCards" C → ClsN K "BadCard" D → subIn K C D = false
  s_TooManyCards_TooManyCards : ∀ C D, ClsN K "TooManyCards" C → ClsN K "TooManyCards" D → subIn K C D = true
  s_TooManyCards_BadRow : ∀ C D, ClsN K "TooManyCards" C → ClsN K "BadRow" D → subIn K C D = false
  x_UnknownCouple : ∃ C, ClsN K "UnknownCouple" C ∧ mg "UnknownCouple" = some (.ref C) ∧ ExC K C
  s_UnknownCouple_SheetSealed : ∀ C D, ClsN K "UnknownCouple" C → ClsN K "SheetSealed" D → subIn K C D = false
  s_UnknownCouple_UnknownJudge : ∀ C D, ClsN K "UnknownCouple" C → ClsN K "UnknownJudge" D → subIn K C D = false
  s_UnknownCouple_BadCard : ∀ C D, ClsN K "UnknownCouple" C → ClsN K "BadCard" D → subIn K C D = false
  s_UnknownCouple_TooManyCards : ∀ C D, ClsN K "UnknownCouple" C → ClsN K "TooManyCards" D → subIn K C D = false
  s_UnknownCouple_UnknownCouple : ∀ C D, ClsN K "UnknownCouple" C → ClsN K "UnknownCouple" D → subIn K C D = true
  s_UnknownCouple_BadRow : ∀ C D, ClsN K "UnknownCouple" C → ClsN K "BadRow" D → subIn K C D = false
  x_LastCouple : ∃ C, ClsN K "LastCouple" C ∧ mg "LastCouple" = some (.ref C) ∧ ExC K C
  s_LastCouple_SheetSealed : ∀ C D, ClsN K "LastCouple" C → ClsN K "SheetSealed" D → subIn K C D = false
  s_LastCouple_UnknownJudge : ∀ C D, ClsN K "LastCouple" C → ClsN K "UnknownJudge" D → subIn K C D = false
  s_LastCouple_BadCard : ∀ C D, ClsN K "LastCouple" C → ClsN K "BadCard" D → subIn K C D = false
  s_LastCouple_TooManyCards : ∀ C D, ClsN K "LastCouple" C → ClsN K "TooManyCards" D → subIn K C D = false
  s_LastCouple_UnknownCouple : ∀ C D, ClsN K "LastCouple" C → ClsN K "UnknownCouple" D → subIn K C D = false
  s_LastCouple_LastCouple : ∀ C D, ClsN K "LastCouple" C → ClsN K "LastCouple" D → subIn K C D = true
  s_LastCouple_BadRow : ∀ C D, ClsN K "LastCouple" C → ClsN K "BadRow" D → subIn K C D = false
  x_NoCard : ∃ C, ClsN K "NoCard" C ∧ mg "NoCard" = some (.ref C) ∧ ExC K C
  s_NoCard_SheetSealed : ∀ C D, ClsN K "NoCard" C → ClsN K "SheetSealed" D → subIn K C D = false
  s_NoCard_UnknownJudge : ∀ C D, ClsN K "NoCard" C → ClsN K "UnknownJudge" D → subIn K C D = false
  s_NoCard_BadCard : ∀ C D, ClsN K "NoCard" C → ClsN K "BadCard" D → subIn K C D = false
  s_NoCard_TooManyCards : ∀ C D, ClsN K "NoCard" C → ClsN K "TooManyCards" D → subIn K C D = false
  s_NoCard_UnknownCouple : ∀ C D, ClsN K "NoCard" C → ClsN K "UnknownCouple" D → subIn K C D = false
  s_NoCard_LastCouple : ∀ C D, ClsN K "NoCard" C → ClsN K "LastCouple" D → subIn K C D = false
  s_NoCard_NoCard : ∀ C D, ClsN K "NoCard" C → ClsN K "NoCard" D → subIn K C D = true
  s_NoCard_BadRow : ∀ C D, ClsN K "NoCard" C → ClsN K "BadRow" D → subIn K C D = false
  x_TooFewCards : ∃ C, ClsN K "TooFewCards" C ∧ mg "TooFewCards" = some (.ref C) ∧ ExC K C
  s_TooFewCards_SheetSealed : ∀ C D, ClsN K "TooFewCards" C → ClsN K "SheetSealed" D → subIn K C D = false
  s_TooFewCards_UnknownJudge : ∀ C D, ClsN K "TooFewCards" C → ClsN K "UnknownJudge" D → subIn K C D = false
  s_TooFewCards_BadCard : ∀ C D, ClsN K "TooFewCards" C → ClsN K "BadCard" D → subIn K C D = false
  s_TooFewCards_TooManyCards : ∀ C D, ClsN K "TooFewCards" C → ClsN K "TooManyCards" D → subIn K C D = false
  s_TooFewCards_UnknownCouple : ∀ C D, ClsN K "TooFewCards" C → ClsN K "UnknownCouple" D → subIn K C D = false
  s_TooFewCards_LastCouple : ∀ C D, ClsN K "TooFewCards" C → ClsN K "LastCouple" D → subIn K C D = false
  s_TooFewCards_NoCard : ∀ C D, ClsN K "TooFewCards" C → ClsN K "NoCard" D → subIn K C D = false
  s_TooFewCards_TooFewCards : ∀ C D, ClsN K "TooFewCards" C → ClsN K "TooFewCards" D → subIn K C D = true
  s_TooFewCards_BadRow : ∀ C D, ClsN K "TooFewCards" C → ClsN K "BadRow" D → subIn K C D = false
  x_BadRow : ∃ C, ClsN K "BadRow" C ∧ mg "BadRow" = some (.ref C) ∧ ExC K C
  i_BadRow : ∀ C, ClsN K "BadRow" C → exI K C = true
  s_BadRow_PanelError : ∀ C D, ClsN K "BadRow" C → ClsN K "PanelError" D → subIn K C D = true
  k_BadRow_SheetSealed : ∀ C D, ClsN K "BadRow" C → ClsN K "SheetSealed" D → PySem.W.kitOne K (.ref C) (.ref D) = some false
  k_BadRow_UnknownJudge : ∀ C D, ClsN K "BadRow" C → ClsN K "UnknownJudge" D → PySem.W.kitOne K (.ref C) (.ref D) = some false
  k_BadRow_BadCard : ∀ C D, ClsN K "BadRow" C → ClsN K "BadCard" D → PySem.W.kitOne K (.ref C) (.ref D) = some false
  k_BadRow_UnknownCouple : ∀ C D, ClsN K "BadRow" C → ClsN K "UnknownCouple" D → PySem.W.kitOne K (.ref C) (.ref D) = some false
  s_BadRow_BadRow : ∀ C D, ClsN K "BadRow" C → ClsN K "BadRow" D → subIn K C D = true
  k_BadRow_BadRow : ∀ C D, ClsN K "BadRow" C → ClsN K "BadRow" D → PySem.W.kitOne K (.ref C) (.ref D) = some true
  cl_Sheet : Cls K (clsA K "Sheet")
  n_Sheet_standing : NoAttr K (clsA K "Sheet") "standing"
  n_Sheet_struck_so_far : NoAttr K (clsA K "Sheet") "struck_so_far"
  n_Sheet_panel : NoAttr K (clsA K "Sheet") "panel"
  n_Sheet_card_by_judge : NoAttr K (clsA K "Sheet") "card_by_judge"
  n_Sheet_taken_so_far : NoAttr K (clsA K "Sheet") "taken_so_far"
  n_Sheet_sealed : NoAttr K (clsA K "Sheet") "sealed"
noncomputable abbrev s_Sheet_refuse_if_sealed : Stmt := inClass (top 74) 12
theorem sc_Sheet_refuse_if_sealed : FnScope ["self"] ["self"] (defScope s_Sheet_refuse_if_sealed) := scM
noncomputable abbrev s_Sheet_refuse_unknown_judge : Stmt := inClass (top 74) 13
noncomputable abbrev ps_Sheet_refuse_unknown_judge : List Str := ["self", "judge"]
theorem sc_Sheet_refuse_unknown_judge : FnScope ["self", "judge"] ps_Sheet_refuse_unknown_judge (defScope s_Sheet_refuse_unknown_judge) := scM
noncomputable abbrev s_Sheet_couples : Stmt := inClass (top 74) 4
theorem sc_Sheet_couples : FnScope ["self"] ["self"] (defScope s_Sheet_couples) := scM
noncomputable abbrev s_Sheet_handed : Stmt := inClass (top 74) 7
theorem sc_Sheet_handed : FnScope ["self"] ["self"] (defScope s_Sheet_handed) := scM
noncomputable abbrev s_due_couples : Stmt := top 22
theorem sc_due_couples : FnScope ["first"] ["first"] (defScope s_due_couples) := scM
noncomputable abbrev s_figure : Stmt := top 25
theorem sc_figure : FnScope ["sign"] ["sign"] (defScope s_figure) := scM
noncomputable abbrev s_whole_card : Stmt := top 27
noncomputable abbrev ps_whole_card : List Str := ["card", "couples"]
theorem sc_whole_card : FnScope ["card", "couples"] ps_whole_card (defScope s_whole_card) := scM
noncomputable abbrev s_without_couple : Stmt := top 29
noncomputable abbrev ps_without_couple : List Str := ["card", "couple"]
theorem sc_without_couple : FnScope ["card", "couple"] ps_without_couple (defScope s_without_couple) := scM
noncomputable abbrev s_good_number : Stmt := top 67
theorem sc_good_number : FnScope ["couple"] ["couple"] (defScope s_good_number) := scM
noncomputable abbrev s_small_letter : Stmt := top 69
theorem sc_small_letter : FnScope ["sign"] ["sign"] (defScope s_small_letter) := scM
noncomputable abbrev s_good_length : Stmt := top 70
noncomputable abbrev ps_good_length : List Str := ["things", "most"]
theorem sc_good_length : FnScope ["things", "most"] ps_good_length (defScope s_good_length) := scM
noncomputable abbrev s_all_unlike : Stmt := top 71
theorem sc_all_unlike : FnScope ["things"] ["things"] (defScope s_all_unlike) := scM
noncomputable abbrev s_numbers_text : Stmt := top 82
theorem sc_numbers_text : FnScope ["couples"] ["couples"] (defScope s_numbers_text) := scM
noncomputable abbrev s_ranking_text : Stmt := top 83
theorem sc_ranking_text : FnScope ["rows"] ["rows"] (defScope s_ranking_text) := scM
noncomputable abbrev s_places_text : Stmt := top 84
noncomputable abbrev ps_places_text : List Str := ["sheet", "places"]
theorem sc_places_text : FnScope ["sheet", "places"] ps_places_text (defScope s_places_text) := scM
noncomputable abbrev s_text_or_none : Stmt := top 86
theorem sc_text_or_none : FnScope ["words"] ["words"] (defScope s_text_or_none) := scM
noncomputable abbrev s_law_whole : Stmt := top 88
noncomputable abbrev ps_law_whole : List Str := ["_law_found_here"]
theorem sc_law_whole : FnScope ["_law_found_here"] ps_law_whole (defScope s_law_whole) := scM
noncomputable abbrev s_law_at : Stmt := top 89
noncomputable abbrev ps_law_at : List Str := ["_law_script", "_law_k"]
theorem sc_law_at : FnScope ["_law_script", "_law_k"] ps_law_at (defScope s_law_at) := scM
noncomputable abbrev s_law_mix : Stmt := top 91
noncomputable abbrev ps_law_mix : List Str := ["_law_cell", "_law_place"]
theorem sc_law_mix : FnScope ["_law_cell", "_law_place", "_law_once"] ps_law_mix (defScope s_law_mix) := scM
noncomputable abbrev s_law_spoiled : Stmt := top 92
noncomputable abbrev ps_law_spoiled : List Str := ["_law_row", "_law_cell"]
theorem sc_law_spoiled : FnScope ["_law_row", "_law_cell", "_law_kind", "_law_spot", "_law_words", "_law_other"] ps_law_spoiled (defScope s_law_spoiled) := scM
noncomputable abbrev s_law_number : Stmt := top 93
theorem sc_law_number : FnScope ["_law_word", "_law_number_here"] ["_law_word"] (defScope s_law_number) := scM
noncomputable abbrev s_Sheet_hand_in : Stmt := inClass (top 74) 1
noncomputable abbrev ps_Sheet_hand_in : List Str := ["self", "judge", "card"]
theorem sc_Sheet_hand_in : FnScope ["self", "judge", "card"] ps_Sheet_hand_in (defScope s_Sheet_hand_in) := scM
noncomputable abbrev s_Sheet_strike : Stmt := inClass (top 74) 2
noncomputable abbrev ps_Sheet_strike : List Str := ["self", "couple"]
theorem sc_Sheet_strike : FnScope ["self", "couple", "judge"] ps_Sheet_strike (defScope s_Sheet_strike) := scM
noncomputable abbrev s_Sheet_seal : Stmt := inClass (top 74) 3
theorem sc_Sheet_seal : FnScope ["self"] ["self"] (defScope s_Sheet_seal) := scM
noncomputable abbrev s_Sheet_card_of : Stmt := inClass (top 74) 9
noncomputable abbrev ps_Sheet_card_of : List Str := ["self", "judge"]
theorem sc_Sheet_card_of : FnScope ["self", "judge"] ps_Sheet_card_of (defScope s_Sheet_card_of) := scM
noncomputable abbrev s_couple_word : Stmt := top 24
theorem sc_couple_word : FnScope ["word"] ["word"] (defScope s_couple_word) := scM
noncomputable abbrev s_refuse_fewer_cards : Stmt := top 57
noncomputable abbrev ps_refuse_fewer_cards : List Str := ["sheet", "least"]
theorem sc_refuse_fewer_cards : FnScope ["sheet", "least"] ps_refuse_fewer_cards (defScope s_refuse_fewer_cards) := scM
noncomputable abbrev s_good_couples : Stmt := top 65
theorem sc_good_couples : FnScope ["couples"] ["couples"] (defScope s_good_couples) := scM
noncomputable abbrev s_good_name : Stmt := top 68
theorem sc_good_name : FnScope ["judge"] ["judge"] (defScope s_good_name) := scM
noncomputable abbrev s_law_same : Stmt := top 90
noncomputable abbrev ps_law_same : List Str := ["_law_found_here", "_law_due"]
theorem sc_law_same : FnScope ["_law_found_here", "_law_due", "_law_k"] ps_law_same (defScope s_law_same) := scM
noncomputable abbrev s_law_read : Stmt := top 94
noncomputable abbrev nn_law_read : List Str := ["_law_row", "_law_words", "_law_plan", "_law_forms", "_law_rest", "_law_judge", "_law_numbers"]
theorem sc_law_read : FnScope nn_law_read ["_law_row"] (defScope s_law_read) := scM
noncomputable abbrev s_read_couple : Stmt := top 23
theorem sc_read_couple : FnScope ["word"] ["word"] (defScope s_read_couple) := scM
noncomputable abbrev s_places : Stmt := top 50
theorem sc_places : FnScope ["sheet"] ["sheet"] (defScope s_places) := scM
noncomputable abbrev s_ranking : Stmt := top 51
theorem sc_ranking : FnScope ["sheet"] ["sheet"] (defScope s_ranking) := scM
noncomputable abbrev s_partings : Stmt := top 53
theorem sc_partings : FnScope ["sheet"] ["sheet"] (defScope s_partings) := scM
noncomputable abbrev s_left_out : Stmt := top 54
noncomputable abbrev ps_left_out : List Str := ["sheet", "judge"]
theorem sc_left_out : FnScope ["sheet", "judge"] ps_left_out (defScope s_left_out) := scM
noncomputable abbrev s_deciders : Stmt := top 55
theorem sc_deciders : FnScope ["sheet", "now"] ["sheet"] (defScope s_deciders) := scM
noncomputable abbrev s_step_up : Stmt := top 56
noncomputable abbrev nn_step_up : List Str := ["sheet", "judge", "couple", "card", "stepped", "passed", "cards"]
noncomputable abbrev ps_step_up : List Str := ["sheet", "judge", "couple"]
theorem sc_step_up : FnScope nn_step_up ps_step_up (defScope s_step_up) := scM
noncomputable abbrev s_good_judges : Stmt := top 66
theorem sc_good_judges : FnScope ["judges"] ["judges"] (defScope s_good_judges) := scM
noncomputable abbrev s_Sheet_init : Stmt := inClass (top 74) 0
noncomputable abbrev ps_Sheet_init : List Str := ["self", "couples", "judges"]
theorem sc_Sheet_init : FnScope ["self", "couples", "judges"] ps_Sheet_init (defScope s_Sheet_init) := scM
noncomputable abbrev s_read_couples : Stmt := top 21
noncomputable abbrev ps_read_couples : List Str := ["first", "words"]
theorem sc_read_couples : FnScope ["first", "words"] ps_read_couples (defScope s_read_couples) := scM
noncomputable abbrev s_table_row : Stmt := top 76
noncomputable abbrev ps_table_row : List Str := ["sheet", "couple"]
theorem sc_table_row : FnScope ["sheet", "couple", "all_places"] ps_table_row (defScope s_table_row) := scM
noncomputable abbrev s_step_text : Stmt := top 85
noncomputable abbrev ps_step_text : List Str := ["sheet", "judge", "couple"]
theorem sc_step_text : FnScope ["sheet", "judge", "couple", "step"] ps_step_text (defScope s_step_text) := scM
noncomputable abbrev s_read_row : Stmt := top 20
theorem sc_read_row : FnScope ["row", "words", "first"] ["row"] (defScope s_read_row) := scM
noncomputable abbrev s_only_told : Stmt := top 81
noncomputable abbrev nn_only_told : List Str := ["sheet", "first", "judge", "couples"]
noncomputable abbrev ps_only_told : List Str := ["sheet", "first", "judge", "couples"]
theorem sc_only_told : FnScope nn_only_told ps_only_told (defScope s_only_told) := scM
noncomputable abbrev s_done_and_told : Stmt := top 80
noncomputable abbrev ps_done_and_told : List Str := ["sheet", "first", "judge", "couples"]
theorem sc_done_and_told : FnScope ["sheet", "first", "judge", "couples"] ps_done_and_told (defScope s_done_and_told) := scM
noncomputable abbrev s_law_found : Stmt := top 95
theorem sc_law_found : FnScope ["_law_row", "_law_told", "e"] ["_law_row"] (defScope s_law_found) := scM
noncomputable abbrev s_answer : Stmt := top 79
noncomputable abbrev ps_answer : List Str := ["sheet", "row"]
theorem sc_answer : FnScope ["sheet", "row", "said"] ps_answer (defScope s_answer) := scM
noncomputable abbrev s_law_right : Stmt := top 96
theorem sc_law_right : FnScope ["_law_row", "_law_due", "_law_found_here", "_law_late", "_law_told", "_law_text"] ["_law_row"] (defScope s_law_right) := scM
noncomputable abbrev s_law : Stmt := top 97
theorem sc_law : FnScope ["_law_script", "_law_rows", "_law_k", "_law_cell", "_law_row", "_law_turn"] ["_law_script"] (defScope s_law) := scM
end Pp

namespace Pp
open PySem L2
inductive sp_Sheet_refuse_if_sealed (K : PySem.W.Frag) (vs : List V) (H : Hp) (Q : VK) (E : XK) : Prop
  | mk (p : Addr) (F : Addr → Prop) (S : Sh) : vs = [.ref p] → SheetAt K H p F S → ((S.shut = true → ∀ C, ClsN K "SheetSealed" C → E (.ref C) none H)) → ((S.shut = false → Q .non H)) → sp_Sheet_refuse_if_sealed K vs H Q E
section
variable {P : Program} {w : World} {K : PySem.W.Frag} {mg : Str → Option Value} {base : Heap}
theorem ok_Sheet_refuse_if_sealed {f : Addr} {fd : FuncData} (F : Fun K "refuse_if_sealed" "Sheet.refuse_if_sealed" s_Sheet_refuse_if_sealed f fd) (T : Txt K mg) : FnOk P w K mg base (CX1 P w) 1 f fd ["self"] (sp_Sheet_refuse_if_sealed K) := by
  obtain ⟨c_SheetSealed, n_SheetSealed, m_SheetSealed, x_SheetSealed⟩ := T.x_SheetSealed
  refine F.okX sc_Sheet_refuse_if_sealed (fun vs H Q E h => ?_) (fun X W cdv A outer s H vs Q E hX hW fl md hr h => ?_)
  · obtain ⟨p, F, S, rfl, _⟩ := h
    rfl
  · obtain ⟨p, F, S, rfl, ⟨dx, a1, a2, a3, d, kvs, h⟩, qE, q⟩ := h
    subst hX
    refine ⟨_, (pss_one (ps_if (pt_val (pe_fld (pv 0) rfl)) (pss_one (ps_raise rfl md rfl m_SheetSealed x_SheetSealed (pa_cons pe_str pa_nil))) pss_nil)), ?_⟩
    refine ⟨_, rfl, p, _, dx, _, _, rfl, h.ip, T.cl_Sheet, T.n_Sheet_sealed, rfl, _, rfl, iteB (fun hs => ?_) (fun hs => q hs)⟩
    exact ⟨(by show 1 ≤ sizeLine; decide), by rw [hW]; exact qE hs _ n_SheetSealed⟩
end
end Pp

namespace Pp
open PySem L2
inductive sp_Sheet_refuse_unknown_judge (K : PySem.W.Frag) (vs : List V) (H : Hp) (Q : VK) (E : XK) : Prop
  | mk (p : Addr) (F : Addr → Prop) (S : Sh) (j : Str) : vs = [.ref p, .str j] → SheetAt K H p F S → ((j ∉ S.panel → ∀ C, ClsN K "UnknownJudge" C → E (.ref C) none H)) → ((j ∈ S.panel → Q .non H)) → sp_Sheet_refuse_unknown_judge K vs H Q E
section
variable {P : Program} {w : World} {K : PySem.W.Frag} {mg : Str → Option Value} {base : Heap}
theorem ok_Sheet_refuse_unknown_judge {f : Addr} {fd : FuncData} (F : Fun K "refuse_unknown_judge" "Sheet.refuse_unknown_judge" s_Sheet_refuse_unknown_judge f fd) (T : Txt K mg) : FnOk P w K mg base (CX1 P w) 1 f fd ps_Sheet_refuse_unknown_judge (sp_Sheet_refuse_unknown_judge K) := by
  obtain ⟨c_UnknownJudge, n_UnknownJudge, m_UnknownJudge, x_UnknownJudge⟩ := T.x_UnknownJudge
  refine F.okX sc_Sheet_refuse_unknown_judge (fun vs H Q E h => ?_) (fun X W cdv A outer s H vs Q E hX hW fl md hr h => ?_)
  · obtain ⟨p, F, S, j, rfl, _⟩ := h
    rfl
  · obtain ⟨p, F, S, j, rfl, ⟨dx, a1, a2, a3, d, kvs, h⟩, qE, q⟩ := h
    subst hX
    refine ⟨_, (pss_one (ps_if (pt_cmpR op_notIn_seq (pv 1) (pe_fld (pv 0) rfl) (by first | exact nomark _ | rfl)) (pss_one (ps_raise rfl md rfl m_UnknownJudge x_UnknownJudge (pa_cons pe_str pa_nil))) pss_nil)), ?_⟩
    refine ⟨_, rfl, _, rfl, p, _, dx, _, _, rfl, h.ip, T.cl_Sheet, T.n_Sheet_panel, rfl, _, _, rfl, .inl (SqL.of h.i3), rfl, flat_strs _, _, rfl, ?_⟩
    rw [inV_strs]
    refine iteND (fun hj => ?_) (fun hj => q hj)
    exact ⟨(by show 1 ≤ sizeLine; decide), by rw [hW]; exact qE hj _ n_UnknownJudge⟩
end
end Pp

namespace Pp
open PySem L2
inductive sp_Sheet_couples (K : PySem.W.Frag) (vs : List V) (H : Hp) (Q : VK) (E : XK) : Prop
  | mk (p : Addr) (F : Addr → Prop) (S : Sh) : vs = [.ref p] → SheetAt K H p F S → (∀ (l : Addr) (H' : Hp), Same H H' → H l = none → H' l = some (.lst (S.couples.map V.int)) → Q (.ref l) H') → sp_Sheet_couples K vs H Q E
section
variable {P : Program} {w : World} {K : PySem.W.Frag} {mg : Str → Option Value} {base : Heap}
theorem ok_Sheet_couples {f : Addr} {fd : FuncData} (F : Fun K "couples" "Sheet.couples" s_Sheet_couples f fd) (T : Txt K mg) : FnOk P w K mg base CX0 1 f fd ["self"] (sp_Sheet_couples K) := by
  refine F.ok sc_Sheet_couples (fun vs H Q E h => ?_) (fun cdv A outer s H vs Q E hr h => ?_)
  · obtain ⟨p, F, S, rfl, _⟩ := h
    rfl
  · obtain ⟨p, F, S, rfl, ⟨dx, a1, a2, a3, d, kvs, h⟩, q⟩ := h
    refine ⟨_, (pss_one (ps_ret (pe_callTy call_list_of (by rfl) T.b_list PyProof.Rows.boot_list (pa_cons (pe_fld (pv 0) rfl) pa_nil)))), ?_⟩
    exact ⟨_, rfl, p, _, dx, _, _, rfl, h.ip, T.cl_Sheet, T.n_Sheet_standing, rfl, _, _, rfl, .inl (SqL.of h.i1), fun l hl => q l _ (Same.new hl) hl upd_same⟩
end
end Pp

namespace Pp
open PySem L2
inductive sp_Sheet_handed (K : PySem.W.Frag) (vs : List V) (H : Hp) (Q : VK) (E : XK) : Prop
  | mk (p : Addr) (F : Addr → Prop) (S : Sh) : vs = [.ref p] → ShapeAt K H p F S → S.panel.length ≤ 15 → (∀ (l : Addr) (H' : Hp), Same H H' → H l = none → H' l = some (.lst (S.handed.map V.str)) → Q (.ref l) H') → sp_Sheet_handed K vs H Q E
section
variable {P : Program} {w : World} {K : PySem.W.Frag} {mg : Str → Option Value} {base : Heap}
theorem ok_Sheet_handed {f : Addr} {fd : FuncData} (F : Fun K "handed" "Sheet.handed" s_Sheet_handed f fd) (T : Txt K mg) : FnOk P w K mg base CX0 1 f fd ["self"] (sp_Sheet_handed K) := by
  refine F.ok sc_Sheet_handed (fun vs H Q E h => ?_) (fun cdv A outer s H vs Q E hr h => ?_)
  · obtain ⟨p, F, S, rfl, _⟩ := h
    rfl
  · obtain ⟨p, F, S, rfl, ⟨dx, a1, a2, a3, d, kvs, h⟩, h15, q⟩ := h
    refine ⟨_, (pss_one (ps_ret (pe_comp (show CompScope (defScope s_Sheet_handed) ["self"] "judge" ["self"] [0] _ from csM) rfl (pi_list (pe_fld (pv 0) rfl)) (fun _ _ _ _ _ => (pf_one (pt_cmp (pc_din (hu_of hr) (pv 0) (pe_fldK (K := K) rfl (pv 1) rfl))))) (fun _ _ _ _ _ => (pv 0))))), ?_⟩
    have hln := line_ge
    refine ⟨_, rfl, p, _, dx, _, _, rfl, h.ip, T.cl_Sheet, T.n_Sheet_panel, rfl, a3, rfl, ⟨_, SqL.of h.i3⟩, ?_⟩
    refine comp_list (xs := S.panel.map V.str) (fun i ys H2 => H2 = H ∧ ys = ((S.panel.take i).filter fun j => (S.card j).isSome).map V.str) ⟨rfl, rfl⟩ ?_ (by rw [List.length_map]; omega) ?_ ?_
    · rintro i ys H2 hi ⟨rfl, rfl⟩
      refine ⟨SqL.of h.i3, ?_⟩
      rw [List.length_map]
      exact Nat.le_trans (List.length_filter_le _ _) (by rw [List.length_take]; omega)
    · rintro i x ys H2 hx ⟨rfl, rfl⟩
      obtain ⟨hi, rfl⟩ := strs_get hx
      refine ⟨_, rfl, _, rfl, p, _, dx, _, _, rfl, h.ip, T.cl_Sheet, T.n_Sheet_card_by_judge, rfl, d, _, rfl, DGet.k (k := Sum.inr (S.panel.getD i "")) h.i4, _, rfl, ?_⟩
      have hv : (valV kvs (Sum.inr (S.panel.getD i ""))).isSome = (S.card (S.panel.getD i "")).isSome := by
        cases e : S.card (S.panel.getD i "") with
        | none => rw [h.cn _ e]; rfl
        | some c => obtain ⟨l, e1, _⟩ := h.cs _ _ e; rw [e1]; rfl
      rw [hv]
      refine iteB (fun hb => ?_) (fun hb => ?_)
      · refine ⟨_, rfl, rfl, ?_⟩
        rw [take_nextS hi, List.filter_append, List.filter_cons, if_pos hb, List.map_append]
        rfl
      · refine ⟨rfl, ?_⟩
        rw [take_nextS hi, List.filter_append, List.filter_cons, if_neg (by rw [hb]; exact Bool.false_ne_true)]
        simp
    · rintro ys H2 ⟨rfl, rfl⟩ l hl
      rw [List.length_map, List.take_length]
      exact q l _ (Same.new hl) hl upd_same
end
end Pp

namespace Pp
open PySem L2
inductive sp_due_couples (K : PySem.W.Frag) (vs : List V) (H : Hp) (Q : VK) (E : XK) : Prop
  | mk (f : Str) : vs = [.str f] → Q (.int (M20.due f)) H → sp_due_couples K vs H Q E
section
variable {P : Program} {w : World} {K : PySem.W.Frag} {mg : Str → Option Value} {base : Heap}
theorem ok_due_couples {f : Addr} {fd : FuncData} (F : Fun K "due_couples" "due_couples" s_due_couples f fd) (T : Txt K mg) : FnOk P w K mg base CX0 1 f fd ["first"] (sp_due_couples K) := by
  refine F.ok sc_due_couples (fun vs H Q E h => ?_) (fun cdv A outer s H vs Q E hr h => ?_)
  · obtain ⟨f, rfl, _⟩ := h
    rfl
  · obtain ⟨f, rfl, q⟩ := h
    refine ⟨_, (pss_one (ps_ret (pe_ifExp (pt_cmpR op_in_seq (pv 0) (pe_ctup T.c_COUPLE_WORDS rfl) (by first | exact nomark _ | rfl)) pe_int pe_int))), ?_⟩
    unfold M20.due at q
    refine ⟨_, rfl, fun a ha => ⟨a, _, rfl, .inr (ha _), rfl, M20.strs_flat _, _, rfl, ?_⟩⟩
    refine iteB (fun h1 => ?_) (fun h1 => ?_)
    · rw [if_pos (show M20.inW f M20.COUPLE = true from h1)] at q
      exact q
    · rw [if_neg (by rw [show M20.inW f M20.COUPLE = false from h1]; exact Bool.false_ne_true)] at q
      exact q
end
end Pp

namespace Pp
open PySem L2
inductive sp_figure (K : PySem.W.Frag) (vs : List V) (H : Hp) (Q : VK) (E : XK) : Prop
  | mk (c : Nat) : vs = [.str ⟨#[c]⟩] → Q (.bl (M20.fig c)) H → sp_figure K vs H Q E
section
variable {P : Program} {w : World} {K : PySem.W.Frag} {mg : Str → Option Value} {base : Heap}
theorem ok_figure {f : Addr} {fd : FuncData} (F : Fun K "figure" "figure" s_figure f fd) (T : Txt K mg) : FnOk P w K mg base CX0 1 f fd ["sign"] (sp_figure K) := by
  refine F.ok sc_figure (fun vs H Q E h => ?_) (fun cdv A outer s H vs Q E hr h => ?_)
  · obtain ⟨c, rfl, _⟩ := h
    rfl
  · obtain ⟨c, rfl, q⟩ := h
    refine ⟨_, (pss_one (ps_ret (pe_chain op_le_str op_le_str pe_str (pv 0) pe_str))), ?_⟩
    unfold M20.fig at q
    refine ⟨_, rfl, _, _, rfl, rfl, _, rfl, ?_⟩
    rw [M20.le_0]
    refine iteD (fun h1 => ?_) (fun h1 => ?_)
    · rw [decide_eq_true h1, Bool.true_and] at q
      refine ⟨_, _, rfl, rfl, ?_⟩
      rw [M20.le_9]
      exact q
    · rw [decide_eq_false h1, Bool.false_and] at q
      exact q
end
end Pp

namespace Pp
open PySem L2
inductive sp_whole_card (K : PySem.W.Frag) (vs : List V) (H : Hp) (Q : VK) (E : XK) : Prop
  | mk (a b : Addr) (ns ms : List Int) : vs = [.ref a, .ref b] → SqL K H a (ns.map V.int) → SqL K H b (ms.map V.int) → ns.length < 64 → ms.length < 64 → (∀ H', Same H H' → Q (.bl (decide (ns.Perm ms))) H') → sp_whole_card K vs H Q E
theorem sorted_same {ns ms ns' ms' : List Int} (h1 : ns'.Perm ns) (h2 : ns'.Pairwise (· ≤ ·)) (h3 : ms'.Perm ms) (h4 : ms'.Pairwise (· ≤ ·)) : decide (ns' = ms') = decide (ns.Perm ms) := by
  by_cases h : ns.Perm ms
  · rw [decide_eq_true h]
    exact decide_eq_true (List.Perm.eq_of_pairwise (fun a b _ _ x y => Int.le_antisymm x y) h2 h4 (h1.trans (h.trans h3.symm)))
  · rw [decide_eq_false h]
    refine decide_eq_false fun e => h ?_
    subst e
    exact h1.symm.trans h3
section
variable {P : Program} {w : World} {K : PySem.W.Frag} {mg : Str → Option Value} {base : Heap}
theorem ok_whole_card {f : Addr} {fd : FuncData} (F : Fun K "whole_card" "whole_card" s_whole_card f fd) (T : Txt K mg) : FnOk P w K mg base CX0 1 f fd ps_whole_card (sp_whole_card K) := by
  refine F.ok sc_whole_card (fun vs H Q E h => ?_) (fun cdv A outer s H vs Q E hr h => ?_)
  · obtain ⟨a, b, ns, ms, rfl, _⟩ := h
    rfl
  · obtain ⟨a, b, ns, ms, rfl, hA, hB, hz1, hz2, q⟩ := h
    refine ⟨_, (pss_one (ps_ret (pe_cmpR (op_eq_list hr.units0) (pe_callB call_sorted (by rfl) T.b_sorted PyProof.Rows.boot_sorted (pa_cons (pv 0) pa_nil)) (pe_callB call_sorted (by rfl) T.b_sorted PyProof.Rows.boot_sorted (pa_cons (pv 1) pa_nil)) (nomark _)))), ?_⟩
    refine ⟨_, rfl, a, ns, rfl, hA, hz1, fun l1 ns' hl1 p1 w1 => ?_⟩
    refine ⟨_, rfl, b, ms, rfl, (Same.new hl1).seq hB, hz2, fun l2 ms' hl2 p2 w2 => ?_⟩
    refine ⟨l1, l2, _, _, rfl, rfl, (Same.new hl2).seq SqL.new, SqL.new, flat_ints _, flat_ints _, ?_⟩
    rw [eqL_ints, sorted_same p1 w1 p2 w2]
    exact q _ ((Same.new hl1).newT hl2)
end
end Pp

namespace Pp
open PySem L2
inductive sp_without_couple (K : PySem.W.Frag) (vs : List V) (H : Hp) (Q : VK) (E : XK) : Prop
  | mk (a : Addr) (ns : List Int) (c : Int) : vs = [.ref a, .int c] → SqL K H a (ns.map V.int) → ns.length ≤ 1000 → (∀ l H', Same H H' → H l = none → H' l = some (.lst ((ns.filter fun o => !decide (o = c)).map V.int)) → Q (.ref l) H') → sp_without_couple K vs H Q E
section
variable {P : Program} {w : World} {K : PySem.W.Frag} {mg : Str → Option Value} {base : Heap}
theorem ok_without_couple {f : Addr} {fd : FuncData} (F : Fun K "without_couple" "without_couple" s_without_couple f fd) (T : Txt K mg) : FnOk P w K mg base CX0 1 f fd ps_without_couple (sp_without_couple K) := by
  refine F.ok sc_without_couple (fun vs H Q E h => ?_) (fun cdv A outer s H vs Q E hr h => ?_)
  · obtain ⟨a, ns, c, rfl, _⟩ := h
    rfl
  · obtain ⟨a, ns, c, rfl, hS, hz, q⟩ := h
    refine ⟨_, (pss_one (ps_ret (pe_comp (show CompScope (defScope s_without_couple) ["card", "couple"] "other" ["couple"] [1] _ from csM) rfl (pi_list (pv 0)) (fun _ _ _ _ _ => (pf_one (pt_cmpR op_ne (pv 0) (pv 1) (nomark _)))) (fun _ _ _ _ _ => (pv 0))))), ?_⟩
    refine ⟨_, rfl, a, rfl, ⟨_, hS⟩, ?_⟩
    refine comp_list (xs := ns.map V.int) (fun i ys H2 => H2 = H ∧ ys = ((ns.take i).filter fun o => !decide (o = c)).map V.int) ⟨rfl, rfl⟩ ?_ (by rw [List.length_map]; exact Nat.le_trans hz (Nat.le_trans (by decide) line_ge)) ?_ ?_
    · rintro i ys H2 hi ⟨rfl, rfl⟩
      refine ⟨hS, ?_⟩
      rw [List.length_map]
      exact Nat.le_trans (List.length_filter_le _ _) (by rw [List.length_take]; omega)
    · rintro i x ys H2 hx ⟨rfl, rfl⟩
      obtain ⟨hi, rfl⟩ := ints_get hx
      refine ⟨_, rfl, _, rfl, rfl, _, rfl, iteND (fun hne => ?_) (fun he => ?_)⟩
      · refine ⟨_, rfl, rfl, ?_⟩
        have : ¬ ns.getD i 0 = c := fun e => hne (by rw [e])
        rw [take_next hi, List.filter_append, List.filter_cons_of_pos (by show (!decide (ns.getD i 0 = c)) = true; rw [decide_eq_false this]; rfl), List.map_append]
        rfl
      · refine ⟨rfl, ?_⟩
        have : ns.getD i 0 = c := by injection he
        rw [take_next hi, List.filter_append, List.filter_cons_of_neg (by show ¬ (!decide (ns.getD i 0 = c)) = true; rw [decide_eq_true this]; decide), List.map_append]
        simp
    · rintro ys H2 ⟨rfl, rfl⟩ l hl
      rw [List.length_map, List.take_length]
      exact q l _ (Same.new hl) hl upd_same
end
end Pp

namespace Pp
open PySem L2
inductive sp_good_number (K : PySem.W.Frag) (vs : List V) (H : Hp) (Q : VK) (E : XK) : Prop
  | mk (n : Int) : vs = [.int n] → Q (.bl (decide (1 ≤ n) && decide (n ≤ 999))) H → sp_good_number K vs H Q E
section
variable {P : Program} {w : World} {K : PySem.W.Frag} {mg : Str → Option Value} {base : Heap}
theorem ok_good_number {f : Addr} {fd : FuncData} (F : Fun K "good_number" "good_number" s_good_number f fd) (T : Txt K mg) : FnOk P w K mg base CX0 1 f fd ["couple"] (sp_good_number K) := by
  refine F.ok sc_good_number (fun vs H Q E h => ?_) (fun cdv A outer s H vs Q E hr h => ?_)
  · obtain ⟨n, rfl, _⟩ := h
    rfl
  · obtain ⟨n, rfl, q⟩ := h
    refine ⟨_, (pss_one (ps_ret (pe_chain op_le op_le pe_int (pv 0) (pe_const T.c_MOST_NUMBER rfl)))), ?_⟩
    refine ⟨_, rfl, _, _, rfl, rfl, _, rfl, iteD (fun h1 => ?_) (fun h1 => ?_)⟩
    · rw [decide_eq_true h1, Bool.true_and] at q
      exact ⟨_, _, rfl, rfl, q⟩
    · rw [decide_eq_false h1, Bool.false_and] at q
      exact q
end
end Pp

namespace Pp
open PySem L2
inductive sp_small_letter (K : PySem.W.Frag) (vs : List V) (H : Hp) (Q : VK) (E : XK) : Prop
  | mk (c : Nat) : vs = [.str ⟨#[c]⟩] → Q (.bl (small c)) H → sp_small_letter K vs H Q E
section
variable {P : Program} {w : World} {K : PySem.W.Frag} {mg : Str → Option Value} {base : Heap}
theorem ok_small_letter {f : Addr} {fd : FuncData} (F : Fun K "small_letter" "small_letter" s_small_letter f fd) (T : Txt K mg) : FnOk P w K mg base CX0 1 f fd ["sign"] (sp_small_letter K) := by
  refine F.ok sc_small_letter (fun vs H Q E h => ?_) (fun cdv A outer s H vs Q E hr h => ?_)
  · obtain ⟨c, rfl, _⟩ := h
    rfl
  · obtain ⟨c, rfl, q⟩ := h
    refine ⟨_, (pss_one (ps_ret (pe_chain op_le_str op_le_str pe_str (pv 0) pe_str))), ?_⟩
    unfold small at q
    refine ⟨_, rfl, _, _, rfl, rfl, _, rfl, ?_⟩
    rw [M2.le_a]
    refine iteD (fun h1 => ?_) (fun h1 => ?_)
    · rw [decide_eq_true h1, Bool.true_and] at q
      refine ⟨_, _, rfl, rfl, ?_⟩
      rw [M2.le_z]
      exact q
    · rw [decide_eq_false h1, Bool.false_and] at q
      exact q
end
end Pp

namespace Pp
open PySem L2
inductive sp_good_length (K : PySem.W.Frag) (vs : List V) (H : Hp) (Q : VK) (E : XK) : Prop
  | mk (x : V) (n : Nat) (m : Int) : vs = [x, .int m] → LenV K x H n → Q (.bl (decide (1 ≤ (n : Int)) && decide ((n : Int) ≤ m))) H → sp_good_length K vs H Q E
section
variable {P : Program} {w : World} {K : PySem.W.Frag} {mg : Str → Option Value} {base : Heap}
theorem ok_good_length {f : Addr} {fd : FuncData} (F : Fun K "good_length" "good_length" s_good_length f fd) (T : Txt K mg) : FnOk P w K mg base CX0 1 f fd ps_good_length (sp_good_length K) := by
  refine F.ok sc_good_length (fun vs H Q E h => ?_) (fun cdv A outer s H vs Q E hr h => ?_)
  · obtain ⟨x, n, m, rfl, _⟩ := h
    rfl
  · obtain ⟨x, n, m, rfl, hx, q⟩ := h
    refine ⟨_, (pss_one (ps_ret (pe_chain op_le op_le pe_int (pe_callB call_len (by rfl) T.b_len PySem.boot_len (pa_cons (pv 0) pa_nil)) (pv 1)))), ?_⟩
    refine ⟨_, rfl, x, n, rfl, hx, _, _, rfl, rfl, _, rfl, iteD (fun h1 => ?_) (fun h1 => ?_)⟩
    · rw [decide_eq_true h1, Bool.true_and] at q
      exact ⟨_, rfl, _, _, rfl, rfl, q⟩
    · rw [decide_eq_false h1, Bool.false_and] at q
      exact q
end
end Pp

namespace Pp
open PySem L2
inductive sp_all_unlike (K : PySem.W.Frag) (vs : List V) (H : Hp) (Q : VK) (E : XK) : Prop
  | mk (a : Addr) : vs = [.ref a] → (((∃ ns : List Int, SqL K H a (ns.map V.int) ∧ ns.length < 4000 ∧ ∀ H', Same H H' → Q (.bl (decide ns.Nodup)) H') ∨ ∃ ts : List Str, SqL K H a (ts.map V.str) ∧ ts.length < 4000 ∧ Q (.bl (decide ts.Nodup)) H)) → sp_all_unlike K vs H Q E
section
variable {P : Program} {w : World} {K : PySem.W.Frag} {mg : Str → Option Value} {base : Heap}
theorem ok_all_unlike {f : Addr} {fd : FuncData} (F : Fun K "all_unlike" "all_unlike" s_all_unlike f fd) (T : Txt K mg) : FnOk P w K mg base CX0 1 f fd ["things"] (sp_all_unlike K) := by
  refine F.ok sc_all_unlike (fun vs H Q E h => ?_) (fun cdv A outer s H vs Q E hr h => ?_)
  · obtain ⟨a, rfl, _⟩ := h
    rfl
  · obtain ⟨a, rfl, h⟩ := h
    refine ⟨_, (pss_one (ps_ret (pe_cmpR op_eq (pe_both (pe_callB call_len_set (by rfl) T.b_len PySem.boot_len (pa_cons (pe_callTy (call_set_int rfl) (by rfl) T.b_set PyProof.Rows.boot_set (pa_cons (pv 0) pa_nil)) pa_nil)) (pe_lensetS rfl (by rfl) T.b_len (by rfl) T.b_set (pv 0))) (pLen T.b_len (pv 0)) (nomark _)))), ?_⟩
    rcases h with ⟨ns, hS, hz, q⟩ | ⟨ts, hS, hz, q⟩
    · refine .inl ⟨_, rfl, a, ns, rfl, hS, hz, fun l hl => ?_⟩
      refine ⟨l, _, _, rfl, upd_same, _, rfl, a, _, rfl, .inl ((Same.new hl).seq hS), rfl, ?_⟩
      have e : decide (V.int ((PyProof.Rows.firstMet (fun i => ns.getD i 0) ns.length).length : Int) = V.int ((ns.map V.int).length : Int)) = decide ns.Nodup := by
        rw [List.length_map]
        by_cases h : ns.Nodup
        · rw [decide_eq_true h, (set_full ns).mpr h]; exact decide_eq_true rfl
        · rw [decide_eq_false h]
          refine decide_eq_false fun z => h ((set_full ns).mp ?_)
          injection z with z
          exact Int.ofNat.inj z
      rw [e]
      exact q _ (Same.new hl)
    · refine .inr ⟨_, rfl, a, ts, rfl, hS, hz, ?_⟩
      refine ⟨_, rfl, a, _, rfl, .inl hS, rfl, ?_⟩
      have e : decide (V.int ((met (fun i => ts.getD i "") ts.length).length : Int) = V.int ((ts.map V.str).length : Int)) = decide ts.Nodup := by
        rw [List.length_map]
        by_cases h : ts.Nodup
        · rw [decide_eq_true h, (met_full ts "").mpr h]; exact decide_eq_true rfl
        · rw [decide_eq_false h]
          refine decide_eq_false fun z => h ((met_full ts "").mp ?_)
          injection z with z
          exact Int.ofNat.inj z
      rw [e]
      exact q
end
end Pp

namespace Pp
open PySem L2
inductive sp_numbers_text (K : PySem.W.Frag) (vs : List V) (H : Hp) (Q : VK) (E : XK) : Prop
  | mk (a : Addr) (ns : List Int) : vs = [.ref a] → SqL K H a (ns.map V.int) → ns.length ≤ 24 → ((∀ n ∈ ns, 1 ≤ n ∧ n ≤ 999)) → (∀ H', Same H H' → Q (.str (Txt.join M6.blank (ns.map tN))) H') → sp_numbers_text K vs H Q E
section
variable {P : Program} {w : World} {K : PySem.W.Frag} {mg : Str → Option Value} {base : Heap}
theorem ok_numbers_text {f : Addr} {fd : FuncData} (F : Fun K "numbers_text" "numbers_text" s_numbers_text f fd) (T : Txt K mg) : FnOk P w K mg base CX0 1 f fd ["couples"] (sp_numbers_text K) := by
  refine F.ok sc_numbers_text (fun vs H Q E h => ?_) (fun cdv A outer s H vs Q E hr h => ?_)
  · obtain ⟨a, ns, rfl, _⟩ := h
    rfl
  · obtain ⟨a, ns, rfl, hA, hl, hn, q⟩ := h
    refine ⟨_, (pss_one (ps_ret (pe_bm PySem.F.plainAttrs_str PySem.F.slot_str_join PySem.F.type_str_join ms_join pe_str (pa_cons (pe_comp (show CompScope (defScope s_numbers_text) ["couples"] "couple" [] [] _ from csM) rfl (pi_list (pv 0)) (fun _ _ _ _ _ => pf_nil) (fun _ _ _ _ _ => (pe_callTy call_str (by rfl) T.b_str PyProof.Rows.boot_str (pa_cons (pv 0) pa_nil)))) pa_nil)))), ?_⟩
    have hln := line_ge
    refine ⟨rfl, _, rfl, a, rfl, ⟨_, hA⟩, ?_⟩
    refine comp_strN (f := tN) hA (by omega) (fun y H' R hy s' h => ⟨_, rfl, .inl ⟨_, rfl, log_ok (by have := hn y hy; omega), h H' (Same.refl _)⟩⟩) fun H1 s1 => ?_
    intro l1 hl1
    refine ⟨_, l1, ns.map tN, rfl, rfl, SqL.new, by decide +kernel, by rw [List.length_map]; omega, fun w hw => ?_, q _ (s1.newT hl1)⟩
    obtain ⟨n, h, rfl⟩ := List.mem_map.mp hw
    have := M6.tN_short (hn n h)
    omega
end
end Pp

namespace Pp
open PySem L2
inductive sp_ranking_text (K : PySem.W.Frag) (vs : List V) (H : Hp) (Q : VK) (E : XK) : Prop
  | mk (a : Addr) (ls : List Addr) (rs : List (Int × Int)) : vs = [.ref a] → SqL K H a (ls.map V.ref) → All2 (TPl K H) ls rs → rs.length ≤ 24 → ((∀ p ∈ rs, (1 ≤ p.1 ∧ p.1 ≤ 999) ∧ 1 ≤ p.2 ∧ p.2 ≤ 999)) → (∀ H', Same H H' → Q (.str (Txt.join M6.blank (rs.map M6.spotW))) H') → sp_ranking_text K vs H Q E
section
variable {P : Program} {w : World} {K : PySem.W.Frag} {mg : Str → Option Value} {base : Heap}
theorem ok_ranking_text {f : Addr} {fd : FuncData} (F : Fun K "ranking_text" "ranking_text" s_ranking_text f fd) (T : Txt K mg) : FnOk P w K mg base CX0 1 f fd ["rows"] (sp_ranking_text K) := by
  refine F.ok sc_ranking_text (fun vs H Q E h => ?_) (fun cdv A outer s H vs Q E hr h => ?_)
  · obtain ⟨a, ls, rs, rfl, _⟩ := h
    rfl
  · obtain ⟨a, ls, rs, rfl, hA, hR, hl, hr9, q⟩ := h
    refine ⟨_, (pss_one (ps_ret (pe_bm PySem.F.plainAttrs_str PySem.F.slot_str_join PySem.F.type_str_join ms_join pe_str (pa_cons (pe_comp2 (show CompScope2 (defScope s_ranking_text) ["rows"] "place" "couple" [] [] _ from csM2) rfl (pi_list (pv 0)) (fun _ _ _ _ _ => pf_nil) (fun _ _ _ _ _ => (pe_fstr (pj_cons (pe_fmt (pv 0)) (pj_cons pe_str (pj_cons (pe_fmt (pv 1)) pj_nil)))))) pa_nil)))), ?_⟩
    have hln := line_ge
    refine ⟨rfl, _, rfl, a, rfl, ⟨_, hA⟩, ?_⟩
    refine comp2_strs (f := M6.spotW) hA hR (by omega) (fun pr H' R hpr s' h => ?_) fun H6 s6 => ?_
    · obtain ⟨p1, p2⟩ := hr9 pr hpr
      obtain ⟨l1, l2, l3⟩ := M6.spotW_len p1 p2
      have l0 : Str.empty.length = 0 := rfl
      have lc : (Str.ofString ":").length = 1 := M6.colon_len
      unfold tN at l1 l2
      refine ⟨_, rfl, .inl ⟨_, rfl, log_ok (by omega), _, rfl, ?_, _, rfl, ?_, _, rfl, .inl ⟨_, rfl, log_ok (by omega), _, rfl, ?_, ?_, ?_⟩⟩⟩
      · rw [len_add]; omega
      · rw [len_add, len_add]; omega
      · rw [len_add, len_add, len_add]; omega
      · rw [len_add, len_add, len_add]; omega
      · rw [M6.emp_app]
        exact h H' (Same.refl _)
    intro l6 hl6
    refine ⟨_, l6, rs.map M6.spotW, rfl, rfl, SqL.new, by decide +kernel, by rw [List.length_map]; omega, fun w hw => ?_, q _ (s6.newT hl6)⟩
    obtain ⟨p, hp, rfl⟩ := List.mem_map.mp hw
    have := (M6.spotW_len (hr9 p hp).1 (hr9 p hp).2).2.2
    omega
end
end Pp

namespace Pp
open PySem L2
inductive sp_places_text (K : PySem.W.Frag) (vs : List V) (H : Hp) (Q : VK) (E : XK) : Prop
  | mk (a b : V) : vs = [a, b] → False → sp_places_text K vs H Q E
section
variable {P : Program} {w : World} {K : PySem.W.Frag} {mg : Str → Option Value} {base : Heap}
theorem ok_places_text {f : Addr} {fd : FuncData} (F : Fun K "places_text" "places_text" s_places_text f fd) (T : Txt K mg) : FnOk P w K mg base CX0 1 f fd ps_places_text (sp_places_text K) := by
  refine F.ok sc_places_text (fun vs H Q E h => ?_) (fun cdv A outer s H vs Q E hr h => ?_)
  · obtain ⟨a, b, rfl, _⟩ := h
    rfl
  · obtain ⟨a, b, rfl, z⟩ := h
    exact z.elim
end
end Pp

namespace Pp
open PySem L2
inductive sp_text_or_none (K : PySem.W.Frag) (vs : List V) (H : Hp) (Q : VK) (E : XK) : Prop
  | mk (a : Addr) (ws : List Str) : vs = [.ref a] → SqL K H a (ws.map V.str) → ws.length ≤ 200 → ((∀ w ∈ ws, w.length ≤ 2000)) → (Q (.str (if ws = [] then Str.ofString "none" else Txt.join M6.blank ws)) H) → sp_text_or_none K vs H Q E
section
variable {P : Program} {w : World} {K : PySem.W.Frag} {mg : Str → Option Value} {base : Heap}
theorem ok_text_or_none {f : Addr} {fd : FuncData} (F : Fun K "text_or_none" "text_or_none" s_text_or_none f fd) (T : Txt K mg) : FnOk P w K mg base CX0 1 f fd ["words"] (sp_text_or_none K) := by
  refine F.ok sc_text_or_none (fun vs H Q E h => ?_) (fun cdv A outer s H vs Q E hr h => ?_)
  · obtain ⟨a, ws, rfl, _⟩ := h
    rfl
  · obtain ⟨a, ws, rfl, hA, hl, hw, q⟩ := h
    refine ⟨_, (pss_one (ps_ret (pe_ifExp (pt_truth (pv 0) (fun _ => rfl)) (pe_bm PySem.F.plainAttrs_str PySem.F.slot_str_join PySem.F.type_str_join ms_join pe_str (pa_cons (pv 0) pa_nil)) pe_str))), ?_⟩
    refine ⟨_, rfl, _, .inl ⟨_, hA, rfl⟩, ?_⟩
    cases ws with
    | nil => exact q
    | cons w ws => exact ⟨rfl, _, rfl, _, a, w :: ws, rfl, rfl, hA, by decide +kernel, hl, hw, q⟩
end
end Pp

namespace Pp
open PySem L2
inductive sp_law_whole (K : PySem.W.Frag) (vs : List V) (H : Hp) (Q : VK) (E : XK) : Prop
  | mk (x : _) (b1 : _) (b2 : _) : vs = [x] → isInt x = some b1 → isBool x = some b2 → Q (.bl (b1 && !b2)) H → sp_law_whole K vs H Q E
section
variable {P : Program} {w : World} {K : PySem.W.Frag} {mg : Str → Option Value} {base : Heap}
theorem ok_law_whole {f : Addr} {fd : FuncData} (F : Fun K "_law_whole" "_law_whole" s_law_whole f fd) (T : Txt K mg) : FnOk P w K mg base CX0 1 f fd ps_law_whole (sp_law_whole K) := by
  refine F.ok sc_law_whole (fun vs H Q E h => ?_) (fun cdv A outer s H vs Q E hr h => ?_)
  · obtain ⟨x, b1, b2, rfl, _⟩ := h
    rfl
  · obtain ⟨x, b1, b2, rfl, h1, h2, k⟩ := h
    refine ⟨_, (pss_one (ps_ret (pe_and (pe_callB call_isi_int (by rfl) T.b_isinstance PyProof.Rows.boot_isinstance (pa_cons (pv 0) (pa_cons (pe_bltn (v := V.ty "int") rfl T.b_int PyProof.Rows.boot_int rfl) pa_nil))) (pe_one (pe_not (pe_callB call_isi_bool (by rfl) T.b_isinstance PyProof.Rows.boot_isinstance (pa_cons (pv 0) (pa_cons (pe_bltn (v := V.ty "bool") rfl T.b_bool PyProof.Rows.boot_bool rfl) pa_nil)))))))), ?_⟩
    refine ⟨_, rfl, x, b1, rfl, h1, _, rfl, ?_⟩
    cases b1 with
    | false => exact iteF k
    | true => exact iteT ⟨_, rfl, x, b2, rfl, h2, _, rfl, k⟩
end
end Pp

namespace Pp
open PySem L2
inductive sp_law_at (K : PySem.W.Frag) (vs : List V) (H : Hp) (Q : VK) (E : XK) : Prop
  | mk (a : Addr) (ns : List Int) (k : Int) : vs = [.ref a, .int k] → SqL K H a (ns.map V.int) → 0 ≤ k → Q (.int (ns.getD k.toNat 0)) H → sp_law_at K vs H Q E
section
variable {P : Program} {w : World} {K : PySem.W.Frag} {mg : Str → Option Value} {base : Heap}
theorem ok_law_at {f : Addr} {fd : FuncData} (F : Fun K "_law_at" "_law_at" s_law_at f fd) (T : Txt K mg) : FnOk P w K mg base CX0 1 f fd ps_law_at (sp_law_at K) := by
  refine F.ok sc_law_at (fun vs H Q E h => ?_) (fun cdv A outer s H vs Q E hr h => ?_)
  · obtain ⟨a, ns, k, rfl, _⟩ := h
    rfl
  · obtain ⟨a, ns, k, rfl, hS, h0, q⟩ := h
    refine ⟨_, (pss_cons (ps_if (pt_cmpR op_lt (pv 1) (pLen T.b_len (pv 0)) (nomark _)) (pss_one (ps_ret (pe_ix ix_list (pv 0) (pv 1) (fun _ _ => rfl)))) pss_nil)
      (pss_one (ps_ret pe_int))), ?_⟩
    refine ⟨_, rfl, _, rfl, a, _, rfl, .inl hS, _, _, rfl, rfl, _, rfl, iteD (fun hk => ?_) (fun hk => ?_)⟩
    · rw [List.length_map] at hk
      exact ⟨_, rfl, _, rfl, a, _, k, _, rfl, rfl, hS, atI_ints h0 hk, q⟩
    · rw [List.length_map] at hk
      show Q (.int 0) H
      rw [List.getD_eq_getElem?_getD, List.getElem?_eq_none (by omega)] at q
      exact q
end
end Pp

namespace Pp
open PySem L2
noncomputable def mixZ (c p : Int) : Int := (c * 48271 % 2147483647 + p + 1) * 69621 % 2147483647
inductive sp_law_mix (K : PySem.W.Frag) (vs : List V) (H : Hp) (Q : VK) (E : XK) : Prop
  | mk (c : _) (p : _) : vs = [.int c, .int p] → Q (.int (mixZ c p)) H → sp_law_mix K vs H Q E
section
variable {P : Program} {w : World} {K : PySem.W.Frag} {mg : Str → Option Value} {base : Heap}
theorem ok_law_mix {f : Addr} {fd : FuncData} (F : Fun K "_law_mix" "_law_mix" s_law_mix f fd) (T : Txt K mg) : FnOk P w K mg base CX0 1 f fd ps_law_mix (sp_law_mix K) := by
  refine F.ok sc_law_mix (fun vs H Q E h => ?_) (fun cdv A outer s H vs Q E hr h => ?_)
  · obtain ⟨c, p, rfl, _⟩ := h
    rfl
  · obtain ⟨c, p, rfl, q⟩ := h
    refine ⟨_, (pss_cons (ps_set (i := 2) sc_law_mix.nd rfl (Or.inl rfl) (pe_op op_mod (pe_op op_mul (pv 0) pe_int) pe_int))
      (pss_one (ps_ret (pe_op op_mod (pe_op op_mul (pe_op op_add (pe_op op_add (pv 2) (pv 1)) pe_int) pe_int) pe_int)))), ?_⟩
    refine ⟨_, rfl, _, _, rfl, rfl, .inr ⟨by decide, by decide⟩, _, _, rfl, rfl, (by show (0 : Int) < 2147483647; decide), ?_⟩
    exact ⟨_, rfl, _, rfl, _, _, rfl, rfl, _, _, rfl, rfl, _, _, rfl, rfl, .inr ⟨by decide, by decide⟩, _, _, rfl, rfl, (by show (0 : Int) < 2147483647; decide), q⟩
end
end Pp

namespace Pp
open PySem L2
inductive sp_law_spoiled (K : PySem.W.Frag) (vs : List V) (H : Hp) (Q : VK) (E : XK) : Prop
  | mk (z : Str) (c : Int) : vs = [.str z, .int c] → z.length ≤ 40 → (∀ (y : Str) (H' : Hp), Same H H' → y.length ≤ z.length + 6 → Q (.str y) H') → sp_law_spoiled K vs H Q E
noncomputable def OTH : List Str := ["0", "07", "1000", "12a", "-5", "+5", "1_0", "", "999", "1", "ann", "seal", "Seal", "SHOW", "cards"]
theorem oth_len : ∀ w ∈ OTH, w.length ≤ 5 := by decide +kernel
noncomputable def sumL (ws : List Str) : Nat := (ws.map fun w => w.length + 1).sum
theorem sumL_app (a b : List Str) : sumL (a ++ b) = sumL a + sumL b := by unfold sumL; rw [List.map_append, List.sum_append]
theorem join_sum (c : Nat) : ∀ ws : List Str, ws ≠ [] → (Str.join ⟨#[c]⟩ ws).length + 1 = sumL ws
  | [], h => absurd rfl h
  | [x], _ => by show x.length + 1 = (x.length + 1) + 0; omega
  | x :: z :: r, _ => by
    have ih := join_sum c (z :: r) (by simp)
    rw [M20.len_list, M19.join_list, List.length_append, List.length_cons, ← M20.len_list, ← M20.len_list]
    have : sumL (x :: z :: r) = (x.length + 1) + sumL (z :: r) := rfl
    omega
theorem join_le (c : Nat) (ws : List Str) : (Str.join ⟨#[c]⟩ ws).length ≤ sumL ws := by
  cases ws with
  | nil => exact Nat.zero_le _
  | cons x r => have := join_sum c (x :: r) (by simp); omega
theorem split_sum (z : Str) : sumL (Txt.split z M20.blank) ≤ z.length + 1 := by
  cases e : Txt.split z M20.blank with
  | nil => exact Nat.zero_le _
  | cons x r =>
    have j := join_sum 32 (Txt.split z M20.blank) (by rw [e]; simp)
    rw [show Str.join ⟨#[32]⟩ (Txt.split z M20.blank) = z from StrLaws.join_split _ _, e] at j
    omega
theorem split_ne (z : Str) : Txt.split z M20.blank ≠ [] := fun e => by
  have j := StrLaws.join_split z M20.blank
  rw [e] at j
  rw [← j] at e
  exact absurd e (by decide +kernel)
theorem sumL_cut (ws : List Str) (i j : Nat) (h : i ≤ j) : sumL (ws.take i) + sumL (ws.drop j) ≤ sumL ws := by
  have a : sumL (ws.take i) + sumL (ws.drop i) = sumL ws := by rw [← sumL_app, List.take_append_drop]
  have b : ws.drop i = (ws.drop i).take (j - i) ++ ws.drop j := by
    rw [show ws.drop j = (ws.drop i).drop (j - i) by rw [List.drop_drop]; congr 1; omega, List.take_append_drop]
  have c : sumL (ws.drop i) = sumL ((ws.drop i).take (j - i)) + sumL (ws.drop j) := by rw [← sumL_app, ← b]
  omega
theorem sumL_wd {ws : List Str} {w : Str} (h : w ∈ ws) : w.length ≤ sumL ws := by
  induction ws with
  | nil => cases h
  | cons x r ih =>
    have e : sumL (x :: r) = (x.length + 1) + sumL r := rfl
    rcases List.mem_cons.mp h with z | z
    · rw [z]; omega
    · have := ih z; omega
theorem sumL_len (ws : List Str) : ws.length ≤ sumL ws := by
  induction ws with
  | nil => exact Nat.le_refl _
  | cons x r ih =>
    have e : sumL (x :: r) = (x.length + 1) + sumL r := rfl
    rw [List.length_cons]
    omega
section
variable {P : Program} {w : World} {K : PySem.W.Frag} {mg : Str → Option Value} {base : Heap}
theorem ok_law_spoiled {f : Addr} {fd : FuncData} (F : Fun K "_law_spoiled" "_law_spoiled" s_law_spoiled f fd) (T : Txt K mg) : FnOk P w K mg base CX0 1 f fd ps_law_spoiled (sp_law_spoiled K) := by
  refine F.ok sc_law_spoiled (fun vs H Q E h => ?_) (fun cdv A outer s H vs Q E hr h => ?_)
  · obtain ⟨z, c, rfl, _⟩ := h
    rfl
  · obtain ⟨z, c, rfl, hz, q⟩ := h
    obtain ⟨es, p1, p2, p3, hes, hb⟩ : ∃ es p1 p2 p3, StrEs es OTH ∧ defBody s_law_spoiled = (defBody s_law_spoiled).take 5 ++ .Assign [.Name "_law_other" p1] (.List es p2) p3 :: (defBody s_law_spoiled).drop 6 := ⟨_, _, _, _, (StrEs.cons (StrEs.cons (StrEs.cons (StrEs.cons (StrEs.cons (StrEs.cons (StrEs.cons (StrEs.cons (StrEs.cons (StrEs.cons (StrEs.cons (StrEs.cons (StrEs.cons (StrEs.cons (StrEs.cons StrEs.nil))))))))))))))), rfl⟩
    rw [hb]
    refine ⟨_, (pss_cons (ps_set (i := 2) sc_law_spoiled.nd rfl (Or.inl rfl) (pe_op op_mod (pv 1) pe_int))
      (pss_cons (ps_set (i := 3) sc_law_spoiled.nd rfl (Or.inl rfl) (pe_op op_mod (pe_op op_fdiv (pv 1) pe_int) (pe_op op_add (pe_callB call_len_str (by rfl) T.b_len PySem.boot_len (pa_cons (pv 0) pa_nil)) pe_int)))
      (pss_cons (ps_if (pt_cmpR op_eq (pv 2) pe_int (nomark _)) (pss_one (ps_ret (pe_op op_add_str (pe_op op_add_str (pe_slice sl_str (pv 0) po_none (po_some (pv 3))) pe_str) (pe_slice sl_str (pv 0) (po_some (pv 3)) po_none)))) pss_nil)
      (pss_cons (ps_if (pt_cmpR op_eq (pv 2) pe_int (nomark _)) (pss_one (ps_ret (pe_op op_add_str (pe_slice sl_str (pv 0) po_none (po_some (pv 3))) (pe_slice sl_str (pv 0) (po_some (pe_op op_add (pv 3) pe_int)) po_none)))) pss_nil)
      (pss_cons (ps_set (i := 4) sc_law_spoiled.nd rfl (Or.inl rfl) (pe_bm PySem.F.plainAttrs_str PySem.F.slot_str_split PySem.F.type_str_split ms_split (pv 0) (pa_cons pe_str pa_nil)))
      (pss_cons (ps_set (i := 5) sc_law_spoiled.nd rfl (Or.inl rfl) (pe_lstS hes) swaps_list)
      (pss_cons (ps_set (i := 5) sc_law_spoiled.nd rfl (Or.inl rfl) (pe_ix ix_list (pv 5) (pe_op op_mod (pe_op op_fdiv (pv 1) pe_int) pe_int) (fun _ _ => rfl)))
      (pss_cons (ps_set (i := 3) sc_law_spoiled.nd rfl (Or.inl rfl) (pe_op op_mod (pe_op op_fdiv (pv 1) pe_int) (pLen T.b_len (pv 4))))
      (pss_cons (ps_if (pt_cmpR op_eq (pv 2) pe_int (nomark _)) (pss_one (ps_ret (pe_bm PySem.F.plainAttrs_str PySem.F.slot_str_join PySem.F.type_str_join ms_join pe_str (pa_cons (pe_op op_cat (pe_slice sl_list (pv 4) po_none (po_some (pv 3))) (pe_slice sl_list (pv 4) (po_some (pe_op op_add (pv 3) pe_int)) po_none)) pa_nil)))) pss_nil)
      (pss_cons (ps_if (pt_cmpR op_eq (pv 2) pe_int (nomark _)) (pss_one (ps_ret (pe_bm PySem.F.plainAttrs_str PySem.F.slot_str_join PySem.F.type_str_join ms_join pe_str (pa_cons (pe_op op_cat (pe_op op_cat (pe_slice sl_list (pv 4) po_none (po_some (pv 3))) (pe_lst (pa_cons (pv 5) pa_nil))) (pe_slice sl_list (pv 4) (po_some (pv 3)) po_none)) pa_nil)))) pss_nil)
      (pss_cons (ps_if (pt_cmpR op_eq (pv 2) pe_int (nomark _)) (pss_one (ps_ret (pe_bm PySem.F.plainAttrs_str PySem.F.slot_str_join PySem.F.type_str_join ms_join pe_str (pa_cons (pe_op op_cat (pe_op op_cat (pe_slice sl_list (pv 4) po_none (po_some (pv 3))) (pe_lst (pa_cons (pv 5) pa_nil))) (pe_slice sl_list (pv 4) (po_some (pe_op op_add (pv 3) pe_int)) po_none)) pa_nil)))) pss_nil)
      (pss_one (ps_ret pe_str))))))))))))), ?_⟩
    have hl := line_ge
    have hk : ∀ n : Nat, (0 : Int) < n + 1 := fun n => by omega
    refine ⟨_, rfl, _, _, rfl, rfl, (by show (0 : Int) < 6; decide), ?_⟩
    refine ⟨_, rfl, _, _, rfl, rfl, ⟨by decide, by decide⟩, _, rfl, z, rfl, by omega, _, _, rfl, rfl, _, _, rfl, rfl, (by show (0 : Int) < (z.length : Int) + 1; omega), ?_⟩
    have hn0 : 0 ≤ c / 6 % ((z.length : Int) + 1) := Int.emod_nonneg _ (by omega)
    have hn1 : c / 6 % ((z.length : Int) + 1) < (z.length : Int) + 1 := Int.emod_lt_of_pos _ (by omega)
    generalize c / 6 % ((z.length : Int) + 1) = sp at hn0 hn1 ⊢
    have la := M59.sl_to z hn0
    have lb := M59.sl_from z hn0
    have lc := M59.sl_from z (show 0 ≤ sp + 1 by omega)
    generalize c % 6 = kd
    refine ⟨_, rfl, rfl, _, rfl, iteD (fun h0 => ?_) (fun h0 => ?_)⟩
    · refine ⟨_, rfl, _, rfl, _, rfl, z, rfl, (by omega), _, _, rfl, rfl, ?_, _, rfl, _, rfl, _, rfl, z, rfl, (by omega), _, _, rfl, rfl, ?_, ?_⟩
      · rw [show (Str.ofString " ").length = 1 by decide +kernel]; omega
      · rw [len_add, show (Str.ofString " ").length = 1 by decide +kernel]; omega
      · refine q _ _ (Same.refl _) ?_
        rw [len_add, len_add, show (Str.ofString " ").length = 1 by decide +kernel]; omega
    refine ⟨_, rfl, rfl, _, rfl, iteD (fun h1 => ?_) (fun h1 => ?_)⟩
    · refine ⟨_, rfl, _, rfl, _, rfl, z, rfl, (by omega), _, rfl, _, rfl, _, _, rfl, rfl, _, rfl, z, rfl, (by omega), _, _, rfl, rfl, ?_, ?_⟩
      · omega
      · refine q _ _ (Same.refl _) ?_
        rw [len_add]; omega
    have hsm := split_sum z
    have hwn := split_ne z
    refine ⟨_, rfl, rfl, _, _, rfl, rfl, by decide +kernel, by omega, by rw [M20.blank_eq]; have := sumL_len (Txt.split z M20.blank); omega, fun l1 hl1 => ?_⟩
    rw [M20.blank_eq]
    generalize Txt.split z M20.blank = ws at hsm hwn hl1 ⊢
    have hwl := sumL_len ws
    have hw1 : 1 ≤ ws.length := by cases ws with
      | nil => exact absurd rfl hwn
      | cons _ _ => rw [List.length_cons]; omega
    have s1 := Same.new (o := .lst (ws.map V.str)) hl1
    have e1 : upd H l1 (.lst (ws.map V.str)) l1 = some (.lst (ws.map V.str)) := upd_same
    generalize hH1 : upd H l1 _ = H1 at s1 e1 ⊢
    refine ⟨(by decide), fun l2 hl2 => ?_⟩
    have s2 := s1.newT (o := .lst (OTH.map V.str)) hl2
    have e2 : upd H1 l2 (.lst (OTH.map V.str)) l2 = some (.lst (OTH.map V.str)) := upd_same
    have e12 := (Same.new (o := .lst (OTH.map V.str)) hl2) _ _ e1
    generalize hH2 : upd H1 l2 _ = H2 at s2 e2 e12 ⊢
    have h15 : 0 ≤ c / 6 % 15 ∧ c / 6 % 15 < 15 := ⟨Int.emod_nonneg _ (by decide), Int.emod_lt_of_pos _ (by decide)⟩
    refine ⟨_, rfl, _, rfl, _, _, rfl, rfl, ⟨by decide, by decide⟩, _, _, rfl, rfl, (by show (0 : Int) < 15; decide), l2, _, _, _, rfl, rfl, SqL.of e2, atI_strs h15.1 (by exact h15.2), ?_⟩
    have hoth : (OTH.getD (c / 6 % 15).toNat "").length ≤ 5 := by
      have : ∀ k : Fin 15, (OTH.getD k.val "").length ≤ 5 := by decide +kernel
      exact this ⟨(c / 6 % 15).toNat, by omega⟩
    generalize OTH.getD (c / 6 % 15).toNat "" = ot at hoth
    refine ⟨_, rfl, _, _, rfl, rfl, ⟨by decide, by decide⟩, _, rfl, l1, _, rfl, .inl (SqL.of e12), _, _, rfl, rfl, (by show (0 : Int) < ((ws.map V.str).length : Int); rw [List.length_map]; omega), ?_⟩
    rw [List.length_map]
    have hs0 : 0 ≤ c / 90 % (ws.length : Int) := Int.emod_nonneg _ (by omega)
    have hs1 : c / 90 % (ws.length : Int) < (ws.length : Int) := Int.emod_lt_of_pos _ (by omega)
    generalize c / 90 % (ws.length : Int) = st at hs0 hs1 ⊢
    have hot : sumL [ot] = ot.length + 1 := by show (ot.length + 1) + 0 = _; omega
    have c1 := sumL_cut ws st.toNat st.toNat (Nat.le_refl _)
    have c2 := sumL_cut ws st.toNat (st + 1).toNat (by omega)
    have done : ∀ (r : List Str) (H' : Hp), Same H H' → sumL r ≤ z.length + 1 + 6 → Q (.str (Txt.join (Str.ofString " ") r)) H' := fun r H' s' hr => by
      rw [show Str.ofString " " = M20.blank from M20.blank_eq]
      rw [M6.join_txt]
      refine q _ _ s' ?_
      cases r with
      | nil => exact Nat.zero_le _
      | cons x r =>
        have j := join_sum 32 (x :: r) (by simp)
        show (Str.join ⟨#[32]⟩ (x :: r)).length ≤ _
        omega
    have fin : ∀ (r : List Str), sumL r ≤ z.length + 1 + 6 → r.length ≤ 200 ∧ ∀ w ∈ r, w.length ≤ 2000 := fun r hr => ⟨by have := sumL_len r; omega, fun w hw => by have := sumL_wd hw; omega⟩
    refine ⟨_, rfl, rfl, _, rfl, iteD (fun h2 => ?_) (fun h2 => ?_)⟩
    · refine ⟨rfl, _, rfl, _, rfl, _, rfl, l1, _, rfl, SqL.of e12, fun l3 hl3 => ?_⟩
      rw [cut_uptoS hs0]
      have s3 := s2.newT (o := .lst ((ws.take st.toNat).map V.str)) hl3
      have e3 : upd H2 l3 (.lst ((ws.take st.toNat).map V.str)) l3 = some (.lst ((ws.take st.toNat).map V.str)) := upd_same
      have e13 := (Same.new (o := .lst ((ws.take st.toNat).map V.str)) hl3) _ _ e12
      generalize hH3 : upd H2 l3 _ = H3 at s3 e3 e13 ⊢
      refine ⟨_, rfl, _, rfl, _, _, rfl, rfl, _, rfl, l1, _, rfl, SqL.of e13, fun l4 hl4 => ?_⟩
      rw [cut_from (show 0 ≤ st + 1 by omega), ← List.map_drop]
      have s4 := s3.newT (o := .lst ((ws.drop (st + 1).toNat).map V.str)) hl4
      have e4 : upd H3 l4 (.lst ((ws.drop (st + 1).toNat).map V.str)) l4 = some (.lst ((ws.drop (st + 1).toNat).map V.str)) := upd_same
      have e34 := (Same.new (o := .lst ((ws.drop (st + 1).toNat).map V.str)) hl4) _ _ e3
      generalize hH4 : upd H3 l4 _ = H4 at s4 e4 e34 ⊢
      have hr : sumL (ws.take st.toNat ++ ws.drop (st + 1).toNat) ≤ z.length + 1 + 6 := by rw [sumL_app]; omega
      refine ⟨l3, l4, _, _, rfl, rfl, e34, e4, ?_, fun l5 hl5 => ?_⟩
      · rw [← List.length_append, ← List.map_append, List.length_map]
        have := (fin _ hr).1
        omega
      rw [← List.map_append]
      exact ⟨_, l5, ws.take st.toNat ++ ws.drop (st + 1).toNat, rfl, rfl, SqL.new, by decide +kernel, (fin _ hr).1, (fin _ hr).2, done _ _ (s4.newT hl5) hr⟩
    refine ⟨_, rfl, rfl, _, rfl, iteD (fun h3 => ?_) (fun h3 => ?_)⟩
    · refine ⟨rfl, _, rfl, _, rfl, _, rfl, l1, _, rfl, SqL.of e12, fun l3 hl3 => ?_⟩
      rw [cut_uptoS hs0]
      have s3 := s2.newT (o := .lst ((ws.take st.toNat).map V.str)) hl3
      have e3 : upd H2 l3 (.lst ((ws.take st.toNat).map V.str)) l3 = some (.lst ((ws.take st.toNat).map V.str)) := upd_same
      have e13 := (Same.new (o := .lst ((ws.take st.toNat).map V.str)) hl3) _ _ e12
      generalize hH3 : upd H2 l3 _ = H3 at s3 e3 e13 ⊢
      refine ⟨_, rfl, (by show 1 ≤ sizeLine; decide), fun l4 hl4 => ?_⟩
      have s4 := s3.newT (o := .lst [.str ot]) hl4
      have e4 : upd H3 l4 (.lst [.str ot]) l4 = some (.lst (List.map V.str [ot])) := upd_same
      have e34 := (Same.new (o := .lst [.str ot]) hl4) _ _ e3
      have e14 := (Same.new (o := .lst [.str ot]) hl4) _ _ e13
      generalize hH4 : upd H3 l4 _ = H4 at s4 e4 e34 e14 ⊢
      have hr : sumL ((ws.take st.toNat ++ [ot]) ++ (ws.drop st.toNat)) ≤ z.length + 1 + 6 := by rw [sumL_app, sumL_app]; omega
      have hr1 := (fin _ hr).1
      rw [List.length_append] at hr1
      refine ⟨l3, l4, _, _, rfl, rfl, e34, e4, ?_, fun l5 hl5 => ?_⟩
      · rw [← List.length_append, ← List.map_append, List.length_map]
        omega
      rw [← List.map_append]
      have s5 := s4.newT (o := .lst ((ws.take st.toNat ++ [ot]).map V.str)) hl5
      have e5 : upd H4 l5 (.lst ((ws.take st.toNat ++ [ot]).map V.str)) l5 = some (.lst ((ws.take st.toNat ++ [ot]).map V.str)) := upd_same
      have e15 := (Same.new (o := .lst ((ws.take st.toNat ++ [ot]).map V.str)) hl5) _ _ e14
      generalize hH5 : upd H4 l5 _ = H5 at s5 e5 e15 ⊢
      refine ⟨_, rfl, _, rfl, _, rfl, l1, _, rfl, SqL.of e15, fun l6 hl6 => ?_⟩
      rw [cut_from hs0, ← List.map_drop]
      have s6 := s5.newT (o := .lst ((ws.drop st.toNat).map V.str)) hl6
      have e6 : upd H5 l6 (.lst ((ws.drop st.toNat).map V.str)) l6 = some (.lst ((ws.drop st.toNat).map V.str)) := upd_same
      have e56 := (Same.new (o := .lst ((ws.drop st.toNat).map V.str)) hl6) _ _ e5
      generalize hH6 : upd H5 l6 _ = H6 at s6 e6 e56 ⊢
      refine ⟨l5, l6, _, _, rfl, rfl, e56, e6, ?_, fun l7 hl7 => ?_⟩
      · rw [← List.length_append, ← List.map_append, List.length_map, List.length_append]
        omega
      rw [← List.map_append]
      exact ⟨_, l7, (ws.take st.toNat ++ [ot]) ++ (ws.drop st.toNat), rfl, rfl, SqL.new, by decide +kernel, (fin _ hr).1, (fin _ hr).2, done _ _ (s6.newT hl7) hr⟩
    refine ⟨_, rfl, rfl, _, rfl, iteD (fun h4 => ?_) (fun h4 => ?_)⟩
    · refine ⟨rfl, _, rfl, _, rfl, _, rfl, l1, _, rfl, SqL.of e12, fun l3 hl3 => ?_⟩
      rw [cut_uptoS hs0]
      have s3 := s2.newT (o := .lst ((ws.take st.toNat).map V.str)) hl3
      have e3 : upd H2 l3 (.lst ((ws.take st.toNat).map V.str)) l3 = some (.lst ((ws.take st.toNat).map V.str)) := upd_same
      have e13 := (Same.new (o := .lst ((ws.take st.toNat).map V.str)) hl3) _ _ e12
      generalize hH3 : upd H2 l3 _ = H3 at s3 e3 e13 ⊢
      refine ⟨_, rfl, (by show 1 ≤ sizeLine; decide), fun l4 hl4 => ?_⟩
      have s4 := s3.newT (o := .lst [.str ot]) hl4
      have e4 : upd H3 l4 (.lst [.str ot]) l4 = some (.lst (List.map V.str [ot])) := upd_same
      have e34 := (Same.new (o := .lst [.str ot]) hl4) _ _ e3
      have e14 := (Same.new (o := .lst [.str ot]) hl4) _ _ e13
      generalize hH4 : upd H3 l4 _ = H4 at s4 e4 e34 e14 ⊢
      have hr : sumL ((ws.take st.toNat ++ [ot]) ++ (ws.drop (st + 1).toNat)) ≤ z.length + 1 + 6 := by rw [sumL_app, sumL_app]; omega
      have hr1 := (fin _ hr).1
      rw [List.length_append] at hr1
      refine ⟨l3, l4, _, _, rfl, rfl, e34, e4, ?_, fun l5 hl5 => ?_⟩
      · rw [← List.length_append, ← List.map_append, List.length_map]
        omega
      rw [← List.map_append]
      have s5 := s4.newT (o := .lst ((ws.take st.toNat ++ [ot]).map V.str)) hl5
      have e5 : upd H4 l5 (.lst ((ws.take st.toNat ++ [ot]).map V.str)) l5 = some (.lst ((ws.take st.toNat ++ [ot]).map V.str)) := upd_same
      have e15 := (Same.new (o := .lst ((ws.take st.toNat ++ [ot]).map V.str)) hl5) _ _ e14
      generalize hH5 : upd H4 l5 _ = H5 at s5 e5 e15 ⊢
      refine ⟨_, rfl, _, rfl, _, _, rfl, rfl, _, rfl, l1, _, rfl, SqL.of e15, fun l6 hl6 => ?_⟩
      rw [cut_from (show 0 ≤ st + 1 by omega), ← List.map_drop]
      have s6 := s5.newT (o := .lst ((ws.drop (st + 1).toNat).map V.str)) hl6
      have e6 : upd H5 l6 (.lst ((ws.drop (st + 1).toNat).map V.str)) l6 = some (.lst ((ws.drop (st + 1).toNat).map V.str)) := upd_same
      have e56 := (Same.new (o := .lst ((ws.drop (st + 1).toNat).map V.str)) hl6) _ _ e5
      generalize hH6 : upd H5 l6 _ = H6 at s6 e6 e56 ⊢
      refine ⟨l5, l6, _, _, rfl, rfl, e56, e6, ?_, fun l7 hl7 => ?_⟩
      · rw [← List.length_append, ← List.map_append, List.length_map, List.length_append]
        omega
      rw [← List.map_append]
      exact ⟨_, l7, (ws.take st.toNat ++ [ot]) ++ (ws.drop (st + 1).toNat), rfl, rfl, SqL.new, by decide +kernel, (fin _ hr).1, (fin _ hr).2, done _ _ (s6.newT hl7) hr⟩
    exact q _ _ s2 (Nat.zero_le _)
end
end Pp

namespace Pp
open PySem L2
inductive sp_law_number (K : PySem.W.Frag) (vs : List V) (H : Hp) (Q : VK) (E : XK) : Prop
  | mk (z : Str) : vs = [.str z] → Q (.int (M57.num z)) H → sp_law_number K vs H Q E
theorem num_at {z : Str} {n : Nat} (hn : n < 999) (h : z = M20.strN (n + 1)) : M57.num z = n + 1 := by
  rw [h]
  exact M57.num_of (by omega)
theorem num_no {z : Str} (h : ∀ j : Nat, j < 999 → z ≠ M20.strN (j + 1)) : M57.num z = 0 := by
  rcases M57.num_range z with e | ⟨r, e⟩
  · exact e
  · obtain ⟨n, hn⟩ : ∃ n : Nat, M57.num z = n + 1 := ⟨(M57.num z - 1).toNat, by omega⟩
    exact absurd (by rw [← hn]; exact e) (h n (by omega))
section
variable {P : Program} {w : World} {K : PySem.W.Frag} {mg : Str → Option Value} {base : Heap}
theorem ok_law_number {f : Addr} {fd : FuncData} (F : Fun K "_law_number" "_law_number" s_law_number f fd) (T : Txt K mg) : FnOk P w K mg base CX0 1 f fd ["_law_word"] (sp_law_number K) := by
  refine F.ok sc_law_number (fun vs H Q E h => ?_) (fun cdv A outer s H vs Q E hr h => ?_)
  · obtain ⟨z, rfl, _⟩ := h
    rfl
  · obtain ⟨z, rfl, q⟩ := h
    refine ⟨_, (pss_cons (ps_for PassesOwn.never rfl (pi_range2 rfl T.b_range (pa_cons pe_int (pa_cons pe_int pa_nil))) (pg_name (i := 1) sc_law_number.nd rfl (Or.inl rfl))
        (pss_one (ps_if (pt_cmpR op_eq (pv 0) (pe_callTy call_str_int (by rfl) T.b_str PyProof.Rows.boot_str (pa_cons (pv 1) pa_nil)) (nomark _)) (pss_one (ps_ret (pv 1))) pss_nil)))
      (pss_one (ps_ret pe_int))), ?_⟩
    refine ⟨_, _, rfl, (by decide), ?_⟩
    refine for_range (n := 999) (fun i σ H2 => ∃ v, σ = [some (.str z), v] ∧ H2 = H ∧ ∀ j : Nat, j < i → z ≠ M20.strN (j + 1)) ⟨_, rfl, rfl, fun j hj => absurd hj (Nat.not_lt_zero _)⟩ ?_ ?_
    · rintro i σ H2 hi ⟨v, rfl, rfl, hj⟩
      refine ⟨_, rfl, _, rfl, _, rfl, log_ok (by omega), rfl, _, rfl, iteD (fun he => ?_) (fun hne => ?_)⟩
      · have he : z = M20.strN (i + 1) := by
          injection he with he
          rw [he, show ((1 : Int) + (i : Int)) = (i : Int) + 1 by omega]
          rfl
        refine ⟨_, rfl, ?_⟩
        rw [num_at hi he] at q
        rw [show ((1 : Int) + (i : Int)) = (i : Int) + 1 by omega]
        exact q
      · refine ⟨_, rfl, rfl, fun j hj' => ?_⟩
        by_cases hji : j = i
        · subst hji
          intro e
          apply hne
          rw [show ((1 : Int) + (j : Int)) = (j : Int) + 1 by omega]
          exact congrArg V.str e
        · exact hj j (by omega)
    · rintro σ H2 ⟨v, rfl, rfl, hj⟩
      rw [num_no hj] at q
      exact q
end
end Pp

namespace Pp
open PySem L2
inductive sp_Sheet_hand_in (K : PySem.W.Frag) (vs : List V) (H : Hp) (Q : VK) (E : XK) : Prop
  | mk (p : Addr) (F : Addr → Prop) (S : Sh) (j : Str) (a : Addr) (ns : List Int) : vs = [.ref p, .str j, .ref a] → SheetAt K H p F S → SqL K H a (ns.map V.int) → ns.length < 64 → ((∀ c, S.refuse j ns = some c → ∀ C H', ClsN K c C → Same H H' → E (.ref C) none H')) → ((S.refuse j ns = none → ∀ H' F', SheetAt K H' p F' (S.hand j ns) → Deed F H F' H' → Q .non H')) → sp_Sheet_hand_in K vs H Q E
section
variable {P : Program} {w : World} {K : PySem.W.Frag} {mg : Str → Option Value} {base : Heap}
theorem ok_Sheet_hand_in {f : Addr} {fd : FuncData} (F : Fun K "hand_in" "Sheet.hand_in" s_Sheet_hand_in f fd) (T : Txt K mg) (C_whole_card : Can P w K mg base 1 "whole_card" ps_whole_card (sp_whole_card K)) (C_Sheet_refuse_if_sealed : CanMX P w K mg base 1 (clsA K "Sheet") "refuse_if_sealed" ["self"] (sp_Sheet_refuse_if_sealed K)) (C_Sheet_refuse_unknown_judge : CanMX P w K mg base 1 (clsA K "Sheet") "refuse_unknown_judge" ps_Sheet_refuse_unknown_judge (sp_Sheet_refuse_unknown_judge K)) : FnOk P w K mg base (CX1 P w) 2 f fd ps_Sheet_hand_in (sp_Sheet_hand_in K) := by
  obtain ⟨c_BadCard, n_BadCard, m_BadCard, x_BadCard⟩ := T.x_BadCard
  obtain ⟨c_TooManyCards, n_TooManyCards, m_TooManyCards, x_TooManyCards⟩ := T.x_TooManyCards
  refine F.okX sc_Sheet_hand_in (fun vs H Q E h => ?_) (fun X W cdv A outer s H vs Q E hX hW fl md hr h => ?_)
  · obtain ⟨p, F, S, j, a, ns, rfl, _⟩ := h
    rfl
  · obtain ⟨p, F, S, j, a, ns, rfl, hSh, hA, hz, qE, q⟩ := h
    obtain ⟨dx, a1, a2, a3, d, kvs, h⟩ := id hSh
    subst hX
    refine ⟨_, (pss_cons (ps_expr (pe_ownMX0 C_Sheet_refuse_if_sealed T.cl_Sheet fl (hr.mono (by decide)) (pv 0)))
      (pss_cons (ps_expr (pe_ownMX C_Sheet_refuse_unknown_judge T.cl_Sheet fl (hr.mono (by decide)) (pv 0) (pa_cons (pv 1) pa_nil)))
      (pss_cons (ps_if (pt_not (pt_val (pe_own C_whole_card (hr.mono (by decide)) rfl (pa_cons (pv 2) (pa_cons (pe_fld (pv 0) rfl) pa_nil))))) (pss_one (ps_raise rfl md rfl m_BadCard x_BadCard (pa_cons pe_str pa_nil))) pss_nil)
      (pss_cons (ps_if (pt_cmpR op_ge (pe_fld (pv 0) rfl) (pe_const T.c_MOST_CARDS rfl) (nomark _)) (pss_one (ps_raise rfl md rfl m_TooManyCards x_TooManyCards (pa_cons pe_str pa_nil))) pss_nil)
      (pss_cons (ps_dput (hu_of hr) (pe_fld (pv 0) rfl) (pv 1) (pe_callTy call_list_of (by rfl) T.b_list PyProof.Rows.boot_list (pa_cons (pv 2) pa_nil)) rfl)
      (pss_one (ps_fld (pv 0) (pe_op op_add (pe_fld (pv 0) rfl) pe_int) rfl))))))), ?_⟩
    have hln := line_ge
    have h24 := h.ok.c24
    refine ⟨_, rfl, p, dx, _, rfl, h.ip, rfl, p, F, S, rfl, hSh, (fun hs C hC => ?_), fun hs => ?_⟩
    · rw [hW]
      exact qE "SheetSealed" (by unfold Sh.refuse; rw [if_pos hs]) C _ hC (Same.refl _)
    refine ⟨_, rfl, p, dx, _, rfl, h.ip, rfl, _, rfl, p, F, S, j, rfl, hSh, (fun hj C hC => ?_), fun hj => ?_⟩
    · rw [hW]
      exact qE "UnknownJudge" (by unfold Sh.refuse; rw [if_neg (by rw [hs]; exact Bool.false_ne_true), if_neg hj]) C _ hC (Same.refl _)
    refine ⟨_, rfl, _, rfl, p, _, dx, _, _, rfl, h.ip, T.cl_Sheet, T.n_Sheet_standing, rfl, a, a1, ns, S.couples, rfl, hA, SqL.of h.i1, hz, by omega, fun H2 s2 => ⟨_, rfl, ?_⟩⟩
    refine iteND (fun hp => ?_) (fun hp => ?_)
    · refine ⟨(by show 1 ≤ sizeLine; decide), ?_⟩
      rw [hW]
      exact qE "BadCard" (by unfold Sh.refuse; rw [if_neg (by rw [hs]; exact Bool.false_ne_true), if_pos hj, if_neg hp]) _ _ n_BadCard s2
    have ip := s2 _ _ h.ip
    have i1 := s2 _ _ h.i1
    have i2 := s2 _ _ h.i2
    have i3 := s2 _ _ h.i3
    have i4 := s2 _ _ h.i4
    refine ⟨_, rfl, p, _, dx, _, _, rfl, ip, T.cl_Sheet, T.n_Sheet_taken_so_far, rfl, _, _, rfl, rfl, _, rfl, iteD (fun ht => ?_) (fun ht => ?_)⟩
    · refine ⟨(by show 1 ≤ sizeLine; decide), ?_⟩
      rw [hW]
      exact qE "TooManyCards" (by unfold Sh.refuse; rw [if_neg (by rw [hs]; exact Bool.false_ne_true), if_pos hj, if_pos hp, if_pos (by omega)]) _ _ n_TooManyCards s2
    have hn : S.refuse j ns = none := by unfold Sh.refuse; rw [if_neg (by rw [hs]; exact Bool.false_ne_true), if_pos hj, if_pos hp, if_neg (by omega)]
    have hk := h.kl
    have ht2 := h.ok.t200
    refine ⟨_, rfl, a, _, rfl, .inl (s2.seq hA), fun l hl => ?_⟩
    have kp : ∀ b o, H2 b = some o → upd H2 l (.lst (ns.map V.int)) b = some o := fun b o e => Same.new hl b o e
    refine ⟨_, rfl, p, _, dx, _, _, rfl, kp _ _ ip, T.cl_Sheet, T.n_Sheet_card_by_judge, rfl, _, rfl, d, _, rfl, DPut.k (k := Sum.inr j) (kp _ _ i4) (by omega), ?_⟩
    have n1 : a1 ≠ p := ne_of i1 ip (by intro z; cases z)
    have n2 : a2 ≠ p := ne_of i2 ip (by intro z; cases z)
    have n3 : a3 ≠ p := ne_of i3 ip (by intro z; cases z)
    have n4 : d ≠ p := ne_of i4 ip (by intro z; cases z)
    have m1 : a1 ≠ d := ne_of i1 i4 (by intro z; cases z)
    have m2 : a2 ≠ d := ne_of i2 i4 (by intro z; cases z)
    have m3 : a3 ≠ d := ne_of i3 i4 (by intro z; cases z)
    have lp : l ≠ p := fun z => by rw [z, ip] at hl; cases hl
    have ld : l ≠ d := fun z => by rw [z, i4] at hl; cases hl
    have l2 : l ≠ a2 := fun z => by rw [z, i2] at hl; cases hl
    have ip' : upd (upd H2 l (.lst (ns.map V.int))) d (.dK (putK kvs (Sum.inr j) (.ref l))) p = some (.ins (clsA K "Sheet") dx (shF a1 a2 a3 d S)) := by rw [upd_ne (Ne.symm n4)]; exact kp _ _ ip
    refine ⟨_, rfl, p, _, dx, _, _, rfl, ip', T.cl_Sheet, T.n_Sheet_taken_so_far, rfl, _, _, rfl, rfl, ?_⟩
    refine ⟨_, rfl, p, _, dx, _, rfl, ip', T.cl_Sheet, T.n_Sheet_taken_so_far, (by show 6 < 1000; decide), ?_⟩
    have et : (V.int ((S.taken : Int) + 1)) = .int ((S.hand j ns).taken : Nat) := by show V.int _ = V.int ((S.taken + 1 : Nat) : Int); congr 1
    show _
    dsimp only
    rw [et, pf_taken a1 a2 a3 d S (S.hand j ns) rfl]
    obtain ⟨ok', _⟩ := h.ok.hand hn
    have up : ∀ b o, H2 b = some o → b ≠ p → b ≠ d → upd (upd (upd H2 l (.lst (ns.map V.int))) d (.dK (putK kvs (Sum.inr j) (.ref l)))) p (.ins (clsA K "Sheet") dx (shF a1 a2 a3 d (S.hand j ns))) b = some o := fun b o e nb nd => by rw [upd_ne nb, upd_ne nd]; exact kp b o e
    have el : upd (upd (upd H2 l (.lst (ns.map V.int))) d (.dK (putK kvs (Sum.inr j) (.ref l)))) p (.ins (clsA K "Sheet") dx (shF a1 a2 a3 d (S.hand j ns))) l = some (.lst (ns.map V.int)) := by rw [upd_ne lp, upd_ne ld]; exact upd_same
    refine q hn _ (fun b => F b ∨ b = l) ⟨dx, a1, a2, a3, d, putK kvs (Sum.inr j) (.ref l), ⟨⟨upd_same, up _ _ i1 n1 m1, up _ _ i2 n2 m2, up _ _ i3 n3 m3, by rw [upd_ne n4]; exact upd_same, ?_, fun k hk' => ?_, fun k c hc => ?_, .inl h.fp, .inl h.f1, .inl h.f2, .inl h.f3, .inl h.f4, h.n12, h.n32, fun b hb => ?_⟩, ok'⟩⟩ fun b o e n => ⟨up b o (s2 _ _ e) (fun z => n (z ▸ h.fp)) (fun z => n (z ▸ h.f4)), ?_⟩
    · have := length_putK kvs (Sum.inr j) (.ref l)
      show _ ≤ S.taken + 1
      omega
    · have hk' : (if k = j then some ns else S.card k) = none := hk'
      rw [valV_put]
      by_cases ek : k = j
      · rw [if_pos ek] at hk'; cases hk'
      · rw [if_neg ek] at hk'
        rw [if_neg (fun z => ek (by injection z))]
        exact h.cn k hk'
    · have hc : (if k = j then some ns else S.card k) = some c := hc
      rw [valV_put]
      by_cases ek : k = j
      · rw [if_pos ek] at hc
        cases hc
        rw [if_pos (by rw [ek])]
        exact ⟨l, rfl, el, .inr rfl, l2⟩
      · rw [if_neg ek] at hc
        rw [if_neg (fun z => ek (by injection z))]
        obtain ⟨l', x1, x2, x3, x4⟩ := h.cs k c hc
        exact ⟨l', x1, up _ _ (s2 _ _ x2) (ne_of x2 h.ip (by intro z; cases z)) (ne_of x2 h.i4 (by intro z; cases z)), .inl x3, x4⟩
    · by_cases hbp : b = p
      · rw [hbp, upd_same]; exact fun z => nomatch z
      rw [upd_ne hbp]
      by_cases hbd : b = d
      · rw [hbd, upd_same]; exact fun z => nomatch z
      rw [upd_ne hbd]
      rcases hb with hb | hb
      · have := h.fh b hb
        cases e : H b with
        | none => exact absurd e this
        | some o => rw [kp _ _ (s2 _ _ e)]; exact fun z => nomatch z
      · rw [hb, upd_same]; exact fun z => nomatch z
    · rintro (z | z)
      · exact n z
      · have := s2 _ _ e
        rw [z, hl] at this
        cases this
end
end Pp

namespace Pp
open PySem L2
inductive sp_Sheet_strike (K : PySem.W.Frag) (vs : List V) (H : Hp) (Q : VK) (E : XK) : Prop
  | mk (p : Addr) (F : Addr → Prop) (S : Sh) (c : Int) : vs = [.ref p, .int c] → SheetAt K H p F S → ((∀ x, S.refuseS c = some x → ∀ C, ClsN K x C → E (.ref C) none H)) → ((S.refuseS c = none → ∀ H' F', SheetAt K H' p F' (S.strike c) → Deed F H F' H' → Q .non H')) → sp_Sheet_strike K vs H Q E
section
variable {P : Program} {w : World} {K : PySem.W.Frag} {mg : Str → Option Value} {base : Heap}
theorem ok_Sheet_strike {f : Addr} {fd : FuncData} (F : Fun K "strike" "Sheet.strike" s_Sheet_strike f fd) (T : Txt K mg) (C_without_couple : Can P w K mg base 1 "without_couple" ps_without_couple (sp_without_couple K)) (C_Sheet_handed : CanM P w K mg base 1 (clsA K "Sheet") "handed" ["self"] (sp_Sheet_handed K)) (C_Sheet_refuse_if_sealed : CanMX P w K mg base 1 (clsA K "Sheet") "refuse_if_sealed" ["self"] (sp_Sheet_refuse_if_sealed K)) : FnOk P w K mg base (CX1 P w) 2 f fd ps_Sheet_strike (sp_Sheet_strike K) := by
  obtain ⟨c_UnknownCouple, n_UnknownCouple, m_UnknownCouple, x_UnknownCouple⟩ := T.x_UnknownCouple
  obtain ⟨c_LastCouple, n_LastCouple, m_LastCouple, x_LastCouple⟩ := T.x_LastCouple
  refine F.okX sc_Sheet_strike (fun vs H Q E h => ?_) (fun X W cdv A outer s H vs Q E hX hW fl md hr h => ?_)
  · obtain ⟨p, F, S, c, rfl, _⟩ := h
    rfl
  · obtain ⟨p, F, S, c, rfl, hSh, qE, q⟩ := h
    obtain ⟨dx, a1, a2, a3, d, kvs, h⟩ := id hSh
    subst hX
    refine ⟨_, (pss_cons (ps_expr (pe_ownMX0 C_Sheet_refuse_if_sealed T.cl_Sheet fl (hr.mono (by decide)) (pv 0)))
      (pss_cons (ps_if (pt_cmpR op_notIn_seq (pv 1) (pe_fld (pv 0) rfl) (by first | exact nomark _ | rfl)) (pss_one (ps_raise rfl md rfl m_UnknownCouple x_UnknownCouple (pa_cons pe_str pa_nil))) pss_nil)
      (pss_cons (ps_if (pt_cmpR op_eq (pLen T.b_len (pe_fld (pv 0) rfl)) pe_int (nomark _)) (pss_one (ps_raise rfl md rfl m_LastCouple x_LastCouple (pa_cons pe_str pa_nil))) pss_nil)
      (pss_cons (ps_fld (pv 0) (pe_own C_without_couple (hr.mono (by decide)) rfl (pa_cons (pe_fld (pv 0) rfl) (pa_cons (pv 1) pa_nil))) rfl)
      (pss_cons (ps_expr (pe_bm PySem.F.plainAttrs_list PySem.F.slot_list_append PySem.F.type_list_append mt_append (pe_fld (pv 0) rfl) (pa_cons (pv 1) pa_nil)))
      (pss_one (ps_for PassesOwn.leaving rfl (pi_list (pe_ownM0 C_Sheet_handed T.cl_Sheet (hr.mono (by decide)) (pv 0))) (pg_name (i := 2) sc_Sheet_strike.nd rfl (Or.inl rfl))
        (pss_one (ps_dput (hu_of hr) (pe_fld (pv 0) rfl) (pv 2) (pe_own C_without_couple (hr.mono (by decide)) rfl (pa_cons (pe_dget (hu_of hr) (pe_fld (pv 0) rfl) (pv 2) (fun _ _ => rfl)) (pa_cons (pv 1) pa_nil))) rfl))))))))), ?_⟩
    have hln := line_ge
    have h24 := h.ok.c24
    refine ⟨_, rfl, p, dx, _, rfl, h.ip, rfl, p, F, S, rfl, hSh, (fun hs C hC => ?_), fun hs => ?_⟩
    · rw [hW]
      exact qE "SheetSealed" (by unfold Sh.refuseS; rw [if_pos hs]) C hC
    have hs' : ¬ S.shut = true := by rw [hs]; exact Bool.false_ne_true
    refine ⟨_, rfl, _, rfl, p, _, dx, _, _, rfl, h.ip, T.cl_Sheet, T.n_Sheet_standing, rfl, a1, _, rfl, .inl (SqL.of h.i1), rfl, flat_ints _, _, rfl, ?_⟩
    rw [inV_ints]
    refine iteND (fun hc => ?_) (fun hc => ?_)
    · refine ⟨(by show 1 ≤ sizeLine; decide), ?_⟩
      rw [hW]
      exact qE "UnknownCouple" (by unfold Sh.refuseS; rw [if_neg hs', if_neg hc]) _ n_UnknownCouple
    refine ⟨_, rfl, p, _, dx, _, _, rfl, h.ip, T.cl_Sheet, T.n_Sheet_standing, rfl, a1, _, rfl, .inl (SqL.of h.i1), rfl, _, rfl, ?_⟩
    rw [List.length_map]
    refine iteD (fun h1 => ?_) (fun h1 => ?_)
    · refine ⟨(by show 1 ≤ sizeLine; decide), ?_⟩
      rw [hW]
      injection h1 with h1
      exact qE "LastCouple" (by unfold Sh.refuseS; rw [if_neg hs', if_pos hc, if_pos (by omega)]) _ n_LastCouple
    have h1 : S.couples.length ≠ 1 := fun z => h1 (by rw [z]; rfl)
    have hn : S.refuseS c = none := by unfold Sh.refuseS; rw [if_neg hs', if_pos hc, if_neg h1]
    refine ⟨_, rfl, p, _, dx, _, _, rfl, h.ip, T.cl_Sheet, T.n_Sheet_standing, rfl, _, rfl, a1, S.couples, c, rfl, SqL.of h.i1, by omega, fun b1 H2 s2 f2 e2 => ?_⟩
    have ip := s2 _ _ h.ip
    have i2 := s2 _ _ h.i2
    have i3 := s2 _ _ h.i3
    have i4 := s2 _ _ h.i4
    refine ⟨_, rfl, p, _, dx, _, rfl, ip, T.cl_Sheet, T.n_Sheet_standing, (by show 6 < 1000; decide), ?_⟩
    rw [pf_standing a1 a2 a3 d b1 S (S.strike c) rfl rfl]
    have n2 : a2 ≠ p := ne_of i2 ip (by intro z; cases z)
    have n3 : a3 ≠ p := ne_of i3 ip (by intro z; cases z)
    have n4 : d ≠ p := ne_of i4 ip (by intro z; cases z)
    have n1 : b1 ≠ p := ne_of e2 ip (by intro z; cases z)
    have m2 : a2 ≠ d := ne_of i2 i4 (by intro z; cases z)
    have b2 : b1 ≠ a2 := fun z => by rw [z, h.i2] at f2; cases f2
    have ni2 : upd H2 p (.ins (clsA K "Sheet") dx (shF b1 a2 a3 d (S.strike c))) a2 = some (.lst (S.struck.map V.int)) := by rw [upd_ne n2]; exact i2
    refine ⟨_, rfl, p, _, dx, _, _, rfl, upd_same, T.cl_Sheet, T.n_Sheet_struck_so_far, rfl, .inl ⟨rfl, _, SqL.of ni2⟩, _, rfl, a2, _, _, rfl, rfl, ni2, (by rw [List.length_map]; omega), ?_⟩
    have up : ∀ b o, H2 b = some o → b ≠ p → b ≠ a2 → upd (upd H2 p (.ins (clsA K "Sheet") dx (shF b1 a2 a3 d (S.strike c)))) a2 (.lst (S.struck.map V.int ++ [V.int c])) b = some o := fun b o e nb nd => by rw [upd_ne nd, upd_ne nb]; exact e
    have up1 : upd (upd H2 p (.ins (clsA K "Sheet") dx (shF b1 a2 a3 d (S.strike c)))) a2 (.lst (S.struck.map V.int ++ [V.int c])) p = some (.ins (clsA K "Sheet") dx (shF b1 a2 a3 d (S.strike c))) := by rw [upd_ne (Ne.symm n2)]; exact upd_same
    have up2 : upd (upd H2 p (.ins (clsA K "Sheet") dx (shF b1 a2 a3 d (S.strike c)))) a2 (.lst (S.struck.map V.int ++ [V.int c])) a2 = some (.lst ((S.strike c).struck.map V.int)) := lst_app _ _
    generalize hH3 : upd (upd H2 p _) a2 _ = H3 at up up1 up2 ⊢
    have F3 : ∀ b, (F b ∨ b = b1) → H3 b ≠ none := fun b hb => by
      by_cases hbp : b = p
      · rw [hbp, up1]; exact fun z => nomatch z
      by_cases hba : b = a2
      · rw [hba, up2]; exact fun z => nomatch z
      rcases hb with hb | hb
      · have := h.fh b hb
        cases e : H b with
        | none => exact absurd e this
        | some o => rw [up _ _ (s2 _ _ e) hbp hba]; exact fun z => nomatch z
      · rw [hb, up _ _ e2 n1 b2]; exact fun z => nomatch z
    have D3 : Deed F H (fun b => F b ∨ b = b1) H3 := fun b o e n => ⟨up b o (s2 _ _ e) (fun z => n (z ▸ h.fp)) (fun z => n (z ▸ h.f2)), fun z => z.elim n fun z => by rw [z, f2] at e; cases e⟩
    have hcs : ∀ j cd, S.card j = some cd → ∃ l, valV kvs (Sum.inr j) = some (.ref l) ∧ H3 l = some (.lst (cd.map V.int)) ∧ (F l ∨ l = b1) ∧ l ≠ a2 := fun j cd e => by
      obtain ⟨l, x1, x2, x3, x4⟩ := h.cs j cd e
      exact ⟨l, x1, up _ _ (s2 _ _ x2) (ne_of x2 h.ip (by intro z; cases z)) x4, .inl x3, x4⟩
    obtain ⟨ok', _⟩ := h.ok.strike hn
    refine ⟨_, rfl, p, dx, _, rfl, up1, rfl, p, (fun b => F b ∨ b = b1), ⟨wo c S.couples, S.struck ++ [c], S.panel, S.card, S.taken, S.shut⟩, rfl, ⟨dx, b1, a2, a3, d, kvs, ⟨up1, up _ _ e2 n1 b2, up2, up _ _ i3 n3 h.n32, up _ _ i4 n4 (Ne.symm m2), h.kl, h.cn, hcs, .inl h.fp, .inr rfl, .inl h.f2, .inl h.f3, .inl h.f4, b2, h.n32, F3⟩⟩, h.ok.p15, fun a H4 s4 f4 e4 => ?_⟩
    have hhl : S.handed.length ≤ 15 := Nat.le_trans (List.length_filter_le _ _) h.ok.p15
    refine ⟨a, rfl, ⟨_, SqL.of e4⟩, ?_⟩
    refine for_list (xs := S.handed.map V.str) (fun i σ H5 => ∃ (v : Option V) (kvs' : List (Key × V)) (F' : Addr → Prop), σ = [some (.ref p), some (.int c), v] ∧ H5 p = some (.ins (clsA K "Sheet") dx (shF b1 a2 a3 d (S.strike c))) ∧ H5 b1 = some (.lst ((wo c S.couples).map V.int)) ∧ H5 a2 = some (.lst ((S.strike c).struck.map V.int)) ∧ H5 a3 = some (.lst (S.panel.map V.str)) ∧ H5 d = some (.dK kvs') ∧ H5 a = some (.lst (S.handed.map V.str)) ∧
      kvs'.length ≤ S.taken ∧ (∀ j, S.card j = none → valV kvs' (Sum.inr j) = none) ∧ (∀ j cd, S.card j = some cd → ∃ l, valV kvs' (Sum.inr j) = some (.ref l) ∧ H5 l = some (.lst ((if j ∈ S.handed.take i then wo c cd else cd).map V.int)) ∧ F' l ∧ l ≠ a2) ∧ (∀ b, F b → F' b) ∧ F' b1 ∧ (∀ b, F' b → H5 b ≠ none) ∧ Deed F H F' H5)
      ⟨_, kvs, fun b => F b ∨ b = b1, rfl, s4 _ _ up1, s4 _ _ (up _ _ e2 n1 b2), s4 _ _ up2, s4 _ _ (up _ _ i3 n3 h.n32), s4 _ _ (up _ _ i4 n4 (Ne.symm m2)), e4, h.kl, h.cn, (fun j cd e => ?_), (fun b hb => .inl hb), .inr rfl, (fun b hb => ?_), fun b o e n => ⟨s4 _ _ (D3 b o e n).1, (D3 b o e n).2⟩⟩ ?_ ?_ ?_
    · obtain ⟨l, x1, x2, x3, x4⟩ := hcs j cd e
      exact ⟨l, x1, by rw [if_neg (by rw [List.take_zero]; exact List.not_mem_nil)]; exact s4 _ _ x2, x3, x4⟩
    · have := F3 b hb
      cases e : H3 b with
      | none => exact absurd e this
      | some o => rw [s4 _ _ e]; exact fun z => nomatch z
    · rintro i σ H5 hi ⟨v, kvs', F', rfl, w1, w2, w3, w4, w5, w6, _⟩
      exact SqL.of w6
    · rintro i x σ H5 hx ⟨v, kvs', F', rfl, w1, w2, w3, w4, w5, w6, w7, w8, w9, w10, w11, w12, w13⟩
      obtain ⟨hi, rfl⟩ := strs_get hx
      have hm := List.mem_filter.mp (show S.handed.getD i "" ∈ S.panel.filter fun j => (S.card j).isSome from getD_inS hi)
      generalize hj : S.handed.getD i "" = j at hm
      cases e : S.card j with
      | none => rw [e] at hm; exact absurd hm.2 Bool.false_ne_true
      | some cd =>
        have hnd : S.handed.Nodup := h.ok.pnd.filter _
        have hnt : j ∉ S.handed.take i := fun z => by
          have e1 : S.handed.take (i + 1) = S.handed.take i ++ [j] := by rw [take_nextS hi, hj]
          have e2 : (S.handed.take (i + 1)).Nodup := hnd.sublist (List.take_sublist _ _)
          rw [e1] at e2
          exact (List.nodup_append.mp e2).2.2 j z j (List.mem_singleton.mpr rfl) rfl
        obtain ⟨l, x1, x2, x3, x4⟩ := w9 j cd e
        rw [if_neg hnt] at x2
        have hcl : cd.length ≤ 24 := by have := (h.ok.cd j cd e).2.length_eq; omega
        refine ⟨_, rfl, p, _, dx, _, _, rfl, w1, T.cl_Sheet, T.n_Sheet_card_by_judge, rfl, _, rfl, d, .ref l, rfl, x1 ▸ DGet.k (k := Sum.inr j) w5, _, rfl, l, cd, c, rfl, SqL.of x2, by omega, fun l' H6 s6 f6 e6 => ?_⟩
        refine ⟨_, rfl, p, _, dx, _, _, rfl, s6 _ _ w1, T.cl_Sheet, T.n_Sheet_card_by_judge, rfl, _, rfl, d, _, rfl, DPut.k (k := Sum.inr j) (s6 _ _ w5) (by have := h.ok.t200; omega), ?_⟩
        have nd : ∀ b o, H6 b = some o → (∀ k, o ≠ .dK k) → upd H6 d (.dK (putK kvs' (Sum.inr j) (.ref l'))) b = some o := fun b o e n => by rw [upd_ne (ne_of e (s6 _ _ w5) (n _))]; exact e
        have ld : l' ≠ d := ne_of e6 (s6 _ _ w5) (by intro z; cases z)
        refine ⟨_, putK kvs' (Sum.inr j) (.ref l'), fun b => F' b ∨ b = l', rfl, nd _ _ (s6 _ _ w1) (fun _ z => nomatch z), nd _ _ (s6 _ _ w2) (fun _ z => nomatch z), nd _ _ (s6 _ _ w3) (fun _ z => nomatch z), nd _ _ (s6 _ _ w4) (fun _ z => nomatch z), upd_same, nd _ _ (s6 _ _ w6) (fun _ z => nomatch z), by rw [putK_len x1]; exact w7, fun k hk => ?_, fun k b hk => ?_, fun b hb => .inl (w10 b hb), .inl w11, fun b hb => ?_, fun b o e' n => ?_⟩
        · rw [valV_put, if_neg (fun z => by injection z with z; rw [z, e] at hk; cases hk)]
          exact w8 k hk
        · rw [valV_put, take_nextS hi, hj]
          by_cases ek : k = j
          · subst ek
            rw [e] at hk
            cases hk
            rw [if_pos rfl]
            refine ⟨l', rfl, ?_, .inr rfl, fun z => by rw [z, w3] at f6; cases f6⟩
            rw [if_pos (List.mem_append_right _ (List.mem_singleton.mpr rfl))]
            exact nd _ _ e6 (fun _ z => nomatch z)
          · rw [if_neg (fun z => ek (by injection z))]
            obtain ⟨m, y1, y2, y3, y4⟩ := w9 k b hk
            refine ⟨m, y1, ?_, .inl y3, y4⟩
            have : (k ∈ S.handed.take i ++ [j]) ↔ k ∈ S.handed.take i := by
              rw [List.mem_append, List.mem_singleton]
              exact ⟨fun z => z.elim id fun w => absurd w ek, .inl⟩
            simp only [this]
            exact nd _ _ (s6 _ _ y2) (fun _ z => nomatch z)
        · by_cases hbd : b = d
          · rw [hbd, upd_same]; exact fun z => nomatch z
          rw [upd_ne hbd]
          rcases hb with hb | hb
          · have := w12 b hb
            cases e7 : H5 b with
            | none => exact absurd e7 this
            | some o => rw [s6 _ _ e7]; exact fun z => nomatch z
          · rw [hb, e6]; exact fun z => nomatch z
        · obtain ⟨y1, y2⟩ := w13 b o e' n
          refine ⟨?_, fun z => z.elim y2 fun w => by rw [w, f6] at y1; cases y1⟩
          have nbd : b ≠ d := fun z => n (by rw [z]; exact h.f4)
          rw [upd_ne nbd]
          exact s6 _ _ y1
    · rintro σ H5 ⟨v, kvs', F', rfl, w1, w2, w3, w4, w5, w6, w7, w8, w9, w10, w11, w12, w13⟩
      rw [List.length_map, List.take_length] at w9
      refine q hn H5 F' ⟨dx, b1, a2, a3, d, kvs', ⟨⟨w1, w2, w3, w4, w5, w7, fun j hj => ?_, fun j b hj => ?_, w10 _ h.fp, w11, w10 _ h.f2, w10 _ h.f3, w10 _ h.f4, b2, h.n32, w12⟩, ok'⟩⟩ w13
      · have hj : (S.card j).map (wo c) = none := hj
        exact w8 j (Option.map_eq_none_iff.mp hj)
      · have hj : (S.card j).map (wo c) = some b := hj
        obtain ⟨cd, e, rfl⟩ := Option.map_eq_some_iff.mp hj
        obtain ⟨l, x1, x2, x3, x4⟩ := w9 j cd e
        refine ⟨l, x1, ?_, x3, x4⟩
        have hin : j ∈ S.handed := List.mem_filter.mpr ⟨(h.ok.cd j cd e).1, by rw [e]; rfl⟩
        rw [if_pos hin] at x2
        exact x2
end
end Pp

namespace Pp
open PySem L2
inductive sp_Sheet_seal (K : PySem.W.Frag) (vs : List V) (H : Hp) (Q : VK) (E : XK) : Prop
  | mk (p : Addr) (F : Addr → Prop) (S : Sh) : vs = [.ref p] → SheetAt K H p F S → ((S.shut = true → ∀ C, ClsN K "SheetSealed" C → E (.ref C) none H)) → ((S.shut = false → ∀ H', SheetAt K H' p F S.close → Deed F H F H' → Q .non H')) → sp_Sheet_seal K vs H Q E
section
variable {P : Program} {w : World} {K : PySem.W.Frag} {mg : Str → Option Value} {base : Heap}
theorem ok_Sheet_seal {f : Addr} {fd : FuncData} (F : Fun K "seal" "Sheet.seal" s_Sheet_seal f fd) (T : Txt K mg) (C_Sheet_refuse_if_sealed : CanMX P w K mg base 1 (clsA K "Sheet") "refuse_if_sealed" ["self"] (sp_Sheet_refuse_if_sealed K)) : FnOk P w K mg base (CX1 P w) 2 f fd ["self"] (sp_Sheet_seal K) := by
  refine F.okX sc_Sheet_seal (fun vs H Q E h => ?_) (fun X W cdv A outer s H vs Q E hX hW fl md hr h => ?_)
  · obtain ⟨p, F, S, rfl, _⟩ := h
    rfl
  · obtain ⟨p, F, S, rfl, ⟨dx, a1, a2, a3, d, kvs, h⟩, qE, q⟩ := h
    subst hX
    refine ⟨_, (pss_cons (ps_expr (pe_ownMX0 C_Sheet_refuse_if_sealed T.cl_Sheet fl (hr.mono (by decide)) (pv 0)))
      (pss_one (ps_fld (pv 0) pe_bl rfl))), ?_⟩
    refine ⟨_, rfl, p, dx, _, rfl, h.ip, rfl, p, F, S, rfl, ⟨dx, a1, a2, a3, d, kvs, h⟩, fun hs C hC => by rw [hW]; exact qE hs C hC, fun hs => ?_⟩
    refine ⟨_, rfl, p, _, dx, _, rfl, h.ip, T.cl_Sheet, T.n_Sheet_sealed, (by show 6 < 1000; decide), ?_⟩
    rw [show V.bl true = V.bl S.close.shut from rfl, pf_sealed a1 a2 a3 d S S.close rfl]
    have up : ∀ b o, H b = some o → b ≠ p → upd H p (.ins (clsA K "Sheet") dx (shF a1 a2 a3 d S.close)) b = some o := fun b o e n => by rw [upd_ne n]; exact e
    have n1 : a1 ≠ p := ne_of h.i1 h.ip (by intro z; cases z)
    have n2 : a2 ≠ p := ne_of h.i2 h.ip (by intro z; cases z)
    have n3 : a3 ≠ p := ne_of h.i3 h.ip (by intro z; cases z)
    have n4 : d ≠ p := ne_of h.i4 h.ip (by intro z; cases z)
    refine q hs _ ⟨dx, a1, a2, a3, d, kvs, ⟨⟨upd_same, up _ _ h.i1 n1, up _ _ h.i2 n2, up _ _ h.i3 n3, up _ _ h.i4 n4, h.kl, h.cn, fun j c hc => ?_, h.fp, h.f1, h.f2, h.f3, h.f4, h.n12, h.n32, fun b hb => ?_⟩, h.ok.close⟩⟩ fun b o e n => ⟨up b o e fun z => n (z ▸ h.fp), n⟩
    · obtain ⟨l, x1, x2, x3, x4⟩ := h.cs j c hc
      exact ⟨l, x1, up _ _ x2 (ne_of x2 h.ip (by intro z; cases z)), x3, x4⟩
    · by_cases hbp : b = p
      · rw [hbp, upd_same]; exact fun z => nomatch z
      · rw [upd_ne hbp]; exact h.fh b hb
end
end Pp

namespace Pp
open PySem L2
inductive sp_Sheet_card_of (K : PySem.W.Frag) (vs : List V) (H : Hp) (Q : VK) (E : XK) : Prop
  | mk (p : Addr) (F : Addr → Prop) (S : Sh) (j : Str) : vs = [.ref p, .str j] → SheetAt K H p F S → ((j ∉ S.panel → ∀ C, ClsN K "UnknownJudge" C → E (.ref C) none H)) → ((j ∈ S.panel → S.card j = none → ∀ C, ClsN K "NoCard" C → E (.ref C) none H)) → ((∀ c, S.card j = some c → ∀ (l : Addr) (H' : Hp), Same H H' → H l = none → H' l = some (.lst (c.map V.int)) → Q (.ref l) H')) → sp_Sheet_card_of K vs H Q E
section
variable {P : Program} {w : World} {K : PySem.W.Frag} {mg : Str → Option Value} {base : Heap}
theorem ok_Sheet_card_of {f : Addr} {fd : FuncData} (F : Fun K "card_of" "Sheet.card_of" s_Sheet_card_of f fd) (T : Txt K mg) (C_Sheet_refuse_unknown_judge : CanMX P w K mg base 1 (clsA K "Sheet") "refuse_unknown_judge" ps_Sheet_refuse_unknown_judge (sp_Sheet_refuse_unknown_judge K)) : FnOk P w K mg base (CX1 P w) 2 f fd ps_Sheet_card_of (sp_Sheet_card_of K) := by
  obtain ⟨c_NoCard, n_NoCard, m_NoCard, x_NoCard⟩ := T.x_NoCard
  refine F.okX sc_Sheet_card_of (fun vs H Q E h => ?_) (fun X W cdv A outer s H vs Q E hX hW fl md hr h => ?_)
  · obtain ⟨p, F, S, j, rfl, _⟩ := h
    rfl
  · obtain ⟨p, F, S, j, rfl, ⟨dx, a1, a2, a3, d, kvs, h⟩, qU, qN, q⟩ := h
    subst hX
    refine ⟨_, (pss_cons (ps_expr (pe_ownMX C_Sheet_refuse_unknown_judge T.cl_Sheet fl (hr.mono (by decide)) (pv 0) (pa_cons (pv 1) pa_nil)))
      (pss_cons (ps_if (pt_cmp (pc_dnotin (hu_of hr) (pv 1) (pe_fld (pv 0) rfl))) (pss_one (ps_raise rfl md rfl m_NoCard x_NoCard (pa_cons pe_str pa_nil))) pss_nil)
      (pss_one (ps_ret (pe_callTy call_list_of (by rfl) T.b_list PyProof.Rows.boot_list (pa_cons (pe_dget (hu_of hr) (pe_fld (pv 0) rfl) (pv 1) (fun _ _ => rfl)) pa_nil)))))), ?_⟩
    refine ⟨_, rfl, p, dx, _, rfl, h.ip, rfl, _, rfl, p, F, S, j, rfl, ⟨dx, a1, a2, a3, d, kvs, h⟩, fun hj C hC => by rw [hW]; exact qU hj C hC, fun hj => ?_⟩
    refine ⟨_, rfl, _, rfl, p, _, dx, _, _, rfl, h.ip, T.cl_Sheet, T.n_Sheet_card_by_judge, rfl, d, _, rfl, DGet.k (k := Sum.inr j) h.i4, _, rfl, ?_⟩
    cases e : S.card j with
    | none =>
      rw [h.cn _ e]
      exact ⟨(by show 1 ≤ sizeLine; decide), by rw [hW]; exact qN hj e _ n_NoCard⟩
    | some c =>
      obtain ⟨l, e1, e2, _⟩ := h.cs _ _ e
      rw [e1]
      refine ⟨_, rfl, p, _, dx, _, _, rfl, h.ip, T.cl_Sheet, T.n_Sheet_card_by_judge, rfl, _, rfl, d, .ref l, rfl, e1 ▸ DGet.k (k := Sum.inr j) h.i4, l, _, rfl, .inl (SqL.of e2), fun l' hl' => ?_⟩
      exact q c e l' _ (Same.new hl') hl' upd_same
end
end Pp

namespace Pp
open PySem L2
inductive sp_couple_word (K : PySem.W.Frag) (vs : List V) (H : Hp) (Q : VK) (E : XK) : Prop
  | mk (z : Str) : vs = [.str z] → z ≠ Str.ofString "" → z.length ≤ 1000 → (∀ H', Same H H' → Q (.bl (M57.cw z)) H') → sp_couple_word K vs H Q E
section
variable {P : Program} {w : World} {K : PySem.W.Frag} {mg : Str → Option Value} {base : Heap}
theorem ok_couple_word {f : Addr} {fd : FuncData} (F : Fun K "couple_word" "couple_word" s_couple_word f fd) (T : Txt K mg) (C_figure : Can P w K mg base 1 "figure" ["sign"] (sp_figure K)) : FnOk P w K mg base CX0 2 f fd ["word"] (sp_couple_word K) := by
  refine F.ok sc_couple_word (fun vs H Q E h => ?_) (fun cdv A outer s H vs Q E hr h => ?_)
  · obtain ⟨z, rfl, _⟩ := h
    rfl
  · obtain ⟨z, rfl, hne, hz, q⟩ := h
    refine ⟨_, (pss_one (ps_ret (pe_and (pe_cmpR op_le (pe_callB call_len_str (by rfl) T.b_len PySem.boot_len (pa_cons (pv 0) pa_nil)) (pe_const T.c_MOST_FIGURES rfl) (nomark _)) (pe_and (pe_cmpR op_ne (pe_ix ix_str (pv 0) pe_int (fun _ _ => rfl)) pe_str (nomark _)) (pe_one (pe_callB (call_all rfl) (by rfl) T.b_all PyProof.Rows.boot_all (pa_cons (pe_comp (show CompScope (defScope s_couple_word) ["word"] "sign" [] [] _ from csM) rfl (pi_str (pv 0)) (fun _ _ _ _ _ => pf_nil) (fun _ _ _ _ _ => (pe_own C_figure (hr.mono (by decide)) rfl (pa_cons (pv 0) pa_nil)))) pa_nil))))))), ?_⟩
    have hl := line_ge
    obtain ⟨c0, r0, e0⟩ : ∃ c r, z.cps.toList = c :: r := by
      cases e : z.cps.toList with
      | nil => exact absurd (M19.str_eq (by rw [e, M20.empty_list])) hne
      | cons c r => exact ⟨c, r, rfl⟩
    unfold M57.cw at q
    refine ⟨_, rfl, z, rfl, by omega, _, _, rfl, rfl, _, rfl, iteD (fun h3 => ?_) (fun h1 => ?_)⟩
    · have h3 : z.length ≤ 3 := by omega
      rw [decide_eq_true h3, Bool.true_and] at q
      refine ⟨_, rfl, z, 0, c0, rfl, rfl, by omega, by rw [e0]; exact atI_nat (j := 0) rfl, rfl, _, rfl, ?_⟩
      have e48 : (("0" : Str)) = ⟨#[48]⟩ := by decide +kernel
      have hd : (decide (V.str ⟨#[c0]⟩ = V.str "0")) = decide (z.cps.toList.head? = some 48) := by
        rw [e0, e48]
        by_cases hc : c0 = 48
        · rw [hc, decide_eq_true rfl]
          exact (decide_eq_true rfl).symm
        · rw [decide_eq_false (fun w => hc (by injection w with w; injection w with w; have := congrArg (fun a : Array Nat => a.toList) w; simpa using this)), decide_eq_false (fun w => hc (by simpa using w))]
      rw [hd]
      refine iteND (fun h2 => ?_) (fun h2 => ?_)
      · rw [decide_eq_false h2, Bool.not_false, Bool.true_and] at q
        refine ⟨_, rfl, z, rfl, ?_⟩
        refine comp_str0 (fun i ys H2 => H2 = H ∧ ys = ((z.cps.toList.take i).map M20.fig).map V.bl) ⟨rfl, rfl⟩ ?_ (by omega) ?_ ?_
        · rintro i ys H2 hi ⟨rfl, rfl⟩
          simp only [List.length_map, List.length_take]
          omega
        · rintro i d ys H2 hx ⟨rfl, rfl⟩
          refine ⟨_, rfl, d, rfl, rfl, ?_⟩
          rw [List.take_succ, hx, List.map_append, List.map_append]
          rfl
        · rintro ys H2 ⟨rfl, rfl⟩ l hl
          have e : z.cps.toList.take z.length = z.cps.toList := List.take_of_length_le (by rw [M20.len_list]; exact Nat.le_refl _)
          rw [e]
          refine ⟨l, _, rfl, SqL.new, ?_⟩
          rw [List.all_map, show (id ∘ M20.fig) = M20.fig from rfl]
          exact q _ (Same.new hl)
      · rw [decide_eq_true h2] at q
        exact q _ (Same.refl _)
    · rw [decide_eq_false (show ¬ z.length ≤ 3 by omega), Bool.false_and] at q
      exact q _ (Same.refl _)
end
end Pp

namespace Pp
open PySem L2
inductive sp_refuse_fewer_cards (K : PySem.W.Frag) (vs : List V) (H : Hp) (Q : VK) (E : XK) : Prop
  | mk (p : Addr) (F : Addr → Prop) (S : Sh) (n : Int) : vs = [.ref p, .int n] → SheetAt K H p F S → ((¬ n ≤ S.handed.length → ∀ C H', ClsN K "TooFewCards" C → Same H H' → E (.ref C) none H')) → ((n ≤ S.handed.length → ∀ H', Same H H' → Q .non H')) → sp_refuse_fewer_cards K vs H Q E
section
variable {P : Program} {w : World} {K : PySem.W.Frag} {mg : Str → Option Value} {base : Heap}
theorem ok_refuse_fewer_cards {f : Addr} {fd : FuncData} (F : Fun K "refuse_fewer_cards" "refuse_fewer_cards" s_refuse_fewer_cards f fd) (T : Txt K mg) (C_Sheet_handed : CanM P w K mg base 1 (clsA K "Sheet") "handed" ["self"] (sp_Sheet_handed K)) : FnOk P w K mg base (CX1 P w) 2 f fd ps_refuse_fewer_cards (sp_refuse_fewer_cards K) := by
  obtain ⟨c_TooFewCards, n_TooFewCards, m_TooFewCards, x_TooFewCards⟩ := T.x_TooFewCards
  refine F.okX sc_refuse_fewer_cards (fun vs H Q E h => ?_) (fun X W cdv A outer s H vs Q E hX hW fl md hr h => ?_)
  · obtain ⟨p, F, S, n, rfl, _⟩ := h
    rfl
  · obtain ⟨p, F, S, n, rfl, hSh, qE, q⟩ := h
    subst hX
    refine ⟨_, (pss_one (ps_if (pt_cmpR op_lt (pLen T.b_len (pe_ownM0 C_Sheet_handed T.cl_Sheet (hr.mono (by decide)) (pv 0))) (pv 1) (nomark _)) (pss_one (ps_raise rfl md rfl m_TooFewCards x_TooFewCards (pa_cons pe_str pa_nil))) pss_nil)), ?_⟩
    obtain ⟨dx, b1, b2, b3, d, hip⟩ := hSh.ins
    refine ⟨_, rfl, p, dx, _, rfl, hip, rfl, p, F, S, rfl, hSh.shape, hSh.ok.p15, fun l1 H1 s1 f1 e1 => ?_⟩
    refine ⟨l1, _, rfl, .inl (SqL.of e1), _, rfl, _, _, rfl, rfl, _, rfl, iteD (fun h => ?_) (fun h => ?_)⟩
    · rw [List.length_map] at h
      exact ⟨(by show 1 ≤ sizeLine; decide), by rw [hW]; exact qE (by omega) _ _ n_TooFewCards s1⟩
    · rw [List.length_map] at h
      exact q (by omega) H1 s1
end
end Pp

namespace Pp
open PySem L2
inductive sp_good_couples (K : PySem.W.Frag) (vs : List V) (H : Hp) (Q : VK) (E : XK) : Prop
  | mk (a : Addr) (ns : List Int) : vs = [.ref a] → SqL K H a (ns.map V.int) → ns.length < 4000 → (∀ H', Same H H' → Q (.bl (M1.goodC ns)) H') → sp_good_couples K vs H Q E
section
variable {P : Program} {w : World} {K : PySem.W.Frag} {mg : Str → Option Value} {base : Heap}
theorem ok_good_couples {f : Addr} {fd : FuncData} (F : Fun K "good_couples" "good_couples" s_good_couples f fd) (T : Txt K mg) (C_good_number : Can P w K mg base 1 "good_number" ["couple"] (sp_good_number K)) (C_good_length : Can P w K mg base 1 "good_length" ps_good_length (sp_good_length K)) (C_all_unlike : Can P w K mg base 1 "all_unlike" ["things"] (sp_all_unlike K)) : FnOk P w K mg base CX0 2 f fd ["couples"] (sp_good_couples K) := by
  refine F.ok sc_good_couples (fun vs H Q E h => ?_) (fun cdv A outer s H vs Q E hr h => ?_)
  · obtain ⟨a, ns, rfl, _⟩ := h
    rfl
  · obtain ⟨a, ns, rfl, hS, hz, q⟩ := h
    refine ⟨_, (pss_one (ps_ret (pe_and (pe_own C_good_length (hr.mono (by decide)) rfl (pa_cons (pv 0) (pa_cons (pe_const T.c_MOST_COUPLES rfl) pa_nil))) (pe_and (pe_own C_all_unlike (hr.mono (by decide)) rfl (pa_cons (pv 0) pa_nil)) (pe_one (pe_callB (call_all rfl) (by rfl) T.b_all PyProof.Rows.boot_all (pa_cons (pe_comp (show CompScope (defScope s_good_couples) ["couples"] "couple" [] [] _ from csM) rfl (pi_list (pv 0)) (fun _ _ _ _ _ => pf_nil) (fun _ _ _ _ _ => (pe_own C_good_number (hr.mono (by decide)) rfl (pa_cons (pv 0) pa_nil)))) pa_nil))))))), ?_⟩
    refine ⟨_, rfl, _, _, _, rfl, .inl ⟨_, hS, rfl⟩, _, rfl, ?_⟩
    rw [List.length_map]
    unfold M1.goodC at q
    refine iteB (fun h1 => ?_) (fun h1 => ?_)
    · rw [h1, Bool.true_and] at q
      refine ⟨_, rfl, a, rfl, .inl ⟨ns, hS, hz, fun H1 s1 => ⟨_, rfl, iteD (fun h2 => ?_) (fun h2 => ?_)⟩⟩⟩
      · rw [decide_eq_true h2, Bool.true_and] at q
        have hS1 := s1.seq hS
        refine ⟨_, rfl, a, rfl, ⟨_, hS1⟩, ?_⟩
        refine comp_list0 (xs := ns.map V.int) (fun i ys H2 => H2 = H1 ∧ ys = ((ns.take i).map fun n => decide (1 ≤ n) && decide (n ≤ 999)).map V.bl) ⟨rfl, rfl⟩ ?_ (by rw [List.length_map]; have := line_ge; omega) ?_ ?_
        · rintro i ys H2 hi ⟨rfl, rfl⟩
          exact ⟨hS1, by simp only [List.length_map, List.length_take]; omega⟩
        · rintro i x ys H2 hx ⟨rfl, rfl⟩
          obtain ⟨hi, rfl⟩ := ints_get hx
          refine ⟨_, rfl, _, rfl, rfl, ?_⟩
          rw [take_next hi, List.map_append, List.map_append]
          rfl
        · rintro ys H2 ⟨rfl, rfl⟩ l hl
          rw [List.length_map, List.take_length]
          exact ⟨l, _, rfl, SqL.new, q _ (s1.newT hl)⟩
      · rw [decide_eq_false h2, Bool.false_and] at q
        exact q _ s1
    · rw [h1, Bool.false_and] at q
      exact q _ (Same.refl _)
end
end Pp

namespace Pp
open PySem L2
inductive sp_good_name (K : PySem.W.Frag) (vs : List V) (H : Hp) (Q : VK) (E : XK) : Prop
  | mk (z : Str) : vs = [.str z] → z.length ≤ 1000 → (∀ H', Same H H' → Q (.bl (M2.goodN z)) H') → sp_good_name K vs H Q E
section
variable {P : Program} {w : World} {K : PySem.W.Frag} {mg : Str → Option Value} {base : Heap}
theorem ok_good_name {f : Addr} {fd : FuncData} (F : Fun K "good_name" "good_name" s_good_name f fd) (T : Txt K mg) (C_small_letter : Can P w K mg base 1 "small_letter" ["sign"] (sp_small_letter K)) (C_good_length : Can P w K mg base 1 "good_length" ps_good_length (sp_good_length K)) : FnOk P w K mg base CX0 2 f fd ["judge"] (sp_good_name K) := by
  refine F.ok sc_good_name (fun vs H Q E h => ?_) (fun cdv A outer s H vs Q E hr h => ?_)
  · obtain ⟨z, rfl, _⟩ := h
    rfl
  · obtain ⟨z, rfl, hz, q⟩ := h
    refine ⟨_, (pss_one (ps_ret (pe_and (pe_own C_good_length (hr.mono (by decide)) rfl (pa_cons (pv 0) (pa_cons (pe_const T.c_MOST_SIGNS rfl) pa_nil))) (pe_one (pe_callB (call_all rfl) (by rfl) T.b_all PyProof.Rows.boot_all (pa_cons (pe_comp (show CompScope (defScope s_good_name) ["judge"] "sign" [] [] _ from csM) rfl (pi_str (pv 0)) (fun _ _ _ _ _ => pf_nil) (fun _ _ _ _ _ => (pe_own C_small_letter (hr.mono (by decide)) rfl (pa_cons (pv 0) pa_nil)))) pa_nil)))))), ?_⟩
    have hl := line_ge
    refine ⟨_, rfl, _, _, _, rfl, ⟨by omega, rfl⟩, _, rfl, ?_⟩
    unfold M2.goodN at q
    refine iteB (fun h1 => ?_) (fun h1 => ?_)
    · rw [h1, Bool.true_and] at q
      refine ⟨_, rfl, z, rfl, ?_⟩
      refine comp_str0 (fun i ys H2 => H2 = H ∧ ys = ((z.cps.toList.take i).map small).map V.bl) ⟨rfl, rfl⟩ ?_ (by omega) ?_ ?_
      · rintro i ys H2 hi ⟨rfl, rfl⟩
        simp only [List.length_map, List.length_take]
        omega
      · rintro i d ys H2 hx ⟨rfl, rfl⟩
        refine ⟨_, rfl, d, rfl, rfl, ?_⟩
        rw [List.take_succ, hx, List.map_append, List.map_append]
        rfl
      · rintro ys H2 ⟨rfl, rfl⟩ l hl
        have e : z.cps.toList.take z.length = z.cps.toList := List.take_of_length_le (by show z.cps.toList.length ≤ z.cps.size; rw [Array.length_toList]; exact Nat.le_refl _)
        rw [e]
        exact ⟨l, _, rfl, SqL.new, q _ (Same.new hl)⟩
    · rw [h1, Bool.false_and] at q
      exact q _ (Same.refl _)
end
end Pp

namespace Pp
open PySem L2
inductive sp_law_same (K : PySem.W.Frag) (vs : List V) (H : Hp) (Q : VK) (E : XK) : Prop
  | mk (a b : Addr) (ns ms : List Int) : vs = [.ref a, .ref b] → SqL K H a (ns.map V.int) → SqL K H b (ms.map V.int) → ms.length ≤ 1000000 → Q (.bl (decide (ns = ms))) H → sp_law_same K vs H Q E
theorem same_all {ns ms : List Int} (hl : ns.length = ms.length) (h : ∀ j, j < ms.length → ns.getD j 0 = ms.getD j 0) : ns = ms := by
  refine List.ext_getElem hl fun j h1 h2 => ?_
  have := h j h2
  rwa [List.getD_eq_getElem?_getD, List.getD_eq_getElem?_getD, List.getElem?_eq_getElem h1, List.getElem?_eq_getElem h2] at this
section
variable {P : Program} {w : World} {K : PySem.W.Frag} {mg : Str → Option Value} {base : Heap}
theorem ok_law_same {f : Addr} {fd : FuncData} (F : Fun K "_law_same" "_law_same" s_law_same f fd) (T : Txt K mg) (C_law_whole : Can P w K mg base 1 "_law_whole" ps_law_whole (sp_law_whole K)) : FnOk P w K mg base CX0 2 f fd ps_law_same (sp_law_same K) := by
  refine F.ok sc_law_same (fun vs H Q E h => ?_) (fun cdv A outer s H vs Q E hr h => ?_)
  · obtain ⟨a, b, ns, ms, rfl, _⟩ := h
    rfl
  · obtain ⟨a, b, ns, ms, rfl, hA, hB, hz, q⟩ := h
    refine ⟨_, (pss_cons (ps_if (PW.pt (pw_or (pt_not (pt_val (pe_callB call_isi_list (by rfl) T.b_isinstance PyProof.Rows.boot_isinstance (pa_cons (pv 0) (pa_cons (pe_bltn (v := V.ty "list") rfl T.b_list PyProof.Rows.boot_list rfl) pa_nil))))) (pw_or1 (pt_cmpR op_ne (pLen T.b_len (pv 0)) (pLen T.b_len (pv 1)) (nomark _))))) (pss_one (ps_ret pe_bl)) pss_nil)
      (pss_cons (ps_for PassesOwn.never rfl (pi_range1 rfl T.b_range (pa_cons (pLen T.b_len (pv 1)) pa_nil)) (pg_name (i := 2) sc_law_same.nd rfl (Or.inl rfl))
        (pss_one (ps_if (PW.pt (pw_or (pt_not (pt_val (pe_own C_law_whole (hr.mono (by decide)) rfl (pa_cons (pe_ix ix_list (pv 0) (pv 2) (fun _ _ => rfl)) pa_nil)))) (pw_or1 (pt_cmpR op_ne (pe_ix ix_list (pv 0) (pv 2) (fun _ _ => rfl)) (pe_ix ix_list (pv 1) (pv 2) (fun _ _ => rfl)) (nomark _))))) (pss_one (ps_ret pe_bl)) pss_nil)))
      (pss_one (ps_ret pe_bl)))), ?_⟩
    refine ⟨_, rfl, _, _, rfl, .yes hA, _, rfl, iteF ?_⟩
    refine ⟨_, rfl, a, _, rfl, .inl hA, _, rfl, b, _, rfl, .inl hB, rfl, _, rfl, ?_⟩
    rw [List.length_map, List.length_map]
    refine iteND (fun hne => ?_) (fun he => ?_)
    · show Q (.bl false) H
      have : ns ≠ ms := fun e => hne (by rw [e])
      rw [decide_eq_false this] at q
      exact q
    · have hl : ns.length = ms.length := by injection he with he; exact Int.ofNat.inj he
      refine ⟨_, rfl, b, _, rfl, .inl hB, _, rfl, by omega, by rw [List.length_map]; omega, ?_⟩
      rw [List.length_map]
      refine for_range (fun i σ H2 => ∃ v, σ = [some (.ref a), some (.ref b), v] ∧ H2 = H ∧ ∀ j, j < i → ns.getD j 0 = ms.getD j 0) ⟨_, rfl, rfl, fun j hj => by omega⟩ ?_ ?_
      · rintro i σ H2 hi ⟨v, rfl, rfl, hj⟩
        have hi' : i < ms.length := by simpa using hi
        have e1 : atI (ns.map V.int) (0 + (i : Int)) = some (.int (ns.getD i 0)) := by rw [Int.zero_add]; exact atI_nat (ints_at (by omega))
        have e2 : atI (ms.map V.int) (0 + (i : Int)) = some (.int (ms.getD i 0)) := by rw [Int.zero_add]; exact atI_nat (ints_at hi')
        refine ⟨_, rfl, _, rfl, a, _, _, _, rfl, rfl, hA, e1, _, true, false, rfl, rfl, rfl, _, rfl, iteF ?_⟩
        refine ⟨_, rfl, _, rfl, a, _, _, _, rfl, rfl, hA, e1, _, rfl, _, rfl, b, _, _, _, rfl, rfl, hB, e2, rfl, _, rfl, iteND (fun hne => ?_) (fun he => ?_)⟩
        · show Q (.bl false) _
          have : ns ≠ ms := fun e => hne (by rw [e])
          rw [decide_eq_false this] at q
          exact q
        · refine ⟨_, rfl, rfl, fun j hj' => ?_⟩
          by_cases hji : j = i
          · subst hji; injection he
          · exact hj j (by omega)
      · rintro σ H2 ⟨v, rfl, rfl, hj⟩
        show Q (.bl true) _
        have : ns = ms := same_all hl fun j h => hj j (by simpa using h)
        rw [decide_eq_true this] at q
        exact q
end
end Pp

namespace Pp
open PySem L2
inductive sp_law_read (K : PySem.W.Frag) (vs : List V) (H : Hp) (Q : VK) (E : XK) : Prop
  | mk (z : Str) : vs = [.str z] → z.length ≤ 900 → ((M57.said z = none → ∀ H', Same H H' → Q .non H')) → (∀ f j ns, M57.said z = some (f, j, ns) → ∀ (t l : Addr) (H' : Hp), Same H H' → H t = none → H l = none → t ≠ l → H' t = some (.tup [.str f, .str j, .ref l]) → H' l = some (.lst (ns.map V.int)) → Q (.ref t) H') → sp_law_read K vs H Q E
theorem eqL_nil (ws : List Str) : eqL (ws.map V.str) [] = decide (ws = []) := by
  cases ws with
  | nil => rfl
  | cons _ _ => rfl
theorem strD (a b : Str) : decide (V.str a = V.str b) = decide (a = b) := decide_eq_decide.mpr ⟨fun z => by injection z, fun z => by rw [z]⟩
section
variable {P : Program} {w : World} {K : PySem.W.Frag} {mg : Str → Option Value} {base : Heap}
theorem ok_law_read {f : Addr} {fd : FuncData} (F : Fun K "_law_read" "_law_read" s_law_read f fd) (T : Txt K mg) (C_law_number : Can P w K mg base 1 "_law_number" ["_law_word"] (sp_law_number K)) : FnOk P w K mg base CX0 2 f fd ["_law_row"] (sp_law_read K) := by
  refine F.ok sc_law_read (fun vs H Q E h => ?_) (fun cdv A outer s H vs Q E hr h => ?_)
  · obtain ⟨z, rfl, _⟩ := h
    rfl
  · obtain ⟨z, rfl, hz, qN, q⟩ := h
    refine ⟨_, (pss_cons (ps_set (i := 1) sc_law_read.nd rfl (Or.inl rfl) (pe_bm PySem.F.plainAttrs_str PySem.F.slot_str_split PySem.F.type_str_split ms_split (pv 0) (pa_cons pe_str pa_nil)))
      (pss_cons (ps_if (pt_cmpR op_in_seq pe_str (pv 1) (by first | exact nomark _ | rfl)) (pss_one (ps_ret pe_non)) pss_nil)
      (pss_cons (ps_set (i := 2) sc_law_read.nd rfl (Or.inl rfl) pe_str)
      (pss_cons (ps_for PassesOwn.never rfl (pi_list (pe_lstS (StrEs.cons (StrEs.cons (StrEs.cons (StrEs.cons (StrEs.cons StrEs.nil))))))) (pg_name (i := 3) sc_law_read.nd rfl (Or.inl rfl))
        (pss_one (ps_if (pt_cmpR op_in_seq (pe_ix ix_list (pv 1) pe_int (fun _ _ => rfl)) (pe_bm PySem.F.plainAttrs_str PySem.F.slot_str_split PySem.F.type_str_split ms_split (pe_ix ix_list (pe_bm PySem.F.plainAttrs_str PySem.F.slot_str_split PySem.F.type_str_split ms_split (pv 3) (pa_cons pe_str pa_nil)) pe_int (fun _ _ => rfl)) (pa_cons pe_str pa_nil)) (by first | exact nomark _ | rfl)) (pss_one (ps_set (i := 2) sc_law_read.nd rfl (Or.inl rfl) (pe_ix ix_list (pe_bm PySem.F.plainAttrs_str PySem.F.slot_str_split PySem.F.type_str_split ms_split (pv 3) (pa_cons pe_str pa_nil)) pe_int (fun _ _ => rfl)))) pss_nil)))
      (pss_cons (ps_set (i := 4) sc_law_read.nd rfl (Or.inl rfl) (pe_slice sl_list (pv 1) (po_some pe_int) po_none))
      (pss_cons (ps_set (i := 5) sc_law_read.nd rfl (Or.inl rfl) pe_str)
      (pss_cons (ps_mid (ps_if (PW.pt (pw_or (pt_cmpR op_eq (pv 2) pe_str (nomark _)) (pw_or1 (PW.pt (pw_and (pt_cmpR op_eq (pe_slice sl_str (pv 2) po_none (po_some pe_int)) pe_str (nomark _)) (pw_and1 (pt_cmpR (op_eq_list hr.units0) (pv 4) (pe_lst pa_nil) (nomark _)))))))) (pss_one (ps_ret pe_non)) pss_nil))
      (pss_cons (ps_mid (ps_if (pt_cmpR op_eq (pe_slice sl_str (pv 2) po_none (po_some pe_int)) pe_str (nomark _)) (pss_cons (ps_set (i := 5) sc_law_read.nd rfl (Or.inl rfl) (pe_ix ix_list (pv 4) pe_int (fun _ _ => rfl)))
      (pss_one (ps_set (i := 4) sc_law_read.nd rfl (Or.inl rfl) (pe_slice sl_list (pv 4) (po_some pe_int) po_none)))) pss_nil))
      (pss_cons (ps_setcomp (i := 6) (show CompScope (defScope s_law_read) nn_law_read "_law_word" [] [] _ from csM) rfl sc_law_read.nd rfl (Or.inl rfl) (pi_list (pv 4)) (fun _ _ _ _ _ => pf_nil) (fun _ _ _ _ _ => (pe_own C_law_number (hr.mono (by decide)) rfl (pa_cons (pv 0) pa_nil))))
      (pss_cons (ps_if (PW.pt (pw_or (pt_cmpR op_in_seq pe_int (pv 6) (by first | exact nomark _ | rfl)) (pw_or (PW.pt (pw_and (pt_cmpR op_eq (pe_slice sl_str (pv 2) (po_some (pe_un un_neg pe_int)) po_none) pe_str (nomark _)) (pw_and1 (pt_cmpR op_ne (pLen T.b_len (pv 4)) pe_int (nomark _))))) (pw_or1 (PW.pt (pw_and (pt_cmpR op_in_seq (pv 2) (pe_lst (pa_cons pe_str (pa_cons pe_str pa_nil))) (by first | exact nomark _ | rfl)) (pw_and1 (pt_cmpR (op_ne_list hr.units0) (pv 4) (pe_lst pa_nil) (nomark _))))))))) (pss_one (ps_ret pe_non)) pss_nil)
      (pss_one (ps_ret (pe_tup (pa_cons (pe_ix ix_list (pv 1) pe_int (fun _ _ => rfl)) (pa_cons (pv 5) (pa_cons (pv 6) pa_nil)))))))))))))))), ?_⟩
    have hln := line_ge
    have hsl := M57.split_len z
    refine ⟨_, rfl, rfl, _, _, rfl, rfl, by decide +kernel, by omega, by rw [M20.blank_eq]; omega, fun l1 hl1 => ?_⟩
    rw [M20.blank_eq]
    unfold M57.said at qN q
    have hwl : ∀ w ∈ Txt.split z M20.blank, w.length ≤ 900 := fun w hw => Nat.le_trans (M57.split_word hw) hz
    have hne : Txt.split z M20.blank ≠ [] := fun e => by
      have j := StrLaws.join_split z M20.blank
      rw [e] at j
      rw [← j] at e
      exact absurd e (by decide +kernel)
    generalize Txt.split z M20.blank = ws at hsl hwl hne qN q hl1 ⊢
    have s1 := Same.new (o := .lst (ws.map V.str)) hl1
    have e1 : upd H l1 (.lst (ws.map V.str)) l1 = some (.lst (ws.map V.str)) := upd_same
    generalize hH1 : upd H l1 _ = H1 at s1 e1 ⊢
    unfold M57.saidW at qN q
    refine ⟨_, rfl, l1, _, rfl, .inl (SqL.of e1), rfl, M20.strs_flat _, _, rfl, ?_⟩
    cases hem : inV (V.str (Str.ofString "")) (ws.map V.str) with
    | true =>
      have hem' : M20.inW (Str.ofString "") ws = true := hem
      rw [if_pos hem'] at qN
      refine iteT ?_
      exact qN rfl _ s1
    | false =>
    have hem' : ¬ M20.inW (Str.ofString "") ws = true := by rw [show M20.inW (Str.ofString "") ws = false from hem]; exact Bool.false_ne_true
    rw [if_neg hem'] at qN q
    refine iteF ?_
    have hnw : ∀ w ∈ ws, w ≠ Str.ofString "" := fun w hw e => by
      apply hem'
      rw [M57.inW_eq, decide_eq_true_eq, ← e]
      exact hw
    obtain _ | ⟨f, r⟩ := ws
    · exact absurd rfl hne
    dsimp only at qN q
    refine ⟨(by decide), fun l2 hl2 => ?_⟩
    have s2 := s1.newT (o := .lst (List.map V.str (["seal couples places parts deciders=", "show leave=j", "strike row=c", "step=jc", "card=jm"] : List Str))) hl2
    have e2 : upd H1 l2 (.lst (List.map V.str (["seal couples places parts deciders=", "show leave=j", "strike row=c", "step=jc", "card=jm"] : List Str))) l2 = some (.lst (List.map V.str (["seal couples places parts deciders=", "show leave=j", "strike row=c", "step=jc", "card=jm"] : List Str))) := upd_same
    have e12 := (Same.new (o := .lst (List.map V.str (["seal couples places parts deciders=", "show leave=j", "strike row=c", "step=jc", "card=jm"] : List Str))) hl2) _ _ e1
    generalize hH2 : upd H1 l2 _ = H2 at s2 e2 e12 ⊢
    have e2 : H2 l2 = some (.lst (M57.FORMS.map V.str)) := e2
    refine ⟨l2, rfl, ⟨_, SqL.of e2⟩, ?_⟩
    refine for_list (xs := M57.FORMS.map V.str) (fun i σ H3 => ∃ v : Option V, σ = [some (.str z), some (.ref l1), some (.str (M57.planAt f i)), v, none, none, none] ∧ Same H2 H3) ⟨_, rfl, Same.refl _⟩ (fun i σ H3 _ h => ?_) ?_ ?_
    · obtain ⟨v, _, s3⟩ := h
      exact SqL.of (s3 _ _ e2)
    · rintro i x σ H3 hx ⟨v, rfl, s3⟩
      obtain ⟨hi, rfl⟩ := strs_get hx
      have hi5 : i < 5 := hi
      obtain ⟨k1, k2, k3, k4, k5⟩ := M57.forms_split ⟨i, hi5⟩
      dsimp only at k1 k2 k3 k4 k5
      rw [M20.blank_eq] at k2
      generalize M57.FORMS.getD i "" = fo at k1 k3
      refine ⟨_, rfl, l1, _, _, .str f, rfl, rfl, SqL.of (s3 _ _ e12), atI_nat (j := 0) rfl, ?_⟩
      refine ⟨_, rfl, rfl, _, _, rfl, rfl, by decide +kernel, by omega, by rw [k1]; show 2 ≤ sizeLine; decide, fun l3 hl3 => ?_⟩
      rw [k1]
      refine ⟨l3, _, _, .str (M57.HD.getD i ""), rfl, rfl, SqL.new, atI_nat (j := 0) rfl, rfl, _, _, rfl, rfl, by decide +kernel, by omega, by rw [k2]; omega, fun l4 hl4 => ?_⟩
      rw [k2]
      have t4 := (s3.newT (o := .lst ([M57.HD.getD i "", M57.PLN.getD i ""].map V.str)) hl3).newT (o := .lst ((M57.PLW.getD i []).map V.str)) hl4
      refine ⟨l4, _, rfl, .inl SqL.new, rfl, M20.strs_flat _, _, rfl, ?_⟩
      generalize hH4 : upd (upd H3 l3 _) l4 _ = H4 at t4 ⊢
      rw [if_neg Bool.false_ne_true, inV_strs]
      have hp : M57.planAt f (i + 1) = if f ∈ M57.PLW.getD i [] then M57.PLN.getD i "" else M57.planAt f i := rfl
      refine iteD (fun h1 => ?_) (fun h1 => ?_)
      · refine ⟨_, rfl, rfl, _, _, rfl, rfl, by decide +kernel, by omega, by rw [k1]; show 2 ≤ sizeLine; decide, fun l5 hl5 => ?_⟩
        rw [k1]
        refine ⟨l5, _, _, .str (M57.PLN.getD i ""), rfl, rfl, SqL.new, atI_nat (j := 1) rfl, ?_⟩
        refine ⟨some (.str fo), ?_, t4.newT hl5⟩
        rw [hp, if_pos h1]
        rfl
      · refine ⟨some (.str fo), ?_, t4⟩
        rw [hp, if_neg h1]
        rfl
    rintro σ H3 ⟨v, rfl, s3⟩
    rw [show (M57.FORMS.map V.str).length = 5 from rfl]
    have t3 := s2.trans s3
    have e3 := s3 _ _ e12
    have hlen : (f :: r).length ≤ 901 := by omega
    refine ⟨_, rfl, _, rfl, l1, _, rfl, SqL.of e3, fun l4 hl4 => ?_⟩
    rw [cut_from (show (0 : Int) ≤ 1 by decide)]
    have s4 := t3.newT (o := .lst (r.map V.str)) hl4
    have e4 : upd H3 l4 (.lst (r.map V.str)) l4 = some (.lst (r.map V.str)) := upd_same
    have e14 := (Same.new (o := .lst (r.map V.str)) hl4) _ _ e3
    rw [show List.drop (Int.toNat 1) (List.map V.str (f :: r)) = List.map V.str r from rfl]
    generalize hH4 : upd H3 l4 _ = H4 at s4 e4 e14 ⊢
    generalize hpl : M57.planAt f 5 = pl
    refine ⟨fun σ' H' => σ' = [some (.str z), some (.ref l1), some (.str pl), v, some (.ref l4), some (.str (Str.ofString "")), none] ∧ Same H4 H' ∧ M20.inW f M57.ALL = true ∧ (M20.inW f M20.JUDGE = true → r ≠ []), ?_, ?_⟩
    · refine ⟨_, rfl, rfl, _, rfl, ?_⟩
      cases hA : M20.inW f M57.ALL with
      | false =>
        rw [if_pos hA] at qN
        rw [M57.plan_no hA] at hpl
        subst hpl
        refine iteY (decide_eq_true rfl) ?_
        refine iteT ?_
        exact qN rfl _ s4
      | true =>
      obtain ⟨p1, p2, _, _, p5⟩ := M57.plan_yes hA
      rw [hpl] at p1 p2 p5
      refine iteNo (decide_eq_false fun w => p1 (by injection w)) ?_
      refine ⟨_, rfl, _, rfl, pl, rfl, (by omega), rfl, _, rfl, ?_⟩
      rw [strD, p2]
      cases hJ : M20.inW f M20.JUDGE with
      | false => exact iteF (iteF ⟨rfl, Same.refl _, rfl, fun w => Bool.noConfusion w⟩)
      | true =>
        refine iteT ⟨_, rfl, (by decide), fun l5 hl5 => ?_⟩
        refine ⟨l4, l5, _, _, rfl, rfl, SqL.of ((Same.new hl5) _ _ e4), SqL.new, M20.strs_flat _, rfl, _, rfl, ?_⟩
        rw [eqL_nil]
        refine iteD (fun h0 => ?_) (fun h0 => ?_)
        · rw [if_neg (by rw [hA]; exact fun w => Bool.noConfusion w), if_neg (by rw [hJ]; exact fun w => Bool.noConfusion w), h0] at qN
          exact qN rfl _ (s4.newT hl5)
        · exact ⟨rfl, Same.new hl5, rfl, fun _ => h0⟩
    rintro σ5 H5 ⟨rfl, s5, hA, hrj⟩
    have t5 := s4.trans s5
    obtain ⟨p1, p2, p3, p4, p5⟩ := M57.plan_yes hA
    rw [hpl] at p1 p2 p3 p4 p5
    have hAn : ¬ M20.inW f M57.ALL = false := by rw [hA]; exact fun w => Bool.noConfusion w
    rw [if_neg hAn] at qN q
    generalize hsd : (if M20.inW f M20.JUDGE = false then _ else _) = sd at qN q
    refine ⟨fun σ' H' => ∃ (l6 : Addr) (rr : List Str) (j : Str), σ' = [some (.str z), some (.ref l1), some (.str pl), v, some (.ref l6), some (.str j), none] ∧ Same H H' ∧ H' l6 = some (.lst (rr.map V.str)) ∧ H' l1 = some (.lst ((f :: r).map V.str)) ∧ (∀ w ∈ rr, w ≠ Str.ofString "") ∧ rr.length ≤ 901 ∧ (M57.nums f rr = none → sd = none) ∧ ∀ ns, M57.nums f rr = some ns → sd = some (f, j, ns), ?_, ?_⟩
    · refine ⟨_, rfl, _, rfl, pl, rfl, (by omega), rfl, _, rfl, ?_⟩
      rw [strD, p2]
      cases hJ : M20.inW f M20.JUDGE with
      | false =>
        rw [if_pos hJ] at hsd
        refine iteF ⟨l4, r, _, rfl, t5, s5 _ _ e4, s5 _ _ e14, fun w hw => hnw w (List.mem_cons_of_mem _ hw), by rw [List.length_cons] at hlen; omega, fun hn => ?_, fun ns hn => ?_⟩
        · rw [← hsd, hn]; rfl
        · rw [← hsd, hn]; rfl
      | true =>
        rw [if_neg (by rw [hJ]; exact fun w => Bool.noConfusion w)] at hsd
        obtain _ | ⟨j, r⟩ := r
        · exact absurd rfl (hrj hJ)
        dsimp only at hsd
        have e4' := s5 _ _ e4
        refine iteT ⟨_, rfl, l4, _, _, .str j, rfl, rfl, SqL.of e4', atI_nat (j := 0) rfl, _, rfl, _, rfl, l4, _, rfl, SqL.of e4', fun l6 hl6 => ?_⟩
        refine ⟨l6, r, j, rfl, t5.newT hl6, (by rw [upd_same, cut_from (show (0 : Int) ≤ 1 by decide)]; rfl), (Same.new hl6) _ _ (s5 _ _ e14), fun w hw => hnw w (List.mem_cons_of_mem _ (List.mem_cons_of_mem _ hw)), by simp only [List.length_cons] at hlen; omega, fun hn => ?_, fun ns hn => ?_⟩
        · rw [← hsd, hn]; rfl
        · rw [← hsd, hn]; rfl
    rintro σ6 H6 ⟨l6, rr, j, rfl, t6, e6, e16, hrn, hrl, kN, kS⟩
    have hnums := M57.nums_eq (f := f) hrn
    refine ⟨_, rfl, l6, rfl, ⟨_, SqL.of e6⟩, ?_⟩
    refine comp_list0 (xs := rr.map V.str) (fun i ys H7 => H7 = H6 ∧ ys = ((rr.take i).map M57.num).map V.int) ⟨rfl, rfl⟩ ?_ (by rw [List.length_map]; omega) ?_ ?_
    · rintro i ys H7 hi ⟨rfl, rfl⟩
      refine ⟨SqL.of e6, ?_⟩
      rw [List.length_map, List.length_map, List.length_take]
      omega
    · rintro i x ys H7 hx ⟨rfl, rfl⟩
      rw [List.getElem?_map] at hx
      cases en : rr[i]? with
      | none => rw [en] at hx; cases hx
      | some w =>
        rw [en] at hx
        cases hx
        refine ⟨_, rfl, w, rfl, rfl, ?_⟩
        rw [List.take_succ, en, List.map_append, List.map_append]
        rfl
    rintro ys H7 ⟨rfl, rfl⟩ l7 hl7
    rw [List.length_map, List.take_length]
    have s7 := t6.newT (o := .lst ((rr.map M57.num).map V.int)) hl7
    have e7 : upd H7 l7 (.lst ((rr.map M57.num).map V.int)) l7 = some (.lst ((rr.map M57.num).map V.int)) := upd_same
    have e67 := (Same.new (o := .lst ((rr.map M57.num).map V.int)) hl7) _ _ e6
    have e17 := (Same.new (o := .lst ((rr.map M57.num).map V.int)) hl7) _ _ e16
    have f7 := hl7
    generalize hH8 : upd H7 l7 _ = H8 at s7 e7 e67 e17 ⊢
    refine ⟨_, rfl, l7, _, rfl, .inl (SqL.of e7), rfl, flat_ints _, _, rfl, ?_⟩
    rw [if_neg Bool.false_ne_true, inV_ints]
    refine iteD (fun h0 => iteT ?_) (fun h0 => ?_)
    · exact qN (kN (by rw [hnums, if_pos (.inl h0)])) _ s7
    have out : ∀ H9, Same H8 H9 → M57.nums f rr = some (rr.map M57.num) → ∀ t, H9 t = none → Q (.ref t) (upd H9 t (.tup [.str f, .str j, .ref l7])) := fun H9 s9 hn t ht =>
      q f j _ (kS _ hn) t l7 _ ((s7.trans s9).newT ht) ((s7.trans s9).free ht) (t6.free f7) (fun w => by rw [w, s9 _ _ e7] at ht; cases ht) upd_same ((Same.new ht) _ _ (s9 _ _ e7))
    refine ⟨_, rfl, _, rfl, _, rfl, pl, rfl, (by omega), rfl, _, rfl, ?_⟩
    rw [strD, p3]
    have hin : inV (V.str pl) [V.str (Str.ofString ""), V.str (Str.ofString "j")] = (!decide (f = Str.ofString "card") && decide (M20.due f = 0)) := (inV_strs [Str.ofString "", Str.ofString "j"] pl).trans p4
    by_cases hc : f = Str.ofString "card"
    · rw [decide_eq_true hc] at hin ⊢
      refine iteF (iteF ?_)
      refine ⟨_, rfl, (by decide), fun l8 hl8 => ⟨l8, _, rfl, .inl SqL.new, rfl, rfl, _, rfl, ?_⟩⟩
      rw [if_neg Bool.false_ne_true, hin]
      refine iteF (iteF ?_)
      have s8 := Same.new (o := .lst [V.str (Str.ofString ""), V.str (Str.ofString "j")]) hl8
      refine ⟨_, rfl, l1, _, _, .str f, rfl, rfl, SqL.of (s8 _ _ e17), atI_nat (j := 0) rfl, _, rfl, _, rfl, (by show 3 ≤ sizeLine; decide), fun t ht => out _ s8 ?_ t ht⟩
      rw [hnums, if_neg]
      rintro (w | w | w)
      · exact h0 w
      · exact w.1.1 hc
      · exact w.1.1 hc
    rw [decide_eq_false hc, Bool.not_false, Bool.true_and] at hin ⊢
    rcases M57.due_01 f with hd | hd
    · rw [show decide (M20.due f = 1) = false from decide_eq_false (by omega)]
      refine iteF (iteF ?_)
      refine ⟨_, rfl, (by decide), fun l8 hl8 => ⟨l8, _, rfl, .inl SqL.new, rfl, rfl, _, rfl, ?_⟩⟩
      rw [if_neg Bool.false_ne_true, hin, decide_eq_true hd]
      have s8 := Same.new (o := .lst [V.str (Str.ofString ""), V.str (Str.ofString "j")]) hl8
      refine iteT ⟨_, rfl, (by decide), fun l9 hl9 => ?_⟩
      have s9 := s8.newT (o := .lst []) hl9
      refine ⟨l6, l9, _, _, rfl, rfl, SqL.of (s9 _ _ e67), SqL.new, M20.strs_flat _, rfl, _, rfl, ?_⟩
      rw [eqL_nil]
      refine iteND (fun hne => ?_) (fun he => ?_)
      · exact qN (kN (by rw [hnums, if_pos (.inr (.inr ⟨⟨hc, hd⟩, hne⟩))])) _ (s7.trans s9)
      · refine ⟨_, rfl, l1, _, _, .str f, rfl, rfl, SqL.of (s9 _ _ e17), atI_nat (j := 0) rfl, _, rfl, _, rfl, (by show 3 ≤ sizeLine; decide), fun t ht => out _ s9 ?_ t ht⟩
        rw [hnums, if_neg]
        rintro (w | w | w)
        · exact h0 w
        · have := w.1.2; omega
        · exact w.2 he
    · rw [show decide (M20.due f = 1) = true from decide_eq_true hd]
      refine iteT ⟨_, rfl, l6, _, rfl, .inl (SqL.of e67), rfl, _, rfl, ?_⟩
      rw [List.length_map]
      refine iteND (fun hne => ?_) (fun he => ?_)
      · refine qN (kN ?_) _ s7
        rw [hnums, if_pos]
        exact .inr (.inl ⟨⟨hc, hd⟩, fun w => hne (by rw [w]; rfl)⟩)
      · refine ⟨_, rfl, (by decide), fun l8 hl8 => ⟨l8, _, rfl, .inl SqL.new, rfl, rfl, _, rfl, ?_⟩⟩
        rw [if_neg Bool.false_ne_true, hin, show decide (M20.due f = 0) = false from decide_eq_false (by omega)]
        refine iteF (iteF ?_)
        have s8 := Same.new (o := .lst [V.str (Str.ofString ""), V.str (Str.ofString "j")]) hl8
        refine ⟨_, rfl, l1, _, _, .str f, rfl, rfl, SqL.of (s8 _ _ e17), atI_nat (j := 0) rfl, _, rfl, _, rfl, (by show 3 ≤ sizeLine; decide), fun t ht => out _ s8 ?_ t ht⟩
        have he' : rr.length = 1 := by injection he with he; omega
        rw [hnums, if_neg]
        rintro (w | w | w)
        · exact h0 w
        · exact w.2 he'
        · have := w.1.2; omega
end
end Pp

namespace Pp
open PySem L2
inductive sp_read_couple (K : PySem.W.Frag) (vs : List V) (H : Hp) (Q : VK) (E : XK) : Prop
  | mk (z : Str) : vs = [.str z] → z ≠ Str.ofString "" → z.length ≤ 1000 → ((M57.cw z = false → ∀ C H', ClsN K "BadRow" C → Same H H' → E (.ref C) none H')) → ((M57.cw z = true → ∀ H', Same H H' → Q (.int (M57.num z)) H')) → sp_read_couple K vs H Q E
section
variable {P : Program} {w : World} {K : PySem.W.Frag} {mg : Str → Option Value} {base : Heap}
theorem ok_read_couple {f : Addr} {fd : FuncData} (F : Fun K "read_couple" "read_couple" s_read_couple f fd) (T : Txt K mg) (C_couple_word : Can P w K mg base 2 "couple_word" ["word"] (sp_couple_word K)) : FnOk P w K mg base (CX1 P w) 3 f fd ["word"] (sp_read_couple K) := by
  obtain ⟨c_BadRow, n_BadRow, m_BadRow, x_BadRow⟩ := T.x_BadRow
  refine F.okX sc_read_couple (fun vs H Q E h => ?_) (fun X W cdv A outer s H vs Q E hX hW fl md hr h => ?_)
  · obtain ⟨z, rfl, _⟩ := h
    rfl
  · obtain ⟨z, rfl, hne, hz, qE, q⟩ := h
    subst hX
    refine ⟨_, (pss_cons (ps_if (pt_not (pt_val (pe_own C_couple_word (hr.mono (by decide)) rfl (pa_cons (pv 0) pa_nil)))) (pss_one (ps_raise rfl md rfl m_BadRow x_BadRow (pa_cons pe_str pa_nil))) pss_nil)
      (pss_one (ps_ret (pe_callTy call_int_text (by rfl) T.b_int PyProof.Rows.boot_int (pa_cons (pv 0) pa_nil))))), ?_⟩
    refine ⟨_, rfl, z, rfl, hne, hz, fun H1 s1 => ?_⟩
    cases hc : M57.cw z with
    | false =>
      refine ⟨_, rfl, iteT ?_⟩
      exact ⟨(by show 1 ≤ sizeLine; decide), by rw [hW]; exact qE hc _ _ n_BadRow s1⟩
    | true =>
      have hN := (M57.cw_iff hne).mp hc
      have hl3 := hN.len
      obtain ⟨n, hn, e⟩ := M57.num_strN hN
      have en : M57.num z = n := by rw [e]; exact M57.num_of hn
      rw [en] at q
      refine ⟨_, rfl, iteF ?_⟩
      exact ⟨_, rfl, _, n, rfl, by rw [e]; exact M20.strN_reads hn, by omega, q hc _ s1⟩
end
end Pp

namespace Pp
open PySem L2
inductive sp_places (K : PySem.W.Frag) (vs : List V) (H : Hp) (Q : VK) (E : XK) : Prop
  | mk (p : Addr) (F : Addr → Prop) (S : Sh) : vs = [.ref p] → SheetAt K H p F S → S.handed.length = 0 → (∀ C H', ClsN K "TooFewCards" C → Same H H' → E (.ref C) none H') → sp_places K vs H Q E
section
variable {P : Program} {w : World} {K : PySem.W.Frag} {mg : Str → Option Value} {base : Heap}
theorem ok_places {f : Addr} {fd : FuncData} (F : Fun K "places" "places" s_places f fd) (T : Txt K mg) (C_refuse_fewer_cards : CanX P w K mg base 2 "refuse_fewer_cards" ps_refuse_fewer_cards (sp_refuse_fewer_cards K)) : FnOk P w K mg base (CX1 P w) 3 f fd ["sheet"] (sp_places K) := by
  refine F.okX sc_places (fun vs H Q E h => ?_) (fun X W cdv A outer s H vs Q E hX hW fl md hr h => ?_)
  · obtain ⟨p, F, S, rfl, _⟩ := h
    rfl
  · obtain ⟨p, F, S, rfl, hSh, h0, qE⟩ := h
    subst hX
    refine ⟨_, (pss_cons (ps_expr (pe_ownX C_refuse_fewer_cards fl (hr.mono (by decide)) rfl (pa_cons (pv 0) (pa_cons pe_int pa_nil))))
      (pss_one ps_never)), ?_⟩
    exact ⟨_, rfl, p, F, S, 1, rfl, hSh, (fun h C H1 hC s1 => by rw [hW]; exact qE C H1 hC s1), fun h1 => absurd h1 (by omega)⟩
end
end Pp

namespace Pp
open PySem L2
inductive sp_ranking (K : PySem.W.Frag) (vs : List V) (H : Hp) (Q : VK) (E : XK) : Prop
  | mk (p : Addr) (F : Addr → Prop) (S : Sh) : vs = [.ref p] → SheetAt K H p F S → S.handed.length = 0 → (∀ C H', ClsN K "TooFewCards" C → Same H H' → E (.ref C) none H') → sp_ranking K vs H Q E
section
variable {P : Program} {w : World} {K : PySem.W.Frag} {mg : Str → Option Value} {base : Heap}
theorem ok_ranking {f : Addr} {fd : FuncData} (F : Fun K "ranking" "ranking" s_ranking f fd) (T : Txt K mg) (C_refuse_fewer_cards : CanX P w K mg base 2 "refuse_fewer_cards" ps_refuse_fewer_cards (sp_refuse_fewer_cards K)) : FnOk P w K mg base (CX1 P w) 3 f fd ["sheet"] (sp_ranking K) := by
  refine F.okX sc_ranking (fun vs H Q E h => ?_) (fun X W cdv A outer s H vs Q E hX hW fl md hr h => ?_)
  · obtain ⟨p, F, S, rfl, _⟩ := h
    rfl
  · obtain ⟨p, F, S, rfl, hSh, h0, qE⟩ := h
    subst hX
    refine ⟨_, (pss_cons (ps_expr (pe_ownX C_refuse_fewer_cards fl (hr.mono (by decide)) rfl (pa_cons (pv 0) (pa_cons pe_int pa_nil))))
      (pss_one ps_never)), ?_⟩
    exact ⟨_, rfl, p, F, S, 1, rfl, hSh, (fun h C H1 hC s1 => by rw [hW]; exact qE C H1 hC s1), fun h1 => absurd h1 (by omega)⟩
end
end Pp

namespace Pp
open PySem L2
inductive sp_partings (K : PySem.W.Frag) (vs : List V) (H : Hp) (Q : VK) (E : XK) : Prop
  | mk (p : Addr) (F : Addr → Prop) (S : Sh) : vs = [.ref p] → SheetAt K H p F S → S.handed.length = 0 → (∀ C H', ClsN K "TooFewCards" C → Same H H' → E (.ref C) none H') → sp_partings K vs H Q E
section
variable {P : Program} {w : World} {K : PySem.W.Frag} {mg : Str → Option Value} {base : Heap}
theorem ok_partings {f : Addr} {fd : FuncData} (F : Fun K "partings" "partings" s_partings f fd) (T : Txt K mg) (C_refuse_fewer_cards : CanX P w K mg base 2 "refuse_fewer_cards" ps_refuse_fewer_cards (sp_refuse_fewer_cards K)) : FnOk P w K mg base (CX1 P w) 3 f fd ["sheet"] (sp_partings K) := by
  refine F.okX sc_partings (fun vs H Q E h => ?_) (fun X W cdv A outer s H vs Q E hX hW fl md hr h => ?_)
  · obtain ⟨p, F, S, rfl, _⟩ := h
    rfl
  · obtain ⟨p, F, S, rfl, hSh, h0, qE⟩ := h
    subst hX
    refine ⟨_, (pss_cons (ps_expr (pe_ownX C_refuse_fewer_cards fl (hr.mono (by decide)) rfl (pa_cons (pv 0) (pa_cons pe_int pa_nil))))
      (pss_one ps_never)), ?_⟩
    exact ⟨_, rfl, p, F, S, 1, rfl, hSh, (fun h C H1 hC s1 => by rw [hW]; exact qE C H1 hC s1), fun h1 => absurd h1 (by omega)⟩
end
end Pp

namespace Pp
open PySem L2
inductive sp_left_out (K : PySem.W.Frag) (vs : List V) (H : Hp) (Q : VK) (E : XK) : Prop
  | mk (p : Addr) (F : Addr → Prop) (S : Sh) (j : Str) : vs = [.ref p, .str j] → SheetAt K H p F S → S.card j = none → ((∀ C, ClsN K "UnknownJudge" C → E (.ref C) none H)) → (∀ C, ClsN K "NoCard" C → E (.ref C) none H) → sp_left_out K vs H Q E
section
variable {P : Program} {w : World} {K : PySem.W.Frag} {mg : Str → Option Value} {base : Heap}
theorem ok_left_out {f : Addr} {fd : FuncData} (F : Fun K "left_out" "left_out" s_left_out f fd) (T : Txt K mg) (C_Sheet_card_of : CanMX P w K mg base 2 (clsA K "Sheet") "card_of" ps_Sheet_card_of (sp_Sheet_card_of K)) : FnOk P w K mg base (CX1 P w) 3 f fd ps_left_out (sp_left_out K) := by
  refine F.okX sc_left_out (fun vs H Q E h => ?_) (fun X W cdv A outer s H vs Q E hX hW fl md hr h => ?_)
  · obtain ⟨p, F, S, j, rfl, _⟩ := h
    rfl
  · obtain ⟨p, F, S, j, rfl, hSh, h0, qU, qN⟩ := h
    subst hX
    refine ⟨_, (pss_cons (ps_expr (pe_ownMX C_Sheet_card_of T.cl_Sheet fl (hr.mono (by decide)) (pv 0) (pa_cons (pv 1) pa_nil)))
      (pss_cons ps_never
      (pss_one ps_never))), ?_⟩
    obtain ⟨dx, b1, b2, b3, d, hip⟩ := hSh.ins
    exact ⟨_, rfl, p, dx, _, rfl, hip, rfl, _, rfl, p, F, S, j, rfl, hSh, (fun hn C hC => by rw [hW]; exact qU C hC), (fun hp hn C hC => by rw [hW]; exact qN C hC), fun c e => by rw [h0] at e; cases e⟩
end
end Pp

namespace Pp
open PySem L2
inductive sp_deciders (K : PySem.W.Frag) (vs : List V) (H : Hp) (Q : VK) (E : XK) : Prop
  | mk (p : Addr) (F : Addr → Prop) (S : Sh) : vs = [.ref p] → SheetAt K H p F S → S.handed.length = 0 → (∀ C H', ClsN K "TooFewCards" C → Same H H' → E (.ref C) none H') → sp_deciders K vs H Q E
section
variable {P : Program} {w : World} {K : PySem.W.Frag} {mg : Str → Option Value} {base : Heap}
theorem ok_deciders {f : Addr} {fd : FuncData} (F : Fun K "deciders" "deciders" s_deciders f fd) (T : Txt K mg) (C_refuse_fewer_cards : CanX P w K mg base 2 "refuse_fewer_cards" ps_refuse_fewer_cards (sp_refuse_fewer_cards K)) : FnOk P w K mg base (CX1 P w) 3 f fd ["sheet"] (sp_deciders K) := by
  refine F.okX sc_deciders (fun vs H Q E h => ?_) (fun X W cdv A outer s H vs Q E hX hW fl md hr h => ?_)
  · obtain ⟨p, F, S, rfl, _⟩ := h
    rfl
  · obtain ⟨p, F, S, rfl, hSh, h0, qE⟩ := h
    subst hX
    refine ⟨_, (pss_cons (ps_expr (pe_ownX C_refuse_fewer_cards fl (hr.mono (by decide)) rfl (pa_cons (pv 0) (pa_cons pe_int pa_nil))))
      (pss_cons ps_never
      (pss_one ps_never))), ?_⟩
    exact ⟨_, rfl, p, F, S, 2, rfl, hSh, (fun h C H1 hC s1 => by rw [hW]; exact qE C H1 hC s1), fun h1 => absurd h1 (by omega)⟩
end
end Pp

namespace Pp
open PySem L2
inductive sp_step_up (K : PySem.W.Frag) (vs : List V) (H : Hp) (Q : VK) (E : XK) : Prop
  | mk (p : Addr) (F : Addr → Prop) (S : Sh) (j : Str) (c : V) : vs = [.ref p, .str j, c] → SheetAt K H p F S → S.card j = none → ((∀ C, ClsN K "UnknownJudge" C → E (.ref C) none H)) → (∀ C, ClsN K "NoCard" C → E (.ref C) none H) → sp_step_up K vs H Q E
section
variable {P : Program} {w : World} {K : PySem.W.Frag} {mg : Str → Option Value} {base : Heap}
theorem ok_step_up {f : Addr} {fd : FuncData} (F : Fun K "step_up" "step_up" s_step_up f fd) (T : Txt K mg) (C_Sheet_card_of : CanMX P w K mg base 2 (clsA K "Sheet") "card_of" ps_Sheet_card_of (sp_Sheet_card_of K)) : FnOk P w K mg base (CX1 P w) 3 f fd ps_step_up (sp_step_up K) := by
  refine F.okX sc_step_up (fun vs H Q E h => ?_) (fun X W cdv A outer s H vs Q E hX hW fl md hr h => ?_)
  · obtain ⟨p, F, S, j, c, rfl, _⟩ := h
    rfl
  · obtain ⟨p, F, S, j, c, rfl, hSh, h0, qU, qN⟩ := h
    subst hX
    refine ⟨_, (pss_cons (ps_set (i := 3) sc_step_up.nd rfl (Or.inl rfl) (pe_ownMX C_Sheet_card_of T.cl_Sheet fl (hr.mono (by decide)) (pv 0) (pa_cons (pv 1) pa_nil)))
      (pss_cons ps_never
      (pss_cons ps_never
      (pss_cons ps_never
      (pss_cons ps_never
      (pss_one ps_never)))))), ?_⟩
    obtain ⟨dx, b1, b2, b3, d, hip⟩ := hSh.ins
    exact ⟨_, rfl, p, dx, _, rfl, hip, rfl, _, rfl, p, F, S, j, rfl, hSh, (fun hn C hC => by rw [hW]; exact qU C hC), (fun hp hn C hC => by rw [hW]; exact qN C hC), fun c e => by rw [h0] at e; cases e⟩
end
end Pp

namespace Pp
open PySem L2
inductive sp_good_judges (K : PySem.W.Frag) (vs : List V) (H : Hp) (Q : VK) (E : XK) : Prop
  | mk (a : Addr) (ts : List Str) : vs = [.ref a] → SqL K H a (ts.map V.str) → ts.length < 4000 → ((∀ z ∈ ts, z.length ≤ 1000)) → (∀ H', Same H H' → Q (.bl (M2.goodJ ts)) H') → sp_good_judges K vs H Q E
section
variable {P : Program} {w : World} {K : PySem.W.Frag} {mg : Str → Option Value} {base : Heap}
theorem ok_good_judges {f : Addr} {fd : FuncData} (F : Fun K "good_judges" "good_judges" s_good_judges f fd) (T : Txt K mg) (C_good_name : Can P w K mg base 2 "good_name" ["judge"] (sp_good_name K)) (C_good_length : Can P w K mg base 1 "good_length" ps_good_length (sp_good_length K)) (C_all_unlike : Can P w K mg base 1 "all_unlike" ["things"] (sp_all_unlike K)) : FnOk P w K mg base CX0 3 f fd ["judges"] (sp_good_judges K) := by
  refine F.ok sc_good_judges (fun vs H Q E h => ?_) (fun cdv A outer s H vs Q E hr h => ?_)
  · obtain ⟨a, ts, rfl, _⟩ := h
    rfl
  · obtain ⟨a, ts, rfl, hS, hz, ht, q⟩ := h
    refine ⟨_, (pss_one (ps_ret (pe_and (pe_own C_good_length (hr.mono (by decide)) rfl (pa_cons (pv 0) (pa_cons (pe_const T.c_MOST_JUDGES rfl) pa_nil))) (pe_and (pe_own C_all_unlike (hr.mono (by decide)) rfl (pa_cons (pv 0) pa_nil)) (pe_one (pe_callB (call_all rfl) (by rfl) T.b_all PyProof.Rows.boot_all (pa_cons (pe_comp (show CompScope (defScope s_good_judges) ["judges"] "judge" [] [] _ from csM) rfl (pi_list (pv 0)) (fun _ _ _ _ _ => pf_nil) (fun _ _ _ _ _ => (pe_own C_good_name (hr.mono (by decide)) rfl (pa_cons (pv 0) pa_nil)))) pa_nil))))))), ?_⟩
    refine ⟨_, rfl, _, _, _, rfl, .inl ⟨_, hS, rfl⟩, _, rfl, ?_⟩
    rw [List.length_map]
    unfold M2.goodJ at q
    refine iteB (fun h1 => ?_) (fun h1 => ?_)
    · rw [h1, Bool.true_and] at q
      refine ⟨_, rfl, a, rfl, .inr ⟨ts, hS, hz, _, rfl, iteD (fun h2 => ?_) (fun h2 => ?_)⟩⟩
      · rw [decide_eq_true h2, Bool.true_and] at q
        refine ⟨_, rfl, a, rfl, ⟨_, hS⟩, ?_⟩
        refine comp_list0 (xs := ts.map V.str) (fun i ys H2 => Same H H2 ∧ ys = ((ts.take i).map M2.goodN).map V.bl) ⟨Same.refl _, rfl⟩ ?_ (by rw [List.length_map]; have := line_ge; omega) ?_ ?_
        · rintro i ys H2 hi ⟨s2, rfl⟩
          exact ⟨s2.seq hS, by simp only [List.length_map, List.length_take]; omega⟩
        · rintro i x ys H2 hx ⟨s2, rfl⟩
          obtain ⟨hi, rfl⟩ := strs_get hx
          refine ⟨_, rfl, _, rfl, ht _ (getD_inS hi), fun H3 s3 => ⟨s2.trans s3, ?_⟩⟩
          rw [take_nextS hi, List.map_append, List.map_append]
          rfl
        · rintro ys H2 ⟨s2, rfl⟩ l hl
          rw [List.length_map, List.take_length]
          exact ⟨l, _, rfl, SqL.new, q _ (s2.newT hl)⟩
      · rw [decide_eq_false h2, Bool.false_and] at q
        exact q _ (Same.refl _)
    · rw [h1, Bool.false_and] at q
      exact q _ (Same.refl _)
end
end Pp

namespace Pp
open PySem L2
inductive sp_Sheet_init (K : PySem.W.Frag) (vs : List V) (H : Hp) (Q : VK) (E : XK) : Prop
  | mk (x dx a b : Addr) (us : List Int) (ts : List Str) : vs = [.ref x, .ref a, .ref b] → H x = some (.ins (clsA K "Sheet") dx []) → SqL K H a (us.map V.int) → us.length < 4000 → SqL K H b (ts.map V.str) → ts.length < 4000 → ((∀ z ∈ ts, z.length ≤ 1000)) → ((M1.goodC us = false → ∀ C H', ClsN K "BadCouples" C → Same H H' → E (.ref C) none H')) → ((M1.goodC us = true → M2.goodJ ts = false → ∀ C H', ClsN K "BadJudges" C → Same H H' → E (.ref C) none H')) → ((M1.goodC us = true → M2.goodJ ts = true → ∀ H' F, SheetAt K H' x F (Sh.new us ts) → (∀ b o, H b = some o → b ≠ x → H' b = some o ∧ ¬ F b) → Q .non H')) → sp_Sheet_init K vs H Q E
section
variable {P : Program} {w : World} {K : PySem.W.Frag} {mg : Str → Option Value} {base : Heap}
theorem ok_Sheet_init {f : Addr} {fd : FuncData} (F : Fun K "__init__" "Sheet.__init__" s_Sheet_init f fd) (T : Txt K mg) (C_good_couples : Can P w K mg base 2 "good_couples" ["couples"] (sp_good_couples K)) (C_good_judges : Can P w K mg base 3 "good_judges" ["judges"] (sp_good_judges K)) : FnOk P w K mg base (CX1 P w) 4 f fd ps_Sheet_init (sp_Sheet_init K) := by
  obtain ⟨c_BadCouples, n_BadCouples, m_BadCouples, x_BadCouples⟩ := T.x_BadCouples
  obtain ⟨c_BadJudges, n_BadJudges, m_BadJudges, x_BadJudges⟩ := T.x_BadJudges
  refine F.okX sc_Sheet_init (fun vs H Q E h => ?_) (fun X W cdv A outer s H vs Q E hX hW fl md hr h => ?_)
  · obtain ⟨x, dx, a, b, us, ts, rfl, _⟩ := h
    rfl
  · obtain ⟨x, dx, a, b, us, ts, rfl, hx, hA, hzA, hB, hzB, hzz, qC, qJ, q⟩ := h
    subst hX
    refine ⟨_, (pss_cons (ps_if (pt_not (pt_val (pe_own C_good_couples (hr.mono (by decide)) rfl (pa_cons (pv 1) pa_nil)))) (pss_one (ps_raise rfl md rfl m_BadCouples x_BadCouples (pa_cons pe_str pa_nil))) pss_nil)
      (pss_cons (ps_if (pt_not (pt_val (pe_own C_good_judges (hr.mono (by decide)) rfl (pa_cons (pv 2) pa_nil)))) (pss_one (ps_raise rfl md rfl m_BadJudges x_BadJudges (pa_cons pe_str pa_nil))) pss_nil)
      (pss_cons (ps_fld (pv 0) (pe_callTy call_list_of (by rfl) T.b_list PyProof.Rows.boot_list (pa_cons (pv 1) pa_nil)) rfl)
      (pss_cons (ps_fld (pv 0) (pe_lst pa_nil) rfl)
      (pss_cons (ps_fld (pv 0) (pe_callTy call_list_of (by rfl) T.b_list PyProof.Rows.boot_list (pa_cons (pv 2) pa_nil)) rfl)
      (pss_cons (ps_fld (pv 0) pe_dnewK rfl)
      (pss_cons (ps_fld (pv 0) pe_int rfl)
      (pss_one (ps_fld (pv 0) pe_bl rfl))))))))), ?_⟩
    refine ⟨_, rfl, a, us, rfl, hA, hzA, fun H1 s1 => ⟨_, rfl, ?_⟩⟩
    cases hg : M1.goodC us with
    | false => exact ⟨(by show 1 ≤ sizeLine; decide), by rw [hW]; exact qC hg _ _ n_BadCouples s1⟩
    | true =>
      refine ⟨_, rfl, b, ts, rfl, s1.seq hB, hzB, hzz, fun H2 s2 => ⟨_, rfl, ?_⟩⟩
      have s12 := s1.trans s2
      cases hj : M2.goodJ ts with
      | false => exact ⟨(by show 1 ≤ sizeLine; decide), by rw [hW]; exact qJ hg hj _ _ n_BadJudges s12⟩
      | true =>
        have x2 := s12 _ _ hx
        have k2 : ∀ c o, H c = some o → c ≠ x → H2 c = some o := fun c o e _ => s12 c o e
        refine ⟨_, rfl, a, _, rfl, .inl (s12.seq hA), fun l1 hl1 => ?_⟩
        have f1 := s12.free hl1
        obtain ⟨x3, e1, n1, k3⟩ := step_new (o := .lst (us.map V.int)) (u := .ins (clsA K "Sheet") dx [("standing", .ref l1)]) x2 hl1
        refine ⟨_, rfl, x, _, dx, _, rfl, (by rw [upd_ne (ne_of_none x2 hl1)]; exact x2), T.cl_Sheet, T.n_Sheet_standing, (by decide), ?_⟩
        rw [pf1]
        generalize hH3 : upd (upd H2 l1 _) x _ = H3 at x3 e1 k3 ⊢
        refine ⟨(by show 0 ≤ sizeLine; decide), fun l2 hl2 => ?_⟩
        obtain ⟨x4, e2, n2, k4⟩ := step_new (o := .lst []) (u := .ins (clsA K "Sheet") dx [("standing", .ref l1), ("struck_so_far", .ref l2)]) x3 hl2
        refine ⟨_, rfl, x, _, dx, _, rfl, (by rw [upd_ne (ne_of_none x3 hl2)]; exact x3), T.cl_Sheet, T.n_Sheet_struck_so_far, (by show 1 < 1000; decide), ?_⟩
        rw [pf2]
        generalize hH4 : upd (upd H3 l2 _) x _ = H4 at x4 e2 k4 ⊢
        have k24 : ∀ c o, H c = some o → c ≠ x → H4 c = some o := fun c o e n => k4 c o (k3 c o (k2 c o e n) n) n
        have hB4 : SqL K H4 b (ts.map V.str) := by
          rcases hB with (e | ⟨o, e⟩) | e
          · exact .inl (.inl (k24 _ _ e (ne_of e hx (by intro z; cases z))))
          · exact .inl (.inr ⟨o, k24 _ _ e (ne_of e hx (by intro z; cases z))⟩)
          · exact .inr e
        refine ⟨_, rfl, b, _, rfl, .inl hB4, fun l3 hl3 => ?_⟩
        obtain ⟨x5, e3, n3, k5⟩ := step_new (o := .lst (ts.map V.str)) (u := .ins (clsA K "Sheet") dx [("standing", .ref l1), ("struck_so_far", .ref l2), ("panel", .ref l3)]) x4 hl3
        refine ⟨_, rfl, x, _, dx, _, rfl, (by rw [upd_ne (ne_of_none x4 hl3)]; exact x4), T.cl_Sheet, T.n_Sheet_panel, (by show 2 < 1000; decide), ?_⟩
        rw [pf3]
        generalize hH5 : upd (upd H4 l3 _) x _ = H5 at x5 e3 k5 ⊢
        intro d hd
        obtain ⟨x6, e4, n4, k6⟩ := step_new (o := .dK []) (u := .ins (clsA K "Sheet") dx [("standing", .ref l1), ("struck_so_far", .ref l2), ("panel", .ref l3), ("card_by_judge", .ref d)]) x5 hd
        refine ⟨_, rfl, x, _, dx, _, rfl, (by rw [upd_ne (ne_of_none x5 hd)]; exact x5), T.cl_Sheet, T.n_Sheet_card_by_judge, (by show 3 < 1000; decide), ?_⟩
        rw [pf4]
        generalize hH6 : upd (upd H5 d _) x _ = H6 at x6 e4 k6 ⊢
        refine ⟨_, rfl, x, _, dx, _, rfl, x6, T.cl_Sheet, T.n_Sheet_taken_so_far, (by show 4 < 1000; decide), ?_⟩
        rw [pf5]
        refine ⟨_, rfl, x, _, dx, _, rfl, upd_same, T.cl_Sheet, T.n_Sheet_sealed, (by show 5 < 1000; decide), ?_⟩
        rw [pf6, upd_upd]
        have keep : ∀ c o, H6 c = some o → c ≠ x → upd H6 x (.ins (clsA K "Sheet") dx (shF l1 l2 l3 d (Sh.new us ts))) c = some o := fun c o e n => by rw [upd_ne n]; exact e
        have g1 : H6 l1 = some (.lst (us.map V.int)) := k6 _ _ (k5 _ _ (k4 _ _ e1 n1) n1) n1
        have g2 : H6 l2 = some (.lst []) := k6 _ _ (k5 _ _ e2 n2) n2
        have g3 : H6 l3 = some (.lst (ts.map V.str)) := k6 _ _ e3 n3
        refine q hg hj (upd H6 x (.ins (clsA K "Sheet") dx (shF l1 l2 l3 d (Sh.new us ts)))) (fun c => c = x ∨ c = l1 ∨ c = l2 ∨ c = l3 ∨ c = d) ⟨dx, l1, l2, l3, d, [], ?_⟩ fun c o e n => ⟨?_, ?_⟩
        · refine ⟨⟨upd_same, keep _ _ g1 n1, keep _ _ g2 n2, keep _ _ g3 n3, keep _ _ e4 n4, Nat.zero_le _, fun _ _ => rfl, (fun _ _ z => nomatch z), .inl rfl, .inr (.inl rfl), .inr (.inr (.inl rfl)), .inr (.inr (.inr (.inl rfl))), .inr (.inr (.inr (.inr rfl))), ?_, ?_, ?_⟩, Sh.Ok.new hg hj⟩
          · exact ne_of_none e1 hl2
          · exact fun z => ne_of_none (k4 _ _ (show H3 l1 = _ from e1) n1) hl3 (by rw [z] at hl3; rw [e2] at hl3; cases hl3)
          · rintro c (rfl | rfl | rfl | rfl | rfl)
            · rw [upd_same]; exact fun z => nomatch z
            · rw [keep _ _ g1 n1]; exact fun z => nomatch z
            · rw [keep _ _ g2 n2]; exact fun z => nomatch z
            · rw [keep _ _ g3 n3]; exact fun z => nomatch z
            · rw [keep _ _ e4 n4]; exact fun z => nomatch z
        · exact keep _ _ (k6 _ _ (k5 _ _ (k24 _ _ e n) n) n) n
        · have e2' := k2 _ _ e n
          have e3' := k3 _ _ e2' n
          have e4' := k4 _ _ e3' n
          have e5' := k5 _ _ e4' n
          rintro (z | z | z | z | z)
          · exact n z
          · rw [z, hl1] at e2'; cases e2'
          · rw [z, hl2] at e3'; cases e3'
          · rw [z, hl3] at e4'; cases e4'
          · rw [z, hd] at e5'; cases e5'
end
end Pp

namespace Pp
open PySem L2
inductive sp_read_couples (K : PySem.W.Frag) (vs : List V) (H : Hp) (Q : VK) (E : XK) : Prop
  | mk (f : Str) (a : Addr) (ws : List Str) : vs = [.str f, .ref a] → SqL K H a (ws.map V.str) → ((∀ w ∈ ws, w ≠ Str.ofString "" ∧ w.length ≤ 1000)) → ws.length ≤ 1000 → ((M57.nums f ws = none → ∀ C H', ClsN K "BadRow" C → Same H H' → E (.ref C) none H')) → (∀ ns, M57.nums f ws = some ns → ∀ (l : Addr) (H' : Hp), Same H H' → H l = none → H' l = some (.lst (ns.map V.int)) → Q (.ref l) H') → sp_read_couples K vs H Q E
section
variable {P : Program} {w : World} {K : PySem.W.Frag} {mg : Str → Option Value} {base : Heap}
theorem ok_read_couples {f : Addr} {fd : FuncData} (F : Fun K "read_couples" "read_couples" s_read_couples f fd) (T : Txt K mg) (C_due_couples : Can P w K mg base 1 "due_couples" ["first"] (sp_due_couples K)) (C_read_couple : CanX P w K mg base 3 "read_couple" ["word"] (sp_read_couple K)) : FnOk P w K mg base (CX1 P w) 4 f fd ps_read_couples (sp_read_couples K) := by
  obtain ⟨c_BadRow, n_BadRow, m_BadRow, x_BadRow⟩ := T.x_BadRow
  refine F.okX sc_read_couples (fun vs H Q E h => ?_) (fun X W cdv A outer s H vs Q E hX hW fl md hr h => ?_)
  · obtain ⟨f, a, ws, rfl, _⟩ := h
    rfl
  · have flB := flB_def (P := P) (w := w) (K := K) (mg := mg) (base := base) (N := ["first", "words"]) (qual := "read_couples") (scope := defScope s_read_couples) (f := f) (cd := cdv) (A := A) (outer := outer) (s0 := s) (H0 := H) (E := E)
    obtain ⟨f, a, ws, rfl, hA, hw, hz, qE, q⟩ := h
    subst hX
    refine ⟨_, (pss_cons (ps_mid (ps_if (PW.pt (pw_and (pt_cmpR op_ne (pv 0) pe_str (nomark _)) (pw_and1 (pt_cmpR op_ne (pLen T.b_len (pv 1)) (pe_own C_due_couples (hr.mono (by decide)) rfl (pa_cons (pv 0) pa_nil)) (nomark _))))) (pss_one (ps_raise rfl md rfl m_BadRow x_BadRow (pa_cons pe_str pa_nil))) pss_nil))
      (pss_one (ps_ret (pe_compX (show CompScope (defScope s_read_couples) ["first", "words"] "word" [] [] _ from csM) rfl flB rfl rfl (fun _ _ _ z => z) (pi_list (pv 1)) (fun _ _ _ _ _ => (pe_ownX C_read_couple flX (hr.mono (by decide)) rfl (pa_cons (pv 0) pa_nil))))))), ?_⟩
    have hln := line_ge
    unfold M57.nums at qE q
    refine ⟨fun σ' H' => σ' = [some (.str f), some (.ref a)] ∧ H' = H ∧ ¬ (decide (f = Str.ofString "card") = false ∧ (ws.length : Int) ≠ M20.due f), ?_, ?_⟩
    · refine ⟨_, rfl, rfl, _, rfl, ?_⟩
      have hf : decide (V.str f = V.str "card") = decide (f = Str.ofString "card") := decide_eq_decide.mpr ⟨fun z => by injection z, fun z => by rw [z]⟩
      rw [hf]
      refine iteND (fun hc => ?_) (fun hc => ⟨rfl, rfl, fun z => by rw [decide_eq_true hc] at z; exact Bool.noConfusion z.1⟩)
      refine ⟨_, rfl, a, _, rfl, .inl hA, _, rfl, f, rfl, rfl, _, rfl, ?_⟩
      rw [List.length_map]
      refine iteND (fun hd => ?_) (fun hd => ⟨rfl, rfl, fun z => z.2 (V.int.inj hd)⟩)
      have hd : (ws.length : Int) ≠ M20.due f := fun z => hd (by rw [z])
      rw [if_pos ⟨decide_eq_false hc, hd⟩] at qE
      exact ⟨(by show 1 ≤ sizeLine; decide), by rw [hW]; exact qE rfl _ _ n_BadRow (Same.refl _)⟩
    rintro σ' H1 ⟨rfl, rfl, hcond⟩
    rw [if_neg hcond] at qE
    rw [if_neg hcond] at q
    refine ⟨_, rfl, a, rfl, ⟨_, hA⟩, ?_⟩
    refine comp_list0 (xs := ws.map V.str) (fun i ys H2 => Same H1 H2 ∧ ys = ((ws.take i).map M57.num).map V.int ∧ (ws.take i).all M57.cw = true) ⟨Same.refl _, rfl, rfl⟩ ?_ (by rw [List.length_map]; omega) ?_ ?_
    · rintro i ys H2 hi ⟨s2, rfl, _⟩
      refine ⟨s2.seq hA, ?_⟩
      rw [List.length_map, List.length_map, List.length_take]
      omega
    · rintro i x ys H2 hx ⟨s2, rfl, hall⟩
      rw [List.getElem?_map] at hx
      cases en : ws[i]? with
      | none => rw [en] at hx; cases hx
      | some w =>
        rw [en] at hx
        cases hx
        have hm := List.mem_of_getElem? en
        obtain ⟨w1, w2⟩ := hw w hm
        refine ⟨_, rfl, w, rfl, w1, w2, fun hc C H3 hC s3 => ?_, fun hc H3 s3 => ⟨s2.trans s3, ?_, ?_⟩⟩
        · refine qE ?_ C H3 hC (s2.trans s3)
          rw [if_neg]
          intro z
          rw [List.all_eq_true] at z
          rw [z w hm] at hc
          cases hc
        · rw [List.take_succ, en, List.map_append, List.map_append]
          rfl
        · rw [List.take_succ, en, List.all_append, hall]
          show (true && (M57.cw w && true)) = true
          rw [hc]
          rfl
    · rintro ys H2 ⟨s2, rfl, hall⟩ l hl
      rw [List.length_map, List.take_length] at hall ⊢
      exact q _ (by rw [if_pos hall]) l _ (s2.newT hl) (s2.free hl) upd_same
end
end Pp

namespace Pp
open PySem L2
inductive sp_table_row (K : PySem.W.Frag) (vs : List V) (H : Hp) (Q : VK) (E : XK) : Prop
  | mk (p : Addr) (F : Addr → Prop) (S : Sh) (c : V) : vs = [.ref p, c] → SheetAt K H p F S → S.handed.length = 0 → (∀ C H', ClsN K "TooFewCards" C → Same H H' → E (.ref C) none H') → sp_table_row K vs H Q E
section
variable {P : Program} {w : World} {K : PySem.W.Frag} {mg : Str → Option Value} {base : Heap}
theorem ok_table_row {f : Addr} {fd : FuncData} (F : Fun K "table_row" "table_row" s_table_row f fd) (T : Txt K mg) (C_places : CanX P w K mg base 3 "places" ["sheet"] (sp_places K)) : FnOk P w K mg base (CX1 P w) 4 f fd ps_table_row (sp_table_row K) := by
  refine F.okX sc_table_row (fun vs H Q E h => ?_) (fun X W cdv A outer s H vs Q E hX hW fl md hr h => ?_)
  · obtain ⟨p, F, S, c, rfl, _⟩ := h
    rfl
  · obtain ⟨p, F, S, c, rfl, hSh, h0, qE⟩ := h
    subst hX
    refine ⟨_, (pss_cons (ps_set (i := 2) sc_table_row.nd rfl (Or.inl rfl) (pe_ownX C_places fl (hr.mono (by decide)) rfl (pa_cons (pv 0) pa_nil)))
      (pss_cons ps_never
      (pss_one ps_never))), ?_⟩
    exact ⟨_, rfl, p, F, S, rfl, hSh, h0, fun C H1 hC s1 => by rw [hW]; exact qE C H1 hC s1⟩
end
end Pp

namespace Pp
open PySem L2
inductive sp_step_text (K : PySem.W.Frag) (vs : List V) (H : Hp) (Q : VK) (E : XK) : Prop
  | mk (p : Addr) (F : Addr → Prop) (S : Sh) (j : Str) (c : V) : vs = [.ref p, .str j, c] → SheetAt K H p F S → S.card j = none → ((∀ C, ClsN K "UnknownJudge" C → E (.ref C) none H)) → (∀ C, ClsN K "NoCard" C → E (.ref C) none H) → sp_step_text K vs H Q E
section
variable {P : Program} {w : World} {K : PySem.W.Frag} {mg : Str → Option Value} {base : Heap}
theorem ok_step_text {f : Addr} {fd : FuncData} (F : Fun K "step_text" "step_text" s_step_text f fd) (T : Txt K mg) (C_step_up : CanX P w K mg base 3 "step_up" ps_step_up (sp_step_up K)) : FnOk P w K mg base (CX1 P w) 4 f fd ps_step_text (sp_step_text K) := by
  refine F.okX sc_step_text (fun vs H Q E h => ?_) (fun X W cdv A outer s H vs Q E hX hW fl md hr h => ?_)
  · obtain ⟨p, F, S, j, c, rfl, _⟩ := h
    rfl
  · obtain ⟨p, F, S, j, c, rfl, hSh, h0, qU, qN⟩ := h
    subst hX
    refine ⟨_, (pss_cons (ps_set (i := 3) sc_step_text.nd rfl (Or.inl rfl) (pe_ownX C_step_up fl (hr.mono (by decide)) rfl (pa_cons (pv 0) (pa_cons (pv 1) (pa_cons (pv 2) pa_nil)))))
      (pss_one ps_never)), ?_⟩
    exact ⟨_, rfl, _, rfl, _, rfl, p, F, S, j, c, rfl, hSh, h0, (fun C hC => by rw [hW]; exact qU C hC), (fun C hC => by rw [hW]; exact qN C hC)⟩
end
end Pp

namespace Pp
open PySem L2
inductive sp_read_row (K : PySem.W.Frag) (vs : List V) (H : Hp) (Q : VK) (E : XK) : Prop
  | mk (z : Str) : vs = [.str z] → z.length ≤ 900 → ((M57.said z = none → ∀ C H', ClsN K "BadRow" C → Same H H' → E (.ref C) none H')) → (∀ f j ns, M57.said z = some (f, j, ns) → ∀ (t l : Addr) (H' : Hp), Same H H' → H t = none → H l = none → H' t = some (.tup [.str f, .str j, .ref l]) → H' l = some (.lst (ns.map V.int)) → Q (.ref t) H') → sp_read_row K vs H Q E
section
variable {P : Program} {w : World} {K : PySem.W.Frag} {mg : Str → Option Value} {base : Heap}
theorem ok_read_row {f : Addr} {fd : FuncData} (F : Fun K "read_row" "read_row" s_read_row f fd) (T : Txt K mg) (C_read_couples : CanX P w K mg base 4 "read_couples" ps_read_couples (sp_read_couples K)) : FnOk P w K mg base (CX1 P w) 5 f fd ["row"] (sp_read_row K) := by
  obtain ⟨c_BadRow, n_BadRow, m_BadRow, x_BadRow⟩ := T.x_BadRow
  refine F.okX sc_read_row (fun vs H Q E h => ?_) (fun X W cdv A outer s H vs Q E hX hW fl md hr h => ?_)
  · obtain ⟨z, rfl, _⟩ := h
    rfl
  · obtain ⟨z, rfl, hz, qE, q⟩ := h
    subst hX
    refine ⟨_, (pss_cons (ps_set (i := 1) sc_read_row.nd rfl (Or.inl rfl) (pe_bm PySem.F.plainAttrs_str PySem.F.slot_str_split PySem.F.type_str_split ms_split (pv 0) (pa_cons pe_str pa_nil)))
      (pss_cons (ps_if (pt_cmpR op_in_seq pe_str (pv 1) (by first | exact nomark _ | rfl)) (pss_one (ps_raise rfl md rfl m_BadRow x_BadRow (pa_cons pe_str pa_nil))) pss_nil)
      (pss_cons (ps_set (i := 2) sc_read_row.nd rfl (Or.inl rfl) (pe_ix ix_list (pv 1) pe_int (fun _ _ => rfl)))
      (pss_cons (ps_if (pt_cmpR op_notIn_seq (pv 2) (pe_op op_catT (pe_op op_catT (pe_ctup T.c_BARE_WORDS rfl) (pe_ctup T.c_JUDGE_WORDS rfl)) (pe_ctup T.c_COUPLE_WORDS rfl)) (by first | exact nomark _ | rfl)) (pss_one (ps_raise rfl md rfl m_BadRow x_BadRow (pa_cons pe_str pa_nil))) pss_nil)
      (pss_cons (ps_if (pt_cmpR op_notIn_seq (pv 2) (pe_ctup T.c_JUDGE_WORDS rfl) (by first | exact nomark _ | rfl)) (pss_one (ps_ret (pe_tup (pa_cons (pv 2) (pa_cons pe_str (pa_cons (pe_ownX C_read_couples fl (hr.mono (by decide)) rfl (pa_cons (pv 2) (pa_cons (pe_slice sl_list (pv 1) (po_some pe_int) po_none) pa_nil))) pa_nil)))))) pss_nil)
      (pss_cons (ps_if (pt_cmpR op_eq (pLen T.b_len (pv 1)) pe_int (nomark _)) (pss_one (ps_raise rfl md rfl m_BadRow x_BadRow (pa_cons pe_str pa_nil))) pss_nil)
      (pss_one (ps_ret (pe_tup (pa_cons (pv 2) (pa_cons (pe_ix ix_list (pv 1) pe_int (fun _ _ => rfl)) (pa_cons (pe_ownX C_read_couples fl (hr.mono (by decide)) rfl (pa_cons (pv 2) (pa_cons (pe_slice sl_list (pv 1) (po_some pe_int) po_none) pa_nil))) pa_nil)))))))))))), ?_⟩
    have hln := line_ge
    have hsl := M57.split_len z
    refine ⟨_, rfl, rfl, _, _, rfl, rfl, by decide +kernel, by omega, by rw [M20.blank_eq]; omega, fun l1 hl1 => ?_⟩
    rw [M20.blank_eq]
    unfold M57.said at qE q
    have hwl : ∀ w ∈ Txt.split z M20.blank, w.length ≤ 900 := fun w hw => Nat.le_trans (M57.split_word hw) hz
    have hne : Txt.split z M20.blank ≠ [] := fun e => by
      have j := StrLaws.join_split z M20.blank
      rw [e] at j
      rw [← j] at e
      exact absurd e (by decide +kernel)
    generalize Txt.split z M20.blank = ws at hsl hwl hne qE q hl1 ⊢
    have s1 := Same.new (o := .lst (ws.map V.str)) hl1
    have e1 : upd H l1 (.lst (ws.map V.str)) l1 = some (.lst (ws.map V.str)) := upd_same
    generalize hH1 : upd H l1 _ = H1 at s1 e1 ⊢
    unfold M57.saidW at qE q
    refine ⟨_, rfl, l1, _, rfl, .inl (SqL.of e1), rfl, M20.strs_flat _, _, rfl, ?_⟩
    cases hem : inV (V.str (Str.ofString "")) (ws.map V.str) with
    | true =>
      have hem' : M20.inW (Str.ofString "") ws = true := hem
      rw [if_pos hem'] at qE
      refine iteT ?_
      exact ⟨(by show 1 ≤ sizeLine; decide), by rw [hW]; exact qE rfl _ _ n_BadRow s1⟩
    | false =>
    have hem' : ¬ M20.inW (Str.ofString "") ws = true := by rw [show M20.inW (Str.ofString "") ws = false from hem]; exact Bool.false_ne_true
    rw [if_neg hem'] at qE q
    refine iteF ?_
    have hnw : ∀ w ∈ ws, w ≠ Str.ofString "" := fun w hw e => by
      apply hem'
      unfold M20.inW inV
      rw [List.any_eq_true]
      exact ⟨.str w, List.mem_map.mpr ⟨w, hw, rfl⟩, by show (w == Str.ofString "") = true; simpa using e⟩
    obtain _ | ⟨f, r⟩ := ws
    · exact absurd rfl hne
    dsimp only at qE q
    refine ⟨_, rfl, l1, _, _, .str f, rfl, rfl, SqL.of e1, atI_nat (j := 0) rfl, ?_⟩
    refine ⟨_, rfl, fun a1 h1 => fun a2 h2 => ⟨a1, a2, _, _, rfl, rfl, h1 _, h2 _, by decide, by decide, (fun z => by cases z), fun _ p hp => fun a3 h3 => ⟨p, a3, _, _, rfl, rfl, .inl (.inl upd_same), h3 _, by decide, by decide, (fun z => by cases z), fun _ p2 hp2 => ?_⟩⟩⟩
    have s3 := (Same.newT s1 (o := .tup (List.map V.str ["seal", "couples", "places", "parts", "deciders"] ++ List.map V.str ["card", "show", "leave", "step"])) hp).newT (o := .tup ((List.map V.str ["seal", "couples", "places", "parts", "deciders"] ++ List.map V.str ["card", "show", "leave", "step"]) ++ List.map V.str ["strike", "step", "row"])) hp2
    have e3 := (Same.newT (Same.new (o := .tup (List.map V.str ["seal", "couples", "places", "parts", "deciders"] ++ List.map V.str ["card", "show", "leave", "step"])) hp) (o := .tup ((List.map V.str ["seal", "couples", "places", "parts", "deciders"] ++ List.map V.str ["card", "show", "leave", "step"]) ++ List.map V.str ["strike", "step", "row"])) hp2) _ _ e1
    refine ⟨p2, _, rfl, .inr (.inl (.inl upd_same)), rfl, by rfl, _, rfl, ?_⟩
    have hall : inV (V.str f) ((List.map V.str ["seal", "couples", "places", "parts", "deciders"] ++ List.map V.str ["card", "show", "leave", "step"]) ++ List.map V.str ["strike", "step", "row"]) = M20.inW f M57.ALL := rfl
    rw [hall]
    generalize hH3 : upd (upd H1 p _) p2 _ = H3 at s3 e3 ⊢
    cases hA : M20.inW f M57.ALL with
    | false =>
      rw [if_pos hA] at qE
      refine iteT ?_
      exact ⟨(by show 1 ≤ sizeLine; decide), by rw [hW]; exact qE rfl _ _ n_BadRow s3⟩
    | true =>
    rw [if_neg (by rw [hA]; exact fun z => Bool.noConfusion z)] at qE q
    refine iteF ?_
    have hlen : (f :: r).length ≤ 901 := by omega
    refine ⟨_, rfl, fun a4 h4 => ⟨a4, _, rfl, .inr (h4 _), rfl, by rfl, _, rfl, ?_⟩⟩
    show if (!M20.inW f M20.JUDGE) = true then _ else _
    cases hJ : M20.inW f M20.JUDGE with
    | false =>
      rw [if_pos hJ] at qE q
      refine iteT ?_
      refine ⟨_, rfl, _, rfl, _, rfl, _, rfl, l1, _, rfl, SqL.of e3, fun l5 hl5 => ?_⟩
      have s5 := Same.new (o := .lst (cutV ((f :: r).map V.str) (some 1) none)) hl5
      have e5 : upd H3 l5 (.lst (cutV ((f :: r).map V.str) (some 1) none)) l5 = some (.lst (r.map V.str)) := by rw [upd_same, cut_from (by decide)]; rfl
      refine ⟨f, l5, r, rfl, SqL.of e5, fun w hw => ⟨hnw w (List.mem_cons_of_mem _ hw), by have := hwl w (List.mem_cons_of_mem _ hw); omega⟩, by rw [List.length_cons] at hlen; omega, fun hn C H' hC s' => ?_, fun ns hn l6 H6 s6 f6 e6 => ⟨(by show 3 ≤ sizeLine; decide), fun t7 ht7 => ?_⟩⟩
      · rw [hW]
        exact qE (by rw [hn]; rfl) C H' hC ((s3.trans s5).trans s')
      · have sA := (s3.trans s5).trans s6
        exact q _ _ _ (by rw [hn]; rfl) t7 l6 _ (sA.newT ht7) (sA.free ht7) ((s3.trans s5).free f6) upd_same ((Same.new ht7) _ _ e6)
    | true =>
      rw [if_neg (by rw [hJ]; exact fun z => Bool.noConfusion z)] at qE q
      refine iteF ?_
      refine ⟨_, rfl, l1, _, rfl, .inl (SqL.of e3), rfl, _, rfl, ?_⟩
      obtain _ | ⟨j, r⟩ := r
      · refine iteY (decide_eq_true rfl) ?_
        exact ⟨(by show 1 ≤ sizeLine; decide), by rw [hW]; exact qE rfl _ _ n_BadRow s3⟩
      refine iteNo ?_ ?_
      · refine decide_eq_false fun z => ?_
        injection z with z
        simp only [List.length_cons, List.length_map] at z
        omega
      dsimp only at qE q
      refine ⟨_, rfl, _, rfl, l1, _, _, .str j, rfl, rfl, SqL.of e3, atI_nat (j := 1) rfl, _, rfl, _, rfl, _, rfl, l1, _, rfl, SqL.of e3, fun l5 hl5 => ?_⟩
      have s5 := Same.new (o := .lst (cutV ((f :: j :: r).map V.str) (some 2) none)) hl5
      have e5 : upd H3 l5 (.lst (cutV ((f :: j :: r).map V.str) (some 2) none)) l5 = some (.lst (r.map V.str)) := by rw [upd_same, cut_from (by decide)]; rfl
      have hm : ∀ w ∈ r, w ∈ f :: j :: r := fun w hw => List.mem_cons_of_mem _ (List.mem_cons_of_mem _ hw)
      refine ⟨f, l5, r, rfl, SqL.of e5, fun w hw => ⟨hnw w (hm w hw), by have := hwl w (hm w hw); omega⟩, by simp only [List.length_cons] at hlen; omega, fun hn C H' hC s' => ?_, fun ns hn l6 H6 s6 f6 e6 => ⟨(by show 3 ≤ sizeLine; decide), fun t7 ht7 => ?_⟩⟩
      · rw [hW]
        exact qE (by rw [hn]; rfl) C H' hC ((s3.trans s5).trans s')
      · have sA := (s3.trans s5).trans s6
        exact q _ _ _ (by rw [hn]; rfl) t7 l6 _ (sA.newT ht7) (sA.free ht7) ((s3.trans s5).free f6) upd_same ((Same.new ht7) _ _ e6)
end
end Pp

namespace Pp
open PySem L2
inductive sp_only_told (K : PySem.W.Frag) (vs : List V) (H : Hp) (Q : VK) (E : XK) : Prop
  | mk (p : Addr) (F : Addr → Prop) (S : Sh) (f j : Str) (a : Addr) (ns : List Int) : vs = [.ref p, .str f, .str j, .ref a] → SheetAt K H p F S → ((∀ j, S.card j = none)) → S.couples = [7, 12, 999] → SqL K H a (ns.map V.int) → f ∈ M57.TOLD → (ns.length : Int) = M20.due f → ((∀ c ∈ M57.CLT, ∀ C H', ClsN K c C → Same H H' → E (.ref C) none H')) → (∀ x H', x ≠ M57.RW → Same H H' → Q (.str x) H') → sp_only_told K vs H Q E
section
variable {P : Program} {w : World} {K : PySem.W.Frag} {mg : Str → Option Value} {base : Heap}
theorem ok_only_told {f : Addr} {fd : FuncData} (F : Fun K "only_told" "only_told" s_only_told f fd) (T : Txt K mg) (C_ranking : CanX P w K mg base 3 "ranking" ["sheet"] (sp_ranking K)) (C_partings : CanX P w K mg base 3 "partings" ["sheet"] (sp_partings K)) (C_left_out : CanX P w K mg base 3 "left_out" ps_left_out (sp_left_out K)) (C_deciders : CanX P w K mg base 3 "deciders" ["sheet"] (sp_deciders K)) (C_table_row : CanX P w K mg base 4 "table_row" ps_table_row (sp_table_row K)) (C_numbers_text : Can P w K mg base 1 "numbers_text" ["couples"] (sp_numbers_text K)) (C_ranking_text : Can P w K mg base 1 "ranking_text" ["rows"] (sp_ranking_text K)) (C_places_text : Can P w K mg base 1 "places_text" ps_places_text (sp_places_text K)) (C_step_text : CanX P w K mg base 4 "step_text" ps_step_text (sp_step_text K)) (C_text_or_none : Can P w K mg base 1 "text_or_none" ["words"] (sp_text_or_none K)) (C_Sheet_couples : CanM P w K mg base 1 (clsA K "Sheet") "couples" ["self"] (sp_Sheet_couples K)) (C_Sheet_card_of : CanMX P w K mg base 2 (clsA K "Sheet") "card_of" ps_Sheet_card_of (sp_Sheet_card_of K)) : FnOk P w K mg base (CX1 P w) 5 f fd ps_only_told (sp_only_told K) := by
  refine F.okX sc_only_told (fun vs H Q E h => ?_) (fun X W cdv A outer s H vs Q E hX hW fl md hr h => ?_)
  · obtain ⟨p, F, S, f, j, a, ns, rfl, _⟩ := h
    rfl
  · obtain ⟨p, F, S, f, j, a, ns, rfl, hSh, hc, hcp, hA, hf, hd, qE, q⟩ := h
    subst hX
    refine ⟨_, (pss_cons (ps_if (pt_cmpR op_eq (pv 1) pe_str (nomark _)) (pss_one (ps_ret (pe_own C_numbers_text (hr.mono (by decide)) rfl (pa_cons (pe_ownM0 C_Sheet_couples T.cl_Sheet (hr.mono (by decide)) (pv 0)) pa_nil)))) pss_nil)
      (pss_cons (ps_if (pt_cmpR op_eq (pv 1) pe_str (nomark _)) (pss_one (ps_ret (pe_own C_numbers_text (hr.mono (by decide)) rfl (pa_cons (pe_ownMX C_Sheet_card_of T.cl_Sheet fl (hr.mono (by decide)) (pv 0) (pa_cons (pv 2) pa_nil)) pa_nil)))) pss_nil)
      (pss_cons (ps_if (pt_cmpR op_eq (pv 1) pe_str (nomark _)) (pss_one (ps_ret (pe_own C_ranking_text (hr.mono (by decide)) rfl (pa_cons (pe_ownX C_ranking fl (hr.mono (by decide)) rfl (pa_cons (pv 0) pa_nil)) pa_nil)))) pss_nil)
      (pss_cons (ps_if (pt_cmpR op_eq (pv 1) pe_str (nomark _)) (pss_one (ps_ret (pe_own C_places_text (hr.mono (by decide)) rfl (pa_cons (pv 0) (pa_cons (pe_ownX C_left_out fl (hr.mono (by decide)) rfl (pa_cons (pv 0) (pa_cons (pv 2) pa_nil))) pa_nil))))) pss_nil)
      (pss_cons (ps_if (pt_cmpR op_eq (pv 1) pe_str (nomark _)) (pss_one (ps_ret (pe_ownX C_step_text fl (hr.mono (by decide)) rfl (pa_cons (pv 0) (pa_cons (pv 2) (pa_cons (pe_ix ix_list (pv 3) pe_int (fun _ _ => rfl)) pa_nil)))))) pss_nil)
      (pss_cons (ps_if (pt_cmpR op_eq (pv 1) pe_str (nomark _)) (pss_one (ps_ret (pe_own C_text_or_none (hr.mono (by decide)) rfl (pa_cons (pe_compN (show CompN (defScope s_only_told) _ from ⟨rfl, by decide +kernel, by decide +kernel⟩) (pe_ownX C_partings fl (hr.mono (by decide)) rfl (pa_cons (pv 0) pa_nil))) pa_nil)))) pss_nil)
      (pss_cons (ps_if (pt_cmpR op_eq (pv 1) pe_str (nomark _)) (pss_one (ps_ret (pe_own C_text_or_none (hr.mono (by decide)) rfl (pa_cons (pe_ownX C_deciders fl (hr.mono (by decide)) rfl (pa_cons (pv 0) pa_nil)) pa_nil)))) pss_nil)
      (pss_one (ps_ret (pe_ownX C_table_row fl (hr.mono (by decide)) rfl (pa_cons (pv 0) (pa_cons (pe_ix ix_list (pv 3) pe_int (fun _ _ => rfl)) pa_nil)))))))))))), ?_⟩
    have h0 : S.handed.length = 0 := by rw [M57.handed_nil hc]; rfl
    have ok := hSh.ok
    have c24 := ok.c24
    obtain ⟨dx, b1, b2, b3, d, hip⟩ := hSh.ins
    have eF : ∀ C H', ClsN K "TooFewCards" C → Same H H' → W [] (.ref C) H' := fun C H' hC s' => by rw [hW]; exact qE _ (by decide) C H' hC s'
    have eU : ∀ C, ClsN K "UnknownJudge" C → W [] (.ref C) H := fun C hC => by rw [hW]; exact qE _ (by decide) C H hC (Same.refl _)
    have eN : ∀ C, ClsN K "NoCard" C → W [] (.ref C) H := fun C hC => by rw [hW]; exact qE _ (by decide) C H hC (Same.refl _)
    subst hW
    unfold M57.TOLD at hf
    simp only [List.mem_cons, List.not_mem_nil, or_false] at hf
    rcases hf with rfl | rfl | rfl | rfl | rfl | rfl | rfl | rfl
    · refine ⟨_, rfl, rfl, _, rfl, iteY (by decide) ?_⟩
      refine ⟨_, rfl, p, dx, _, rfl, hip, rfl, p, F, S, rfl, hSh, fun l1 H1 s1 f1 e1 => ?_⟩
      refine ⟨l1, S.couples, rfl, SqL.of e1, by omega, ok.rng, fun H2 s2 => ?_⟩
      exact q _ H2 (by rw [hcp]; decide +kernel) (s1.trans s2)
    · refine ⟨_, rfl, rfl, _, rfl, iteNo (by decide) ?_⟩
      refine ⟨_, rfl, rfl, _, rfl, iteY (by decide) ?_⟩
      exact ⟨_, rfl, p, dx, _, rfl, hip, rfl, _, rfl, p, F, S, j, rfl, hSh, (fun _ C hC => eU C hC), (fun _ _ C hC => eN C hC), fun c e => by rw [hc] at e; cases e⟩
    · refine ⟨_, rfl, rfl, _, rfl, iteNo (by decide) ?_⟩
      refine ⟨_, rfl, rfl, _, rfl, iteNo (by decide) ?_⟩
      refine ⟨_, rfl, rfl, _, rfl, iteY (by decide) ?_⟩
      exact ⟨_, rfl, p, F, S, rfl, hSh, h0, eF⟩
    · refine ⟨_, rfl, rfl, _, rfl, iteNo (by decide) ?_⟩
      refine ⟨_, rfl, rfl, _, rfl, iteNo (by decide) ?_⟩
      refine ⟨_, rfl, rfl, _, rfl, iteNo (by decide) ?_⟩
      refine ⟨_, rfl, rfl, _, rfl, iteY (by decide) ?_⟩
      exact ⟨_, rfl, _, rfl, _, rfl, p, F, S, j, rfl, hSh, hc j, eU, eN⟩
    · refine ⟨_, rfl, rfl, _, rfl, iteNo (by decide) ?_⟩
      refine ⟨_, rfl, rfl, _, rfl, iteNo (by decide) ?_⟩
      refine ⟨_, rfl, rfl, _, rfl, iteNo (by decide) ?_⟩
      refine ⟨_, rfl, rfl, _, rfl, iteNo (by decide) ?_⟩
      refine ⟨_, rfl, rfl, _, rfl, iteY (by decide) ?_⟩
      obtain ⟨n, rfl⟩ : ∃ n, ns = [n] := List.length_eq_one_iff.mp (by have : (ns.length : Int) = 1 := hd; omega)
      exact ⟨_, rfl, _, rfl, _, rfl, a, _, _, _, rfl, rfl, hA, rfl, p, F, S, j, _, rfl, hSh, hc j, eU, eN⟩
    · refine ⟨_, rfl, rfl, _, rfl, iteNo (by decide) ?_⟩
      refine ⟨_, rfl, rfl, _, rfl, iteNo (by decide) ?_⟩
      refine ⟨_, rfl, rfl, _, rfl, iteNo (by decide) ?_⟩
      refine ⟨_, rfl, rfl, _, rfl, iteNo (by decide) ?_⟩
      refine ⟨_, rfl, rfl, _, rfl, iteNo (by decide) ?_⟩
      refine ⟨_, rfl, rfl, _, rfl, iteY (by decide) ?_⟩
      exact ⟨_, rfl, p, F, S, rfl, hSh, h0, eF⟩
    · refine ⟨_, rfl, rfl, _, rfl, iteNo (by decide) ?_⟩
      refine ⟨_, rfl, rfl, _, rfl, iteNo (by decide) ?_⟩
      refine ⟨_, rfl, rfl, _, rfl, iteNo (by decide) ?_⟩
      refine ⟨_, rfl, rfl, _, rfl, iteNo (by decide) ?_⟩
      refine ⟨_, rfl, rfl, _, rfl, iteNo (by decide) ?_⟩
      refine ⟨_, rfl, rfl, _, rfl, iteNo (by decide) ?_⟩
      refine ⟨_, rfl, rfl, _, rfl, iteY (by decide) ?_⟩
      exact ⟨_, rfl, p, F, S, rfl, hSh, h0, eF⟩
    · refine ⟨_, rfl, rfl, _, rfl, iteNo (by decide) ?_⟩
      refine ⟨_, rfl, rfl, _, rfl, iteNo (by decide) ?_⟩
      refine ⟨_, rfl, rfl, _, rfl, iteNo (by decide) ?_⟩
      refine ⟨_, rfl, rfl, _, rfl, iteNo (by decide) ?_⟩
      refine ⟨_, rfl, rfl, _, rfl, iteNo (by decide) ?_⟩
      refine ⟨_, rfl, rfl, _, rfl, iteNo (by decide) ?_⟩
      refine ⟨_, rfl, rfl, _, rfl, iteNo (by decide) ?_⟩
      obtain ⟨n, rfl⟩ : ∃ n, ns = [n] := List.length_eq_one_iff.mp (by have : (ns.length : Int) = 1 := hd; omega)
      exact ⟨_, rfl, _, rfl, a, _, _, _, rfl, rfl, hA, rfl, p, F, S, _, rfl, hSh, h0, eF⟩
end
end Pp

namespace Pp
open PySem L2
inductive sp_done_and_told (K : PySem.W.Frag) (vs : List V) (H : Hp) (Q : VK) (E : XK) : Prop
  | mk (p : Addr) (F : Addr → Prop) (S : Sh) (f j : Str) (a : Addr) (ns : List Int) : vs = [.ref p, .str f, .str j, .ref a] → SheetAt K H p F S → ((∀ j, S.card j = none)) → S.couples = [7, 12, 999] → SqL K H a (ns.map V.int) → ns.length < 64 → M20.inW f M57.ALL = true → ((f = Str.ofString "card" ∨ (ns.length : Int) = M20.due f)) → ((∀ c ∈ M57.CLS, ∀ C H', ClsN K c C → Same H H' → E (.ref C) none H')) → (∀ x H' F', x ≠ M57.RW → Deed F H F' H' → Q (.str x) H') → sp_done_and_told K vs H Q E
section
variable {P : Program} {w : World} {K : PySem.W.Frag} {mg : Str → Option Value} {base : Heap}
theorem ok_done_and_told {f : Addr} {fd : FuncData} (F : Fun K "done_and_told" "done_and_told" s_done_and_told f fd) (T : Txt K mg) (C_only_told : CanX P w K mg base 5 "only_told" ps_only_told (sp_only_told K)) (C_Sheet_hand_in : CanMX P w K mg base 2 (clsA K "Sheet") "hand_in" ps_Sheet_hand_in (sp_Sheet_hand_in K)) (C_Sheet_strike : CanMX P w K mg base 2 (clsA K "Sheet") "strike" ps_Sheet_strike (sp_Sheet_strike K)) (C_Sheet_seal : CanMX P w K mg base 2 (clsA K "Sheet") "seal" ["self"] (sp_Sheet_seal K)) : FnOk P w K mg base (CX1 P w) 6 f fd ps_done_and_told (sp_done_and_told K) := by
  refine F.okX sc_done_and_told (fun vs H Q E h => ?_) (fun X W cdv A outer s H vs Q E hX hW fl md hr h => ?_)
  · obtain ⟨p, F, S, f, j, a, ns, rfl, _⟩ := h
    rfl
  · obtain ⟨p, F, S, f, j, a, ns, rfl, hS, hc, hcp, hA, hz, hf, hd, qE, q⟩ := h
    subst hX
    refine ⟨_, (pss_cons (ps_if (pt_cmpR op_eq (pv 1) pe_str (nomark _)) (pss_cons (ps_expr (pe_ownMX C_Sheet_hand_in T.cl_Sheet fl (hr.mono (by decide)) (pv 0) (pa_cons (pv 2) (pa_cons (pv 3) pa_nil))))
      (pss_one (ps_ret pe_str))) pss_nil)
      (pss_cons (ps_if (pt_cmpR op_eq (pv 1) pe_str (nomark _)) (pss_cons (ps_expr (pe_ownMX C_Sheet_strike T.cl_Sheet fl (hr.mono (by decide)) (pv 0) (pa_cons (pe_ix ix_list (pv 3) pe_int (fun _ _ => rfl)) pa_nil)))
      (pss_one (ps_ret pe_str))) pss_nil)
      (pss_cons (ps_if (pt_cmpR op_eq (pv 1) pe_str (nomark _)) (pss_cons (ps_expr (pe_ownMX0 C_Sheet_seal T.cl_Sheet fl (hr.mono (by decide)) (pv 0)))
      (pss_one (ps_ret pe_str))) pss_nil)
      (pss_one (ps_ret (pe_ownX C_only_told fl (hr.mono (by decide)) rfl (pa_cons (pv 0) (pa_cons (pv 1) (pa_cons (pv 2) (pa_cons (pv 3) pa_nil)))))))))), ?_⟩
    obtain ⟨dx, b1, b2, b3, d, hip⟩ := hS.ins
    subst hW
    rcases M57.all_cases hf with rfl | rfl | rfl | hf
    · refine ⟨_, rfl, rfl, _, rfl, iteY (by decide) ?_⟩
      refine ⟨_, rfl, p, dx, _, rfl, hip, rfl, _, rfl, _, rfl, p, F, S, j, a, ns, rfl, hS, hA, hz, fun c hc C H' hC s' => qE c ?_ C H' hC s', fun hn H' F' h' d' => q _ H' F' (by decide +kernel) d'⟩
      rcases Sh.refuse_cases hc with rfl | rfl | rfl | rfl <;> decide
    · refine ⟨_, rfl, rfl, _, rfl, iteNo (by decide) ?_⟩
      refine ⟨_, rfl, rfl, _, rfl, iteY (by decide) ?_⟩
      obtain ⟨n, rfl⟩ : ∃ n, ns = [n] := List.length_eq_one_iff.mp (by
        rcases hd with z | z
        · exact absurd z (by decide)
        · have : (ns.length : Int) = 1 := z
          omega)
      refine ⟨_, rfl, p, dx, _, rfl, hip, rfl, _, rfl, a, _, _, _, rfl, rfl, hA, rfl, p, F, S, n, rfl, hS, fun c hc C hC => qE c ?_ C H hC (Same.refl _), fun hn H' F' h' d' => q _ H' F' (by decide +kernel) d'⟩
      rcases Sh.refuseS_cases hc with rfl | rfl | rfl <;> decide
    · refine ⟨_, rfl, rfl, _, rfl, iteNo (by decide) ?_⟩
      refine ⟨_, rfl, rfl, _, rfl, iteNo (by decide) ?_⟩
      refine ⟨_, rfl, rfl, _, rfl, iteY (by decide) ?_⟩
      exact ⟨_, rfl, p, dx, _, rfl, hip, rfl, p, F, S, rfl, hS, fun hs C hC => qE _ (by decide) C H hC (Same.refl _), fun hs H' h' d' => q _ H' F (by decide +kernel) d'⟩
    · have h3 : f ≠ Str.ofString "card" ∧ f ≠ Str.ofString "strike" ∧ f ≠ Str.ofString "seal" := by
        have go : ∀ w ∈ M57.TOLD, w ≠ Str.ofString "card" ∧ w ≠ Str.ofString "strike" ∧ w ≠ Str.ofString "seal" := by decide +kernel
        exact go f hf
      have no : ∀ {u : Str}, f ≠ u → decide (V.str f = V.str u) = false := fun h => decide_eq_false fun z => h (by injection z)
      refine ⟨_, rfl, rfl, _, rfl, iteNo (no h3.1) ?_⟩
      refine ⟨_, rfl, rfl, _, rfl, iteNo (no h3.2.1) ?_⟩
      refine ⟨_, rfl, rfl, _, rfl, iteNo (no h3.2.2) ?_⟩
      refine ⟨_, rfl, _, rfl, _, rfl, _, rfl, p, F, S, f, j, a, ns, rfl, hS, hc, hcp, hA, hf, hd.resolve_left h3.1, fun c hc C H' hC s' => qE c ?_ C H' hC s', fun x H' hx s' => q x H' F hx (Deed.same s')⟩
      have go : ∀ c ∈ M57.CLT, c ∈ M57.CLS := by decide +kernel
      exact go c hc
end
end Pp

namespace Pp
open PySem L2
inductive sp_law_found (K : PySem.W.Frag) (vs : List V) (H : Hp) (Q : VK) (E : XK) : Prop
  | mk (z : Str) : vs = [.str z] → z.length ≤ 900 → ((M57.said z = none → ∀ l H', Same H H' → H l = none → H' l = some (.lst [.bl true, .bl false, .bl false, .bl false, .bl false]) → Q (.ref l) H')) → (∀ f j ns, M57.said z = some (f, j, ns) → ∀ (t l : Addr) (H' : Hp), Same H H' → H t = none → H l = none → H' t = some (.tup [.str f, .str j, .ref l]) → H' l = some (.lst (ns.map V.int)) → Q (.ref t) H') → sp_law_found K vs H Q E
section
variable {P : Program} {w : World} {K : PySem.W.Frag} {mg : Str → Option Value} {base : Heap}
theorem ok_law_found {f : Addr} {fd : FuncData} (F : Fun K "_law_found" "_law_found" s_law_found f fd) (T : Txt K mg) (C_read_row : CanX P w K mg base 5 "read_row" ["row"] (sp_read_row K)) : FnOk P w K mg base CX0 6 f fd ["_law_row"] (sp_law_found K) := by
  obtain ⟨c_PanelError, n_PanelError, m_PanelError, x_PanelError⟩ := T.x_PanelError
  obtain ⟨c_SheetSealed, n_SheetSealed, m_SheetSealed, x_SheetSealed⟩ := T.x_SheetSealed
  obtain ⟨c_UnknownJudge, n_UnknownJudge, m_UnknownJudge, x_UnknownJudge⟩ := T.x_UnknownJudge
  obtain ⟨c_BadCard, n_BadCard, m_BadCard, x_BadCard⟩ := T.x_BadCard
  obtain ⟨c_UnknownCouple, n_UnknownCouple, m_UnknownCouple, x_UnknownCouple⟩ := T.x_UnknownCouple
  obtain ⟨c_BadRow, n_BadRow, m_BadRow, x_BadRow⟩ := T.x_BadRow
  refine F.ok sc_law_found (fun vs H Q E h => ?_) (fun cdv A outer s H vs Q E hr h => ?_)
  · obtain ⟨z, rfl, _⟩ := h
    rfl
  · obtain ⟨z, rfl, hz, qN, q⟩ := h
    refine ⟨_, (pss_cons (ps_set (i := 1) sc_law_found.nd rfl (Or.inl rfl) pe_non)
      (pss_cons (ps_try rfl rfl (fun _ _ _ fl => (pss_one (ps_ret (pe_ownX C_read_row fl (hr.mono (by decide)) rfl (pa_cons (pv 0) pa_nil))))) (ph_as (i := 2) rfl m_PanelError x_PanelError sc_law_found.nd rfl rfl (fun _ => (pss_cons (ps_set (i := 1) sc_law_found.nd rfl (Or.inl rfl) (pe_lst (pa_cons (pe_callB (call_isi_excBK (K := K) rfl) (by rfl) T.b_isinstance PyProof.Rows.boot_isinstance (pa_cons (pv 2) (pa_cons (pe_cls rfl m_BadRow) pa_nil))) (pa_cons (pe_callB (call_isi_excBK (K := K) rfl) (by rfl) T.b_isinstance PyProof.Rows.boot_isinstance (pa_cons (pv 2) (pa_cons (pe_cls rfl m_SheetSealed) pa_nil))) (pa_cons (pe_callB (call_isi_excBK (K := K) rfl) (by rfl) T.b_isinstance PyProof.Rows.boot_isinstance (pa_cons (pv 2) (pa_cons (pe_cls rfl m_UnknownJudge) pa_nil))) pa_nil)))))
      (pss_one (ps_set (i := 1) sc_law_found.nd rfl (Or.inl rfl) (pe_op op_cat (pv 1) (pe_lst (pa_cons (pe_callB (call_isi_excBK (K := K) rfl) (by rfl) T.b_isinstance PyProof.Rows.boot_isinstance (pa_cons (pv 2) (pa_cons (pe_cls rfl m_UnknownCouple) pa_nil))) (pa_cons (pe_callB (call_isi_excBK (K := K) rfl) (by rfl) T.b_isinstance PyProof.Rows.boot_isinstance (pa_cons (pv 2) (pa_cons (pe_cls rfl m_BadCard) pa_nil))) pa_nil)))))))) ph_never))
      (pss_one (ps_ret (pv 1))))), ?_⟩
    refine ⟨fun σ1 cls H2 => σ1 = [some (.str z), some .non, none] ∧ Same H H2 ∧ ∃ C, ClsN K "BadRow" C ∧ cls = .ref C ∧ M57.said z = none, ?_, ?_⟩
    · exact ⟨_, rfl, z, rfl, hz, fun hn C H' hC s' => ⟨rfl, s', C, hC, rfl, hn⟩, q⟩
    · rintro σ1 cls H2 ⟨rfl, s2, C, hC, rfl, hn⟩
      cases ClsN.inj hC n_BadRow
      have i0 := T.i_BadRow _ n_BadRow
      refine ⟨c_BadRow, rfl, x_BadRow, iteY (T.s_BadRow_PanelError _ _ n_BadRow n_PanelError) fun y hy => ?_⟩
      have s3 := s2.newT (o := excO y (.ref c_BadRow)) hy
      have e3 : upd H2 y (excO y (.ref c_BadRow)) y = some (excO y (.ref c_BadRow)) := upd_same
      generalize hH3 : upd H2 y _ = H3 at s3 e3 ⊢
      refine ⟨_, rfl, y, c_BadRow, _, _, _, rfl, rfl, e3, i0, T.k_BadRow_BadRow _ _ n_BadRow n_BadRow, _, rfl, y, c_BadRow, _, _, _, rfl, rfl, e3, i0, T.k_BadRow_SheetSealed _ _ n_BadRow n_SheetSealed, _, rfl, y, c_BadRow, _, _, _, rfl, rfl, e3, i0, T.k_BadRow_UnknownJudge _ _ n_BadRow n_UnknownJudge, (by show 3 ≤ sizeLine; decide), fun l hl => ?_⟩
      have s4 := s3.newT (o := .lst [.bl true, .bl false, .bl false]) hl
      have e4 : upd H3 l (.lst [.bl true, .bl false, .bl false]) l = some (.lst [.bl true, .bl false, .bl false]) := upd_same
      have e34 := (Same.new (o := .lst [.bl true, .bl false, .bl false]) hl) _ _ e3
      generalize hH4 : upd H3 l _ = H4 at s4 e4 e34 ⊢
      refine ⟨_, rfl, _, rfl, y, c_BadRow, _, _, _, rfl, rfl, e34, i0, T.k_BadRow_UnknownCouple _ _ n_BadRow n_UnknownCouple, _, rfl, y, c_BadRow, _, _, _, rfl, rfl, e34, i0, T.k_BadRow_BadCard _ _ n_BadRow n_BadCard, (by show 2 ≤ sizeLine; decide), fun l2 hl2 => ?_⟩
      refine ⟨l, l2, _, _, rfl, rfl, (Same.new hl2) _ _ e4, upd_same, (by show 5 ≤ sizeLine; decide), fun l3 hl3 => ?_⟩
      exact ⟨_, rfl, qN hn l3 _ ((s4.newT hl2).newT hl3) ((s4.newT hl2).free hl3) upd_same⟩
end
end Pp

namespace Pp
open PySem L2
inductive sp_answer (K : PySem.W.Frag) (vs : List V) (H : Hp) (Q : VK) (E : XK) : Prop
  | mk (p : Addr) (F : Addr → Prop) (S : Sh) (z : Str) : vs = [.ref p, .str z] → SheetAt K H p F S → ((∀ j, S.card j = none)) → S.couples = [7, 12, 999] → z.length ≤ 60 → (∀ x H' F', (x = M57.RW ↔ M57.said z = none) → Deed F H F' H' → Q (.str x) H') → sp_answer K vs H Q E
section
variable {P : Program} {w : World} {K : PySem.W.Frag} {mg : Str → Option Value} {base : Heap}
theorem ok_answer {f : Addr} {fd : FuncData} (F : Fun K "answer" "answer" s_answer f fd) (T : Txt K mg) (C_read_row : CanX P w K mg base 5 "read_row" ["row"] (sp_read_row K)) (C_done_and_told : CanX P w K mg base 6 "done_and_told" ps_done_and_told (sp_done_and_told K)) : FnOk P w K mg base CX0 7 f fd ps_answer (sp_answer K) := by
  obtain ⟨c_SheetSealed, n_SheetSealed, m_SheetSealed, x_SheetSealed⟩ := T.x_SheetSealed
  obtain ⟨c_UnknownJudge, n_UnknownJudge, m_UnknownJudge, x_UnknownJudge⟩ := T.x_UnknownJudge
  obtain ⟨c_BadCard, n_BadCard, m_BadCard, x_BadCard⟩ := T.x_BadCard
  obtain ⟨c_TooManyCards, n_TooManyCards, m_TooManyCards, x_TooManyCards⟩ := T.x_TooManyCards
  obtain ⟨c_UnknownCouple, n_UnknownCouple, m_UnknownCouple, x_UnknownCouple⟩ := T.x_UnknownCouple
  obtain ⟨c_LastCouple, n_LastCouple, m_LastCouple, x_LastCouple⟩ := T.x_LastCouple
  obtain ⟨c_NoCard, n_NoCard, m_NoCard, x_NoCard⟩ := T.x_NoCard
  obtain ⟨c_TooFewCards, n_TooFewCards, m_TooFewCards, x_TooFewCards⟩ := T.x_TooFewCards
  obtain ⟨c_BadRow, n_BadRow, m_BadRow, x_BadRow⟩ := T.x_BadRow
  refine F.ok sc_answer (fun vs H Q E h => ?_) (fun cdv A outer s H vs Q E hr h => ?_)
  · obtain ⟨p, F, S, z, rfl, _⟩ := h
    rfl
  · obtain ⟨p, F, S, z, rfl, hS, hc, hcp, hz, q⟩ := h
    refine ⟨_, (pss_one (ps_try rfl rfl (fun _ _ _ fl => (pss_cons (ps_set (i := 2) sc_answer.nd rfl (Or.inl rfl) (pe_ownX C_read_row fl (hr.mono (by decide)) rfl (pa_cons (pv 1) pa_nil)))
      (pss_one (ps_ret (pe_ownX C_done_and_told fl (hr.mono (by decide)) rfl (pa_cons (pv 0) (pa_cons (pe_ix (ix_tupK (K := K) rfl) (pv 2) pe_int (fun _ _ => rfl)) (pa_cons (pe_ix (ix_tupK (K := K) rfl) (pv 2) pe_int (fun _ _ => rfl)) (pa_cons (pe_ix (ix_tupK (K := K) rfl) (pv 2) pe_int (fun _ _ => rfl)) pa_nil))))))))) (ph_no rfl m_BadRow x_BadRow (fun _ => (pss_one (ps_ret pe_str))) (ph_no rfl m_SheetSealed x_SheetSealed (fun _ => (pss_one (ps_ret pe_str))) (ph_no rfl m_UnknownJudge x_UnknownJudge (fun _ => (pss_one (ps_ret pe_str))) (ph_no rfl m_BadCard x_BadCard (fun _ => (pss_one (ps_ret pe_str))) (ph_no rfl m_TooManyCards x_TooManyCards (fun _ => (pss_one (ps_ret pe_str))) (ph_no rfl m_UnknownCouple x_UnknownCouple (fun _ => (pss_one (ps_ret pe_str))) (ph_no rfl m_LastCouple x_LastCouple (fun _ => (pss_one (ps_ret pe_str))) (ph_no rfl m_NoCard x_NoCard (fun _ => (pss_one (ps_ret pe_str))) (ph_no rfl m_TooFewCards x_TooFewCards (fun _ => (pss_one (ps_ret pe_str))) ph_never))))))))))), ?_⟩
    refine ⟨fun σ1 cls H2 => ∃ c C, ClsN K c C ∧ cls = .ref C ∧ Same H H2 ∧ ((c = ("BadRow" : Str) ∧ M57.said z = none) ∨ (c ∈ M57.CLS ∧ M57.said z ≠ none)), ?_, ?_⟩
    · refine ⟨_, rfl, z, rfl, by omega, fun hn C H' hC s' => ⟨_, C, hC, rfl, s', .inl ⟨rfl, hn⟩⟩, fun f j ns hsd t l H1 s1 f1 f2 e1 e2 => ?_⟩
      have q1 : SqT K H1 t [.str f, .str j, .ref l] := .inl (.inl e1)
      obtain ⟨k1, k2, k3⟩ := M57.said_spec hsd
      have hne : M57.said z ≠ none := by rw [hsd]; exact fun w => by cases w
      refine ⟨_, rfl, _, rfl, t, _, _, _, rfl, rfl, q1, rfl, _, rfl, t, _, _, _, rfl, rfl, q1, rfl, _, rfl, t, _, _, _, rfl, rfl, q1, rfl, p, F, S, f, j, l, ns, rfl, hS.same s1, hc, hcp, SqL.of e2, by omega, k1, k2, fun c hc C H' hC s' => ⟨c, C, hC, rfl, s1.trans s', .inr ⟨hc, hne⟩⟩, fun x H' F' hx d' => q x H' F' ⟨fun w => absurd w hx, fun w => absurd w hne⟩ fun b o e n => d' b o (s1 _ _ e) n⟩
    · rintro σ1 cls H2 ⟨c, C, hC, rfl, s2, hcl⟩
      have yes : M57.said z = none → Q (.str M57.RW) H2 := fun w => q _ H2 F ⟨fun _ => w, fun _ => rfl⟩ (Deed.same s2)
      have no : M57.said z ≠ none → ∀ x, x ≠ M57.RW → Q (.str x) H2 := fun w x hx => q x H2 F ⟨fun v => absurd v hx, fun v => absurd v w⟩ (Deed.same s2)
      rcases hcl with ⟨rfl, hn⟩ | ⟨hc, hn⟩
      · cases ClsN.inj hC n_BadRow
        refine ⟨_, rfl, x_BadRow, iteY (T.s_BadRow_BadRow _ _ n_BadRow n_BadRow) ?_⟩
        exact yes hn
      have no := no hn
      unfold M57.CLS at hc
      simp only [List.mem_cons, List.not_mem_nil, or_false] at hc
      rcases hc with rfl | rfl | rfl | rfl | rfl | rfl | rfl | rfl
      · cases ClsN.inj hC n_SheetSealed
        refine ⟨_, rfl, x_SheetSealed, iteNo (T.s_SheetSealed_BadRow _ _ n_SheetSealed n_BadRow) ?_⟩
        refine ⟨_, rfl, x_SheetSealed, iteY (T.s_SheetSealed_SheetSealed _ _ n_SheetSealed n_SheetSealed) ?_⟩
        exact no _ (by decide +kernel)
      · cases ClsN.inj hC n_UnknownJudge
        refine ⟨_, rfl, x_UnknownJudge, iteNo (T.s_UnknownJudge_BadRow _ _ n_UnknownJudge n_BadRow) ?_⟩
        refine ⟨_, rfl, x_UnknownJudge, iteNo (T.s_UnknownJudge_SheetSealed _ _ n_UnknownJudge n_SheetSealed) ?_⟩
        refine ⟨_, rfl, x_UnknownJudge, iteY (T.s_UnknownJudge_UnknownJudge _ _ n_UnknownJudge n_UnknownJudge) ?_⟩
        exact no _ (by decide +kernel)
      · cases ClsN.inj hC n_BadCard
        refine ⟨_, rfl, x_BadCard, iteNo (T.s_BadCard_BadRow _ _ n_BadCard n_BadRow) ?_⟩
        refine ⟨_, rfl, x_BadCard, iteNo (T.s_BadCard_SheetSealed _ _ n_BadCard n_SheetSealed) ?_⟩
        refine ⟨_, rfl, x_BadCard, iteNo (T.s_BadCard_UnknownJudge _ _ n_BadCard n_UnknownJudge) ?_⟩
        refine ⟨_, rfl, x_BadCard, iteY (T.s_BadCard_BadCard _ _ n_BadCard n_BadCard) ?_⟩
        exact no _ (by decide +kernel)
      · cases ClsN.inj hC n_TooManyCards
        refine ⟨_, rfl, x_TooManyCards, iteNo (T.s_TooManyCards_BadRow _ _ n_TooManyCards n_BadRow) ?_⟩
        refine ⟨_, rfl, x_TooManyCards, iteNo (T.s_TooManyCards_SheetSealed _ _ n_TooManyCards n_SheetSealed) ?_⟩
        refine ⟨_, rfl, x_TooManyCards, iteNo (T.s_TooManyCards_UnknownJudge _ _ n_TooManyCards n_UnknownJudge) ?_⟩
        refine ⟨_, rfl, x_TooManyCards, iteNo (T.s_TooManyCards_BadCard _ _ n_TooManyCards n_BadCard) ?_⟩
        refine ⟨_, rfl, x_TooManyCards, iteY (T.s_TooManyCards_TooManyCards _ _ n_TooManyCards n_TooManyCards) ?_⟩
        exact no _ (by decide +kernel)
      · cases ClsN.inj hC n_UnknownCouple
        refine ⟨_, rfl, x_UnknownCouple, iteNo (T.s_UnknownCouple_BadRow _ _ n_UnknownCouple n_BadRow) ?_⟩
        refine ⟨_, rfl, x_UnknownCouple, iteNo (T.s_UnknownCouple_SheetSealed _ _ n_UnknownCouple n_SheetSealed) ?_⟩
        refine ⟨_, rfl, x_UnknownCouple, iteNo (T.s_UnknownCouple_UnknownJudge _ _ n_UnknownCouple n_UnknownJudge) ?_⟩
        refine ⟨_, rfl, x_UnknownCouple, iteNo (T.s_UnknownCouple_BadCard _ _ n_UnknownCouple n_BadCard) ?_⟩
        refine ⟨_, rfl, x_UnknownCouple, iteNo (T.s_UnknownCouple_TooManyCards _ _ n_UnknownCouple n_TooManyCards) ?_⟩
        refine ⟨_, rfl, x_UnknownCouple, iteY (T.s_UnknownCouple_UnknownCouple _ _ n_UnknownCouple n_UnknownCouple) ?_⟩
        exact no _ (by decide +kernel)
      · cases ClsN.inj hC n_LastCouple
        refine ⟨_, rfl, x_LastCouple, iteNo (T.s_LastCouple_BadRow _ _ n_LastCouple n_BadRow) ?_⟩
        refine ⟨_, rfl, x_LastCouple, iteNo (T.s_LastCouple_SheetSealed _ _ n_LastCouple n_SheetSealed) ?_⟩
        refine ⟨_, rfl, x_LastCouple, iteNo (T.s_LastCouple_UnknownJudge _ _ n_LastCouple n_UnknownJudge) ?_⟩
        refine ⟨_, rfl, x_LastCouple, iteNo (T.s_LastCouple_BadCard _ _ n_LastCouple n_BadCard) ?_⟩
        refine ⟨_, rfl, x_LastCouple, iteNo (T.s_LastCouple_TooManyCards _ _ n_LastCouple n_TooManyCards) ?_⟩
        refine ⟨_, rfl, x_LastCouple, iteNo (T.s_LastCouple_UnknownCouple _ _ n_LastCouple n_UnknownCouple) ?_⟩
        refine ⟨_, rfl, x_LastCouple, iteY (T.s_LastCouple_LastCouple _ _ n_LastCouple n_LastCouple) ?_⟩
        exact no _ (by decide +kernel)
      · cases ClsN.inj hC n_NoCard
        refine ⟨_, rfl, x_NoCard, iteNo (T.s_NoCard_BadRow _ _ n_NoCard n_BadRow) ?_⟩
        refine ⟨_, rfl, x_NoCard, iteNo (T.s_NoCard_SheetSealed _ _ n_NoCard n_SheetSealed) ?_⟩
        refine ⟨_, rfl, x_NoCard, iteNo (T.s_NoCard_UnknownJudge _ _ n_NoCard n_UnknownJudge) ?_⟩
        refine ⟨_, rfl, x_NoCard, iteNo (T.s_NoCard_BadCard _ _ n_NoCard n_BadCard) ?_⟩
        refine ⟨_, rfl, x_NoCard, iteNo (T.s_NoCard_TooManyCards _ _ n_NoCard n_TooManyCards) ?_⟩
        refine ⟨_, rfl, x_NoCard, iteNo (T.s_NoCard_UnknownCouple _ _ n_NoCard n_UnknownCouple) ?_⟩
        refine ⟨_, rfl, x_NoCard, iteNo (T.s_NoCard_LastCouple _ _ n_NoCard n_LastCouple) ?_⟩
        refine ⟨_, rfl, x_NoCard, iteY (T.s_NoCard_NoCard _ _ n_NoCard n_NoCard) ?_⟩
        exact no _ (by decide +kernel)
      · cases ClsN.inj hC n_TooFewCards
        refine ⟨_, rfl, x_TooFewCards, iteNo (T.s_TooFewCards_BadRow _ _ n_TooFewCards n_BadRow) ?_⟩
        refine ⟨_, rfl, x_TooFewCards, iteNo (T.s_TooFewCards_SheetSealed _ _ n_TooFewCards n_SheetSealed) ?_⟩
        refine ⟨_, rfl, x_TooFewCards, iteNo (T.s_TooFewCards_UnknownJudge _ _ n_TooFewCards n_UnknownJudge) ?_⟩
        refine ⟨_, rfl, x_TooFewCards, iteNo (T.s_TooFewCards_BadCard _ _ n_TooFewCards n_BadCard) ?_⟩
        refine ⟨_, rfl, x_TooFewCards, iteNo (T.s_TooFewCards_TooManyCards _ _ n_TooFewCards n_TooManyCards) ?_⟩
        refine ⟨_, rfl, x_TooFewCards, iteNo (T.s_TooFewCards_UnknownCouple _ _ n_TooFewCards n_UnknownCouple) ?_⟩
        refine ⟨_, rfl, x_TooFewCards, iteNo (T.s_TooFewCards_LastCouple _ _ n_TooFewCards n_LastCouple) ?_⟩
        refine ⟨_, rfl, x_TooFewCards, iteNo (T.s_TooFewCards_NoCard _ _ n_TooFewCards n_NoCard) ?_⟩
        refine ⟨_, rfl, x_TooFewCards, iteY (T.s_TooFewCards_TooFewCards _ _ n_TooFewCards n_TooFewCards) ?_⟩
        exact no _ (by decide +kernel)
end
end Pp

namespace Pp
open PySem L2
noncomputable def RDn (H : Hp) (z : Str) (Fv : V) : Prop := M57.said z = none ∧ ∃ l, Fv = .ref l ∧ H l = some (.lst [.bl true, .bl false, .bl false, .bl false, .bl false])
noncomputable def RDd (H : Hp) (z : Str) (D : V) : Prop := (M57.said z = none ∧ D = .non) ∨ ∃ f j ns t l, M57.said z = some (f, j, ns) ∧ D = .ref t ∧ H t = some (.tup [.str f, .str j, .ref l]) ∧ H l = some (.lst (ns.map V.int))
noncomputable def RDf (H : Hp) (z : Str) (Fv : V) : Prop := RDn H z Fv ∨ ∃ f j ns t l, M57.said z = some (f, j, ns) ∧ Fv = .ref t ∧ H t = some (.tup [.str f, .str j, .ref l]) ∧ H l = some (.lst (ns.map V.int))
theorem RDd.keep {H H' : Hp} {z : Str} {D : V} (h : RDd H z D) (k : ∀ b o, H b = some o → H' b = some o) : RDd H' z D := by
  rcases h with h | ⟨f, j, ns, t, l, a, b, c, d⟩
  · exact .inl h
  · exact .inr ⟨f, j, ns, t, l, a, b, k _ _ c, k _ _ d⟩
theorem RDf.keep {H H' : Hp} {z : Str} {D : V} (h : RDf H z D) (k : ∀ b o, H b = some o → H' b = some o) : RDf H' z D := by
  rcases h with ⟨a, l, b, c⟩ | ⟨f, j, ns, t, l, a, b, c, d⟩
  · exact .inl ⟨a, l, b, k _ _ c⟩
  · exact .inr ⟨f, j, ns, t, l, a, b, k _ _ c, k _ _ d⟩
theorem RDd.non {H : Hp} {z : Str} {D : V} (h : RDd H z D) : decide (D = V.non) = decide (M57.said z = none) := by
  rcases h with ⟨a, b⟩ | ⟨f, j, ns, t, l, a, b, _⟩
  · rw [decide_eq_true a, decide_eq_true b]
  · rw [a, b]; rfl
theorem g3 : M1.goodC [7, 12, 999] = true := by decide +kernel
theorem gA : M2.goodJ [Str.ofString "ann"] = true := by decide +kernel
noncomputable def S0 : Sh := Sh.new [7, 12, 999] [Str.ofString "ann"]
inductive sp_law_right (K : PySem.W.Frag) (vs : List V) (H : Hp) (Q : VK) (E : XK) : Prop
  | mk (z : Str) : vs = [.str z] → z.length ≤ 60 → (∀ (H' : Hp), (∀ b o, H b = some o → H' b = some o) → Q (.bl true) H') → sp_law_right K vs H Q E
section
variable {P : Program} {w : World} {K : PySem.W.Frag} {mg : Str → Option Value} {base : Heap}
theorem ok_law_right {f : Addr} {fd : FuncData} (F : Fun K "_law_right" "_law_right" s_law_right f fd) (T : Txt K mg) (C_answer : Can P w K mg base 7 "answer" ps_answer (sp_answer K)) (C_law_same : Can P w K mg base 2 "_law_same" ps_law_same (sp_law_same K)) (C_law_read : Can P w K mg base 2 "_law_read" ["_law_row"] (sp_law_read K)) (C_law_found : Can P w K mg base 6 "_law_found" ["_law_row"] (sp_law_found K)) (C_Sheet_init : CanK P w K mg base 4 "Sheet" (clsA K "Sheet") ps_Sheet_init (sp_Sheet_init K)) (C_Sheet_seal : CanMX P w K mg base 2 (clsA K "Sheet") "seal" ["self"] (sp_Sheet_seal K)) : FnOk P w K mg base CX0 8 f fd ["_law_row"] (sp_law_right K) := by
  refine F.ok sc_law_right (fun vs H Q E h => ?_) (fun cdv A outer s H vs Q E hr h => ?_)
  · obtain ⟨z, rfl, _⟩ := h
    rfl
  · obtain ⟨z, rfl, hz, q⟩ := h
    refine ⟨_, (pss_cons (ps_mid (ps_set (i := 1) sc_law_right.nd rfl (Or.inl rfl) (pe_own C_law_read (hr.mono (by decide)) rfl (pa_cons (pv 0) pa_nil))))
      (pss_cons (ps_mid (ps_set (i := 2) sc_law_right.nd rfl (Or.inl rfl) (pe_own C_law_found (hr.mono (by decide)) rfl (pa_cons (pv 0) pa_nil))))
      (pss_cons (ps_set (i := 3) sc_law_right.nd rfl (Or.inl rfl) (pe_makeX C_Sheet_init fl_no (hr.mono (by decide)) rfl (pa_cons (pe_lst (pa_cons pe_int (pa_cons pe_int (pa_cons pe_int pa_nil)))) (pa_cons (pe_lst (pa_cons pe_str pa_nil)) pa_nil))))
      (pss_cons (ps_expr (pe_ownMX0 C_Sheet_seal T.cl_Sheet fl_no (hr.mono (by decide)) (pv 3)))
      (pss_cons (ps_set (i := 4) sc_law_right.nd rfl (Or.inl rfl) (pe_lst (pa_cons (pe_own C_answer (hr.mono (by decide)) rfl (pa_cons (pe_makeX C_Sheet_init fl_no (hr.mono (by decide)) rfl (pa_cons (pe_lst (pa_cons pe_int (pa_cons pe_int (pa_cons pe_int pa_nil)))) (pa_cons (pe_lst (pa_cons pe_str pa_nil)) pa_nil))) (pa_cons (pv 0) pa_nil))) (pa_cons (pe_own C_answer (hr.mono (by decide)) rfl (pa_cons (pv 3) (pa_cons (pv 0) pa_nil))) pa_nil))))
      (pss_cons (ps_for PassesOwn.never rfl (pi_list (pv 4)) (pg_name (i := 5) sc_law_right.nd rfl (Or.inl rfl))
        (pss_one (ps_if (PW.pt (pw_or (pt_not (pt_val (pe_callB call_isi_str (by rfl) T.b_isinstance PyProof.Rows.boot_isinstance (pa_cons (pv 5) (pa_cons (pe_bltn (v := V.ty "str") rfl T.b_str PyProof.Rows.boot_str rfl) pa_nil))))) (pw_or1 (pt_cmpR op_ne (pe_cmpR op_eq (pv 5) pe_str (nomark _)) (pe_cmpR op_isN (pv 1) pe_non (nomark _)) (nomark _))))) (pss_one (ps_ret pe_bl)) pss_nil)))
      (pss_cons (ps_if (pt_cmpR op_isN (pv 1) pe_non (nomark _)) (pss_one (ps_ret (pe_cmpR (op_eq_list hr.units0) (pv 2) (pe_lst (pa_cons pe_bl (pa_cons pe_bl (pa_cons pe_bl (pa_cons pe_bl (pa_cons pe_bl pa_nil)))))) (nomark _)))) pss_nil)
      (pss_cons (ps_if (PW.pt (pw_or (pt_not (pt_val (pe_callB call_isi_tuple (by rfl) T.b_isinstance PyProof.Rows.boot_isinstance (pa_cons (pv 2) (pa_cons (pe_bltn (v := V.ty "tuple") rfl T.b_tuple PyProof.Rows.boot_tuple rfl) pa_nil))))) (pw_or (pt_cmpR op_ne (pLen T.b_len (pv 2)) pe_int (nomark _)) (pw_or1 (pt_not (pt_val (pe_own C_law_same (hr.mono (by decide)) rfl (pa_cons (pe_ix ix_tup (pv 2) pe_int (fun _ _ => rfl)) (pa_cons (pe_ix ix_tup (pv 1) pe_int (fun _ _ => rfl)) pa_nil))))))))) (pss_one (ps_ret pe_bl)) pss_nil)
      (pss_one (ps_ret (pe_and (pe_callB call_isi_str (by rfl) T.b_isinstance PyProof.Rows.boot_isinstance (pa_cons (pe_ix ix_tup (pv 2) pe_int (fun _ _ => rfl)) (pa_cons (pe_bltn (v := V.ty "str") rfl T.b_str PyProof.Rows.boot_str rfl) pa_nil))) (pe_and (pe_callB call_isi_str (by rfl) T.b_isinstance PyProof.Rows.boot_isinstance (pa_cons (pe_ix ix_tup (pv 2) pe_int (fun _ _ => rfl)) (pa_cons (pe_bltn (v := V.ty "str") rfl T.b_str PyProof.Rows.boot_str rfl) pa_nil))) (pe_one (pe_cmpR (op_eq_tup hr.units0) (pe_slice sl_tup (pv 2) po_none (po_some pe_int)) (pe_slice sl_tup (pv 1) po_none (po_some pe_int)) (nomark _))))))))))))))), ?_⟩
    refine ⟨fun σ' H' => ∃ D, σ' = [some (.str z), some D, none, none, none, none] ∧ Same H H' ∧ RDd H' z D, ?_, ?_⟩
    · exact ⟨_, rfl, z, rfl, by omega, fun hn H1 s1 => ⟨_, rfl, s1, .inl ⟨hn, rfl⟩⟩, fun f j ns hs t l H1 s1 _ _ _ e1 e2 => ⟨_, rfl, s1, .inr ⟨f, j, ns, t, l, hs, rfl, e1, e2⟩⟩⟩
    rintro σ1 H1 ⟨D, rfl, s1, rd⟩
    refine ⟨fun σ' H' => ∃ Fv, σ' = [some (.str z), some D, some Fv, none, none, none] ∧ Same H1 H' ∧ RDf H' z Fv, ?_, ?_⟩
    · exact ⟨_, rfl, z, rfl, by omega, fun hn l H2 s2 _ e1 => ⟨_, rfl, s2, .inl ⟨hn, l, rfl, e1⟩⟩, fun f j ns hs t l H2 s2 _ _ e1 e2 => ⟨_, rfl, s2, .inr ⟨f, j, ns, t, l, hs, rfl, e1, e2⟩⟩⟩
    rintro σ2 H2 ⟨Fv, rfl, s2, rf⟩
    have rd := rd.keep (fun b o e => s2 b o e)
    have t2 := s1.trans s2
    refine ⟨(by decide), fun l3 hl3 => ?_⟩
    have s3 := Same.new (o := .lst (([7, 12, 999] : List Int).map V.int)) hl3
    refine ⟨(by decide), fun l4 hl4 => ?_⟩
    have s4 := Same.new (o := .lst ([Str.ofString "ann"].map V.str)) hl4
    intro x dx hx hdx hxd
    have s5 := (Same.new (o := .own x) hdx).newT (o := .ins (clsA K "Sheet") dx []) (l := x) (by rw [upd_ne (Ne.symm hxd)]; exact hx)
    refine ⟨x, dx, l3, l4, [7, 12, 999], [Str.ofString "ann"], rfl, upd_same, SqL.of (s5 _ _ (s4 _ _ upd_same)), (by decide), SqL.of (s5 _ _ upd_same), (by decide), (by decide +kernel), fun z => (by rw [g3] at z; cases z), fun _ z => (by rw [gA] at z; cases z), fun _ _ H5 F hSh hkeep => ⟨rfl, ?_⟩⟩
    have s25 := (s3.trans s4).trans s5
    have hx2 : H2 x = none := (s3.trans s4).free hx
    have k5 : ∀ b o, H2 b = some o → H5 b = some o ∧ ¬ F b := fun b o e => hkeep b o (s25 _ _ e) (ne_of_none e hx2)
    obtain ⟨dx', b1, b2, b3, d', hip⟩ := hSh.ins
    refine ⟨_, rfl, x, dx', _, rfl, hip, rfl, x, F, S0, rfl, hSh, fun w => (by cases w), fun _ H6 hS6 d6 => ?_⟩
    have k6 : ∀ b o, H2 b = some o → H6 b = some o ∧ ¬ F b := fun b o e => d6 b o (k5 b o e).1 (k5 b o e).2
    refine ⟨(by decide), fun l7 hl7 => ?_⟩
    have u3 := Same.new (o := .lst (([7, 12, 999] : List Int).map V.int)) hl7
    refine ⟨(by decide), fun l8 hl8 => ?_⟩
    have u4 := Same.new (o := .lst ([Str.ofString "ann"].map V.str)) hl8
    intro y dy hy hdy hyd
    have u5 := (Same.new (o := .own y) hdy).newT (o := .ins (clsA K "Sheet") dy []) (l := y) (by rw [upd_ne (Ne.symm hyd)]; exact hy)
    refine ⟨y, dy, l7, l8, [7, 12, 999], [Str.ofString "ann"], rfl, upd_same, SqL.of (u5 _ _ (u4 _ _ upd_same)), (by decide), SqL.of (u5 _ _ upd_same), (by decide), (by decide +kernel), fun z => (by rw [g3] at z; cases z), fun _ z => (by rw [gA] at z; cases z), fun _ _ H9 F2 hSh2 hkeep2 => ⟨rfl, ?_⟩⟩
    have u25 := (u3.trans u4).trans u5
    have hy2 : H6 y = none := (u3.trans u4).free hy
    have k9 : ∀ b o, H6 b = some o → H9 b = some o ∧ ¬ F2 b := fun b o e => hkeep2 b o (u25 _ _ e) (ne_of_none e hy2)
    refine ⟨_, rfl, y, F2, S0, z, rfl, hSh2, fun _ => rfl, rfl, hz, fun x1 H10 F10 hx1 d10 => ?_⟩
    have k10 : ∀ b o, H6 b = some o → H10 b = some o := fun b o e => (d10 b o (k9 b o e).1 (k9 b o e).2).1
    have hS10 : SheetAt K H10 x F S0.close := hS6.off fun b hb => by
      cases e : H6 b with
      | none => exact absurd e (hS6.fh b hb)
      | some o => exact k10 b o e
    refine ⟨_, rfl, _, rfl, x, F, S0.close, z, rfl, hS10, fun _ => rfl, rfl, hz, fun x2 H11 F11 hx2' d11 => ?_⟩
    have k11 : ∀ b o, H2 b = some o → H11 b = some o := fun b o e => (d11 b o (k10 b o (k6 b o e).1) (k6 b o e).2).1
    refine ⟨(by show 2 ≤ sizeLine; decide), fun l12 hl12 => ?_⟩
    have w12 := Same.new (o := .lst [.str x1, .str x2]) hl12
    have e12 : upd H11 l12 (.lst [.str x1, .str x2]) l12 = some (.lst [.str x1, .str x2]) := upd_same
    generalize hH12 : upd H11 l12 _ = H12 at w12 e12 ⊢
    have k12 : ∀ b o, H2 b = some o → H12 b = some o := fun b o e => w12 b o (k11 b o e)
    have rd := rd.keep k12
    have rf := rf.keep k12
    have hall : ∀ w ∈ [x1, x2], (decide (V.str w = V.str (Str.ofString "refused: row"))) = decide (D = .non) := fun w hw => by
      rw [rd.non]
      simp only [List.mem_cons, List.not_mem_nil, or_false] at hw
      rcases hw with rfl | rfl
      · exact decide_eq_decide.mpr ⟨fun v => hx1.mp (by injection v), fun v => by rw [hx1.mpr v]; rfl⟩
      · exact decide_eq_decide.mpr ⟨fun v => hx2'.mp (by injection v), fun v => by rw [hx2'.mpr v]; rfl⟩
    refine ⟨_, rfl, l12, rfl, ⟨_, SqL.of e12⟩, ?_⟩
    refine for_list (xs := [.str x1, .str x2]) (fun i σ H3 => ∃ v : Option V, σ = [some (.str z), some D, some Fv, some (.ref x), some (.ref l12), v] ∧ H3 = H12) ⟨_, rfl, rfl⟩ (fun i σ H3 _ h => ?_) ?_ ?_
    · obtain ⟨v, _, rfl⟩ := h
      exact SqL.of e12
    · rintro i v5 σ H3 hxi ⟨v, rfl, rfl⟩
      obtain ⟨w, hw, rfl⟩ : ∃ w ∈ [x1, x2], v5 = .str w := by
        have := List.mem_of_getElem? hxi
        simp only [List.mem_cons, List.not_mem_nil, or_false] at this
        rcases this with rfl | rfl
        · exact ⟨x1, by simp, rfl⟩
        · exact ⟨x2, by simp, rfl⟩
      refine ⟨_, rfl, _, _, rfl, rfl, _, rfl, iteF ?_⟩
      refine ⟨_, rfl, rfl, _, rfl, rfl, rfl, _, rfl, ?_⟩
      rw [hall w hw]
      exact iteNS rfl ⟨_, rfl, rfl⟩
    rintro σ3 H3 ⟨v, rfl, rfl⟩
    have fin : ∀ H', Same H3 H' → Q (.bl true) H' := fun H' s' => q H' fun b o e => s' b o (k12 b o (t2 b o e))
    refine ⟨_, rfl, rfl, _, rfl, ?_⟩
    rw [rd.non]
    rcases rf with ⟨hn, l, rfl, el⟩ | ⟨f, j, ns, t, l, hs, rfl, et, el⟩
    · refine iteY (decide_eq_true hn) ?_
      refine ⟨_, rfl, (by show 5 ≤ sizeLine; decide), fun l13 hl13 => ?_⟩
      exact ⟨l, l13, _, _, rfl, rfl, SqL.of ((Same.new hl13) _ _ el), SqL.new, rfl, rfl, fin _ (Same.new hl13)⟩
    · refine iteNo (by rw [hs]; rfl) ?_
      rcases rd with ⟨hn, _⟩ | ⟨f', j', ns', t', l', hs', rfl, et', el'⟩
      · rw [hs] at hn; cases hn
      rw [hs] at hs'
      cases hs'
      have qt : SqT K H3 t [.str f, .str j, .ref l] := .inl (.inl et)
      have qt' : SqT K H3 t' [.str f, .str j, .ref l'] := .inl (.inl et')
      have hln := (M57.said_spec hs).2.2
      refine ⟨_, rfl, _, _, rfl, .yes qt, _, rfl, iteF ?_⟩
      refine ⟨_, rfl, t, _, rfl, .inr qt, rfl, _, rfl, iteNS rfl ?_⟩
      refine ⟨_, rfl, t, _, _, .ref l, rfl, rfl, qt, atI_nat (j := 2) rfl, _, rfl, t', _, _, .ref l', rfl, rfl, qt', atI_nat (j := 2) rfl, l, l', ns, ns, rfl, SqL.of el, SqL.of el', by omega, _, rfl, iteNo (by rw [decide_eq_true rfl]; rfl) ?_⟩
      refine ⟨_, rfl, t, _, _, .str f, rfl, rfl, qt, atI_nat (j := 0) rfl, _, _, rfl, rfl, _, rfl, iteT ?_⟩
      refine ⟨_, rfl, t, _, _, .str j, rfl, rfl, qt, atI_nat (j := 1) rfl, _, _, rfl, rfl, _, rfl, iteT ?_⟩
      refine ⟨_, rfl, _, rfl, t, _, rfl, qt, (fun w => absurd (show HT.sIx 3 3 (some 2) = 3 from w.2) (by decide)), fun p13 hp13 => ?_⟩
      have z1 := Same.new (o := .tup (cutV [.str f, .str j, .ref l] none (some 2))) hp13
      refine ⟨_, rfl, _, rfl, t', _, rfl, z1.seqT qt', (fun w => absurd (show HT.sIx 3 3 (some 2) = 3 from w.2) (by decide)), fun p14 hp14 => ?_⟩
      have z2 := Same.new (o := .tup (cutV [.str f, .str j, .ref l'] none (some 2))) hp14
      refine ⟨p13, p14, _, _, rfl, rfl, z2.seqT SqT.new, SqT.new, ?_, ?_, ?_⟩
      · rw [cut_upto (by decide)]; rfl
      · rw [cut_upto (by decide)]; rfl
      · rw [show eqL (cutV [.str f, .str j, .ref l] none (some 2)) (cutV [.str f, .str j, .ref l'] none (some 2)) = true by
          rw [cut_upto (by decide), cut_upto (by decide)]
          show (eqV (.str f) (.str f) && (eqV (.str j) (.str j) && true)) = true
          simp only [eqV, beq_self_eq_true, Bool.true_and]]
        exact fin _ (z1.trans z2)
end
end Pp

namespace Pp
open PySem L2
inductive sp_law (K : PySem.W.Frag) (vs : List V) (H : Hp) (Q : VK) (E : XK) : Prop
  | mk (a : Addr) (ns : List Int) : vs = [.ref a] → SqL K H a (ns.map V.int) → ns.length ≤ 63 → (∀ H', Q (.bl true) H') → sp_law K vs H Q E
noncomputable def R9 : List Str := ["seal", "couples", "places", "parts", "deciders", "show ann", "leave ann", "strike 7", "row 999"]
noncomputable def R6 : List Str := ["step ann 12", "card ann 7 12 999", "card ann 12", "card ann", "step ann 7", "show 7"]
theorem r15_len : ∀ w ∈ R9 ++ R6, w.length ≤ 20 := by decide +kernel
section
variable {P : Program} {w : World} {K : PySem.W.Frag} {mg : Str → Option Value} {base : Heap}
theorem ok_law {f : Addr} {fd : FuncData} (F : Fun K "law" "law" s_law f fd) (T : Txt K mg) (C_law_at : Can P w K mg base 1 "_law_at" ps_law_at (sp_law_at K)) (C_law_mix : Can P w K mg base 1 "_law_mix" ps_law_mix (sp_law_mix K)) (C_law_spoiled : Can P w K mg base 1 "_law_spoiled" ps_law_spoiled (sp_law_spoiled K)) (C_law_right : Can P w K mg base 8 "_law_right" ["_law_row"] (sp_law_right K)) : FnOk P w K mg base CX0 9 f fd ["_law_script"] (sp_law K) := by
  refine F.ok sc_law (fun vs H Q E h => ?_) (fun cdv A outer s H vs Q E hr h => ?_)
  · obtain ⟨a, ns, rfl, _⟩ := h
    rfl
  · obtain ⟨a, ns, rfl, hS, hz, q⟩ := h
    obtain ⟨es, p1, p2, p3, hes, hb⟩ : ∃ es p1 p2 p3, StrEs es R9 ∧ defBody s_law = .Assign [.Name "_law_rows" p1] (.List es p2) p3 :: (defBody s_law).tail := ⟨_, _, _, _, (StrEs.cons (StrEs.cons (StrEs.cons (StrEs.cons (StrEs.cons (StrEs.cons (StrEs.cons (StrEs.cons (StrEs.cons StrEs.nil))))))))), rfl⟩
    rw [hb]
    refine ⟨_, (pss_cons (ps_set (i := 1) sc_law.nd rfl (Or.inl rfl) (pe_lstS hes) swaps_list)
      (pss_cons (ps_set (i := 1) sc_law.nd rfl (Or.inl rfl) (pe_op op_cat (pv 1) (pe_lstS (StrEs.cons (StrEs.cons (StrEs.cons (StrEs.cons (StrEs.cons (StrEs.cons StrEs.nil)))))))))
      (pss_cons (ps_for PassesOwn.never rfl (pi_range1 rfl T.b_range (pa_cons pe_int pa_nil)) (pg_name (i := 2) sc_law.nd rfl (Or.inl rfl))
        (pss_cons (ps_set (i := 3) sc_law.nd rfl (Or.inl rfl) (pe_own C_law_at (hr.mono (by decide)) rfl (pa_cons (pv 0) (pa_cons (pv 2) pa_nil))))
      (pss_cons (ps_mid (ps_if (pt_cmpR op_eq (pe_op op_mod (pe_own C_law_at (hr.mono (by decide)) rfl (pa_cons (pv 0) (pa_cons pe_int pa_nil))) pe_int) pe_int (nomark _)) (pss_one (ps_set (i := 3) sc_law.nd rfl (Or.inl rfl) (pe_own C_law_mix (hr.mono (by decide)) rfl (pa_cons (pv 3) (pa_cons (pv 2) pa_nil))))) pss_nil))
      (pss_cons (ps_set (i := 4) sc_law.nd rfl (Or.inl rfl) (pe_ix ix_list (pv 1) (pv 2) (fun _ _ => rfl)))
      (pss_cons (ps_for PassesOwn.never rfl (pi_range1 rfl T.b_range (pa_cons (pe_op op_add pe_int (pe_op op_mod (pv 3) pe_int)) pa_nil)) (pg_name (i := 5) sc_law.nd rfl (Or.inl rfl))
        (pss_one (ps_set (i := 4) sc_law.nd rfl (Or.inl rfl) (pe_own C_law_spoiled (hr.mono (by decide)) rfl (pa_cons (pv 4) (pa_cons (pe_op op_add (pe_op op_fdiv (pv 3) pe_int) (pe_op op_mul (pv 5) (pe_own C_law_at (hr.mono (by decide)) rfl (pa_cons (pv 0) (pa_cons (pe_op op_add pe_int (pv 2)) pa_nil))))) pa_nil))))))
      (pss_one (ps_if (pt_not (pt_val (pe_own C_law_right (hr.mono (by decide)) rfl (pa_cons (pv 4) pa_nil)))) (pss_one (ps_ret pe_bl)) pss_nil)))))))
      (pss_one (ps_ret (pe_own C_law_right (hr.mono (by decide)) rfl (pa_cons (pe_ix ix_list (pv 1) (pe_op op_mod (pe_own C_law_at (hr.mono (by decide)) rfl (pa_cons (pv 0) (pa_cons pe_int pa_nil))) pe_int) (fun _ _ => rfl)) pa_nil))))))), ?_⟩
    have hln := line_ge
    refine ⟨by decide, fun l1 hl1 => ?_⟩
    have s1 : Same H (upd H l1 (.lst (R9.map V.str))) := Same.new hl1
    have e1 : upd H l1 (.lst (R9.map V.str)) l1 = some (.lst (R9.map V.str)) := upd_same
    generalize hH1 : upd H l1 _ = H1 at s1 e1 ⊢
    refine ⟨_, rfl, by decide, fun l2 hl2 => ?_⟩
    have s2 : Same H (upd H1 l2 (.lst (List.map V.str (["step ann 12", "card ann 7 12 999", "card ann 12", "card ann", "step ann 7", "show 7"] : List Str)))) := s1.newT hl2
    have e2 : upd H1 l2 (.lst (List.map V.str (["step ann 12", "card ann 7 12 999", "card ann 12", "card ann", "step ann 7", "show 7"] : List Str))) l2 = some (.lst (List.map V.str (["step ann 12", "card ann 7 12 999", "card ann 12", "card ann", "step ann 7", "show 7"] : List Str))) := upd_same
    have e12 := (Same.new (o := .lst (List.map V.str (["step ann 12", "card ann 7 12 999", "card ann 12", "card ann", "step ann 7", "show 7"] : List Str))) hl2) _ _ e1
    refine ⟨l1, l2, R9.map V.str, List.map V.str (["step ann 12", "card ann 7 12 999", "card ann 12", "card ann", "step ann 7", "show 7"] : List Str), rfl, rfl, e12, e2, by decide, fun l3 hl3 => ?_⟩
    rw [← List.map_append]
    have s3 : Same H (upd (upd H1 l2 (.lst (List.map V.str (["step ann 12", "card ann 7 12 999", "card ann 12", "card ann", "step ann 7", "show 7"] : List Str)))) l3 (.lst ((R9 ++ (["step ann 12", "card ann 7 12 999", "card ann 12", "card ann", "step ann 7", "show 7"] : List Str)).map V.str))) := s2.newT hl3
    have e3 : upd (upd H1 l2 (.lst (List.map V.str (["step ann 12", "card ann 7 12 999", "card ann 12", "card ann", "step ann 7", "show 7"] : List Str)))) l3 (.lst ((R9 ++ (["step ann 12", "card ann 7 12 999", "card ann 12", "card ann", "step ann 7", "show 7"] : List Str)).map V.str)) l3 = some (.lst ((R9 ++ (["step ann 12", "card ann 7 12 999", "card ann 12", "card ann", "step ann 7", "show 7"] : List Str)).map V.str)) := upd_same
    have hw : ∀ k : Nat, k < 15 → ((R9 ++ (["step ann 12", "card ann 7 12 999", "card ann 12", "card ann", "step ann 7", "show 7"] : List Str)).map V.str)[k]? = some (.str ((R9 ++ (["step ann 12", "card ann 7 12 999", "card ann 12", "card ann", "step ann 7", "show 7"] : List Str)).getD k "")) ∧ ((R9 ++ (["step ann 12", "card ann 7 12 999", "card ann 12", "card ann", "step ann 7", "show 7"] : List Str)).getD k "").length ≤ 20 := fun k hk => by
      have hk' : k < (R9 ++ (["step ann 12", "card ann 7 12 999", "card ann 12", "card ann", "step ann 7", "show 7"] : List Str)).length := hk
      exact ⟨strs_at hk', r15_len _ (getD_inS hk')⟩
    generalize R9 ++ (["step ann 12", "card ann 7 12 999", "card ann 12", "card ann", "step ann 7", "show 7"] : List Str) = rs at s3 e3 hw ⊢
    generalize hH3 : upd (upd H1 l2 _) l3 _ = H3 at s3 e3 ⊢
    clear hH3 s2 e2 e12 hl2 hl3
    refine ⟨_, rfl, by decide, by decide, ?_⟩
    refine for_range (n := 15) (fun k σ H4 => ∃ v2 v3 v4 v5 : Option V, σ = [some (.ref a), some (.ref l3), v2, v3, v4, v5] ∧ ∀ b o, H3 b = some o → H4 b = some o) ⟨_, _, _, _, rfl, fun _ _ e => e⟩ ?_ ?_
    · rintro k σ H4 hk ⟨v2, v3, v4, v5, rfl, k4⟩
      have k0 : ∀ {H5 : Hp}, (∀ b o, H3 b = some o → H5 b = some o) → SqL K H5 a (ns.map V.int) := fun kk => (show Same H _ from fun b o e => kk b o (s3 b o e)).seq hS
      refine ⟨_, rfl, _, rfl, a, ns, _, rfl, k0 k4, by omega, ?_⟩
      generalize ns.getD ((0 : Int) + (k : Int)).toNat 0 = c0
      refine ⟨fun σ' H' => ∃ c : Int, σ' = [some (.ref a), some (.ref l3), some (.int (0 + (k : Int))), some (.int c), v4, v5] ∧ H' = H4, ?_, ?_⟩
      · refine ⟨_, rfl, a, ns, 15, rfl, k0 k4, by decide, _, _, rfl, rfl, (by show (0 : Int) < 2; decide), rfl, _, rfl, iteD (fun _ => ?_) (fun _ => ?_)⟩
        · exact ⟨_, rfl, _, rfl, c0, _, rfl, _, rfl, rfl⟩
        · exact ⟨c0, rfl, rfl⟩
      rintro σ5 H5 ⟨c, rfl, rfl⟩
      obtain ⟨w1, w2⟩ := hw k hk
      refine ⟨_, rfl, _, rfl, l3, _, _, _, rfl, rfl, SqL.of (k4 _ _ e3), (by rw [Int.zero_add]; exact atI_nat w1), ?_⟩
      generalize rs.getD k "" = w0 at w2
      have m0 : 0 ≤ c % 2 := Int.emod_nonneg _ (by decide)
      have m1 : c % 2 < 2 := Int.emod_lt_of_pos _ (by decide)
      refine ⟨_, rfl, _, _, rfl, rfl, (by show (0 : Int) < 2; decide), _, _, rfl, rfl, _, rfl, by omega, by omega, ?_⟩
      refine for_range (n := (1 + c % 2).toNat) (fun t σ H6 => ∃ (w : Str) (v5 : Option V), σ = [some (.ref a), some (.ref l3), some (.int (0 + (k : Int))), some (.int c), some (.str w), v5] ∧ w.length ≤ 20 + 6 * t ∧ ∀ b o, H3 b = some o → H6 b = some o) ⟨w0, v5, rfl, by omega, k4⟩ ?_ ?_
      · rintro t σ H6 ht ⟨w, v6, rfl, hwl, k6⟩
        refine ⟨_, rfl, _, rfl, _, _, rfl, rfl, ⟨by decide, by decide⟩, _, rfl, _, rfl, _, rfl, _, _, rfl, rfl, a, ns, _, rfl, k0 k6, by omega, _, _, rfl, rfl, ?_, _, _, rfl, rfl, w, _, rfl, by omega, fun y H7 s7 hy => ?_⟩
        · exact .inl ⟨by omega, by omega⟩
        · exact ⟨y, _, rfl, by omega, fun b o e => s7 b o (k6 b o e)⟩
      · rintro σ H6 ⟨w, v6, rfl, hwl, k6⟩
        refine ⟨_, rfl, w, rfl, by omega, fun H7 s7 => ?_⟩
        exact ⟨_, rfl, iteF ⟨_, _, _, _, rfl, fun b o e => s7 b o (k6 b o e)⟩⟩
    · rintro σ H4 ⟨v2, v3, v4, v5, rfl, k4⟩
      have hS4 : SqL K H4 a (ns.map V.int) := (show Same H _ from fun b o e => k4 b o (s3 b o e)).seq hS
      refine ⟨_, rfl, _, rfl, a, ns, 31, rfl, hS4, by decide, _, _, rfl, rfl, (by show (0 : Int) < 15; decide), ?_⟩
      have g0 : 0 ≤ ns.getD (31 : Int).toNat 0 % 15 := Int.emod_nonneg _ (by decide)
      have g1 : ns.getD (31 : Int).toNat 0 % 15 < 15 := Int.emod_lt_of_pos _ (by decide)
      generalize ns.getD (31 : Int).toNat 0 % 15 = g at g0 g1 ⊢
      obtain ⟨w1, w2⟩ := hw g.toNat (by omega)
      exact ⟨l3, _, _, _, rfl, rfl, SqL.of (k4 _ _ e3), atI_ok g0 w1, _, rfl, by omega, fun H5 _ => q H5⟩
end
end Pp

namespace Pp
open PySem L2
theorem all_mk {l : PySem.W.OpenLaw} {w : World} {K : PySem.W.Frag} {h : Heap} {mg : Str → Option Value} {fa f49 oC_Sheet : Addr} (X : K.In h) (G : h.Ns mainGlobals mg) (hfa : mg "law" = some (.ref fa))
    {oc49 kV49 dc49 pm49 cd49 ct49 : Value} {od49 an49 : Option Addr} {sl49 : Array (Option Value)}
    (oa_Sheet : PySem.W.nsIn K mainGlobals "Sheet" = some (some (.ref oC_Sheet)))
    (a0 : DM K oC_Sheet "refuse_if_sealed" "Sheet.refuse_if_sealed" s_Sheet_refuse_if_sealed ["self"])
    (a1 : DM K oC_Sheet "refuse_unknown_judge" "Sheet.refuse_unknown_judge" s_Sheet_refuse_unknown_judge ps_Sheet_refuse_unknown_judge)
    (a2 : DM K oC_Sheet "couples" "Sheet.couples" s_Sheet_couples ["self"])
    (a3 : DM K oC_Sheet "handed" "Sheet.handed" s_Sheet_handed ["self"])
    (a4 : DF K "due_couples" s_due_couples ["first"])
    (a5 : DF K "figure" s_figure ["sign"])
    (a6 : DF K "whole_card" s_whole_card ps_whole_card)
    (a7 : DF K "without_couple" s_without_couple ps_without_couple)
    (a8 : DF K "good_number" s_good_number ["couple"])
    (a9 : DF K "small_letter" s_small_letter ["sign"])
    (a10 : DF K "good_length" s_good_length ps_good_length)
    (a11 : DF K "all_unlike" s_all_unlike ["things"])
    (a12 : DF K "numbers_text" s_numbers_text ["couples"])
    (a13 : DF K "ranking_text" s_ranking_text ["rows"])
    (a14 : DF K "places_text" s_places_text ps_places_text)
    (a15 : DF K "text_or_none" s_text_or_none ["words"])
    (a16 : DF K "_law_whole" s_law_whole ps_law_whole)
    (a17 : DF K "_law_at" s_law_at ps_law_at)
    (a18 : DF K "_law_mix" s_law_mix ps_law_mix)
    (a19 : DF K "_law_spoiled" s_law_spoiled ps_law_spoiled)
    (a20 : DF K "_law_number" s_law_number ["_law_word"])
    (a21 : DM K oC_Sheet "hand_in" "Sheet.hand_in" s_Sheet_hand_in ps_Sheet_hand_in)
    (a22 : DM K oC_Sheet "strike" "Sheet.strike" s_Sheet_strike ps_Sheet_strike)
    (a23 : DM K oC_Sheet "seal" "Sheet.seal" s_Sheet_seal ["self"])
    (a24 : DM K oC_Sheet "card_of" "Sheet.card_of" s_Sheet_card_of ps_Sheet_card_of)
    (a25 : DF K "couple_word" s_couple_word ["word"])
    (a26 : DF K "refuse_fewer_cards" s_refuse_fewer_cards ps_refuse_fewer_cards)
    (a27 : DF K "good_couples" s_good_couples ["couples"])
    (a28 : DF K "good_name" s_good_name ["judge"])
    (a29 : DF K "_law_same" s_law_same ps_law_same)
    (a30 : DF K "_law_read" s_law_read ["_law_row"])
    (a31 : DF K "read_couple" s_read_couple ["word"])
    (a32 : DF K "places" s_places ["sheet"])
    (a33 : DF K "ranking" s_ranking ["sheet"])
    (a34 : DF K "partings" s_partings ["sheet"])
    (a35 : DF K "left_out" s_left_out ps_left_out)
    (a36 : DF K "deciders" s_deciders ["sheet"])
    (a37 : DF K "step_up" s_step_up ps_step_up)
    (a38 : DF K "good_judges" s_good_judges ["judges"])
    (a39 : DM K oC_Sheet "__init__" "Sheet.__init__" s_Sheet_init ps_Sheet_init)
    (a40 : DF K "read_couples" s_read_couples ps_read_couples)
    (a41 : DF K "table_row" s_table_row ps_table_row)
    (a42 : DF K "step_text" s_step_text ps_step_text)
    (a43 : DF K "read_row" s_read_row ["row"])
    (a44 : DF K "only_told" s_only_told ps_only_told)
    (a45 : DF K "done_and_told" s_done_and_told ps_done_and_told)
    (a46 : DF K "_law_found" s_law_found ["_law_row"])
    (a47 : DF K "answer" s_answer ps_answer)
    (a48 : DF K "_law_right" s_law_right ["_law_row"])
    (a49 : PySem.W.nsIn K mainGlobals "law" = some (some (.ref f49))) (l49 : K.lookup f49 = some ⟨oc49, od49, .func (PySem.W.fnOf "law" "law" (defArgs s_law) (defBody s_law) (defScope s_law) .none kV49 dc49 pm49 an49 cd49 ct49), sl49⟩) (c49 : PySem.W.codeIn K cd49 "law" = true) (k49 : PySem.W.keepIn K (.ref f49) = true)
    (z0 : PySem.W.nsIn K mainGlobals "all" = some none)
    (z1 : PySem.W.nsIn K mainGlobals "bool" = some none)
    (z2 : PySem.W.nsIn K mainGlobals "int" = some none)
    (z3 : PySem.W.nsIn K mainGlobals "isinstance" = some none)
    (z4 : PySem.W.nsIn K mainGlobals "len" = some none)
    (z5 : PySem.W.nsIn K mainGlobals "list" = some none)
    (z6 : PySem.W.nsIn K mainGlobals "range" = some none)
    (z7 : PySem.W.nsIn K mainGlobals "set" = some none)
    (z8 : PySem.W.nsIn K mainGlobals "sorted" = some none)
    (z9 : PySem.W.nsIn K mainGlobals "str" = some none)
    (z10 : PySem.W.nsIn K mainGlobals "tuple" = some none)
    {ya0 : Addr} {yc0 : Value} {yd0 : Option Addr} {yi0 : Array Value} {yn0 : Nat} {ys0 : Array (Option Value)}
    (y0 : PySem.W.nsIn K mainGlobals "BARE_WORDS" = some (some (.ref ya0))) (yl0 : K.lookup ya0 = some ⟨yc0, yd0, .seq yi0 yn0, ys0⟩) (yt0 : yc0 = .type "tuple") (yz0 : yi0.size ≤ sizeLine) (yv0 : Vals ((["seal", "couples", "places", "parts", "deciders"] : List Str).map V.str) yi0.toList)
    {ya1 : Addr} {yc1 : Value} {yd1 : Option Addr} {yi1 : Array Value} {yn1 : Nat} {ys1 : Array (Option Value)}
    (y1 : PySem.W.nsIn K mainGlobals "JUDGE_WORDS" = some (some (.ref ya1))) (yl1 : K.lookup ya1 = some ⟨yc1, yd1, .seq yi1 yn1, ys1⟩) (yt1 : yc1 = .type "tuple") (yz1 : yi1.size ≤ sizeLine) (yv1 : Vals ((["card", "show", "leave", "step"] : List Str).map V.str) yi1.toList)
    {ya2 : Addr} {yc2 : Value} {yd2 : Option Addr} {yi2 : Array Value} {yn2 : Nat} {ys2 : Array (Option Value)}
    (y2 : PySem.W.nsIn K mainGlobals "COUPLE_WORDS" = some (some (.ref ya2))) (yl2 : K.lookup ya2 = some ⟨yc2, yd2, .seq yi2 yn2, ys2⟩) (yt2 : yc2 = .type "tuple") (yz2 : yi2.size ≤ sizeLine) (yv2 : Vals ((["strike", "step", "row"] : List Str).map V.str) yi2.toList)
    {t3 : Tok} (y3 : PySem.W.nsIn K mainGlobals "MOST_FIGURES" = some (some (.int 3 t3)))
    {t4 : Tok} (y4 : PySem.W.nsIn K mainGlobals "MOST_COUPLES" = some (some (.int 24 t4)))
    {t5 : Tok} (y5 : PySem.W.nsIn K mainGlobals "MOST_JUDGES" = some (some (.int 15 t5)))
    {t6 : Tok} (y6 : PySem.W.nsIn K mainGlobals "MOST_NUMBER" = some (some (.int 999 t6)))
    {t7 : Tok} (y7 : PySem.W.nsIn K mainGlobals "MOST_SIGNS" = some (some (.int 8 t7)))
    {t8 : Tok} (y8 : PySem.W.nsIn K mainGlobals "MOST_CARDS" = some (some (.int 200 t8)))
    {xc0 : Addr} (xa0 : PySem.W.nsIn K mainGlobals "PanelError" = some (some (.ref xc0)))
    {xc1 : Addr} (xa1 : PySem.W.nsIn K mainGlobals "BadCouples" = some (some (.ref xc1)))
    {xc2 : Addr} (xa2 : PySem.W.nsIn K mainGlobals "BadJudges" = some (some (.ref xc2)))
    {xc3 : Addr} (xa3 : PySem.W.nsIn K mainGlobals "SheetSealed" = some (some (.ref xc3)))
    {xc4 : Addr} (xa4 : PySem.W.nsIn K mainGlobals "UnknownJudge" = some (some (.ref xc4)))
    {xc5 : Addr} (xa5 : PySem.W.nsIn K mainGlobals "BadCard" = some (some (.ref xc5)))
    {xc6 : Addr} (xa6 : PySem.W.nsIn K mainGlobals "TooManyCards" = some (some (.ref xc6)))
    {xc7 : Addr} (xa7 : PySem.W.nsIn K mainGlobals "UnknownCouple" = some (some (.ref xc7)))
    {xc8 : Addr} (xa8 : PySem.W.nsIn K mainGlobals "LastCouple" = some (some (.ref xc8)))
    {xc9 : Addr} (xa9 : PySem.W.nsIn K mainGlobals "NoCard" = some (some (.ref xc9)))
    {xc10 : Addr} (xa10 : PySem.W.nsIn K mainGlobals "TooFewCards" = some (some (.ref xc10)))
    {xc12 : Addr} (xa12 : PySem.W.nsIn K mainGlobals "BadRow" = some (some (.ref xc12)))
    (xe0 : PySem.W.excIn K xc0 bmV "ValueError.__new__" = true)
    (xe1 : PySem.W.excIn K xc1 bmV "ValueError.__new__" = true)
    (xe2 : PySem.W.excIn K xc2 bmV "ValueError.__new__" = true)
    (xe3 : PySem.W.excIn K xc3 bmV "ValueError.__new__" = true)
    (xs3_3 : L2.subIn K xc3 xc3 = true)
    (xs3_12 : L2.subIn K xc3 xc12 = false)
    (xe4 : PySem.W.excIn K xc4 bmV "ValueError.__new__" = true)
    (xs4_3 : L2.subIn K xc4 xc3 = false)
    (xs4_4 : L2.subIn K xc4 xc4 = true)
    (xs4_12 : L2.subIn K xc4 xc12 = false)
    (xe5 : PySem.W.excIn K xc5 bmV "ValueError.__new__" = true)
    (xs5_3 : L2.subIn K xc5 xc3 = false)
    (xs5_4 : L2.subIn K xc5 xc4 = false)
    (xs5_5 : L2.subIn K xc5 xc5 = true)
    (xs5_12 : L2.subIn K xc5 xc12 = false)
    (xe6 : PySem.W.excIn K xc6 bmV "ValueError.__new__" = true)
    (xs6_3 : L2.subIn K xc6 xc3 = false)
    (xs6_4 : L2.subIn K xc6 xc4 = false)
    (xs6_5 : L2.subIn K xc6 xc5 = false)
    (xs6_6 : L2.subIn K xc6 xc6 = true)
    (xs6_12 : L2.subIn K xc6 xc12 = false)
    (xe7 : PySem.W.excIn K xc7 bmV "ValueError.__new__" = true)
    (xs7_3 : L2.subIn K xc7 xc3 = false)
    (xs7_4 : L2.subIn K xc7 xc4 = false)
    (xs7_5 : L2.subIn K xc7 xc5 = false)
    (xs7_6 : L2.subIn K xc7 xc6 = false)
    (xs7_7 : L2.subIn K xc7 xc7 = true)
    (xs7_12 : L2.subIn K xc7 xc12 = false)
    (xe8 : PySem.W.excIn K xc8 bmV "ValueError.__new__" = true)
    (xs8_3 : L2.subIn K xc8 xc3 = false)
    (xs8_4 : L2.subIn K xc8 xc4 = false)
    (xs8_5 : L2.subIn K xc8 xc5 = false)
    (xs8_6 : L2.subIn K xc8 xc6 = false)
    (xs8_7 : L2.subIn K xc8 xc7 = false)
    (xs8_8 : L2.subIn K xc8 xc8 = true)
    (xs8_12 : L2.subIn K xc8 xc12 = false)
    (xe9 : PySem.W.excIn K xc9 bmV "ValueError.__new__" = true)
    (xs9_3 : L2.subIn K xc9 xc3 = false)
    (xs9_4 : L2.subIn K xc9 xc4 = false)
    (xs9_5 : L2.subIn K xc9 xc5 = false)
    (xs9_6 : L2.subIn K xc9 xc6 = false)
    (xs9_7 : L2.subIn K xc9 xc7 = false)
    (xs9_8 : L2.subIn K xc9 xc8 = false)
    (xs9_9 : L2.subIn K xc9 xc9 = true)
    (xs9_12 : L2.subIn K xc9 xc12 = false)
    (xe10 : PySem.W.excIn K xc10 bmV "ValueError.__new__" = true)
    (xs10_3 : L2.subIn K xc10 xc3 = false)
    (xs10_4 : L2.subIn K xc10 xc4 = false)
    (xs10_5 : L2.subIn K xc10 xc5 = false)
    (xs10_6 : L2.subIn K xc10 xc6 = false)
    (xs10_7 : L2.subIn K xc10 xc7 = false)
    (xs10_8 : L2.subIn K xc10 xc8 = false)
    (xs10_9 : L2.subIn K xc10 xc9 = false)
    (xs10_10 : L2.subIn K xc10 xc10 = true)
    (xs10_12 : L2.subIn K xc10 xc12 = false)
    (xe12 : PySem.W.excIn K xc12 bmV "ValueError.__new__" = true)
    (xi12 : L2.exI K xc12 = true)
    (xs12_0 : L2.subIn K xc12 xc0 = true)
    (xk12_3 : PySem.W.kitOne K (.ref xc12) (.ref xc3) = some false)
    (xk12_4 : PySem.W.kitOne K (.ref xc12) (.ref xc4) = some false)
    (xk12_5 : PySem.W.kitOne K (.ref xc12) (.ref xc5) = some false)
    (xk12_7 : PySem.W.kitOne K (.ref xc12) (.ref xc7) = some false)
    (xs12_12 : L2.subIn K xc12 xc12 = true)
    (xk12_12 : PySem.W.kitOne K (.ref xc12) (.ref xc12) = some true)
    (opg_Sheet : PySem.W.plainGet K oC_Sheet Str.empty = true)
    (ohd_Sheet : PySem.W.hasDictIn K oC_Sheet = true)
    (opo_Sheet : PySem.W.plainOver K oC_Sheet = true)
    (osa_Sheet : PySem.W.findIn K (.ref oC_Sheet) "__setattr__" = some (some (.builtin "object.__setattr__")))
    (omk_Sheet : PySem.W.makesIn K oC_Sheet = true)
    (okc_Sheet : PySem.W.keepIn K (.ref oC_Sheet) = true)
    (on_Sheet_standing : PySem.W.findIn K (.ref oC_Sheet) "standing" = some none)
    (on_Sheet_struck_so_far : PySem.W.findIn K (.ref oC_Sheet) "struck_so_far" = some none)
    (on_Sheet_panel : PySem.W.findIn K (.ref oC_Sheet) "panel" = some none)
    (on_Sheet_card_by_judge : PySem.W.findIn K (.ref oC_Sheet) "card_by_judge" = some none)
    (on_Sheet_taken_so_far : PySem.W.findIn K (.ref oC_Sheet) "taken_so_far" = some none)
    (on_Sheet_sealed : PySem.W.findIn K (.ref oC_Sheet) "sealed" = some none)
    : ∃ fd : FuncData, (∀ (s : Shared) (v : Value), BindsTo s fd ⟨[v], []⟩ [("_law_script", v)]) ∧ ∀ base : Heap, K.In base → base.Ns mainGlobals mg → FnOk l.prog w K mg base CX0 9 fa fd ["_law_script"] (sp_law K) := by
  have e := hfa.symm.trans (PySem.W.mg_of X G a49)
  cases e
  have oc_Sheet := clsA_of oa_Sheet
  have T : Txt K mg := ⟨PySem.W.mg_none_of X G z0, PySem.W.mg_none_of X G z1, PySem.W.mg_none_of X G z2, PySem.W.mg_none_of X G z3, PySem.W.mg_none_of X G z4, PySem.W.mg_none_of X G z5, PySem.W.mg_none_of X G z6, PySem.W.mg_none_of X G z7, PySem.W.mg_none_of X G z8, PySem.W.mg_none_of X G z9, PySem.W.mg_none_of X G z10, ctup_mk X G y0 yl0 yt0 yz0 yv0, ctup_mk X G y1 yl1 yt1 yz1 yv1, ctup_mk X G y2 yl2 yt2 yz2 yv2, ⟨_, PySem.W.mg_of X G y3⟩, ⟨_, PySem.W.mg_of X G y4⟩, ⟨_, PySem.W.mg_of X G y5⟩, ⟨_, PySem.W.mg_of X G y6⟩, ⟨_, PySem.W.mg_of X G y7⟩, ⟨_, PySem.W.mg_of X G y8⟩, ⟨xc0, xa0, PySem.W.mg_of X G xa0, xe0⟩, ⟨xc1, xa1, PySem.W.mg_of X G xa1, xe1⟩, ⟨xc2, xa2, PySem.W.mg_of X G xa2, xe2⟩, ⟨xc3, xa3, PySem.W.mg_of X G xa3, xe3⟩, fun C D hC hD => by cases ClsN.inj hC xa3; cases ClsN.inj hD xa3; exact xs3_3, fun C D hC hD => by cases ClsN.inj hC xa3; cases ClsN.inj hD xa12; exact xs3_12, ⟨xc4, xa4, PySem.W.mg_of X G xa4, xe4⟩, fun C D hC hD => by cases ClsN.inj hC xa4; cases ClsN.inj hD xa3; exact xs4_3, fun C D hC hD => by cases ClsN.inj hC xa4; cases ClsN.inj hD xa4; exact xs4_4, fun C D hC hD => by cases ClsN.inj hC xa4; cases ClsN.inj hD xa12; exact xs4_12, ⟨xc5, xa5, PySem.W.mg_of X G xa5, xe5⟩, fun C D hC hD => by cases ClsN.inj hC xa5; cases ClsN.inj hD xa3; exact xs5_3, fun C D hC hD => by cases ClsN.inj hC xa5; cases ClsN.inj hD xa4; exact xs5_4, fun C D hC hD => by cases ClsN.inj hC xa5; cases ClsN.inj hD xa5; exact xs5_5, fun C D hC hD => by cases ClsN.inj hC xa5; cases ClsN.inj hD xa12; exact xs5_12, ⟨xc6, xa6, PySem.W.mg_of X G xa6, xe6⟩, fun C D hC hD => by cases ClsN.inj hC xa6; cases ClsN.inj hD xa3; exact xs6_3, fun C D hC hD => by cases ClsN.inj hC xa6; cases ClsN.inj hD xa4; exact xs6_4, fun C D hC hD => by cases ClsN.inj hC xa6; cases ClsN.inj hD xa5; exact xs6_5, fun C D hC hD => by cases ClsN.inj hC xa6; cases ClsN.inj hD xa6; exact xs6_6, fun C D hC hD => by cases ClsN.inj hC xa6; cases ClsN.inj hD xa12; exact xs6_12, ⟨xc7, xa7, PySem.W.mg_of X G xa7, xe7⟩, fun C D hC hD => by cases ClsN.inj hC xa7; cases ClsN.inj hD xa3; exact xs7_3, fun C D hC hD => by cases ClsN.inj hC xa7; cases ClsN.inj hD xa4; exact xs7_4, fun C D hC hD => by cases ClsN.inj hC xa7; cases ClsN.inj hD xa5; exact xs7_5, fun C D hC hD => by cases ClsN.inj hC xa7; cases ClsN.inj hD xa6; exact xs7_6, fun C D hC hD => by cases ClsN.inj hC xa7; cases ClsN.inj hD xa7; exact xs7_7, fun C D hC hD => by cases ClsN.inj hC xa7; cases ClsN.inj hD xa12; exact xs7_12, ⟨xc8, xa8, PySem.W.mg_of X G xa8, xe8⟩, fun C D hC hD => by cases ClsN.inj hC xa8; cases ClsN.inj hD xa3; exact xs8_3, fun C D hC hD => by cases ClsN.inj hC xa8; cases ClsN.inj hD xa4; exact xs8_4, fun C D hC hD => by cases ClsN.inj hC xa8; cases ClsN.inj hD xa5; exact xs8_5, fun C D hC hD => by cases ClsN.inj hC xa8; cases ClsN.inj hD xa6; exact xs8_6, fun C D hC hD => by cases ClsN.inj hC xa8; cases ClsN.inj hD xa7; exact xs8_7, fun C D hC hD => by cases ClsN.inj hC xa8; cases ClsN.inj hD xa8; exact xs8_8, fun C D hC hD => by cases ClsN.inj hC xa8; cases ClsN.inj hD xa12; exact xs8_12, ⟨xc9, xa9, PySem.W.mg_of X G xa9, xe9⟩, fun C D hC hD => by cases ClsN.inj hC xa9; cases ClsN.inj hD xa3; exact xs9_3, fun C D hC hD => by cases ClsN.inj hC xa9; cases ClsN.inj hD xa4; exact xs9_4, fun C D hC hD => by cases ClsN.inj hC xa9; cases ClsN.inj hD xa5; exact xs9_5, fun C D hC hD => by cases ClsN.inj hC xa9; cases ClsN.inj hD xa6; exact xs9_6, fun C D hC hD => by cases ClsN.inj hC xa9; cases ClsN.inj hD xa7; exact xs9_7, fun C D hC hD => by cases ClsN.inj hC xa9; cases ClsN.inj hD xa8; exact xs9_8, fun C D hC hD => by cases ClsN.inj hC xa9; cases ClsN.inj hD xa9; exact xs9_9, fun C D hC hD => by cases ClsN.inj hC xa9; cases ClsN.inj hD xa12; exact xs9_12, ⟨xc10, xa10, PySem.W.mg_of X G xa10, xe10⟩, fun C D hC hD => by cases ClsN.inj hC xa10; cases ClsN.inj hD xa3; exact xs10_3, fun C D hC hD => by cases ClsN.inj hC xa10; cases ClsN.inj hD xa4; exact xs10_4, fun C D hC hD => by cases ClsN.inj hC xa10; cases ClsN.inj hD xa5; exact xs10_5, fun C D hC hD => by cases ClsN.inj hC xa10; cases ClsN.inj hD xa6; exact xs10_6, fun C D hC hD => by cases ClsN.inj hC xa10; cases ClsN.inj hD xa7; exact xs10_7, fun C D hC hD => by cases ClsN.inj hC xa10; cases ClsN.inj hD xa8; exact xs10_8, fun C D hC hD => by cases ClsN.inj hC xa10; cases ClsN.inj hD xa9; exact xs10_9, fun C D hC hD => by cases ClsN.inj hC xa10; cases ClsN.inj hD xa10; exact xs10_10, fun C D hC hD => by cases ClsN.inj hC xa10; cases ClsN.inj hD xa12; exact xs10_12, ⟨xc12, xa12, PySem.W.mg_of X G xa12, xe12⟩, fun C hC => by cases ClsN.inj hC xa12; exact xi12, fun C D hC hD => by cases ClsN.inj hC xa12; cases ClsN.inj hD xa0; exact xs12_0, fun C D hC hD => by cases ClsN.inj hC xa12; cases ClsN.inj hD xa3; exact xk12_3, fun C D hC hD => by cases ClsN.inj hC xa12; cases ClsN.inj hD xa4; exact xk12_4, fun C D hC hD => by cases ClsN.inj hC xa12; cases ClsN.inj hD xa5; exact xk12_5, fun C D hC hD => by cases ClsN.inj hC xa12; cases ClsN.inj hD xa7; exact xk12_7, fun C D hC hD => by cases ClsN.inj hC xa12; cases ClsN.inj hD xa12; exact xs12_12, fun C D hC hD => by cases ClsN.inj hC xa12; cases ClsN.inj hD xa12; exact xk12_12, oc_Sheet ▸ ⟨opg_Sheet, ohd_Sheet, opo_Sheet, osa_Sheet⟩, oc_Sheet ▸ on_Sheet_standing, oc_Sheet ▸ on_Sheet_struck_so_far, oc_Sheet ▸ on_Sheet_panel, oc_Sheet ▸ on_Sheet_card_by_judge, oc_Sheet ▸ on_Sheet_taken_so_far, oc_Sheet ▸ on_Sheet_sealed⟩
  have F49 := fun_mk (st := s_law) l49 c49 k49
  have b49 := F49.binds (ps := ["_law_script"]) fun _ _ _ _ _ _ => onS fun _ => on0 rfl
  refine ⟨PySem.W.fnOf "law" "law" (defArgs s_law) (defBody s_law) (defScope s_law) .none kV49 dc49 pm49 an49 cd49 ct49, fun s v => .of_eq rfl, fun base _ _ => ?_⟩
  have C0 := canMX l.prog w base oc_Sheet a0 fun F => ok_Sheet_refuse_if_sealed F T
  have C1 := canMX l.prog w base oc_Sheet a1 fun F => ok_Sheet_refuse_unknown_judge F T
  have C2 := canM l.prog w base oc_Sheet a2 fun F => ok_Sheet_couples F T
  have C3 := canM l.prog w base oc_Sheet a3 fun F => ok_Sheet_handed F T
  have C4 := canF l.prog w base X G a4 fun F => ok_due_couples F T
  have C5 := canF l.prog w base X G a5 fun F => ok_figure F T
  have C6 := canF l.prog w base X G a6 fun F => ok_whole_card F T
  have C7 := canF l.prog w base X G a7 fun F => ok_without_couple F T
  have C8 := canF l.prog w base X G a8 fun F => ok_good_number F T
  have C9 := canF l.prog w base X G a9 fun F => ok_small_letter F T
  have C10 := canF l.prog w base X G a10 fun F => ok_good_length F T
  have C11 := canF l.prog w base X G a11 fun F => ok_all_unlike F T
  have C12 := canF l.prog w base X G a12 fun F => ok_numbers_text F T
  have C13 := canF l.prog w base X G a13 fun F => ok_ranking_text F T
  have C14 := canF l.prog w base X G a14 fun F => ok_places_text F T
  have C15 := canF l.prog w base X G a15 fun F => ok_text_or_none F T
  have C16 := canF l.prog w base X G a16 fun F => ok_law_whole F T
  have C17 := canF l.prog w base X G a17 fun F => ok_law_at F T
  have C18 := canF l.prog w base X G a18 fun F => ok_law_mix F T
  have C19 := canF l.prog w base X G a19 fun F => ok_law_spoiled F T
  have C20 := canF l.prog w base X G a20 fun F => ok_law_number F T
  have C21 := canMX l.prog w base oc_Sheet a21 fun F => ok_Sheet_hand_in F T C6 C0 C1
  have C22 := canMX l.prog w base oc_Sheet a22 fun F => ok_Sheet_strike F T C7 C3 C0
  have C23 := canMX l.prog w base oc_Sheet a23 fun F => ok_Sheet_seal F T C0
  have C24 := canMX l.prog w base oc_Sheet a24 fun F => ok_Sheet_card_of F T C1
  have C25 := canF l.prog w base X G a25 fun F => ok_couple_word F T C5
  have C26 := canFX l.prog w base X G a26 fun F => ok_refuse_fewer_cards F T C3
  have C27 := canF l.prog w base X G a27 fun F => ok_good_couples F T C8 C10 C11
  have C28 := canF l.prog w base X G a28 fun F => ok_good_name F T C9 C10
  have C29 := canF l.prog w base X G a29 fun F => ok_law_same F T C16
  have C30 := canF l.prog w base X G a30 fun F => ok_law_read F T C20
  have C31 := canFX l.prog w base X G a31 fun F => ok_read_couple F T C25
  have C32 := canFX l.prog w base X G a32 fun F => ok_places F T C26
  have C33 := canFX l.prog w base X G a33 fun F => ok_ranking F T C26
  have C34 := canFX l.prog w base X G a34 fun F => ok_partings F T C26
  have C35 := canFX l.prog w base X G a35 fun F => ok_left_out F T C24
  have C36 := canFX l.prog w base X G a36 fun F => ok_deciders F T C26
  have C37 := canFX l.prog w base X G a37 fun F => ok_step_up F T C24
  have C38 := canF l.prog w base X G a38 fun F => ok_good_judges F T C28 C10 C11
  have C39 := canK l.prog w base oc_Sheet X G oa_Sheet omk_Sheet okc_Sheet a39 fun F => ok_Sheet_init F T C27 C38
  have C40 := canFX l.prog w base X G a40 fun F => ok_read_couples F T C4 C31
  have C41 := canFX l.prog w base X G a41 fun F => ok_table_row F T C32
  have C42 := canFX l.prog w base X G a42 fun F => ok_step_text F T C37
  have C43 := canFX l.prog w base X G a43 fun F => ok_read_row F T C40
  have C44 := canFX l.prog w base X G a44 fun F => ok_only_told F T C33 C34 C35 C36 C41 C12 C13 C14 C42 C15 C2 C24
  have C45 := canFX l.prog w base X G a45 fun F => ok_done_and_told F T C44 C21 C22 C23
  have C46 := canF l.prog w base X G a46 fun F => ok_law_found F T C43
  have C47 := canF l.prog w base X G a47 fun F => ok_answer F T C43 C45
  have C48 := canF l.prog w base X G a48 fun F => ok_law_right F T C47 C29 C30 C46 C39 C23
  exact ok_law F49 T C17 C18 C19 C48
theorem walk {l : PySem.W.OpenLaw} {q : Program} {loose : List Str} {XP : (Str → Option Value) → Heap → Prop} {YP : World → Heap → Prop} {d : DefRec} {K : Params → PySem.W.Frag} (hn : l.most = some 63) (hdf : d.params.defaults = [])
    (hY : ∀ (w : World) (h : Heap), YP w h → (K w.params).In h)
    (F : ∀ (w : World) (mg : Str → Option Value) (fa : Addr) (h : Heap), (K w.params).In h → h.Ns mainGlobals mg → mg d.name = some (.ref fa) →
      ∃ fd : FuncData, (∀ (s : Shared) (u : Value), BindsTo s fd ⟨[u], []⟩ [("_law_script", u)]) ∧ ∀ base : Heap, (K w.params).In base → base.Ns mainGlobals mg → FnOk l.prog w (K w.params) mg base CX0 9 fa fd ["_law_script"] (sp_law (K w.params))) :
    PySem.W.WalkO q loose XP YP l.row.toRowW d [] (fun f vs => PySem.call f vs) :=
  L2.walk_of (n := 63) (k := 9) (x := "_law_script") (CX := fun _ => CX0) (sp := fun w => sp_law (K w.params)) hn (by decide) hdf ⟨rfl, by decide, by decide⟩ hY F (fun _ _ a ns hl _ hS => ⟨a, ns, rfl, hS, hl, fun _ => rfl⟩) fun _ _ _ _ _ z => z
theorem walkX {q : Program} {loose : List Str} {XP : (Str → Option Value) → Heap → Prop} {as : List Addr} {K : Params → PySem.W.Frag} {n t : Nat} {r : PySem.W.RowW} {d : DefRec} {kwd : List (Str × Expr)} {run : Value → List Value → Sem Value}
    (e : ∀ P, as = (K P).map (·.1)) (c : PySem.W.WalkO q loose XP (PySem.W.InK K) r d kwd run) :
    PySem.W.WalkX q loose XP (PySem.W.X.obsZ as) (PySem.W.X.valZ K n t) r d kwd run :=
  fun w s₀ s₁ mg mb G y a o pm cd doc dV kV h1 h2 h3 h4 h5 h6 args vals as' L => c w s₀ s₁ mg mb G (PySem.W.InK.keeps w _ _ (PySem.W.X.z_facts e y).2.1 L.keeps) a o pm cd doc dV kV h1 h2 h3 h4 h5 h6 args vals as'
end Pp
noncomputable def PySem.W.Fast.tw12850718691866566733 : Nat := 0
noncomputable def PySem.W.Fast.tw5610186166637091569 : Nat := 0
noncomputable def PySem.W.Fast.tw18423541936975373866 : Nat := 0
noncomputable def PySem.W.Fast.tw2677873962150702081 : Nat := 0
noncomputable def PySem.W.Fast.tw10529991610327634688 : Nat := 0
noncomputable def PySem.W.Fast.tw18272076467496210348 : Nat := 0
noncomputable def PySem.W.Fast.tw3298213284360915937 : Nat := 0
noncomputable def PySem.W.Fast.tw5083385687567608036 : Nat := 0
noncomputable def PySem.W.Fast.tw6326596391579058324 : Nat := 0
noncomputable def PySem.W.Fast.tw7379819508504317985 : Nat := 0
noncomputable def PySem.W.Fast.tw17811034705836468848 : Nat := 0
noncomputable def PySem.W.Fast.tw6448223680921626545 : Nat := 0
noncomputable def PySem.W.Fast.tw6218944596286024187 : Nat := 0
noncomputable def PySem.W.Fast.tw5127420952405228105 : Nat := 0
noncomputable def PySem.W.Fast.tw16930587204344347442 : Nat := 0
noncomputable def PySem.W.Fast.tw14074998179488658021 : Nat := 0
noncomputable def PySem.W.Fast.tw6105038031709073359 : Nat := 0
noncomputable def PySem.W.Fast.tw8194707127921966733 : Nat := 0
noncomputable def PySem.W.Fast.tw3767648794115974185 : Nat := 0
noncomputable def PySem.W.Fast.tw6260203632621506811 : Nat := 0
noncomputable def PySem.W.Fast.tw2675274081050297751 : Nat := 0
noncomputable def PySem.W.Fast.tw14344464196884798827 : Nat := 0
noncomputable def PySem.W.Fast.tw10674122490973716717 : Nat := 0
noncomputable def PySem.W.Fast.tw4118312068998423984 : Nat := 0
noncomputable def PySem.W.Fast.tw11243043807510528166 : Nat := 0
noncomputable def PySem.W.Fast.tw16021348448159495868 : Nat := 0
noncomputable def PySem.W.Fast.tw3273235887654193823 : Nat := 0
noncomputable def PySem.W.Fast.tw14722668631736985553 : Nat := 0
noncomputable def PySem.W.Fast.tw11818225349042944794 : Nat := 0
noncomputable def PySem.W.Fast.tw381030941175240444 : Nat := 0
noncomputable def PySem.W.Fast.tw8469447298074375389 : Nat := 0
noncomputable def PySem.W.Fast.tw10315975413295643398 : Nat := 0
noncomputable def PySem.W.Fast.tw5005208443238552482 : Nat := 0
noncomputable def PySem.W.Fast.tw14691840014732666310 : Nat := 0
noncomputable def PySem.W.Fast.tw5140631615976442105 : Nat := 0
noncomputable def PySem.W.Fast.tw7309072117492508319 : Nat := 0
noncomputable def PySem.W.Fast.tw7842175944992330092 : Nat := 0
noncomputable def PySem.W.Fast.tw6982252985387295286 : Nat := 0
noncomputable def PySem.W.Fast.tw12732729683726850082 : Nat := 0
noncomputable def PySem.W.Fast.tw3653155203044678454 : Nat := 0
noncomputable def PySem.W.Fast.tw12189959104689951524 : Nat := 0
noncomputable def PySem.W.Fast.tw17596943705171191976 : Nat := 0
noncomputable def PySem.W.Fast.tw3175687289189716199 : Nat := 0
noncomputable def PySem.W.Fast.tw11872750851270129887 : Nat := 0
noncomputable def PySem.W.Fast.tw16369620550402907441 : Nat := 0
noncomputable def PySem.W.Fast.tw4385976107412192318 : Nat := 0
noncomputable def PySem.W.Fast.tw3213608390318846879 : Nat := 0
noncomputable def PySem.W.Fast.tw12560303099933102601 : Nat := 0
noncomputable def PySem.W.Fast.tw17032561444859618317 : Nat := 0
noncomputable def PySem.W.Fast.tw2304885822255013124 : Nat := 0
noncomputable def PySem.W.Fast.tw12675485515933100408 : Nat := 0
noncomputable def PySem.W.Fast.tw12523670512853547708 : Nat := 0
noncomputable def PySem.W.Fast.tw11900985107363323232 : Nat := 0
noncomputable def PySem.W.Fast.tw17192388250576054386 : Nat := 0
noncomputable def PySem.W.Fast.tw17773653357379847110 : Nat := 0
noncomputable def PySem.W.Fast.tw1730116387685031634 : Nat := 0
noncomputable def PySem.W.Fast.tw7059958102910380196 : Nat := 0
noncomputable def PySem.W.Fast.tw308315844623935483 : Nat := 0
noncomputable def PySem.W.Fast.tw9891784705675987832 : Nat := 0
noncomputable def PySem.W.Fast.tw14329464199648897894 : Nat := 0
noncomputable def PySem.W.Fast.tw13123552473706551147 : Nat := 0
noncomputable def PySem.W.Fast.tw4552041387990022923 : Nat := 0
noncomputable def PySem.W.Fast.tw3579753127922507555 : Nat := 0
noncomputable def PySem.W.Fast.tw17889792396065786016 : Nat := 0
noncomputable def PySem.W.Fast.tw9187705371016592457 : Nat := 0
noncomputable def PySem.W.Fast.tw928903285746861264 : Nat := 0
noncomputable def PySem.W.Fast.tw9455248871488784039 : Nat := 0
noncomputable def PySem.W.Fast.tw9646175078900274964 : Nat := 0
noncomputable def PySem.W.Fast.tw12935661295332785785 : Nat := 0
open PySem PySem.W PyProof.Rows
set_option maxRecDepth 100000 in
set_option maxHeartbeats 0 in
theorem PySem.Challenge.cw_panelplace_k33_rows_not_read_holds : PySem.Challenge.rw_panelplace_k33_rows_not_read.Holds := by
  w_on; o_law; z_head; (case hw => w_witness2)
  refine Pp.walkX (fun _ => by kernel_rfl) ?_
  refine Pp.walk (l := PySem.Challenge.rw_panelplace_k33_rows_not_read) rfl rfl (fun w h Y => Y) ?F
  case F =>
    intro w mg fa h KX G hmg
    refine' Pp.all_mk KX G hmg ?oa_Sheet ?a0 ?a1 ?a2 ?a3 ?a4 ?a5 ?a6 ?a7 ?a8 ?a9 ?a10 ?a11 ?a12 ?a13 ?a14 ?a15 ?a16 ?a17 ?a18 ?a19 ?a20 ?a21 ?a22 ?a23 ?a24 ?a25 ?a26 ?a27 ?a28 ?a29 ?a30 ?a31 ?a32 ?a33 ?a34 ?a35 ?a36 ?a37 ?a38 ?a39 ?a40 ?a41 ?a42 ?a43 ?a44 ?a45 ?a46 ?a47 ?a48 ?a49 ?l49 ?c49 ?k49 ?z0 ?z1 ?z2 ?z3 ?z4 ?z5 ?z6 ?z7 ?z8 ?z9 ?z10 ?y0 ?yl0 ?yt0 ?yz0 ?yv0 ?y1 ?yl1 ?yt1 ?yz1 ?yv1 ?y2 ?yl2 ?yt2 ?yz2 ?yv2 ?y3 ?y4 ?y5 ?y6 ?y7 ?y8 ?xa0 ?xa1 ?xa2 ?xa3 ?xa4 ?xa5 ?xa6 ?xa7 ?xa8 ?xa9 ?xa10 ?xa12 ?xe0 ?xe1 ?xe2 ?xe3 ?xs3_3 ?xs3_12 ?xe4 ?xs4_3 ?xs4_4 ?xs4_12 ?xe5 ?xs5_3 ?xs5_4 ?xs5_5 ?xs5_12 ?xe6 ?xs6_3 ?xs6_4 ?xs6_5 ?xs6_6 ?xs6_12 ?xe7 ?xs7_3 ?xs7_4 ?xs7_5 ?xs7_6 ?xs7_7 ?xs7_12 ?xe8 ?xs8_3 ?xs8_4 ?xs8_5 ?xs8_6 ?xs8_7 ?xs8_8 ?xs8_12 ?xe9 ?xs9_3 ?xs9_4 ?xs9_5 ?xs9_6 ?xs9_7 ?xs9_8 ?xs9_9 ?xs9_12 ?xe10 ?xs10_3 ?xs10_4 ?xs10_5 ?xs10_6 ?xs10_7 ?xs10_8 ?xs10_9 ?xs10_10 ?xs10_12 ?xe12 ?xi12 ?xs12_0 ?xk12_3 ?xk12_4 ?xk12_5 ?xk12_7 ?xs12_12 ?xk12_12 ?opg_Sheet ?ohd_Sheet ?opo_Sheet ?osa_Sheet ?omk_Sheet ?okc_Sheet ?on_Sheet_standing ?on_Sheet_struck_so_far ?on_Sheet_panel ?on_Sheet_card_by_judge ?on_Sheet_taken_so_far ?on_Sheet_sealed
    (case oa_Sheet => k_is)
    (case a0|a2|a3|a23 => exact L2.dm (by k_is) (by k_is) (by k_is) (by k_is) (by k_is) (fun _ _ _ _ _ _ => L2.onS fun _ => L2.on0 rfl))
    (case a1|a22|a24 => exact L2.dm (by k_is) (by k_is) (by k_is) (by k_is) (by k_is) (fun _ _ _ _ _ _ => L2.onS fun _ => L2.onS fun _ => L2.on0 rfl))
    (case a4|a5|a8|a9|a11|a12|a13|a15|a16|a20|a25|a27|a28|a30|a31|a32|a33|a34|a36|a38|a43|a46|a48 => exact L2.df (by k_is) (by k_is) (by k_is) (by k_is) (fun _ _ _ _ _ _ => L2.onS fun _ => L2.on0 rfl))
    (case a6|a7|a10|a14|a17|a18|a19|a26|a29|a35|a40|a41|a47 => exact L2.df (by k_is) (by k_is) (by k_is) (by k_is) (fun _ _ _ _ _ _ => L2.onS fun _ => L2.onS fun _ => L2.on0 rfl))
    (case a21|a39 => exact L2.dm (by k_is) (by k_is) (by k_is) (by k_is) (by k_is) (fun _ _ _ _ _ _ => L2.onS fun _ => L2.onS fun _ => L2.onS fun _ => L2.on0 rfl))
    (case a37|a42 => exact L2.df (by k_is) (by k_is) (by k_is) (by k_is) (fun _ _ _ _ _ _ => L2.onS fun _ => L2.onS fun _ => L2.onS fun _ => L2.on0 rfl))
    (case a44|a45 => exact L2.df (by k_is) (by k_is) (by k_is) (by k_is) (fun _ _ _ _ _ _ => L2.onS fun _ => L2.onS fun _ => L2.onS fun _ => L2.onS fun _ => L2.on0 rfl))
    (case a49|l49|c49|k49|z0|z1|z2|z3|z4|z5|z6|z7|z8|z9|z10|y0|yl0 => k_is)
    (case yt0 => exact rfl)
    (case yz0 => decide)
    (case yv0 => exact .cons ⟨_, rfl⟩ (.cons ⟨_, rfl⟩ (.cons ⟨_, rfl⟩ (.cons ⟨_, rfl⟩ (.cons ⟨_, rfl⟩ (.nil))))))
    (case y1|yl1 => k_is)
    (case yt1 => exact rfl)
    (case yz1 => decide)
    (case yv1 => exact .cons ⟨_, rfl⟩ (.cons ⟨_, rfl⟩ (.cons ⟨_, rfl⟩ (.cons ⟨_, rfl⟩ (.nil)))))
    (case y2|yl2 => k_is)
    (case yt2 => exact rfl)
    (case yz2 => decide)
    (case yv2 => exact .cons ⟨_, rfl⟩ (.cons ⟨_, rfl⟩ (.cons ⟨_, rfl⟩ (.nil))))
    (case y3|y4|y5|y6|y7|y8|xa0|xa1|xa2|xa3|xa4|xa5|xa6|xa7|xa8|xa9|xa10|xa12 => k_is)
    (case xe0|xe1|xe2|xe3|xs3_3|xs3_12|xe4|xs4_3|xs4_4|xs4_12|xe5|xs5_3|xs5_4|xs5_5|xs5_12|xe6|xs6_3|xs6_4|xs6_5|xs6_6|xs6_12|xe7|xs7_3|xs7_4|xs7_5|xs7_6|xs7_7|xs7_12|xe8|xs8_3|xs8_4|xs8_5|xs8_6|xs8_7|xs8_8|xs8_12|xe9|xs9_3|xs9_4|xs9_5|xs9_6|xs9_7|xs9_8|xs9_9|xs9_12|xe10|xs10_3|xs10_4|xs10_5|xs10_6|xs10_7|xs10_8|xs10_9|xs10_10|xs10_12|xe12|xi12|xs12_0|xk12_3|xk12_4|xk12_5|xk12_7|xs12_12|xk12_12 => kernel_rfl)
    (case opg_Sheet|ohd_Sheet|opo_Sheet|osa_Sheet|omk_Sheet|okc_Sheet|on_Sheet_standing|on_Sheet_struck_so_far|on_Sheet_panel|on_Sheet_card_by_judge|on_Sheet_taken_so_far|on_Sheet_sealed => k_is)

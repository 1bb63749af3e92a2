import PyProof.Rows.All
import Wide.All
import OpenK.AllK
import Wide.FinOn
import Lean
import PyProof.EqAt
import PyProof.EqKinds
import PyProof.TupleCall
import KE.KIntText
import KE.KSortAsk
import KE.KSortKey
import KE.KSortTup
import KE.KItemsList
import KE.KLam
import KE.KNestM
import PyProof.ListRange
import PyProof.Rows.StrLen
import PyProof.Rows.Range3
import PyProof.CallStr
import PyProof.StrBlockL
import PyProof.MeetsStr
import PyProof.Rows.StrDigits
import PySem.Challenge.RW_panelplace_k18_sheet_made

set_option Elab.async false
set_option linter.all false
set_option maxRecDepth 100000

namespace L2
open PySem PySem.Spec PyProof.Rows
noncomputable abbrev Key := Sum Int Str
noncomputable def keyIs : Key → Value → Bool
  | .inl k, v => Value.isInt k v
  | .inr x, v => Value.isStrOf x v
noncomputable def keyH (w : World) : Key → Int
  | .inl k => hashInt k
  | .inr x => hashStr w x
theorem keyIs_shape : ∀ {k : Key} {v : Value}, keyIs k v = true → (∃ i t, k = Sum.inl i ∧ v = Value.int i t) ∨ (∃ x t, k = Sum.inr x ∧ v = Value.str x t)
  | .inl i, v, h => by
    obtain ⟨t, e⟩ := Value.isInt_shape (k := i) (v := v) h
    exact .inl ⟨i, t, rfl, e⟩
  | .inr x, v, h => by
    obtain ⟨t, e⟩ := Value.isStrOf_shape (x := x) (v := v) h
    exact .inr ⟨x, t, rfl, e⟩
theorem keyIs_int (i : Int) (t : Tok) : keyIs (.inl i) (.int i t) = true := by simp [keyIs, Value.isInt]
theorem keyIs_str (x : Str) (t : Tok) : keyIs (.inr x) (.str x t) = true := by simp [keyIs, Value.isStrOf]
theorem key_ll (a b : Int) : decide ((Sum.inl a : Key) = Sum.inl b) = (a == b) := by
  by_cases e : a = b
  · subst e; simp
  · have h : ¬ (Sum.inl a : Key) = Sum.inl b := fun q => e (Sum.inl.inj q)
    rw [decide_eq_false h]
    exact (beq_eq_false_iff_ne.mpr e).symm
theorem key_rr (a b : Str) : decide ((Sum.inr a : Key) = Sum.inr b) = decide (a = b) := by
  by_cases e : a = b
  · subst e; simp
  · have h : ¬ (Sum.inr a : Key) = Sum.inr b := fun q => e (Sum.inr.inj q)
    rw [decide_eq_false h, decide_eq_false e]
theorem key_lr (a : Int) (b : Str) : decide ((Sum.inl a : Key) = Sum.inr b) = false := decide_eq_false (fun q => nomatch q)
theorem key_rl (a : Str) (b : Int) : decide ((Sum.inr a : Key) = Sum.inl b) = false := decide_eq_false (fun q => nomatch q)
noncomputable def mixKind (prog : Program) (w : World) : PySem.KeyKind prog w Key where
  is := keyIs
  hash := keyH w
  inj := fun v a b ha hb => by
    rcases keyIs_shape ha with ⟨i, t, rfl, rfl⟩ | ⟨x, t, rfl, rfl⟩
    · rcases keyIs_shape hb with ⟨j, u, rfl, e⟩ | ⟨y, u, rfl, e⟩
      · injection e with e1 _; rw [e1]
      · exact nomatch e
    · rcases keyIs_shape hb with ⟨j, u, rfl, e⟩ | ⟨y, u, rfl, e⟩
      · exact nomatch e
      · injection e with e1 _; rw [e1]
  byValue := fun k v h => by
    rcases keyIs_shape h with ⟨i, t, rfl, rfl⟩ | ⟨x, t, rfl, rfl⟩ <;> rfl
  pyHash := fun hv h => by
    rcases keyIs_shape hv with ⟨i, t, rfl, rfl⟩ | ⟨x, t, rfl, rfl⟩
    · exact wpAny_pyHash_int h
    · exact wpAny_pyHash_str h
  eqBool := fun hu hv h => by
    rcases keyIs_shape hu with ⟨i, t, rfl, rfl⟩ | ⟨x, t, rfl, rfl⟩
    · rcases keyIs_shape hv with ⟨j, u, rfl, rfl⟩ | ⟨y, u, rfl, rfl⟩
      · rw [key_ll] at h; exact wpAny_eqBool_int h
      · rw [key_lr] at h; exact SeqAt.EqAt.int_str i t y u _ _ _ _ h
    · rcases keyIs_shape hv with ⟨j, u, rfl, rfl⟩ | ⟨y, u, rfl, rfl⟩
      · rw [key_rl] at h; exact SeqAt.EqAt.str_int x t j u _ _ _ _ h
      · rw [key_rr] at h; exact wpAny_eqBool_str h
  «strs» := fun k x t v h => by
    rcases keyIs_shape h with ⟨i, u, rfl, e⟩ | ⟨y, u, rfl, e⟩
    · exact nomatch e
    · injection e with e1 _
      subst e1
      cases v <;> rfl
theorem mixKind_int (prog : Program) (w : World) (i : Int) (t : Tok) : (mixKind prog w).is (.inl i) (.int i t) = true := keyIs_int i t
theorem mixKind_str (prog : Program) (w : World) (x : Str) (t : Tok) : (mixKind prog w).is (.inr x) (.str x t) = true := keyIs_str x t
end L2
namespace L2
open PySem PySem.Spec PyProof.Rows
inductive V where
  | non | bl (b : Bool) | int (i : Int) | str (x : Str) | byt (b : Array UInt8) | flt (b : UInt64) | ref (a : Addr) | ty (n : String)
  deriving DecidableEq
noncomputable def RelV : V → Value → Prop
  | .non, u => u = Value.none
  | .bl b, u => u = Value.bool b
  | .int i, u => ∃ t, u = Value.int i t
  | .str x, u => ∃ t, u = Value.str x t
  | .byt b, u => ∃ t, u = Value.bytes b t
  | .flt b, u => ∃ t, u = Value.float b t
  | .ref a, u => u = Value.ref a
  | .ty n, u => u = Value.type n
noncomputable abbrev Vals : List V → List Value → Prop := Paired RelV
theorem Vals.length {xs : List V} {us : List Value} (r : Vals xs us) : xs.length = us.length := Paired.length r
theorem Vals.get : ∀ {xs : List V} {us : List Value} {i : Nat} {x : V}, Vals xs us → xs[i]? = some x → ∃ u, us[i]? = some u ∧ RelV x u
  | _, _, _, _, .nil, e => by simp at e
  | _, _, 0, _, .cons r _, e => by simp at e; subst e; exact ⟨_, rfl, r⟩
  | _, _, i + 1, x, .cons _ t, e => by
    obtain ⟨u, h1, h2⟩ := Vals.get (i := i) (x := x) t (by simpa using e)
    exact ⟨u, by simpa using h1, h2⟩
theorem Vals.set {x : V} {u : Value} (r : RelV x u) : ∀ {xs : List V} {us : List Value} (i : Nat), Vals xs us → Vals (xs.set i x) (us.set i u)
  | _, _, _, .nil => .nil
  | _, _, 0, .cons _ t => .cons r t
  | _, _, i + 1, .cons q t => .cons q (Vals.set r i t)
theorem Vals.append : ∀ {xs ys : List V} {us ws : List Value}, Vals xs us → Vals ys ws → Vals (xs ++ ys) (us ++ ws)
  | _, _, _, _, .nil, s => s
  | _, _, _, _, .cons r t, s => .cons r (Vals.append t s)
theorem Vals.take : ∀ {xs : List V} {us : List Value} (n : Nat), Vals xs us → Vals (xs.take n) (us.take n)
  | _, _, 0, _ => .nil
  | _, _, _ + 1, .nil => .nil
  | _, _, n + 1, .cons r t => .cons r (Vals.take n t)
theorem Vals.drop : ∀ {xs : List V} {us : List Value} (n : Nat), Vals xs us → Vals (xs.drop n) (us.drop n)
  | _, _, 0, r => r
  | _, _, _ + 1, .nil => .nil
  | _, _, n + 1, .cons _ t => Vals.drop n t
noncomputable def RelO : Option V → Option Value → Prop
  | some v, some u => RelV v u
  | none, none => True
  | _, _ => False
noncomputable def KV {κ : Type} : List (κ × V) → List (κ × Value) → Prop := Paired fun (p : κ × V) (q : κ × Value) => p.1 = q.1 ∧ RelV p.2 q.2
noncomputable def kV : Key → V
  | .inl i => .int i
  | .inr x => .str x
inductive HO where
  /-- a list -/
  | lst (xs : List V)
  /-- a tuple (never changes) -/
  | tup (xs : List V)
  /-- a dict whose keys are ints and texts; one whose keys are tuples of ints and texts (the empty one is both) -/
  | dK (kvs : List (Key × V)) | dT (kvs : List (List Key × V))
  /-- a set of ints: its members, its size -/
  | set (S : Int → Bool) (n : Nat)
  /-- an instance of the class at C, its dict at dx, its attributes -/
  | ins (C dx : Addr) (fs : List (Str × V))
  /-- the dict of the instance at x -/
  | own (x : Addr)
  /-- the dict of an exception -/
  | xd (fs : List (Str × V))
  /-- a bound method, f of x -/
  | met (f x : Addr)
  /-- a range object lo, lo + 1, .. below hi -/
  | rng (lo hi : Int)
  /-- a thing that is known to the object (the script; a dict while a loop walks it): read, never written while it is so -/
  | frz (o : Obj) (u : HO)
  /-- a code object's table -/
  | tbl (ps : Array Value)
  /-- any other thing, by what is true of its one object (a def of one's own: SetO a S n := HO.ext fun h => ..) -/
  | ext (φ : Heap → Prop)
noncomputable abbrev Hp := Addr → Option HO
noncomputable def upd (H : Hp) (a : Addr) (o : HO) : Hp := fun b => if b = a then some o else H b
theorem upd_same {H : Hp} {a : Addr} {o : HO} : upd H a o a = some o := by unfold upd; rw [if_pos rfl]
theorem upd_ne {H : Hp} {a b : Addr} {o : HO} (h : b ≠ a) : upd H a o b = H b := by unfold upd; rw [if_neg h]
theorem upd_upd {H : Hp} {a : Addr} {o u : HO} : upd (upd H a o) a u = upd H a u := by
  funext b; unfold upd; split <;> rfl
theorem ne_of {H : Hp} {a b : Addr} {o u : HO} (h : H a = some o) (h' : H b = some u) (d : o ≠ u) : a ≠ b := by
  intro e; subst e; rw [h] at h'; exact d (Option.some.inj h')
theorem ne_of_none {H : Hp} {a b : Addr} {o : HO} (h : H a = some o) (h' : H b = none) : a ≠ b := by
  intro e; subst e; rw [h] at h'; cases h'
section
variable (P : Program) (w : World)
noncomputable def ObjOk (H : Hp) (h : Heap) (a : Addr) : HO → Prop
  | .lst xs => xs.length ≤ sizeLine ∧ ∃ (its : List Value) (n : Nat), Vals xs its ∧ h.get? a = some { cls := .type "list", data := .seq its.toArray n }
  | .tup xs => xs.length ≤ sizeLine ∧ ∃ its : List Value, Vals xs its ∧ IsTup h a its.toArray
  | .dK kvs => kvs.length ≤ sizeLine ∧ (a == sysModules) = false ∧ ∃ vs, KV kvs vs ∧ h.DictOf (mixKind P w) a vs
  | .dT kvs => kvs.length ≤ sizeLine ∧ (a == sysModules) = false ∧ ∃ xs : List (List Key × Addr × Value),
      Paired (fun (p : List Key × V) (q : List Key × Addr × Value) => p.1 = q.1 ∧ H q.2.1 = some (.tup (p.1.map kV)) ∧ RelV p.2 q.2.2) kvs xs ∧
      ∃ o es ep, h.get? a = some o ∧ o.ExactDict ∧ o.data = .dict es ep ∧ es.toList = xs.map (entryOfKey (tupleKind (mixKind P w))) ∧ (xs.map (·.1)).Nodup
  | .set S n => h.SetOf (intKind P w) a S n
  | .ins C dx fs => H dx = some (.own a) ∧ fs.length ≤ 1000 ∧ dx ≠ a ∧ h.get? a = some (PySem.W.instObj C dx) ∧
      ∃ mA, h.Ns1 dx mA ∧ (∀ f, RelO (fs.lookup f) (mA f)) ∧ PySem.Within mA (fs.map (·.1))
  | .own _ => ∃ o, h.get? a = some o
  | .xd fs => ∃ mA, h.Ns1 a mA ∧ ∀ f, RelO (fs.lookup f) (mA f)
  | .rng lo hi => ∃ t u v, h.get? a = some { cls := .type "range", data := .fields #[.int lo t, .int hi u, .int 1 v] }
  | .frz o u => h.get? a = some o ∧ ObjOk H h a u
  | .tbl ps => h.get? a = some { cls := .none, data := .fields ps }
  | .met f x => h.get? a = some (PySem.W.methodObj (.ref f) (.ref x))
  | .ext φ => φ h ∧ (∃ o, h.get? a = some o) ∧ ∀ h1 h2 : Heap, φ h1 → (∀ o, h1.get? a = some o → h2.get? a = some o) → φ h2
noncomputable def HOk (H : Hp) (h : Heap) : Prop := ∀ a o, H a = some o → ObjOk P w H h a o
end
section
variable {P : Program} {w : World} {H H' : Hp} {h h' : Heap} {a : Addr} {o : HO}
theorem ObjOk.lt (x : ObjOk P w H h a o) : a < h.objs.size := by
  cases o with
  | lst xs => obtain ⟨_, _, _, _, e⟩ := x; exact Heap.lt_size e
  | tup xs => obtain ⟨_, _, _, p⟩ := x; exact p.lt
  | dK kvs => obtain ⟨_, _, _, _, o, _, _, e, _⟩ := x; exact Heap.lt_size e
  | dT kvs => obtain ⟨_, _, _, _, o, _, _, e, _⟩ := x; exact Heap.lt_size e
  | set S n => obtain ⟨o, _, _, _, e, _⟩ := x; exact Heap.lt_size e
  | ins C dx fs => obtain ⟨_, _, _, e, _⟩ := x; exact Heap.lt_size e
  | own y => obtain ⟨_, e⟩ := x; exact Heap.lt_size e
  | xd fs => obtain ⟨_, ⟨_, _, _, e, _⟩, _⟩ := x; exact Heap.lt_size e
  | rng lo hi => obtain ⟨_, _, _, e⟩ := x; exact Heap.lt_size e
  | frz ob u => obtain ⟨e, _⟩ := x; exact Heap.lt_size e
  | tbl ps => exact Heap.lt_size (show h.get? a = some _ from x)
  | met f y => exact Heap.lt_size (show h.get? a = some _ from x)
  | ext φ => obtain ⟨_, ⟨_, e⟩, _⟩ := x; exact Heap.lt_size e
theorem Paired.mapP {α β : Type} {F G : α → β → Prop} : ∀ {l₁ : List α} {l₂ : List β}, Paired F l₁ l₂ → (∀ a b, F a b → G a b) → Paired G l₁ l₂
  | _, _, .nil, _ => .nil
  | _, _, .cons r t, f => .cons (f _ _ r) (Paired.mapP t f)
theorem ObjOk.stay (x : ObjOk P w H h a o) (k : ∀ b u, (b = a ∨ H b = some (.own a)) → h.get? b = some u → h'.get? b = some u)
    (ho : ∀ b, H b = some (.own a) → H' b = some (.own a)) (ht : ∀ b xs, H b = some (.tup xs) → H' b = some (.tup xs)) : ObjOk P w H' h' a o := by
  induction o with
  | lst xs => obtain ⟨z, its, n, r, e⟩ := x; exact ⟨z, its, n, r, k _ _ (.inl rfl) e⟩
  | tup xs => obtain ⟨z, its, r, ob, e, c⟩ := x; exact ⟨z, its, r, ob, k _ _ (.inl rfl) e, c⟩
  | dK kvs => obtain ⟨z, y, vs, r, ob, es, ep, e, c⟩ := x; exact ⟨z, y, vs, r, ob, es, ep, k _ _ (.inl rfl) e, c⟩
  | dT kvs =>
    obtain ⟨z, y, xs, r, ob, es, ep, e, c⟩ := x
    exact ⟨z, y, xs, Paired.mapP r fun p q z => ⟨z.1, ht _ _ z.2.1, z.2.2⟩, ob, es, ep, k _ _ (.inl rfl) e, c⟩
  | set S n => obtain ⟨ob, es, ep, t, e, c⟩ := x; exact ⟨ob, es, ep, t, k _ _ (.inl rfl) e, c⟩
  | ins C dx fs =>
    obtain ⟨d, z, ne, e, mA, ⟨od, es, ep, e2, c⟩, r⟩ := x
    exact ⟨ho _ d, z, ne, k _ _ (.inl rfl) e, mA, ⟨od, es, ep, k _ _ (.inr d) e2, c⟩, r⟩
  | own y => obtain ⟨ob, e⟩ := x; exact ⟨ob, k _ _ (.inl rfl) e⟩
  | xd fs => obtain ⟨mA, ⟨od, es, ep, e, c⟩, r⟩ := x; exact ⟨mA, ⟨od, es, ep, k _ _ (.inl rfl) e, c⟩, r⟩
  | rng lo hi => obtain ⟨t, u, v, e⟩ := x; exact ⟨t, u, v, k _ _ (.inl rfl) e⟩
  | frz ob u ih => obtain ⟨e, q⟩ := x; exact ⟨k _ _ (.inl rfl) e, ih q⟩
  | tbl ps =>
    have e : h.get? a = some { cls := .none, data := .fields ps } := x
    show h'.get? a = some { cls := .none, data := .fields ps }
    exact k a _ (.inl rfl) e
  | met f y =>
    have e : h.get? a = some (PySem.W.methodObj (.ref f) (.ref y)) := x
    show h'.get? a = some (PySem.W.methodObj (.ref f) (.ref y))
    exact k a _ (.inl rfl) e
  | ext φ => obtain ⟨p, ⟨o, e⟩, st⟩ := x; exact ⟨st _ _ p fun o q => k _ _ (.inl rfl) q, ⟨o, k _ _ (.inl rfl) e⟩, st⟩
theorem HOk.lt (x : HOk P w H h) (e : H a = some o) : a < h.objs.size := (x a o e).lt
theorem HOk.fresh (x : HOk P w H h) (e : h.objs.size ≤ a) : H a = none := by
  cases q : H a with
  | none => rfl
  | some u => exact absurd (Nat.lt_of_lt_of_le (x.lt q) e) (Nat.lt_irrefl _)
theorem HOk.kept (x : HOk P w H h) (k : ∀ b u, h.get? b = some u → h'.get? b = some u) : HOk P w H h' := fun a o e =>
  (x a o e).stay (fun b u _ q => k b u q) (fun _ q => q) fun _ _ q => q
theorem HOk.laid (x : HOk P w H h) (k : ∀ b u, h.get? b = some u → h'.get? b = some u) (hp : h.objs.size ≤ a) (new : ObjOk P w (upd H a o) h' a o) : HOk P w (upd H a o) h' := fun b u e => by
  have hn := x.fresh hp
  by_cases hb : b = a
  · subst hb; rw [upd_same] at e; cases e; exact new
  · rw [upd_ne hb] at e
    exact (x b u e).stay (fun c v _ q => k c v q) (fun c q => by rw [upd_ne (ne_of_none q hn)]; exact q) fun c xs q => by rw [upd_ne (ne_of_none q hn)]; exact q
end
noncomputable def Rd (H : Hp) (a : Addr) (u : HO) : Prop := H a = some u ∨ ∃ o, H a = some (.frz o u)
theorem Rd.of {H : Hp} {a : Addr} {u : HO} (h : H a = some u) : Rd H a u := .inl h
theorem Rd.ok {P : Program} {w : World} {H : Hp} {h : Heap} {a : Addr} {u : HO} (r : Rd H a u) (x : HOk P w H h) : ObjOk P w H h a u := by
  rcases r with r | ⟨o, r⟩
  · exact x a u r
  · obtain ⟨_, q⟩ := x a _ r
    exact q
noncomputable def Mut : Option HO → Prop
  | some (.lst _) => True
  | some (.dK _) => True
  | some (.dT _) => True
  | some (.set _ _) => True
  | some (.ins _ _ _) => True
  | some (.ext _) => True
  | _ => False
section
variable {P : Program} {w : World} {H : Hp} {h h' : Heap} {x e : Addr} {o' : HO}
theorem HOk.write (ok : HOk P w H h) (mu : Mut (H x)) (he : e = x ∨ H e = some (.own x)) (k : ∀ b u, b ≠ e → h.get? b = some u → h'.get? b = some u) (heo : ∃ u, h'.get? e = some u)
    (new : ObjOk P w (upd H x o') h' x o') : HOk P w (upd H x o') h' := fun b u q => by
  have nown : ∀ c y, H c = some (.own y) → c ≠ x := fun c y r z => by subst z; rw [r] at mu; exact mu
  have ntup : ∀ c xs, H c = some (.tup xs) → c ≠ x := fun c xs r z => by subst z; rw [r] at mu; exact mu
  by_cases hb : b = x
  · subst hb; rw [upd_same] at q; cases q; exact new
  · rw [upd_ne hb] at q
    by_cases hbe : b = e
    · have q' : H b = some (.own x) := by
        rcases he with z | z
        · exact absurd (hbe.trans z) hb
        · rw [hbe]; exact z
      rw [q] at q'; cases q'
      obtain ⟨v, hv⟩ := heo
      exact ⟨v, by rw [hbe]; exact hv⟩
    · refine (ok b u q).stay (fun c v hc r => k c v ?_ r) (fun c r => by rw [upd_ne (nown c b r)]; exact r) fun c xs r => by rw [upd_ne (ntup c xs r)]; exact r
      rcases hc with rfl | hc
      · exact hbe
      · rintro rfl
        rcases he with z | z
        · exact nown c b hc z
        · rw [hc] at z; cases z; exact hb rfl
end

structure Un (fs ex : List Addr) (H H' : Hp) (h h' : Heap) : Prop where
  keep : ∀ b o, h.get? b = some o → H b = none → b ∉ fs → b ∉ ex → h'.get? b = some o
  slot : ∀ b o, h.get? b = some o → H b = none → b ∈ fs → b ∉ ex → ∃ sl, h'.get? b = some { o with slots := sl }
  free : ∀ b o, h.get? b = some o → H b = none → b ∉ ex → H' b = none
  there : ∀ b o, h.get? b = some o → b ∉ ex → ∃ o', h'.get? b = some o'
  tups : ∀ b xs, H b = some (.tup xs) → H' b = some (.tup xs)
  frzs : ∀ b o u, H b = some (.frz o u) → H' b = some (.frz o u)
  tbls : ∀ b ps, H b = some (.tbl ps) → ∃ more, H' b = some (.tbl (ps ++ more))
section
variable {fs fs' ex ex' : List Addr} {H H1 H2 : Hp} {h h1 h2 h' : Heap} {a x e : Addr} {o : HO}
theorem Un.any (u : Un fs ex H H1 h h1) {b : Addr} {ob : Obj} (q : h.get? b = some ob) (n : H b = none) (hx : b ∉ ex) : ∃ sl, h1.get? b = some { ob with slots := sl } := by
  by_cases hb : b ∈ fs
  · exact u.slot b ob q n hb hx
  · exact ⟨ob.slots, u.keep b ob q n hb hx⟩
theorem Un.trans (a : Un fs ex H H1 h h1) (b : Un fs ex H1 H2 h1 h2) : Un fs ex H H2 h h2 where
  keep := fun c ob q n hc hx => b.keep c ob (a.keep c ob q n hc hx) (a.free c ob q n hx) hc hx
  slot := fun c ob q n hc hx => by
    obtain ⟨sl, e1⟩ := a.slot c ob q n hc hx
    obtain ⟨sl', e2⟩ := b.slot c _ e1 (a.free c ob q n hx) hc hx
    exact ⟨sl', e2⟩
  free := fun c ob q n hx => by
    obtain ⟨o', e1⟩ := a.there c ob q hx
    exact b.free c o' e1 (a.free c ob q n hx) hx
  there := fun c ob q hx => by
    obtain ⟨o', e1⟩ := a.there c ob q hx
    exact b.there c o' e1 hx
  tups := fun c xs q => b.tups c xs (a.tups c xs q)
  frzs := fun c ob xs q => b.frzs c ob xs (a.frzs c ob xs q)
  tbls := fun c ps q => by
    obtain ⟨m1, e1⟩ := a.tbls c ps q
    obtain ⟨m2, e2⟩ := b.tbls c _ e1
    exact ⟨m1 ++ m2, by rw [e2, Array.append_assoc]⟩
theorem Un.kept (k : ∀ b u, h.get? b = some u → h'.get? b = some u) : Un fs ex H H h h' :=
  ⟨fun b ob q _ _ _ => k b ob q, fun b ob q _ _ _ => ⟨ob.slots, k b ob q⟩, fun _ _ _ n _ => n, fun b ob q _ => ⟨ob, k b ob q⟩, fun _ _ q => q, fun _ _ _ q => q, fun _ ps q => ⟨#[], by rw [q]; simp⟩⟩
theorem Un.refl : Un fs ex H H h h := Un.kept fun _ _ q => q
theorem Un.laid (k : ∀ b u, h.get? b = some u → h'.get? b = some u) (hp : h.objs.size ≤ a) (hn : H a = none) : Un fs ex H (upd H a o) h h' where
  keep := fun b u q _ _ _ => k b u q
  slot := fun b u q _ _ _ => ⟨u.slots, k b u q⟩
  free := fun b u q n _ => by rw [upd_ne (Nat.ne_of_lt (Nat.lt_of_lt_of_le (Heap.lt_size q) hp))]; exact n
  there := fun b u q _ => ⟨u, k b u q⟩
  tups := fun b xs q => by rw [upd_ne (ne_of_none q hn)]; exact q
  frzs := fun b u xs q => by rw [upd_ne (ne_of_none q hn)]; exact q
  tbls := fun b ps q => ⟨#[], by rw [upd_ne (ne_of_none q hn), q]; simp⟩
theorem Un.write (mu : Mut (H x)) (he : e = x ∨ H e = some (.own x)) (k : ∀ b u, b ≠ e → h.get? b = some u → h'.get? b = some u) (heo : ∃ u, h'.get? e = some u) : Un fs ex H (upd H x o) h h' := by
  have hx : ∀ b, H b = none → b ≠ x := fun b n z => by subst z; rw [n] at mu; exact mu
  have hb : ∀ b, H b = none → b ≠ e := fun b n z => by
    subst z
    rcases he with r | r
    · exact hx b n r
    · rw [n] at r; cases r
  have hm : ∀ b u, H b = some u → ¬ Mut (some u) → b ≠ x := fun b u q nm z => by subst z; rw [q] at mu; exact nm mu
  refine ⟨fun b u q n _ _ => k b u (hb b n) q, fun b u q n _ _ => ⟨u.slots, k b u (hb b n) q⟩, fun b u q n _ => by rw [upd_ne (hx b n)]; exact n, fun b u q _ => ?_,
    fun b xs q => by rw [upd_ne (hm b _ q fun z => z)]; exact q, fun b u xs q => by rw [upd_ne (hm b _ q fun z => z)]; exact q, fun b ps q => ⟨#[], by rw [upd_ne (hm b _ q fun z => z), q]; simp⟩⟩
  by_cases hbe : b = e
  · subst hbe; exact heo
  · exact ⟨u, k b u hbe q⟩
end

noncomputable def trk (h : Heap) (H : Hp) : List Addr := (List.range h.objs.size).filter fun a => (H a).isSome
noncomputable def hidT (h : Heap) (H : Hp) : Heap := PySem.W.hideAll h (trk h H)
theorem hidT_size (h : Heap) (H : Hp) : (hidT h H).objs.size = h.objs.size := PySem.W.hideAll_size _ _
theorem hidT_get {h : Heap} {H : Hp} {b : Addr} {o : Obj} (e : h.get? b = some o) (n : H b = none) : (hidT h H).get? b = some o :=
  PySem.W.hideAll_get _ e fun hm => by
    have q : (H b).isSome = true := (List.mem_filter.mp hm).2
    rw [n] at q; simp at q
theorem of_hidT {h : Heap} {H : Hp} {b : Addr} {o : Obj} (e : (hidT h H).get? b = some o) : h.get? b = some o ∧ H b = none := by
  have e' : h.get? b = some o := PySem.W.of_hideAll (trk h H) e
  refine ⟨e', ?_⟩
  cases q : H b with
  | none => rfl
  | some x =>
    have hm : b ∈ trk h H := List.mem_filter.mpr ⟨List.mem_range.mpr (Heap.lt_size e'), by simp [q]⟩
    have z : (hidT h H).get? b = none := PySem.W.hideAll_none (trk h H) hm
    rw [z] at e; cases e

noncomputable def allNews (g h : Heap) (L : Addr) : List (Addr × Obj) := (List.range h.objs.size).filterMap fun a => if a = L ∨ (g.get? a).isSome = true then none else (h.get? a).map fun o => (a, o)
noncomputable def rest (g h : Heap) (L d : Addr) : List (Addr × Obj) := (allNews g h L).filter fun p => decide (p.1 ≠ d)
end L2
namespace L2
open PySem PySem.Spec PyProof.Rows
structure Mod (K : PySem.W.Frag) (mg : Str → Option Value) (base : Heap) : Prop where
  kin : K.In base
  glob : base.Ns mainGlobals mg
  blt : ∃ mb, base.Ns builtinsNs mb ∧ ∀ x : Str, x ≠ "__name__" → mb x = bootBuiltins x
  nolimit : base.NoLimit
/-- the context: a def's body (or a comprehension's block) running. base: fixed through the whole law; s₀, H₀: the entry; outer: the frames whose slots others may change (a def's callers); stack: all frames that run;
   ex: iterators that were made ahead of the entry and are walked here (a comprehension's); fn: the names whose cells were made at the entry (a def: all; a comprehension's block: its own); calm: not within an except suite; pn: pins that every state bears; xe: what is wanted of an exception that leaves the code -/
structure Cx where
  prog : Program
  w : World
  K : PySem.W.Frag
  mg : Str → Option Value
  base : Heap
  A : Around
  N : List Str
  s₀ : Shared
  H₀ : Hp
  env : Env
  outer : List Env
  stack : List Env
  ex : List Addr
  fn : Str → Bool
  calm : Bool
  pn : List (Addr × Obj)
  xe : Value → Shared → Prop
noncomputable def frs (l : List Env) : List Addr := l.filterMap (·.frame)
noncomputable abbrev Cx.fs (X : Cx) : List Addr := frs X.outer
noncomputable def Vis (sc : Scope) (x : Str) : Prop := sc.names.lookup x = some .local ∨ sc.names.lookup x = some .cell ∨ sc.names.lookup x = some .free
noncomputable def Loc (sc : Scope) (x : Str) : Prop := sc.names.lookup x = some .local ∨ sc.names.lookup x = some .cell
noncomputable def Look (env : Env) (h : Heap) (m : Str → Option Value) (x : Str) (u : Value) : Prop :=
  (env.kindOf x = some .local ∧ m x = some u) ∨ ((env.kindOf x = some .cell ∨ env.kindOf x = some .free) ∧ ∃ c, env.cells.lookup x = some c ∧ h.IsCell c (some u))
structure Cx.Ok (X : Cx) : Prop where
  mod : Mod X.K X.mg X.base
  kind : X.env.scope.kind = .function
  glob : X.env.globals = mainGlobals
  blt : X.env.builtins = builtinsNs
  above : X.s₀.heap.objs.size ≤ X.env.locals
  inj : ∀ x y c, X.env.cells.lookup x = some c → X.env.cells.lookup y = some c → x = y
  has : ∀ x, (X.env.kindOf x = some .cell ∨ X.env.kindOf x = some .free) → ∃ c, X.env.cells.lookup x = some c
  cab : ∀ x c, X.fn x = true → X.env.cells.lookup x = some c → X.s₀.heap.objs.size ≤ c
  hd : X.calm = true → X.A.handled = none
  frames : X.A.frames = some X.stack
  stk : X.stack = X.outer ∨ (X.stack = X.env :: X.outer ∧ X.env.frame = some X.env.locals)
  exf : ∀ b ∈ X.ex, b ≠ X.env.locals ∧ ∀ x c, X.env.cells.lookup x = some c → c ≠ b
  bs : ∀ b o, X.base.get? b = some o → X.s₀.heap.get? b = some o ∧ X.H₀ b = none
  bsz : X.base.objs.size ≤ X.s₀.heap.objs.size
  noex : ∀ b o, X.base.get? b = some o → b ∉ X.ex
  exfs : ∀ b ∈ X.ex, b ∉ X.fs
  funs : X.s₀.heap.FunFrames X.base X.outer
  frf : ∀ b ∈ X.fs, X.H₀ b = none
structure Inv (X : Cx) (pins : List (Addr × Obj)) (σ : List (Option V)) (H : Hp) (s : Shared) : Prop where
  ok : X.Ok
  os : s.os = X.s₀.os
  bare : AllBare s.gens
  base : Un X.fs X.ex X.H₀ H X.s₀.heap s.heap
  loc : ∃ m, s.heap.Ns X.env.locals m ∧ ∀ (i : Nat) (x : Str) (v : V), X.N[i]? = some x → σ[i]? = some (some v) → Vis X.env.scope x → ∃ u, RelV v u ∧ Look X.env s.heap m x u
  cell : ∀ x c, X.env.cells.lookup x = some c → ∃ v, s.heap.IsCell c v
  free : H X.env.locals = none
  freeC : ∀ x c, X.env.cells.lookup x = some c → H c = none
  pin : ∀ p ∈ X.pn ++ pins, s.heap.get? p.1 = some p.2 ∧ H p.1 = none ∧ p.1 ≠ X.env.locals ∧ p.1 ∉ X.fs ∧ ∀ v, p.2.data ≠ .cell v
  hok : HOk X.prog X.w H s.heap
  len : σ.length = X.N.length
section
variable {X : Cx} {pins : List (Addr × Obj)} {σ : List (Option V)} {H H' : Hp} {s : Shared} {h' : Heap}
theorem Cx.Ok.nofr (ok : X.Ok) {b : Addr} {o : Obj} (e : X.base.get? b = some o) : b ∉ X.fs := fun hb => by
  have := (ok.funs.mem hb).1
  rw [e] at this; cases this
theorem Inv.bs (I : Inv X pins σ H s) : ∀ b o, X.base.get? b = some o → s.heap.get? b = some o ∧ H b = none := fun b o e =>
  ⟨I.base.keep b o (I.ok.bs b o e).1 (I.ok.bs b o e).2 (I.ok.nofr e) (I.ok.noex b o e), I.base.free b o (I.ok.bs b o e).1 (I.ok.bs b o e).2 (I.ok.noex b o e)⟩
theorem Inv.bk (I : Inv X pins σ H s) : ∀ b o, X.base.get? b = some o → s.heap.get? b = some o := fun b o e => (I.bs b o e).1
theorem Inv.mod (I : Inv X pins σ H s) : Mod X.K X.mg X.base := I.ok.mod
theorem Inv.kIn (I : Inv X pins σ H s) : X.K.In s.heap := I.ok.mod.kin.keeps I.bk
theorem Inv.lt (I : Inv X pins σ H s) : X.env.locals < s.heap.objs.size := let ⟨_, hn, _⟩ := I.loc; hn.lt
theorem Inv.sz (I : Inv X pins σ H s) : X.s₀.heap.objs.size ≤ s.heap.objs.size := Nat.le_trans I.ok.above (Nat.le_of_lt I.lt)
theorem Inv.nofs (I : Inv X pins σ H s) {a : Addr} (h : s.heap.objs.size ≤ a) : a ∉ X.fs := fun hb => by
  obtain ⟨_, o, ho, _⟩ := I.ok.funs.mem hb
  exact absurd (Nat.lt_of_lt_of_le (Heap.lt_size ho) (Nat.le_trans I.sz h)) (Nat.lt_irrefl _)
theorem Inv.cne (I : Inv X pins σ H s) : ∀ x c, X.env.cells.lookup x = some c → c ≠ X.env.locals := fun x c e z => by
  obtain ⟨v, o, ho, hd⟩ := I.cell x c e
  obtain ⟨m, ⟨o', es, ep, ho', hd', _⟩, _⟩ := I.loc
  rw [z, ho'] at ho; cases ho; rw [hd'] at hd; cases hd
theorem Inv.funs (I : Inv X pins σ H s) : s.heap.FunFrames X.base X.outer := by
  have all : ∀ (l : List Env), (∀ b ∈ frs l, b ∈ X.fs) → X.s₀.heap.FunFrames X.base l → s.heap.FunFrames X.base l := by
    intro l
    induction l with
    | nil => intro _ _; trivial
    | cons env r ih =>
      intro hs hl
      obtain ⟨hk, ⟨L, o, hf, hn, ho, hd⟩, hr⟩ := hl
      have hL : L ∈ X.fs := hs L (by unfold frs; rw [List.filterMap_cons, hf]; exact List.mem_cons_self)
      obtain ⟨sl, e⟩ := I.base.slot L o ho (I.ok.frf L hL) hL fun z => I.ok.exfs L z hL
      exact ⟨hk, ⟨L, _, hf, hn, e, hd⟩, ih (fun b hb => hs b (by unfold frs; rw [List.filterMap_cons, hf]; exact List.mem_cons_of_mem _ hb)) hr⟩
  exact all X.outer (fun _ hb => hb) I.ok.funs
theorem Inv.stack (I : Inv X pins σ H s) : s.heap.FunFrames X.base X.stack := by
  rcases I.ok.stk with e | ⟨e, hf⟩
  · rw [e]; exact I.funs
  · rw [e]
    obtain ⟨m, hn, _⟩ := I.loc
    refine .cons (by rw [I.ok.kind]; decide) hf hn ?_ I.funs
    exact Heap.get?_none_of_le (Nat.le_trans I.ok.bsz I.ok.above)
theorem Inv.stkSub (I : Inv X pins σ H s) : ∀ b ∈ frs X.stack, b ∈ X.env.locals :: X.fs := fun b hb => by
  rcases I.ok.stk with e | ⟨e, hf⟩
  · rw [e] at hb; exact List.mem_cons_of_mem _ hb
  · rw [e] at hb
    unfold frs at hb
    rw [List.filterMap_cons, hf] at hb
    exact hb
theorem Inv.stkFree (I : Inv X pins σ H s) : ∀ b ∈ frs X.stack, H b = none := fun b hb => by
  rcases List.mem_cons.mp (I.stkSub b hb) with e | hb
  · rw [e]; exact I.free
  · obtain ⟨_, o, ho, _⟩ := I.ok.funs.mem hb
    exact I.base.free b o ho (I.ok.frf b hb) fun z => I.ok.exfs b z hb
theorem Inv.step {g' : Array GenState} {t' : Nat} {d' : Drawn} {ch : List Addr} (I : Inv X pins σ H s)
    (hch : ∀ b ∈ ch, (b ∈ X.ex ∨ X.s₀.heap.objs.size ≤ b) ∧ b ≠ X.env.locals ∧ (∀ x c, X.env.cells.lookup x = some c → c ≠ b) ∧ ∀ p ∈ X.pn ++ pins, p.1 ≠ b)
    (keep : ∀ b o, b ≠ X.env.locals → b ∉ X.fs → b ∉ ch → s.heap.get? b = some o → H b = none → h'.get? b = some o)
    (slot : ∀ b o, b ≠ X.env.locals → b ∈ X.fs → b ∉ ch → s.heap.get? b = some o → H b = none → ∃ sl, h'.get? b = some { o with slots := sl }) (free : ∀ b o, b ∉ ch → s.heap.get? b = some o → H b = none → H' b = none)
    (there : ∀ b o, b ∉ ch → s.heap.get? b = some o → ∃ o', h'.get? b = some o')
    (tups : ∀ b xs, H b = some (.tup xs) → H' b = some (.tup xs)) (frzs : ∀ b o u, H b = some (.frz o u) → H' b = some (.frz o u)) (tbls : ∀ b ps, H b = some (.tbl ps) → ∃ more, H' b = some (.tbl (ps ++ more)))
    (ns : ∀ m, s.heap.Ns X.env.locals m → h'.Ns X.env.locals m) (hok : HOk X.prog X.w H' h') (hg : AllBare g') :
    Inv X pins σ H' { s with heap := h', gens := g', drawn := d', toks := t' } := by
  have neL : ∀ b o, X.s₀.heap.get? b = some o → b ≠ X.env.locals := fun b o e => Nat.ne_of_lt (Nat.lt_of_lt_of_le (Heap.lt_size e) I.ok.above)
  have neC : ∀ b o, X.s₀.heap.get? b = some o → b ∉ X.ex → b ∉ ch := fun b o e hx hb => by
    rcases (hch b hb).1 with z | z
    · exact hx z
    · exact absurd (Nat.lt_of_lt_of_le (Heap.lt_size e) z) (Nat.lt_irrefl _)
  have cellK : ∀ x c, X.env.cells.lookup x = some c → ∀ v, s.heap.IsCell c v → h'.IsCell c v := fun x c e v ⟨o, ho, hd⟩ => by
    have nch : c ∉ ch := fun z => (hch c z).2.2.1 x c e rfl
    by_cases hc : c ∈ X.fs
    · obtain ⟨sl, q⟩ := slot c o (I.cne x c e) hc nch ho (I.freeC x c e)
      exact ⟨_, q, hd⟩
    · exact ⟨o, keep c o (I.cne x c e) hc nch ho (I.freeC x c e), hd⟩
  refine ⟨I.ok, I.os, hg, ⟨fun b o e n hb hx => ?_, fun b o e n hb hx => ?_, fun b o e n hx => ?_, fun b o e hx => ?_, fun b xs e => tups b xs (I.base.tups b xs e), fun b o xs e => frzs b o xs (I.base.frzs b o xs e), fun b ps e => ?_⟩, ?_, fun x c e => ?_, ?_, fun x c e => ?_, fun p hp => ?_, hok, I.len⟩
  · exact keep b o (neL b o e) hb (neC b o e hx) (I.base.keep b o e n hb hx) (I.base.free b o e n hx)
  · obtain ⟨sl, e1⟩ := I.base.slot b o e n hb hx
    obtain ⟨sl', e2⟩ := slot b _ (neL b o e) hb (neC b o e hx) e1 (I.base.free b o e n hx)
    exact ⟨sl', e2⟩
  · obtain ⟨o', e1⟩ := I.base.there b o e hx
    exact free b o' (neC b o e hx) e1 (I.base.free b o e n hx)
  · obtain ⟨o', e1⟩ := I.base.there b o e hx
    exact there b o' (neC b o e hx) e1
  · obtain ⟨m1, e1⟩ := I.base.tbls b ps e
    obtain ⟨m2, e2⟩ := tbls b _ e1
    exact ⟨m1 ++ m2, by rw [e2, Array.append_assoc]⟩
  · obtain ⟨m, hn, hl⟩ := I.loc
    refine ⟨m, ns m hn, fun i x v e1 e2 e3 => ?_⟩
    obtain ⟨u, r, l⟩ := hl i x v e1 e2 e3
    refine ⟨u, r, ?_⟩
    rcases l with l | ⟨k, c, e, z⟩
    · exact .inl l
    · exact .inr ⟨k, c, e, cellK x c e _ z⟩
  · obtain ⟨v, z⟩ := I.cell x c e
    exact ⟨v, cellK x c e v z⟩
  · obtain ⟨m, ⟨o, _, _, ho, _⟩, _⟩ := I.loc
    exact free _ o (fun z => (hch _ z).2.1 rfl) ho I.free
  · obtain ⟨v, o, ho, hd⟩ := I.cell x c e
    exact free c o (fun z => (hch c z).2.2.1 x c e rfl) ho (I.freeC x c e)
  · obtain ⟨e, n, ne, nf, d⟩ := I.pin p hp
    have nch : p.1 ∉ ch := fun z => (hch p.1 z).2.2.2 p hp rfl
    exact ⟨keep p.1 p.2 ne nf nch e n, free p.1 p.2 nch e n, ne, nf, d⟩
theorem Inv.un {t' : Nat} (I : Inv X pins σ H s) (u : Un X.fs [] H H' s.heap h') (hok : HOk X.prog X.w H' h') : Inv X pins σ H' { s with heap := h', toks := t' } := by
  obtain ⟨m, ⟨o, es, ep, ho, r⟩, _⟩ := id I.loc
  obtain ⟨sl, hL⟩ := u.any ho I.free (by simp)
  exact I.step (g' := s.gens) (d' := s.drawn) (ch := []) (fun _ z => nomatch z) (fun b o _ hb _ e n => u.keep b o e n hb (by simp)) (fun b o _ hb _ e n => u.slot b o e n hb (by simp)) (fun b o _ e n => u.free b o e n (by simp)) (fun b o _ e => u.there b o e (by simp)) u.tups u.frzs u.tbls (fun m' hm => by
    obtain ⟨o', es', ep', ho', r'⟩ := hm
    rw [ho] at ho'; cases ho'
    exact ⟨_, es', ep', hL, r'⟩) hok I.bare
theorem Inv.call {g' : Array GenState} {t' : Nat} {d' : Drawn} {ch : List Addr} (I : Inv X pins σ H s) (u : Un (frs X.stack) ch H H' s.heap h') (hok : HOk X.prog X.w H' h') (hg : AllBare g')
    (hch : ∀ b ∈ ch, (b ∈ X.ex ∨ X.s₀.heap.objs.size ≤ b) ∧ b ≠ X.env.locals ∧ (∀ x c, X.env.cells.lookup x = some c → c ≠ b) ∧ ∀ p ∈ X.pn ++ pins, p.1 ≠ b) :
    Inv X pins σ H' { s with heap := h', gens := g', drawn := d', toks := t' } := by
  obtain ⟨m, ⟨o, es, ep, ho, r⟩, _⟩ := id I.loc
  obtain ⟨sl, hL⟩ := u.any ho I.free fun z => (hch _ z).2.1 rfl
  exact I.step (ch := ch) hch (fun b o hL hb hc e n => u.keep b o e n (fun z => (List.mem_cons.mp (I.stkSub b z)).elim hL hb) hc) (fun b o _ _ hc e n => u.any e n hc) (fun b o hc e n => u.free b o e n hc) (fun b o hc e => u.there b o e hc) u.tups u.frzs u.tbls (fun m' hm => by
    obtain ⟨o', es', ep', ho', r'⟩ := hm
    rw [ho] at ho'; cases ho'
    exact ⟨_, es', ep', hL, r'⟩) hok hg
theorem Inv.turned {t' : Nat} {it : Addr} (I : Inv X pins σ H s) (k : ∀ b o, b ≠ it → s.heap.get? b = some o → h'.get? b = some o) (hn : H it = none) (hL : it ≠ X.env.locals)
    (h1 : it ∈ X.ex ∨ X.s₀.heap.objs.size ≤ it) (h2 : ∀ x c, X.env.cells.lookup x = some c → c ≠ it) (h3 : ∀ p ∈ X.pn ++ pins, p.1 ≠ it) : Inv X pins σ H { s with heap := h', toks := t' } := by
  have nit : ∀ b u, H b = some u → b ≠ it := fun b u e z => by rw [z, hn] at e; cases e
  refine I.step (g' := s.gens) (d' := s.drawn) (ch := [it]) (fun b hb => ?_) (fun b o _ _ hc e _ => k b o (fun z => hc (by simp [z])) e) (fun b o _ _ hc e _ => ⟨o.slots, k b o (fun z => hc (by simp [z])) e⟩) (fun _ _ _ _ n => n)
    (fun b o hc e => ⟨o, k b o (fun z => hc (by simp [z])) e⟩) (fun _ _ e => e) (fun _ _ _ e => e) (fun b ps e => ⟨#[], by rw [e]; simp⟩) (fun m hm => ?_) (fun b u e => ?_) I.bare
  · have e : b = it := by simpa using hb
    subst e
    exact ⟨h1, hL, h2, h3⟩
  · obtain ⟨o, es, ep, ho, r⟩ := hm
    exact ⟨o, es, ep, k _ o (Ne.symm hL) ho, r⟩
  · refine (I.hok b u e).stay (fun c v hc q => k c v ?_ q) (fun _ q => q) fun _ _ q => q
    rcases hc with z | z
    · rw [z]; exact nit b u e
    · exact nit c _ z
theorem Inv.tok (I : Inv X pins σ H s) (t : Nat) : Inv X pins σ H { s with toks := t } := I.un (h' := s.heap) (t' := t) Un.refl I.hok
theorem Inv.kept {t' : Nat} (I : Inv X pins σ H s) (k : ∀ b u, s.heap.get? b = some u → h'.get? b = some u) : Inv X pins σ H { s with heap := h', toks := t' } := I.un (Un.kept k) (I.hok.kept k)
theorem Inv.laid {a : Addr} {o : HO} {t' : Nat} (I : Inv X pins σ H s) (k : ∀ b u, s.heap.get? b = some u → h'.get? b = some u) (hp : s.heap.objs.size ≤ a) (new : ObjOk X.prog X.w (upd H a o) h' a o) :
    Inv X pins σ (upd H a o) { s with heap := h', toks := t' } := I.un (Un.laid k hp (I.hok.fresh hp)) (I.hok.laid k hp new)
theorem Inv.write {x e : Addr} {o : HO} {t' : Nat} (I : Inv X pins σ H s) (mu : Mut (H x)) (he : e = x ∨ H e = some (.own x)) (k : ∀ b u, b ≠ e → s.heap.get? b = some u → h'.get? b = some u) (heo : ∃ u, h'.get? e = some u)
    (new : ObjOk X.prog X.w (upd H x o) h' x o) : Inv X pins σ (upd H x o) { s with heap := h', toks := t' } := I.un (Un.write mu he k heo) (I.hok.write mu he k heo new)
theorem Inv.pins_of {pins' : List (Addr × Obj)} (I : Inv X pins σ H s) (h : ∀ p ∈ pins', s.heap.get? p.1 = some p.2 ∧ H p.1 = none ∧ p.1 ≠ X.env.locals ∧ p.1 ∉ X.fs ∧ ∀ v, p.2.data ≠ .cell v) : Inv X pins' σ H s :=
  ⟨I.ok, I.os, I.bare, I.base, I.loc, I.cell, I.free, I.freeC, fun p hp => (List.mem_append.mp hp).elim (fun z => I.pin p (List.mem_append_left _ z)) (h p), I.hok, I.len⟩
theorem nodup_ix {N : List Str} (hN : N.Nodup) {i j : Nat} {x : Str} (a : N[i]? = some x) (b : N[j]? = some x) : i = j := by
  obtain ⟨h1, e1⟩ := List.getElem?_eq_some_iff.mp a
  obtain ⟨h2, e2⟩ := List.getElem?_eq_some_iff.mp b
  exact (List.getElem_inj hN).mp (e1.trans e2.symm)
theorem store_ok2 {M : Model} {A : Around} {E : Value → Shared → Prop} {i : Nat} {x : Str} {v : V} {u : Value} {Q : Unit → Shared → Prop} (I : Inv X pins σ H s) (hN : X.N.Nodup) (hi : X.N[i]? = some x) (hx : Loc X.env.scope x) (r : RelV v u)
    (h : ∀ s', Inv X pins (σ.set i (some v)) H s' → (∃ a, Heap.SameBut a s.heap s'.heap ∧ (a = X.env.locals ∨ X.env.cells.lookup x = some a)) → Q () s') (hf : X.fn x = true ∨ X.env.scope.names.lookup x = some .local := by first | exact .inl rfl | exact .inr rfl | assumption) : wpAny M A (storeName X.env x u) Q E s := by
  obtain ⟨m, hn, hl⟩ := id I.loc
  have hcls : (X.env.scope.kind == .class || (X.env.scope.kind == .module && X.env.locals != X.env.globals)) = false := by rw [I.ok.kind]; rfl
  have hiσ : i < σ.length := by rw [I.len]; exact (List.getElem?_eq_some_iff.mp hi).1
  have cne := I.cne
  have tracked : ∀ {a : Addr} {h' : Heap}, (∃ o, s.heap.get? a = some o ∧ H a = none) → Heap.SameBut a s.heap h' → HOk X.prog X.w H h' := fun {a h'} ha hs b ob e => by
    obtain ⟨_, _, hfree⟩ := ha
    refine (I.hok b ob e).stay (fun c w' hc q => (hs.2 c ?_).trans q) (fun _ q => q) fun _ _ q => q
    rintro rfl
    rcases hc with rfl | hc
    · rw [hfree] at e; cases e
    · rw [hfree] at hc; cases hc
  rcases hx with hk | hk
  · refine wpAny_storeName_local hk hn (fun h' hn' hs => ?_) hcls
    obtain ⟨oL, _, _, hoL, _⟩ := id hn
    refine h _ ⟨I.ok, I.os, I.bare, ⟨fun b o e n hb hx => ?_, fun b o e n hb hx => ?_, I.base.free, fun b o e hx => ?_, I.base.tups, I.base.frzs, I.base.tbls⟩, ⟨_, hn', fun j y v' e1 e2 e3 => ?_⟩, fun y c e => ?_, I.free, I.freeC, fun p hp => ?_, tracked ⟨oL, hoL, I.free⟩ hs, by simpa using I.len⟩ ⟨_, hs, .inl rfl⟩
    · exact (hs.2 b (Nat.ne_of_lt (Nat.lt_of_lt_of_le (Heap.lt_size e) I.ok.above))).trans (I.base.keep b o e n hb hx)
    · obtain ⟨sl, e1⟩ := I.base.slot b o e n hb hx
      exact ⟨sl, (hs.2 b (Nat.ne_of_lt (Nat.lt_of_lt_of_le (Heap.lt_size e) I.ok.above))).trans e1⟩
    · obtain ⟨o', e1⟩ := I.base.there b o e hx
      exact ⟨o', (hs.2 b (Nat.ne_of_lt (Nat.lt_of_lt_of_le (Heap.lt_size e) I.ok.above))).trans e1⟩
    · by_cases hj : j = i
      · subst hj
        rw [hi] at e1; cases e1
        rw [List.getElem?_set_self hiσ] at e2
        cases e2
        exact ⟨u, r, .inl ⟨hk, by simp⟩⟩
      · rw [List.getElem?_set_ne (Ne.symm hj)] at e2
        obtain ⟨u', r', q⟩ := hl j y v' e1 e2 e3
        refine ⟨u', r', ?_⟩
        rcases q with ⟨k, e⟩ | ⟨k, c, e, z⟩
        · refine .inl ⟨k, ?_⟩
          have : y ≠ x := fun e => hj (nodup_ix hN e1 (e ▸ hi))
          simp [this, e]
        · exact .inr ⟨k, c, e, z.sameBut hs (cne y c e)⟩
    · obtain ⟨w', z⟩ := I.cell y c e
      exact ⟨w', z.sameBut hs (cne y c e)⟩
    · obtain ⟨e, n, ne, nf, d⟩ := I.pin p hp
      exact ⟨(hs.2 p.1 ne).trans e, n, ne, nf, d⟩
  · have hfn : X.fn x = true := by
      rcases hf with z | z
      · exact z
      · rw [z] at hk; cases hk
    obtain ⟨c, hc⟩ := I.ok.has x (.inl hk)
    obtain ⟨w', z⟩ := I.cell x c hc
    refine wpAny_storeName_cell I.ok.kind hk hc z (fun h' hc' hs => ?_)
    obtain ⟨oc, hoc, hocd⟩ := id z
    refine h { s with heap := h' } ⟨I.ok, I.os, I.bare, ⟨fun b o e n hb hx => ?_, fun b o e n hb hx => ?_, I.base.free, fun b o e hx => ?_, I.base.tups, I.base.frzs, I.base.tbls⟩, ⟨m, hn.sameBut hs (Ne.symm (cne x c hc)), fun j y v' e1 e2 e3 => ?_⟩, fun y c' e => ?_, I.free, I.freeC, fun p hp => ?_, tracked ⟨oc, hoc, I.freeC x c hc⟩ hs, by simpa using I.len⟩ ⟨c, hs, .inr hc⟩
    · exact (hs.2 b (Nat.ne_of_lt (Nat.lt_of_lt_of_le (Heap.lt_size e) (I.ok.cab x c hfn hc)))).trans (I.base.keep b o e n hb hx)
    · obtain ⟨sl, e1⟩ := I.base.slot b o e n hb hx
      exact ⟨sl, (hs.2 b (Nat.ne_of_lt (Nat.lt_of_lt_of_le (Heap.lt_size e) (I.ok.cab x c hfn hc)))).trans e1⟩
    · obtain ⟨o', e1⟩ := I.base.there b o e hx
      exact ⟨o', (hs.2 b (Nat.ne_of_lt (Nat.lt_of_lt_of_le (Heap.lt_size e) (I.ok.cab x c hfn hc)))).trans e1⟩
    · by_cases hj : j = i
      · subst hj
        rw [hi] at e1; cases e1
        rw [List.getElem?_set_self hiσ] at e2
        cases e2
        exact ⟨u, r, .inr ⟨.inl hk, c, hc, hc'⟩⟩
      · rw [List.getElem?_set_ne (Ne.symm hj)] at e2
        obtain ⟨u', r', q⟩ := hl j y v' e1 e2 e3
        refine ⟨u', r', ?_⟩
        rcases q with q | ⟨k, c', e, z'⟩
        · exact .inl q
        · refine .inr ⟨k, c', e, z'.sameBut hs ?_⟩
          rintro rfl
          exact hj (nodup_ix hN e1 (I.ok.inj _ _ _ e hc ▸ hi))
    · by_cases hcc : c' = c
      · subst hcc; exact ⟨_, hc'⟩
      · obtain ⟨w2, z2⟩ := I.cell y c' e
        exact ⟨w2, z2.sameBut hs hcc⟩
    · obtain ⟨e, n, ne, nf, d⟩ := I.pin p hp
      refine ⟨(hs.2 p.1 ?_).trans e, n, ne, nf, d⟩
      intro q
      rw [q, hoc] at e
      have q' : oc = p.2 := Option.some.inj e
      exact d w' (by rw [← q']; exact hocd)
theorem store_ok {M : Model} {A : Around} {E : Value → Shared → Prop} {i : Nat} {x : Str} {v : V} {u : Value} {Q : Unit → Shared → Prop} (I : Inv X pins σ H s) (hN : X.N.Nodup) (hi : X.N[i]? = some x) (hx : Loc X.env.scope x) (r : RelV v u)
    (h : ∀ s', Inv X pins (σ.set i (some v)) H s' → Q () s') (hf : X.fn x = true ∨ X.env.scope.names.lookup x = some .local := by first | exact .inl rfl | exact .inr rfl | assumption) : wpAny M A (storeName X.env x u) Q E s :=
  store_ok2 I hN hi hx r (fun s' I' _ => h s' I') hf
theorem Inv.call' {s' : Shared} {ch : List Addr} (I : Inv X pins σ H s) (ho : s'.os = s.os) (u : Un (frs X.stack) ch H H' s.heap s'.heap) (hok : HOk X.prog X.w H' s'.heap) (hg : AllBare s'.gens)
    (hch : ∀ b ∈ ch, (b ∈ X.ex ∨ X.s₀.heap.objs.size ≤ b) ∧ b ≠ X.env.locals ∧ (∀ x c, X.env.cells.lookup x = some c → c ≠ b) ∧ ∀ p ∈ X.pn ++ pins, p.1 ≠ b) : Inv X pins σ H' s' := by
  obtain ⟨h', g', d', t', o'⟩ := s'
  have e : o' = s.os := ho
  subst e
  exact I.call (g' := g') (t' := t') (d' := d') u hok hg hch
end

noncomputable abbrev XK := Value → Option Addr → Hp → Prop
noncomputable abbrev St := List (Option V)
noncomputable abbrev VK := V → Hp → Prop
noncomputable abbrev TE := St → Hp → VK → Prop
noncomputable abbrev TT := St → Hp → (Bool → Hp → Prop) → Prop
noncomputable abbrev TA := St → Hp → (List V → Hp → Prop) → Prop
structure Ends where
  nx : St → Hp → Prop
  rt : VK
  bk : St → Hp → Prop := fun _ _ => False
  ct : St → Hp → Prop := fun _ _ => False
noncomputable abbrev TS := Ends → St → Hp → Prop
noncomputable def EP (X : Cx) (pins : List (Addr × Obj)) (σ : St) (Q : VK) (u : Value) (s' : Shared) : Prop := ∃ v H', Inv X pins σ H' s' ∧ RelV v u ∧ Q v H'
noncomputable def TP (X : Cx) (pins : List (Addr × Obj)) (σ : St) (Q : Bool → Hp → Prop) (b : Bool) (s' : Shared) : Prop := ∃ H', Inv X pins σ H' s' ∧ Q b H'
noncomputable def AP (X : Cx) (pins : List (Addr × Obj)) (σ : St) (Q : List V → Hp → Prop) (us : List Value) (s' : Shared) : Prop := ∃ vs H', Inv X pins σ H' s' ∧ Vals vs us ∧ Q vs H'
noncomputable def SP (X : Cx) (pins : List (Addr × Obj)) (D : Ends) (f : Flow) (s' : Shared) : Prop :=
  match f with
  | .next => ∃ σ' H', Inv X pins σ' H' s' ∧ D.nx σ' H'
  | .brk => ∃ σ' H', Inv X pins σ' H' s' ∧ D.bk σ' H'
  | .cont => ∃ σ' H', Inv X pins σ' H' s' ∧ D.ct σ' H'
  | .ret u => ∃ v σ' H', Inv X pins σ' H' s' ∧ RelV v u ∧ D.rt v H'
noncomputable def PE (X : Cx) (e : Expr) (t : TE) : Prop :=
  ∀ (pins : List (Addr × Obj)) (s : Shared) (σ : St) (H : Hp) (Q : VK), Inv X pins σ H s → t σ H Q → wpAny (model X.prog X.w) X.A (eval e X.env) (EP X pins σ Q) X.xe s
noncomputable def PT (X : Cx) (e : Expr) (t : TT) : Prop :=
  ∀ (pins : List (Addr × Obj)) (s : Shared) (σ : St) (H : Hp) (Q : Bool → Hp → Prop), Inv X pins σ H s → t σ H Q → wpAny (model X.prog X.w) X.A (isTrue e X.env (eval e X.env)) (TP X pins σ Q) X.xe s
noncomputable def PW (X : Cx) (e : Expr) (t : TT) : Prop :=
  ∀ (whole : Sem Value) (pins : List (Addr × Obj)) (s : Shared) (σ : St) (H : Hp) (Q : Bool → Hp → Prop), Inv X pins σ H s → t σ H Q → wpAny (model X.prog X.w) X.A (isTrue e X.env whole) (TP X pins σ Q) X.xe s
theorem PW.pt {X : Cx} {e : Expr} {t : TT} (h : PW X e t) : PT X e t := h _
noncomputable def PA (X : Cx) (es : List Expr) (t : TA) : Prop :=
  ∀ (pos : Pos) (pins : List (Addr × Obj)) (s : Shared) (σ : St) (H : Hp) (Q : List V → Hp → Prop), Inv X pins σ H s → t σ H Q → wpAny (model X.prog X.w) X.A (spliced (backTo pos (starEach es X.env))) (AP X pins σ Q) X.xe s
noncomputable def PS (X : Cx) (st : Stmt) (t : TS) : Prop :=
  ∀ (pins : List (Addr × Obj)) (s : Shared) (σ : St) (H : Hp) (D : Ends), Inv X pins σ H s → t D σ H → wpAny (model X.prog X.w) X.A (exec st X.env) (SP X pins D) X.xe s
noncomputable def PSs (X : Cx) (st : List Stmt) (t : TS) : Prop :=
  ∀ (pins : List (Addr × Obj)) (s : Shared) (σ : St) (H : Hp) (D : Ends), Inv X pins σ H s → t D σ H → wpAny (model X.prog X.w) X.A (execs st X.env) (SP X pins D) X.xe s
theorem thn {α : Type} {t : Sem α} {Q Q' : α → Shared → Prop} {M : Model} {A : Around} {E : Value → Shared → Prop} {s : Shared} (h : wpAny M A t Q E s) (hQ : ∀ a s, Q a s → Q' a s) : wpAny M A t Q' E s := wpAny_mono h hQ fun _ _ x => x
end L2
namespace L2
open PySem PySem.Spec PyProof.Rows
section
variable {X : Cx}

noncomputable def tVar (i : Nat) : TE := fun σ H Q => ∃ v, σ[i]? = some (some v) ∧ Q v H
noncomputable def tC (v : V) : TE := fun _ H Q => Q v H
theorem pe_var {i : Nat} {x : Str} {pos : Pos} (hN : X.N[i]? = some x) (hv : Vis X.env.scope x) (hd : (x == ("__debug__" : Str)) = false := by decide) (hcd : (x == ("__classdict__" : Str)) = false := by decide) : PE X (.Name x pos) (tVar i) := by
  intro pins s σ H Q I h
  obtain ⟨v, e, h⟩ := h
  obtain ⟨m, hn, hl⟩ := I.loc
  obtain ⟨u, r, l⟩ := hl i x v hN e hv
  have fin : EP X pins σ Q u s := ⟨v, H, I, r, h⟩
  rcases l with ⟨hk, hm⟩ | ⟨hk, c, hc, hcell⟩
  · exact wpAny_Name (wpAny_loadName_local I.ok.kind hk hn hm fin) hd
  · rcases hk with hk | hk
    · exact wpAny_Name (wpAny_loadName_cell I.ok.kind hk hc hcell fin) hd
    · exact wpAny_Name (wpAny_loadName_free I.ok.kind hk hc hcell fin hcd) hd
theorem pe_int {i j pos} : PE X (.Constant (.int i) j pos) (tC (.int i)) := fun _ _ _ H _ I h => wpAny_Constant_int ⟨.int i, H, I.tok _, ⟨_, rfl⟩, h⟩
theorem pe_bl {b j pos} : PE X (.Constant (.bool b) j pos) (tC (.bl b)) := fun _ _ _ H _ I h => Constant_bool ⟨.bl b, H, I, rfl, h⟩
theorem pe_str {x j pos} : PE X (.Constant (.str x) j pos) (tC (.str x)) := fun _ _ _ H _ I h => Calls.Constant_str ⟨.str x, H, I.tok _, ⟨_, rfl⟩, h⟩
noncomputable def Gl (X : Cx) (x : Str) : Prop := X.env.kindOf x = some .globalImplicit
theorem ld_glob {E : Value → Shared → Prop} {pins : List (Addr × Obj)} {s : Shared} {σ : St} {H : Hp} {x : Str} {u : Value} {pos : Pos} {Q : Value → Shared → Prop} (I : Inv X pins σ H s) (hg : Gl X x) (hm : X.mg x = some u) (h : Q u s)
    (hd : (x == ("__debug__" : Str)) = false := by decide) : wpAny (model X.prog X.w) X.A (eval (.Name x pos) X.env) Q E s :=
  Calls.Name_function_global I.ok.kind hg (Calls.loadGlobal_global (by rw [I.ok.glob]; exact I.mod.glob.keeps I.bk) hm h) hd
theorem ld_blt {E : Value → Shared → Prop} {pins : List (Addr × Obj)} {s : Shared} {σ : St} {H : Hp} {x : Str} {u : Value} {pos : Pos} {Q : Value → Shared → Prop} (I : Inv X pins σ H s) (hg : Gl X x) (hm : X.mg x = none) (hv : bootBuiltins x = some u) (h : Q u s)
    (hn : x ≠ "__name__" := by decide) (hd : (x == ("__debug__" : Str)) = false := by decide) : wpAny (model X.prog X.w) X.A (eval (.Name x pos) X.env) Q E s := by
  obtain ⟨mb, h1, h2⟩ := I.mod.blt
  exact Calls.Name_function_global I.ok.kind hg (Calls.loadGlobal_builtin (by rw [I.ok.glob]; exact I.mod.glob.keeps I.bk) hm (by rw [I.ok.blt]; exact h1.keeps I.bk) ((h2 x hn).trans hv) h) hd
theorem pe_glob {x : Str} {v : V} {u : Value} {pos : Pos} (hg : Gl X x) (hm : X.mg x = some u) (r : RelV v u) (hd : (x == ("__debug__" : Str)) = false := by decide) : PE X (.Name x pos) (tC v) :=
  fun _ _ _ H _ I h => ld_glob I hg hm ⟨v, H, I, r, h⟩ hd
theorem pe_bltn {x : Str} {v : V} {u : Value} {pos : Pos} (hg : Gl X x) (hm : X.mg x = none) (hv : bootBuiltins x = some u) (r : RelV v u) (hn : x ≠ "__name__" := by decide) (hd : (x == ("__debug__" : Str)) = false := by decide) : PE X (.Name x pos) (tC v) :=
  fun _ _ _ H _ I h => ld_blt I hg hm hv ⟨v, H, I, r, h⟩ hn hd

variable {a b : Expr} {ta tb : TE} {pos : Pos}

noncomputable def PC (X : Cx) (op : CmpOp) (a b : Expr) (t : TE) : Prop :=
  ∀ (pins : List (Addr × Obj)) (s : Shared) (σ : St) (H : Hp) (Q : VK), Inv X pins σ H s → t σ H Q →
    wpAny (model X.prog X.w) X.A (eval a X.env) (fun v s₁ => wpAny (model X.prog X.w) X.A (eval b X.env) (fun u s₂ => wpAny (model X.prog X.w) X.A (compareOp op v u) (EP X pins σ Q) X.xe s₂) X.xe s₁) X.xe s
noncomputable def tB (t : TE) : TT := fun σ H Q => t σ H fun x H1 => ∃ c, x = .bl c ∧ Q c H1
theorem pt_cmp {op : CmpOp} {t : TE} (h : PC X op a b t) (h1 : behindInMarks op b = false := by first | exact nobehind _ (by decide) (by decide) | rfl) : PT X (.Compare a [op] [b] pos) (tB t) := by
  intro pins s σ H Q I hw
  refine wpAny_isTrue_Compare1 (thn (h pins s σ H _ I hw) fun v s1 h1 => thn h1 fun u s2 h2 => thn h2 fun c s3 ⟨x, H1, I1, r1, q1⟩ => ?_) h1
  obtain ⟨d, rfl, q⟩ := q1
  cases r1
  exact wpAny_truthy_bool ⟨H1, I1, q⟩
theorem pt_val {e : Expr} {t : TE} (h : PE X e t) (he : ∀ whole, isTrue e X.env whole = (do let v ← whole; standAt e.pos; holding [v] (truthy v)) := by intro _; rfl) : PT X e (tB t) := by
  intro pins s σ H Q I hw
  refine isTrue_plain (thn (h pins s σ H _ I hw) fun v s1 ⟨x, H1, I1, r1, q1⟩ => ?_) (he _)
  obtain ⟨d, rfl, q⟩ := q1
  cases r1
  exact wpAny_truthy_bool ⟨H1, I1, q⟩

variable {tA tB' : TT} {rest : List Expr}
noncomputable def tAnd (t u : TT) : TT := fun σ H Q => t σ H fun c H1 => if c = true then u σ H1 Q else Q false H1
noncomputable def tOr (t u : TT) : TT := fun σ H Q => t σ H fun c H1 => if c = true then Q true H1 else u σ H1 Q
noncomputable def tNot (t : TT) : TT := fun σ H Q => t σ H fun c H1 => Q (!c) H1
theorem pw_and1 (ha : PT X a tA) : PW X (.BoolOp .And [a] pos) tA := by
  intro wh pins s σ H Q I h
  refine isTrue_and (thn (ha pins s σ H Q I h) fun c s1 e => ?_)
  cases c with
  | true => exact isTrue_and_nil e
  | false => exact e
theorem pw_or1 (ha : PT X a tA) : PW X (.BoolOp .Or [a] pos) tA := by
  intro wh pins s σ H Q I h
  refine isTrue_or (thn (ha pins s σ H Q I h) fun c s1 e => ?_)
  cases c with
  | false => exact isTrue_or_nil e
  | true => exact e
theorem pw_and (ha : PT X a tA) (hb : PW X (.BoolOp .And (b :: rest) pos) tB') : PW X (.BoolOp .And (a :: b :: rest) pos) (tAnd tA tB') := by
  intro wh pins s σ H Q I h
  refine isTrue_and (thn (ha pins s σ H _ I h) fun c s1 ⟨H1, I1, q1⟩ => ?_)
  cases c with
  | true => exact hb wh pins s1 σ H1 Q I1 q1
  | false => exact ⟨H1, I1, q1⟩
theorem pw_or (ha : PT X a tA) (hb : PW X (.BoolOp .Or (b :: rest) pos) tB') : PW X (.BoolOp .Or (a :: b :: rest) pos) (tOr tA tB') := by
  intro wh pins s σ H Q I h
  refine isTrue_or (thn (ha pins s σ H _ I h) fun c s1 ⟨H1, I1, q1⟩ => ?_)
  cases c with
  | true => exact ⟨H1, I1, q1⟩
  | false => exact hb wh pins s1 σ H1 Q I1 q1
theorem pt_not (ha : PT X a tA) : PT X (.UnaryOp .Not a pos) (tNot tA) := by
  intro pins s σ H Q I h
  exact isTrue_not (ha pins s σ H (fun c H1 => Q (!c) H1) I h)
noncomputable def tAndV (ta tb : TE) : TE := fun σ H Q => ta σ H fun x H1 => ∃ c, x = .bl c ∧ if c = true then tb σ H1 Q else Q (.bl false) H1
noncomputable def tOrV (ta tb : TE) : TE := fun σ H Q => ta σ H fun x H1 => ∃ c, x = .bl c ∧ if c = true then Q (.bl true) H1 else tb σ H1 Q
noncomputable def tNotV (ta : TE) : TE := fun σ H Q => ta σ H fun x H1 => ∃ c, x = .bl c ∧ Q (.bl (!c)) H1
theorem pe_one {op} {t : TE} (h : PE X a t) : PE X (.BoolOp op [a] pos) t := fun pins s σ H Q I hw => BoolOp_one (h pins s σ H Q I hw)
theorem pe_and (ha : PE X a ta) (hb : PE X (.BoolOp .And (b :: rest) pos) tb) : PE X (.BoolOp .And (a :: b :: rest) pos) (tAndV ta tb) := by
  intro pins s σ H Q I h
  refine BoolOp_and (thn (ha pins s σ H _ I h) fun v s1 ⟨x, H1, I1, r1, q1⟩ => ?_)
  obtain ⟨c, rfl, q1⟩ := q1
  cases r1
  refine wpAny_truthy_bool ?_
  cases c with
  | true => exact hb pins s1 σ H1 Q I1 q1
  | false => exact ⟨.bl false, H1, I1, rfl, q1⟩
theorem pe_or (ha : PE X a ta) (hb : PE X (.BoolOp .Or (b :: rest) pos) tb) : PE X (.BoolOp .Or (a :: b :: rest) pos) (tOrV ta tb) := by
  intro pins s σ H Q I h
  refine BoolOp_or (thn (ha pins s σ H _ I h) fun v s1 ⟨x, H1, I1, r1, q1⟩ => ?_)
  obtain ⟨c, rfl, q1⟩ := q1
  cases r1
  refine wpAny_truthy_bool ?_
  cases c with
  | false => exact hb pins s1 σ H1 Q I1 q1
  | true => exact ⟨.bl true, H1, I1, rfl, q1⟩
theorem pe_not (ha : PE X a ta) : PE X (.UnaryOp .Not a pos) (tNotV ta) := by
  intro pins s σ H Q I h
  refine UnaryOp_ (thn (ha pins s σ H _ I h) fun v s1 ⟨x, H1, I1, r1, q1⟩ => ?_)
  obtain ⟨c, rfl, q1⟩ := q1
  cases r1
  exact not_of (wpAny_truthy_bool ⟨.bl (!c), H1, I1, rfl, q1⟩)
noncomputable def tIf (t : TT) (ta tb : TE) : TE := fun σ H Q => t σ H fun c H1 => if c = true then ta σ H1 Q else tb σ H1 Q
theorem pe_ifExp {c : Expr} (hc : PT X c tA) (ha : PE X a ta) (hb : PE X b tb) : PE X (.IfExp c a b pos) (tIf tA ta tb) := by
  intro pins s σ H Q I h
  refine wpAny_IfExp (thn (hc pins s σ H _ I h) fun d s1 ⟨H1, I1, q1⟩ => ?_)
  cases d with
  | true => exact ha pins s1 σ H1 Q I1 q1
  | false => exact hb pins s1 σ H1 Q I1 q1
end
end L2
namespace L2
open PySem PySem.Spec PyProof.Rows

noncomputable def SqL (K : PySem.W.Frag) (H : Hp) (a : Addr) (xs : List V) : Prop :=
  Rd H a (.lst xs) ∨
    ∃ (o : Obj) (its : Array Value) (n : Nat), K.lookup a = some o ∧ o.cls = .type "list" ∧ o.dict = none ∧ o.data = .seq its n ∧ its.size ≤ sizeLine ∧ Vals xs its.toList
noncomputable def SqT (K : PySem.W.Frag) (H : Hp) (a : Addr) (xs : List V) : Prop :=
  Rd H a (.tup xs) ∨
    ∃ (o : Obj) (its : Array Value) (n : Nat), K.lookup a = some o ∧ o.cls = .type "tuple" ∧ o.data = .seq its n ∧ its.size ≤ sizeLine ∧ Vals xs its.toList
noncomputable def absV : Value → Option V
  | .none => some .non
  | .bool b => some (.bl b)
  | .int i _ => some (.int i)
  | .str x _ => some (.str x)
  | .bytes b _ => some (.byt b)
  | .float b _ => some (.flt b)
  | .ref a => some (.ref a)
  | .type n => some (.ty n)
  | _ => none
theorem RelV.abs {x : V} {u : Value} (r : RelV x u) : absV u = some x := by
  cases x with
  | non => cases r; rfl
  | bl _ => cases r; rfl
  | int _ => obtain ⟨t, rfl⟩ := r; rfl
  | str _ => obtain ⟨t, rfl⟩ := r; rfl
  | byt _ => obtain ⟨t, rfl⟩ := r; rfl
  | flt _ => obtain ⟨t, rfl⟩ := r; rfl
  | ref _ => cases r; rfl
  | ty _ => cases r; rfl
theorem RelV.inj {x y : V} {u : Value} (r : RelV x u) (q : RelV y u) : x = y := Option.some.inj (r.abs.symm.trans q.abs)
theorem Vals.inj : ∀ {xs ys : List V} {us : List Value}, Vals xs us → Vals ys us → xs = ys
  | _, _, _, .nil, .nil => rfl
  | _, _, _, .cons r t, .cons r' t' => by rw [r.inj r', Vals.inj t t']
section
variable {X : Cx} {pins : List (Addr × Obj)} {σ : St} {H : Hp} {s : Shared} {a : Addr} {xs ys : List V}
theorem SqL.of {K : PySem.W.Frag} (h : H a = some (.lst xs)) : SqL K H a xs := .inl (.inl h)
theorem SqT.of {K : PySem.W.Frag} (h : H a = some (.tup xs)) : SqT K H a xs := .inl (.inl h)
theorem Inv.list (I : Inv X pins σ H s) (h : SqL X.K H a xs) : ∃ its : List Value, Vals xs its ∧ PlainL s.heap a its.toArray ∧ xs.length ≤ sizeLine := by
  rcases h with h | ⟨o, its, n, hk, hc, hd, hs, hz, r⟩
  · obtain ⟨z, its, n, r, e⟩ := h.ok I.hok
    exact ⟨its, r, ⟨_, n, e, rfl, rfl, rfl⟩, z⟩
  · refine ⟨its.toList, r, ⟨o, n, I.kIn a o hk, hc, hd, by simpa using hs⟩, ?_⟩
    have e := r.length
    simp only [Array.length_toList] at e
    omega
theorem Inv.tuple (I : Inv X pins σ H s) (h : SqT X.K H a xs) : ∃ its : List Value, Vals xs its ∧ IsTup s.heap a its.toArray ∧ xs.length ≤ sizeLine := by
  rcases h with h | ⟨o, its, n, hk, hc, hs, hz, r⟩
  · obtain ⟨z, its, r, p⟩ := h.ok I.hok
    exact ⟨its, r, p, z⟩
  · refine ⟨its.toList, r, ⟨o, I.kIn a o hk, hc, n, by simpa using hs⟩, ?_⟩
    have e := r.length
    simp only [Array.length_toList] at e
    omega
theorem Inv.list_inj (I : Inv X pins σ H s) (h : SqL X.K H a xs) (h' : SqL X.K H a ys) : xs = ys := by
  obtain ⟨its, r, ⟨o, n, e, _, _, d⟩, _⟩ := I.list h
  obtain ⟨its', r', ⟨o', n', e', _, _, d'⟩, _⟩ := I.list h'
  rw [e] at e'; cases e'
  rw [d] at d'
  injection d' with d1 _
  have : its = its' := by simpa using congrArg Array.toList d1
  subst this
  exact r.inj r'
end

noncomputable abbrev Cx.wish (X : Cx) (E : Value → Shared → Prop) : Cx := { X with xe := E }
noncomputable abbrev Cx.nox (X : Cx) : Cx := X.wish fun _ _ => False
theorem Cx.Ok.wish {X : Cx} (ok : X.Ok) (E : Value → Shared → Prop) : (X.wish E).Ok :=
  ⟨ok.mod, ok.kind, ok.glob, ok.blt, ok.above, ok.inj, ok.has, ok.cab, ok.hd, ok.frames, ok.stk, ok.exf, ok.bs, ok.bsz, ok.noex, ok.exfs, ok.funs, ok.frf⟩
theorem Cx.Ok.unwish {X : Cx} {E : Value → Shared → Prop} (ok : (X.wish E).Ok) : X.Ok :=
  ⟨ok.mod, ok.kind, ok.glob, ok.blt, ok.above, ok.inj, ok.has, ok.cab, ok.hd, ok.frames, ok.stk, ok.exf, ok.bs, ok.bsz, ok.noex, ok.exfs, ok.funs, ok.frf⟩
section
variable {X : Cx} {pins : List (Addr × Obj)} {σ : St} {H : Hp} {s : Shared} {E : Value → Shared → Prop}
theorem Inv.wish (I : Inv X pins σ H s) (E : Value → Shared → Prop) : Inv (X.wish E) pins σ H s := ⟨I.ok.wish E, I.os, I.bare, I.base, I.loc, I.cell, I.free, I.freeC, I.pin, I.hok, I.len⟩
theorem Inv.unwish (I : Inv (X.wish E) pins σ H s) : Inv X pins σ H s := ⟨I.ok.unwish, I.os, I.bare, I.base, I.loc, I.cell, I.free, I.freeC, I.pin, I.hok, I.len⟩
theorem SP.unwish {D : Ends} {f : Flow} {s' : Shared} (h : SP (X.wish E) pins D f s') : SP X pins D f s' := by
  cases f with
  | next => obtain ⟨σ', H', I, q⟩ := h; exact ⟨σ', H', I.unwish, q⟩
  | brk => obtain ⟨σ', H', I, q⟩ := h; exact ⟨σ', H', I.unwish, q⟩
  | cont => obtain ⟨σ', H', I, q⟩ := h; exact ⟨σ', H', I.unwish, q⟩
  | ret u => obtain ⟨v, σ', H', I, r, q⟩ := h; exact ⟨v, σ', H', I.unwish, r, q⟩
theorem PSs.nox {st : List Stmt} {t : TS} (h : PSs X.nox st t) : PSs X st t := fun pins s σ H D I hw =>
  wpAny_mono (h pins s σ H D (I.wish _) hw) (fun _ _ q => q.unwish) fun _ _ z => False.elim z
end

section
variable {X : Cx} {st : Stmt} {rest : List Stmt} {t u : TS} {e : Expr} {te : TE} {pos : Pos}
noncomputable def tNext : TS := fun D σ H => D.nx σ H
noncomputable def tSeq (t u : TS) : TS := fun D σ H => t { D with nx := u D } σ H
theorem pss_nil : PSs X [] tNext := fun _ _ σ H _ I h => wpAny_execs_nil ⟨σ, H, I, h⟩
theorem pss_cons (h1 : PS X st t) (h2 : PSs X rest u) : PSs X (st :: rest) (tSeq t u) := by
  intro pins s σ H D I h
  refine wpAny_execs_cons (thn (h1 pins s σ H { D with nx := u D } I h) fun f s1 q => ?_)
  cases f with
  | next =>
    obtain ⟨σ', H', I', q⟩ := q
    exact h2 pins s1 σ' H' D I' q
  | ret v => exact q
  | brk => exact q
  | cont => exact q
theorem pss_one (h1 : PS X st t) : PSs X [st] t := by
  intro pins s σ H D I h
  refine wpAny_execs_cons (thn (h1 pins s σ H D I h) fun f s1 q => ?_)
  cases f with
  | next => exact wpAny_execs_nil q
  | ret v => exact q
  | brk => exact q
  | cont => exact q
theorem Inv.quiet {pins : List (Addr × Obj)} {σ : St} {H : Hp} {s : Shared} (I : Inv X pins σ H s) : interactive X.env = false := by simp [interactive, I.ok.kind]
noncomputable def tDrop (te : TE) : TS := fun D σ H => te σ H fun _ H1 => D.nx σ H1
theorem ps_expr (he : PE X e te) (hs : swapsWith e none pos.line X.env = pure false := by rfl) : PS X (.Expr e pos) (tDrop te) := by
  intro pins s σ H D I h
  exact wpAny_Expr_any (thn (he pins s σ H _ I h) fun v s1 ⟨x, H1, I1, r1, q1⟩ => ⟨σ, H1, I1, q1⟩) I.quiet hs
noncomputable def tRet (te : TE) : TS := fun D σ H => te σ H D.rt
theorem ps_ret (he : PE X e te) : PS X (.Return (some e) pos) (tRet te) := by
  intro pins s σ H D I h
  exact wpAny_Return_some (thn (he pins s σ H _ I h) fun v s1 ⟨x, H1, I1, r1, q1⟩ => ⟨x, σ, H1, I1, r1, q1⟩)
noncomputable def tIfS (c : TT) (t u : TS) : TS := fun D σ H => c σ H fun b H1 => if b = true then t D σ H1 else u D σ H1
theorem ps_if {c : Expr} {a b : List Stmt} {tc : TT} (hc : PT X c tc) (ha : PSs X a t) (hb : PSs X b u) : PS X (.If c a b pos) (tIfS tc t u) := by
  intro pins s σ H D I h
  refine wpAny_If (thn (hc pins s σ H _ I h) fun d s1 ⟨H1, I1, q1⟩ => ?_)
  cases d with
  | true => exact ha pins s1 σ H1 D I1 q1
  | false => exact hb pins s1 σ H1 D I1 q1
noncomputable def tNever : TS := fun _ _ _ => False
theorem ps_never : PS X st tNever := fun _ _ _ _ _ _ h => h.elim
end

noncomputable abbrev TG := V → St → Hp → (St → Hp → Prop) → Prop
noncomputable def PG (X : Cx) (target : Expr) (t : TG) : Prop :=
  ∀ (pins : List (Addr × Obj)) (s : Shared) (σ : St) (H : Hp) (v : V) (u : Value) (Q : St → Hp → Prop), Inv X pins σ H s → RelV v u → t v σ H Q →
    wpAny (model X.prog X.w) X.A (assign target X.env u) (fun _ s' => ∃ σ' H', Inv X pins σ' H' s' ∧ Q σ' H') X.xe s
noncomputable abbrev TSet := V → V → V → Hp → (Hp → Prop) → Prop
noncomputable def PSet (X : Cx) (t : TSet) : Prop :=
  ∀ (pins : List (Addr × Obj)) (s : Shared) (σ : St) (H : Hp) (o i v : V) (ov iv u : Value) (Q : Hp → Prop), Inv X pins σ H s → RelV o ov → RelV i iv → RelV v u → t o i v H Q →
    wpAny (model X.prog X.w) X.A (setItem ov iv u) (fun _ s' => ∃ H', Inv X pins σ H' s' ∧ Q H') X.xe s
section
variable {X : Cx} {pos : Pos}
noncomputable def gName (i : Nat) : TG := fun v σ H Q => Q (σ.set i (some v)) H
theorem pg_name {i : Nat} {x : Str} (hN : X.N.Nodup) (hi : X.N[i]? = some x) (hx : Loc X.env.scope x) (hf : X.fn x = true ∨ X.env.scope.names.lookup x = some .local := by first | exact .inl rfl | exact .inr rfl | assumption) : PG X (.Name x pos) (gName i) := by
  intro pins s σ H v u Q I r h
  exact wpAny_assign_Name (store_ok I hN hi hx r (fun s' I' => ⟨_, H, I', h⟩) hf)
noncomputable def gSub (to ti : TE) (t : TSet) : TG := fun v σ H Q => to σ H fun o H1 => ti σ H1 fun i H2 => t o i v H2 fun H3 => Q σ H3
theorem pg_sub {o i : Expr} {to ti : TE} {t : TSet} (ho : PE X o to) (hi : PE X i ti) (hs : PSet X t)
    (ha : ∀ v, assign (.Subscript o i pos) X.env v = (do
      let ov ← holding [v] (eval o X.env)
      let iv ← holding [v, ov] (eval i X.env)
      standAt pos
      holding [v, ov, iv] (setItem ov iv v)
      release [v, ov, iv] []) := by intro _; rfl) : PG X (.Subscript o i pos) (gSub to ti t) := by
  intro pins s σ H v u Q I r h
  rw [ha]
  refine wpAny_bind (wpAny_holding (thn (ho pins s σ H _ I h) fun ov s1 ⟨x, H1, I1, r1, q1⟩ => ?_))
  refine wpAny_bind (wpAny_holding (thn (hi pins s1 σ H1 _ I1 q1) fun iv s2 ⟨y, H2, I2, r2, q2⟩ => ?_))
  refine wpAny_bind (wpAny_standAt (wpAny_bind (wpAny_holding (thn (hs pins s2 σ H2 x y v ov iv u _ I2 r1 r2 r q2) fun _ s3 ⟨H3, I3, q3⟩ => ?_))))
  exact wpAny_release ⟨σ, H3, I3, q3⟩
noncomputable def tAsg (te : TE) (g : TG) : TS := fun D σ H => te σ H fun x H1 => g x σ H1 D.nx
theorem ps_asg {tg e : Expr} {te : TE} {g : TG} (he : PE X e te) (hg : PG X tg g) (hs : swapsWithSole [tg] e pos.line X.env = pure false := by rfl) (hw : swappedStores [tg] e X.env = pure none := by rfl)
    (h1 : (assignEach [tg] X.env).map (·.2) = [assign tg X.env] := by rfl) : PS X (.Assign [tg] e pos) (tAsg te g) := by
  intro pins s σ H D I h
  refine wpAny_Assign_stores (thn (he pins s σ H _ I h) fun v s1 ⟨x, H1, I1, r1, q1⟩ => ?_) hs hw
  rw [h1]
  exact thn (hg pins s1 σ H1 x v _ I1 r1 q1) fun _ s2 q => q
theorem ps_set {i : Nat} {x : Str} {e : Expr} {te : TE} {pos' : Pos} (hN : X.N.Nodup) (hi : X.N[i]? = some x) (hx : Loc X.env.scope x) (he : PE X e te) (hs : swapsWith e (some (.Name x pos')) pos.line X.env = pure false := by rfl) (hf : X.fn x = true ∨ X.env.scope.names.lookup x = some .local := by first | exact .inl rfl | exact .inr rfl | assumption) :
    PS X (.Assign [.Name x pos'] e pos) (tAsg te (gName i)) := by
  intro pins s σ H D I h
  refine wpAny_Assign_Name (thn (he pins s σ H _ I h) fun v s1 ⟨y, H1, I1, r1, q1⟩ => ?_) hs
  exact store_ok I1 hN hi hx r1 (fun s2 I2 => ⟨_, H1, I2, q1⟩) hf
end

section
variable {X : Cx} {pos : Pos}
end

structure It where
  go : Nat → Hp → Prop
  yld : Nat → Hp → V → Hp → Prop
  stop : Nat → Hp → Prop
noncomputable def FpOk (X : Cx) (pins : List (Addr × Obj)) (H : Hp) (b : Addr) : Prop :=
  H b = none ∧ b ≠ X.env.locals ∧ b ∉ X.fs ∧ (b ∈ X.ex ∨ X.s₀.heap.objs.size ≤ b) ∧ (∀ x c, X.env.cells.lookup x = some c → c ≠ b) ∧ ∀ p ∈ X.pn ++ pins, p.1 ≠ b
theorem Inv.fpOk {X : Cx} {pins : List (Addr × Obj)} {σ : St} {H H' : Hp} {s : Shared} {b : Addr} (I : Inv X pins σ H s) (hb : s.heap.objs.size ≤ b) (hn : H' b = none) : FpOk X pins H' b := by
  refine ⟨hn, Nat.ne_of_gt (Nat.lt_of_lt_of_le I.lt hb), I.nofs hb, .inr (Nat.le_trans I.sz hb), fun x c e z => ?_, fun p hp z => ?_⟩
  · obtain ⟨v, q⟩ := I.cell x c e
    exact absurd (Nat.lt_of_lt_of_le q.lt (by rw [z]; exact hb)) (Nat.lt_irrefl _)
  · exact absurd (Nat.lt_of_lt_of_le (Heap.lt_size (I.pin p hp).1) (by rw [z]; exact hb)) (Nat.lt_irrefl _)
structure Turn (P : Program) (w : World) (K : PySem.W.Frag) (tg : Expr) (J : It) (fp : List Addr) (it : Addr) (tn : Nat → Heap → Prop) : Prop where
  mem : it ∈ fp
  obj : ∀ i h, tn i h → ∀ b ∈ fp, ∃ o, h.get? b = some o ∧ ∀ v, o.data ≠ .cell v
  keep : ∀ i h h', tn i h → (∀ b ∈ fp, ∀ o, h.get? b = some o → h'.get? b = some o) → tn i h'
  item : ∀ (X : Cx), X.prog = P → X.w = w → X.K = K → X.calm = true → ∀ (i : Nat) (pins : List (Addr × Obj)) (s : Shared) (σ : St) (H : Hp) (E : Value → Shared → Prop), Inv X pins σ H s → (∀ b ∈ fp, FpOk X pins H b) → tn i s.heap → J.go i H →
    wpAny (model P w) X.A (pyNext (.ref it)) (fun r s1 => ∃ u, r = some u ∧
      wpAny (model P w) X.A (letOwnedTupleGo tg (.ref it) u) (fun _ s2 => ∃ x H', Inv X pins σ H' s2 ∧ RelV x u ∧ J.yld i H x H' ∧ tn (i + 1) s2.heap ∧ ∀ b ∈ fp, H' b = none) E s1) E s
  done : ∀ (X : Cx), X.prog = P → X.w = w → X.K = K → X.calm = true → ∀ (i : Nat) (pins : List (Addr × Obj)) (s : Shared) (σ : St) (H : Hp) (E : Value → Shared → Prop), Inv X pins σ H s → (∀ b ∈ fp, FpOk X pins H b) → tn i s.heap → J.stop i H →
    wpAny (model P w) X.A (pyNext (.ref it)) (fun r s1 => r = none ∧ Inv X pins σ H s1) E s
  self : ∀ (A : Around) (i : Nat) (s : Shared) (Q : Value → Shared → Prop) (E : Value → Shared → Prop), tn i s.heap → Q (.ref it) s → wpAny (model P w) A (pyIter (.ref it)) Q E s
noncomputable abbrev TI := St → Hp → (It → Hp → Prop) → Prop
noncomputable def PIE (X : Cx) (pins : List (Addr × Obj)) (σ : St) (tg : Expr) (R : It → Hp → Prop) (itv : Value) (s2 : Shared) : Prop :=
  ∃ (it : Addr) (fp : List Addr) (tn : Nat → Heap → Prop) (J : It) (H' : Hp), itv = .ref it ∧ Inv X pins σ H' s2 ∧ Turn X.prog X.w X.K tg J fp it tn ∧ tn 0 s2.heap ∧ (∀ b ∈ fp, FpOk X pins H' b) ∧ R J H'
noncomputable def PI (X : Cx) (tg iter : Expr) (wi : TI) : Prop :=
  ∀ (pins : List (Addr × Obj)) (s : Shared) (σ : St) (H : Hp) (R : It → Hp → Prop), Inv X pins σ H s → wi σ H R →
    wpAny (model X.prog X.w) X.A (eval iter X.env) (fun v s1 => wpAny (model X.prog X.w) X.A (pyIter v) (PIE X pins σ tg R) X.xe s1) X.xe s
theorem go_of {M : Model} {A : Around} {E : Value → Shared → Prop} {s : Shared} {tg : Expr} {it : Addr} {u : Value} {o : Obj} {n : String} {vs : Array Value} {Q : Unit → Shared → Prop} (ho : s.heap.get? it = some o) (hc : o.cls = .type n) (hd : o.data = .fields vs)
    (hn : ["enumerate", "zip", "dict_itemiterator", "dict_reverseitemiterator", "odict_iterator", "itertools.zip_longest", "itertools.pairwise"].contains n = false) (hQ : Q () s) : wpAny M A (letOwnedTupleGo tg (.ref it) u) Q E s := by
  unfold letOwnedTupleGo
  cases tg <;> first
    | exact wpAny_pure hQ
    | (cases u <;> first
        | exact wpAny_pure hQ
        | (refine wpAny_bind (wpAny_load ho ?_)
           rw [hc, hd]
           show wpAny M A (if (["enumerate", "zip", "dict_itemiterator", "dict_reverseitemiterator", "odict_iterator", "itertools.zip_longest", "itertools.pairwise"].contains n && vs[0]? == some (rawInt _)) = true then _ else _) Q E s
           rw [if_neg (by intro h; rw [hn, Bool.false_and] at h; cases h)]
           exact wpAny_pure hQ))
noncomputable def Itl (K : PySem.W.Frag) (a : Addr) : It :=
  ⟨fun i H => ∃ xs x, SqL K H a xs ∧ xs[i]? = some x, fun i H x H' => H' = H ∧ ∀ xs, SqL K H a xs → xs[i]? = some x, fun i H => ∃ xs, SqL K H a xs ∧ xs.length ≤ i⟩
noncomputable def Itr (lo : Int) (n : Nat) : It := ⟨fun i _ => i < n, fun i H x H' => H' = H ∧ x = .int (lo + i), fun i _ => n ≤ i⟩
theorem turn_list {P : Program} {w : World} {K : PySem.W.Frag} {tg : Expr} (a it : Addr) : Turn P w K tg (Itl K a) [it] it (fun i h => h.IsListIter it a i) where
  mem := by simp
  obj := fun i h st b hb => by
    have e : b = it := by simpa using hb
    subst e
    obtain ⟨o, e, c, d⟩ := st
    exact ⟨o, e, fun v z => by rw [d] at z; cases z⟩
  keep := fun i h h' st k => st.at fun o e => k it (by simp) o e
  item := by
    intro X hP hw hK hc i pins s σ H E I hf st hg
    subst hP hw hK
    obtain ⟨xs, x, hq, hx⟩ := hg
    obtain ⟨its, rv, p, hz⟩ := I.list hq
    obtain ⟨u, hu, ru⟩ := rv.get hx
    obtain ⟨f0, f1, f2, f3, f4, f5⟩ := hf it (by simp)
    refine wpAny_pyNext_list_item st p.isList (x := u) (by simpa using hu) fun h' st' sb => ?_
    have I1 : Inv X pins σ H { s with heap := h' } := I.turned (t' := s.toks) (fun b o hb e => (sb.2 b hb).trans e) f0 f1 f3 f4 f5
    obtain ⟨o, e, c, d⟩ := id st'
    exact ⟨u, rfl, go_of (s := { s with heap := h' }) e c d (by decide) ⟨x, H, I1, ru, ⟨rfl, fun ys hy => by rw [I.list_inj hy hq]; exact hx⟩, st', fun b hb => (hf b hb).1⟩⟩
  done := by
    intro X hP hw hK hc i pins s σ H E I hf st hg
    subst hP hw hK
    obtain ⟨xs, hq, hx⟩ := hg
    obtain ⟨its, rv, p, hz⟩ := I.list hq
    obtain ⟨f0, f1, f2, f3, f4, f5⟩ := hf it (by simp)
    have hl := rv.length
    exact wpAny_pyNext_list_end (I.ok.hd hc) st p.isList (by simp; omega) fun h' eb => ⟨rfl, I.turned (t' := s.toks) (fun b o hb e => eb b o hb e) f0 f1 f3 f4 f5⟩
  self := fun _ _ _ _ _ st h => wpAny_pyIter_listiter st h
theorem turn_range {P : Program} {w : World} {K : PySem.W.Frag} {tg : Expr} (it : Addr) (lo : Int) (n : Nat) : Turn P w K tg (Itr lo n) [it] it (fun i h => IsRangeIter h it (lo + (i : Nat) * 1) ((n : Int) - (i : Nat)) 1) where
  mem := by simp
  obj := fun i h st b hb => by
    have e : b = it := by simpa using hb
    subst e
    exact ⟨_, st, fun v z => by
      have z' : Data.fields _ = Data.cell v := z
      cases z'⟩
  keep := fun i h h' st k => k it (by simp) _ st
  item := by
    intro X hP hw hK hc i pins s σ H E I hf st hg
    subst hP hw hK
    obtain ⟨f0, f1, f2, f3, f4, f5⟩ := hf it (by simp)
    have W := Walks.range (prog := X.prog) (w := X.w) (I.ok.hd hc) it lo 1 n
    refine W.item i s _ _ hg st fun v h' tk hv st' kk => ?_
    obtain ⟨t, rfl⟩ := hv
    have I1 : Inv X pins σ H { s with heap := h', toks := tk } := I.turned (fun b o hb e => kk b o (by simpa using hb) e) f0 f1 f3 f4 f5
    refine ⟨_, rfl, go_of (s := { s with heap := h', toks := tk }) (n := "range_iterator") st' rfl rfl (by decide) ⟨.int (lo + i), H, I1, ⟨t, ?_⟩, ⟨rfl, rfl⟩, st', fun b hb => (hf b hb).1⟩⟩
    rw [Int.mul_one]
  done := by
    intro X hP hw hK hc i pins s σ H E I hf st hg
    subst hP hw hK
    obtain ⟨f0, f1, f2, f3, f4, f5⟩ := hf it (by simp)
    exact wpAny_pyNext_range_end (I.ok.hd hc) st (by have : n ≤ i := hg; omega) fun h' eb => ⟨rfl, I.turned (t' := s.toks) (fun b o hb e => eb b o hb e) f0 f1 f3 f4 f5⟩
  self := fun _ _ _ _ _ st h => wpAny_pyIter_rangeiter st h
end L2
namespace L2
open PySem PySem.Spec PyProof.Rows
section
variable {X : Cx} {tg : Expr}
noncomputable def iList (K : PySem.W.Frag) (tl : TE) : TI := fun σ H R => tl σ H fun x H1 => ∃ a, x = .ref a ∧ (∃ xs, SqL K H1 a xs) ∧ R (Itl K a) H1
theorem pi_list {l : Expr} {tl : TE} (hl : PE X l tl) : PI X tg l (iList X.K tl) := by
  intro pins s σ H R I h
  refine thn (hl pins s σ H _ I h) fun v s1 ⟨x, H1, I1, r1, q1⟩ => ?_
  obtain ⟨a, e, ⟨xs, hq⟩, q⟩ := q1
  subst e
  cases r1
  obtain ⟨its, rv, p, hz⟩ := I1.list hq
  refine wpAny_pyIter_list p.isList ?_
  refine ⟨s1.heap.objs.size, [s1.heap.objs.size], _, _, H1, rfl, I1.kept (t' := s1.toks) fun b o e => Heap.get?_push_of_some _ e, turn_list a _, ⟨_, Heap.get?_push_size _ rfl, rfl, rfl⟩, fun b hb => ?_, q⟩
  have e : b = s1.heap.objs.size := by simpa using hb
  subst e
  exact I1.fpOk (Nat.le_refl _) (I1.hok.fresh (Nat.le_refl _))
theorem range_it {pins : List (Addr × Obj)} {σ : St} {H : Hp} {s : Shared} {R : It → Hp → Prop} {E : Value → Shared → Prop} {lo hi : Int} {t u v : Tok} {tk : Nat} (I : Inv X pins σ H s) (h1 : -(2 ^ 62) ≤ lo) (h2 : lo < 2 ^ 62) (h3 : -(2 ^ 62) ≤ hi) (h4 : hi < 2 ^ 62)
    (q : R (Itr lo (hi - lo).toNat) H) : wpAny (model X.prog X.w) X.A (pyIter (.ref s.heap.objs.size)) (PIE X pins σ tg R) E { s with heap := s.heap.push { cls := .type "range", data := .fields #[.int lo t, .int hi u, .int 1 v] }, toks := tk } := by
  refine wpAny_pyIter_range (IsRange.new ..) (small_one h1 h2 h3 h4) ?_
  have I1 : Inv X pins σ H { s with heap := s.heap.push { cls := .type "range", data := .fields #[.int lo t, .int hi u, .int 1 v] }, toks := tk } := I.kept fun b o e => Heap.get?_push_of_some _ e
  refine ⟨(s.heap.push { cls := .type "range", data := .fields #[.int lo t, .int hi u, .int 1 v] }).objs.size, [(s.heap.push { cls := .type "range", data := .fields #[.int lo t, .int hi u, .int 1 v] }).objs.size], _, _, H, rfl,
    I1.kept (t' := tk) fun b o e => Heap.get?_push_of_some _ e, turn_range _ lo (hi - lo).toNat, ?_, fun b hb => ?_, q⟩
  · have e1 : lo + ((0 : Nat) : Int) * 1 = lo := by simp
    have e2 : (((hi - lo).toNat : Nat) : Int) - ((0 : Nat) : Int) = Builtin.Range.rangeSize lo hi 1 := by rw [rangeSize_one]; split <;> omega
    show IsRangeIter _ _ (lo + ((0 : Nat) : Int) * 1) ((((hi - lo).toNat : Nat) : Int) - ((0 : Nat) : Int)) 1
    rw [e1, e2]
    exact Heap.get?_push_size _ rfl
  · have e : b = (s.heap.push { cls := .type "range", data := .fields #[.int lo t, .int hi u, .int 1 v] }).objs.size := by simpa using hb
    subst e
    exact I1.fpOk (Nat.le_refl _) (I1.hok.fresh (Nat.le_refl _))
noncomputable def iRng1 (ta : TA) : TI := fun σ H R => ta σ H fun vs H1 => ∃ j : Int, vs = [.int j] ∧ -(2 ^ 62) ≤ j ∧ j < 2 ^ 62 ∧ R (Itr 0 j.toNat) H1
theorem pi_range1 {a : Expr} {ta : TA} {p pos : Pos} (hg : Gl X "range") (hm : X.mg "range" = none) (ha : PA X [a] ta) (hs : starEach [a] X.env = [(false, eval a X.env)] := by rfl) : PI X tg (.Call (.Name "range" p) [a] [] pos) (iRng1 ta) := by
  intro pins s σ H R I h
  refine Call_ (ld_blt I hg hm boot_range (PyProof.Rows.callWith_type1 (thn (ha pos pins s σ H _ I h) fun us s1 ⟨vs, H1, I1, r1, q1⟩ => ?_) hs rfl))
  obtain ⟨j, e, q1, q2, q⟩ := q1
  subst e
  cases r1 with
  | cons r rr =>
    cases rr
    obtain ⟨t, rfl⟩ := r
    exact call_range_1 (range_it I1 (by omega) (by omega) q1 q2 (by simpa using q))

noncomputable def tFor (wi : TI) (g : TG) (tb : TS) : TS := fun D σ H => wi σ H fun J H1 => ∃ W : Nat → Nat → St → Hp → Prop, (∃ m, W 0 m σ H1) ∧ ∀ i m σ H, W i m σ H →
  (J.stop i H ∧ D.nx σ H) ∨ (J.go i H ∧ ∃ N : St → Hp → Prop, (∀ σ' H', N σ' H' → ∃ m', m' < m ∧ W (i + 1) m' σ' H') ∧ ∀ x H', J.yld i H x H' → g x σ H' fun σ2 H2 => tb { D with nx := N, ct := N, bk := D.nx } σ2 H2)
noncomputable def pinsAt (fp : List Addr) (h : Heap) : List (Addr × Obj) := fp.filterMap fun b => (h.get? b).map fun o => (b, o)
theorem mem_pinsAt {fp : List Addr} {h : Heap} {b : Addr} {o : Obj} (hb : b ∈ fp) (e : h.get? b = some o) : (b, o) ∈ pinsAt fp h := List.mem_filterMap.mpr ⟨b, hb, by rw [e]; rfl⟩
theorem of_pinsAt {fp : List Addr} {h : Heap} {p : Addr × Obj} (hp : p ∈ pinsAt fp h) : p.1 ∈ fp ∧ h.get? p.1 = some p.2 := by
  obtain ⟨b, hb, e⟩ := List.mem_filterMap.mp hp
  cases q : h.get? b with
  | none => rw [q] at e; cases e
  | some o =>
    rw [q] at e
    have e' : (b, o) = p := Option.some.inj e
    subst e'
    exact ⟨hb, q⟩
theorem Inv.pinned {pins : List (Addr × Obj)} {σ : St} {H : Hp} {s : Shared} {fp : List Addr} (I : Inv X pins σ H s) (hf : ∀ b ∈ fp, FpOk X pins H b) (ho : ∀ b ∈ fp, ∃ o, s.heap.get? b = some o ∧ ∀ v, o.data ≠ .cell v) : Inv X (pins ++ pinsAt fp s.heap) σ H s :=
  I.pins_of fun p hp => (List.mem_append.mp hp).elim (fun z => I.pin p (List.mem_append_right _ z)) fun z => by
    obtain ⟨hb, e⟩ := of_pinsAt z
    obtain ⟨f0, f1, f2, _⟩ := hf p.1 hb
    obtain ⟨o, e', d⟩ := ho p.1 hb
    rw [e] at e'; cases e'
    exact ⟨e, f0, f1, f2, d⟩
theorem Inv.unpinned {pins pl : List (Addr × Obj)} {σ : St} {H : Hp} {s : Shared} (I : Inv X (pins ++ pl) σ H s) : Inv X pins σ H s := I.pins_of fun p hp => I.pin p (List.mem_append_right _ (List.mem_append_left _ hp))
theorem ps_for {iter : Expr} {body : List Stmt} {wi : TI} {g : TG} {tb : TS} {pos : Pos} (hp : PassesOwn (model X.prog X.w) X.A X.env X.xe) (hc : X.calm = true) (hi : PI X tg iter wi) (hg : PG X tg g) (hb : PSs X body tb)
    (hs : ∀ x, foldedSetIterable iter X.env x = pure x := by intro _; rfl) : PS X (.For tg iter body [] pos) (tFor wi g tb) := by
  intro pins s σ H D I h
  refine wpAny_For (thn (hi pins s σ H _ I h) fun v s1 h1 => thn h1 fun itv s2 h2 => ?_) hs
  obtain ⟨it, fp, tn, J, H2, e, I2, T, st2, f2, W, ⟨m0, w0⟩, turn⟩ := h2
  subst e
  -- what stays true of the iterator's objects through the loop
  have stat : ∀ {H' : Hp}, (∀ b ∈ fp, H' b = none) → ∀ b ∈ fp, FpOk X pins H' b := fun hn b hb => ⟨hn b hb, (f2 b hb).2⟩
  refine codeAny_forLoop_any (fun n s' => ∃ i σ' H', Inv X pins σ' H' s' ∧ tn i s'.heap ∧ (∀ b ∈ fp, H' b = none) ∧ W i n σ' H') ?_ m0 ⟨0, σ, H2, I2, st2, fun b hb => (f2 b hb).1, w0⟩
  rintro n s3 ⟨i, σ3, H3, I3, st3, fr3, w3⟩
  rcases turn i n σ3 H3 w3 with ⟨stop, qn⟩ | ⟨go, N, hN, step⟩
  · refine wpAny_passesOwn hp (thn (T.done X rfl rfl rfl hc i pins s3 σ3 H3 X.xe I3 (stat fr3) st3 stop) fun r s4 ⟨hr, I4⟩ => ?_)
    subst hr
    exact wpAny_execs_nil ⟨σ3, H3, I4, qn⟩
  · refine wpAny_passesOwn hp (thn (T.item X rfl rfl rfl hc i pins s3 σ3 H3 X.xe I3 (stat fr3) st3 go) fun r s4 ⟨u, hr, h4⟩ => ?_)
    subst hr
    refine wpAny_passesOwn hp (thn h4 fun _ s5 ⟨x, H5, I5, r5, y5, st5, fr5⟩ => ?_)
    have I5' := I5.pinned (stat fr5) (T.obj _ _ st5)
    refine wpAny_passesOwn hp (thn (hg _ s5 σ3 H5 x u _ I5' r5 (step x H5 y5)) fun _ s6 ⟨σ6, H6, I6, q6⟩ => ?_)
    refine wpAny_passesOwn hp (thn (hb _ s6 σ6 H6 _ I6 q6) fun f s7 q7 => ?_)
    have again : ∀ {σ7 : St} {H7 : Hp}, Inv X (pins ++ pinsAt fp s5.heap) σ7 H7 s7 → N σ7 H7 → ∃ m, m < n ∧ ∃ i σ' H', Inv X pins σ' H' s7 ∧ tn i s7.heap ∧ (∀ b ∈ fp, H' b = none) ∧ W i m σ' H' := fun {σ7 H7} I7 n7 => by
      obtain ⟨m', hm, w7⟩ := hN σ7 H7 n7
      refine ⟨m', hm, i + 1, σ7, H7, I7.unpinned, T.keep _ _ _ st5 fun b hb o e => (I7.pin (b, o) (List.mem_append_right _ (List.mem_append_right _ (mem_pinsAt hb e)))).1, fun b hb => ?_, w7⟩
      obtain ⟨o, e, d⟩ := T.obj _ _ st5 b hb
      exact (I7.pin (b, o) (List.mem_append_right _ (List.mem_append_right _ (mem_pinsAt hb e)))).2.1
    cases f with
    | next => obtain ⟨σ7, H7, I7, n7⟩ := q7; exact again I7 n7
    | cont => obtain ⟨σ7, H7, I7, n7⟩ := q7; exact again I7 n7
    | brk => obtain ⟨σ7, H7, I7, q7⟩ := q7; exact ⟨σ7, H7, I7.unpinned, q7⟩
    | ret v => obtain ⟨x7, σ7, H7, I7, r7, q7⟩ := q7; exact ⟨x7, σ7, H7, I7.unpinned, r7, q7⟩
end

theorem for_list {K : PySem.W.Frag} {a : Addr} {xs : List V} {g : TG} {tb : TS} {D : Ends} {σ : St} {H : Hp} (Pv : Nat → St → Hp → Prop) (h0 : Pv 0 σ H) (hl : ∀ i σ H, i ≤ xs.length → Pv i σ H → SqL K H a xs)
    (hs : ∀ i x σ H, xs[i]? = some x → Pv i σ H → g x σ H fun σ2 H2 => tb { D with nx := Pv (i + 1), ct := Pv (i + 1), bk := D.nx } σ2 H2) (hd : ∀ σ H, Pv xs.length σ H → D.nx σ H) :
    ∃ W : Nat → Nat → St → Hp → Prop, (∃ m, W 0 m σ H) ∧ ∀ i m σ H, W i m σ H →
      ((Itl K a).stop i H ∧ D.nx σ H) ∨ ((Itl K a).go i H ∧ ∃ N : St → Hp → Prop, (∀ σ' H', N σ' H' → ∃ m', m' < m ∧ W (i + 1) m' σ' H') ∧ ∀ x H', (Itl K a).yld i H x H' → g x σ H' fun σ2 H2 => tb { D with nx := N, ct := N, bk := D.nx } σ2 H2) := by
  refine ⟨fun i m σ H => m = xs.length - i ∧ i ≤ xs.length ∧ Pv i σ H, ⟨xs.length, by simp, Nat.zero_le _, h0⟩, ?_⟩
  rintro i m σ H ⟨rfl, hi, p⟩
  have q := hl i σ H hi p
  by_cases hlt : i < xs.length
  · refine .inr ⟨⟨xs, xs[i], q, by simp [hlt]⟩, Pv (i + 1), fun σ' H' p' => ⟨xs.length - (i + 1), by omega, rfl, hlt, p'⟩, fun x H' y => ?_⟩
    obtain ⟨e, y⟩ := y
    subst e
    exact hs i x σ _ (y xs q) p
  · have e : i = xs.length := by omega
    subst e
    exact .inl ⟨⟨xs, q, Nat.le_refl _⟩, hd σ H p⟩
theorem for_range {lo : Int} {n : Nat} {g : TG} {tb : TS} {D : Ends} {σ : St} {H : Hp} (Pv : Nat → St → Hp → Prop) (h0 : Pv 0 σ H)
    (hs : ∀ i σ H, i < n → Pv i σ H → g (.int (lo + i)) σ H fun σ2 H2 => tb { D with nx := Pv (i + 1), ct := Pv (i + 1), bk := D.nx } σ2 H2) (hd : ∀ σ H, Pv n σ H → D.nx σ H) :
    ∃ W : Nat → Nat → St → Hp → Prop, (∃ m, W 0 m σ H) ∧ ∀ i m σ H, W i m σ H →
      ((Itr lo n).stop i H ∧ D.nx σ H) ∨ ((Itr lo n).go i H ∧ ∃ N : St → Hp → Prop, (∀ σ' H', N σ' H' → ∃ m', m' < m ∧ W (i + 1) m' σ' H') ∧ ∀ x H', (Itr lo n).yld i H x H' → g x σ H' fun σ2 H2 => tb { D with nx := N, ct := N, bk := D.nx } σ2 H2) := by
  refine ⟨fun i m σ H => m = n - i ∧ i ≤ n ∧ Pv i σ H, ⟨n, by simp, Nat.zero_le _, h0⟩, ?_⟩
  rintro i m σ H ⟨rfl, hi, p⟩
  by_cases hlt : i < n
  · refine .inr ⟨hlt, Pv (i + 1), fun σ' H' p' => ⟨n - (i + 1), by omega, rfl, hlt, p'⟩, fun x H' y => ?_⟩
    obtain ⟨e, y⟩ := y
    subst e y
    exact hs i σ _ hlt p
  · have e : i = n := by omega
    subst e
    exact .inl ⟨Nat.le_refl _, hd σ H p⟩
end L2
namespace L2
open PySem PySem.Spec PyProof.Rows
noncomputable abbrev R2 := V → V → Hp → VK → Prop
noncomputable def OpR (X : Cx) (f : Value → Value → Sem Value) (r : R2) : Prop :=
  ∀ (pins : List (Addr × Obj)) (s : Shared) (σ : St) (H : Hp) (x y : V) (v u : Value) (Q : VK), Inv X pins σ H s → RelV x v → RelV y u → r x y H Q →
    wpAny (model X.prog X.w) X.A (f v u) (EP X pins σ Q) X.xe s
noncomputable def UnR (X : Cx) (f : Value → Sem Value) (r : V → Hp → VK → Prop) : Prop :=
  ∀ (pins : List (Addr × Obj)) (s : Shared) (σ : St) (H : Hp) (x : V) (v : Value) (Q : VK), Inv X pins σ H s → RelV x v → r x H Q →
    wpAny (model X.prog X.w) X.A (f v) (EP X pins σ Q) X.xe s
noncomputable def CallR (X : Cx) (f : Value) (r : List V → Hp → VK → Prop) : Prop :=
  ∀ (pins : List (Addr × Obj)) (s : Shared) (σ : St) (H : Hp) (xs : List V) (us : List Value) (Q : VK), Inv X pins σ H s → Vals xs us → r xs H Q →
    wpAny (model X.prog X.w) X.A (call f us) (EP X pins σ Q) X.xe s
noncomputable def tOp (r : R2) (ta tb : TE) : TE := fun σ H Q => ta σ H fun x H1 => tb σ H1 fun y H2 => r x y H2 Q
noncomputable def tUn (r : V → Hp → VK → Prop) (ta : TE) : TE := fun σ H Q => ta σ H fun x H1 => r x H1 Q
noncomputable def rI (C : Int → Int → Prop) (g : Int → Int → V) : R2 := fun x y H Q => ∃ i j, x = .int i ∧ y = .int j ∧ C i j ∧ Q (g i j) H
noncomputable def rI0 (g : Int → Int → V) : R2 := fun x y H Q => ∃ i j, x = .int i ∧ y = .int j ∧ Q (g i j) H
noncomputable def rU (g : Int → V) : V → Hp → VK → Prop := fun x H Q => ∃ i, x = .int i ∧ Q (g i) H
section
variable {X : Cx} {a b c : Expr} {ta tb tc : TE} {pos : Pos}
theorem binT (ha : PE X a ta) (hb : PE X b tb) {pins : List (Addr × Obj)} {s : Shared} {σ : St} {H : Hp} {R : V → V → Hp → Prop} (I : Inv X pins σ H s)
    (h : ta σ H fun x H1 => tb σ H1 fun y H2 => R x y H2) {Q : Value → Shared → Prop} {f : Value → Value → Sem Value}
    (hf : ∀ v u s2 x y H2, Inv X pins σ H2 s2 → RelV x v → RelV y u → R x y H2 → wpAny (model X.prog X.w) X.A (f v u) Q X.xe s2) :
    wpAny (model X.prog X.w) X.A (eval a X.env) (fun v s₁ => wpAny (model X.prog X.w) X.A (eval b X.env) (fun u s₂ => wpAny (model X.prog X.w) X.A (f v u) Q X.xe s₂) X.xe s₁) X.xe s := by
  refine thn (ha pins s σ H _ I h) fun v s1 ⟨x, H1, I1, r1, q1⟩ => ?_
  refine thn (hb pins s1 σ H1 _ I1 q1) fun u s2 ⟨y, H2, I2, r2, q2⟩ => ?_
  exact hf v u s2 x y H2 I2 r1 r2 q2
theorem pe_op {op : Operator} {r : R2} (ho : OpR X (binaryOp op) r) (ha : PE X a ta) (hb : PE X b tb) : PE X (.BinOp a op b pos) (tOp r ta tb) := by
  intro pins s σ H Q I h
  exact wpAny_BinOp (binT ha hb I h fun v u s2 x y H2 I2 rx ry q => ho pins s2 σ H2 x y v u Q I2 rx ry q)
theorem pe_un {op : UnaryOp} {r : V → Hp → VK → Prop} (ho : UnR X (unaryOp op) r) (ha : PE X a ta) : PE X (.UnaryOp op a pos) (tUn r ta) := by
  intro pins s σ H Q I h
  exact UnaryOp_ (thn (ha pins s σ H _ I h) fun v s1 ⟨x, H1, I1, r1, q1⟩ => ho pins s1 σ H1 x v Q I1 r1 q1)

theorem opI {f : Value → Value → Sem Value} {C : Int → Int → Prop} {g : Int → Int → Int}
    (rule : ∀ (i j : Int) (t u : Tok) (s : Shared) (Q : Value → Shared → Prop) (E : Value → Shared → Prop), C i j → Q (.int (g i j) s.toks) { s with toks := s.toks + 1 } → wpAny (model X.prog X.w) X.A (f (.int i t) (.int j u)) Q E s) :
    OpR X f (rI C fun i j => .int (g i j)) := by
  intro pins s σ H x y v u Q I rx ry h
  obtain ⟨i, j, rfl, rfl, hc, q⟩ := h
  obtain ⟨t, rfl⟩ := rx
  obtain ⟨t', rfl⟩ := ry
  exact rule i j t t' s _ _ hc ⟨.int (g i j), H, I.tok _, ⟨_, rfl⟩, q⟩
theorem opI0 {f : Value → Value → Sem Value} {g : Int → Int → Int}
    (rule : ∀ (i j : Int) (t u : Tok) (s : Shared) (Q : Value → Shared → Prop) (E : Value → Shared → Prop), Q (.int (g i j) s.toks) { s with toks := s.toks + 1 } → wpAny (model X.prog X.w) X.A (f (.int i t) (.int j u)) Q E s) :
    OpR X f (rI0 fun i j => .int (g i j)) := by
  intro pins s σ H x y v u Q I rx ry h
  obtain ⟨i, j, rfl, rfl, q⟩ := h
  obtain ⟨t, rfl⟩ := rx
  obtain ⟨t', rfl⟩ := ry
  exact rule i j t t' s _ _ ⟨.int (g i j), H, I.tok _, ⟨_, rfl⟩, q⟩
theorem opB0 {f : Value → Value → Sem Value} {g : Int → Int → Bool}
    (rule : ∀ (i j : Int) (t u : Tok) (s : Shared) (Q : Value → Shared → Prop) (E : Value → Shared → Prop), Q (.bool (g i j)) s → wpAny (model X.prog X.w) X.A (f (.int i t) (.int j u)) Q E s) :
    OpR X f (rI0 fun i j => .bl (g i j)) := by
  intro pins s σ H x y v u Q I rx ry h
  obtain ⟨i, j, rfl, rfl, q⟩ := h
  obtain ⟨t, rfl⟩ := rx
  obtain ⟨t', rfl⟩ := ry
  exact rule i j t t' s _ _ ⟨.bl (g i j), H, I, rfl, q⟩
noncomputable def CDiv (i j : Int) : Prop := 0 < j ∧ j < 1073741824
noncomputable def CPow (i j : Int) : Prop := 0 ≤ j ∧ j ≤ 1000000 ∧ i.natAbs < 2 ^ 64
noncomputable def CMul (i j : Int) : Prop := (-(2 ^ 64) < i ∧ i < 2 ^ 64) ∨ (-(2 ^ 64) < j ∧ j < 2 ^ 64)
theorem CMul.ok {i j : Int} (h : CMul i j) : IntMulOk i j := by
  rcases h with ⟨h1, h2⟩ | ⟨h1, h2⟩
  · exact .of_left (intBits_le_64 h1 h2)
  · exact .of_right (intBits_le_64 h1 h2)
theorem op_add : OpR X (binaryOp .Add) (rI0 fun i j => .int (i + j)) := opI0 fun _ _ _ _ _ _ _ q => add_int q
theorem op_sub : OpR X (binaryOp .Sub) (rI0 fun i j => .int (i - j)) := opI0 fun _ _ _ _ _ _ _ q => sub_int q
theorem op_mul : OpR X (binaryOp .Mult) (rI CMul fun i j => .int (i * j)) := opI fun _ _ _ _ _ _ _ hc q => mul_int q hc.ok
theorem op_fdiv : OpR X (binaryOp .FloorDiv) (rI CDiv fun i j => .int (i / j)) := opI fun i j _ _ _ _ _ hc q => by
  have h1 : (0 : Int) < j := hc.1
  have h2 : j < 1073741824 := hc.2
  exact floordiv_int (by omega) (by rw [Int.fdiv_eq_ediv_of_nonneg i (by omega)]; exact q) (.inl (PyProof.noPylong_small (by omega)))
theorem op_mod : OpR X (binaryOp .Mod) (rI (fun _ j => 0 < j) fun i j => .int (i % j)) := opI fun i j _ _ _ _ _ hc q => by
  have h1 : (0 : Int) < j := hc
  exact mod_int' (by omega) (by rw [Int.fmod_eq_emod_of_nonneg i (by omega)]; exact q)
theorem op_pow : OpR X (binaryOp .Pow) (rI CPow fun i j => .int (i ^ j.toNat)) := opI fun _ _ _ _ _ _ _ hc q => pow_int_small hc.1 hc.2.1 hc.2.2 q
theorem unI {f : Value → Sem Value} {g : Int → Int}
    (rule : ∀ (i : Int) (t : Tok) (s : Shared) (Q : Value → Shared → Prop) (E : Value → Shared → Prop), Q (.int (g i) s.toks) { s with toks := s.toks + 1 } → wpAny (model X.prog X.w) X.A (f (.int i t)) Q E s) :
    UnR X f (rU fun i => .int (g i)) := by
  intro pins s σ H x v Q I rx h
  obtain ⟨i, rfl, q⟩ := h
  obtain ⟨t, rfl⟩ := rx
  exact rule i t s _ _ ⟨.int (g i), H, I.tok _, ⟨_, rfl⟩, q⟩
theorem un_neg : UnR X (unaryOp .USub) (rU fun i => .int (-i)) := unI fun _ _ _ _ _ q => neg_int q

end

noncomputable def scal : V → V → Bool
  | .non, .non => true | .non, .int _ => true | .int _, .non => true | .non, .bl _ => true | .bl _, .non => true | .non, .str _ => true | .str _, .non => true
  | .int _, .int _ => true | .bl _, .bl _ => true | .str _, .str _ => true | .byt _, .byt _ => true
  | .int _, .str _ => true | .str _, .int _ => true | .bl _, .str _ => true | .str _, .bl _ => true
  | _, _ => false
noncomputable def rEq : R2 := fun x y H Q => scal x y = true ∧ Q (.bl (decide (x = y))) H
noncomputable def rNe : R2 := fun x y H Q => scal x y = true ∧ Q (.bl (!decide (x = y))) H
theorem dec_int {i j : Int} : decide (V.int i = V.int j) = (i == j) := by
  rw [Bool.eq_iff_iff]
  simp
theorem dec_bl {i j : Bool} : decide (V.bl i = V.bl j) = (i == j) := by
  rw [Bool.eq_iff_iff]
  simp
theorem dec_str {i j : Str} : decide (V.str i = V.str j) = (i == j) := by
  rw [Bool.eq_iff_iff]
  simp
theorem dec_byt {i j : Array UInt8} : decide (V.byt i = V.byt j) = (i.toList == j.toList) := by
  rw [Bool.eq_iff_iff]
  cases i
  cases j
  simp
section
variable {X : Cx} {a b c : Expr} {ta tb tc : TE} {pos : Pos}
theorem fin_bl {pins : List (Addr × Obj)} {σ : St} {H : Hp} {s : Shared} {Q : VK} {k k' : Bool} (I : Inv X pins σ H s) (q : Q (.bl k) H) (e : k = k') : EP X pins σ Q (.bool k') s := by
  subst e
  exact ⟨.bl k, H, I, rfl, q⟩
theorem op_eq : OpR X (compareOp .Eq) rEq := by
  intro pins s σ H x y v u Q I rx ry h
  obtain ⟨hs, q⟩ := h
  cases x with
  | non =>
    cases rx
    cases y with
    | non => cases ry; exact PySem.EqNone.eq_none_none (fin_bl I q (by simp))
    | bl j => cases ry; exact PySem.EqNone.eq_none_bool (fin_bl I q (by simp))
    | int j => obtain ⟨t', rfl⟩ := ry; exact PySem.EqNone.eq_none_int (fin_bl I q (by simp))
    | str j => obtain ⟨t', rfl⟩ := ry; exact PySem.EqNone.eq_none_str (fin_bl I q (by simp))
    | _ => exact absurd (show false = true from hs) Bool.false_ne_true
  | bl i =>
    cases rx
    cases y with
    | non => cases ry; exact PySem.EqNone.eq_bool_none (fin_bl I q (by simp))
    | bl j => cases ry; exact eq_bool (fin_bl I q dec_bl)
    | str j => obtain ⟨t', rfl⟩ := ry; exact PySem.EqMixed.eq_bool_str (fin_bl I q (by simp))
    | _ => exact absurd (show false = true from hs) Bool.false_ne_true
  | int i =>
    obtain ⟨t, rfl⟩ := rx
    cases y with
    | non => cases ry; exact PySem.EqNone.eq_int_none (fin_bl I q (by simp))
    | int j => obtain ⟨t', rfl⟩ := ry; exact eq_int (fin_bl I q dec_int)
    | str j => obtain ⟨t', rfl⟩ := ry; exact PySem.EqMixed.eq_int_str (fin_bl I q (by simp))
    | _ => exact absurd (show false = true from hs) Bool.false_ne_true
  | str i =>
    obtain ⟨t, rfl⟩ := rx
    cases y with
    | non => cases ry; exact PySem.EqNone.eq_str_none (fin_bl I q (by simp))
    | bl j => cases ry; exact PySem.EqMixed.eq_str_bool (fin_bl I q (by simp))
    | int j => obtain ⟨t', rfl⟩ := ry; exact PySem.EqMixed.eq_str_int (fin_bl I q (by simp))
    | str j => obtain ⟨t', rfl⟩ := ry; exact eq_str (fin_bl I q dec_str)
    | _ => exact absurd (show false = true from hs) Bool.false_ne_true
  | byt i =>
    obtain ⟨t, rfl⟩ := rx
    cases y with
    | byt j => obtain ⟨t', rfl⟩ := ry; exact PySem.W.eq_bytes (fin_bl I q dec_byt)
    | _ => exact absurd (show false = true from hs) Bool.false_ne_true
  | _ => cases y <;> exact absurd (show false = true from hs) Bool.false_ne_true
theorem op_ne : OpR X (compareOp .NotEq) rNe := by
  intro pins s σ H x y v u Q I rx ry h
  obtain ⟨hs, q⟩ := h
  cases x with
  | non =>
    cases rx
    cases y with
    | non => cases ry; exact PySem.EqNone.ne_none_none (fin_bl I q (by simp))
    | bl j => cases ry; exact PySem.EqNone.ne_none_bool (fin_bl I q (by simp))
    | int j => obtain ⟨t', rfl⟩ := ry; exact PySem.EqNone.ne_none_int (fin_bl I q (by simp))
    | str j => obtain ⟨t', rfl⟩ := ry; exact PySem.EqNone.ne_none_str (fin_bl I q (by simp))
    | _ => exact absurd (show false = true from hs) Bool.false_ne_true
  | bl i =>
    cases rx
    cases y with
    | non => cases ry; exact PySem.EqNone.ne_bool_none (fin_bl I q (by simp))
    | bl j => cases ry; exact ne_bool (fin_bl I q (congrArg not dec_bl))
    | str j => obtain ⟨t', rfl⟩ := ry; exact PySem.EqMixed.ne_bool_str (fin_bl I q (by simp))
    | _ => exact absurd (show false = true from hs) Bool.false_ne_true
  | int i =>
    obtain ⟨t, rfl⟩ := rx
    cases y with
    | non => cases ry; exact PySem.EqNone.ne_int_none (fin_bl I q (by simp))
    | int j => obtain ⟨t', rfl⟩ := ry; exact ne_int (fin_bl I q (congrArg not dec_int))
    | str j => obtain ⟨t', rfl⟩ := ry; exact PySem.EqMixed.ne_int_str (fin_bl I q (by simp))
    | _ => exact absurd (show false = true from hs) Bool.false_ne_true
  | str i =>
    obtain ⟨t, rfl⟩ := rx
    cases y with
    | non => cases ry; exact PySem.EqNone.ne_str_none (fin_bl I q (by simp))
    | bl j => cases ry; exact PySem.EqMixed.ne_str_bool (fin_bl I q (by simp))
    | int j => obtain ⟨t', rfl⟩ := ry; exact PySem.EqMixed.ne_str_int (fin_bl I q (by simp))
    | str j => obtain ⟨t', rfl⟩ := ry; exact ne_str (fin_bl I q (congrArg not dec_str))
    | _ => exact absurd (show false = true from hs) Bool.false_ne_true
  | byt i =>
    obtain ⟨t, rfl⟩ := rx
    cases y with
    | byt j => obtain ⟨t', rfl⟩ := ry; exact PySem.W.ne_bytes (fin_bl I q (congrArg not dec_byt))
    | _ => exact absurd (show false = true from hs) Bool.false_ne_true
  | _ => cases y <;> exact absurd (show false = true from hs) Bool.false_ne_true
theorem op_lt : OpR X (compareOp .Lt) (rI0 fun i j => .bl (decide (i < j))) := opB0 fun _ _ _ _ _ _ _ q => lt_int q
theorem op_le : OpR X (compareOp .LtE) (rI0 fun i j => .bl (decide (i ≤ j))) := opB0 fun _ _ _ _ _ _ _ q => le_int q
theorem op_gt : OpR X (compareOp .Gt) (rI0 fun i j => .bl (decide (j < i))) := opB0 fun _ _ _ _ _ _ _ q => gt_int q
theorem nomark (b : Expr) {op : CmpOp} (h : op ≠ .In := by decide) (h2 : op ≠ .NotIn := by decide) : behindInMarks op b = false := by
  have e1 : (op == CmpOp.In) = false := by cases op <;> first | rfl | exact absurd rfl h
  have e2 : (op == CmpOp.NotIn) = false := by cases op <;> first | rfl | exact absurd rfl h2
  cases b <;> simp [behindInMarks, e1, e2]
theorem pe_cmpR {op : CmpOp} {r : R2} (ho : OpR X (compareOp op) r) (ha : PE X a ta) (hb : PE X b tb) (hm : behindInMarks op b = false) : PE X (.Compare a [op] [b] pos) (tOp r ta tb) := by
  intro pins s σ H Q I h
  exact wpAny_Compare1 (binT ha hb I h fun v u s2 x y H2 I2 rx ry q => ho pins s2 σ H2 x y v u Q I2 rx ry q) hm
noncomputable def tTest (t : TE) : TT := fun σ H Q => t σ H fun x H' => ∃ k, x = .bl k ∧ Q k H'
theorem pt_cmpR {op : CmpOp} {r : R2} (ho : OpR X (compareOp op) r) (ha : PE X a ta) (hb : PE X b tb) (hm : behindInMarks op b = false) : PT X (.Compare a [op] [b] pos) (tTest (tOp r ta tb)) := by
  intro pins s σ H Q I h
  refine wpAny_isTrue_Compare1 (thn (ha pins s σ H _ I h) fun v s1 ⟨x, H1, I1, r1, q1⟩ => thn (hb pins s1 σ H1 _ I1 q1) fun u s2 ⟨y, H2, I2, r2, q2⟩ =>
    thn (ho pins s2 σ H2 x y v u _ I2 r1 r2 q2) fun c s3 ⟨z, H3, I3, r3, k, e, q3⟩ => ?_) hm
  subst e
  cases r3
  exact wpAny_truthy_bool ⟨H3, I3, q3⟩
noncomputable def tChain (r r' : R2) (ta tb tc : TE) : TE := fun σ H Q => ta σ H fun x H1 => tb σ H1 fun y H2 => r x y H2 fun z H3 => ∃ k, z = .bl k ∧
  (if k = true then tc σ H3 fun w' H4 => r' y w' H4 Q else Q (.bl false) H3)
theorem pe_chain {op op' : CmpOp} {r r' : R2} (ho : OpR X (compareOp op) r) (ho' : OpR X (compareOp op') r') (ha : PE X a ta) (hb : PE X b tb) (hc : PE X c tc)
    (hm : lastMarks [op, op'] [b, c] = false := by with_unfolding_all rfl) : PE X (.Compare a [op, op'] [b, c] pos) (tChain r r' ta tb tc) := by
  intro pins s σ H Q I h
  refine Compare_chain (thn (ha pins s σ H _ I h) fun v s1 ⟨x, H1, I1, r1, q1⟩ => chain_link (thn (hb pins s1 σ H1 _ I1 q1) fun u s2 ⟨y, H2, I2, r2, q2⟩ =>
    thn (ho pins s2 σ H2 x y v u _ I2 r1 r2 q2) fun d s3 ⟨z, H3, I3, r3, k, e, q3⟩ => ?_)) hm
  subst e
  cases r3
  refine wpAny_truthy_bool ?_
  cases k with
  | false => exact ite_ff ⟨.bl false, H3, I3, rfl, q3⟩
  | true => exact ite_tt (chain_last (thn (hc pins s3 σ H3 _ I3 q3) fun w' s4 ⟨z', H4, I4, r4, q4⟩ => ho' pins s4 σ H4 y z' u w' Q I4 r2 r4 q4))

theorem line63 : (sizeLine : Nat) < 2 ^ 63 := by rw [sizeLine_eq]; decide

theorem op_add_str : OpR X (binaryOp .Add) (fun x y H Q => ∃ i j, x = .str i ∧ y = .str j ∧ i.length + j.length ≤ sizeLine ∧ Q (.str (i ++ j)) H) := by
  intro pins s σ H x y v u Q I rx ry h
  obtain ⟨i, j, rfl, rfl, hz, q⟩ := h
  obtain ⟨t, rfl⟩ := rx
  obtain ⟨t', rfl⟩ := ry
  exact add_str (fun t' tk => ⟨.str (i ++ j), H, I.tok _, ⟨_, rfl⟩, q⟩) hz

theorem vals1 {x : V} {us : List Value} (r : Vals [x] us) : ∃ u, us = [u] ∧ RelV x u := by
  cases r with
  | cons r1 r2 => cases r2; exact ⟨_, rfl, r1⟩
noncomputable def LenV (K : PySem.W.Frag) (x : V) (H : Hp) (n : Nat) : Prop :=
  match x with
  | .str y => y.length ≤ sizeLine ∧ n = y.length
  | .byt y => y.size ≤ sizeLine ∧ n = y.size
  | .ref p => (∃ xs, SqL K H p xs ∧ n = xs.length) ∨ ∃ xs, SqT K H p xs ∧ n = xs.length
  | _ => False
theorem call_len : CallR X (.builtin "len") (fun xs H Q => ∃ x n, xs = [x] ∧ LenV X.K x H n ∧ Q (.int n) H) := by
  intro pins s σ H xs us Q I r h
  obtain ⟨x, n, rfl, e, q⟩ := h
  obtain ⟨u, rfl, rx⟩ := vals1 r
  have hl := line63
  have hs : sizeLine = 16777216 := sizeLine_eq
  cases x with
  | str y =>
    obtain ⟨t, rfl⟩ := rx
    obtain ⟨hy, e'⟩ : y.length ≤ sizeLine ∧ n = y.length := e
    subst e'
    exact len_str (by omega) ⟨.int _, H, I.tok _, ⟨_, rfl⟩, q⟩
  | byt y =>
    obtain ⟨t, rfl⟩ := rx
    obtain ⟨hy, e'⟩ : y.size ≤ sizeLine ∧ n = y.size := e
    subst e'
    exact PySem.W.len_bytes (by omega) ⟨.int _, H, I.tok _, ⟨_, rfl⟩, q⟩
  | ref p =>
    cases rx
    have e' : (∃ xs, SqL X.K H p xs ∧ n = xs.length) ∨ ∃ xs, SqT X.K H p xs ∧ n = xs.length := e
    rcases e' with ⟨xs, hx, e'⟩ | ⟨xs, hx, e'⟩
    · subst e'
      obtain ⟨its, r', pl, hz⟩ := I.list hx
      have hlen := r'.length
      exact Calls.call_len_list pl.isList (by simp only [List.size_toArray]; omega) ⟨.int xs.length, H, I.tok _, ⟨_, by simp only [List.size_toArray]; rw [hlen]⟩, q⟩
    · subst e'
      obtain ⟨its, r', pl, hz⟩ := I.tuple hx
      have hlen := r'.length
      exact len_tuple pl (by simp only [List.size_toArray]; omega) ⟨.int xs.length, H, I.tok _, ⟨_, by simp only [List.size_toArray]; rw [hlen]⟩, q⟩
  | _ => exact (show False from e).elim
end
end L2
namespace L2
open PySem PySem.Spec PyProof.Rows

structure ObjM (h : Heap) (x dx C : Addr) (mA : Str → Option Value) : Prop where
  obj : h.get? x = some (PySem.W.instObj C dx)
  ns : h.Ns1 dx mA
  ne : dx ≠ x
theorem lookIn_ns {h : Heap} {dx : Addr} {mA : Str → Option Value} (n : h.Ns1 dx mA) : ∃ od, h.get? dx = some od ∧ ∀ name, PySem.W.lookIn name od = some (mA name) := by
  obtain ⟨o, es, ep, ho, hd, hk, _, hm⟩ := n
  refine ⟨o, ho, fun name => ?_⟩
  have e := hm name
  unfold nsFind findBy at e
  rw [← Array.find?_toList] at e
  unfold PySem.W.lookIn
  rw [hd]
  dsimp only
  split
  · rename_i y q
    rw [q] at e
    exact congrArg some e
  · rename_i q
    rw [q] at e
    have a : es.toList.any (·.refKey) = false := by
      rw [List.any_eq_false]
      intro y hy
      obtain ⟨z, t, hkey⟩ := hk y (Array.mem_toList_iff.mp hy)
      simp [DictEntry.refKey, hkey]
    have a' : ¬ es.toList.any (·.refKey) = true := by rw [a]; exact Bool.false_ne_true
    rw [if_neg a']
    exact congrArg some e
theorem ObjM.look {h : Heap} {x dx C : Addr} {mA : Str → Option Value} (I : ObjM h x dx C mA) : ∃ od, PySem.W.InstAt h x (PySem.W.instObj C dx) C (some od) ∧ ∀ name, PySem.W.lookIn name od = some (mA name) :=
  let ⟨od, ho, hl⟩ := lookIn_ns I.ns
  ⟨od, ⟨I.obj, rfl, rfl, ho⟩, hl⟩
section
variable {prog : Program} {w : World} {A : Around} {E : Value → Shared → Prop} {s : Shared} {K : PySem.W.Frag} {x dx C f : Addr} {mA : Str → Option Value} {name : Str} {v : Value}
theorem get_map {expr : Bool} {Q : Value → Shared → Prop} (X : K.In s.heap) (I : ObjM s.heap x dx C mA) (hg : PySem.W.plainGet K C name = true) (hh : PySem.W.hasDictIn K C = true)
    (ha : PySem.W.findIn K (.ref C) name = some none) (hv : mA name = some v) (hv' : PySem.W.handedIn v = true) (h : Q v { s with toks := s.toks + 1 }) :
    wpAny (model prog w) A (getAttr (.ref x) name expr) Q E s := by
  obtain ⟨od, J, hl⟩ := I.look
  exact PySem.W.get_value X J (PySem.W.plainGet_of hg).1 (PySem.W.findObj_own hh ha rfl (by rw [hl, hv])) hv' h
theorem get_meth {pl : Sem Bool} {Q : Value × List Value → Shared → Prop} (X : K.In s.heap) (I : ObjM s.heap x dx C mA) (hg : PySem.W.plainGet K C name = true)
    (hf : PySem.W.findIn K (.ref C) name = some (some (.ref f))) (ht : PySem.W.isFn K (.ref f) = true) (hv : mA name = none) (h : Q (.ref f, [.ref x]) s) :
    wpAny (model prog w) A (getMethod (.ref x) name pl) Q E s := by
  obtain ⟨od, J, hl⟩ := I.look
  exact PySem.W.method_fn X J (PySem.W.plainGet_of hg).1 (PySem.W.plainGet_of hg).2 hf (beq_iff_eq.mp ht) (by show (PySem.W.lookIn name od).map (·.isSome) = some false; rw [hl, hv]; rfl) h
theorem set_map {ns : List Str} {Q : Unit → Shared → Prop} (X : K.In s.heap) (I : ObjM s.heap x dx C mA)
    (hs : PySem.W.findIn K (.ref C) "__setattr__" = some (some (.builtin "object.__setattr__"))) (hp : PySem.W.plainOver K C = true) (ht : PySem.W.takerIn K C name = some none) (hh : PySem.W.hasDictIn K C = true)
    (hw : PySem.Within mA ns) (hsz : ns.length ≤ sizeLine)
    (h : ∀ h', ObjM h' x dx C (fun y => if y = name then some v else mA y) → Heap.SameBut dx s.heap h' → Q () { s with heap := h', toks := s.toks + 2 }) :
    wpAny (model prog w) A (setAttr (.ref x) name v) Q E s := by
  obtain ⟨od, J, hl⟩ := I.look
  refine PySem.W.set_plain X J hs (PySem.W.osa_open (s := { s with toks := s.toks + 1 }) (r := none) X J hp ht fun b => ?_)
  obtain ⟨cd, hc, hd'⟩ := PySem.W.any_some hh
  have hx : s.heap.get? x = some ⟨.ref C, some dx, .plain, #[]⟩ := I.obj
  refine wpAny_bind (wpAny_pure (wpAny_bind (wpAny_bind (wpAny_loadPart hx (wpAny_bind (PySem.W.Looks.here (s := { s with toks := s.toks + 1 }) (PySem.W.looks_clsIn X hc) ?_))))))
  rw [hd']
  refine wpAny_pure (a := some dx) (wpAny_bind (wpAny_pure (wpAny_bind ?_)))
  refine wpAny_nsSet1 (s := { s with toks := s.toks + 1 }) I.ns fun h' hn2 hs2 => ?_
  obtain ⟨oD, esD, epD, hoD, hdD, hcD⟩ := hn2.count (PySem.Within.cons name v hw)
  refine wpAny_bind (wpAny_lookBehind hoD (by rw [hdD]; exact pastItsLine_dict (Nat.le_trans hcD (by rw [List.length_cons]; omega))) ?_)
  exact wpAny_pure (h _ ⟨(hs2.2 _ (Ne.symm I.ne)).trans I.obj, hn2, I.ne⟩ hs2)
theorem make_map {R : Result → Shared → Prop} {vs : List Value} {kw : List (Str × Value)} (X : K.In s.heap) (hm : PySem.W.makesIn K C = true)
    (hi : PySem.W.findIn K (.ref C) "__init__" = some (some (.ref f))) (hf : PySem.W.typeIn K (.ref f) = some (.type "function"))
    (h : codeAny (model prog w) (A.under (.builtin "type.__call__" ⟨.ref C :: vs, kw⟩)) (.call (.ref f) ⟨.ref (s.heap.objs.size + 1) :: vs, kw⟩) (PySem.W.InitBack (s.heap.objs.size + 1) R)
      { s with heap := (s.heap.push PySem.W.emptyDict).push (PySem.W.instObj C s.heap.objs.size) }) :
    codeAny (model prog w) A (.call (.ref C) ⟨vs, kw⟩) R s := by
  obtain ⟨hh, g, d, t, os⟩ := s
  exact PySem.W.make_core (PySem.W.makes_of X hm) (PySem.W.looks_findIn X hi) (fun self => PySem.W.bind_fn X self hf) (.inl rfl) h
end

noncomputable def putF (f : Str) (v : V) : List (Str × V) → List (Str × V)
  | [] => [(f, v)]
  | (g, x) :: r => if g = f then (g, v) :: r else (g, x) :: putF f v r
theorem lookup_putF (f g : Str) (v : V) : ∀ fs : List (Str × V), (putF f v fs).lookup g = if g = f then some v else fs.lookup g
  | [] => by
    show List.lookup g [(f, v)] = _
    by_cases h : g = f
    · have hb : (g == f) = true := beq_iff_eq.mpr h
      simp only [List.lookup, hb, if_pos h]
    · have hb : (g == f) = false := beq_eq_false_iff_ne.mpr h
      simp only [List.lookup, hb, if_neg h]
  | (k, x) :: r => by
    have ih := lookup_putF f g v r
    rw [show putF f v ((k, x) :: r) = (if k = f then (k, v) :: r else (k, x) :: putF f v r) from rfl]
    by_cases hk : k = f
    · rw [if_pos hk]
      by_cases h : g = k
      · have hb : (g == k) = true := beq_iff_eq.mpr h
        simp only [List.lookup, hb, if_pos (h.trans hk)]
      · have hb : (g == k) = false := beq_eq_false_iff_ne.mpr h
        simp only [List.lookup, hb, if_neg (fun e : g = f => h (e.trans hk.symm))]
    · rw [if_neg hk]
      by_cases h : g = k
      · have hb : (g == k) = true := beq_iff_eq.mpr h
        simp only [List.lookup, hb, if_neg (fun e : g = f => hk (h.symm.trans e))]
      · have hb : (g == k) = false := beq_eq_false_iff_ne.mpr h
        simp only [List.lookup, hb]
        exact ih
theorem keys_putF (f : Str) (v : V) : ∀ fs : List (Str × V), f ∈ (putF f v fs).map (·.1) ∧ ∀ g, g ∈ fs.map (·.1) → g ∈ (putF f v fs).map (·.1)
  | [] => ⟨by simp [putF], fun g h => by simp at h⟩
  | (k, x) :: r => by
    obtain ⟨i1, i2⟩ := keys_putF f v r
    rw [show putF f v ((k, x) :: r) = (if k = f then (k, v) :: r else (k, x) :: putF f v r) from rfl]
    by_cases hk : k = f
    · rw [if_pos hk]
      subst hk
      exact ⟨by simp, fun g h => by simpa using h⟩
    · rw [if_neg hk]
      refine ⟨?_, fun g h => ?_⟩
      · rw [List.map_cons]
        exact List.mem_cons_of_mem _ i1
      · rw [List.map_cons] at h ⊢
        rcases List.mem_cons.mp h with e | e
        · exact List.mem_cons.mpr (.inl e)
        · exact List.mem_cons_of_mem _ (i2 g e)
theorem length_putF (f : Str) (v : V) : ∀ fs : List (Str × V), (putF f v fs).length ≤ fs.length + 1
  | [] => by simp [putF]
  | (k, x) :: r => by
    have ih := length_putF f v r
    rw [show putF f v ((k, x) :: r) = (if k = f then (k, v) :: r else (k, x) :: putF f v r) from rfl]
    by_cases hk : k = f
    · rw [if_pos hk, List.length_cons, List.length_cons]; omega
    · rw [if_neg hk, List.length_cons, List.length_cons]; omega
theorem RelO.some_of {v : V} {o : Option Value} (r : RelO (some v) o) : ∃ u, o = some u ∧ RelV v u := by
  cases o with
  | none => exact (show False from r).elim
  | some u => exact ⟨u, rfl, r⟩
theorem RelO.none_of {o : Option Value} (r : RelO none o) : o = none := by
  cases o with
  | none => rfl
  | some u => exact (show False from r).elim
theorem handed_of {v : V} {u : Value} (r : RelV v u) : PySem.W.handedIn u = true := by
  cases v with
  | non => cases (show u = Value.none from r); rfl
  | bl b => cases (show u = Value.bool b from r); rfl
  | int i => obtain ⟨t, e⟩ := (show ∃ t, u = Value.int i t from r); cases e; rfl
  | str x => obtain ⟨t, e⟩ := (show ∃ t, u = Value.str x t from r); cases e; rfl
  | byt b => obtain ⟨t, e⟩ := (show ∃ t, u = Value.bytes b t from r); cases e; rfl
  | flt b => obtain ⟨t, e⟩ := (show ∃ t, u = Value.float b t from r); cases e; rfl
  | ref a => cases (show u = Value.ref a from r); rfl
  | ty n => cases (show u = Value.type n from r); rfl
section
variable {P : Program} {w : World} {H H' : Hp} {h h' : Heap} {a C dx : Addr} {fs fs' : List (Str × V)}
theorem ins_get (hok : HOk P w H h) (e : H a = some (.ins C dx fs)) : ∃ mA, ObjM h a dx C mA ∧ (∀ f, RelO (fs.lookup f) (mA f)) ∧ PySem.Within mA (fs.map (·.1)) ∧ fs.length ≤ 1000 ∧ H dx = some (.own a) := by
  obtain ⟨d, z, ne, ob, mA, n, r, q⟩ := (show ObjOk P w H h a (.ins C dx fs) from hok a _ e)
  exact ⟨mA, ⟨ob, n, ne⟩, r, q, z, d⟩
end

structure Cls (K : PySem.W.Frag) (C : Addr) : Prop where
  pg : PySem.W.plainGet K C Str.empty = true
  hd : PySem.W.hasDictIn K C = true
  po : PySem.W.plainOver K C = true
  sa : PySem.W.findIn K (.ref C) "__setattr__" = some (some (.builtin "object.__setattr__"))
theorem Cls.get {K : PySem.W.Frag} {C : Addr} (c : Cls K C) (f : Str) : PySem.W.plainGet K C f = true := c.pg
noncomputable def NoAttr (K : PySem.W.Frag) (C : Addr) (f : Str) : Prop := PySem.W.findIn K (.ref C) f = some none
theorem NoAttr.taker {K : PySem.W.Frag} {C : Addr} {f : Str} (n : NoAttr K C f) : PySem.W.takerIn K C f = some none := by
  unfold PySem.W.takerIn
  rw [show PySem.W.findIn K (.ref C) f = some none from n]
  rfl
structure Meth (K : PySem.W.Frag) (C : Addr) (m : Str) (f : Addr) : Prop where
  at_ : PySem.W.findIn K (.ref C) m = some (some (.ref f))
  fn : PySem.W.isFn K (.ref f) = true
  kp : PySem.W.keepIn K (.ref f) = true
section
variable {X : Cx} {pins : List (Addr × Obj)} {σ : St} {H : Hp} {s : Shared} {a C dx : Addr} {fs : List (Str × V)} {f : Str} {v : V} {A : Around} {E : Value → Shared → Prop}
theorem getattr_ok {b : Bool} {Q : Value → Shared → Prop} (I : Inv X pins σ H s) (e : H a = some (.ins C dx fs)) (c : Cls X.K C) (n : NoAttr X.K C f) (l : fs.lookup f = some v)
    (h : ∀ u s', Inv X pins σ H s' → RelV v u → Q u s') : wpAny (model X.prog X.w) A (getAttr (.ref a) f b) Q E s := by
  obtain ⟨mA, O, r, _, _, _⟩ := ins_get I.hok e
  obtain ⟨u, hu, ru⟩ := RelO.some_of (v := v) (o := mA f) (by rw [← l]; exact r f)
  exact get_map I.kIn O (c.get f) c.hd n hu (handed_of ru) (h u _ (I.tok _) ru)
theorem getmeth_ok {m : Str} {g : Addr} {pl : Sem Bool} {Q : Value × List Value → Shared → Prop} (I : Inv X pins σ H s) (e : H a = some (.ins C dx fs)) (c : Cls X.K C) (k : Meth X.K C m g) (l : fs.lookup m = none)
    (h : Q (.ref g, [.ref a]) s) : wpAny (model X.prog X.w) A (getMethod (.ref a) m pl) Q E s := by
  obtain ⟨mA, O, r, _, _, _⟩ := ins_get I.hok e
  have hn : mA m = none := RelO.none_of (by rw [← l]; exact r m)
  exact get_meth I.kIn O (c.get m) k.at_ k.fn hn h
theorem setattr_ok {y : V} {u : Value} {Q : Unit → Shared → Prop} (I : Inv X pins σ H s) (e : H a = some (.ins C dx fs)) (c : Cls X.K C) (n : NoAttr X.K C f) (hl : fs.length < 1000) (ry : RelV y u)
    (h : ∀ s', Inv X pins σ (upd H a (.ins C dx (putF f y fs))) s' → Q () s') : wpAny (model X.prog X.w) A (setAttr (.ref a) f u) Q E s := by
  obtain ⟨mA, O, r, wi, _, ho⟩ := ins_get I.hok e
  have hz : (fs.map (·.1)).length ≤ sizeLine := by rw [List.length_map, sizeLine_eq]; omega
  refine set_map I.kIn O c.sa c.po n.taker c.hd wi hz fun h' O' sb => h _ ?_
  have hd : ∃ o, h'.get? dx = some o := let ⟨o, _, _, e', _⟩ := O'.ns; ⟨o, e'⟩
  refine I.write (x := a) (e := dx) (by rw [e]; exact True.intro) (.inr ho) (fun b q hb z => (sb.2 b hb).trans z) hd ?_
  refine ⟨by rw [upd_ne O.ne]; exact ho, ?_, O.ne, O'.obj, _, O'.ns, fun g => ?_, fun g hg => ?_⟩
  · have := length_putF f y fs; omega
  · show RelO ((putF f y fs).lookup g) (if g = f then some u else mA g)
    rw [lookup_putF]
    by_cases q : g = f
    · rw [if_pos q, if_pos q]; exact ry
    · rw [if_neg q, if_neg q]; exact r g
  · by_cases q : g = f
    · rw [q]; exact (keys_putF f y fs).1
    · refine (keys_putF f y fs).2 g (wi g fun z => hg ?_)
      show (if g = f then some u else mA g) = none
      rw [if_neg q]; exact z
theorem Inv.made (I : Inv X pins σ H s) : Inv X pins σ (upd (upd H s.heap.objs.size (.own (s.heap.objs.size + 1))) (s.heap.objs.size + 1) (.ins C s.heap.objs.size []))
    { s with heap := (s.heap.push PySem.W.emptyDict).push (PySem.W.instObj C s.heap.objs.size) } := by
  have e1 : (s.heap.push PySem.W.emptyDict).get? s.heap.objs.size = some PySem.W.emptyDict := Heap.get?_push_size s.heap rfl
  have e2 : ((s.heap.push PySem.W.emptyDict).push (PySem.W.instObj C s.heap.objs.size)).get? (s.heap.objs.size + 1) = some (PySem.W.instObj C s.heap.objs.size) := by
    have := Heap.get?_push_size (s.heap.push PySem.W.emptyDict) (o := PySem.W.instObj C s.heap.objs.size) rfl
    rwa [Heap.size_push] at this
  have e3 : (s.heap.push PySem.W.emptyDict).Ns s.heap.objs.size (fun _ => none) := ⟨PySem.W.emptyDict, #[], _, e1, rfl, (fun e he => absurd he (by simp)), fun _ => rfl⟩
  have I1 := I.laid (a := s.heap.objs.size) (o := .own (s.heap.objs.size + 1)) (h' := s.heap.push PySem.W.emptyDict) (t' := s.toks) (fun b u q => Heap.get?_push_of_some _ q) (Nat.le_refl _) ⟨_, e1⟩
  refine I1.laid (a := s.heap.objs.size + 1) (o := .ins C s.heap.objs.size []) (t' := s.toks) (fun b u q => Heap.get?_push_of_some _ q) (Nat.le_of_eq (Heap.size_push _ _)) ?_
  have ne : s.heap.objs.size ≠ s.heap.objs.size + 1 := Nat.ne_of_lt (Nat.lt_succ_self _)
  refine ⟨by rw [upd_ne ne, upd_same], Nat.zero_le _, ne, e2, fun _ => none, (Heap.Ns1.of_empty e3).at fun o q => Heap.get?_push_of_some _ q, fun _ => True.intro, fun y hy => absurd rfl hy⟩
theorem attr_of {prog : Program} {w : World} {env : Env} {e : Expr} {f : Str} {pos : Pos} {s : Shared} {Q : Value → Shared → Prop} (hb : attributeBase e f env (eval e env) = eval e env)
    (h : wpAny (model prog w) A (eval e env) (fun o s₁ => wpAny (model prog w) A (getAttr o f true) Q E s₁) E s) : wpAny (model prog w) A (eval (.Attribute e f pos) env) Q E s :=
  Attribute_any_ h (by rw [arm_eval_Attribute, hb])
end

noncomputable def tFld (K : PySem.W.Frag) (ta : TE) (f : Str) : TE := fun σ H Q => ta σ H fun x H1 => ∃ a C dx fs v, x = .ref a ∧ H1 a = some (.ins C dx fs) ∧ Cls K C ∧ NoAttr K C f ∧ fs.lookup f = some v ∧ Q v H1
noncomputable def sFld (K : PySem.W.Frag) (ta tv : TE) (f : Str) : TS := fun D σ H => tv σ H fun y H1 => ta σ H1 fun x H2 => ∃ a C dx fs, x = .ref a ∧ H2 a = some (.ins C dx fs) ∧ Cls K C ∧ NoAttr K C f ∧ fs.length < 1000 ∧
  D.nx σ (upd H2 a (.ins C dx (putF f y fs)))
section
variable {X : Cx} {o e value : Expr} {f : Str} {pos pos' tpos : Pos} {ta tv : TE}
theorem pe_fld (he : PE X e ta) (hb : attributeBase e f X.env (eval e X.env) = eval e X.env) : PE X (.Attribute e f pos) (tFld X.K ta f) := by
  intro pins s σ H Q I h
  refine attr_of hb (thn (he pins s σ H _ I h) fun u s1 ⟨x, H1, I1, rx, a, C, dx, fs, v, ex, ea, c, n, l, q⟩ => ?_)
  subst ex
  obtain rfl : u = Value.ref a := rx
  exact getattr_ok I1 ea c n l fun u' s2 I2 ru => ⟨v, H1, I2, ru, q⟩
theorem ps_fld (ha : PE X o ta) (hv : PE X value tv) (hs : swapsWith value (some (.Attribute o f pos')) pos.line X.env = pure false) : PS X (.Assign [.Attribute o f pos'] value pos) (sFld X.K ta tv f) := by
  intro pins s σ H D I h
  refine plainObj_wpAny_Assign_Attribute (thn (hv pins s σ H _ I h) fun u s1 ⟨y, H1, I1, ry, q⟩ => thn (ha pins s1 σ H1 _ I1 q) fun ov s2 ⟨x, H2, I2, rx, a, C, dx, fs, ex, ea, c, n, l, q2⟩ => ?_) hs
  subst ex
  obtain rfl : ov = Value.ref a := rx
  exact setattr_ok I2 ea c n l ry fun s3 I3 => ⟨σ, _, I3, q2⟩
end

section
variable {X : Cx} {pins : List (Addr × Obj)} {σ : St} {H : Hp} {s : Shared} {A : Around} {E : Value → Shared → Prop} {Q : Value → Shared → Prop} {c : Value} {b : Bool}
end
end L2
namespace L2
open PySem PySem.Spec PyProof.Rows

structure Room (k : Nat) (A : Around) : Prop where
  hd : A.handled = none
  dp : A.depth + 3 * k + 5 < recursionLimit
  un : A.units + 16 * k + 200 < cLine
theorem Room.mono {j k : Nat} {A : Around} (r : Room k A) (h : j ≤ k) : Room j A := ⟨r.hd, by have := r.dp; omega, by have := r.un; omega⟩
theorem Room.deeper {k : Nat} {A : Around} (r : Room (k + 1) A) (env : Env) : Room k (A.deeper env) :=
  ⟨r.hd, by have := r.dp; show A.depth + 1 + 3 * k + 5 < _; omega, by have := r.un; show A.units + 3 + 16 * k + 200 < _; omega⟩
theorem make_depth {A : Around} {C : Addr} {us : List Value} {kw : List (Str × Value)} : (A.under (.builtin "type.__call__" ⟨.ref C :: us, kw⟩)).depth = A.depth + 1 := by
  first | rfl | simp [Around.under, Code.weight, Code.isCreation, Code.isGuard, Code.isCaller, Code.frames, Code.isFrame, guardIds]
theorem make_units {A : Around} {C : Addr} {us : List Value} {kw : List (Str × Value)} : (A.under (.builtin "type.__call__" ⟨.ref C :: us, kw⟩)).units = A.units + 1 := by
  first | rfl | simp [Around.under, Code.cUnits, Code.frames, Code.isFrame]
theorem Room.make {k : Nat} {A : Around} (r : Room (k + 1) A) (C : Addr) (us : List Value) (kw : List (Str × Value)) : Room k (A.under (.builtin "type.__call__" ⟨.ref C :: us, kw⟩)) :=
  ⟨r.hd, by have := r.dp; rw [make_depth]; omega, by have := r.un; rw [make_units]; omega⟩
theorem Room.depth {k : Nat} {A : Around} (r : Room k A) : A.depth < recursionLimit := by have := r.dp; omega
theorem Room.units {k : Nat} {A : Around} (r : Room k A) : A.units + 64 < cLine := by have := r.un; omega
theorem Room.units0 {k : Nat} {A : Around} (r : Room k A) : A.units < cLine := by have := r.un; omega

noncomputable def tNil : TA := fun _ H Q => Q [] H
noncomputable def tCons (ta : TE) (tr : TA) : TA := fun σ H Q => ta σ H fun x H1 => tr σ H1 fun xs H2 => Q (x :: xs) H2
section
variable {X : Cx} {e : Expr} {es : List Expr} {te : TE} {t : TA} {pos : Pos}
theorem pa_nil : PA X [] tNil := fun _ _ _ _ H Q I h => Calls.spliced_nil ⟨[], H, I, .nil, h⟩
theorem pa_cons (ha : PE X e te) (hr : PA X es t) (hs : starEach (e :: es) X.env = (false, eval e X.env) :: starEach es X.env := by rfl) : PA X (e :: es) (tCons te t) := by
  intro pos pins s σ H Q I h
  rw [hs]
  show wpAny _ _ (spliced ((false, eval e X.env) :: backTo pos (starEach es X.env))) _ _ s
  refine Calls.spliced_cons (thn (ha pins s σ H _ I h) fun u s1 ⟨x, H1, I1, r1, q1⟩ => ?_)
  exact thn (hr pos pins s1 σ H1 _ I1 q1) fun us s2 ⟨xs, H2, I2, r2, q2⟩ => ⟨x :: xs, H2, I2, .cons r1 r2, q2⟩
noncomputable def tTup (t : TA) : TE := fun σ H Q => t σ H fun xs H1 => xs.length ≤ sizeLine ∧ ∀ p, H1 p = none → Q (.ref p) (upd H1 p (.tup xs))
noncomputable def tLst (t : TA) : TE := fun σ H Q => t σ H fun xs H1 => xs.length ≤ sizeLine ∧ ∀ p, H1 p = none → Q (.ref p) (upd H1 p (.lst xs))
theorem pe_tup {x1} (h : PA X es t) : PE X (.Tuple es x1 pos) (tTup t) := by
  intro pins s σ H Q I hq
  refine wpAny_Tuple_spliced (thn (h pos pins s σ H _ I hq) fun us s1 ⟨xs, H1, I1, r, z, q⟩ => ⟨by rw [← r.length]; exact z, ?_⟩)
  have hf : H1 s1.heap.objs.size = none := I1.hok.fresh (Nat.le_refl _)
  refine ⟨.ref s1.heap.objs.size, upd H1 s1.heap.objs.size (.tup xs), I1.laid (t' := s1.toks) (fun b u e => Heap.get?_push_of_some _ e) (Nat.le_refl _) ?_, rfl, q _ hf⟩
  exact ⟨z, us, r, ⟨_, Heap.get?_push_size _ rfl, rfl, _, rfl⟩⟩
theorem pe_lst (h : PA X es t) : PE X (.List es pos) (tLst t) := by
  intro pins s σ H Q I hq
  refine wpAny_List_spliced (thn (h pos pins s σ H _ I hq) fun us s1 ⟨xs, H1, I1, r, z, q⟩ => ⟨by rw [← r.length]; exact z, ?_⟩)
  have hf : H1 s1.heap.objs.size = none := I1.hok.fresh (Nat.le_refl _)
  refine ⟨.ref s1.heap.objs.size, upd H1 s1.heap.objs.size (.lst xs), I1.laid (t' := s1.toks) (fun b u e => Heap.get?_push_of_some _ e) (Nat.le_refl _) ?_, rfl, q _ hf⟩
  exact ⟨z, us, 0, r, Heap.get?_push_size _ rfl⟩
end

noncomputable abbrev Sp := List V → Hp → VK → XK → Prop
noncomputable abbrev CXT := List Env → Hp → Shared → XK → Value → Shared → Prop
structure Env0 (P : Program) (w : World) (K : PySem.W.Frag) (mg : Str → Option Value) (base : Heap) (A : Around) (outer : List Env) (s : Shared) (H : Hp) : Prop where
  frames : A.frames = some outer
  mod : Mod K mg base
  bs : ∀ b o, base.get? b = some o → s.heap.get? b = some o ∧ H b = none
  bsz : base.objs.size ≤ s.heap.objs.size
  funs : s.heap.FunFrames base outer
  frf : ∀ b ∈ frs outer, H b = none
  hok : HOk P w H s.heap
  bare : AllBare s.gens
noncomputable def CE (outer : List Env) (P : Program) (w : World) (H : Hp) (s : Shared) (Q : VK) (u : Value) (s' : Shared) : Prop :=
  ∃ v H', s'.os = s.os ∧ AllBare s'.gens ∧ Un (frs outer) [] H H' s.heap s'.heap ∧ HOk P w H' s'.heap ∧ RelV v u ∧ Q v H'
noncomputable def CR (CX : CXT) (outer : List Env) (P : Program) (w : World) (H : Hp) (s : Shared) (Q : VK) (E : XK) (r : Result) (s' : Shared) : Prop :=
  match r with
  | .ok (.ret u) => CE outer P w H s Q u s'
  | .ok _ => False
  | .error e => CX outer H s E e s'
structure FnOk (P : Program) (w : World) (K : PySem.W.Frag) (mg : Str → Option Value) (base : Heap) (CX : CXT) (k : Nat) (f : Addr) (fd : FuncData) (ps : List Str) (sp : Sp) : Prop where
  len : ∀ vs H Q E, sp vs H Q E → vs.length = ps.length
  run : ∀ (A : Around) (outer : List Env) (s : Shared) (H : Hp) (args : Args) (us : List Value) (vs : List V) (Q : VK) (E : XK), Room k A → Env0 P w K mg base A outer s H → BindsTo s fd args (ps.zip us) → Vals vs us → sp vs H Q E →
    codeAny (model P w) A (.call (.ref f) args) (CR CX outer P w H s Q E) s
theorem Env0.make {P : Program} {w : World} {K : PySem.W.Frag} {mg : Str → Option Value} {base : Heap} {A : Around} {outer : List Env} {s : Shared} {H : Hp} (e : Env0 P w K mg base A outer s H) (C : Addr) (us : List Value) (kw : List (Str × Value)) :
    Env0 P w K mg base (A.under (.builtin "type.__call__" ⟨.ref C :: us, kw⟩)) outer s H := ⟨by first | exact e.frames | (simpa [Around.under, Code.envs, Code.isFrame, pushEnvs] using e.frames), e.mod, e.bs, e.bsz, e.funs, e.frf, e.hok, e.bare⟩
section
variable {X : Cx} {pins : List (Addr × Obj)} {σ : St} {H : Hp} {s s' : Shared}
theorem Inv.env0 (I : Inv X pins σ H s) : Env0 X.prog X.w X.K X.mg X.base X.A X.stack s H :=
  ⟨I.ok.frames, I.ok.mod, I.bs, Nat.le_trans I.ok.bsz I.sz, I.stack, I.stkFree, I.hok, I.bare⟩
theorem Inv.after {Q : VK} {u : Value} (I : Inv X pins σ H s) (h : CE X.stack X.prog X.w H s Q u s') : EP X pins σ Q u s' := by
  obtain ⟨v, H', os, bare, un, hok, r, q⟩ := h
  obtain ⟨hh, g, d, t, os'⟩ := s'
  obtain rfl : os' = s.os := os
  exact ⟨v, H', I.call (h' := hh) (g' := g) (d' := d) (t' := t) (ch := []) un hok bare (fun b z => absurd z (by simp)), r, q⟩
end

noncomputable def tCall (sp : Sp) (dvs : List V) (E : XK) (t : TA) : TE := fun σ H Q => t σ H fun vs H1 => sp (vs ++ dvs) H1 Q E
noncomputable def tMeth (C : Addr) (m : Str) (sp : Sp) (dvs : List V) (E : XK) (ta : TE) (t : TA) : TE := fun σ H Q => ta σ H fun x H1 => ∃ a dx fs, x = .ref a ∧ H1 a = some (.ins C dx fs) ∧ fs.lookup m = none ∧
  t σ H1 fun vs H2 => sp (x :: (vs ++ dvs)) H2 Q E
noncomputable def Binds (K : PySem.W.Frag) (fd : FuncData) (ps : List Str) (ds : List Value) : Prop :=
  ∀ (s : Shared) (us : List Value), K.In s.heap → (us ++ ds).length = ps.length → BindsTo s fd ⟨us, []⟩ (ps.zip (us ++ ds))
theorem Binds.all {K : PySem.W.Frag} {fd : FuncData} {ps : List Str} (h : ∀ us : List Value, us.length = ps.length → bindArgs fd ⟨us, []⟩ = pure (ps.zip us)) : Binds K fd ps [] := fun s us _ hl => by
  rw [List.append_nil] at hl ⊢
  exact .of_eq (h us hl)
noncomputable def Passes (CX : CXT) (X : Cx) (E : XK) : Prop := ∀ (pins : List (Addr × Obj)) (σ : St) (H : Hp) (s : Shared) (e : Value) (s' : Shared), Inv X pins σ H s → CX X.stack H s E e s' → X.xe e s'
section
variable {X : Cx} {CX : CXT} {k : Nat} {f C : Addr} {fd : FuncData} {ps : List Str} {sp : Sp} {dvs : List V} {ds : List Value} {E : XK} {x m : Str} {p pos apos : Pos} {e o : Expr} {es : List Expr} {ta : TE} {t : TA}
theorem run_fn {pins : List (Addr × Obj)} {σ : St} {H : Hp} {s : Shared} {Q : VK} {us : List Value} {vs : List V} (F : FnOk X.prog X.w X.K X.mg X.base CX k f fd ps sp) (hr : Room k X.A) (hb : Binds X.K fd ps ds) (hd : Vals dvs ds) (hx : Passes CX X E)
    (I : Inv X pins σ H s) (r : Vals vs us) (h : sp (vs ++ dvs) H Q E) : wpAny (model X.prog X.w) X.A (call (.ref f) us) (EP X pins σ Q) X.xe s := by
  have r2 : Vals (vs ++ dvs) (us ++ ds) := r.append hd
  have hl : (us ++ ds).length = ps.length := by rw [← r2.length]; exact F.len _ _ _ _ h
  refine wpAny_call (codeAny_mono (F.run X.A X.stack s H ⟨us, []⟩ (us ++ ds) (vs ++ dvs) Q E hr I.env0 (hb s us I.kIn hl) r2 h) fun r s' hq => ?_)
  cases r with
  | error e => exact hx pins σ H s e s' I hq
  | ok fl =>
    cases fl with
    | ret u => exact I.after hq
    | next => exact False.elim hq
    | brk => exact False.elim hq
    | cont => exact False.elim hq
theorem pe_call (F : FnOk X.prog X.w X.K X.mg X.base CX k f fd ps sp) (hr : Room k X.A) (hg : Gl X x) (hm : X.mg x = some (.ref f)) (hk : PySem.W.keepIn X.K (.ref f) = true) (hb : Binds X.K fd ps ds) (hd : Vals dvs ds) (hx : Passes CX X E)
    (ha : PA X (e :: es) t) (hdb : (x == ("__debug__" : Str)) = false := by decide) (he : starEach (e :: es) X.env = (false, eval e X.env) :: starEach es X.env := by rfl) (hpl : (backTo pos (starEach es X.env)).any (·.1) = false := by rfl) :
    PE X (.Call (.Name x p) (e :: es) [] pos) (tCall sp dvs E t) := by
  intro pins s σ H Q I h
  refine wpAny_Call_Name_kw (ld_glob I hg hm ?_ hdb)
  refine PySem.W.callWith_K (h₀ := X.base) I.ok.mod.kin hk (thn (ha pos pins s σ H _ I h) fun us s1 ⟨vs, H1, I1, r, q⟩ => ⟨I1.kIn, ?_⟩) he hpl
  exact run_fn F hr hb hd hx I1 r q
theorem pe_meth0 {pl : Sem Bool} (he : PE X o ta) (c : Cls X.K C) (hm : Meth X.K C m f) (F : FnOk X.prog X.w X.K X.mg X.base CX k f fd ps sp) (hr : Room k X.A) (hb : Binds X.K fd ps ds) (hd : Vals dvs ds) (hx : Passes CX X E)
    (ht : eval (.Call (.Attribute o m apos) [] [] pos) X.env = (do
      let ov ← eval o X.env
      standAt apos.atName
      let (f, first) ← holding [ov] (getMethod ov m pl)
      callWith pos f first (backTo pos (starEach [] X.env)) (backToKw pos (keywordEach [] X.env))) := by rfl) :
    PE X (.Call (.Attribute o m apos) [] [] pos) (tMeth C m sp dvs E ta tNil) := by
  intro pins s σ H Q I h
  refine PySem.W.methodCall_KW (pl := pl) (thn (he pins s σ H _ I h) fun u s1 ⟨x, H1, I1, rx, a, dx, fs, ex, ea, l, q⟩ => ?_) ht
  subst ex
  obtain rfl : u = Value.ref a := rx
  refine getmeth_ok I1 ea c hm l ?_
  exact PySem.W.callWith_K0 (first := [.ref a]) I1.kIn hm.kp (run_fn (us := [.ref a]) (vs := [.ref a]) F hr hb hd hx I1 (.cons rfl .nil) q)
structure Mk (K : PySem.W.Frag) (C f : Addr) : Prop where
  makes : PySem.W.makesIn K C = true
  init : PySem.W.findIn K (.ref C) "__init__" = some (some (.ref f))
  fn : PySem.W.isFn K (.ref f) = true
  kp : PySem.W.keepIn K (.ref C) = true
end

section
variable {X : Cx} {CX : CXT} {k : Nat} {f C : Addr} {fd : FuncData} {ps ks : List Str} {sp : Sp} {E : XK} {x m : Str} {p pos apos kpos : Pos} {e o : Expr} {es : List Expr} {kws : List Keyword} {te ta : TE} {t tk : TA} {nm : Option Str}
variable {g : List Value → List Value → List Value} {gV : List V → List V → List V}
end

structure FnScope (N P : List Str) (sc : Scope) : Prop where
  kind : sc.kind = .function
  co : sc.isCoroutine = false
  gen : sc.isGenerator = false
  nd : N.Nodup
  pre : N.take P.length = P
  par : ∀ x ∈ P, sc.names.lookup x = some .local ∨ sc.names.lookup x = some .cell
  nofree : ∀ y ∈ sc.names, y.2 ≠ .free
theorem bindL_out {kindOf : Str → Option NameKind} {x : Str} : ∀ {binds : List (Str × Value)} {m : Str → Option Value}, (∀ v, (x, v) ∉ binds) → bindL kindOf binds m x = m x
  | [], _, _ => rfl
  | (n, v) :: r, m, h => by
    unfold bindL
    rw [bindL_out fun w hw => h w (List.mem_cons_of_mem _ hw)]
    split
    · have : x ≠ n := by rintro rfl; exact h v List.mem_cons_self
      simp [this]
    · rfl
theorem bindC_out {kindOf : Str → Option NameKind} {x : Str} : ∀ {binds : List (Str × Value)} {m : Str → Option Value}, (∀ v, (x, v) ∉ binds) → bindC kindOf binds m x = m x
  | [], _, _ => rfl
  | (n, v) :: r, m, h => by
    unfold bindC
    rw [bindC_out fun w hw => h w (List.mem_cons_of_mem _ hw)]
    split
    · rfl
    · have : x ≠ n := by rintro rfl; exact h v List.mem_cons_self
      simp [this]
theorem bindL_get {kindOf : Str → Option NameKind} {x : Str} {v : Value} : ∀ {P : List Str} {vs : List Value} {i : Nat} {m : Str → Option Value}, P.Nodup → P[i]? = some x → vs[i]? = some v → kindOf x = some .local →
    bindL kindOf (P.zip vs) m x = some v
  | [], _, _, _, _, h, _, _ => by simp at h
  | _ :: _, [], _, _, _, _, h, _ => by simp at h
  | p :: P, w :: vs, 0, m, nd, h1, h2, hk => by
    simp at h1 h2; subst h1; subst h2
    show bindL kindOf ((p, w) :: P.zip vs) m p = _
    unfold bindL
    rw [bindL_out fun v hv => (List.nodup_cons.mp nd).1 (List.of_mem_zip hv).1, if_pos hk]
    simp
  | p :: P, w :: vs, i + 1, m, nd, h1, h2, hk => by
    show bindL kindOf ((p, w) :: P.zip vs) m x = _
    unfold bindL
    exact bindL_get (i := i) (List.nodup_cons.mp nd).2 (by simpa using h1) (by simpa using h2) hk
theorem bindC_get {kindOf : Str → Option NameKind} {x : Str} {v : Value} : ∀ {P : List Str} {vs : List Value} {i : Nat} {m : Str → Option Value}, P.Nodup → P[i]? = some x → vs[i]? = some v → kindOf x ≠ some .local →
    bindC kindOf (P.zip vs) m x = some v
  | [], _, _, _, _, h, _, _ => by simp at h
  | _ :: _, [], _, _, _, _, h, _ => by simp at h
  | p :: P, w :: vs, 0, m, nd, h1, h2, hk => by
    simp at h1 h2; subst h1; subst h2
    show bindC kindOf ((p, w) :: P.zip vs) m p = _
    unfold bindC
    rw [bindC_out fun v hv => (List.nodup_cons.mp nd).1 (List.of_mem_zip hv).1, if_neg hk]
    simp
  | p :: P, w :: vs, i + 1, m, nd, h1, h2, hk => by
    show bindC kindOf ((p, w) :: P.zip vs) m x = _
    unfold bindC
    exact bindC_get (i := i) (List.nodup_cons.mp nd).2 (by simpa using h1) (by simpa using h2) hk
noncomputable def start (N : List Str) (vs : List V) : St := vs.map some ++ List.replicate (N.length - vs.length) none
noncomputable def cxOf (CX : CXT) (P : Program) (w : World) (K : PySem.W.Frag) (mg : Str → Option Value) (base : Heap) (N : List Str) (qual : Str) (scope : Scope) (f : Addr) (cd : Value) (A : Around) (outer : List Env) (s : Shared) (H : Hp) (E : XK) : Cx where
  prog := P
  w := w
  K := K
  mg := mg
  base := base
  A := A.deeper (envOfC qual scope s.heap.objs.size f cd)
  N := N
  s₀ := s
  H₀ := H
  env := envOfC qual scope s.heap.objs.size f cd
  outer := outer
  stack := envOfC qual scope s.heap.objs.size f cd :: outer
  ex := []
  calm := true
  fn := fun _ => true
  pn := []
  xe := fun e s' => wpAny (model P w) (A.deeper (envOfC qual scope s.heap.objs.size f cd)) (leaving (envOfC qual scope s.heap.objs.size f cd) e) (fun _ s'' => CX outer H s E e s'') (fun e' s'' => CX outer H s E e' s'') s'
theorem cell_has {sc : Scope} {n : Nat} {x : Str} (h : sc.names.lookup x = some .cell) : ∃ c, (cellsFrom n sc.names []).lookup x = some c := by
  have q := PySem.W.cellsFrom_some sc.names n [] (.inl h)
  exact Option.isSome_iff_exists.mp q
theorem inv_start {CX : CXT} {P : Program} {w : World} {K : PySem.W.Frag} {mg : Str → Option Value} {base : Heap} {N ps : List Str} {qual : Str} {scope : Scope} {f : Addr} {cd : Value} {A : Around} {outer : List Env} {s s1 : Shared} {H : Hp} {E : XK} {us : List Value} {vs : List V}
    (S : FnScope N ps scope) (hd : A.handled = none) (e0 : Env0 P w K mg base A outer s H) (hl : vs.length = ps.length) (r : Vals vs us)
    (x : InCallC s s.heap.objs.size (bindL (envOfC qual scope s.heap.objs.size f cd).kindOf (ps.zip us) fun _ => none) (cellsFrom (s.heap.objs.size + 1) scope.names []) (bindC (envOfC qual scope s.heap.objs.size f cd).kindOf (ps.zip us) fun _ => none) s1) :
    Inv (cxOf CX P w K mg base N qual scope f cd A outer s H E) [] (start N vs) H s1 := by
  have hpl : ps.length ≤ N.length := by have := congrArg List.length S.pre; rw [List.length_take] at this; omega
  obtain ⟨h1, tk, rfl, hk⟩ := x.done
  have noA : ∀ b : Addr, b ∉ (cxOf CX P w K mg base N qual scope f cd A outer s H E).ex := fun b z => absurd (show b ∈ ([] : List Addr) from z) (by simp)
  refine ⟨⟨e0.mod, S.kind, rfl, rfl, Nat.le_refl _, fun y z c h1 h2 => ?_, fun y hy => ?_, fun y c _ h => ?_, fun _ => hd, Around.frames_deeper e0.frames, .inr ⟨rfl, rfl⟩, fun b z => absurd z (noA b), e0.bs, e0.bsz, fun b _ _ => noA b, fun b z => absurd z (noA b), e0.funs, e0.frf⟩,
    rfl, e0.bare, Un.kept hk, ⟨_, x.toInCall.ns, fun i y v h1 h2 h3 => ?_⟩, fun y c h => ⟨_, x.cell y c h⟩, e0.hok.fresh (Nat.le_refl _), fun y c h => ?_, fun p hp => absurd (show p ∈ ([] : List (Addr × Obj)) from hp) (by simp), e0.hok.kept hk, ?_⟩
  · exact name_of_addr x.apart (PySem.mem_of_lookup h1) (PySem.mem_of_lookup h2)
  · have hy : scope.names.lookup y = some .cell ∨ scope.names.lookup y = some .free := hy
    rcases hy with hy | hy
    · exact cell_has hy
    · exact absurd rfl (S.nofree _ (PySem.mem_of_lookup hy))
  · exact Nat.le_of_lt (x.above y c (PySem.mem_of_lookup h))
  · have hi : i < vs.length := by
      unfold start at h2
      by_cases hi : i < vs.length
      · exact hi
      · rw [List.getElem?_append_right (by simpa using hi)] at h2
        rw [List.getElem?_replicate] at h2
        split at h2 <;> cases h2
    have ha : vs[i]? = some v := by
      unfold start at h2
      rw [List.getElem?_append_left (by simpa using hi), List.getElem?_map] at h2
      cases e : vs[i]? with
      | none => rw [e] at h2; cases h2
      | some a => rw [e] at h2; cases h2; rfl
    obtain ⟨u, hu, rv⟩ := r.get ha
    have hp : ps[i]? = some y := by
      rw [← S.pre, List.getElem?_take_of_lt (by omega)]; exact h1
    have ndP : ps.Nodup := by rw [← S.pre]; exact S.nd.sublist (List.take_sublist _ _)
    refine ⟨u, rv, ?_⟩
    rcases S.par y (List.mem_of_getElem? hp) with k | k
    · exact .inl ⟨k, bindL_get ndP hp hu k⟩
    · obtain ⟨c, e⟩ := cell_has (n := s.heap.objs.size + 1) k
      refine .inr ⟨.inl k, c, e, ?_⟩
      have q := x.cell y c e
      rw [bindC_get ndP hp hu (by show scope.names.lookup y ≠ _; rw [k]; decide)] at q
      exact q
  · exact e0.hok.fresh (Nat.le_of_lt (x.above y c (PySem.mem_of_lookup h)))
  · unfold start
    show _ = N.length
    rw [List.length_append, List.length_map, List.length_replicate]
    omega
theorem fn_of {CX : CXT} {P : Program} {w : World} {K : PySem.W.Frag} {mg : Str → Option Value} {base : Heap} {k : Nat} {f : Addr} {name qual : Str} {params : Arguments} {body : List Stmt} {scope : Scope} {dV kV doc pm cdv ct oc : Value} {an od : Option Addr}
    {osl : Array (Option Value)} {N ps : List Str} {sp : Sp} (lk : K.lookup f = some ⟨oc, od, .func (PySem.W.fnOf name qual params body scope dV kV doc pm an cdv ct), osl⟩) (hcd : PySem.W.codeIn K cdv qual = true) (S : FnScope N ps scope)
    (len : ∀ vs H Q E, sp vs H Q E → vs.length = ps.length)
    (hbody : ∀ (A : Around) (outer : List Env) (s : Shared) (H : Hp) (vs : List V) (Q : VK) (E : XK), Room k (A.deeper (envOfC qual scope s.heap.objs.size f cdv)) → sp vs H Q E →
      ∃ t, PSs (cxOf CX P w K mg base N qual scope f cdv A outer s H E) body t ∧ t { nx := fun _ H' => Q .non H', rt := Q } (start N vs) H) :
    FnOk P w K mg base CX (k + 1) f (PySem.W.fnOf name qual params body scope dV kV doc pm an cdv ct) ps sp := by
  refine ⟨len, fun A outer s H args us vs Q E hr e0 hb r hsp => ?_⟩
  have hl := len _ _ _ _ hsp
  have KX : K.In s.heap := e0.mod.kin.keeps fun b o e => (e0.bs b o e).1
  have lim : s.heap.NoLimit := e0.mod.nolimit.keeps fun b o e => (e0.bs b o e).1
  have hkind : ∀ y ∈ ps.zip us, scope.names.lookup y.1 = some .local ∨ (scope.names.lookup y.1 = some .cell ∧ ((cellsFrom (s.heap.objs.size + 1) scope.names []).lookup y.1).isSome = true) := fun ⟨n, v⟩ hy => by
    rcases S.par n (List.of_mem_zip hy).1 with q | q
    · exact .inl q
    · exact .inr ⟨q, PySem.W.cellsFrom_some _ _ _ (.inl q)⟩
  refine codeAny_call_function hr.depth (KX _ _ lk) rfl S.co S.gen rfl (PySem.W.codeRec_of KX hcd) (hb _ _ _ _ ?_)
  refine wpAny_newFunctionEnv_cells S.kind hkind fun env he s1 x => ?_
  subst he
  refine ⟨lim.keeps x.toInCall.keep, codeAny_func ?_⟩
  obtain ⟨t, ht, hq⟩ := hbody A outer s H vs Q E (hr.deeper _) hsp
  have I : Inv (cxOf CX P w K mg base N qual scope f cdv A outer s H E) [] (start N vs) H s1 := inv_start S hr.hd e0 hl r x
  refine wpAny_mono (ht [] s1 (start N vs) H _ I hq) (fun fl s' hs => ?_) fun e s' hs => hs
  have fin : ∀ {σ' : St} {H' : Hp} {v : V} {u : Value}, Inv (cxOf CX P w K mg base N qual scope f cdv A outer s H E) [] σ' H' s' → RelV v u → Q v H' → CE outer P w H s Q u s' :=
    fun {σ' H' v u} J rv q => ⟨v, H', J.os, J.bare, J.base, J.hok, rv, q⟩
  cases fl with
  | ret u =>
    obtain ⟨v, σ', H', J, rv, q⟩ := hs
    exact fin J rv q
  | next =>
    obtain ⟨σ', H', J, q⟩ := hs
    exact fin (v := V.non) (u := Value.none) J rfl q
  | brk =>
    obtain ⟨_, _, _, q⟩ := hs
    exact False.elim q
  | cont =>
    obtain ⟨_, _, _, q⟩ := hs
    exact False.elim q
end L2
namespace L2
open PySem PySem.Spec PyProof.Rows
section
variable {X : Cx} {x : Str} {p pos : Pos} {e : Expr} {es : List Expr} {t : TA} {id T : String} {r : List V → Hp → VK → Prop}
noncomputable def tCB (r : List V → Hp → VK → Prop) (t : TA) : TE := fun σ H Q => t σ H fun vs H1 => r vs H1 Q
theorem pe_callB (hc : CallR X (.builtin id) r) (hg : Gl X x) (hm : X.mg x = none) (hv : bootBuiltins x = some (.builtin id)) (ha : PA X (e :: es) t) (hn : x ≠ "__name__" := by decide) (hdb : (x == ("__debug__" : Str)) = false := by decide)
    (he : starEach (e :: es) X.env = (false, eval e X.env) :: starEach es X.env := by rfl) (hpl : (backTo pos (starEach es X.env)).any (·.1) = false := by rfl) : PE X (.Call (.Name x p) (e :: es) [] pos) (tCB r t) := by
  intro pins s σ H Q I h
  refine wpAny_Call_Name_kw (ld_blt I hg hm hv ?_ hn hdb)
  exact PyProof.Rows.callWith_builtin1 (thn (ha pos pins s σ H _ I h) fun us s1 ⟨vs, H1, I1, r1, q1⟩ => hc pins s1 σ H1 vs us Q I1 r1 q1) he hpl
theorem pe_callTy (hc : CallR X (.type T) r) (hg : Gl X x) (hm : X.mg x = none) (hv : bootBuiltins x = some (.type T)) (ha : PA X (e :: es) t) (hn : x ≠ "__name__" := by decide) (hdb : (x == ("__debug__" : Str)) = false := by decide)
    (he : starEach (e :: es) X.env = (false, eval e X.env) :: starEach es X.env := by rfl) (hpl : (backTo pos (starEach es X.env)).any (·.1) = false := by rfl) : PE X (.Call (.Name x p) (e :: es) [] pos) (tCB r t) := by
  intro pins s σ H Q I h
  refine wpAny_Call_Name_kw (ld_blt I hg hm hv ?_ hn hdb)
  exact PyProof.Rows.callWith_type1 (thn (ha pos pins s σ H _ I h) fun us s1 ⟨vs, H1, I1, r1, q1⟩ => hc pins s1 σ H1 vs us Q I1 r1 q1) he hpl
end
end L2
namespace HT
open PySem PyProof.Rows
noncomputable def lexLt : List Int → List Int → Bool
  | [], [] => false
  | [], _ :: _ => true
  | _ :: _, [] => false
  | x :: xs, y :: ys => if x = y then lexLt xs ys else decide (x < y)
section
open PySem.SeqAt
open PySem.AutoSeq1 (wpAny_loadPart')
open PySem.MeetsSeq PySem.MeetsSeq2 PySem.MeetsSeq3
end
section
variable {prog : Program} {w : World} {A : Around} {E : Value → Shared → Prop} {s : Shared}
theorem cat_tup {t b : Addr} {vs ws : List Value} {Q : Value → Shared → Prop} (ht : IsTup s.heap t vs.toArray) (hb : IsTup s.heap b ws.toArray) (hv : vs ≠ [])
    (h1 : ws = [] → Q (.ref t) s) (h2 : ws ≠ [] → Q (.ref s.heap.objs.size) { s with heap := s.heap.push { cls := .type "tuple", data := .seq (vs ++ ws).toArray } })
    (hsz : vs.length + ws.length ≤ sizeLine) : wpAny (model prog w) A (binaryOp .Add (.ref t) (.ref b)) Q E s := by
  obtain ⟨⟨cls, dd, data, sl⟩, ho, hc, n, hd⟩ := id ht
  obtain ⟨⟨cls2, dd2, data2, sl2⟩, ho2, hc2, n2, hd2⟩ := id hb
  simp only at hc hd hc2 hd2
  subst hc hd hc2 hd2
  have e : vs.toArray ++ ws.toArray = (vs ++ ws).toArray := by simp
  by_cases hw : ws = []
  · exact concat_meets ⟨_, ho, rfl⟩ ⟨_, ho2, rfl⟩ noFill_tuple_add seq_tuple_add PySem.F.slot_tuple_add PySem.F.entry_tuple_add (PySem.F.args_tuple_add_2 _ _)
      (tuple_addW1 t b vs.toArray ws.toArray n n2 dd dd2 sl sl2 (by simpa using hv) (by simp [hw])) ⟨ho, ho2, h1 hw⟩
  · refine concat_meets ⟨_, ho, rfl⟩ ⟨_, ho2, rfl⟩ noFill_tuple_add seq_tuple_add PySem.F.slot_tuple_add PySem.F.entry_tuple_add (PySem.F.args_tuple_add_2 _ _)
      (tuple_addW2 t b vs.toArray ws.toArray n n2 dd dd2 sl sl2 (by simpa using hv) (by simpa using hw) (by rw [List.size_toArray, List.size_toArray]; exact hsz)) ⟨ho, ho2, ?_⟩
    rw [e]
    exact h2 hw

noncomputable def sIx (n d : Nat) : Option Int → Nat
  | none => d
  | some v => if v < 0 then (v + (n : Int)).toNat else min v.toNat n
theorem sIx_none (n d : Nat) : sIx n d none = d := rfl
theorem sIx_nat (n d k : Nat) : sIx n d (some (k : Int)) = min k n := by
  show (if (k : Int) < 0 then ((k : Int) + (n : Int)).toNat else min (k : Int).toNat n) = min k n
  rw [if_neg (by omega), Int.toNat_natCast]
end
end HT
namespace L2
open PySem PySem.Spec PyProof.Rows

noncomputable abbrev TO := St → Hp → (Option Int → Hp → Prop) → Prop
noncomputable def PO (X : Cx) (e : Option Expr) (t : TO) : Prop :=
  ∀ (pins : List (Addr × Obj)) (s : Shared) (σ : St) (H : Hp) (Q : Option Int → Hp → Prop), Inv X pins σ H s → t σ H Q →
    wpAny (model X.prog X.w) X.A (evalPart e X.env) (fun u s' => ∃ o H', Inv X pins σ H' s' ∧ IsPart u o ∧ Q o H') X.xe s
noncomputable def tNoPart : TO := fun _ H Q => Q none H
noncomputable def tPart (t : TE) : TO := fun σ H Q => t σ H fun x H1 => ∃ i, x = .int i ∧ Q (some i) H1
theorem intsAre_of {ns : List Int} : ∀ {us : List Value}, Vals (ns.map V.int) us → IntsAre us ns := by
  induction ns with
  | nil => intro us r; rw [List.map_nil] at r; cases r; exact .nil
  | cons n ns ih =>
    intro us r
    rw [List.map_cons] at r
    cases r with
    | cons r1 r2 =>
      obtain ⟨t, e⟩ := r1
      subst e
      exact .cons n t (ih r2)
section
variable {X : Cx} {e : Expr} {te : TE} {lo hi : Option Expr} {tl th : TO} {pos p2 : Pos}
theorem po_none : PO X none tNoPart := by
  intro pins s σ H Q I h
  rw [evalPart_none]
  exact wpAny_pure ⟨none, H, I, .none, h⟩
theorem po_some (h : PE X e te) : PO X (some e) (tPart te) := by
  intro pins s σ H Q I hw
  rw [evalPart_some]
  refine thn (h pins s σ H _ I hw) fun u s1 ⟨x, H1, I1, r1, q1⟩ => ?_
  obtain ⟨i, rfl, q⟩ := q1
  obtain ⟨t, rfl⟩ := r1
  exact ⟨some i, H1, I1, .int i t, q⟩
noncomputable def SlR (X : Cx) (r : V → Option Int → Option Int → Hp → VK → Prop) : Prop :=
  ∀ (pins : List (Addr × Obj)) (s : Shared) (σ : St) (H : Hp) (x : V) (v vl vu : Value) (lo hi : Option Int) (sl : Addr) (Q : VK), Inv X pins σ H s → RelV x v → s.heap.IsSliceOf sl vl vu .none → IsPart vl lo → IsPart vu hi → r x lo hi H Q →
    ∃ T id, typeLookup (.type T) "__getitem__" = pure (some (.builtin id)) ∧ s.TypeIs v T ∧ wpAny (model X.prog X.w) X.A (getItem v (.ref sl)) (EP X pins σ Q) X.xe s
noncomputable def tSl (r : V → Option Int → Option Int → Hp → VK → Prop) (te : TE) (tl th : TO) : TE := fun σ H Q => te σ H fun x H1 => tl σ H1 fun l H2 => th σ H2 fun u H3 => r x l u H3 Q
theorem pe_slice {r : V → Option Int → Option Int → Hp → VK → Prop} (hr : SlR X r) (he : PE X e te) (hl : PO X lo tl) (hu : PO X hi th) : PE X (.Subscript e (.Slice lo hi none p2) pos) (tSl r te tl th) := by
  intro pins s σ H Q I h
  refine Subscript_ (thn (he pins s σ H _ I h) fun v s1 ⟨x, H1, I1, r1, q1⟩ => ?_)
  refine wpAny_Slice (thn (hl pins s1 σ H1 _ I1 q1) fun vl s2 ⟨l, H2, I2, pl, q2⟩ => thn (hu pins s2 σ H2 _ I2 q2) fun vu s3 ⟨u, H3, I3, pu, q3⟩ => ?_)
  rw [evalPart_none]
  refine wpAny_pure ?_
  have I4 : Inv X pins σ H3 { s3 with heap := s3.heap.push { cls := .type "slice", data := .fields #[vl, vu, .none] } } := I3.kept (t' := s3.toks) fun b ob q => Heap.get?_push_of_some _ q
  obtain ⟨T, id, hT, ht, hg⟩ := hr pins { s3 with heap := s3.heap.push { cls := .type "slice", data := .fields #[vl, vu, .none] } } σ H3 x v vl vu l u s3.heap.objs.size Q I4 r1 (Heap.IsSliceOf.new ..) pl pu q3
  show wpAny (model X.prog X.w) X.A (subscriptTail e (.Slice lo hi none p2) v (.ref s3.heap.objs.size)) (EP X pins σ Q) X.xe { s3 with heap := s3.heap.push { cls := .type "slice", data := .fields #[vl, vu, .none] } }
  exact tail_any (ops := [.ref s3.heap.objs.size, v]) ht hT hg (by with_unfolding_all rfl)
noncomputable def cutV (xs : List V) (lo hi : Option Int) : List V := (xs.drop (HT.sIx xs.length 0 lo)).take (HT.sIx xs.length xs.length hi - HT.sIx xs.length 0 lo)
theorem cutV_length (xs : List V) (lo hi : Option Int) : (cutV xs lo hi).length ≤ xs.length := by
  unfold cutV
  rw [List.length_take, List.length_drop]
  omega

noncomputable def rCatT (K : PySem.W.Frag) : R2 := fun x y H Q => ∃ a b xs ys, x = .ref a ∧ y = .ref b ∧ SqT K H a xs ∧ SqT K H b ys ∧ xs ≠ [] ∧ xs.length + ys.length ≤ sizeLine ∧
  (ys = [] → Q (.ref a) H) ∧ (ys ≠ [] → ∀ p, H p = none → Q (.ref p) (upd H p (.tup (xs ++ ys))))
theorem Vals.nil_iff {xs : List V} {us : List Value} (r : Vals xs us) : us = [] ↔ xs = [] := by
  cases r with
  | nil => simp
  | cons _ _ => simp
theorem op_catT : OpR X (binaryOp .Add) (rCatT X.K) := by
  intro pins s σ H x y v u Q I rx ry h
  obtain ⟨a, b, xs, ys, rfl, rfl, ha, hb, hx, hz, q1, q2⟩ := h
  cases rx
  cases ry
  obtain ⟨its, r1, p1, _⟩ := I.tuple ha
  obtain ⟨its2, r2, p2, _⟩ := I.tuple hb
  refine HT.cat_tup p1 p2 (fun z => hx (r1.nil_iff.mp z)) (fun z => ⟨.ref a, H, I, rfl, q1 (r2.nil_iff.mp z)⟩) (fun z => ?_) (by rw [← r1.length, ← r2.length]; exact hz)
  refine ⟨.ref s.heap.objs.size, _, I.laid (t' := s.toks) (o := .tup (xs ++ ys)) (fun b ob q => Heap.get?_push_of_some _ q) (Nat.le_refl _) ?_, rfl, q2 (fun w => z (r2.nil_iff.mpr w)) _ (I.hok.fresh (Nat.le_refl _))⟩
  exact ⟨by rw [List.length_append]; exact hz, _, r1.append r2, IsTup.new _ _⟩
end
end L2
namespace L2
open PySem PySem.Spec PyProof.Rows

noncomputable def ixN (n : Nat) (i : Int) : Option Nat := if 0 ≤ i then (if i < n then some i.toNat else none) else if -(n : Int) ≤ i then some (i + n).toNat else none
noncomputable def atI {α : Type} (xs : List α) (i : Int) : Option α := (ixN xs.length i).bind fun j => xs[j]?
theorem ixN_seq {n : Nat} {i : Int} {j : Nat} (h : ixN n i = some j) : seqIndex? i n = some j ∧ j < n ∧ -(n : Int) ≤ i ∧ i < n := by
  unfold ixN at h
  by_cases h0 : 0 ≤ i
  · rw [if_pos h0] at h
    by_cases h1 : i < n
    · rw [if_pos h1] at h
      have e : i.toNat = j := Option.some.inj h
      exact ⟨by rw [seqIndex_of h0 h1, e], by omega, by omega, h1⟩
    · rw [if_neg h1] at h; cases h
  · rw [if_neg h0] at h
    by_cases h1 : -(n : Int) ≤ i
    · rw [if_pos h1] at h
      have e : (i + n).toNat = j := Option.some.inj h
      exact ⟨by rw [seqIndex_neg (by omega) h1, e], by omega, h1, by omega⟩
    · rw [if_neg h1] at h; cases h
theorem atI_get {α : Type} {xs : List α} {i : Int} {v : α} (h : atI xs i = some v) : ∃ j, seqIndex? i xs.length = some j ∧ xs[j]? = some v ∧ j < xs.length ∧ -(xs.length : Int) ≤ i ∧ i < xs.length := by
  unfold atI at h
  cases e : ixN xs.length i with
  | none => rw [e] at h; cases h
  | some j =>
    rw [e] at h
    obtain ⟨h1, h2, h3, h4⟩ := ixN_seq e
    exact ⟨j, h1, h, h2, h3, h4⟩
theorem atI_nat {α : Type} {xs : List α} {j : Nat} {v : α} (h : xs[j]? = some v) : atI xs (j : Int) = some v := by
  have hj : j < xs.length := (List.getElem?_eq_some_iff.mp h).1
  have e : ixN xs.length (j : Int) = some j := by
    unfold ixN
    rw [if_pos (by omega), if_pos (by omega)]; simp
  unfold atI; rw [e]; exact h

noncomputable def PlainIx (b : Expr) : Prop := ∀ o i, subscripted b false o i = operate [o, i] (getItem o i)
noncomputable def IxR (X : Cx) (r : R2) : Prop :=
  ∀ (value slice : Expr) (pins : List (Addr × Obj)) (s : Shared) (σ : St) (H : Hp) (x y : V) (v u : Value) (Q : VK), Inv X pins σ H s → RelV x v → RelV y u → r x y H Q →
    subscripted slice false v u = operate [v, u] (getItem v u) → wpAny (model X.prog X.w) X.A (subscriptTail value slice v u) (EP X pins σ Q) X.xe s
noncomputable def MtR (X : Cx) (id : String) (r : V → List V → Hp → VK → Prop) : Prop :=
  ∀ (pins : List (Addr × Obj)) (s : Shared) (σ : St) (H : Hp) (x : V) (xs : List V) (v : Value) (us : List Value) (Q : VK), Inv X pins σ H s → RelV x v → Vals xs us → r x xs H Q →
    wpAny (model X.prog X.w) X.A (call (.builtin id) (v :: us)) (EP X pins σ Q) X.xe s
section
variable {X : Cx} {a b : Expr} {ta tb : TE} {pos : Pos}
theorem pe_ix {r : R2} (hr : IxR X r) (ha : PE X a ta) (hb : PE X b tb) (hs : PlainIx b) : PE X (.Subscript a b pos) (tOp r ta tb) := by
  intro pins s σ H Q I h
  exact Subscript_ (binT ha hb I h fun v u s2 x y H2 I2 rx ry q => hr a b pins s2 σ H2 x y v u Q I2 rx ry q (hs _ _))
noncomputable def rIxL (K : PySem.W.Frag) : R2 := fun x y H Q => ∃ p xs i v, x = .ref p ∧ y = .int i ∧ SqL K H p xs ∧ atI xs i = some v ∧ Q v H
noncomputable def rIxT (K : PySem.W.Frag) : R2 := fun x y H Q => ∃ p xs i v, x = .ref p ∧ y = .int i ∧ SqT K H p xs ∧ atI xs i = some v ∧ Q v H
noncomputable def rIxS : R2 := fun x y H Q => ∃ z i c, x = .str z ∧ y = .int i ∧ z.length ≤ sizeLine ∧ atI z.cps.toList i = some c ∧ Q (.str ⟨#[c]⟩) H
theorem ix_list : IxR X (rIxL X.K) := by
  intro value slice pins s σ H x y v u Q I rx ry h hs
  obtain ⟨p, xs, i, z, rfl, rfl, hq, he, q⟩ := h
  cases rx
  obtain ⟨t, rfl⟩ := ry
  obtain ⟨its, r, pl, hz⟩ := I.list hq
  obtain ⟨j, h1, h2, h3, h4, h5⟩ := atI_get he
  obtain ⟨w, ew, rw'⟩ := r.get h2
  have hl := r.length
  have hn := line63
  have fin : EP X pins σ Q w s := ⟨z, H, I, rw', q⟩
  by_cases h0 : 0 ≤ i
  · have hj : i.toNat = j := by
      rw [seqIndex_of h0 h5] at h1
      exact Option.some.inj h1
    exact item_listR pl.isList h0 (by omega) (by rw [hj]; simpa using ew) fin hs
  · have hj : (i + (its.toArray.size : Int)).toNat = j := by
      rw [seqIndex_neg (by omega) h4] at h1
      rw [List.size_toArray, ← hl]
      exact Option.some.inj h1
    exact subscriptTail_builtinR (x := w) pl.isList.typeIs slot_list_getitem.lookup
      (wpAny_getItem_list_neg (Q := fun r s' => r = w ∧ EP X pins σ Q r s') pl.isList (by omega) (by rw [List.size_toArray] <;> omega) (by omega) (by rw [hj]; simpa using ew) ⟨rfl, fin⟩) hs
theorem ix_tup : IxR X (rIxT X.K) := by
  intro value slice pins s σ H x y v u Q I rx ry h hs
  obtain ⟨p, xs, i, z, rfl, rfl, hq, he, q⟩ := h
  cases rx
  obtain ⟨t, rfl⟩ := ry
  obtain ⟨its, r, pl, hz⟩ := I.tuple hq
  obtain ⟨j, h1, h2, h3, h4, h5⟩ := atI_get he
  obtain ⟨w, ew, rw'⟩ := r.get h2
  have hl := r.length
  have hn := line63
  have fin : EP X pins σ Q w s := ⟨z, H, I, rw', q⟩
  exact subscriptTail_builtinR (x := w) pl.typeIs slot_tuple_getitem.lookup
    (getItem_tuple (j := j) (Q := fun r s' => r = w ∧ EP X pins σ Q r s') pl (by omega) (by omega) (by rw [List.size_toArray, ← hl]; exact h1) (by simpa using ew) ⟨rfl, fin⟩) hs
theorem ix_str : IxR X rIxS := by
  intro value slice pins s σ H x y v u Q I rx ry h hs
  obtain ⟨z, i, c, rfl, rfl, hz, he, q⟩ := h
  obtain ⟨t, rfl⟩ := rx
  obtain ⟨t', rfl⟩ := ry
  obtain ⟨j, h1, h2, h3, h4, h5⟩ := atI_get he
  have hl : z.cps.toList.length = z.length := by simp [Str.length]
  rw [hl] at h1 h4 h5
  have hn := line63
  exact tail_any (typeIs_str s z t) slot_str_getitem.lookup (getItem_str (c := c) (by
    have e1 : decide (i < -(2 ^ 63 : Int)) = false := decide_eq_false (by omega)
    have e2 : decide (i ≥ 2 ^ 63) = false := decide_eq_false (by omega)
    rw [e1, e2, Bool.or_false]) (by rw [h1]; simpa using h2) ⟨.str ⟨#[c]⟩, H, I.tok _, ⟨_, rfl⟩, q⟩) hs

theorem mapSeq_set (its : List Value) (n j : Nat) (u : Value) : Obj.mapSeq (·.setIfInBounds j u) { cls := .type "list", data := .seq its.toArray n } = { cls := .type "list", data := .seq (its.set j u).toArray n } := by
  simp [Obj.mapSeq]
theorem Inv.lst {pins : List (Addr × Obj)} {σ : St} {H : Hp} {s : Shared} {p : Addr} {xs : List V} (I : Inv X pins σ H s) (h : H p = some (.lst xs)) :
    ∃ (its : List Value) (n : Nat), Vals xs its ∧ s.heap.get? p = some { cls := .type "list", data := .seq its.toArray n } ∧ xs.length ≤ sizeLine := by
  obtain ⟨z, its, n, r, e⟩ := I.hok p _ h
  exact ⟨its, n, r, e, z⟩
theorem Inv.lstUpd {pins : List (Addr × Obj)} {σ : St} {H : Hp} {s : Shared} {p : Addr} {xs ys : List V} {its its' : List Value} {n n' : Nat} {f : Obj → Obj} (I : Inv X pins σ H s) (h : H p = some (.lst xs))
    (ho : s.heap.get? p = some { cls := .type "list", data := .seq its.toArray n }) (hf : f { cls := .type "list", data := .seq its.toArray n } = { cls := .type "list", data := .seq its'.toArray n' }) (r : Vals ys its') (hz : ys.length ≤ sizeLine) (t : Nat) :
    Inv X pins σ (upd H p (.lst ys)) { s with heap := s.heap.update p f, toks := t } := by
  have e : (s.heap.update p f).get? p = some { cls := .type "list", data := .seq its'.toArray n' } := by
    rw [Heap.get?_update_self f ho (by rw [hf] <;> rfl), hf]
  refine I.write (x := p) (e := p) (by rw [h]; trivial) (.inl rfl) (fun b u hb q => (Heap.get?_update_other _ _ (Ne.symm hb)).trans q) ⟨_, e⟩ ?_
  exact ⟨hz, its', n', r, e⟩
noncomputable def rSetL : V → V → V → Hp → (Hp → Prop) → Prop := fun o i v H Q => ∃ p xs k j, o = .ref p ∧ i = .int k ∧ H p = some (.lst xs) ∧ ixN xs.length k = some j ∧ Q (upd H p (.lst (xs.set j v)))
theorem set_list : PSet X rSetL := by
  intro pins s σ H o i v ov iv u Q I ro ri rv h
  obtain ⟨p, xs, k, j, rfl, rfl, hp, hj, q⟩ := h
  cases ro
  obtain ⟨t, rfl⟩ := ri
  obtain ⟨its, n, r, ho, hz⟩ := I.lst hp
  obtain ⟨h1, h2, h3, h4⟩ := ixN_seq hj
  have hl := r.length
  have hn := line63
  have I' : Inv X pins σ (upd H p (.lst (xs.set j v))) { s with heap := s.heap.update p (Obj.mapSeq (·.setIfInBounds j u)) } :=
    I.lstUpd hp ho (mapSeq_set its n j u) (r.set rv j) (by rw [List.length_set]; exact hz) s.toks
  by_cases h0 : 0 ≤ k
  · have hk : k.toNat = j := by
      rw [seqIndex_of h0 h4] at h1
      exact Option.some.inj h1
    exact PySem.W.ki_setAt ho h0 (by omega) (by rw [List.size_toArray, ← hl]; exact h4) (by rw [hk]; exact ⟨_, I', q⟩)
  · have hk : (k + (its.toArray.size : Int)).toNat = j := by
      rw [seqIndex_neg (by omega) h3] at h1
      rw [List.size_toArray, ← hl]
      exact Option.some.inj h1
    exact PySem.W.ki_setBack ho (by omega) (by rw [List.size_toArray, ← hl]; exact h3) (by omega) (by rw [hk]; exact ⟨_, I', q⟩)

theorem slice_bounds (lo hi : Option Int) (n : Nat) : (sliceBounds lo hi none n).1 = ((HT.sIx n 0 lo : Nat) : Int) ∧ (sliceBounds lo hi none n).2.1 = ((HT.sIx n n hi : Nat) : Int) ∧ (sliceBounds lo hi none n).2.2 = 1 := by
  refine ⟨?_, ?_, rfl⟩
  · cases lo with
    | none => simp [sliceBounds, HT.sIx]
    | some i =>
      simp only [sliceBounds, HT.sIx, Option.getD_none, show (1 : Int) > 0 by decide, if_true]
      by_cases h : i < 0
      · simp only [h, if_true] <;> omega
      · simp only [h, if_false] <;> omega
  · cases hi with
    | none => simp [sliceBounds, HT.sIx]
    | some i =>
      simp only [sliceBounds, HT.sIx, Option.getD_none, show (1 : Int) > 0 by decide, if_true]
      by_cases h : i < 0
      · simp only [h, if_true] <;> omega
      · simp only [h, if_false] <;> omega
theorem slicePick_cut (its : List Value) (lo hi : Option Int) : slicePick its.toArray lo hi none = ((its.drop (HT.sIx its.length 0 lo)).take (HT.sIx its.length its.length hi - HT.sIx its.length 0 lo)).toArray := by
  obtain ⟨h1, h2, h3⟩ := slice_bounds lo hi its.toArray.size
  unfold slicePick
  rw [h1, h2, h3]
  simp only [sliceRange_one, pick_run, List.size_toArray] <;> rfl
noncomputable def rSlL (K : PySem.W.Frag) : V → Option Int → Option Int → Hp → VK → Prop := fun x lo hi H Q => ∃ a xs, x = .ref a ∧ SqL K H a xs ∧ ∀ p, H p = none → Q (.ref p) (upd H p (.lst (cutV xs lo hi)))
theorem sl_list : SlR X (rSlL X.K) := by
  intro pins s σ H x v vl vu lo hi sl Q I rx hs pl pu h
  obtain ⟨a, xs, rfl, hx, q⟩ := h
  cases rx
  obtain ⟨its, r, ht, hz⟩ := I.list hx
  have hlen := r.length
  refine ⟨"list", _, slot_list_getitem.lookup, ht.isList.typeIs, ?_⟩
  refine wpAny_getItem_list_slice ht.isList hs pl pu .none (by simp) ?_ (by rw [List.size_toArray] <;> omega)
  rw [slicePick_cut, ← hlen]
  refine ⟨.ref s.heap.objs.size, _, I.laid (t' := s.toks) (o := .lst (cutV xs lo hi)) (fun b ob q => Heap.get?_push_of_some _ q) (Nat.le_refl _) ?_, rfl, q _ (I.hok.fresh (Nat.le_refl _))⟩
  exact ⟨Nat.le_trans (cutV_length xs lo hi) hz, _, 0, (r.drop (HT.sIx xs.length 0 lo)).take (HT.sIx xs.length xs.length hi - HT.sIx xs.length 0 lo), Heap.get?_push_size _ rfl⟩

noncomputable def flatV : V → Bool
  | .non => true
  | .bl _ => true
  | .int _ => true
  | .str _ => true
  | _ => false
noncomputable def eqV : V → V → Bool
  | .non, .non => true
  | .bl a, .bl b => a == b
  | .bl a, .int b => (if a then 1 else 0) == b
  | .int a, .bl b => a == (if b then 1 else 0)
  | .int a, .int b => a == b
  | .str a, .str b => a == b
  | _, _ => false
theorem eqAt_V {A : Around} {s : Shared} {y x : V} {u v : Value} (ry : RelV y u) (rx : RelV x v) (fy : flatV y = true) (fx : flatV x = true) : SeqAt.EqAt A s u v (eqV y x) := by
  cases y with
  | non =>
    cases ry
    cases x with
    | non => cases rx; exact SeqAt.EqAt.same _
    | bl b => cases rx; exact SeqAt.EqAt.none_bool b
    | int b => obtain ⟨t, rfl⟩ := rx; exact SeqAt.EqAt.none_int b t
    | str b => obtain ⟨t, rfl⟩ := rx; exact SeqAt.EqAt.none_str b t
    | _ => exact absurd (show false = true from fx) Bool.false_ne_true
  | bl a =>
    cases ry
    cases x with
    | non => cases rx; exact SeqAt.EqAt.bool_none a
    | bl b => cases rx; exact SeqAt.EqAt.bool_bool a b
    | int b => obtain ⟨t, rfl⟩ := rx; exact SeqAt.EqAt.bool_int a b t
    | str b => obtain ⟨t, rfl⟩ := rx; exact SeqAt.EqAt.bool_str a b t
    | _ => exact absurd (show false = true from fx) Bool.false_ne_true
  | int a =>
    obtain ⟨t', rfl⟩ := ry
    cases x with
    | non => cases rx; exact SeqAt.EqAt.int_none a t'
    | bl b => cases rx; exact SeqAt.EqAt.int_bool a t' b
    | int b => obtain ⟨t, rfl⟩ := rx; exact SeqAt.EqAt.int_int a t' b t
    | str b => obtain ⟨t, rfl⟩ := rx; exact SeqAt.EqAt.int_str a t' b t
    | _ => exact absurd (show false = true from fx) Bool.false_ne_true
  | str a =>
    obtain ⟨t', rfl⟩ := ry
    cases x with
    | non => cases rx; exact SeqAt.EqAt.str_none a t'
    | bl b => cases rx; exact SeqAt.EqAt.str_bool a t' b
    | int b => obtain ⟨t, rfl⟩ := rx; exact SeqAt.EqAt.str_int a t' b t
    | str b => obtain ⟨t, rfl⟩ := rx; exact SeqAt.EqAt.str_str a t' b t
    | _ => exact absurd (show false = true from fx) Bool.false_ne_true
  | _ => exact absurd (show false = true from fy) Bool.false_ne_true
noncomputable def eqU (x : V) (u : Value) : Bool := match u with
  | .none => eqV .non x
  | .bool b => eqV (.bl b) x
  | .int i _ => eqV (.int i) x
  | .str z _ => eqV (.str z) x
  | _ => false
theorem eqU_of {x y : V} {u : Value} (r : RelV y u) (f : flatV y = true) : eqU x u = eqV y x := by
  cases y with
  | non => cases r; rfl
  | bl b => cases r; rfl
  | int i => obtain ⟨t, rfl⟩ := r; rfl
  | str z => obtain ⟨t, rfl⟩ := r; rfl
  | _ => exact absurd (show false = true from f) Bool.false_ne_true
theorem any_eqU {x : V} : ∀ {xs : List V} {us : List Value}, Vals xs us → xs.all flatV = true → us.any (eqU x) = xs.any fun y => eqV y x
  | _, _, .nil, _ => rfl
  | y :: xs, u :: us, .cons r t, f => by
    rw [List.all_cons, Bool.and_eq_true] at f
    rw [List.any_cons, List.any_cons, eqU_of r f.1, any_eqU t f.2]
theorem mem_eqAt {A : Around} {s : Shared} {x : V} {v : Value} (rx : RelV x v) (fx : flatV x = true) : ∀ {xs : List V} {us : List Value}, Vals xs us → xs.all flatV = true → ∀ u ∈ us, SeqAt.EqAt A s u v (eqU x u)
  | _, _, .nil, _ => fun u hu => by cases hu
  | y :: xs, u :: us, .cons r t, f => fun u' hu => by
    rw [List.all_cons, Bool.and_eq_true] at f
    rcases List.mem_cons.mp hu with rfl | hu
    · rw [eqU_of r f.1]; exact eqAt_V r rx f.1 fx
    · exact mem_eqAt rx fx t f.2 u' hu
noncomputable def inV (x : V) (xs : List V) : Bool := xs.any fun y => eqV y x
noncomputable def rIn (K : PySem.W.Frag) (neg : Bool) : R2 := fun x y H Q => ∃ p xs, y = .ref p ∧ (SqL K H p xs ∨ SqT K H p xs) ∧ flatV x = true ∧ xs.all flatV = true ∧ Q (.bl (if neg then !inV x xs else inV x xs)) H
theorem op_in_seq : OpR X (compareOp .In) (rIn X.K false) := by
  intro pins s σ H x y v u Q I rx ry h
  obtain ⟨p, xs, rfl, hq, fx, fs, q⟩ := h
  cases ry
  rcases hq with hq | hq
  · obtain ⟨its, r, pl, hz⟩ := I.list hq
    refine SeqAt.in_listAt (eqU x) pl.isList (fun w hw => mem_eqAt rx fx r fs w (by simpa using hw)) ⟨.bl _, H, I, rfl, ?_⟩
    rw [show its.toArray.any (eqU x) = its.any (eqU x) by simp, any_eqU r fs]
    exact q
  · obtain ⟨its, r, pl, hz⟩ := I.tuple hq
    refine SeqAt.in_tupleAt (eqU x) pl (fun w hw => mem_eqAt rx fx r fs w (by simpa using hw)) ⟨.bl _, H, I, rfl, ?_⟩
    rw [show its.toArray.any (eqU x) = its.any (eqU x) by simp, any_eqU r fs]
    exact q
theorem op_notIn_seq : OpR X (compareOp .NotIn) (rIn X.K true) := by
  intro pins s σ H x y v u Q I rx ry h
  obtain ⟨p, xs, rfl, hq, fx, fs, q⟩ := h
  cases ry
  rcases hq with hq | hq
  · obtain ⟨its, r, pl, hz⟩ := I.list hq
    refine SeqAt.notIn_listAt (eqU x) pl.isList (fun w hw => mem_eqAt rx fx r fs w (by simpa using hw)) ⟨.bl _, H, I, rfl, ?_⟩
    rw [show its.toArray.any (eqU x) = its.any (eqU x) by simp, any_eqU r fs]
    exact q
  · obtain ⟨its, r, pl, hz⟩ := I.tuple hq
    refine SeqAt.notIn_tupleAt (eqU x) pl (fun w hw => mem_eqAt rx fx r fs w (by simpa using hw)) ⟨.bl _, H, I, rfl, ?_⟩
    rw [show its.toArray.any (eqU x) = its.any (eqU x) by simp, any_eqU r fs]
    exact q
theorem op_notIn_str : OpR X (compareOp .NotIn) (fun x y H Q => ∃ i j, x = .str i ∧ y = .str j ∧ Q (.bl (!(!(Builtin.Str.occurrences j i 0 j.length 1).isEmpty))) H) := by
  intro pins s σ H x y v u Q I rx ry h
  obtain ⟨i, j, rfl, rfl, q⟩ := h
  obtain ⟨t, rfl⟩ := rx
  obtain ⟨t', rfl⟩ := ry
  exact notIn_str ⟨.bl _, H, I, rfl, q⟩

theorem call_len_seq : CallR X (.builtin "len") (fun xs H Q => ∃ p ys, xs = [.ref p] ∧ (SqL X.K H p ys ∨ SqT X.K H p ys) ∧ Q (.int ys.length) H) := by
  intro pins s σ H xs us Q I r h
  obtain ⟨p, ys, rfl, hq, q⟩ := h
  obtain ⟨u, rfl, rx⟩ := vals1 r
  cases rx
  have hn := line63
  rcases hq with hq | hq
  · obtain ⟨its, r', pl, hz⟩ := I.list hq
    have hlen := r'.length
    exact Calls.call_len_list pl.isList (by simp only [List.size_toArray] <;> omega) ⟨.int ys.length, H, I.tok _, ⟨s.toks + 1, by rw [List.size_toArray, hlen]⟩, q⟩
  · obtain ⟨its, r', pl, hz⟩ := I.tuple hq
    have hlen := r'.length
    exact len_tuple pl (by simp only [List.size_toArray] <;> omega) ⟨.int ys.length, H, I.tok _, ⟨s.toks + 1, by rw [List.size_toArray, hlen]⟩, q⟩
theorem call_len_str : CallR X (.builtin "len") (fun xs H Q => ∃ z, xs = [.str z] ∧ z.length ≤ sizeLine ∧ Q (.int z.length) H) := by
  intro pins s σ H xs us Q I r h
  obtain ⟨z, rfl, hz, q⟩ := h
  obtain ⟨u, rfl, t, rfl⟩ := vals1 r
  have hn := line63
  exact len_str (by omega) ⟨.int z.length, H, I.tok _, ⟨_, rfl⟩, q⟩
theorem call_list_of : CallR X (.type "list") (fun xs H Q => ∃ p ys, xs = [.ref p] ∧ (SqL X.K H p ys ∨ SqT X.K H p ys) ∧ ∀ l, H l = none → Q (.ref l) (upd H l (.lst ys))) := by
  intro pins s σ H xs us Q I r h
  obtain ⟨p, ys, rfl, hq, q⟩ := h
  obtain ⟨u, rfl, rx⟩ := vals1 r
  cases rx
  have fin : ∀ (its : List Value), Vals ys its → ys.length ≤ sizeLine → ∀ (h' : Heap) (c' : Nat), (∀ b o', s.heap.get? b = some o' → h'.get? b = some o') →
      h'.get? s.heap.objs.size = some { cls := .type "list", dict := none, data := .seq its.toArray c', slots := #[] } → EP X pins σ Q (.ref s.heap.objs.size) { s with heap := h' } := fun its r' hz h' c' kp e =>
    ⟨.ref s.heap.objs.size, _, I.laid (t' := s.toks) kp (Nat.le_refl _) (show ObjOk X.prog X.w _ h' _ (.lst ys) from ⟨hz, its, c', r', e⟩), rfl, q _ (I.hok.fresh (Nat.le_refl _))⟩
  rcases hq with hq | hq
  · obtain ⟨its, r', pl, hz⟩ := I.list hq
    have hlen := r'.length
    obtain ⟨o, ho, hc, n, hd⟩ := pl.isList
    exact call_list_seq p (.inl rfl) ho hc hd (fun h' c' kp e => fin its r' hz h' c' kp e) (by simp only [List.size_toArray] <;> omega)
  · obtain ⟨its, r', pl, hz⟩ := I.tuple hq
    have hlen := r'.length
    obtain ⟨o, ho, hc, n, hd⟩ := pl
    exact call_list_seq p (.inr rfl) ho hc hd (fun h' c' kp e => fin its r' hz h' c' kp e) (by simp only [List.size_toArray] <;> omega)

noncomputable def tyV (K : PySem.W.Frag) (T : String) (x : V) (H : Hp) : Prop := match x with
  | .str _ => T = "str"
  | .int _ => T = "int"
  | .ref p => (T = "list" ∧ ∃ xs, SqL K H p xs) ∨ (T = "tuple" ∧ ∃ o, K.lookup p = some o ∧ o.cls = .type "tuple" ∧ o.dict = none) ∨
      (T = "dict" ∧ ((∃ kvs, H p = some (.dK kvs)) ∨ ∃ kvs, H p = some (.dT kvs))) ∨ (T = "set" ∧ ∃ S n, H p = some (.set S n))
  | _ => False
theorem tyV_is {pins : List (Addr × Obj)} {σ : St} {H : Hp} {s : Shared} {T : String} {x : V} {v : Value} (I : Inv X pins σ H s) (r : RelV x v) (ty : tyV X.K T x H) :
    s.TypeIs v T ∧ ∀ a, v = .ref a → ∃ ob, s.heap.get? a = some ob ∧ ob.dict = none := by
  cases x with
  | str z =>
    obtain ⟨t, rfl⟩ := r
    cases (show T = "str" from ty)
    exact ⟨typeIs_str s z t, fun _ e => nomatch e⟩
  | int i =>
    obtain ⟨t, rfl⟩ := r
    cases (show T = "int" from ty)
    exact ⟨typeIs_int s i t, fun _ e => nomatch e⟩
  | ref p =>
    cases r
    rcases ty with ⟨rfl, xs, hq⟩ | ⟨rfl, o, hk, hc, hd⟩ | ⟨rfl, hk⟩ | ⟨rfl, S, n, hk⟩
    · obtain ⟨its, _, pl, _⟩ := I.list hq
      refine ⟨pl.isList.typeIs, fun a e => ?_⟩
      cases e
      obtain ⟨o, n, e, c, hd, _⟩ := pl
      exact ⟨o, e, hd⟩
    · refine ⟨⟨o, I.kIn p o hk, hc⟩, fun a e => ?_⟩
      cases e
      exact ⟨o, I.kIn _ o hk, hd⟩
    · have z : ∃ o, s.heap.get? p = some o ∧ o.ExactDict := by
        rcases hk with ⟨kvs, hk⟩ | ⟨kvs, hk⟩
        · obtain ⟨_, _, _, _, o, _, _, e, ex, _⟩ := I.hok p _ hk
          exact ⟨o, e, ex⟩
        · obtain ⟨_, _, _, _, o, _, _, e, ex, _⟩ := I.hok p _ hk
          exact ⟨o, e, ex⟩
      obtain ⟨o, e, ex⟩ := z
      refine ⟨⟨o, e, ex.1⟩, fun a e2 => ?_⟩
      cases e2
      exact ⟨o, e, ex.2.1⟩
    · obtain ⟨o, _, _, _, e, ex, _⟩ := I.hok p _ hk
      refine ⟨⟨o, e, ex.1⟩, fun a e2 => ?_⟩
      cases e2
      exact ⟨o, e, ex.2.1⟩
  | _ => exact False.elim ty
noncomputable def tBM0 (K : PySem.W.Frag) (T : String) (r : V → List V → Hp → VK → Prop) (to : TE) : TE := fun σ H Q => to σ H fun x H1 => tyV K T x H1 ∧ r x [] H1 Q
noncomputable def tBM (K : PySem.W.Frag) (T : String) (r : V → List V → Hp → VK → Prop) (to : TE) (t : TA) : TE := fun σ H Q => to σ H fun x H1 => tyV K T x H1 ∧ t σ H1 fun xs H2 => r x xs H2 Q
variable {o e : Expr} {es : List Expr} {to : TE} {t : TA} {name : Str} {apos cpos : Pos} {T id : String} {r : V → List V → Hp → VK → Prop}
theorem pe_bm0 (pa : PlainAttrs T) (slot : Slot T name id) (hty : typeOf (.builtin id) = pure (.type "method_descriptor")) (hm : MtR X id r) (ho : PE X o to)
    (hbase : attributeBase o name X.env (eval o X.env) = eval o X.env := by rfl) (hline : (apos.endLine == cpos.line) = true := by rfl) : PE X (.Call (.Attribute o name apos) [] [] cpos) (tBM0 X.K T r to) := by
  intro pins s σ H Q I h
  refine wpAny_Call_method0_late hbase hline (thn (ho pins s σ H _ I h) fun v s1 ⟨x, H1, I1, r1, ty, q1⟩ => ?_)
  obtain ⟨h1, h2⟩ := tyV_is I1 r1 ty
  exact ⟨T, id, pa, slot, hty, h1, h2, Calls.callWith_builtin rfl (PySem.evalArgs_none (hm pins s1 σ H1 x [] v [] Q I1 r1 .nil q1))⟩
theorem pe_bm (pa : PlainAttrs T) (slot : Slot T name id) (hty : typeOf (.builtin id) = pure (.type "method_descriptor")) (hm : MtR X id r) (ho : PE X o to) (ha : PA X (e :: es) t)
    (hbase : attributeBase o name X.env (eval o X.env) = eval o X.env := by rfl)
    (hfew : ((backTo cpos (starEach (e :: es) X.env)).all (fun x => !x.1) && (backToKw cpos (keywordEach [] X.env)).all (fun x => x.1.isSome)
      && decide ((e :: es).length + ([] : List Keyword).length + (if ([] : List Keyword).isEmpty then 0 else 1) < 30)) = true := by rfl)
    (hline : (apos.endLine == cpos.line) = true := by rfl) (hs : starEach (e :: es) X.env = (false, eval e X.env) :: starEach es X.env := by rfl) (hplain : (backTo cpos (starEach es X.env)).any (·.1) = false := by rfl) :
    PE X (.Call (.Attribute o name apos) (e :: es) [] cpos) (tBM X.K T r to t) := by
  intro pins s σ H Q I h
  refine wpAny_Call_method_late hbase hfew hline rfl (thn (ho pins s σ H _ I h) fun v s1 ⟨x, H1, I1, r1, ty, q1⟩ => ?_)
  obtain ⟨h1, h2⟩ := tyV_is I1 r1 ty
  refine ⟨T, id, pa, slot, hty, h1, h2, ?_⟩
  have hA := ha cpos pins s1 σ H1 _ I1 q1
  rw [hs] at hA ⊢
  refine Calls.callWith_builtin (by show (false || (backTo cpos (starEach es X.env)).any (·.1)) = false; rw [hplain] <;> rfl) (Calls.evalArgs_plain ?_)
  exact thn hA fun us s2 ⟨vs, H2, I2, r2, q2⟩ => hm pins s2 σ H2 x vs v us Q I2 r1 r2 q2
/- xs.append(e), list.index on a module's tuple .. are MtR facts of 06m -/
end
end L2
namespace L2
open PySem PySem.Spec PyProof.Rows
noncomputable def MtM (X : Cx) (id : String) (r : V → List V → Hp → VK → Prop) : Prop :=
  ∀ (pins : List (Addr × Obj)) (s : Shared) (σ : St) (H : Hp) (x : V) (xs : List V) (v : Value) (us : List Value) (Q : VK), Inv X pins σ H s → RelV x v → Vals xs us → r x xs H Q →
    wpAny (model X.prog X.w) X.A (call (.builtin id) (v :: us)) (EP X pins σ Q) X.xe s

theorem Vals.one : ∀ {x : V} {us : List Value}, Vals [x] us → ∃ u, us = [u] ∧ RelV x u
  := by
  intro x us h
  cases h with
  | cons r q => cases q; exact ⟨_, rfl, r⟩
theorem Vals.two : ∀ {x y : V} {us : List Value}, Vals [x, y] us → ∃ u v, us = [u, v] ∧ RelV x u ∧ RelV y v
  := by
  intro x y us h
  cases h with
  | cons r z => cases z with
    | cons q z => cases z; exact ⟨_, _, rfl, r, q⟩
theorem Vals.zero : ∀ {us : List Value}, Vals [] us → us = []
  | _, .nil => rfl
theorem Vals.reverse {xs : List V} {us : List Value} (h : Vals xs us) : Vals xs.reverse us.reverse := by
  induction h with
  | nil => exact .nil
  | cons r t ih => rw [List.reverse_cons, List.reverse_cons]; exact Vals.append ih (.cons r .nil)
section
variable {X : Cx} {pins : List (Addr × Obj)} {σ : St} {H : Hp} {s : Shared} {l b : Addr} {xs ys zs : List V}

theorem Inv.lset {its its' : List Value} {n : Nat} {f : Array Value → Array Value} {t' : Nat} (I : Inv X pins σ H s) (hH : H l = some (.lst xs))
    (e : s.heap.get? l = some { cls := .type "list", data := .seq its.toArray n }) (hf : f its.toArray = its'.toArray) (hv : Vals ys its') (hz : ys.length ≤ sizeLine) :
    Inv X pins σ (upd H l (.lst ys)) { s with heap := s.heap.update l (Obj.mapSeq f), toks := t' } := by
  have q := PySem.IsL.update e f
  rw [hf] at q
  refine I.write (x := l) (e := l) (by rw [hH]; exact trivial) (.inl rfl) (fun b' u hb hu => (Heap.get?_update_other s.heap (Obj.mapSeq f) (Ne.symm hb)).trans hu) ⟨_, q⟩ ?_
  exact ⟨hz, its', _, hv, q⟩
theorem Inv.lnew {its : List Value} {t' : Nat} (I : Inv X pins σ H s) (hv : Vals ys its) (hz : ys.length ≤ sizeLine) :
    Inv X pins σ (upd H s.heap.objs.size (.lst ys)) { s with heap := s.heap.push { cls := .type "list", data := .seq its.toArray }, toks := t' } :=
  I.laid (fun _ _ q => Heap.get?_push_of_some _ q) (Nat.le_refl _) ⟨hz, its, 0, hv, Heap.get?_push_size _ rfl⟩
theorem Inv.fresh (I : Inv X pins σ H s) : H s.heap.objs.size = none := I.hok.fresh (Nat.le_refl _)
theorem Inv.lstM (I : Inv X pins σ H s) (hH : H l = some (.lst xs)) : xs.length ≤ sizeLine ∧ ∃ (its : List Value) (n : Nat), Vals xs its ∧ xs.length = its.length ∧ s.heap.get? l = some { cls := .type "list", data := .seq its.toArray n } := by
  obtain ⟨z, its, n, r, e⟩ := I.hok l _ hH
  exact ⟨z, its, n, r, r.length, e⟩
end
section
variable {X : Cx}

noncomputable def rAppend : V → List V → Hp → VK → Prop := fun x vs H Q => ∃ l xs y, x = .ref l ∧ vs = [y] ∧ H l = some (.lst xs) ∧ xs.length < sizeLine ∧ Q .non (upd H l (.lst (xs ++ [y])))
theorem mt_append : MtM X "list.append" rAppend := by
  intro pins s σ H x vs v us Q I rx rv h
  obtain ⟨l, xs, y, rfl, rfl, hH, hz, q⟩ := h
  cases rx
  obtain ⟨u, rfl, ru⟩ := rv.one
  obtain ⟨z, its, n, r, hl, e⟩ := I.lstM hH
  refine call_meets F.slot_list_append ⟨_, e, rfl⟩ F.entry_list_append (F.args_list_append_2 _ _) (PySem.list_append l its.toArray n u (by rw [List.size_toArray]; omega)) ⟨e, ?_⟩
  refine ⟨.non, _, I.lset (its' := its ++ [u]) hH e (by simp) (r.append (.cons ru .nil)) ?_, rfl, q⟩
  rw [List.length_append, List.length_singleton]
  omega
noncomputable def rReverse : V → List V → Hp → VK → Prop := fun x vs H Q => ∃ l xs, x = .ref l ∧ vs = [] ∧ H l = some (.lst xs) ∧ Q .non (upd H l (.lst xs.reverse))
theorem mt_reverse : MtM X "list.reverse" rReverse := by
  intro pins s σ H x vs v us Q I rx rv h
  obtain ⟨l, xs, rfl, rfl, hH, q⟩ := h
  cases rx
  have hus := rv.zero
  subst hus
  obtain ⟨z, its, n, r, hl, e⟩ := I.lstM hH
  refine call_meets F.slot_list_reverse ⟨_, e, rfl⟩ F.entry_list_reverse (F.args_list_reverse_1 _) (AutoSeq1.list_reverse_list_0 l its.toArray n (by rw [List.size_toArray]; omega)) ⟨e, ?_⟩
  refine ⟨.non, _, I.lset (its' := its.reverse) hH e (by simp) r.reverse ?_, rfl, q⟩
  rw [List.length_reverse]
  omega

noncomputable def rCat : R2 := fun x y H Q => ∃ l b xs zs, x = .ref l ∧ y = .ref b ∧ H l = some (.lst xs) ∧ H b = some (.lst zs) ∧ xs.length + zs.length ≤ sizeLine ∧ ∀ p, H p = none → Q (.ref p) (upd H p (.lst (xs ++ zs)))
theorem op_cat : OpR X (binaryOp .Add) rCat := by
  intro pins s σ H x y v u Q I rx ry h
  obtain ⟨l, b, xs, zs, rfl, rfl, hH, hB, hz, q⟩ := h
  cases rx
  cases ry
  obtain ⟨z, its, n, r, hl, e⟩ := I.lstM hH
  obtain ⟨z2, its2, n2, r2, hl2, e2⟩ := I.lstM hB
  refine PySem.P.add_list e e2 ?_ (by rw [List.size_toArray, List.size_toArray]; omega)
  have ea : its.toArray ++ its2.toArray = (its ++ its2).toArray := by simp
  rw [ea]
  exact ⟨.ref _, _, I.lnew (t' := s.toks) (r.append r2) (by rw [List.length_append]; omega), rfl, q _ I.fresh⟩

end

section
variable {prog : Program} {w : World} {A : Around} {E : Value → Shared → Prop} {s : Shared}
end
section
variable {X : Cx}
end
end L2
namespace Att
open PySem PySem.W PySem.Calls PyProof.Rows

theorem ints_of_wellAll {P : Params} {h : Heap} : ∀ (ns : List Int) (vs : List Value), WellAll P h vs (ns.map WData.int) → IntsAre vs ns := by
  intro ns
  induction ns with
  | nil =>
    intro vs w
    rw [List.map_nil] at w
    cases w
    exact .nil
  | cons n ns ih =>
    intro vs w
    rw [List.map_cons] at w
    cases w with
    | cons a b =>
      cases a
      exact .cons _ _ (ih _ b)
theorem script_of {l : OpenLaw} {n : Nat} (hn : l.most = some n) {P : Params} {h : Heap} {args : List WData} {vals : List Value}
    (hpre : l.row.toRowW.claim.pre args = true) (hwl : WellAll P h vals args) :
    ∃ a vs ns, vals = [Value.ref a] ∧ args = [WData.list (ns.map WData.int)] ∧ h.get? a = some { cls := .type "list", data := .seq vs.toArray } ∧ IntsAre vs ns ∧ ns.length ≤ n := by
  have hsh : WShape.hasAll [] args [.list .int] = true := (pre_splitW hpre).1
  have hc : l.pre.holds [] { args := args } = true := (pre_splitW hpre).2
  obtain ⟨d, r, rfl, h1, h2⟩ := hasAllW_cons hsh
  obtain rfl := hasAllW_nil h2
  obtain ⟨xs, rfl, h3⟩ := hasW_list h1
  obtain ⟨ns, rfl⟩ := items_int h3
  have hlen : ns.length ≤ n := by
    unfold OpenLaw.pre at hc
    have h4 : (WTm.not (.lt (.lit (.int (n : Int))) (.len (.arg 0)))).holds [] { args := [.list (ns.map .int)] } = true := by
      have h4 := (holds_andW hc).1
      rw [hn] at h4
      exact h4
    have h5 := condW_of h4 (w_not (w_lt w_lit (w_len_list (w_arg rfl))))
    rw [List.length_map] at h5
    refine Nat.le_of_not_lt fun q => ?_
    have q' : (n : Int) < ((ns.length : Nat) : Int) := by omega
    first
      | (rw [decide_eq_true q'] at h5; exact absurd h5 (by decide))
      | (simp at h5; omega)
  cases hwl with
  | cons w1 w2 =>
    cases w2
    cases w1 with
    | list ho hall => exact ⟨_, _, ns, rfl, rfl, ho, ints_of_wellAll ns _ hall, hlen⟩
theorem post_true (l : OpenLaw) (args : List WData) : l.row.toRowW.claim.post args (.bool true) args = true :=
  postW_of (r := l.row.toRowW) (X := (true == true))
    (show WShape.has [] (.bool true) .bool = true by first | rfl | decide | simp [WShape.has, WShape.arms, WShape.armsAll])
    (show (WTm.eq .res (.lit (.bool true))).value [] { args := args, res := some (.bool true), after := args } = some (.bool (true == true)) from w_eq_bool (w_res rfl) w_lit) rfl

theorem attach_call {l : OpenLaw} {n : Nat} {q : Program} {loose : List Str} {XP : (Str → Option Value) → Heap → Prop} {YP : World → Heap → Prop} {d : DefRec}
    (hn : l.most = some n) (hdf : d.params.defaults = [])
    (call : ∀ (w : World) (s₀ s₁ : Shared) (mg mb : Str → Option Value) (fa : Addr) (o : Obj) (pm cd doc : Value) (a : Addr) (vs : List Value) (ns : List Int),
      Ground q loose [] XP w s₀ mg mb s₁.heap → YP w s₁.heap →
      s₁.heap.get? fa = some o → o.data = .func (docDef d.name d.params d.body d.scope pm cd doc) → s₁.heap.CodeRec cd d.name → mg d.name = some (.ref fa) →
      s₁.heap.get? a = some { cls := .type "list", data := .seq vs.toArray } → IntsAre vs ns → ns.length ≤ n → s₁.gens = #[] →
      codeAny (model l.prog w) callerA (.call (.ref fa) ⟨[.ref a], []⟩) (fun r s' => r = .ok (.ret (.bool true)) ∧ OldK s₁.heap s'.heap ∧ s'.os = s₁.os ∧ AllBare s'.gens) s₁) :
    WalkO q loose XP YP l.row.toRowW d [] (fun f vs => PySem.call f vs) := by
  intro w s₀ s₁ mg mb G Y fa o pm cd doc dV kV ho hd hcd hD hmg hg args vals as hpre hlay hrd hwl hlo
  obtain rfl : dV = .none := Dflts.none hD hdf
  obtain rfl : kV = .none := Dflts.noKw hD
  obtain ⟨a, vs, ns, rfl, rfl, hobj, hints, hlen⟩ := script_of hn hpre hwl
  refine enter_call (codeAny_mono (call w s₀ s₁ mg mb fa o pm cd doc a vs ns G Y ho (fd_plain hd) hcd hmg hobj hints hlen hg) fun r s' hq => ?_)
  obtain ⟨rfl, h2, h3, h4⟩ := hq
  exact ⟨.inl ⟨.bool true, .bool true, [], rfl, fun _ => rfl, .bool true, post_true l _, fun _ => ⟨List.Pairwise.nil, fun _ hm => (nomatch hm)⟩⟩, h2, h3, h4⟩

section
variable {prog : Program} {w : World} {A : Around} {E : Value → Shared → Prop} {s : Shared} {K : Frag}

noncomputable def ledger (h : Heap) (L d : Addr) : List (Addr × Obj) := (List.range h.objs.size).filterMap fun a => if a = L ∨ a = d then none else (h.get? a).map fun o => (a, o)
end
end Att
namespace L2
open PySem PySem.Spec PyProof.Rows
theorem vals_ints : ∀ {vs : List Value} {ns : List Int}, IntsAre vs ns → Vals (ns.map V.int) vs
  | _, _, .nil => .nil
  | _, _, .cons n t h => .cons ⟨t, rfl⟩ (vals_ints h)
noncomputable def Only (H : Hp) : Prop := ∀ b, H b = none ∨ ∃ o xs, H b = some (.frz o (.lst xs))
theorem law_call {P : Program} {w : World} {K : PySem.W.Frag} {mg mb : Str → Option Value} {CX : CXT} {k : Nat} {fa a : Addr} {fd : FuncData} {x : Str} {sp : Sp} {s₁ : Shared} {vs : List Value} {ns : List Int}
    (KX : K.In s₁.heap) (hns : s₁.heap.Ns mainGlobals mg) (hb : s₁.heap.Ns builtinsNs mb) (hbb : ∀ x : Str, x ≠ "__name__" → mb x = bootBuiltins x) (hlim : s₁.heap.NoLimit) (hg : s₁.gens = #[])
    (ha : s₁.heap.get? a = some { cls := .type "list", data := .seq vs.toArray }) (hi : IntsAre vs ns) (hl : ns.length ≤ sizeLine) (hr : Room k callerA)
    (F : ∀ base : Heap, K.In base → base.Ns mainGlobals mg → FnOk P w K mg base CX k fa fd [x] sp) (hbind : ∀ (s : Shared) (u : Value), BindsTo s fd ⟨[u], []⟩ [(x, u)])
    (hsp : ∀ H : Hp, Only H → SqL K H a (ns.map V.int) → sp [.ref a] H (fun v _ => v = .bl true) fun _ _ _ => False)
    (hCX : ∀ H e s', CX [] H s₁ (fun _ _ _ => False) e s' → False) :
    codeAny (model P w) callerA (.call (.ref fa) ⟨[.ref a], []⟩) (fun r s' => r = .ok (.ret (.bool true)) ∧ OldK s₁.heap s'.heap ∧ s'.os = s₁.os ∧ AllBare s'.gens) s₁ := by
  have rv := vals_ints hi
  have lenV := hi.length
  -- from an abstract heap in which nothing but the script may be tracked
  have core : ∀ H : Hp, Only H → SqL K H a (ns.map V.int) → HOk P w H s₁.heap → (∀ b, H b ≠ none → b = a) → (H a ≠ none → K.lookup a = none) →
      codeAny (model P w) callerA (.call (.ref fa) ⟨[.ref a], []⟩) (fun r s' => r = .ok (.ret (.bool true)) ∧ OldK s₁.heap s'.heap ∧ s'.os = s₁.os ∧ AllBare s'.gens) s₁ := by
    intro H hO hS hok hA hK
    have base_of : ∀ {b : Addr} {o : Obj}, s₁.heap.get? b = some o → H b = none → (hidT s₁.heap H).get? b = some o := fun e n => hidT_get e n
    have noA : ∀ {b : Addr} {o : Obj} {es : Array DictEntry} {ep : Nat}, s₁.heap.get? b = some o → o.data = .dict es ep → H b = none := fun {b o es ep} e d => by
      cases q : H b with
      | none => rfl
      | some u =>
        have e' : b = a := hA b (by rw [q]; simp)
        subst e'
        rw [ha] at e; cases e
        have d' : Data.seq vs.toArray _ = Data.dict es ep := d
        cases d'
    have nsK : ∀ {b : Addr} {m : Str → Option Value}, s₁.heap.Ns b m → (hidT s₁.heap H).Ns b m := fun {b m} ⟨o, es, ep, e, d, r⟩ => ⟨o, es, ep, base_of e (noA e d), d, r⟩
    have hKb : K.In (hidT s₁.heap H) := fun b o e => base_of (KX b o e) (by
      cases q : H b with
      | none => rfl
      | some u =>
        have e' : b = a := hA b (by rw [q]; simp)
        subst e'
        rw [hK (by rw [q]; simp)] at e; cases e)
    have hM : Mod K mg (hidT s₁.heap H) := ⟨hKb, nsK hns, ⟨mb, nsK hb, hbb⟩, let ⟨mc, h1, h2⟩ := hlim; ⟨mc, nsK h1, h2⟩⟩
    have e0 : Env0 P w K mg (hidT s₁.heap H) callerA [] s₁ H := ⟨rfl, hM, fun b o e => of_hidT e, Nat.le_of_eq (hidT_size _ _), trivial, fun b hb => absurd (show b ∈ ([] : List Addr) from hb) (by simp), hok, .of_eq hg⟩
    refine codeAny_mono ((F _ hKb (nsK hns)).run callerA [] s₁ H ⟨[.ref a], []⟩ [.ref a] [.ref a] _ _ hr e0 (hbind s₁ (.ref a)) (.cons rfl .nil) (hsp H hO hS)) fun r s' h => ?_
    cases r with
    | error e => exact (hCX H e s' h).elim
    | ok fl =>
      cases fl with
      | next => exact False.elim h
      | brk => exact False.elim h
      | cont => exact False.elim h
      | ret u =>
        obtain ⟨v, H', os, bare, un, hok', r', q⟩ := h
        have q' : v = .bl true := q
        subst q'
        obtain rfl : u = Value.bool true := r'
        refine ⟨rfl, OldK.of_keep fun b o e => ?_, os, bare⟩
        cases q : H b with
        | none => exact un.keep b o e q (by intro z; exact absurd (show b ∈ ([] : List Addr) from z) (by simp)) (by simp)
        | some u =>
          rcases hO b with z | ⟨ob, xs, z⟩
          · rw [q] at z; cases z
          · have z2 := un.frzs b ob _ z
            obtain ⟨e1, _⟩ := hok b _ z
            obtain ⟨e2, _⟩ := hok' b _ z2
            rw [e] at e1; cases e1
            exact e2
  cases hk : K.lookup a with
  | some o =>
    -- the script is one of the module's own objects
    have e := KX a o hk
    rw [ha] at e
    cases e
    refine core (fun _ => none) (fun _ => .inl rfl) (.inr ⟨_, vs.toArray, _, hk, rfl, rfl, rfl, by rw [List.size_toArray, lenV]; exact hl, by simpa using rv⟩) (fun b u z => by have z' : (none : Option HO) = some u := z; cases z') (fun b z => absurd rfl z) fun z => absurd rfl z
  | none =>
    refine core (fun b => if b = a then some (.frz { cls := .type "list", data := .seq vs.toArray } (.lst (ns.map V.int))) else none) (fun b => ?_) (.inl (.inr ⟨{ cls := .type "list", data := .seq vs.toArray }, if_pos rfl⟩)) (fun b u z => ?_) (fun b z => ?_) fun _ => hk
    · by_cases hb : b = a
      · exact .inr ⟨_, _, if_pos hb⟩
      · exact .inl (if_neg hb)
    · by_cases hb : b = a
      · have z' := (if_pos hb).symm.trans z
        cases z'
        subst hb
        exact ⟨ha, by rw [List.length_map]; exact hl, vs, _, rv, ha⟩
      · have z' := (if_neg hb).symm.trans z
        cases z'
    · by_cases hb : b = a
      · exact hb
      · exact absurd (if_neg hb) z
end L2
namespace L2
open PySem PySem.Spec PyProof.Rows
theorem walk_of {l : PySem.W.OpenLaw} {n k : Nat} {q : Program} {loose : List Str} {XP : (Str → Option Value) → Heap → Prop} {YP : World → Heap → Prop} {d : DefRec} {K : Params → PySem.W.Frag} {CX : World → CXT} {sp : World → Sp} {x : Str}
    (hn : l.most = some n) (hn2 : n ≤ sizeLine) (hdf : d.params.defaults = []) (hr : Room k callerA)
    (hY : ∀ (w : World) (h : Heap), YP w h → (K w.params).In h)
    (F : ∀ (w : World) (mg : Str → Option Value) (fa : Addr) (h : Heap), (K w.params).In h → h.Ns mainGlobals mg → mg d.name = some (.ref fa) →
      ∃ fd : FuncData, (∀ (s : Shared) (u : Value), BindsTo s fd ⟨[u], []⟩ [(x, u)]) ∧
        ∀ base : Heap, (K w.params).In base → base.Ns mainGlobals mg → FnOk l.prog w (K w.params) mg base (CX w) k fa fd [x] (sp w))
    (hsp : ∀ (w : World) (H : Hp) (a : Addr) (ns : List Int), ns.length ≤ n → Only H → SqL (K w.params) H a (ns.map V.int) → sp w [.ref a] H (fun v _ => v = .bl true) fun _ _ _ => False)
    (hCX : ∀ (w : World) (H : Hp) (s : Shared) (e : Value) (s' : Shared), CX w [] H s (fun _ _ _ => False) e s' → False) :
    PySem.W.WalkO q loose XP YP l.row.toRowW d [] (fun f vs => PySem.call f vs) := by
  refine Att.attach_call hn hdf fun w s₀ s₁ mg mb fa o pm cd doc a vs ns G Y ho hd hcd hmg hobj hints hlen hg => ?_
  have KX := hY w _ Y
  obtain ⟨fd, hb, hF⟩ := F w mg fa _ KX G.T.g hmg
  exact law_call KX G.T.g G.T.b G.T.builtins G.T.nolimit hg hobj hints (Nat.le_trans hlen hn2) hr hF hb (fun H hO hS => hsp w H a ns hlen hO hS) fun H e s' => hCX w H s₁ e s'
end L2
/- THE LAST THEOREM (shape; LID, My.* are yours):
   My.Adr: a structure of the addresses that your layer names (classes, functions); My.Txt K t: a structure (Prop) of the equations over K;
   My.txt_mk : {K} {implicit addresses ..} (e1 : nsIn K mainGlobals "law" = some (some (.ref f))) (e2 : K.lookup f = some ⟨oc, od, .func (fnOf "law" "law" params body scope dV kV doc pm an cdv ct), sl⟩) (e3 : codeIn K cdv "law" = true) .. : ∃ t, My.Txt K t
(the tactic k_is has no namespace: write k_is) -/

namespace L2
open PySem PySem.Spec PyProof.Rows

noncomputable def inClass (s : Stmt) (j : Nat) : Stmt := match s with
  | .ClassDef _ _ _ body _ _ _ _ _ _ _ => body.getD j (.Pass ⟨0, 0, 0, 0⟩)
  | _ => .Pass ⟨0, 0, 0, 0⟩
noncomputable def defArgs (s : Stmt) : Arguments := match s with
  | .FunctionDef _ a _ _ _ _ _ _ _ _ => a
  | _ => { posonlyargs := [], args := [], vararg := none, kwonlyargs := [], kw_defaults := [], kwarg := none, defaults := [] }
noncomputable def defBody (s : Stmt) : List Stmt := match s with
  | .FunctionDef _ _ b _ _ _ _ _ _ _ => b
  | _ => []
noncomputable def defScope (s : Stmt) : Scope := match s with
  | .FunctionDef _ _ _ _ _ _ sc _ _ _ => sc
  | _ => { kind := .function, names := [], isGenerator := false, isCoroutine := false }

noncomputable abbrev CX0 : CXT := fun _ _ _ _ _ _ => False
noncomputable abbrev E0 : XK := fun _ _ _ => False
theorem pass0 {X : Cx} : Passes CX0 X E0 := fun _ _ _ _ _ _ _ h => h.elim

structure Fun (K : PySem.W.Frag) (x qual : Str) (st : Stmt) (f : Addr) (fd : FuncData) : Prop where
  ex : ∃ (oc : Value) (od : Option Addr) (kV doc pm : Value) (an : Option Addr) (cdv ct : Value) (osl : Array (Option Value)),
    fd = PySem.W.fnOf x qual (defArgs st) (defBody st) (defScope st) .none kV doc pm an cdv ct ∧ K.lookup f = some ⟨oc, od, .func fd, osl⟩ ∧ PySem.W.codeIn K cdv qual = true
  kp : PySem.W.keepIn K (.ref f) = true
section
variable {P : Program} {w : World} {K : PySem.W.Frag} {mg : Str → Option Value} {base : Heap}
theorem Fun.ok {x qual : Str} {st : Stmt} {f : Addr} {fd : FuncData} {N ps : List Str} {k : Nat} {sp : Sp} (F : Fun K x qual st f fd) (S : FnScope N ps (defScope st)) (len : ∀ vs H Q E, sp vs H Q E → vs.length = ps.length)
    (hbody : ∀ (cdv : Value) (A : Around) (outer : List Env) (s : Shared) (H : Hp) (vs : List V) (Q : VK) (E : XK), Room k (A.deeper (envOfC qual (defScope st) s.heap.objs.size f cdv)) → sp vs H Q E →
      ∃ t, PSs (cxOf CX0 P w K mg base N qual (defScope st) f cdv A outer s H E).nox (defBody st) t ∧ t { nx := fun _ H' => Q .non H', rt := Q } (start N vs) H) : FnOk P w K mg base CX0 (k + 1) f fd ps sp := by
  obtain ⟨oc, od, kV, doc, pm, an, cdv, ct, osl, rfl, lk, hcd⟩ := F.ex
  refine fn_of lk hcd S len fun A outer s H vs Q E hr hsp => ?_
  obtain ⟨t, h, q⟩ := hbody cdv A outer s H vs Q E hr hsp
  exact ⟨t, h.nox, q⟩
theorem Fun.binds {x qual : Str} {st : Stmt} {f : Addr} {fd : FuncData} {ps : List Str} (F : Fun K x qual st f fd)
    (h : ∀ (kV doc pm : Value) (an : Option Addr) (cdv ct : Value) (us : List Value), us.length = ps.length → bindArgs (PySem.W.fnOf x qual (defArgs st) (defBody st) (defScope st) .none kV doc pm an cdv ct) ⟨us, []⟩ = pure (ps.zip us)) : Binds K fd ps [] := by
  obtain ⟨oc, od, kV, doc, pm, an, cdv, ct, osl, rfl, lk, hcd⟩ := F.ex
  exact .all (h kV doc pm an cdv ct)
theorem fun_mk {x qual : Str} {st : Stmt} {f : Addr} {oc : Value} {od an : Option Addr} {osl : Array (Option Value)} {kV doc pm cdv ct : Value} (l : K.lookup f = some ⟨oc, od, .func (PySem.W.fnOf x qual (defArgs st) (defBody st) (defScope st) .none kV doc pm an cdv ct), osl⟩)
    (c : PySem.W.codeIn K cdv qual = true) (k : PySem.W.keepIn K (.ref f) = true) : Fun K x qual st f (PySem.W.fnOf x qual (defArgs st) (defBody st) (defScope st) .none kV doc pm an cdv ct) := ⟨⟨oc, od, kV, doc, pm, an, cdv, ct, osl, rfl, l, c⟩, k⟩
end
theorem hu_of {A : Around} {k : Nat} (hr : Room k A) : A.units + 1 < cLine := Nat.lt_of_le_of_lt (Nat.add_le_add_left (by decide : 1 ≤ 64) _) hr.units

section
variable {X : Cx}
theorem pv (i : Nat) {x : Str} {pos : Pos} (hN : X.N[i]? = some x := by rfl) (hv : Vis X.env.scope x := by first | exact Or.inl rfl | exact Or.inr (Or.inl rfl) | exact Or.inr (Or.inr rfl)) (hd : (x == ("__debug__" : Str)) = false := by decide)
    (hcd : (x == ("__classdict__" : Str)) = false := by decide) : PE X (.Name x pos) (tVar i) := pe_var hN hv hd hcd
end

theorem iteF {A B : Prop} (h : B) : if false = true then A else B := by
  rw [if_neg Bool.false_ne_true]
  exact h
theorem iteT {A B : Prop} (h : A) : if true = true then A else B := by
  rw [if_pos rfl]
  exact h
theorem iteNS {c A B : Prop} [Decidable c] (hc : c) (h : B) : if (!decide c) = true then A else B := by
  rw [decide_eq_true hc]
  exact iteF h

noncomputable def Same (H H' : Hp) : Prop := ∀ b o, H b = some o → H' b = some o
theorem Same.refl (H : Hp) : Same H H := fun _ _ h => h
theorem Same.trans {H H1 H2 : Hp} (a : Same H H1) (b : Same H1 H2) : Same H H2 := fun c o h => b c o (a c o h)
theorem Same.free {H H' : Hp} (e : Same H H') {l : Addr} (h : H' l = Option.none) : H l = Option.none := by
  cases q : H l with
  | none => rfl
  | some o =>
    rw [e l o q] at h
    cases h
theorem Same.seq {K : PySem.W.Frag} {H H' : Hp} {a : Addr} {xs : List V} (e : Same H H') (h : SqL K H a xs) : SqL K H' a xs := by
  rcases h with (h | ⟨o, h⟩) | h
  · exact .inl (.inl (e _ _ h))
  · exact .inl (.inr ⟨o, e _ _ h⟩)
  · exact .inr h
end L2
set_option Elab.async false
set_option linter.all false
set_option maxRecDepth 100000
namespace L2
open PySem PySem.Spec PyProof.Rows

theorem closure_loop {env : Env} : ∀ (l : List (Str × NameKind)) (acc : List (Str × Addr)), (∀ y ∈ l, y.2 = .free → ∃ c, env.cells.lookup y.1 = some c) → (∀ y c, acc.lookup y = some c → env.cells.lookup y = some c) →
    ∃ cl, (forIn l acc fun (x : Str × NameKind) (r : List (Str × Addr)) => if (x.2 == NameKind.free) = true then (do let a ← cellOf env x.1; pure (ForInStep.yield ((x.1, a) :: r))) else (pure (ForInStep.yield r) : Sem (ForInStep (List (Str × Addr))))) = (pure cl : Sem (List (Str × Addr))) ∧
      (∀ y c, cl.lookup y = some c → env.cells.lookup y = some c) ∧ (∀ y, ((y, NameKind.free) ∈ l ∨ (acc.lookup y).isSome = true) → ∃ c, cl.lookup y = some c)
  | [], acc, _, ha => ⟨acc, rfl, ha, fun y h => by
      rcases h with h | h
      · cases h
      · exact Option.isSome_iff_exists.mp h⟩
  | (n, k) :: r, acc, h, ha => by
    by_cases hk : k = .free
    · subst hk
      obtain ⟨c, hc⟩ := h (n, .free) List.mem_cons_self rfl
      obtain ⟨cl, e, h1, h2⟩ := closure_loop r ((n, c) :: acc) (fun y hy => h y (List.mem_cons_of_mem _ hy)) (fun y d hd => by
        rw [List.lookup_cons] at hd
        by_cases hy : y = n
        · subst hy; simp at hd; subst hd; exact hc
        · rw [beq_eq_false_iff_ne.mpr hy] at hd; exact ha y d hd)
      refine ⟨cl, ?_, h1, fun y hy => h2 y ?_⟩
      · rw [List.forIn_cons]
        have : cellOf env n = pure c := by unfold cellOf; rw [hc]
        simp only [this]
        exact e
      · rcases hy with hy | hy
        · rcases List.mem_cons.mp hy with z | z
          · have : y = n := by injection z
            right; simp [List.lookup_cons, this]
          · exact .inl z
        · right
          rw [List.lookup_cons]
          split
          · rfl
          · exact hy
    · obtain ⟨cl, e, h1, h2⟩ := closure_loop r acc (fun y hy => h y (List.mem_cons_of_mem _ hy)) ha
      refine ⟨cl, ?_, h1, fun y hy => h2 y ?_⟩
      · rw [List.forIn_cons]
        have hb : (k == NameKind.free) = false := by simpa using hk
        simp only [hb]
        exact e
      · rcases hy with hy | hy
        · rcases List.mem_cons.mp hy with z | z
          · injection z with _ z2; exact absurd z2.symm hk
          · exact .inl z
        · exact .inr hy
theorem closure_ok {env : Env} {scope : Scope} (h : ∀ y ∈ scope.names, y.2 = .free → ∃ c, env.cells.lookup y.1 = some c) :
    ∃ cl, closureFor scope env = pure cl ∧ (∀ y c, cl.lookup y = some c → env.cells.lookup y = some c) ∧ ∀ y, (y, NameKind.free) ∈ scope.names → ∃ c, cl.lookup y = some c := by
  obtain ⟨cl, e, h1, h2⟩ := closure_loop scope.names [] h (fun y c z => by cases z)
  refine ⟨cl, ?_, h1, fun y hy => h2 y (.inl hy)⟩
  unfold closureFor
  exact (congrArg (fun (m : Sem (List (Str × Addr))) => m >>= fun r => pure r) e).trans rfl
end L2
set_option Elab.async false
set_option linter.all false
set_option maxRecDepth 100000
namespace L2
open PySem PySem.Spec PyProof.Rows
theorem lookup_map_back {f : Str × NameKind → Str × NameKind} (h1 : ∀ p, (f p).1 = p.1) : ∀ {names : List (Str × NameKind)} {y : Str} {k : NameKind}, (names.map f).lookup y = some k → ∃ k0, (y, k0) ∈ names ∧ (f (y, k0)).2 = k
  | [], _, _, h => by cases h
  | p :: r, y, k, h => by
    rw [List.map_cons] at h
    generalize hq : f p = q at h
    obtain ⟨q1, q2⟩ := q
    rw [List.lookup_cons] at h
    have e1 : q1 = p.1 := by have := h1 p; rw [hq] at this; exact this
    by_cases hy : y = q1
    · have hb : (y == q1) = true := by simp [hy]
      rw [hb] at h
      have h' : q2 = k := Option.some.inj h
      refine ⟨p.2, ?_, ?_⟩
      · rw [hy, e1]; exact List.mem_cons_self
      · rw [hy, e1]
        have : f (p.1, p.2) = (q1, q2) := hq
        rw [this]; exact h'
    · rw [beq_eq_false_iff_ne.mpr hy] at h
      obtain ⟨k0, m, e⟩ := lookup_map_back h1 (names := r) h
      exact ⟨k0, List.mem_cons_of_mem _ m, e⟩
theorem lookup_map_fwd {f : Str × NameKind → Str × NameKind} (h1 : ∀ p, (f p).1 = p.1) : ∀ {names : List (Str × NameKind)} {y : Str} {k : NameKind}, names.lookup y = some k → (names.map f).lookup y = some (f (y, k)).2
  | [], _, _, h => by cases h
  | p :: r, y, k, h => by
    rw [List.map_cons]
    obtain ⟨p1, p2⟩ := p
    have e1 := h1 (p1, p2)
    generalize hq : f (p1, p2) = q at e1 ⊢
    obtain ⟨q1, q2⟩ := q
    have e1 : q1 = p1 := e1
    subst e1
    rw [List.lookup_cons] at h ⊢
    by_cases hy : y = q1
    · have hb : (y == q1) = true := by simp [hy]
      rw [hb] at h ⊢
      have h' : p2 = k := Option.some.inj h
      subst h'
      subst hy
      show some q2 = _
      rw [hq]
    · rw [beq_eq_false_iff_ne.mpr hy] at h ⊢
      exact lookup_map_fwd h1 h
noncomputable def rl (env : Env) (p : Str × NameKind) : Str × NameKind := if (p.2 == NameKind.free && env.scope.kind == .function && env.kindOf p.1 == some .cell) then (p.1, NameKind.cell) else (p.1, p.2)
theorem rl_fst (env : Env) (p : Str × NameKind) : (rl env p).1 = p.1 := by unfold rl; split <;> rfl
theorem rl_free (env : Env) (y : Str) : (rl env (y, .free)).2 = .cell ∨ (rl env (y, .free)).2 = .free := by
  unfold rl
  split
  · exact .inl rfl
  · exact .inr rfl
theorem rl_not (env : Env) (y : Str) (k : NameKind) (h : k ≠ .free) : (rl env (y, k)).2 = k := by
  unfold rl
  have hb : (k == NameKind.free) = false := by simpa using h
  simp [hb]
theorem relabel_names (scope : Scope) (env : Env) : (relabel scope env).names = scope.names.map (rl env) := rfl
theorem relabel_back {env : Env} {scope : Scope} {y : Str} (hc : ∀ z ∈ scope.names, z.2 ≠ .cell) (h : (relabel scope env).names.lookup y = some .cell ∨ (relabel scope env).names.lookup y = some .free) : (y, NameKind.free) ∈ scope.names := by
  rw [relabel_names] at h
  have go : ∀ k, (k = .cell ∨ k = .free) → (scope.names.map (rl env)).lookup y = some k → (y, NameKind.free) ∈ scope.names := fun k hk q => by
    obtain ⟨k0, m, e⟩ := lookup_map_back (rl_fst env) q
    by_cases hf : k0 = .free
    · rw [hf] at m; exact m
    · rw [rl_not env y k0 hf] at e
      rcases hk with z | z
      · exact absurd (e.trans z) (hc _ m)
      · exact absurd (e.trans z) hf
  rcases h with h | h
  · exact go _ (.inl rfl) h
  · exact go _ (.inr rfl) h
theorem relabel_free {env : Env} {scope : Scope} {y : Str} (h : scope.names.lookup y = some .free) : (relabel scope env).names.lookup y = some .cell ∨ (relabel scope env).names.lookup y = some .free := by
  rw [relabel_names, lookup_map_fwd (rl_fst env) h]
  rcases rl_free env y with z | z
  · exact .inl (congrArg some z)
  · exact .inr (congrArg some z)
noncomputable def blk (X : Cx) (N : List Str) (scope : Scope) (cl : List (Str × Addr)) (C : Addr) (s2 : Shared) (H2 : Hp) (fp : List Addr) : Cx where
  prog := X.prog
  w := X.w
  K := X.K
  mg := X.mg
  base := X.base
  A := X.A
  N := N
  s₀ := s2
  H₀ := H2
  env := compEnvC scope cl C X.env
  outer := X.stack
  stack := X.stack
  ex := fp
  fn := fun _ => false
  calm := X.calm
  pn := []
  xe := fun _ _ => False
structure CompScope (sc : Scope) (N : List Str) (x : Str) (fr : List Str) (ix : List Nat) (scope : Scope) : Prop where
  kind : scope.kind = .function
  nocell : ∀ y ∈ scope.names, y.2 ≠ .cell
  lcl : ∀ y ∈ scope.names, y.2 = .local → scope.names.lookup y.1 = some .local
  lx : scope.names.lookup x = some .local
  free : ∀ y ∈ scope.names, y.2 = .free → sc.names.lookup y.1 = some .cell ∨ sc.names.lookup y.1 = some .free
  at' : fr.map some = ix.map fun i => N[i]?
  frk : ∀ y ∈ fr, scope.names.lookup y = some .free ∧ (sc.names.lookup y = some .cell ∨ sc.names.lookup y = some .free)
  nd : (x :: fr).Nodup
noncomputable def cap (ix : List Nat) (σ : St) : St := ix.map fun i => (σ[i]?).join
section
variable {X : Cx} {pins : List (Addr × Obj)} {σ : St} {H : Hp} {s : Shared} {x : Str} {fr : List Str} {ix : List Nat} {scope : Scope} {cl : List (Str × Addr)} {fp : List Addr} {C D : Addr}
theorem blk_ok (S : CompScope X.env.scope X.N x fr ix scope) (I : Inv X pins σ H s) (hf : ∀ b ∈ fp, FpOk X pins H b) (hfo : ∀ b ∈ fp, b < s.heap.objs.size) (hC : s.heap.objs.size ≤ C)
    (h1 : ∀ y c, cl.lookup y = some c → X.env.cells.lookup y = some c) (h2 : ∀ y, (y, NameKind.free) ∈ scope.names → ∃ c, cl.lookup y = some c) : (blk X (x :: fr) scope cl C s H fp).Ok where
  mod := I.ok.mod
  kind := S.kind
  glob := I.ok.glob
  blt := I.ok.blt
  above := hC
  inj := fun y z c a b => I.ok.inj y z c (h1 y c a) (h1 z c b)
  has := fun y hy => h2 y (relabel_back (env := X.env) (scope := scope) S.nocell hy)
  cab := fun y c h _ => Bool.noConfusion (show false = true from h)
  hd := I.ok.hd
  frames := I.ok.frames
  stk := .inl rfl
  exf := fun b hb => ⟨fun z => absurd (hfo b hb) (by rw [z]; exact Nat.not_lt.mpr hC), fun y c e => (hf b hb).2.2.2.2.1 y c (h1 y c e)⟩
  bs := I.bs
  bsz := Nat.le_trans I.ok.bsz I.sz
  noex := fun b o e hb => by
    rcases (hf b hb).2.2.2.1 with z | z
    · exact I.ok.noex b o e z
    · exact absurd (Nat.lt_of_lt_of_le (Heap.lt_size e) (Nat.le_trans I.ok.bsz z)) (Nat.lt_irrefl _)
  exfs := fun b hb z => by
    rcases List.mem_cons.mp (I.stkSub b z) with e | e
    · exact (hf b hb).2.1 e
    · exact (hf b hb).2.2.1 e
  funs := I.stack
  frf := I.stkFree
theorem cap_len : (cap ix σ).length = ix.length := by unfold cap; rw [List.length_map]
theorem CompScope.len (S : CompScope X.env.scope X.N x fr ix scope) : fr.length = ix.length := by have := congrArg List.length S.at'; simpa using this
theorem blk_inv {s' : Shared} {pn : List (Addr × Obj)} {m : Str → Option Value} (S : CompScope X.env.scope X.N x fr ix scope) (I : Inv X pins σ H s) (hf : ∀ b ∈ fp, FpOk X pins H b) (hfo : ∀ b ∈ fp, b < s.heap.objs.size) (hC : s.heap.objs.size ≤ C)
    (h1 : ∀ y c, cl.lookup y = some c → X.env.cells.lookup y = some c) (h2 : ∀ y, (y, NameKind.free) ∈ scope.names → ∃ c, cl.lookup y = some c)
    (ho : s'.os = s.os) (hg : s'.gens = s.gens) (k : ∀ b o, s.heap.get? b = some o → s'.heap.get? b = some o) (hn : s'.heap.Ns C m)
    (hp : ∀ p ∈ pn, s'.heap.get? p.1 = some p.2 ∧ s.heap.objs.size ≤ p.1 ∧ p.1 ≠ C ∧ ∀ v, p.2.data ≠ .cell v) :
    Inv (blk X (x :: fr) scope cl C s H fp) pn (none :: cap ix σ) H s' := by
  obtain ⟨mX, hnX, hlX⟩ := I.loc
  refine ⟨blk_ok S I hf hfo hC h1 h2, ho, by rw [hg]; exact I.bare, Un.kept k, ⟨m, hn, fun i y v e1 e2 e3 => ?_⟩, fun y c e => ?_, I.hok.fresh hC, fun y c e => I.freeC y c (h1 y c e), fun p hp' => ?_, I.hok.kept k, by
    show (none :: cap ix σ).length = (x :: fr).length
    simp [cap_len, S.len]⟩
  · cases i with
    | zero => cases e2
    | succ j =>
      have e1' : fr[j]? = some y := e1
      have e2' : (cap ix σ)[j]? = some (some v) := e2
      obtain ⟨f1, f2⟩ := S.frk y (List.mem_of_getElem? e1')
      unfold cap at e2'
      rw [List.getElem?_map] at e2'
      cases ei : ix[j]? with
      | none => rw [ei] at e2'; cases e2'
      | some i =>
        rw [ei] at e2'
        have e3' : (σ[i]?).join = some v := Option.some.inj e2'
        have e4 : σ[i]? = some (some v) := by
          cases q : σ[i]? with
          | none => rw [q] at e3'; cases e3'
          | some w => rw [q] at e3'; have : w = some v := e3'; rw [this]
        have e5 : X.N[i]? = some y := by
          have := congrArg (fun l => l[j]?) S.at'
          simp only [List.getElem?_map, e1', ei] at this
          simpa using this.symm
        have vis : Vis X.env.scope y := by
          rcases f2 with z | z
          · exact .inr (.inl z)
          · exact .inr (.inr z)
        obtain ⟨u, r, l⟩ := hlX i y v e5 e4 vis
        refine ⟨u, r, .inr ⟨relabel_free f1, ?_⟩⟩
        rcases l with ⟨z, _⟩ | ⟨_, c, ec, hc⟩
        · rcases f2 with q | q
          · have q' := (show X.env.scope.names.lookup y = some .local from z).symm.trans q; cases q'
          · have q' := (show X.env.scope.names.lookup y = some .local from z).symm.trans q; cases q'
        · obtain ⟨c', hc'⟩ := h2 y (PySem.mem_of_lookup f1)
          have : c' = c := by have := h1 y c' hc'; rw [ec] at this; exact (Option.some.inj this).symm
          subst this
          refine ⟨c', hc', ?_⟩
          obtain ⟨o, ho', hd⟩ := hc
          exact ⟨o, k _ _ ho', hd⟩
  · obtain ⟨v, o, ho', hd⟩ := I.cell y c (h1 y c e)
    exact ⟨v, o, k _ _ ho', hd⟩
  · have hp'' : p ∈ pn := by simpa [blk] using hp'
    obtain ⟨q1, q2, q3, q4⟩ := hp p hp''
    refine ⟨q1, I.hok.fresh q2, q3, fun z => ?_, q4⟩
    obtain ⟨_, o, ho', _⟩ := I.stack.mem z
    exact absurd (Nat.lt_of_lt_of_le (Heap.lt_size ho') q2) (Nat.lt_irrefl _)
end
noncomputable def PIf (X : Cx) (ifs : List Expr) (t : TT) : Prop :=
  ∀ (pins : List (Addr × Obj)) (s : Shared) (σ : St) (H : Hp) (Q : Bool → Hp → Prop), Inv X pins σ H s → t σ H Q →
    wpAny (model X.prog X.w) X.A (forIn ifs true fun c r => if r = true then do let ok ← isTrue c X.env (eval c X.env); pure (ForInStep.yield ok) else pure (ForInStep.yield r)) (TP X pins σ Q) X.xe s
noncomputable def tYes : TT := fun _ H Q => Q true H
theorem pf_nil {X : Cx} : PIf X [] tYes := fun _ _ _ H _ I h => wpAny_tests_nil ⟨H, I, h⟩
theorem pf_one {X : Cx} {c : Expr} {t : TT} (h : PT X c t) : PIf X [c] t := fun pins s σ H Q I q => wpAny_tests_one (h pins s σ H Q I q)
noncomputable def wComp (J : It) (c : St) (tc : TT) (te : TE) (H1 : Hp) (fin : List V → Hp → Prop) : Prop :=
  ∃ W : Nat → Nat → List V → Hp → Prop, (∃ m, W 0 m [] H1) ∧ ∀ i m ys H, W i m ys H →
    (J.stop i H ∧ ys.length ≤ sizeLine ∧ fin ys H) ∨
    (J.go i H ∧ ys.length < sizeLine ∧ ∃ N : List V → Hp → Prop, (∀ ys' H', N ys' H' → ∃ m', m' < m ∧ W (i + 1) m' ys' H') ∧ ∀ x H', J.yld i H x H' → tc (some x :: c) H' fun b H2 => if b = true then te (some x :: c) H2 fun y H3 => N (ys ++ [y]) H3 else N ys H2)
noncomputable def tComp (ix : List Nat) (wi : TI) (tc : TT) (te : TE) : TE := fun σ H Q => wi σ H fun J H1 => wComp J (cap ix σ) tc te H1 fun ys H2 => ∀ l, H2 l = none → Q (.ref l) (upd H2 l (.lst ys))
theorem compLoop_own {prog : Program} {w : World} {A : Around} {R : Result → Shared → Prop} {s : Shared} {elt tg it0 : Expr} {tests : List Expr} {scope : Scope} {pos : Pos} {it acc : Value} {env : Env} (J : Nat → Shared → Prop)
    (turn : ∀ n s, J n s → wpAny (model prog w) A (pyNext it) (fun r s1 => match r with
      | none => R (.ok .next) s1
      | some v => wpAny (model prog w) A (letOwnedTupleGo tg it v) (fun _ s2 => wpAny (model prog w) A (assign tg env v) (fun _ s3 =>
          wpAny (model prog w) A (forIn tests true fun c r => if r = true then do let ok ← isTrue c env (eval c env); pure (ForInStep.yield ok) else pure (ForInStep.yield r)) (fun ok s4 =>
            if ok = true then wpAny (model prog w) A (eval elt env) (fun x s5 =>
              wpAny (model prog w) A (call (.builtin "list.append") [acc, x]) (fun _ s6 => ∃ m, m < n ∧ J m s6) (fun _ _ => False) s5) (fun _ _ => False) s4
            else ∃ m, m < n ∧ J m s4) (fun _ _ => False) s3) (fun _ _ => False) s2) (fun _ _ => False) s1) (fun _ _ => False) s)
    (n : Nat) (h : J n s) : codeAny (model prog w) A (.compLoop (.ListComp elt [⟨tg, it0, tests, 0⟩] scope pos) 0 it acc env) R s := by
  have up : ∀ {α : Type} {t : Sem α} {q q' : α → Shared → Prop} {E' : Value → Shared → Prop} {s : Shared}, wpAny (model prog w) A t q (fun _ _ => False) s → (∀ a s, q a s → q' a s) → wpAny (model prog w) A t q' E' s := fun h k => wpAny_mono h k fun _ _ z => False.elim z
  refine codeAny_loop rfl J (fun n s hJ => ?_) n h
  show wpAny _ A ((compTurn (.ListComp elt [⟨tg, it0, tests, 0⟩] scope pos) 0 it acc env).onRaise (fun x => do noteFrame x env; theTreesLotGoes x)) _ _ s
  refine wpAny_noted ?_
  rw [compTurn_list]
  refine wpAny_bind (wpAny_standAt (wpAny_bind (up (turn n s hJ) fun r s1 h1 => ?_)))
  cases r with
  | none => exact wpAny_pure h1
  | some v =>
    refine wpAny_bind (up h1 fun _ s2 h2 => wpAny_bind (up h2 fun _ s3 h3 => wpAny_bind (up h3 fun ok s4 h4 => ?_)))
    cases ok with
    | false => exact wpAny_pure ⟨rfl, h4⟩
    | true =>
      exact wpAny_bind (wpAny_bind (up h4 fun x s5 h5 => wpAny_bind (up h5 fun _ s6 h6 => wpAny_pure (wpAny_pure ⟨rfl, h6⟩))))
section
variable {X : Cx} {x : Str} {fr : List Str} {ix : List Nat} {scope : Scope} {elt iter : Expr} {ifs : List Expr} {px pos : Pos} {wi : TI} {tc : TT} {te : TE}
theorem comp_run {use : Option (Value → Sem Unit)} {Q : Value → Shared → Prop} {pins : List (Addr × Obj)} {s2 : Shared} {σ : St} {H2 : Hp} {it : Addr} {fp : List Addr} {tn : Nat → Heap → Prop} {J : It} {cl : List (Str × Addr)} (S : CompScope X.env.scope X.N x fr ix scope) (hc : X.calm = true)
    (hif : ∀ cl C s2 H2 fp, PIf (blk X (x :: fr) scope cl C s2 H2 fp) ifs tc) (he : ∀ cl C s2 H2 fp, PE (blk X (x :: fr) scope cl C s2 H2 fp) elt te)
    (h1 : ∀ y c, cl.lookup y = some c → X.env.cells.lookup y = some c) (h2 : ∀ y, (y, NameKind.free) ∈ scope.names → ∃ c, cl.lookup y = some c)
    (I2 : Inv X pins σ H2 s2) (T : Turn X.prog X.w X.K (.Name x px) J fp it tn) (st2 : tn 0 s2.heap) (f2 : ∀ b ∈ fp, FpOk X pins H2 b) {fin : List V → Hp → Prop} (wc : wComp J (cap ix σ) tc te H2 fin)
    (hQ : ∀ (D C : Addr) (ys : List V) (H' : Hp) (s' : Shared) (m : Str → Option Value), Inv X pins σ (upd H' D (.lst ys)) s' → H' D = none → s'.heap.Ns C m → D ≠ C → s2.heap.objs.size ≤ C → H' C = none → fin ys H' →
      compPost (model X.prog X.w) X.A X.xe use Q (.ref D) C (.ok .next) s') :
    wpAny (model X.prog X.w) X.A (newList []) (fun acc s₃ => wpAny (model X.prog X.w) X.A (newFunctionEnv scope X.env.globals cl [] X.env.qual none .none (some X.env)) (fun cenv s₄ =>
      codeAny (model X.prog X.w) X.A (.compStart (.ListComp elt [⟨.Name x px, iter, ifs, 0⟩] scope pos) 0 (.ref it) acc { cenv with scope := relabel scope X.env }) (compPost (model X.prog X.w) X.A X.xe use Q acc cenv.locals) s₄) X.xe s₃) X.xe s2 := by
  have hfo : ∀ b ∈ fp, b < s2.heap.objs.size := fun b hb => by
    obtain ⟨o, e, _⟩ := T.obj 0 _ st2 b hb
    exact Heap.lt_size e
  refine wpAny_newObj_type (wpAny_newFunctionEnv S.nocell (by intro y hy; simp at hy) (fun h₁ hns₁ hsb₁ => ?_) S.kind)
  dsimp only at hns₁ hsb₁ ⊢
  generalize hHp : s2.heap.push { cls := .type "list", dict := none, data := .seq ([] : List Value).toArray } = Hp2 at hns₁ hsb₁ ⊢
  have hCs : Hp2.objs.size = s2.heap.objs.size + 1 := by rw [← hHp, Heap.size_push]
  have hDC : s2.heap.objs.size ≠ Hp2.objs.size := by rw [hCs]; exact Nat.ne_of_lt (Nat.lt_succ_self _)
  have hCle : s2.heap.objs.size ≤ Hp2.objs.size := by rw [hCs]; exact Nat.le_succ _
  have below : ∀ b, b < s2.heap.objs.size → b ≠ Hp2.objs.size := fun b hb => by rw [hCs]; exact Nat.ne_of_lt (Nat.lt_succ_of_lt hb)
  have old : ∀ b o, s2.heap.get? b = some o → h₁.get? b = some o := fun b o e => hsb₁.extBut b o (below b (Heap.lt_size e)) (Heap.get?_push_of_some _ (hHp ▸ Heap.get?_push_of_some _ e))
  have hacc : h₁.get? s2.heap.objs.size = some { cls := .type "list", data := .seq ([] : List Value).toArray 0 } := hsb₁.extBut _ _ hDC (Heap.get?_push_of_some _ (hHp ▸ Heap.get?_push_size _ rfl))
  have st1 : tn 0 h₁ := T.keep 0 _ _ st2 fun b _ o e => old b o e
  have fpD : ∀ b ∈ fp, b ≠ s2.heap.objs.size := fun b hb => Nat.ne_of_lt (hfo b hb)
  generalize hD : s2.heap.objs.size = D at hacc hDC fpD ⊢
  have hDle : s2.heap.objs.size ≤ D := Nat.le_of_eq hD
  generalize hC : Hp2.objs.size = C at hns₁ hsb₁ hDC hCle ⊢
  have oldD : ∀ b o, s2.heap.get? b = some o → b ≠ D := fun b o e z => absurd (Heap.lt_size e) (by rw [z, ← hD]; exact Nat.lt_irrefl _)
  obtain ⟨W, ⟨m0, w0⟩, turn⟩ := wc
  have loop : ∀ s₃ : Shared, s₃ = { s2 with heap := h₁, toks := s2.toks + ([] : List (Str × Value)).length } →
      codeAny (model X.prog X.w) X.A (.compLoop (.ListComp elt [⟨.Name x px, iter, ifs, 0⟩] scope pos) 0 (.ref it) (.ref D) (compEnvC scope cl C X.env))
        (compPost (model X.prog X.w) X.A X.xe use Q (.ref D) C) s₃ := by
    rintro s₃ rfl
    have I0 : Inv (blk X (x :: fr) scope cl C s2 H2 fp) [(D, { cls := .type "list", data := .seq ([] : List Value).toArray 0 })] (none :: cap ix σ) H2 { s2 with heap := h₁, toks := s2.toks + ([] : List (Str × Value)).length } :=
      blk_inv S I2 f2 hfo hCle h1 h2 rfl rfl old hns₁ (fun p hp => by
        have e : p = (D, { cls := .type "list", data := .seq ([] : List Value).toArray 0 }) := by simpa using hp
        subst e
        exact ⟨hacc, hDle, hDC, fun v z => by cases z⟩)
    have stat : ∀ {its : Obj} {H' : Hp}, (∀ b ∈ fp, H' b = none) → ∀ b ∈ fp, FpOk (blk X (x :: fr) scope cl C s2 H2 fp) [(D, its)] H' b := fun {its H'} hn b hb => by
      refine ⟨hn b hb, fun z => ?_, fun z => (I0.ok.exfs b hb z), .inl hb, fun y c e => (I0.ok.exf b hb).2 y c e, fun p hp z => ?_⟩
      · exact (I0.ok.exf b hb).1 z
      · have e : p = (D, its) := by simpa [blk] using hp
        subst e
        exact fpD b hb (Eq.symm z)
    refine compLoop_own (env := compEnvC scope cl C X.env)
      (fun n s' => ∃ i ys its k v0 H', Vals ys its ∧ Inv (blk X (x :: fr) scope cl C s2 H2 fp) [(D, { cls := .type "list", data := .seq its.toArray k })] (v0 :: cap ix σ) H' s' ∧ tn i s'.heap ∧ (∀ b ∈ fp, H' b = none) ∧ W i n ys H') ?_ m0
      ⟨0, [], [], 0, none, H2, .nil, I0, st1, fun b hb => (f2 b hb).1, w0⟩
    rintro n s3 ⟨i, ys, its, k, v0, H3, rv, I3, st3, fr3, w3⟩
    rcases turn i n ys H3 w3 with ⟨stop, hz, hfin⟩ | ⟨go, hz, N, hN, step⟩
    · refine thn (T.done (blk X (x :: fr) scope cl C s2 H2 fp) rfl rfl rfl hc i _ s3 _ H3 _ I3 (stat fr3) st3 stop) fun r s4 ⟨hr, I4⟩ => ?_
      subst hr
      have pD := I4.pin (D, { cls := .type "list", data := .seq its.toArray k }) (by simp [blk])
      obtain ⟨mC, hnC, _⟩ := I4.loc
      have hH3D : H3 D = none := pD.2.1
      have hok' : HOk X.prog X.w (upd H3 D (.lst ys)) s4.heap := fun b u e => by
        by_cases hb : b = D
        · subst hb
          rw [upd_same] at e; cases e
          exact ⟨hz, its, k, rv, pD.1⟩
        · rw [upd_ne hb] at e
          exact (I4.hok b u e).stay (fun c v _ q => q) (fun c q => by rw [upd_ne (ne_of_none q hH3D)]; exact q) fun c xs q => by rw [upd_ne (ne_of_none q hH3D)]; exact q
      have b4 : Un (frs X.stack) fp H2 H3 s2.heap s4.heap := I4.base
      have un : Un (frs X.stack) fp H2 (upd H3 D (.lst ys)) s2.heap s4.heap :=
        ⟨b4.keep, b4.slot, fun b o q n hx => by
          rw [upd_ne (oldD b o q)]; exact b4.free b o q n hx, b4.there, fun b xs q => by rw [upd_ne (ne_of_none (b4.tups b xs q) hH3D)]; exact b4.tups b xs q,
          fun b o u q => by rw [upd_ne (ne_of_none (b4.frzs b o u q) hH3D)]; exact b4.frzs b o u q, fun b ps q => by
            obtain ⟨more, e⟩ := b4.tbls b ps q
            exact ⟨more, by rw [upd_ne (ne_of_none e hH3D)]; exact e⟩⟩
      have I5 : Inv X pins σ (upd H3 D (.lst ys)) s4 := I2.call' (ch := fp) I4.os un hok' I4.bare fun b hb => by
        obtain ⟨g0, g1, g2, g3, g4, g5⟩ := f2 b hb
        exact ⟨g3, g1, g4, g5⟩
      exact hQ D C ys H3 s4 mC I5 hH3D hnC hDC hCle I4.free hfin
    · refine thn (T.item (blk X (x :: fr) scope cl C s2 H2 fp) rfl rfl rfl hc i _ s3 _ H3 _ I3 (stat fr3) st3 go) fun r s4 ⟨u, hr, h4⟩ => ?_
      subst hr
      refine thn h4 fun _ s5 ⟨y, H5, I5, r5, y5, st5, fr5⟩ => ?_
      have I5' := I5.pinned (stat fr5) (T.obj _ _ st5)
      have pg : PG (blk X (x :: fr) scope cl C s2 H2 fp) (.Name x px) (gName 0) := pg_name S.nd rfl (.inl (lookup_relabel_local S.lx)) (.inr (lookup_relabel_local S.lx))
      refine thn (pg _ s5 _ H5 y u (fun σ6 H6 => σ6 = some y :: cap ix σ ∧ H6 = H5) I5' r5 ⟨rfl, rfl⟩) fun _ s6 ⟨σ6, H6, I6, e6, e6'⟩ => ?_
      subst e6 e6'
      refine thn (hif cl C s2 H2 fp _ s6 _ _ _ I6 (step y _ y5)) fun b s7 ⟨H7, I7, q7⟩ => ?_
      have again : ∀ {s8 : Shared} {H8 : Hp} {its' : List Value} {k' : Nat} {ys' : List V}, Vals ys' its' → Inv (blk X (x :: fr) scope cl C s2 H2 fp) [(D, { cls := .type "list", data := .seq its'.toArray k' })] (some y :: cap ix σ) H8 s8 → (∀ b ∈ fp, ∀ o, s5.heap.get? b = some o → s8.heap.get? b = some o) → (∀ b ∈ fp, H8 b = none) → N ys' H8 →
          ∃ m, m < n ∧ ∃ i ys its k v0 H', Vals ys its ∧ Inv (blk X (x :: fr) scope cl C s2 H2 fp) [(D, { cls := .type "list", data := .seq its.toArray k })] (v0 :: cap ix σ) H' s8 ∧ tn i s8.heap ∧ (∀ b ∈ fp, H' b = none) ∧ W i m ys H' :=
        fun {s8 H8 its' k' ys'} rv8 I8 kp fr8 nn => let ⟨m', hm, w8⟩ := hN ys' H8 nn; ⟨m', hm, i + 1, ys', its', k', some y, H8, rv8, I8, T.keep _ _ _ st5 kp, fr8, w8⟩
      cases b with
      | false =>
        rw [if_neg Bool.false_ne_true] at q7 ⊢
        refine again rv I7.unpinned (fun b hb o e => (I7.pin (b, o) (by simp [blk]; exact .inr (mem_pinsAt hb e))).1) (fun b hb => ?_) q7
        obtain ⟨o, e, d⟩ := T.obj _ _ st5 b hb
        exact (I7.pin (b, o) (by simp [blk]; exact .inr (mem_pinsAt hb e))).2.1
      | true =>
        rw [if_pos rfl] at q7 ⊢
        refine thn (he cl C s2 H2 fp _ s7 _ _ _ I7 q7) fun v s8 ⟨z, H8, I8, r8, q8⟩ => ?_
        have pD := I8.pin (D, { cls := .type "list", data := .seq its.toArray k }) (by simp [blk])
        have hvl : ys.length = its.length := rv.length
        refine append_at (hsz := by show its.toArray.size ≤ sizeLine; rw [List.size_toArray]; omega) pD.1 fun h₉ hs₉ hD₉ => ?_
        have eo : ({ cls := .type "list", data := .seq (its.toArray.push v) (k + 1) } : Obj) = { cls := .type "list", data := .seq (its ++ [v]).toArray (k + 1) } := by rw [List.push_toArray]
        rw [eo] at hD₉
        have pn8 : ∀ b ∈ fp, ∀ o, s5.heap.get? b = some o → s8.heap.get? b = some o ∧ H8 b = none := fun b hb o e => by
          have q := I8.pin (b, o) (by simp [blk]; exact .inr (mem_pinsAt hb e))
          exact ⟨q.1, q.2.1⟩
        have J8 := I8.unpinned.pins_of (pins' := []) (fun p hp => by cases hp)
        have f2D : FpOk (blk X (x :: fr) scope cl C s2 H2 fp) [] H8 D := ⟨pD.2.1, pD.2.2.1, pD.2.2.2.1, .inr hDle, fun y c e z => by
            obtain ⟨v, o, ho, _⟩ := I2.cell y c (h1 y c e)
            exact oldD c o ho z, fun p hp => by cases hp⟩
        have I9 : Inv (blk X (x :: fr) scope cl C s2 H2 fp) [] (some y :: cap ix σ) H8 { s8 with heap := h₉ } := J8.turned (t' := s8.toks) (it := D) (fun b o hb e => (hs₉.2 b hb).trans e) f2D.1 f2D.2.1 f2D.2.2.2.1 f2D.2.2.2.2.1 f2D.2.2.2.2.2
        refine again (its' := its ++ [v]) (k' := k + 1) (ys' := ys ++ [z]) (rv.append (.cons r8 .nil)) (I9.pins_of fun p hp => ?_) (fun b hb o e => (hs₉.2 b (fpD b hb)).trans (pn8 b hb o e).1) (fun b hb => ?_) q8
        · have e : p = (D, { cls := .type "list", data := .seq (its ++ [v]).toArray (k + 1) }) := by simpa using hp
          subst e
          exact ⟨hD₉, f2D.1, f2D.2.1, f2D.2.2.1, fun v z => by cases z⟩
        · obtain ⟨o, e, d⟩ := T.obj _ _ st5 b hb
          exact (pn8 b hb o e).2
  exact codeAny_compStart_list (loop _ rfl) (T.self X.A 0 _ _ _ st1 (loop _ rfl))
theorem pe_comp (S : CompScope X.env.scope X.N x fr ix scope) (hc : X.calm = true) (hi : PI X (.Name x px) iter wi) (hif : ∀ cl C s2 H2 fp, PIf (blk X (x :: fr) scope cl C s2 H2 fp) ifs tc) (he : ∀ cl C s2 H2 fp, PE (blk X (x :: fr) scope cl C s2 H2 fp) elt te)
    (hs : ∀ x, foldedSetIterable iter X.env x = pure x := by intro _; rfl) : PE X (.ListComp elt [⟨.Name x px, iter, ifs, 0⟩] scope pos) (tComp ix wi tc te) := by
  intro pins s σ H Q I h
  obtain ⟨cl, ecl, h1, h2⟩ := closure_ok (env := X.env) (scope := scope) fun y hy hf => I.ok.has y.1 (S.free y hy hf)
  rw [eval_ListComp]
  refine wpAny_comprehension_free (use := none) rfl hs ecl S.kind S.lcl (thn (hi pins s σ H _ I h) fun xv s1 q1 => thn q1 fun itv s2 q2 => ?_)
  obtain ⟨it, fp, tn, J, H2, rfl, I2, T, st2, f2, wc⟩ := q2
  refine comp_run S hc hif he h1 h2 I2 T st2 f2 wc fun D C ys H' s' m I' hD hn hDC hC hHC fin => ?_
  refine ⟨m, hn, fun h' sb => ⟨.ref D, upd H' D (.lst ys), ?_, rfl, fin D hD⟩⟩
  have hcf : FpOk X pins (upd H' D (.lst ys)) C := by
    have z := I2.fpOk (H' := upd H' D (.lst ys)) hC (by rw [upd_ne (Ne.symm hDC)]; exact hHC)
    exact z
  exact I'.turned (t' := s'.toks) (it := C) (fun b o hb e => (sb.2 b hb).trans e) hcf.1 hcf.2.1 hcf.2.2.2.1 hcf.2.2.2.2.1 hcf.2.2.2.2.2
theorem ps_setcomp {i : Nat} {y : Str} {py spos : Pos} (S : CompScope X.env.scope X.N x fr ix scope) (hc : X.calm = true) (hN : X.N.Nodup) (hiy : X.N[i]? = some y) (hy : Loc X.env.scope y) (hi : PI X (.Name x px) iter wi) (hif : ∀ cl C s2 H2 fp, PIf (blk X (x :: fr) scope cl C s2 H2 fp) ifs tc) (he : ∀ cl C s2 H2 fp, PE (blk X (x :: fr) scope cl C s2 H2 fp) elt te)
    (hsw : swapsWith (.ListComp elt [⟨.Name x px, iter, ifs, 0⟩] scope pos) (some (.Name y py)) spos.line X.env = pure true := by rfl)
    (hf : X.fn y = true ∨ X.env.scope.names.lookup y = some .local := by first | exact .inl rfl | exact .inr rfl | assumption)
    (hs : ∀ x, foldedSetIterable iter X.env x = pure x := by intro _; rfl) :
    PS X (.Assign [.Name y py] (.ListComp elt [⟨.Name x px, iter, ifs, 0⟩] scope pos) spos) (tAsg (tComp ix wi tc te) (gName i)) := by
  intro pins s σ H Dn I h
  obtain ⟨cl, ecl, h1, h2⟩ := closure_ok (env := X.env) (scope := scope) fun y hy hf => I.ok.has y.1 (S.free y hy hf)
  rw [exec_Assign_Name_used _ _ _ _ hsw]
  refine wpAny_bind (wpAny_standAt (wpAny_bind ?_))
  show wpAny _ X.A (do let _ ← comprehension (.ListComp elt [⟨.Name x px, iter, ifs, 0⟩] scope pos) scope X.env _ (newList []) false (eval iter X.env) (some (assign (.Name y py) X.env))) _ _ s
  refine wpAny_bind (thn (Q := fun _ s' => SP X pins Dn .next s') ?_ fun _ s' q => wpAny_pure (wpAny_pure q))
  refine wpAny_comprehension_free (use := some (assign (.Name y py) X.env)) rfl hs ecl S.kind S.lcl (thn (hi pins s σ H _ I h) fun xv s1 q1 => thn q1 fun itv s2 q2 => ?_)
  obtain ⟨it, fp, tn, J, H2, rfl, I2, T, st2, f2, wc⟩ := q2
  refine comp_run S hc hif he h1 h2 I2 T st2 f2 wc fun D C ys H' s' m I' hD hn hDC hC hHC fin => ?_
  have hcf : FpOk X pins (upd H' D (.lst ys)) C := I2.fpOk (H' := upd H' D (.lst ys)) hC (by rw [upd_ne (Ne.symm hDC)]; exact hHC)
  show wpAny _ X.A (assign (.Name y py) X.env (.ref D)) _ _ s'
  refine wpAny_assign_Name (store_ok2 (v := V.ref D) I' hN hiy hy rfl (fun s'' I'' hsb => ?_) hf)
  obtain ⟨a, sb, ha⟩ := hsb
  have hCa : C ≠ a := fun z => by
    rcases ha with q | q
    · exact hcf.2.1 (z.trans q)
    · exact hcf.2.2.2.2.1 y a q z.symm
  refine ⟨m, hn.sameBut sb hCa, fun h' sb' => ⟨_, _, I''.turned (t' := s''.toks) (it := C) (fun b o hb e => (sb'.2 b hb).trans e) hcf.1 hcf.2.1 hcf.2.2.2.1 hcf.2.2.2.2.1 hcf.2.2.2.2.2, fin D hD⟩⟩
end
end L2
set_option Elab.async false
set_option linter.all false
set_option maxRecDepth 100000
namespace L2
open PySem PySem.Spec PyProof.Rows
section
variable {X : Cx}


noncomputable def isInt : V → Option Bool
  | .int _ => some true
  | .bl _ => some true
  | .str _ => some false
  | .non => some false
  | _ => none
noncomputable def isBool : V → Option Bool
  | .int _ => some false
  | .bl _ => some true
  | .str _ => some false
  | .non => some false
  | _ => none
noncomputable def isStr : V → Option Bool
  | .int _ => some false
  | .bl _ => some false
  | .str _ => some true
  | .non => some false
  | _ => none
inductive IsLst (K : PySem.W.Frag) (H : Hp) : V → Bool → Prop
  | yes {a : Addr} {xs : List V} : SqL K H a xs → IsLst K H (.ref a) true
  | no {a : Addr} {xs : List V} : SqT K H a xs → IsLst K H (.ref a) false
theorem call_isi_int : CallR X (.builtin "isinstance") (fun xs H Q => ∃ x b, xs = [x, .ty "int"] ∧ isInt x = some b ∧ Q (.bl b) H) := by
  intro pins s σ H xs us Q I r h
  obtain ⟨x, b, rfl, e, q⟩ := h
  obtain ⟨u, t, rfl, ru, rt⟩ := r.two
  cases rt
  cases x with
  | int i => obtain ⟨t', rfl⟩ := ru; cases e; exact IsiPair.int_int ⟨.bl true, H, I, rfl, q⟩
  | bl i => cases ru; cases e; exact IsiPair.bool_int ⟨.bl true, H, I, rfl, q⟩
  | str i => obtain ⟨t', rfl⟩ := ru; cases e; exact IsiPair.str_int ⟨.bl false, H, I.tok _, rfl, q⟩
  | non => cases ru; cases e; exact IsiPair.NoneType_int ⟨.bl false, H, I.tok _, rfl, q⟩
  | _ => cases e
theorem call_isi_bool : CallR X (.builtin "isinstance") (fun xs H Q => ∃ x b, xs = [x, .ty "bool"] ∧ isBool x = some b ∧ Q (.bl b) H) := by
  intro pins s σ H xs us Q I r h
  obtain ⟨x, b, rfl, e, q⟩ := h
  obtain ⟨u, t, rfl, ru, rt⟩ := r.two
  cases rt
  cases x with
  | int i => obtain ⟨t', rfl⟩ := ru; cases e; exact IsiPair.int_bool ⟨.bl false, H, I.tok _, rfl, q⟩
  | bl i => cases ru; cases e; exact IsiPair.bool_bool ⟨.bl true, H, I, rfl, q⟩
  | str i => obtain ⟨t', rfl⟩ := ru; cases e; exact IsiPair.str_bool ⟨.bl false, H, I.tok _, rfl, q⟩
  | non => cases ru; cases e; exact IsiPair.NoneType_bool ⟨.bl false, H, I.tok _, rfl, q⟩
  | _ => cases e
theorem call_isi_str : CallR X (.builtin "isinstance") (fun xs H Q => ∃ x b, xs = [x, .ty "str"] ∧ isStr x = some b ∧ Q (.bl b) H) := by
  intro pins s σ H xs us Q I r h
  obtain ⟨x, b, rfl, e, q⟩ := h
  obtain ⟨u, t, rfl, ru, rt⟩ := r.two
  cases rt
  cases x with
  | int i => obtain ⟨t', rfl⟩ := ru; cases e; exact IsiPair.int_str ⟨.bl false, H, I.tok _, rfl, q⟩
  | bl i => cases ru; cases e; exact IsiPair.bool_str ⟨.bl false, H, I.tok _, rfl, q⟩
  | str i => obtain ⟨t', rfl⟩ := ru; cases e; exact IsiPair.str_str ⟨.bl true, H, I, rfl, q⟩
  | non => cases ru; cases e; exact IsiPair.NoneType_str ⟨.bl false, H, I.tok _, rfl, q⟩
  | _ => cases e
theorem call_isi_list : CallR X (.builtin "isinstance") (fun xs H Q => ∃ x b, xs = [x, .ty "list"] ∧ IsLst X.K H x b ∧ Q (.bl b) H) := by
  intro pins s σ H xs us Q I r h
  obtain ⟨x, b, rfl, e, q⟩ := h
  obtain ⟨u, t, rfl, ru, rt⟩ := r.two
  cases rt
  cases e with
  | yes hq =>
    cases ru
    obtain ⟨its, r, ⟨o, n, e, c1, c2, c3⟩, z⟩ := I.list hq
    exact IsiPair.list_list e c1 ⟨.bl true, H, I, rfl, q⟩
  | no hq =>
    cases ru
    obtain ⟨its, r, ⟨o, e, c1, n, c3⟩, z⟩ := I.tuple hq
    exact IsiPair.tuple_list e c1 ⟨.bl false, H, I.tok _, rfl, q⟩

end
end L2
set_option Elab.async false
set_option linter.all false
set_option maxRecDepth 100000
namespace L2
open PySem PySem.Spec PyProof.Rows

structure Can (P : Program) (w : World) (K : PySem.W.Frag) (mg : Str → Option Value) (base : Heap) (k : Nat) (x : Str) (ps : List Str) (sp : Sp) : Prop where
  ex : ∃ f fd, FnOk P w K mg base CX0 k f fd ps sp ∧ mg x = some (.ref f) ∧ PySem.W.keepIn K (.ref f) = true ∧ Binds K fd ps []
theorem Can.of {P : Program} {w : World} {K : PySem.W.Frag} {mg : Str → Option Value} {base : Heap} {k : Nat} {x : Str} {ps : List Str} {sp : Sp} {f : Addr} {fd : FuncData} {qual : Str} {st : Stmt}
    (F : Fun K x qual st f fd) (G : FnOk P w K mg base CX0 k f fd ps sp) (hm : mg x = some (.ref f)) (b : Binds K fd ps []) : Can P w K mg base k x ps sp := ⟨f, fd, G, hm, F.kp, b⟩
section
variable {X : Cx} {k : Nat} {x : Str} {ps : List Str} {sp : Sp} {p pos : Pos} {e : Expr} {es : List Expr} {t : TA}
theorem pe_own (C : Can X.prog X.w X.K X.mg X.base k x ps sp) (hr : Room k X.A) (hg : Gl X x) (ha : PA X (e :: es) t) (hdb : (x == ("__debug__" : Str)) = false := by decide) (he : starEach (e :: es) X.env = (false, eval e X.env) :: starEach es X.env := by rfl)
    (hpl : (backTo pos (starEach es X.env)).any (·.1) = false := by rfl) : PE X (.Call (.Name x p) (e :: es) [] pos) (tCall sp [] E0 t) := by
  obtain ⟨f, fd, F, hm, hk, hb⟩ := C.ex
  exact pe_call F hr hg hm hk hb .nil pass0 ha hdb he hpl
end

theorem comp_list {K : PySem.W.Frag} {a : Addr} {xs : List V} {c : St} {tc : TT} {te : TE} {H : Hp} {fin : List V → Hp → Prop} (Pv : Nat → List V → Hp → Prop) (h0 : Pv 0 [] H) (hl : ∀ i ys H, i ≤ xs.length → Pv i ys H → SqL K H a xs ∧ ys.length ≤ i) (hz : xs.length ≤ sizeLine)
    (hs : ∀ i x ys H, xs[i]? = some x → Pv i ys H → tc (some x :: c) H fun b H2 => if b = true then te (some x :: c) H2 fun y H3 => Pv (i + 1) (ys ++ [y]) H3 else Pv (i + 1) ys H2)
    (hd : ∀ ys H, Pv xs.length ys H → fin ys H) : wComp (Itl K a) c tc te H fin := by
  refine ⟨fun i m ys H => m = xs.length - i ∧ i ≤ xs.length ∧ Pv i ys H, ⟨xs.length, by simp, Nat.zero_le _, h0⟩, ?_⟩
  rintro i m ys H ⟨rfl, hi, p⟩
  obtain ⟨q, hy⟩ := hl i ys H hi p
  by_cases hlt : i < xs.length
  · refine .inr ⟨⟨xs, xs[i], q, by simp [hlt]⟩, by omega, Pv (i + 1), fun ys' H' p' => ⟨_, by omega, rfl, hlt, p'⟩, fun x H' y => ?_⟩
    obtain ⟨e, y⟩ := y
    subst e
    exact hs i x ys _ (y xs q) p
  · have e : i = xs.length := by omega
    subst e
    exact .inl ⟨⟨xs, q, Nat.le_refl _⟩, by omega, hd ys H p⟩
theorem comp_range {lo : Int} {n : Nat} {c : St} {tc : TT} {te : TE} {H : Hp} {fin : List V → Hp → Prop} (Pv : Nat → List V → Hp → Prop) (h0 : Pv 0 [] H) (hl : ∀ i ys H, i ≤ n → Pv i ys H → ys.length ≤ i) (hz : n ≤ sizeLine)
    (hs : ∀ i ys H, i < n → Pv i ys H → tc (some (.int (lo + i)) :: c) H fun b H2 => if b = true then te (some (.int (lo + i)) :: c) H2 fun y H3 => Pv (i + 1) (ys ++ [y]) H3 else Pv (i + 1) ys H2)
    (hd : ∀ ys H, Pv n ys H → fin ys H) : wComp (Itr lo n) c tc te H fin := by
  refine ⟨fun i m ys H => m = n - i ∧ i ≤ n ∧ Pv i ys H, ⟨n, by simp, Nat.zero_le _, h0⟩, ?_⟩
  rintro i m ys H ⟨rfl, hi, p⟩
  have hy := hl i ys H hi p
  by_cases hlt : i < n
  · refine .inr ⟨hlt, by omega, Pv (i + 1), fun ys' H' p' => ⟨_, by omega, rfl, hlt, p'⟩, fun x H' y => ?_⟩
    obtain ⟨e, y⟩ := y
    subst e y
    exact hs i ys _ hlt p
  · have e : i = n := by omega
    subst e
    exact .inl ⟨Nat.le_refl _, by omega, hd ys H p⟩
theorem comp_list0 {K : PySem.W.Frag} {a : Addr} {xs : List V} {c : St} {te : TE} {H : Hp} {fin : List V → Hp → Prop} (Pv : Nat → List V → Hp → Prop) (h0 : Pv 0 [] H) (hl : ∀ i ys H, i ≤ xs.length → Pv i ys H → SqL K H a xs ∧ ys.length ≤ i) (hz : xs.length ≤ sizeLine)
    (hs : ∀ i x ys H, xs[i]? = some x → Pv i ys H → te (some x :: c) H fun y H3 => Pv (i + 1) (ys ++ [y]) H3) (hd : ∀ ys H, Pv xs.length ys H → fin ys H) : wComp (Itl K a) c tYes te H fin :=
  comp_list Pv h0 hl hz (fun i x ys H e p => iteT (B := Pv (i + 1) ys H) (hs i x ys H e p)) hd
theorem comp_range0 {lo : Int} {n : Nat} {c : St} {te : TE} {H : Hp} {fin : List V → Hp → Prop} (Pv : Nat → List V → Hp → Prop) (h0 : Pv 0 [] H) (hl : ∀ i ys H, i ≤ n → Pv i ys H → ys.length ≤ i) (hz : n ≤ sizeLine)
    (hs : ∀ i ys H, i < n → Pv i ys H → te (some (.int (lo + i)) :: c) H fun y H3 => Pv (i + 1) (ys ++ [y]) H3) (hd : ∀ ys H, Pv n ys H → fin ys H) : wComp (Itr lo n) c tYes te H fin :=
  comp_range Pv h0 hl hz (fun i ys H e p => iteT (B := Pv (i + 1) ys H) (hs i ys H e p)) hd
end L2
set_option Elab.async false
set_option linter.all false
set_option maxRecDepth 100000
namespace L2
open PySem PySem.Spec PyProof.Rows

theorem pe_const {X : Cx} {x : Str} {i : Int} {pos : Pos} (h : ∃ t, X.mg x = some (.int i t)) (hg : Gl X x) (hd : (x == ("__debug__" : Str)) = false := by decide) : PE X (.Name x pos) (tC (.int i)) := by
  obtain ⟨t, h⟩ := h
  exact pe_glob hg h ⟨t, rfl⟩ hd
theorem iteD {c A B : Prop} [Decidable c] (h1 : c → A) (h2 : ¬ c → B) : if decide c = true then A else B := by
  by_cases h : c
  · rw [if_pos (decide_eq_true h)]; exact h1 h
  · rw [if_neg (by rw [decide_eq_false h]; exact Bool.false_ne_true)]; exact h2 h
theorem iteND {c A B : Prop} [Decidable c] (h1 : ¬ c → A) (h2 : c → B) : if (!decide c) = true then A else B := by
  by_cases h : c
  · rw [decide_eq_true h]; exact iteF (h2 h)
  · rw [decide_eq_false h]; exact iteT (h1 h)
theorem iteB {b : Bool} {A B : Prop} (h1 : b = true → A) (h2 : b = false → B) : if b = true then A else B := by
  cases b with
  | true => exact iteT (h1 rfl)
  | false => exact iteF (h2 rfl)
theorem Same.new {H : Hp} {l : Addr} {o : HO} (h : H l = Option.none) : Same H (upd H l o) := fun b u e => by rw [upd_ne (ne_of_none e h)]; exact e
theorem Same.newT {H H' : Hp} {l : Addr} {o : HO} (s : Same H H') (h : H' l = Option.none) : Same H (upd H' l o) := s.trans (Same.new h)
theorem SqL.new {K : PySem.W.Frag} {H : Hp} {l : Addr} {xs : List V} : SqL K (upd H l (.lst xs)) l xs := SqL.of upd_same
theorem atI_ok {xs : List V} {i : Int} {v : V} (h0 : 0 ≤ i) (h : xs[i.toNat]? = some v) : atI xs i = some v := by
  have := atI_nat h
  rwa [Int.toNat_of_nonneg h0] at this
theorem ints_at {ns : List Int} {i : Nat} (h : i < ns.length) : (ns.map V.int)[i]? = some (.int (ns.getD i 0)) := by
  rw [List.getElem?_map, List.getElem?_eq_getElem h, List.getD_eq_getElem?_getD, List.getElem?_eq_getElem h]; rfl
theorem atI_ints {ns : List Int} {i : Int} (h0 : 0 ≤ i) (h : i < ns.length) : atI (ns.map V.int) i = some (.int (ns.getD i.toNat 0)) := atI_ok h0 (ints_at (by omega))
theorem flat_ints (ns : List Int) : (ns.map V.int).all flatV = true := by
  rw [List.all_map]; exact List.all_eq_true.mpr fun _ _ => rfl
theorem inV_ints (ns : List Int) (c : Int) : inV (.int c) (ns.map V.int) = decide (c ∈ ns) := by
  unfold inV
  induction ns with
  | nil => rfl
  | cons a ns ih =>
    rw [List.map_cons, List.any_cons, ih]
    show ((a == c) || _) = _
    by_cases h : a = c
    · subst h; simp
    · have : ¬ c = a := fun e => h e.symm
      simp [h, this]
theorem cut_from {xs : List V} {k : Int} (h : 0 ≤ k) : cutV xs (some k) none = xs.drop k.toNat := by
  obtain ⟨n, rfl⟩ := Int.eq_ofNat_of_zero_le h
  unfold cutV
  rw [HT.sIx_none]
  show (xs.drop (HT.sIx xs.length 0 (some ((n : Nat) : Int)))).take _ = _
  rw [HT.sIx_nat, Int.toNat_natCast]
  by_cases h : n ≤ xs.length
  · rw [Nat.min_eq_left h, List.take_of_length_le (by rw [List.length_drop]; exact Nat.le_refl _)]
  · rw [Nat.min_eq_right (by omega), List.drop_of_length_le (Nat.le_refl _), List.drop_of_length_le (by omega), List.take_nil]
theorem cut_upto {xs : List V} {k : Int} (h : 0 ≤ k) : cutV xs none (some k) = xs.take k.toNat := by
  obtain ⟨n, rfl⟩ := Int.eq_ofNat_of_zero_le h
  unfold cutV
  rw [HT.sIx_none, List.drop_zero]
  show xs.take (HT.sIx xs.length xs.length (some ((n : Nat) : Int)) - 0) = _
  rw [HT.sIx_nat, Int.toNat_natCast, Nat.sub_zero]
  by_cases h : n ≤ xs.length
  · rw [Nat.min_eq_left h]
  · rw [Nat.min_eq_right (by omega), List.take_of_length_le (Nat.le_refl _), List.take_of_length_le (by omega)]
theorem cut_uptoI {ns : List Int} {k : Int} (h : 0 ≤ k) : cutV (ns.map V.int) none (some k) = (ns.take k.toNat).map V.int := by rw [cut_upto h, List.map_take]
theorem line_ge : 1000000 ≤ sizeLine := by decide
theorem take_next {ns : List Int} {i : Nat} (hi : i < ns.length) : ns.take (i + 1) = ns.take i ++ [ns.getD i 0] := by
  rw [List.take_succ, List.getElem?_eq_getElem hi, List.getD_eq_getElem?_getD, List.getElem?_eq_getElem hi]; rfl
theorem ints_get {ns : List Int} {i : Nat} {x : V} (hx : (ns.map V.int)[i]? = some x) : i < ns.length ∧ x = .int (ns.getD i 0) := by
  have hi : i < ns.length := by have := (List.getElem?_eq_some_iff.mp hx).1; rwa [List.length_map] at this
  refine ⟨hi, ?_⟩
  rw [ints_at hi] at hx
  exact (Option.some.inj hx).symm
theorem getD_ix {ns : List Int} {i : Nat} (hi : i < ns.length) : ns.getD i 0 = ns[i] := by rw [List.getD_eq_getElem?_getD, List.getElem?_eq_getElem hi]; rfl
theorem getD_in {ns : List Int} {i : Nat} (hi : i < ns.length) : ns.getD i 0 ∈ ns := by rw [getD_ix hi]; exact List.getElem_mem hi
end L2
set_option Elab.async false
set_option linter.all false
set_option maxRecDepth 100000
namespace L2
open PySem PySem.Spec PyProof.Rows

noncomputable def eqL : List V → List V → Bool
  | [], [] => true
  | x :: xs, y :: ys => eqV x y && eqL xs ys
  | _, _ => false
noncomputable def eqAtJ (xs ys : List V) (j : Nat) : Bool := match xs[j]?, ys[j]? with
  | some x, some y => eqV x y
  | _, _ => false
theorem range_eqL : ∀ {xs ys : List V}, xs.length = ys.length → (List.range xs.length).all (eqAtJ xs ys) = eqL xs ys
  | [], [], _ => rfl
  | x :: xs, y :: ys, h => by
    have h' : xs.length = ys.length := by simpa using h
    show (List.range (xs.length + 1)).all _ = (eqV x y && eqL xs ys)
    rw [List.range_succ_eq_map, List.all_cons, List.all_map, ← range_eqL h']
    rfl
theorem eqL_len : ∀ {xs ys : List V}, xs.length ≠ ys.length → eqL xs ys = false
  | [], [], h => absurd rfl h
  | [], _ :: _, _ => rfl
  | _ :: _, [], _ => rfl
  | x :: xs, y :: ys, h => by
    show (eqV x y && eqL xs ys) = false
    rw [eqL_len (fun e => h (by simp [e])), Bool.and_false]
theorem eqAt_j {A : Around} {s : Shared} {xs ys : List V} {us vs : List Value} (ru : Vals xs us) (rv : Vals ys vs) (fx : xs.all flatV = true) (fy : ys.all flatV = true) :
    ∀ j (h1 : j < us.toArray.size) (h2 : j < vs.toArray.size), SeqAt.EqAt A s us.toArray[j] vs.toArray[j] (eqAtJ xs ys j) := fun j h1 h2 => by
  have l1 := ru.length
  have l2 := rv.length
  have h1' : j < us.length := by simpa using h1
  have h2' : j < vs.length := by simpa using h2
  obtain ⟨u, eu, r1⟩ := ru.get (i := j) (x := xs[j]) (List.getElem?_eq_getElem (by omega))
  obtain ⟨v, ev, r2⟩ := rv.get (i := j) (x := ys[j]) (List.getElem?_eq_getElem (by omega))
  have e1 : us.toArray[j] = u := by rw [List.getElem_toArray]; rw [List.getElem?_eq_getElem h1'] at eu; exact Option.some.inj eu
  have e2 : vs.toArray[j] = v := by rw [List.getElem_toArray]; rw [List.getElem?_eq_getElem h2'] at ev; exact Option.some.inj ev
  rw [e1, e2]
  have ej : eqAtJ xs ys j = eqV xs[j] ys[j] := by unfold eqAtJ; rw [List.getElem?_eq_getElem (by omega), List.getElem?_eq_getElem (by omega)]
  rw [ej]
  exact eqAt_V r1 r2 (List.all_eq_true.mp fx _ (List.getElem_mem _)) (List.all_eq_true.mp fy _ (List.getElem_mem _))
section
variable {X : Cx}
noncomputable def rEqL (K : PySem.W.Frag) : R2 := fun x y H Q => ∃ a b xs ys, x = .ref a ∧ y = .ref b ∧ SqL K H a xs ∧ SqL K H b ys ∧ xs.all flatV = true ∧ ys.all flatV = true ∧ Q (.bl (eqL xs ys)) H
theorem op_eq_list (hu : X.A.units < cLine) : OpR X (compareOp .Eq) (rEqL X.K) := by
  intro pins s σ H x y v u Q I rx ry h
  obtain ⟨a, b, xs, ys, rfl, rfl, ha, hb, fx, fy, q⟩ := h
  cases rx
  cases ry
  obtain ⟨its, r1, p1, z1⟩ := I.list ha
  obtain ⟨its2, r2, p2, z2⟩ := I.list hb
  have l1 := r1.length
  have l2 := r2.length
  by_cases hl : xs.length = ys.length
  · refine SeqAt.eq_listAt p1.isList p2.isList (by simp; omega) hu (eqAt_j r1 r2 fx fy) ⟨.bl (eqL xs ys), H, I, ?_, q⟩
    rw [List.size_toArray, ← l1, range_eqL hl]
    rfl
  · refine SeqAt.eq_list_lengthsAt p1.isList p2.isList (by simp; omega) hu ⟨.bl (eqL xs ys), H, I, ?_, q⟩
    rw [eqL_len hl]
    rfl

end
end L2
set_option Elab.async false
set_option linter.all false
set_option maxRecDepth 100000
namespace L2
open PySem PySem.Spec PyProof.Rows
section
variable {X : Cx}

theorem bools_at {bs : List Bool} {us : List Value} (r : Vals (bs.map V.bl) us) {i : Nat} {v : Value} (h : us[i]? = some v) : v = .bool (bs.getD i false) := by
  have hl := r.length
  rw [List.length_map] at hl
  have hi : i < bs.length := by rw [hl]; exact (List.getElem?_eq_some_iff.mp h).1
  obtain ⟨u, e, ru⟩ := r.get (i := i) (x := .bl bs[i]) (by rw [List.getElem?_map, List.getElem?_eq_getElem hi]; rfl)
  rw [e] at h
  cases h
  rw [List.getD_eq_getElem?_getD, List.getElem?_eq_getElem hi]
  exact ru
theorem range_all (bs : List Bool) : (List.range bs.length).all (fun i => bs.getD i false) = bs.all id := by
  induction bs with
  | nil => rfl
  | cons b bs ih =>
    rw [List.length_cons, List.range_succ_eq_map, List.all_cons, List.all_map, List.all_cons, ← ih]
    rfl
theorem call_all (hc : X.calm = true) : CallR X (.builtin "all") (fun xs H Q => ∃ (a : Addr) (bs : List Bool), xs = [.ref a] ∧ SqL X.K H a (bs.map V.bl) ∧ Q (.bl (bs.all id)) H) := by
  intro pins s σ H xs us Q I r h
  obtain ⟨a, bs, rfl, hS, q⟩ := h
  obtain ⟨u, rfl, ru⟩ := r.one
  cases ru
  obtain ⟨its, r1, p1, z1⟩ := I.list hS
  have l1 := r1.length
  rw [List.length_map] at l1
  have hlt : a < s.heap.objs.size := by obtain ⟨o, n, e, _⟩ := p1; exact Heap.lt_size e
  refine call_all_walk (wpAny_pyIter_list p1.isList ?_)
  have I1 : Inv X pins σ H { s with heap := s.heap.push { cls := .type "list_iterator", data := .fields #[.ref a, .int 0 0] } } := I.kept (t' := s.toks) fun b o e => Heap.get?_push_of_some _ e
  refine ⟨s.heap.objs.size, _, _, its.toArray.size, _, _, fun i => bs.getD i false, rfl, Walks.list (by simpa using I.ok.hd hc) s.heap.objs.size a (Nat.ne_of_lt hlt) its.toArray, ⟨⟨_, Heap.get?_push_size _ rfl, rfl, rfl⟩, p1.isList.push _⟩, ?_, fun h' tk hk => ?_⟩
  · intro i v s' Q' E' hP hQ
    have := bools_at r1 (i := i) (v := v) (by simpa using hP)
    subst this
    exact wpAny_truthy_bool hQ
  · have f := I.fpOk (H' := H) (Nat.le_refl _) (I.hok.fresh (Nat.le_refl _))
    refine ⟨.bl (bs.all id), H, I1.turned (it := s.heap.objs.size) (fun b o hb e => hk b o (by simpa using hb) e) f.1 f.2.1 f.2.2.2.1 f.2.2.2.2.1 f.2.2.2.2.2, ?_, q⟩
    rw [List.size_toArray, ← l1, range_all]
    rfl

theorem call_set_int (hc : X.calm = true) : CallR X (.type "set") (fun xs H Q => ∃ (a : Addr) (ns : List Int), xs = [.ref a] ∧ SqL X.K H a (ns.map V.int) ∧ ns.length < 4000 ∧
    ∀ l, H l = none → Q (.ref l) (upd H l (.set (fun k => (firstMet (fun i => ns.getD i 0) ns.length).any (· == k)) (firstMet (fun i => ns.getD i 0) ns.length).length))) := by
  intro pins s σ H xs us Q I r h
  obtain ⟨a, ns, rfl, hS, hz, q⟩ := h
  obtain ⟨u, rfl, ru⟩ := r.one
  cases ru
  obtain ⟨its, r1, p1, z1⟩ := I.list hS
  have l1 := r1.length
  rw [List.length_map] at l1
  have hsb : scanBound = 4096 := rfl
  refine call_set_list (ns := ns) (I.ok.hd hc) p1.isList (by simpa using intsAre_of r1) (by rw [List.size_toArray]; omega) fun h' tk hset hk => ?_
  have esz : its.toArray.size = ns.length := by rw [List.size_toArray]; omega
  rw [esz] at hset
  refine ⟨.ref s.heap.objs.size, _, I.laid (t' := tk) (o := .set _ _) (fun b o e => hk b o (Heap.lt_size e) e) (Nat.le_refl _) hset, rfl, q _ (I.hok.fresh (Nat.le_refl _))⟩
theorem call_len_set : CallR X (.builtin "len") (fun xs H Q => ∃ a S n, xs = [.ref a] ∧ H a = some (.set S n) ∧ Q (.int n) H) := by
  intro pins s σ H xs us Q I r h
  obtain ⟨a, S, n, rfl, hS, q⟩ := h
  obtain ⟨u, rfl, ru⟩ := r.one
  cases ru
  obtain ⟨o, es, ep, t, ho, hex, hd, _, _, hsz, hf, hn⟩ := I.hok a _ hS
  have hsb : scanBound = 4096 := rfl
  refine PySem.call_len_set ho hex hd hf (by omega) ⟨.int n, H, I.tok _, ⟨s.toks + 1, ?_⟩, q⟩
  rw [hn]
end
theorem firstMet_list (ns : List Int) : firstMet (fun i => ns.getD i 0) ns.length = ns.foldl step_dedup [] := by
  unfold firstMet
  congr 1
  refine List.ext_getElem (by simp) fun i h1 h2 => ?_
  rw [List.getElem_map, List.getElem_range, List.getD_eq_getElem?_getD, List.getElem?_eq_getElem h2]
  rfl
theorem dedup_le (acc ns : List Int) : (ns.foldl step_dedup acc).length ≤ acc.length + ns.length := by
  induction ns generalizing acc with
  | nil => exact Nat.le_refl _
  | cons a ns ih =>
    rw [List.foldl_cons]
    refine Nat.le_trans (ih _) ?_
    rw [step_length, List.length_cons]
    split <;> omega
theorem dedup_full (acc ns : List Int) (hacc : acc.Nodup) : (ns.foldl step_dedup acc).length = acc.length + ns.length ↔ (acc ++ ns).Nodup := by
  induction ns generalizing acc with
  | nil => simpa using hacc
  | cons a ns ih =>
    rw [List.foldl_cons]
    by_cases h : acc.any (· == a) = true
    · have e : step_dedup acc a = acc := by unfold step_dedup; rw [if_pos h]
      rw [e]
      have hm : a ∈ acc := by
        obtain ⟨x, hx, hb⟩ := List.any_eq_true.mp h
        have : x = a := by simpa using hb
        rw [← this]; exact hx
      constructor
      · intro q
        have := dedup_le acc ns
        rw [List.length_cons] at q
        omega
      · intro q
        rw [List.nodup_append] at q
        exact absurd rfl (q.2.2 a hm a List.mem_cons_self)
    · have e : step_dedup acc a = acc ++ [a] := by unfold step_dedup; rw [if_neg h]
      have hm : a ∉ acc := fun hm => h (List.any_eq_true.mpr ⟨a, hm, by simp⟩)
      have hn : (acc ++ [a]).Nodup := by
        rw [List.nodup_append]
        exact ⟨hacc, by simp, fun x hx y hy z => hm (by rw [List.mem_singleton.mp hy] at z; rw [← z]; exact hx)⟩
      rw [e]
      have := ih (acc ++ [a]) hn
      rw [List.append_assoc, List.singleton_append] at this
      rw [← this, List.length_append, List.length_singleton, List.length_cons]
      omega
theorem set_full (ns : List Int) : (firstMet (fun i => ns.getD i 0) ns.length).length = ns.length ↔ ns.Nodup := by
  rw [firstMet_list]
  have := dedup_full [] ns List.nodup_nil
  simpa using this

noncomputable def tMid (t : TS) : TS := fun D σ H => ∃ P : St → Hp → Prop, t { D with nx := P } σ H ∧ ∀ σ' H', P σ' H' → D.nx σ' H'
theorem ps_mid {X : Cx} {st : Stmt} {t : TS} (h : PS X st t) : PS X st (tMid t) := by
  intro pins s σ H D I hw
  obtain ⟨P, h1, h2⟩ := hw
  refine thn (h pins s σ H _ I h1) fun f s' q => ?_
  cases f with
  | next => obtain ⟨σ', H', I', q⟩ := q; exact ⟨σ', H', I', h2 _ _ q⟩
  | brk => exact q
  | cont => exact q
  | ret u => exact q
end L2
set_option Elab.async false
set_option linter.all false
set_option maxRecDepth 100000
namespace L2
open PySem PySem.Spec PyProof.Rows

structure Fly (P : Program) (w : World) (outer : List Env) (H : Hp) (s : Shared) (x : Addr) (cls : Value) (H' : Hp) (s' : Shared) : Prop where
  os : s'.os = s.os
  bare : AllBare s'.gens
  ex : ∃ B a0, Heap.FlyingW B outer x cls a0 s'.heap ∧ HOk P w H' B ∧ (∀ b o, s.heap.get? b = some o → H b = none → b ∉ frs outer → B.get? b = some o) ∧ ∀ b o, s.heap.get? b = some o → b ∉ frs outer → ∃ o', B.get? b = some o'
  slot : ∀ b o, s.heap.get? b = some o → H b = none → b ∈ frs outer → ∃ sl, s'.heap.get? b = some { o with slots := sl }
  free : ∀ b o, s.heap.get? b = some o → H b = none → H' b = none
  tups : ∀ b xs, H b = some (.tup xs) → H' b = some (.tup xs)
  frzs : ∀ b o u, H b = some (.frz o u) → H' b = some (.frz o u)
  tbls : ∀ b ps, H b = some (.tbl ps) → ∃ more, H' b = some (.tbl (ps ++ more))
  new : H' x = none
noncomputable def CX1 (P : Program) (w : World) : CXT := fun outer H s E e s' => ∃ x cls H', e = .ref x ∧ Fly P w outer H s x cls H' s' ∧ E cls none H'
section
variable {P : Program} {w : World} {outer : List Env} {H H' : Hp} {s s' : Shared} {x : Addr} {cls : Value}
theorem ObjOk.obj {H : Hp} {h : Heap} {a : Addr} {o : HO} (x : ObjOk P w H h a o) : ∃ ob, h.get? a = some ob := by
  cases o with
  | lst xs => obtain ⟨_, _, _, _, e⟩ := x; exact ⟨_, e⟩
  | tup xs => obtain ⟨_, _, _, ob, e, _⟩ := x; exact ⟨ob, e⟩
  | dK kvs => obtain ⟨_, _, _, _, o, _, _, e, _⟩ := x; exact ⟨o, e⟩
  | dT kvs => obtain ⟨_, _, _, _, o, _, _, e, _⟩ := x; exact ⟨o, e⟩
  | set S n => obtain ⟨o, _, _, _, e, _⟩ := x; exact ⟨o, e⟩
  | ins C dx fs => obtain ⟨_, _, _, e, _⟩ := x; exact ⟨_, e⟩
  | own y => obtain ⟨o, e⟩ := x; exact ⟨o, e⟩
  | xd fs => obtain ⟨_, ⟨o, _, _, e, _⟩, _⟩ := x; exact ⟨o, e⟩
  | rng lo hi => obtain ⟨_, _, _, e⟩ := x; exact ⟨_, e⟩
  | frz ob u => obtain ⟨e, _⟩ := x; exact ⟨_, e⟩
  | tbl ps => exact ⟨_, (show h.get? a = some _ from x)⟩
  | met f y => exact ⟨_, (show h.get? a = some _ from x)⟩
  | ext φ => obtain ⟨_, ⟨o, e⟩, _⟩ := x; exact ⟨o, e⟩
theorem Fly.un (f : Fly P w outer H s x cls H' s') {B h : Heap} {a0 : Value} {l : List Env} (hB : HOk P w H' B) (k1 : ∀ b o, s.heap.get? b = some o → H b = none → b ∉ frs outer → B.get? b = some o) (k2 : ∀ b o, s.heap.get? b = some o → b ∉ frs outer → ∃ o', B.get? b = some o')
    (st : B.StaysIn h) (sl : ∀ b o, s.heap.get? b = some o → H b = none → b ∈ frs outer → ∃ q, h.get? b = some { o with slots := q }) (nf : ∀ b ∈ frs outer, H b = none) : Un (frs outer) [] H H' s.heap h where
  keep := fun b o q n hb _ => st b o (k1 b o q n hb)
  slot := fun b o q n hb _ => sl b o q n hb
  free := fun b o q n _ => f.free b o q n
  there := fun b o q _ => by
    by_cases hb : b ∈ frs outer
    · obtain ⟨z, e⟩ := sl b o q (nf b hb) hb
      exact ⟨_, e⟩
    · obtain ⟨o', e⟩ := k2 b o q hb
      exact ⟨o', st b o' e⟩
  tups := f.tups
  frzs := f.frzs
  tbls := f.tbls
end
section
variable {X : Cx} {pins : List (Addr × Obj)} {σ : St} {H H' : Hp} {s s' : Shared} {x : Addr} {cls : Value}
theorem Inv.nodata (I : Inv X pins σ H s) {b : Addr} (hb : b ∈ frs X.stack) {o : Obj} (e : s.heap.get? b = some o) : ∀ vs, o.data ≠ .fields vs := by
  obtain ⟨_, o', e', d⟩ := I.stack.mem hb
  rw [e] at e'; cases e'
  exact d
noncomputable def frameBase (h : Heap) (l : List Env) : Heap := PySem.W.hideAll h (frs l)
theorem frameBase_get {h : Heap} {l : List Env} {b : Addr} {o : Obj} (e : h.get? b = some o) (n : b ∉ frs l) : (frameBase h l).get? b = some o := PySem.W.hideAll_get _ e n
theorem of_frameBase {h : Heap} {l : List Env} {b : Addr} {o : Obj} (e : (frameBase h l).get? b = some o) : h.get? b = some o := PySem.W.of_hideAll _ e
theorem Inv.frameOk (I : Inv X pins σ H s) : HOk X.prog X.w H (frameBase s.heap X.stack) := fun a o e =>
  (I.hok a o e).stay (fun b u hb q => frameBase_get q fun z => by
    have n := I.stkFree b z
    rcases hb with hb | hb
    · rw [hb, e] at n; cases n
    · rw [n] at hb; cases hb) (fun _ q => q) fun _ _ q => q
end
noncomputable abbrev XW := St → Value → Hp → Prop
noncomputable def Fl (X : Cx) (W : XW) : Prop := ∀ (pins : List (Addr × Obj)) (σ : St) (H : Hp) (s : Shared) (x : Addr) (cls : Value) (H' : Hp) (s' : Shared), Inv X pins σ H s → Fly X.prog X.w X.stack H s x cls H' s' → W σ cls H' → X.xe (.ref x) s'
noncomputable def Md (X : Cx) (W : XW) : Prop := ∀ (pins : List (Addr × Obj)) (σ : St) (H : Hp) (s : Shared) (x : Addr) (cls : Value) (args : List Value) (h' : Heap), Inv X pins σ H s → Heap.MadeExcOf s.heap h' x cls args → W σ cls H → X.xe (.ref x) { s with heap := h' }
section
variable {P : Program} {w : World} {K : PySem.W.Frag} {mg : Str → Option Value} {base : Heap} {N : List Str} {qual : Str} {scope : Scope} {f : Addr} {cd : Value} {A : Around} {outer : List Env} {s0 : Shared} {H0 : Hp} {E : XK}
theorem fly_def : Fl (cxOf (CX1 P w) P w K mg base N qual scope f cd A outer s0 H0 E) fun _ cls H' => E cls none H' := by
  intro pins σ H s x cls H' s' I fl hE
  obtain ⟨B, a0, hfl, hB, k1, k2⟩ := fl.ex
  have hst : frs (envOfC qual scope s0.heap.objs.size f cd :: outer) = s0.heap.objs.size :: frs outer := rfl
  have old : ∀ b o, s0.heap.get? b = some o → b ∉ frs outer → b ∉ frs (envOfC qual scope s0.heap.objs.size f cd :: outer) := fun b o e hb => by
    rw [hst]
    exact fun z => (List.mem_cons.mp z).elim (fun q => absurd (Heap.lt_size e) (by rw [q]; exact Nat.lt_irrefl _)) hb
  refine wpAny_leaves_onW (base := B) (L := s0.heap.objs.size) I.ok.frames rfl hfl fun h2 hfl2 up => ?_
  refine ⟨x, cls, H', rfl, ⟨fl.os.trans I.os, fl.bare, ⟨B, a0, hfl2, hB, fun b o e n hb => ?_, fun b o e hb => ?_⟩, fun b o e n hb => ?_, fun b o e n => ?_, fun b xs e => fl.tups b xs (I.base.tups b xs e), fun b o u e => fl.frzs b o u (I.base.frzs b o u e), fun b ps e => ?_, fl.new⟩, hE⟩
  · exact k1 b o (I.base.keep b o e n hb (by simp [cxOf])) (I.base.free b o e n (by simp [cxOf])) (old b o e hb)
  · obtain ⟨o1, e1⟩ := I.base.there b o e (by simp [cxOf])
    exact k2 b o1 e1 (old b o e hb)
  · obtain ⟨sl, e1⟩ := I.base.slot b o e n hb (by simp [cxOf])
    obtain ⟨sl2, e2⟩ := fl.slot b _ e1 (I.base.free b o e n (by simp [cxOf])) (List.mem_cons_of_mem _ hb)
    obtain ⟨_, o', e', d⟩ := I.ok.funs.mem hb
    have eo : o' = o := by
      have e'' : s0.heap.get? b = some o' := e'
      rw [e] at e''; exact (Option.some.inj e'').symm
    subst eo
    obtain ⟨sl3, e3⟩ := up b _ e2 d
    exact ⟨sl3, e3⟩
  · obtain ⟨o1, e1⟩ := I.base.there b o e (by simp [cxOf])
    exact fl.free b o1 e1 (I.base.free b o e n (by simp [cxOf]))
  · obtain ⟨m1, e1⟩ := I.base.tbls b ps e
    obtain ⟨m2, e2⟩ := fl.tbls b _ e1
    exact ⟨m1 ++ m2, by rw [e2, Array.append_assoc]⟩
theorem md_def : Md (cxOf (CX1 P w) P w K mg base N qual scope f cd A outer s0 H0 E) fun _ cls H' => E cls none H' := by
  intro pins σ H s x cls args h' I mk hE
  have hst : frs (envOfC qual scope s0.heap.objs.size f cd :: outer) = s0.heap.objs.size :: frs outer := rfl
  have old : ∀ b o, s0.heap.get? b = some o → b ∉ frs outer → b ∉ frs (envOfC qual scope s0.heap.objs.size f cd :: outer) := fun b o e hb => by
    rw [hst]
    exact fun z => (List.mem_cons.mp z).elim (fun q => absurd (Heap.lt_size e) (by rw [q]; exact Nat.lt_irrefl _)) hb
  have hl : s.heap.FunFrames (frameBase s.heap (envOfC qual scope s0.heap.objs.size f cd :: outer)) (envOfC qual scope s0.heap.objs.size f cd :: outer) :=
    PySem.W.funFrames_hide I.stack fun env he b hb => List.mem_filterMap.mpr ⟨env, he, hb⟩
  have hB : HOk P w H (frameBase s.heap (envOfC qual scope s0.heap.objs.size f cd :: outer)) := I.frameOk
  have hx : H x = none := by
    cases q : H x with
    | none => rfl
    | some o =>
      obtain ⟨o', e⟩ := (I.hok x o q).obj
      rw [mk.new] at e; cases e
  refine wpAny_leaves_madeW (L := s0.heap.objs.size) (h := s.heap) (base := frameBase s.heap (envOfC qual scope s0.heap.objs.size f cd :: outer)) I.ok.frames rfl (fun b o e => of_frameBase e) hl mk fun h2 t hfl2 _ _ up => ?_
  refine ⟨x, cls, H, rfl, ⟨I.os, I.bare, ⟨_, _, hfl2, hB, fun b o e n hb => ?_, fun b o e hb => ?_⟩, fun b o e n hb => ?_, fun b o e n => I.base.free b o e n (by simp [cxOf]), I.base.tups, I.base.frzs, I.base.tbls, hx⟩, hE⟩
  · exact frameBase_get (I.base.keep b o e n hb (by simp [cxOf])) (old b o e hb)
  · obtain ⟨o1, e1⟩ := I.base.there b o e (by simp [cxOf])
    exact ⟨o1, frameBase_get e1 (old b o e hb)⟩
  · obtain ⟨sl, e1⟩ := I.base.slot b o e n hb (by simp [cxOf])
    obtain ⟨_, o', e', d⟩ := I.ok.funs.mem hb
    have eo : o' = o := by
      have e'' : s0.heap.get? b = some o' := e'
      rw [e] at e''; exact (Option.some.inj e'').symm
    subst eo
    obtain ⟨sl3, e3⟩ := up b _ (mk.keeps _ _ e1) d
    exact ⟨sl3, e3⟩
end
end L2
set_option Elab.async false
set_option linter.all false
set_option maxRecDepth 100000
namespace L2
open PySem PySem.Spec PyProof.Rows

noncomputable abbrev TJ := St → Hp → Str → (Str → Hp → Prop) → Prop
section
variable {X : Cx} {e v1 v2 : Expr} {es : List Expr} {te : TE} {t : TJ} {pos : Pos}
end

noncomputable def bmV : List Value := [.type "ValueError", .type "Exception", .type "BaseException", .type "object"]
noncomputable abbrev ExC (K : PySem.W.Frag) (C : Addr) : Prop := PySem.W.excIn K C bmV "ValueError.__new__" = true
noncomputable def subIn (K : PySem.W.Frag) (C D : Addr) : Bool := match K.lookup C with
  | some ⟨_, _, .cls cd, _⟩ => cd.mro.contains (.ref D)
  | _ => false
theorem exc_obj {K : PySem.W.Frag} {h : Heap} {C : Addr} (hk : K.In h) (q : ExC K C) : ∃ tl N nm qn bs hd sn sb ab cl dd a0 a1 a2 a3 a5 mN,
    h.get? C = some (excClassObj nm qn C N bs tl hd sn sb ab cl dd a0 a1 a2 a3 a5 "ValueError.__new__") ∧ h.Ns N mN ∧ mN "__init__" = none ∧ OwnTail h bmV tl ∧ ∀ D, (Value.ref C :: tl).contains (.ref D) = subIn K C D := by
  unfold ExC PySem.W.excIn at q
  split at q
  next dd cd sl ho =>
    split at q
    next C' tl a0 a1 a2 a3 n a5 em es =>
      simp only [Bool.and_eq_true, beq_iff_eq, Bool.not_eq_true'] at q
      obtain ⟨⟨⟨⟨⟨z1, z2⟩, z3⟩, z4⟩, z5⟩, z6⟩ := q
      subst z1 z2
      have sb : ∀ D, (Value.ref C' :: tl).contains (.ref D) = subIn K C' D := fun D => by unfold subIn; rw [ho]; show _ = cd.mro.contains _; rw [em]
      obtain ⟨nm, bs, mro, ns, qn, hd, sn, sub, ab, cl, del⟩ := cd
      dsimp only at em z3 z5 z6
      subst em z3
      obtain ⟨l⟩ := sl
      have es' : l = [a0, a1, a2, a3, some (.builtin "ValueError.__new__"), a5] := es
      subst es'
      exact ⟨tl, ns, nm, qn, bs, hd, sn, sub, ab, cl, dd, a0, a1, a2, a3, a5, _, hk _ _ ho, .of_isNs (PySem.W.isNs_of_in hk z5), PySem.W.nsMap_none_of_in hk z5 z6, PySem.W.tail_of_in hk z4, sb⟩
    next => cases q
  next => cases q
section
variable {X : Cx}
noncomputable def tRaise (C : Addr) (W : XW) (ta : TA) : TS := fun _ σ H => ta σ H fun vs H1 => vs.length ≤ sizeLine ∧ W σ (.ref C) H1
theorem ps_raise {x : Str} {C : Addr} {W : XW} {np cpos pos : Pos} {e : Expr} {es : List Expr} {ta : TA} (hc : X.calm = true) (md : Md X W) (hg : Gl X x) (hm : X.mg x = some (.ref C)) (hx : ExC X.K C) (ha : PA X (e :: es) ta)
    (hdb : (x == ("__debug__" : Str)) = false := by decide) (he : starEach (e :: es) X.env = (false, eval e X.env) :: starEach es X.env := by rfl) (hpl : (backTo cpos (starEach es X.env)).any (·.1) = false := by rfl) :
    PS X (.Raise (some (.Call (.Name x np) (e :: es) [] cpos)) none pos) (tRaise C W ta) := by
  intro pins s σ H D I h
  obtain ⟨tl, N, nm, qn, bs, hd, sn, sb, ab, cl, dd, a0, a1, a2, a3, a5, mN, hC, hN, hni, T, _⟩ := exc_obj I.mod.kin hx
  refine wpAny_Raise_call_subT (C := C) (bm := tl) (nm := nm) (q := qn) (N := N) (bs := bs) (hdct := hd) (sn := sn) (sub := sb) (ab := ab) (col := cl) (dd := dd) (k0 := a0) (k1 := a1) (k2 := a2) (k3 := a3) (k5 := a5) PySem.F.excBase_ValueError (mN := mN) (T.hasType (by decide)) (I.ok.hd hc) (by rw [he]; show (false || (backTo cpos (starEach es X.env)).any (·.1)) = false; rw [hpl]; rfl) hni (ld_glob I hg hm ⟨rfl, ?_⟩ hdb)
  have hA := ha cpos pins s σ H _ I h
  rw [he] at hA ⊢
  refine Calls.evalArgs_plain (thn hA fun us s1 ⟨vs, H1, I1, r1, hz, q⟩ => ⟨rfl, by show us.length ≤ sizeLine; rw [← r1.length]; exact hz, I1.bk _ _ hC, hN.keeps I1.bk, T.keeps I1.bk, fun h' x mk => ?_⟩)
  exact md pins σ H1 s1 x (.ref C) us h' I1 mk q
end

structure CanX (P : Program) (w : World) (K : PySem.W.Frag) (mg : Str → Option Value) (base : Heap) (k : Nat) (x : Str) (ps : List Str) (sp : Sp) : Prop where
  ex : ∃ f fd, FnOk P w K mg base (CX1 P w) k f fd ps sp ∧ mg x = some (.ref f) ∧ PySem.W.keepIn K (.ref f) = true ∧ Binds K fd ps []
theorem CanX.of {P : Program} {w : World} {K : PySem.W.Frag} {mg : Str → Option Value} {base : Heap} {k : Nat} {x : Str} {ps : List Str} {sp : Sp} {f : Addr} {fd : FuncData} {qual : Str} {st : Stmt}
    (F : Fun K x qual st f fd) (G : FnOk P w K mg base (CX1 P w) k f fd ps sp) (hm : mg x = some (.ref f)) (b : Binds K fd ps []) : CanX P w K mg base k x ps sp := ⟨f, fd, G, hm, F.kp, b⟩
theorem Fun.okX {P : Program} {w : World} {K : PySem.W.Frag} {mg : Str → Option Value} {base : Heap} {x qual : Str} {st : Stmt} {f : Addr} {fd : FuncData} {N ps : List Str} {k : Nat} {sp : Sp} (F : Fun K x qual st f fd) (S : FnScope N ps (defScope st)) (len : ∀ vs H Q E, sp vs H Q E → vs.length = ps.length)
    (hbody : ∀ (X : Cx) (W : XW) (cdv : Value) (A : Around) (outer : List Env) (s : Shared) (H : Hp) (vs : List V) (Q : VK) (E : XK), X = cxOf (CX1 P w) P w K mg base N qual (defScope st) f cdv A outer s H E → W = (fun _ cls H' => E cls none H') → Fl X W → Md X W → Room k X.A → sp vs H Q E →
      ∃ t, PSs X (defBody st) t ∧ t { nx := fun _ H' => Q .non H', rt := Q } (start N vs) H) : FnOk P w K mg base (CX1 P w) (k + 1) f fd ps sp := by
  obtain ⟨oc, od, kV, doc, pm, an, cdv, ct, osl, rfl, lk, hcd⟩ := F.ex
  refine fn_of lk hcd S len fun A outer s H vs Q E hr hsp => ?_
  exact hbody _ _ cdv A outer s H vs Q E rfl rfl fly_def md_def hr hsp
noncomputable def tCallX (W : XW) (sp : Sp) (t : TA) : TE := fun σ H Q => t σ H fun vs H1 => sp vs H1 Q fun cls _ H' => W σ cls H'
section
variable {X : Cx} {k : Nat} {x : Str} {ps : List Str} {sp : Sp} {p pos : Pos} {e : Expr} {es : List Expr} {t : TA} {W : XW}
theorem run_fnX {pins : List (Addr × Obj)} {σ : St} {H : Hp} {s : Shared} {Q : VK} {us : List Value} {vs : List V} {f : Addr} {fd : FuncData} (F : FnOk X.prog X.w X.K X.mg X.base (CX1 X.prog X.w) k f fd ps sp) (hr : Room k X.A) (hb : Binds X.K fd ps []) (fl : Fl X W)
    (I : Inv X pins σ H s) (r : Vals vs us) (h : sp vs H Q fun cls _ H' => W σ cls H') : wpAny (model X.prog X.w) X.A (call (.ref f) us) (EP X pins σ Q) X.xe s := by
  have hl : us.length = ps.length := by rw [← r.length]; exact F.len _ _ _ _ h
  have hb' := hb s us I.kIn (by rw [List.append_nil]; exact hl)
  rw [List.append_nil] at hb'
  refine wpAny_call (codeAny_mono (F.run X.A X.stack s H ⟨us, []⟩ us vs Q _ hr I.env0 hb' r h) fun r s' hq => ?_)
  cases r with
  | error e =>
    obtain ⟨y, cls, H', rfl, fly, w⟩ := hq
    exact fl pins σ H s y cls H' s' I fly w
  | ok fl' =>
    cases fl' with
    | ret u => exact I.after hq
    | next => exact False.elim hq
    | brk => exact False.elim hq
    | cont => exact False.elim hq
theorem pe_ownX (C : CanX X.prog X.w X.K X.mg X.base k x ps sp) (fl : Fl X W) (hr : Room k X.A) (hg : Gl X x) (ha : PA X (e :: es) t) (hdb : (x == ("__debug__" : Str)) = false := by decide) (he : starEach (e :: es) X.env = (false, eval e X.env) :: starEach es X.env := by rfl)
    (hpl : (backTo pos (starEach es X.env)).any (·.1) = false := by rfl) : PE X (.Call (.Name x p) (e :: es) [] pos) (tCallX W sp t) := by
  obtain ⟨f, fd, F, hm, hk, hb⟩ := C.ex
  intro pins s σ H Q I h
  refine wpAny_Call_Name_kw (ld_glob I hg hm ?_ hdb)
  refine PySem.W.callWith_K (h₀ := X.base) I.ok.mod.kin hk (thn (ha pos pins s σ H _ I h) fun us s1 ⟨vs, H1, I1, r, q⟩ => ⟨I1.kIn, ?_⟩) he hpl
  exact run_fnX F hr hb fl I1 r q
end
end L2
set_option Elab.async false
set_option linter.all false
set_option maxRecDepth 100000
namespace L2
open PySem PySem.Spec PyProof.Rows
noncomputable def excO (x : Addr) (cls : Value) : HO := .ext fun h => ∃ o, h.get? x = some o ∧ o.cls = cls
noncomputable def suiteX (X : Cx) (x : Addr) : Cx := { X with A := X.A.mark (some (.ref x)), calm := false, xe := fun _ _ => False }
section
variable {X : Cx} {pins : List (Addr × Obj)} {σ : St} {H H' : Hp} {s s' : Shared} {x : Addr} {cls : Value}
theorem Cx.Ok.suite (ok : X.Ok) : (suiteX X x).Ok :=
  ⟨ok.mod, ok.kind, ok.glob, ok.blt, ok.above, ok.inj, ok.has, ok.cab, fun z => Bool.noConfusion (show false = true from z), ok.frames, ok.stk, ok.exf, ok.bs, ok.bsz, ok.noex, ok.exfs, ok.funs, ok.frf⟩
theorem Inv.suite (I : Inv X pins σ H s) : Inv (suiteX X x) pins σ H s := ⟨I.ok.suite, I.os, I.bare, I.base, I.loc, I.cell, I.free, I.freeC, I.pin, I.hok, I.len⟩
theorem Inv.unsuite (ok : X.Ok) (I : Inv (suiteX X x) pins σ H s) : Inv X pins σ H s := ⟨ok, I.os, I.bare, I.base, I.loc, I.cell, I.free, I.freeC, I.pin, I.hok, I.len⟩
theorem Fly.inv (I : Inv X pins σ H s) (f : Fly X.prog X.w X.stack H s x cls H' s') : Inv X pins σ H' s' := by
  obtain ⟨B, a0, hfl, hB, k1, k2⟩ := f.ex
  refine I.call' (ch := []) f.os (f.un (a0 := a0) (l := X.stack) hB k1 k2 hfl.1 f.slot I.stkFree) (hB.kept hfl.1) f.bare fun b z => nomatch z
theorem Fly.to (I : Inv X pins σ H s) (f : Fly X.prog X.w X.stack H s x cls H' s') {B h : Heap} {a0 : Value} (hB : HOk X.prog X.w H' B) (k1 : ∀ b o, s.heap.get? b = some o → H b = none → b ∉ frs X.stack → B.get? b = some o)
    (k2 : ∀ b o, s.heap.get? b = some o → b ∉ frs X.stack → ∃ o', B.get? b = some o') (hfl : Heap.FlyingW B X.stack x cls a0 h) (up : s'.heap.UpToSlots h) : Fly X.prog X.w X.stack H s x cls H' { s' with heap := h } :=
  ⟨f.os, f.bare, ⟨B, a0, hfl, hB, k1, k2⟩, fun b o e n hb => by
    obtain ⟨sl, e1⟩ := f.slot b o e n hb
    obtain ⟨sl2, e2⟩ := up b _ e1 (show ∀ vs, o.data ≠ .fields vs from I.nodata hb e)
    exact ⟨sl2, e2⟩, f.free, f.tups, f.frzs, f.tbls, f.new⟩
theorem fly_land {M : Model} {E : Value → Shared → Prop} {Q : Unit → Shared → Prop} (I : Inv X pins σ H s) (f : Fly X.prog X.w X.stack H s x cls H' s') (hst : X.stack = X.env :: X.outer) (hf : X.env.frame = some X.env.locals)
    (k : ∀ s'', Fly X.prog X.w X.stack H s x cls H' s'' → Q () s'') : wpAny M X.A (noteFrame (.ref x) X.env) (fun _ s2 => wpAny M X.A (setFlight (.ref x) none) Q E s2) E s' := by
  obtain ⟨B, a0, hfl, hB, k1, k2⟩ := f.ex
  have hfl' := hfl
  rw [hst] at hfl'
  refine wpAny_looks_onW (base := B) (by rw [← hst]; exact I.ok.frames) hf hfl' fun h1 hh up1 => ?_
  refine wpAny_landsW hh fun h2 hfl2 up2 => ?_
  rw [← hst] at hfl2
  exact k _ (f.to I hB k1 k2 hfl2 (up1.trans up2))
theorem fly_again {M : Model} {A : Around} {E : Value → Shared → Prop} {Q : Unit → Shared → Prop} (I : Inv X pins σ H s) (f : Fly X.prog X.w X.stack H s x cls H' s')
    (k : ∀ s'', Fly X.prog X.w X.stack H s x cls H' s'' → Q () s'') : wpAny M A (setFlight (.ref x) none) Q E s' := by
  obtain ⟨B, a0, hfl, hB, k1, k2⟩ := f.ex
  exact lands_againW hfl fun h2 hfl2 up2 => k _ (f.to I hB k1 k2 hfl2 up2)
theorem Fly.there (f : Fly X.prog X.w X.stack H s x cls H' s') : ∃ o, s'.heap.get? x = some o ∧ o.cls = cls := by
  obtain ⟨B, a0, hfl, _⟩ := f.ex
  exact hfl.there
theorem Inv.track (I : Inv X pins σ H s) (hx : H x = none) (he : ∃ o, s.heap.get? x = some o ∧ o.cls = cls) (ne : x ≠ X.env.locals) (nc : ∀ y c, X.env.cells.lookup y = some c → c ≠ x) (np : ∀ p ∈ X.pn ++ pins, p.1 ≠ x) (nb : X.s₀.heap.get? x = none) : Inv X pins σ (upd H x (excO x cls)) s := by
  obtain ⟨o, eo, ec⟩ := he
  refine ⟨I.ok, I.os, I.bare, ⟨I.base.keep, I.base.slot, fun b ob q n hb => ?_, I.base.there, fun b xs q => ?_, fun b ob u q => ?_, fun b ps q => ?_⟩, I.loc, I.cell, ?_, fun y c e => ?_, fun p hp => ?_, fun b u q => ?_, I.len⟩
  · rw [upd_ne (fun z => by rw [z, nb] at q; cases q)]; exact I.base.free b ob q n hb
  · have := I.base.tups b xs q; rw [upd_ne (ne_of_none this hx)]; exact this
  · have := I.base.frzs b ob u q; rw [upd_ne (ne_of_none this hx)]; exact this
  · obtain ⟨m, e⟩ := I.base.tbls b ps q
    exact ⟨m, by rw [upd_ne (ne_of_none e hx)]; exact e⟩
  · rw [upd_ne (Ne.symm ne)]; exact I.free
  · rw [upd_ne (nc y c e)]; exact I.freeC y c e
  · obtain ⟨p1, p2, p3⟩ := I.pin p hp
    exact ⟨p1, by rw [upd_ne (np p hp)]; exact p2, p3⟩
  · by_cases hb : b = x
    · subst hb
      rw [upd_same] at q; cases q
      exact ⟨⟨o, eo, ec⟩, ⟨o, eo⟩, fun h1 h2 ⟨o1, e1, c1⟩ k => ⟨o1, k o1 e1, c1⟩⟩
    · rw [upd_ne hb] at q
      exact (I.hok b u q).stay (fun c v _ z => z) (fun c z => by rw [upd_ne (ne_of_none z hx)]; exact z) fun c xs z => by rw [upd_ne (ne_of_none z hx)]; exact z
theorem gone_ok {M : Model} {A : Around} {E : Value → Shared → Prop} {i : Nat} {n : Str} {pos : Pos} {Q : Unit → Shared → Prop} (I : Inv X pins σ H s) (hN : X.N.Nodup) (hi : X.N[i]? = some n) (hk : X.env.scope.names.lookup n = some .local)
    (h : ∀ s', Inv X pins (σ.set i none) H s' → Q () s') : wpAny M A (do bindName X.env n .none; unbindBehindTheSuite X.env n pos) Q E s := by
  obtain ⟨m, hn, hl⟩ := id I.loc
  have hcls : (X.env.scope.kind == .class || (X.env.scope.kind == .module && X.env.locals != X.env.globals)) = false := by rw [I.ok.kind]; rfl
  refine wpAny_nameGoes_keeps hk hn hcls fun h' v hn' hs => ?_
  obtain ⟨oL, _, _, hoL, _⟩ := id hn
  have lt : ∀ b o, X.s₀.heap.get? b = some o → b ≠ X.env.locals := fun b o e => Nat.ne_of_lt (Nat.lt_of_lt_of_le (Heap.lt_size e) I.ok.above)
  refine h _ ⟨I.ok, I.os, I.bare, ⟨fun b o e q hb hx => (hs.2 b (lt b o e)).trans (I.base.keep b o e q hb hx), fun b o e q hb hx => ?_, I.base.free, fun b o e hx => ?_, I.base.tups, I.base.frzs, I.base.tbls⟩, ⟨_, hn', fun j y w e1 e2 e3 => ?_⟩, fun y c e => ?_, I.free, I.freeC, fun p hp => ?_, fun b ob e => ?_, by simpa using I.len⟩
  · obtain ⟨sl, e1⟩ := I.base.slot b o e q hb hx
    exact ⟨sl, (hs.2 b (lt b o e)).trans e1⟩
  · obtain ⟨o', e1⟩ := I.base.there b o e hx
    exact ⟨o', (hs.2 b (lt b o e)).trans e1⟩
  · have hji : j ≠ i := fun z => by
      subst z
      rw [List.getElem?_set_self (by rw [I.len]; exact (List.getElem?_eq_some_iff.mp hi).1)] at e2
      cases e2
    rw [List.getElem?_set_ne (Ne.symm hji)] at e2
    obtain ⟨u, r, q⟩ := hl j y w e1 e2 e3
    refine ⟨u, r, ?_⟩
    rcases q with ⟨k, e⟩ | ⟨k, c, e, z⟩
    · refine .inl ⟨k, ?_⟩
      have : y ≠ n := fun e => hji (nodup_ix hN e1 (e ▸ hi))
      simp [this, e]
    · exact .inr ⟨k, c, e, z.sameBut hs (I.cne y c e)⟩
  · obtain ⟨w', z⟩ := I.cell y c e
    exact ⟨w', z.sameBut hs (I.cne y c e)⟩
  · obtain ⟨e, q, ne, nf, d⟩ := I.pin p hp
    exact ⟨(hs.2 p.1 ne).trans e, q, ne, nf, d⟩
  · refine (I.hok b ob e).stay (fun c w' hc q => (hs.2 c ?_).trans q) (fun _ q => q) fun _ _ q => q
    rintro rfl
    have nl := I.free
    rcases hc with hc | hc
    · rw [hc, e] at nl; cases nl
    · rw [nl] at hc; cases hc
end

theorem exc_match {M : Model} {A : Around} {E : Value → Shared → Prop} {h : Heap} {g : Array GenState} {d : Drawn} {t : Nat} {os : OsState} {K : PySem.W.Frag} {e C D : Addr} {oe : Obj} {Q : Bool → Shared → Prop} (hk : K.In h) (xC : ExC K C) (xD : ExC K D)
    (he : h.get? e = some oe) (hcls : oe.cls = .ref C) (hq : Q (subIn K C D) ⟨h, g, d, t, os⟩) : wpAny M A (excMatches (.ref e) (.ref D)) Q E ⟨h, g, d, t, os⟩ := by
  obtain ⟨tl, N, nm, qn, bs, hd, sn, sb, ab, cl, dd, a0, a1, a2, a3, a5, mN, hC, hN, hni, T, sub⟩ := exc_obj hk xC
  obtain ⟨tl', N', nm', qn', bs', hd', sn', sb', ab', cl', dd', b0, b1, b2, b3, b5, mN', hD, hN', hni', T', sub'⟩ := exc_obj hk xD
  have cB : (Value.ref D :: tl').contains (.type "BaseException") = true := by rw [List.contains_cons, T'.hasType (X := "BaseException") (b := true) (by decide), Bool.or_true]
  have cD := sub D
  have f := tc_notTuple
  unfold excMatches
  repeat (first | (with_reducible refine wpAny_loadPart_at he ?_; rw [hcls]) | with_reducible refine wpAny_loadPart_at hD ?_ | (with_reducible refine wpAny_isSubtype_exc hD ?_; rw [cB]) | (with_reducible refine wpAny_isSubtype_exc hC ?_; rw [cD]) | wp_step)
  all_goals (cases hb : subIn K C D <;> (rw [hb] at hq; first | exact hq | (wp_walk; exact hq)))
noncomputable def PH (X : Cx) (hs : List ExceptHandler) (th : Value → TS) : Prop :=
  ∀ (pins : List (Addr × Obj)) (s0 s : Shared) (σ : St) (H H' : Hp) (x : Addr) (cls : Value) (D : Ends), Inv X pins σ H s0 → Fly X.prog X.w X.stack H s0 x cls H' s → th cls D σ H' → wpAny (model X.prog X.w) X.A (handleBy (.ref x) X.env hs) (SP X pins D) X.xe s
noncomputable def thNever : Value → TS := fun _ _ _ _ => False
theorem ph_never {X : Cx} {hs : List ExceptHandler} : PH X hs thNever := fun _ _ _ _ _ _ _ _ _ _ _ h => h.elim
noncomputable def Ends.gone (D : Ends) (i : Nat) : Ends := ⟨fun σ H => D.nx (σ.set i none) H, D.rt, fun σ H => D.bk (σ.set i none) H, fun σ H => D.ct (σ.set i none) H⟩
noncomputable def thAs (K : PySem.W.Frag) (Dx : Addr) (i : Nat) (ts : TS) (tr : Value → TS) : Value → TS := fun cls D σ H => ∃ C, cls = .ref C ∧ ExC K C ∧
  if subIn K C Dx = true then ∀ x, H x = none → ts (D.gone i) (σ.set i (some (.ref x))) (upd H x (excO x (.ref C))) else tr cls D σ H
section
variable {X : Cx} {x n : Str} {Dx : Addr} {np hpos : Pos} {b0 : Stmt} {suite : List Stmt} {rest : List ExceptHandler} {ts : TS} {tr : Value → TS} {i : Nat}
theorem SP.back {pins : List (Addr × Obj)} {D : Ends} {y : Addr} (ok : X.Ok) {f : Flow} {s : Shared} (h : SP (suiteX X y) pins D f s) : SP X pins D f s := by
  cases f with
  | next => obtain ⟨σ', H', I, q⟩ := h; exact ⟨σ', H', I.unsuite ok, q⟩
  | brk => obtain ⟨σ', H', I, q⟩ := h; exact ⟨σ', H', I.unsuite ok, q⟩
  | cont => obtain ⟨σ', H', I, q⟩ := h; exact ⟨σ', H', I.unsuite ok, q⟩
  | ret u => obtain ⟨v, σ', H', I, r, q⟩ := h; exact ⟨v, σ', H', I.unsuite ok, r, q⟩
theorem ph_as (hg : Gl X x) (hm : X.mg x = some (.ref Dx)) (hx : ExC X.K Dx) (hN : X.N.Nodup) (hi : X.N[i]? = some n) (hk : X.env.scope.names.lookup n = some .local) (hs : ∀ y, PSs (suiteX X y) (b0 :: suite) ts) (hr : PH X rest tr) (hex : X.ex = [] := by rfl)
    (hdb : (x == ("__debug__" : Str)) = false := by decide) : PH X (.ExceptHandler (some (.Name x np)) (some n) (b0 :: suite) hpos :: rest) (thAs X.K Dx i ts tr) := by
  intro pins s0 s σ H H' y cls D I fl h
  obtain ⟨C, rfl, hC, h⟩ := h
  have I1 : Inv X pins σ H' s := fl.inv I
  obtain ⟨oe, he, hcls⟩ := fl.there
  refine wpAny_handleBy_cons (codeAny_handlers_test ?_) (by intro q; cases q)
  refine ld_glob (X := suiteX X y) I1.suite hg hm ?_ hdb
  refine exc_match (K := X.K) (g := s.gens) (d := s.drawn) (t := s.toks) (os := s.os) I1.kIn hC hx he hcls ?_
  cases hb : subIn X.K C Dx with
  | false =>
    rw [hb, if_neg Bool.false_ne_true] at h
    exact hr pins s0 s σ H H' y (.ref C) D I fl h
  | true =>
    rw [hb, if_pos rfl] at h
    show codeAny _ _ (.handlers (.ref y) [.ExceptHandler none (some n) (b0 :: suite) hpos] X.env) _ s
    refine codeAny_handlers_suite_as ?_
    refine fly_again I fl fun s2 fl2 => ?_
    have I2 : Inv X pins σ H' s2 := fl2.inv I
    have hyn : H' y = none := fl2.new
    obtain ⟨B, a0, hfl, hB, k1, k2⟩ := fl2.ex
    have nB : B.get? y = none := hfl.2.1
    have nst : y ∉ frs X.stack := fun z => by
      obtain ⟨_, o1, e1, d⟩ := hfl.2.2.1.mem z
      obtain ⟨o2, vs, e2, _, d2, _⟩ := hfl.first
      rw [e1] at e2; cases e2
      exact d _ d2
    have n0 : s0.heap.get? y = none := by
      cases q : s0.heap.get? y with
      | none => rfl
      | some o => obtain ⟨o', e⟩ := k2 y o q nst; rw [nB] at e; cases e
    have J : Inv X pins σ (upd H' y (excO y (.ref C))) s2 := by
      refine I2.track hyn fl2.there (fun z => ?_) (fun z c e q => ?_) (fun p hp q => ?_) ?_
      · obtain ⟨m, ⟨o, _, _, ho, _⟩, _⟩ := I.loc
        rw [← z, n0] at ho; cases ho
      · obtain ⟨v, o, ho, _⟩ := I.cell z c e
        rw [q, n0] at ho; cases ho
      · have := (I.pin p hp).1
        rw [q, n0] at this; cases this
      · cases q : X.s₀.heap.get? y with
        | none => rfl
        | some o =>
          obtain ⟨o', e⟩ := I.base.there y o q (by rw [hex]; exact List.not_mem_nil)
          rw [n0] at e; cases e
    have J' : Inv (suiteX X y) pins σ (upd H' y (excO y (.ref C))) s2 := J.suite
    refine store_ok (X := suiteX X y) J' hN hi (.inl hk) (show RelV (.ref y) (.ref y) from rfl) (fun s3 I3 => ?_) (.inr hk)
    refine wpAny_mono (hs y pins s3 _ _ (D.gone i) I3 (h y hyn)) (fun f s4 q4 => ?_) fun _ _ z => False.elim z
    have q5 := SP.back I.ok q4
    cases f with
    | next => obtain ⟨σ', H2, I4, q⟩ := q5; exact gone_ok I4 hN hi hk fun s5 I5 => ⟨_, _, I5, q⟩
    | brk => obtain ⟨σ', H2, I4, q⟩ := q5; exact gone_ok I4 hN hi hk fun s5 I5 => ⟨_, _, I5, q⟩
    | cont => obtain ⟨σ', H2, I4, q⟩ := q5; exact gone_ok I4 hN hi hk fun s5 I5 => ⟨_, _, I5, q⟩
    | ret u => obtain ⟨v, σ', H2, I4, r, q⟩ := q5; exact gone_ok I4 hN hi hk fun s5 I5 => ⟨v, _, _, I5, r, q⟩

noncomputable abbrev _root_.L2.Cx.inTry (X : Cx) (E : Value → Shared → Prop) (pn : List (Addr × Obj)) : Cx := { X with xe := E, pn := pn }
noncomputable def tTry (tb : XW → TS) (th : Value → TS) : TS := fun D σ H => ∃ W : XW, tb W D σ H ∧ ∀ σ1 cls H1, W σ1 cls H1 → th cls D σ1 H1
theorem Inv.tried {E : Value → Shared → Prop} {pins : List (Addr × Obj)} {σ : St} {H : Hp} {s : Shared} (I : Inv X pins σ H s) : Inv (X.inTry E (X.pn ++ pins)) [] σ H s :=
  ⟨⟨I.ok.mod, I.ok.kind, I.ok.glob, I.ok.blt, I.ok.above, I.ok.inj, I.ok.has, I.ok.cab, I.ok.hd, I.ok.frames, I.ok.stk, I.ok.exf, I.ok.bs, I.ok.bsz, I.ok.noex, I.ok.exfs, I.ok.funs, I.ok.frf⟩, I.os, I.bare, I.base, I.loc, I.cell, I.free, I.freeC, fun p hp => I.pin p (by simpa using hp), I.hok, I.len⟩
theorem Inv.untried {E : Value → Shared → Prop} {pins pins1 : List (Addr × Obj)} {σ : St} {H : Hp} {s : Shared} (I : Inv (X.inTry E (X.pn ++ pins)) pins1 σ H s) : Inv X pins σ H s :=
  ⟨⟨I.ok.mod, I.ok.kind, I.ok.glob, I.ok.blt, I.ok.above, I.ok.inj, I.ok.has, I.ok.cab, I.ok.hd, I.ok.frames, I.ok.stk, I.ok.exf, I.ok.bs, I.ok.bsz, I.ok.noex, I.ok.exfs, I.ok.funs, I.ok.frf⟩, I.os, I.bare, I.base, I.loc, I.cell, I.free, I.freeC, fun p hp => I.pin p (List.mem_append_left _ hp), I.hok, I.len⟩
theorem ps_try {body : List Stmt} {h0 : ExceptHandler} {hs : List ExceptHandler} {pos : Pos} {tb : XW → TS} {th : Value → TS} (hst : X.stack = X.env :: X.outer) (hf : X.env.frame = some X.env.locals)
    (hb : ∀ (E : Value → Shared → Prop) (pn : List (Addr × Obj)) (W : XW), Fl (X.inTry E pn) W → PSs (X.inTry E pn) body (tb W)) (hh : PH X (h0 :: hs) th) : PS X (.Try body (h0 :: hs) [] [] pos) (tTry tb th) := by
  intro pins s σ H D I h
  obtain ⟨W, h1, h2⟩ := h
  refine wpAny_Try_except ?_
  refine wpAny_mono (hb (fun e s₁ => wpAny (model X.prog X.w) X.A (noteFrame e X.env) (fun _ s₂ => wpAny (model X.prog X.w) X.A (setFlight e none) (fun _ s₃ => wpAny (model X.prog X.w) X.A (handleBy e X.env (h0 :: hs)) (SP X pins D) X.xe s₃) X.xe s₂) X.xe s₁) (X.pn ++ pins) W ?_ [] s σ H D I.tried h1) (fun f s1 q => ?_) fun e s1 q => q
  · intro pins1 σ1 H1 s1 x cls H' s' I1 fly w1
    exact fly_land (X := X) (pins := pins) I1.untried fly hst hf fun s2 fly2 => hh pins s1 s2 σ1 H1 H' x cls D I1.untried fly2 (h2 σ1 cls H' w1)
  · cases f with
    | next => obtain ⟨σ', H', I', q⟩ := q; exact wpAny_execs_nil ⟨σ', H', I'.untried, q⟩
    | brk => obtain ⟨σ', H', I', q⟩ := q; exact ⟨σ', H', I'.untried, q⟩
    | cont => obtain ⟨σ', H', I', q⟩ := q; exact ⟨σ', H', I'.untried, q⟩
    | ret u => obtain ⟨v, σ', H', I', r, q⟩ := q; exact ⟨v, σ', H', I'.untried, r, q⟩
end
end L2
set_option Elab.async false
set_option linter.all false
set_option maxRecDepth 100000
namespace L2
open PySem PySem.Spec PyProof.Rows

theorem looks_cls {M : Model} {h : Heap} {x : Addr} {o : Obj} {t : Value} (e : h.get? x = some o) (c : o.cls = t) : PySem.W.Looks M h (typeOf (.ref x)) t := by
  intro A Q E s k q
  show wpAny M A (loadHead x >>= fun o => pure o.cls) Q E s
  unfold loadHead
  exact wpAny_bind (wpAny_loadPart (k _ _ e) (wpAny_pure (by rw [c]; exact q)))
section
variable {X : Cx}
end
theorem fl_no {X : Cx} : Fl X fun _ _ _ => False := fun _ _ _ _ _ _ _ _ _ _ h => h.elim
noncomputable abbrev ClsN (K : PySem.W.Frag) (x : Str) (C : Addr) : Prop := PySem.W.nsIn K mainGlobals x = some (some (.ref C))
theorem ClsN.inj {K : PySem.W.Frag} {x : Str} {C D : Addr} (a : ClsN K x C) (b : ClsN K x D) : C = D := by
  have := a.symm.trans b
  cases this
  rfl
theorem pe_cls {X : Cx} {x : Str} {C : Addr} {pos : Pos} (hg : Gl X x) (hm : X.mg x = some (.ref C)) (hd : (x == ("__debug__" : Str)) = false := by decide) : PE X (.Name x pos) (tC (.ref C)) := pe_glob hg hm rfl hd
end L2
set_option Elab.async false
set_option linter.all false
set_option maxRecDepth 100000
namespace L2
open PySem PySem.Spec PyProof.Rows

section
variable {X : Cx} {K : PySem.W.Frag}
theorem ix_listK (h : X.K = K) : IxR X (rIxL K) := by subst h; exact ix_list
theorem ix_tupK (h : X.K = K) : IxR X (rIxT K) := by subst h; exact ix_tup
theorem sl_listK (h : X.K = K) : SlR X (rSlL K) := by subst h; exact sl_list
theorem op_notIn_seqK (h : X.K = K) : OpR X (compareOp .NotIn) (rIn K true) := by subst h; exact op_notIn_seq
end
theorem iteY {b : Bool} {A B : Prop} (h : b = true) (k : A) : if b = true then A else B := by rw [if_pos h]; exact k
theorem iteNo {b : Bool} {A B : Prop} (h : b = false) (k : B) : if b = true then A else B := by rw [h, if_neg Bool.false_ne_true]; exact k
end L2
set_option Elab.async false
set_option linter.all false
set_option maxRecDepth 100000
namespace L2
open PySem PySem.Spec PyProof.Rows

section
variable {α : Type} [DecidableEq α]
noncomputable def meet (acc : List α) (v : α) : List α := if v ∈ acc then acc else acc ++ [v]
noncomputable def met (val : Nat → α) (i : Nat) : List α := ((List.range i).map val).foldl meet []
theorem met_succ (val : Nat → α) (i : Nat) : met val (i + 1) = meet (met val i) (val i) := by
  unfold met; rw [List.range_succ, List.map_append, List.foldl_append]; rfl
theorem mem_meet {acc : List α} {v k : α} : k ∈ meet acc v ↔ k ∈ acc ∨ k = v := by
  unfold meet
  split
  · rename_i h
    exact ⟨.inl, fun z => z.elim id fun e => by rw [e]; exact h⟩
  · rw [List.mem_append, List.mem_singleton]
theorem len_meet (acc : List α) (v : α) : (meet acc v).length = if decide (v ∈ acc) = true then acc.length else acc.length + 1 := by
  unfold meet
  by_cases h : v ∈ acc
  · rw [if_pos h, decide_eq_true h, if_pos rfl]
  · rw [if_neg h, decide_eq_false h, if_neg (by decide), List.length_append]; rfl
theorem met_len (val : Nat → α) : ∀ i, (met val i).length ≤ i
  | 0 => Nat.le_refl _
  | i + 1 => by
    rw [met_succ, len_meet]
    have := met_len val i
    split <;> omega
theorem met_list (ts : List α) (d : α) : met (fun i => ts.getD i d) ts.length = ts.foldl meet [] := by
  unfold met
  congr 1
  refine List.ext_getElem (by simp) fun i h1 h2 => ?_
  rw [List.getElem_map, List.getElem_range, List.getD_eq_getElem?_getD, List.getElem?_eq_getElem h2]
  rfl
theorem fold_meet_le (acc ts : List α) : (ts.foldl meet acc).length ≤ acc.length + ts.length := by
  induction ts generalizing acc with
  | nil => exact Nat.le_refl _
  | cons a ts ih =>
    rw [List.foldl_cons]
    refine Nat.le_trans (ih _) ?_
    rw [len_meet, List.length_cons]
    split <;> omega
theorem fold_meet_full (acc ts : List α) (hacc : acc.Nodup) : (ts.foldl meet acc).length = acc.length + ts.length ↔ (acc ++ ts).Nodup := by
  induction ts generalizing acc with
  | nil => simpa using hacc
  | cons a ts ih =>
    rw [List.foldl_cons]
    by_cases h : a ∈ acc
    · have e : meet acc a = acc := by unfold meet; rw [if_pos h]
      rw [e]
      constructor
      · intro q
        have := fold_meet_le acc ts
        rw [List.length_cons] at q
        omega
      · intro q
        rw [List.nodup_append] at q
        exact absurd rfl (q.2.2 a h a List.mem_cons_self)
    · have e : meet acc a = acc ++ [a] := by unfold meet; rw [if_neg h]
      have hn : (acc ++ [a]).Nodup := by
        rw [List.nodup_append]
        exact ⟨hacc, by simp, fun x hx y hy z => h (by rw [List.mem_singleton.mp hy] at z; rw [← z]; exact hx)⟩
      rw [e]
      have := ih (acc ++ [a]) hn
      rw [List.append_assoc, List.singleton_append] at this
      rw [← this, List.length_append, List.length_singleton, List.length_cons]
      omega
theorem met_full (ts : List α) (d : α) : (met (fun i => ts.getD i d) ts.length).length = ts.length ↔ ts.Nodup := by
  rw [met_list]
  have := fold_meet_full [] ts List.nodup_nil
  simpa using this
end

section
variable {prog : Program} {w : World} {A : Around} {R : Result → Shared → Prop} {it : Addr} {fp wr : List Addr} {G : Array GenState → Array GenState → Prop} {n : Nat} {P : Nat → Value → Prop} {St : Nat → Shared → Prop}
variable {α : Type} [DecidableEq α] {knd : KeyKind prog w α}
theorem setOf_moved {h h' : Heap} {a : Addr} {S : α → Bool} {m : Nat} (x : h.SetOf knd a S m) (k : ∀ o, h.get? a = some o → h'.get? a = some o) : h'.SetOf knd a S m := by
  obtain ⟨o, es, ep, t, ho, r⟩ := x
  exact ⟨o, es, ep, t, k _ ho, r⟩
theorem setOf_as {h : Heap} {a : Addr} {S S' : α → Bool} {m m' : Nat} (x : h.SetOf knd a S m) (e : S = S') (e' : m = m') : h.SetOf knd a S' m' := by subst e; subst e'; exact x
theorem set_fill (W : WalksS prog w A.in1 it fp wr G n P St) (S : Addr) (hS : S ∉ fp) (val : Nat → α) (hv : ∀ i v, P i v → knd.is (val i) v = true ∧ v.scannable = true) (hb : n + 1 < scanBound) :
    ∀ (k i : Nat) (s : Shared), k + i = n → St i s → s.heap.SetOf knd S (fun x => decide (x ∈ met val i)) (met val i).length →
      (∀ s', Moved (S :: wr) G s s' → s'.heap.SetOf knd S (fun x => decide (x ∈ met val n)) (met val n).length → R (.ok (.ret .none)) s') →
      codeAny (model prog w) A (.builtin "set.update.loop" ⟨[.ref S, .ref it], []⟩) R s := by
  have hw : S ∉ wr := fun z => hS (W.sub _ z)
  intro k
  induction k with
  | zero =>
    intro i s hk st hs hR
    rw [Nat.zero_add] at hk
    subst hk
    refine codeAny_builtin F.entry_set_update_loop ?_
    rw [Around.under_plainId F.plain_set_update_loop _]
    refine wpAny_bind (W.done s _ _ st fun s' hm => ?_)
    exact wpAny_pure (hR s' (hm.mono fun b z => List.mem_cons_of_mem _ z) (setOf_moved hs fun o e => hm.heap S o hw e))
  | succ k ih =>
    intro i s hk st hs hR
    refine codeAny_builtin F.entry_set_update_loop ?_
    rw [Around.under_plainId F.plain_set_update_loop _]
    refine wpAny_bind (W.item i s _ _ (by omega) st fun v s' hP st' hm => ?_)
    obtain ⟨kv, sv⟩ := hv i v hP
    have hs' := setOf_moved hs fun o e => hm.heap S o hw e
    refine wpAny_bind (m := holding [v] (setAdd S v)) (wpAny_holding ?_)
    unfold setAdd
    refine wpAny_holding (wpAny_bind (knd.pyHash kv ?_))
    refine wpAny_setAddHashed_of (knd := knd) (s := { s' with toks := s'.toks + 1 }) kv sv hs' (by have := met_len val i; omega) fun h' hsb hs2 => ?_
    have hs3 : h'.SetOf knd S (fun x => decide (x ∈ met val (i + 1))) (met val (i + 1)).length := by
      refine setOf_as hs2 (funext fun x => ?_) ?_
      · rw [met_succ]
        by_cases h1 : x ∈ met val i
        · rw [decide_eq_true h1, decide_eq_true (mem_meet.mpr (.inl h1)), Bool.true_or]
        · by_cases h2 : x = val i
          · rw [decide_eq_true h2, decide_eq_true (mem_meet.mpr (.inr h2)), Bool.or_true]
          · rw [decide_eq_false h1, decide_eq_false h2, decide_eq_false fun z => (mem_meet.mp z).elim h1 h2]; rfl
      · rw [met_succ, len_meet]
    refine wpAny_pure ⟨plainId_quiet F.plain_set_update_loop _, ih (i + 1) _ (by omega) (W.frame _ s' _ _ st' (Nat.le_succ _) fun b hb o e => ?_) hs3 fun s'' hm'' => hR s'' ?_⟩
    · rw [hsb.2 b fun z => hS (by rw [← z]; exact hb)]; exact e
    · refine Moved.trans W.gtrans ((hm.mono fun b z => List.mem_cons_of_mem _ z).then_heap (Nat.le_succ _) fun b o hb e => ?_) hm''
      rw [hsb.2 b fun z => hb (by rw [z]; exact List.mem_cons_self)]; exact e
end

section
variable {prog : Program} {w : World} {A : Around} {E : Value → Shared → Prop} {s : Shared} {α : Type} [DecidableEq α] {knd : KeyKind prog w α}
noncomputable def Filled (knd : KeyKind prog w α) (s : Shared) (ks : List α) (s2 : Shared) : Prop :=
  ∃ (h' : Heap) (tk : Nat), s2 = { s with heap := h', toks := tk } ∧ h'.SetOf knd s.heap.objs.size (fun k => decide (k ∈ ks)) ks.length ∧ ∀ b o, b < s.heap.objs.size → s.heap.get? b = some o → h'.get? b = some o
set_option maxHeartbeats 3200000 in
theorem call_set_of {l : Addr} {items : Array Value} {val : Nat → α} {Q : Value → Shared → Prop} (hh : A.handled = none) (hl : s.heap.IsList l items) (hv : ∀ i v, items[i]? = some v → knd.is (val i) v = true ∧ v.scannable = true) (hb : items.size + 1 < scanBound)
    (h : ∀ s2, Filled knd s (met val items.size) s2 → Q (.ref s.heap.objs.size) s2) : wpAny (model prog w) A (call (.type "set") [.ref l]) Q E s := by
  have hlt : l < s.heap.objs.size := by obtain ⟨o, e, _⟩ := hl; exact Heap.lt_size e
  obtain ⟨c, tl, hmro⟩ := F.called_set.mro
  have hmade := F.called_set.made
  have hsub := F.called_set.sub
  refine wpAny_call (codeAny_of_tree ?_)
  show wpAny _ _ (callAny (.type "set") _) _ _ _
  refine wpAny_pure ⟨Code.quiet_builtin _ (by decide +kernel), codeAny_builtin F.entry_type_call ?_⟩
  rw [Around.under_plain (weight_type_call_type "set" [.ref l] []) rfl]
  have h1 := F.called_set.notType
  have h2 := F.called_set.canCreate
  have h3 := F.typeCall_set_1 (.ref l)
  repeat (any_goals (first | assumption | wp_step))
  refine codeAny_mono (code_set_new_1 (.ref l) (E := E) (Q₁ := fun v s₁ => ∃ led : Bool, v = .ref s.heap.objs.size ∧ s₁ = { s with heap := s.heap.push { cls := .type "set", dict := none, data := .set #[] 0 (.fresh 0 0 led) } }) fun led => ⟨led, rfl, rfl⟩) fun r s₁ hr => ?_
  rcases r with e | fl
  · exact hr
  cases fl with
  | ret v =>
    obtain ⟨led, rfl, rfl⟩ := hr
    generalize hob : ({ cls := .type "set", dict := none, data := .set #[] 0 (.fresh 0 0 led) } : Obj) = ob
    have hS : (s.heap.push ob).get? s.heap.objs.size = some ob := Heap.get?_push_size _ (by rw [← hob]; rfl)
    have hT : Shared.TypeIs { s with heap := s.heap.push ob } (.ref s.heap.objs.size) "set" := ⟨_, hS, by rw [← hob]⟩
    have h4 := F.called_set.init.lookup
    have h5 := F.called_set.init.bind (.ref s.heap.objs.size)
    repeat (any_goals (first | assumption | wp_step))
    refine codeAny_mono (codeAny_call_builtin (R := wants (fun r s₂ => r = .none ∧ Filled knd s (met val items.size) s₂) E) F.called_set.init.plain F.entry_set_init (check_set_init_1 hT ?_)) fun r₂ s₂ hr₂ => ?_
    · have hl1 : (s.heap.push ob).IsList l items := hl.push _
      obtain ⟨⟨ocls, odict, odata, oslots⟩, hol, hcl, nl, hdl⟩ := id hl1
      simp only at hcl hdl
      subst hcl hdl
      have h6 := F.sub_list_set
      have h7 := F.sub_list_frozenset
      have h8 : (Value.type "list" == Value.type "dict") = false := by decide
      subst hob
      unfold Builtin.«set.__init__» noKeywords Builtin.Frozenset.updateFrom
      generalize hPI : pyIter = PI
      wp_walk
      subst hPI
      refine wpAny_pyIter_list hl1 (wpAny_bind (wpAny_runValue ?_))
      have hsz : (s.heap.push { cls := .type "set", dict := none, data := .set #[] 0 (.fresh 0 0 led) }).objs.size = s.heap.objs.size + 1 := Heap.size_push ..
      refine set_fill (knd := knd) ((Walks.list (by simp [hh]) _ l (by rw [hsz]; exact Nat.ne_of_lt (Nat.lt_succ_of_lt hlt)) items).toS) s.heap.objs.size ?_ val hv hb items.size 0 _ rfl ⟨⟨_, Heap.get?_push_size _ rfl, rfl, rfl⟩, hl1.push _⟩ ?_ fun s' hm hS' => ?_
      · rw [hsz]
        simp only [List.mem_cons, List.not_mem_nil, or_false, not_or]
        exact ⟨Nat.ne_of_lt (Nat.lt_succ_self _), Nat.ne_of_gt hlt⟩
      · exact setOf_as ((setObjOf_fresh (knd := knd) led).setOf (Heap.get?_push_of_some _ hS) (by unfold scanBound; omega)) rfl rfl
      · obtain ⟨h', g', d', tk', os'⟩ := s'
        have eg : g' = s.gens := hm.gens
        have ed : d' = s.drawn := hm.drawn
        have eo : os' = s.os := hm.os
        subst eg ed eo
        refine wpAny_pure (show wpAny _ _ (ret Value.none) _ _ _ from wpAny_pure ⟨rfl, h', tk', rfl, hS', fun b o hb e => ?_⟩)
        refine hm.heap b o ?_ (Heap.get?_push_of_some _ (Heap.get?_push_of_some _ e))
        rw [hsz]
        simp only [List.mem_cons, List.not_mem_nil, or_false, not_or]
        exact ⟨Nat.ne_of_lt hb, Nat.ne_of_lt (Nat.lt_succ_of_lt hb)⟩
    · rcases r₂ with e | fl₂
      · exact hr₂
      cases fl₂ with
      | ret r =>
        obtain ⟨rfl, hf⟩ := hr₂
        repeat (any_goals (first | assumption | wp_step))
        exact h _ hf
      | _ => exact hr₂.elim
  | _ => exact hr.elim
end
end L2
set_option Elab.async false
set_option linter.all false
set_option maxRecDepth 100000
namespace L2
open PySem PySem.Spec PyProof.Rows
section
variable {X : Cx}

theorem op_le_str : OpR X (compareOp .LtE) (fun x y H Q => ∃ i j, x = .str i ∧ y = .str j ∧ Q (.bl (!decide (j.cps.toList < i.cps.toList))) H) := by
  intro pins s σ H x y v u Q I rx ry h
  obtain ⟨i, j, rfl, rfl, q⟩ := h
  obtain ⟨t, rfl⟩ := rx
  obtain ⟨t', rfl⟩ := ry
  exact PySem.P.le_str (fin_bl I q rfl)
noncomputable def rSlS : V → Option Int → Option Int → Hp → VK → Prop := fun x lo hi H Q => ∃ z, x = .str z ∧ z.length ≤ sizeLine ∧ Q (.str (PySem.Txt.slice z lo hi)) H
theorem part_as {v : Value} {o : Option Int} (h : IsPart v o) : ∃ p : Option (Int × Tok), v = partValue p ∧ p.map (·.1) = o := by
  cases h with
  | none => exact ⟨none, rfl, rfl⟩
  | int i t => exact ⟨some (i, t), rfl, rfl⟩
theorem sl_str : SlR X rSlS := by
  intro pins s σ H x v vl vu lo hi sl Q I rx hs pl pu h
  obtain ⟨z, rfl, hz, q⟩ := h
  obtain ⟨t, rfl⟩ := rx
  obtain ⟨l, rfl, rfl⟩ := part_as pl
  obtain ⟨u, rfl, rfl⟩ := part_as pu
  refine ⟨"str", _, PySem.F.slot_str_getitem.lookup, typeIs_str _ _ _, wpAny_getItem_str_slice (l := l) (u := u) (st := none) hs rfl (post_val_or_str ⟨Nat.le_trans (PySem.Txt.slice_le z _ _) hz, fun t' k => ?_⟩)⟩
  exact ⟨.str (PySem.Txt.slice z _ _), H, I.tok _, ⟨t', rfl⟩, q⟩

noncomputable def Its (z : Str) : It := ⟨fun i _ => i < z.length, fun i H x H' => H' = H ∧ ∃ c, z.cps[i]? = some c ∧ x = .str ⟨#[c]⟩, fun i _ => i = z.length⟩
theorem turn_str {P : Program} {w : World} {K : PySem.W.Frag} {tg : Expr} (it : Addr) (T : String) (z : Str) (t : Tok)
    (hT : ["enumerate", "zip", "dict_itemiterator", "dict_reverseitemiterator", "odict_iterator", "itertools.zip_longest", "itertools.pairwise"].contains T = false)
    (W : ∀ A : Around, A.handled = none → Walks P w A it [it] [it] z.cps.size (SignAt z) (fun i h => h.IsStrIter it T z t i))
    (slf : ∀ (A : Around) (i : Nat) (s : Shared) (Q : Value → Shared → Prop) (E : Value → Shared → Prop), s.heap.IsStrIter it T z t i → Q (.ref it) s → wpAny (model P w) A (pyIter (.ref it)) Q E s) :
    Turn P w K tg (Its z) [it] it (fun i h => h.IsStrIter it T z t i) where
  mem := by simp
  obj := fun i h st b hb => by
    have e : b = it := by simpa using hb
    subst e
    obtain ⟨o, e, c, d⟩ := st
    exact ⟨o, e, fun v z => by rw [d] at z; cases z⟩
  keep := fun i h h' st k => by obtain ⟨o, e, r⟩ := st; exact ⟨o, k it (by simp) o e, r⟩
  item := by
    intro X hP hw hK hc i pins s σ H E I hf st hg
    subst hP hw hK
    obtain ⟨f0, f1, f2, f3, f4, f5⟩ := hf it (by simp)
    refine (W X.A (I.ok.hd hc)).item i s _ _ hg st fun v h' tk hv st' kk => ?_
    obtain ⟨c, u, ec, rfl⟩ := hv
    have I1 : Inv X pins σ H { s with heap := h', toks := tk } := I.turned (fun b o hb e => kk b o (by simpa using hb) e) f0 f1 f3 f4 f5
    obtain ⟨o, e, c1, d⟩ := id st'
    exact ⟨_, rfl, go_of (s := { s with heap := h', toks := tk }) (n := T) e c1 d hT ⟨.str ⟨#[c]⟩, H, I1, ⟨u, rfl⟩, ⟨rfl, c, ec, rfl⟩, st', fun b hb => (hf b hb).1⟩⟩
  done := by
    intro X hP hw hK hc i pins s σ H E I hf st hg
    subst hP hw hK
    obtain ⟨f0, f1, f2, f3, f4, f5⟩ := hf it (by simp)
    have hg : i = z.cps.size := hg
    subst hg
    exact (W X.A (I.ok.hd hc)).done s _ _ st fun h' tk kk => ⟨rfl, I.turned (fun b o hb e => kk b o (by simpa using hb) e) f0 f1 f3 f4 f5⟩
  self := fun A i s Q E st h => slf A i s Q E st h
noncomputable def iStr (tl : TE) : TI := fun σ H R => tl σ H fun x H1 => ∃ z, x = .str z ∧ R (Its z) H1
theorem pi_str {tg l : Expr} {tl : TE} (hl : PE X l tl) : PI X tg l (iStr tl) := by
  intro pins s σ H R I h
  refine thn (hl pins s σ H _ I h) fun v s1 ⟨x, H1, I1, r1, q1⟩ => ?_
  obtain ⟨z, e, q⟩ := q1
  subst e
  obtain ⟨t, rfl⟩ := r1
  have hf : ∀ b ∈ [s1.heap.objs.size], FpOk X pins H1 b := fun b hb => by
    have e : b = s1.heap.objs.size := by simpa using hb
    subst e
    exact I1.fpOk (Nat.le_refl _) (I1.hok.fresh (Nat.le_refl _))
  have hk : ∀ o : Obj, Inv X pins σ H1 { s1 with heap := s1.heap.push o } := fun o => I1.kept (t' := s1.toks) fun b u e => Heap.get?_push_of_some _ e
  cases ha : z.cps.all (· < 128)
  · refine wpAny_pyIter_wide ha ⟨s1.heap.objs.size, [s1.heap.objs.size], _, _, H1, rfl, hk _, turn_str _ "str_iterator" z t (by decide) (fun A hA => Walks.strWide hA _ z t) (fun A i s Q E st h => wpAny_pyIter_striter_wide st h), ⟨_, Heap.get?_push_size _ rfl, rfl, rfl⟩, hf, q⟩
  · refine wpAny_pyIter_ascii ha ⟨s1.heap.objs.size, [s1.heap.objs.size], _, _, H1, rfl, hk _, turn_str _ "str_ascii_iterator" z t (by decide) (fun A hA => Walks.strAscii hA _ z t) (fun A i s Q E st h => wpAny_pyIter_striter_ascii st h), ⟨_, Heap.get?_push_size _ rfl, rfl, rfl⟩, hf, q⟩
theorem comp_str0 {z : Str} {c : St} {te : TE} {H : Hp} {fin : List V → Hp → Prop} (Pv : Nat → List V → Hp → Prop) (h0 : Pv 0 [] H) (hl : ∀ i ys H, i ≤ z.length → Pv i ys H → ys.length ≤ i) (hz : z.length ≤ sizeLine)
    (hs : ∀ i d ys H, z.cps.toList[i]? = some d → Pv i ys H → te (some (.str ⟨#[d]⟩) :: c) H fun y H3 => Pv (i + 1) (ys ++ [y]) H3) (hd : ∀ ys H, Pv z.length ys H → fin ys H) : wComp (Its z) c tYes te H fin := by
  refine ⟨fun i m ys H => m = z.length - i ∧ i ≤ z.length ∧ Pv i ys H, ⟨z.length, by simp, Nat.zero_le _, h0⟩, ?_⟩
  rintro i m ys H ⟨rfl, hi, p⟩
  have hy := hl i ys H hi p
  by_cases hlt : i < z.length
  · refine .inr ⟨hlt, by omega, Pv (i + 1), fun ys' H' p' => ⟨_, by omega, rfl, hlt, p'⟩, fun x H' y => ?_⟩
    obtain ⟨e, d, ed, ex⟩ := y
    subst e ex
    exact iteT (B := Pv (i + 1) ys H') (hs i d ys _ (by rw [Array.getElem?_toList]; exact ed) p)
  · have e : i = z.length := by omega
    subst e
    exact .inl ⟨rfl, by omega, hd ys H p⟩

theorem strs_val {ts : List Str} {us : List Value} (r : Vals (ts.map V.str) us) {i : Nat} {v : Value} (h : us[i]? = some v) (d : Str) : ∃ t, v = .str (ts.getD i d) t := by
  have hl := r.length
  rw [List.length_map] at hl
  have hi : i < ts.length := by rw [hl]; exact (List.getElem?_eq_some_iff.mp h).1
  obtain ⟨u, e, ru⟩ := r.get (i := i) (x := .str ts[i]) (by rw [List.getElem?_map, List.getElem?_eq_getElem hi]; rfl)
  rw [e] at h
  cases h
  obtain ⟨t, rfl⟩ := ru
  exact ⟨t, by rw [List.getD_eq_getElem?_getD, List.getElem?_eq_getElem hi]; rfl⟩
noncomputable def tLenSetS (K : PySem.W.Frag) (te : TE) : TE := fun σ H Q => te σ H fun x H1 => ∃ (a : Addr) (ts : List Str), x = .ref a ∧ SqL K H1 a (ts.map V.str) ∧ ts.length < 4000 ∧ Q (.int (met (fun i => ts.getD i "") ts.length).length) H1
theorem pe_lensetS {e : Expr} {te : TE} {p p2 pos pos2 : Pos} (hc : X.calm = true) (hg : Gl X "len") (hm : X.mg "len" = none) (hg2 : Gl X "set") (hm2 : X.mg "set" = none) (he : PE X e te)
    (h1 : starEach [.Call (.Name "set" p2) [e] [] pos2] X.env = [(false, eval (.Call (.Name "set" p2) [e] [] pos2) X.env)] := by rfl) (h2 : starEach [e] X.env = [(false, eval e X.env)] := by rfl) :
    PE X (.Call (.Name "len" p) [.Call (.Name "set" p2) [e] [] pos2] [] pos) (tLenSetS X.K te) := by
  intro pins s σ H Q I h
  refine wpAny_Call_Name_kw (ld_blt I hg hm PySem.boot_len ?_)
  refine PyProof.Rows.callWith_builtin1 ?_ h1 rfl
  rw [h1]
  show wpAny _ _ (spliced ((false, eval (.Call (.Name "set" p2) [e] [] pos2) X.env) :: backTo pos [])) _ _ s
  refine Calls.spliced_cons ?_
  refine wpAny_Call_Name_kw (ld_blt I hg2 hm2 PyProof.Rows.boot_set ?_)
  refine PyProof.Rows.callWith_type1 ?_ h2 rfl
  rw [h2]
  show wpAny _ _ (spliced ((false, eval e X.env) :: backTo pos2 [])) _ _ s
  refine Calls.spliced_cons (thn (he pins s σ H _ I h) fun v s1 ⟨x, H1, I1, r1, q1⟩ => ?_)
  obtain ⟨a, ts, rfl, hS, hz, q⟩ := q1
  cases r1
  obtain ⟨its, rv, pl, hz2⟩ := I1.list hS
  have hl := rv.length
  rw [List.length_map] at hl
  have hsb : scanBound = 4096 := rfl
  refine Calls.spliced_nil ?_
  refine call_set_of (knd := strKind X.prog X.w) (val := fun i => ts.getD i "") (I1.ok.hd hc) pl.isList (fun i v hv => ?_) (by rw [List.size_toArray]; omega) fun s2 ⟨h', tk, e2, hs, hk⟩ => ?_
  · obtain ⟨t, rfl⟩ := strs_val rv (i := i) (v := v) (by simpa using hv) ""
    exact ⟨beq_self_eq_true _, rfl⟩
  subst e2
  have I2 : Inv X pins σ H1 { s1 with heap := h', toks := tk } := I1.kept (t' := tk) fun b o e => hk b o (Heap.lt_size e) e
  refine Calls.spliced_nil ?_
  have esz : its.toArray.size = ts.length := by rw [List.size_toArray]; omega
  rw [esz] at hs
  obtain ⟨o, es, ep, t, ho, hex, hd, _, _, hsz, hf, hn⟩ := hs
  refine PySem.call_len_set ho hex hd hf (by omega) ⟨.int (met (fun i => ts.getD i "") ts.length).length, H1, I2.tok _, ⟨tk + 1, ?_⟩, q⟩
  rw [hn]

theorem strs_at {ts : List Str} {i : Nat} (h : i < ts.length) : (ts.map V.str)[i]? = some (.str (ts.getD i "")) := by
  rw [List.getElem?_map, List.getElem?_eq_getElem h, List.getD_eq_getElem?_getD, List.getElem?_eq_getElem h]; rfl
theorem atI_strs {ts : List Str} {i : Int} (h0 : 0 ≤ i) (h : i < ts.length) : atI (ts.map V.str) i = some (.str (ts.getD i.toNat "")) := atI_ok h0 (strs_at (by omega))
theorem flat_strs (ts : List Str) : (ts.map V.str).all flatV = true := by
  rw [List.all_map]; exact List.all_eq_true.mpr fun _ _ => rfl
theorem inV_strs (ts : List Str) (c : Str) : inV (.str c) (ts.map V.str) = decide (c ∈ ts) := by
  unfold inV
  induction ts with
  | nil => rfl
  | cons a ts ih =>
    rw [List.map_cons, List.any_cons, ih]
    show ((a == c) || _) = _
    by_cases h : a = c
    · subst h; simp
    · have : ¬ c = a := fun e => h e.symm
      simp [h, this]
theorem cut_uptoS {ts : List Str} {k : Int} (h : 0 ≤ k) : cutV (ts.map V.str) none (some k) = (ts.take k.toNat).map V.str := by rw [cut_upto h, List.map_take]
theorem strs_get {ts : List Str} {i : Nat} {x : V} (hx : (ts.map V.str)[i]? = some x) : i < ts.length ∧ x = .str (ts.getD i "") := by
  have hi : i < ts.length := by have := (List.getElem?_eq_some_iff.mp hx).1; rwa [List.length_map] at this
  refine ⟨hi, ?_⟩
  rw [strs_at hi] at hx
  exact (Option.some.inj hx).symm
theorem take_nextS {ts : List Str} {i : Nat} (hi : i < ts.length) : ts.take (i + 1) = ts.take i ++ [ts.getD i ""] := by
  rw [List.take_succ, List.getElem?_eq_getElem hi, List.getD_eq_getElem?_getD, List.getElem?_eq_getElem hi]; rfl
theorem getD_inS {ts : List Str} {i : Nat} (hi : i < ts.length) : ts.getD i "" ∈ ts := by
  rw [List.getD_eq_getElem?_getD, List.getElem?_eq_getElem hi]; exact List.getElem_mem hi
theorem len_add (x y : Str) : (x ++ y).length = x.length + y.length := by
  show (x.cps ++ y.cps).size = x.cps.size + y.cps.size
  exact Array.size_append

noncomputable abbrev abc : Str := "abcdefghijklmnopqrstuvwxyz"
noncomputable def small (c : Nat) : Bool := decide (97 ≤ c) && decide (c ≤ 122)
end
end L2
set_option Elab.async false
set_option linter.all false
set_option maxRecDepth 100000
namespace L2
open PySem PySem.Spec PyProof.Rows
section
variable {X : Cx}

end
end L2
set_option Elab.async false
set_option linter.all false
set_option maxRecDepth 100000
namespace L2
open PySem PySem.Spec PyProof.Rows

structure CompScopeC (sc : Scope) (N : List Str) (x : Str) (fr : List Str) (ix : List Nat) (scope : Scope) : Prop where
  kind : scope.kind = .function
  one : ∀ a acc, cellsFrom a scope.names acc = (x, a) :: acc
  push : ∀ h : Heap, pushCells h scope.names = h.push { cls := .type "cell", data := .cell none }
  cells : ∀ y ∈ scope.names, y.2 = .cell → y.1 = x
  lcl : ∀ y ∈ scope.names, y.2 = .local → scope.names.lookup y.1 = some .local
  lx : scope.names.lookup x = some .cell
  free : ∀ y ∈ scope.names, y.2 = .free → sc.names.lookup y.1 = some .cell ∨ sc.names.lookup y.1 = some .free
  at' : fr.map some = ix.map fun i => N[i]?
  frk : ∀ y ∈ fr, scope.names.lookup y = some .free ∧ (sc.names.lookup y = some .cell ∨ sc.names.lookup y = some .free)
  nd : (x :: fr).Nodup
section
variable {X : Cx} {pins : List (Addr × Obj)} {σ : St} {H : Hp} {s : Shared} {x : Str} {fr : List Str} {ix : List Nat} {scope : Scope} {cl : List (Str × Addr)} {fp : List Addr} {C D cx : Addr}
theorem CompScopeC.len (S : CompScopeC X.env.scope X.N x fr ix scope) : fr.length = ix.length := by have := congrArg List.length S.at'; simpa using this
end
section
variable {X : Cx} {x : Str} {fr : List Str} {ix : List Nat} {scope : Scope} {elt iter : Expr} {ifs : List Expr} {px pos : Pos} {wi : TI} {tc : TT} {te : TE}
end
end L2
set_option Elab.async false
set_option linter.all false
set_option maxRecDepth 100000
namespace L2
open PySem PySem.Spec PyProof.Rows

section
open PySem.SeqAt
open PySem.AutoSeq1 (wpAny_loadPart')
open PySem.MeetsSeq PySem.MeetsSeq2 PySem.MeetsSeq3
end
section
variable {X : Cx}
end
end L2
set_option Elab.async false
set_option linter.all false
set_option maxRecDepth 100000
namespace L2
open PySem PySem.Spec PyProof.Rows

structure CanM (P : Program) (w : World) (K : PySem.W.Frag) (mg : Str → Option Value) (base : Heap) (k : Nat) (C : Addr) (m : Str) (ps : List Str) (sp : Sp) : Prop where
  ex : ∃ f fd, FnOk P w K mg base CX0 k f fd ps sp ∧ Meth K C m f ∧ Binds K fd ps []
structure CanMX (P : Program) (w : World) (K : PySem.W.Frag) (mg : Str → Option Value) (base : Heap) (k : Nat) (C : Addr) (m : Str) (ps : List Str) (sp : Sp) : Prop where
  ex : ∃ f fd, FnOk P w K mg base (CX1 P w) k f fd ps sp ∧ Meth K C m f ∧ Binds K fd ps []
noncomputable def tMethX (C : Addr) (m : Str) (W : XW) (sp : Sp) (ta : TE) (t : TA) : TE := fun σ H Q => ta σ H fun x H1 => ∃ a dx fs, x = .ref a ∧ H1 a = some (.ins C dx fs) ∧ fs.lookup m = none ∧ t σ H1 fun vs H2 => sp (.ref a :: vs) H2 Q fun cls _ H' => W σ cls H'
section
variable {X : Cx} {k : Nat} {C : Addr} {m : Str} {ps : List Str} {sp : Sp} {apos pos : Pos} {o e : Expr} {es : List Expr} {ta : TE} {t : TA} {W : XW} {pl : Sem Bool}
theorem pe_ownMX (M : CanMX X.prog X.w X.K X.mg X.base k C m ps sp) (c : Cls X.K C) (fl : Fl X W) (hr : Room k X.A) (he : PE X o ta) (ha : PA X (e :: es) t)
    (hst : starEach (e :: es) X.env = (false, eval e X.env) :: starEach es X.env := by rfl) (hpl : (backTo pos (starEach es X.env)).any (·.1) = false := by rfl)
    (ht : eval (.Call (.Attribute o m apos) (e :: es) [] pos) X.env = (do
      let ov ← eval o X.env
      standAt apos.atName
      let (f, first) ← holding [ov] (getMethod ov m pl)
      callWith pos f first (backTo pos (starEach (e :: es) X.env)) (backToKw pos (keywordEach [] X.env))) := by rfl) :
    PE X (.Call (.Attribute o m apos) (e :: es) [] pos) (tMethX C m W sp ta t) := by
  obtain ⟨f, fd, F, hm, hb⟩ := M.ex
  intro pins s σ H Q I h
  refine PySem.W.methodCall_KW (pl := pl) (thn (he pins s σ H _ I h) fun u s1 ⟨x, H1, I1, rx, a, dx, fs, ex, ea, l, q⟩ => ?_) ht
  subst ex
  obtain rfl : u = Value.ref a := rx
  refine getmeth_ok I1 ea c hm l ?_
  refine PySem.W.callWith_K (first := [.ref a]) (h₀ := X.base) I.ok.mod.kin hm.kp (thn (ha pos pins s1 σ H1 _ I1 q) fun us s2 ⟨vs, H2, I2, r, q2⟩ => ⟨I2.kIn, ?_⟩) hst hpl
  exact run_fnX (us := .ref a :: us) (vs := .ref a :: vs) F hr hb fl I2 (.cons rfl r) q2
theorem pe_ownMX0 (M : CanMX X.prog X.w X.K X.mg X.base k C m ps sp) (c : Cls X.K C) (fl : Fl X W) (hr : Room k X.A) (he : PE X o ta)
    (ht : eval (.Call (.Attribute o m apos) [] [] pos) X.env = (do
      let ov ← eval o X.env
      standAt apos.atName
      let (f, first) ← holding [ov] (getMethod ov m pl)
      callWith pos f first (backTo pos (starEach [] X.env)) (backToKw pos (keywordEach [] X.env))) := by rfl) :
    PE X (.Call (.Attribute o m apos) [] [] pos) (tMethX C m W sp ta tNil) := by
  obtain ⟨f, fd, F, hm, hb⟩ := M.ex
  intro pins s σ H Q I h
  refine PySem.W.methodCall_KW (pl := pl) (thn (he pins s σ H _ I h) fun u s1 ⟨x, H1, I1, rx, a, dx, fs, ex, ea, l, q⟩ => ?_) ht
  subst ex
  obtain rfl : u = Value.ref a := rx
  refine getmeth_ok I1 ea c hm l ?_
  exact PySem.W.callWith_K0 (first := [.ref a]) I1.kIn hm.kp (run_fnX (us := [.ref a]) (vs := [.ref a]) F hr hb fl I1 (.cons rfl .nil) q)
theorem pe_ownM0 (M : CanM X.prog X.w X.K X.mg X.base k C m ps sp) (c : Cls X.K C) (hr : Room k X.A) (he : PE X o ta)
    (ht : eval (.Call (.Attribute o m apos) [] [] pos) X.env = (do
      let ov ← eval o X.env
      standAt apos.atName
      let (f, first) ← holding [ov] (getMethod ov m pl)
      callWith pos f first (backTo pos (starEach [] X.env)) (backToKw pos (keywordEach [] X.env))) := by rfl) :
    PE X (.Call (.Attribute o m apos) [] [] pos) (tMeth C m sp [] E0 ta tNil) := by
  obtain ⟨f, fd, F, hm, hb⟩ := M.ex
  exact pe_meth0 (pl := pl) he c hm F hr hb .nil pass0 ht
structure CanK (P : Program) (w : World) (K : PySem.W.Frag) (mg : Str → Option Value) (base : Heap) (k : Nat) (x : Str) (C : Addr) (ps : List Str) (sp : Sp) : Prop where
  ex : ∃ f fd, FnOk P w K mg base (CX1 P w) k f fd ps sp ∧ mg x = some (.ref C) ∧ Mk K C f ∧ Binds K fd ps []
noncomputable def tMakeX (C : Addr) (W : XW) (sp : Sp) (t : TA) : TE := fun σ H Q => t σ H fun vs H1 => ∀ x dx, H1 x = none → H1 dx = none → dx ≠ x → sp (.ref x :: vs) (upd (upd H1 dx (.own x)) x (.ins C dx [])) (fun v H2 => v = .non ∧ Q (.ref x) H2) fun cls _ H' => W σ cls H'
theorem run_makeX {pins : List (Addr × Obj)} {σ : St} {H : Hp} {s : Shared} {Q : VK} {us : List Value} {vs : List V} {f : Addr} {fd : FuncData} (M : Mk X.K C f) (F : FnOk X.prog X.w X.K X.mg X.base (CX1 X.prog X.w) k f fd ps sp) (hr : Room (k + 1) X.A) (hb : Binds X.K fd ps []) (fl : Fl X W) (I : Inv X pins σ H s) (r : Vals vs us)
    (h : ∀ x dx, H x = none → H dx = none → dx ≠ x → sp (.ref x :: vs) (upd (upd H dx (.own x)) x (.ins C dx [])) (fun v H2 => v = .non ∧ Q (.ref x) H2) fun cls _ H' => W σ cls H') :
    wpAny (model X.prog X.w) X.A (call (.ref C) us) (EP X pins σ Q) X.xe s := by
  have hq := h (s.heap.objs.size + 1) s.heap.objs.size (I.hok.fresh (Nat.le_succ _)) (I.hok.fresh (Nat.le_refl _)) (Nat.ne_of_lt (Nat.lt_succ_self _))
  have I2 := Inv.made (C := C) I
  have r2 : Vals (V.ref (s.heap.objs.size + 1) :: vs) (Value.ref (s.heap.objs.size + 1) :: us) := .cons rfl r
  have hl : (Value.ref (s.heap.objs.size + 1) :: us).length = ps.length := by
    have e := r2.length
    rw [F.len _ _ _ _ hq] at e
    exact e.symm
  have hb' := hb { s with heap := (s.heap.push PySem.W.emptyDict).push (PySem.W.instObj C s.heap.objs.size) } (Value.ref (s.heap.objs.size + 1) :: us) I2.kIn (by rw [List.append_nil]; exact hl)
  rw [List.append_nil] at hb'
  refine wpAny_call (make_map (f := f) I.kIn M.makes M.init (beq_iff_eq.mp M.fn) (codeAny_mono (F.run _ X.stack _ _ ⟨Value.ref (s.heap.objs.size + 1) :: us, []⟩ (Value.ref (s.heap.objs.size + 1) :: us) _ _ _ (hr.make C us [])
    (I2.env0.make C us []) hb' r2 hq) fun r s' hq' => ?_))
  cases r with
  | error e =>
    obtain ⟨y, cls, H', rfl, fly, w⟩ := hq'
    exact fl pins σ _ _ y cls H' s' I2 fly w
  | ok fl =>
    cases fl with
    | ret u =>
      obtain ⟨v, H', I3, rv, ev, q3⟩ := I2.after hq'
      subst ev
      exact ⟨rv, ⟨V.ref (s.heap.objs.size + 1), H', I3, rfl, q3⟩⟩
    | next => exact False.elim hq'
    | brk => exact False.elim hq'
    | cont => exact False.elim hq'
theorem pe_makeX {x : Str} {p : Pos} (M : CanK X.prog X.w X.K X.mg X.base k x C ps sp) (fl : Fl X W) (hr : Room (k + 1) X.A) (hg : Gl X x) (ha : PA X (e :: es) t) (hdb : (x == ("__debug__" : Str)) = false := by decide)
    (he : starEach (e :: es) X.env = (false, eval e X.env) :: starEach es X.env := by rfl) (hpl : (backTo pos (starEach es X.env)).any (·.1) = false := by rfl) : PE X (.Call (.Name x p) (e :: es) [] pos) (tMakeX C W sp t) := by
  obtain ⟨f, fd, F, hm, hk, hb⟩ := M.ex
  intro pins s σ H Q I h
  refine wpAny_Call_Name_kw (ld_glob I hg hm ?_ hdb)
  refine PySem.W.callWith_K (h₀ := X.base) I.ok.mod.kin hk.kp (thn (ha pos pins s σ H _ I h) fun us s1 ⟨vs, H1, I1, r, q⟩ => ⟨I1.kIn, ?_⟩) he hpl
  exact run_makeX hk F hr hb fl I1 r q
theorem pe_fldK {K : PySem.W.Frag} {f : Str} (h : X.K = K) (he : PE X e ta) (hb : attributeBase e f X.env (eval e X.env) = eval e X.env) : PE X (.Attribute e f pos) (tFld K ta f) := by subst h; exact pe_fld he hb
end
noncomputable def clsA (K : PySem.W.Frag) (x : Str) : Addr := match PySem.W.nsIn K mainGlobals x with
  | some (some (.ref C)) => C
  | _ => 0
theorem clsA_of {K : PySem.W.Frag} {x : Str} {C : Addr} (h : PySem.W.nsIn K mainGlobals x = some (some (.ref C))) : clsA K x = C := by unfold clsA; rw [h]
theorem CanM.of {P : Program} {w : World} {K : PySem.W.Frag} {mg : Str → Option Value} {base : Heap} {k : Nat} {C : Addr} {x m : Str} {ps : List Str} {sp : Sp} {f : Addr} {fd : FuncData} (hC : clsA K x = C) (G : FnOk P w K mg base CX0 k f fd ps sp) (hm : Meth K C m f) (b : Binds K fd ps []) : CanM P w K mg base k (clsA K x) m ps sp := by rw [hC]; exact ⟨f, fd, G, hm, b⟩
theorem CanMX.of {P : Program} {w : World} {K : PySem.W.Frag} {mg : Str → Option Value} {base : Heap} {k : Nat} {C : Addr} {x m : Str} {ps : List Str} {sp : Sp} {f : Addr} {fd : FuncData} (hC : clsA K x = C) (G : FnOk P w K mg base (CX1 P w) k f fd ps sp) (hm : Meth K C m f) (b : Binds K fd ps []) : CanMX P w K mg base k (clsA K x) m ps sp := by rw [hC]; exact ⟨f, fd, G, hm, b⟩
theorem CanK.of {P : Program} {w : World} {K : PySem.W.Frag} {mg : Str → Option Value} {base : Heap} {k : Nat} {C : Addr} {x : Str} {ps : List Str} {sp : Sp} {f : Addr} {fd : FuncData} (hC : clsA K x = C) (G : FnOk P w K mg base (CX1 P w) k f fd ps sp) (hg : mg x = some (.ref C)) (hm : Mk K C f) (b : Binds K fd ps []) : CanK P w K mg base k x (clsA K x) ps sp := by rw [hC]; exact ⟨f, fd, G, hg, hm, b⟩
end L2
set_option Elab.async false
set_option linter.all false
set_option maxRecDepth 100000
namespace L2
open PySem PySem.Spec PyProof.Rows
section
variable {X : Cx}


end
end L2
set_option Elab.async false
set_option linter.all false
set_option maxRecDepth 100000
namespace L2
open PySem PySem.Spec PyProof.Rows
section
variable {X : Cx}

end
end L2
set_option Elab.async false
set_option linter.all false
set_option maxRecDepth 100000
namespace L2
open PySem PySem.Spec PyProof.Rows PySem.W PySem.Calls Builtin Builtin.ObjectAttr Builtin.Getset_descriptor

section
variable {prog : Program} {w : World} {A : Around} {s : Shared} {K : PySem.W.Frag} {x C : Addr} {E : Value → Shared → Prop}
theorem exc_class_get {R : Result → Shared → Prop} {tp : Value} (L0 : Looks (model prog w) s.heap (typeOf (.ref x)) (.ref C)) (L1 : Looks (model prog w) s.heap (isSubtype (.ref C) (.type "object")) true) (hR : R (.ok (.ret (.ref C))) s) :
    codeAny (model prog w) A (.call (.builtin "getset_descriptor.__get__") ⟨[.builtin "object.__class__", .ref x, tp], []⟩) R s := by
  obtain ⟨h1, g1, d1, t1, o1⟩ := s
  refine codeAny_call_builtin KF.slot_gs.plain KF.entry_gs ?_
  refine KF.slot_gs.check _ _ _ _ _ _ _ _ KF.type_class (KF.args_gs _ _ _) ?_
  unfold Builtin.«getset_descriptor.__get__»
  unfold descrGet
  rw [dga_obj]
  refine wpAny_bind ?_
  refine wpAny_pure ?_
  unfold descrGetter descrCheckInstance
  unfold descrNameAndClass isInstance
  simp only [KF.owner_class]
  repeat lk
  refine ⟨Code.quiet_builtin _ (by decide +kernel), ?_⟩
  refine codeAny_builtin KF.entry_class ?_
  unfold Builtin.«object.__class__»
  unfold shownTypeOf
  repeat lk
  exact hR
theorem exc_find (X : K.In s.heap) (ha : findIn K (.ref C) "__class__" = some (some (.builtin "object.__class__"))) (hn : specialIn K (.builtin "object.__class__") "__get__" = some (some (.builtin "getset_descriptor.__get__"))) (ht : takesIn K (.builtin "object.__class__") = some true) :
    Looks (model prog w) s.heap (find (.ref x) (.ref C) "__class__") (.bind (.builtin "getset_descriptor.__get__") (.builtin "object.__class__")) := by
  have M1 := looks_findIn (M := model prog w) X ha
  have M2 : Looks (model prog w) s.heap (getOf (some (.builtin "object.__class__"))) (some (.builtin "getset_descriptor.__get__")) := looks_specialIn X hn
  have M3 := looks_takesIn (M := model prog w) X ht
  refine M1.andThen (M2.andThen ?_)
  have M4 : Looks (model prog w) s.heap (dataDescriptor? (some (.builtin "object.__class__")) (some (.builtin "getset_descriptor.__get__"))) (some (.builtin "getset_descriptor.__get__", .builtin "object.__class__")) := M3.andThen .now
  exact M4.andThen (Looks.tag .now)
theorem exc_ga_check {M : Model} {nm : Value} {Q : Unit → Shared → Prop} (LI : Looks M s.heap (isInstance (.ref x) (.type "BaseException")) true) (hQ : Q () s) : wpAny M A (checkBuiltinCall "BaseException.__getattribute__" ⟨[.ref x, nm], []⟩) Q E s := by
  have hk : builtinKind "BaseException.__getattribute__" = some .slot := by decide +kernel
  have hsp : splitId "BaseException.__getattribute__" = some ("BaseException", "__getattribute__") := by decide +kernel
  have hargs := F.args_bexc_ga (.ref x) nm
  obtain ⟨h1, g1, d1, t1, o1⟩ := s
  simp only [checkBuiltinCall, hk, hsp]
  refine wpAny_bind (LI.at ?_)
  repeat (first | wp_step | exact hQ)
theorem exc_ga {R : Result → Shared → Prop} {tk : Tok} (L0 : Looks (model prog w) s.heap (typeOf (.ref x)) (.ref C)) (F1 : Looks (model prog w) s.heap (find (.ref x) (.ref C) "__class__") (.bind (.builtin "getset_descriptor.__get__") (.builtin "object.__class__")))
    (S1 : Looks (model prog w) s.heap (isSubtype (.ref C) (.type "object")) true) (S2 : Looks (model prog w) s.heap (isSubtype (.ref C) (.type "BaseException")) true) (hR : R (.ok (.ret (.ref C))) s) :
    codeAny (model prog w) A (.call (.builtin "BaseException.__getattribute__") ⟨[.ref x, .str "__class__" tk], []⟩) R s := by
  refine codeAny_call_builtin F.excAttr_ValueError.ga.plain F.entry_bexc_ga ?_
  refine exc_ga_check (L0.andThen S2) ?_
  obtain ⟨h1, g1, d1, t1, o1⟩ := s
  unfold Builtin.«object.__getattribute__»
  repeat (first | with_reducible refine wpAny_bind (L0.at ?_) | with_reducible refine wpAny_bind (F1.at ?_) | wp_step)
  exact exc_class_get (s := ⟨h1, g1, d1, t1, o1⟩) L0 S1 (wpAny_pure hR)
theorem exc_attr {Q : Option Value → Shared → Prop} (X : K.In s.heap) (he : ∃ o, s.heap.get? x = some o ∧ o.cls = .ref C) (hga : findIn K (.ref C) "__getattribute__" = some (some (.builtin "BaseException.__getattribute__"))) (hgb : findIn K (.ref C) "__getattr__" = some none)
    (ha : findIn K (.ref C) "__class__" = some (some (.builtin "object.__class__"))) (hn : specialIn K (.builtin "object.__class__") "__get__" = some (some (.builtin "getset_descriptor.__get__"))) (ht : takesIn K (.builtin "object.__class__") = some true) (hm : mroIn K C (.type "object") = some true) (hm2 : mroIn K C (.type "BaseException") = some true)
    (hQ : Q (some (.ref C)) { s with toks := s.toks + 1 }) : wpAny (model prog w) A (getAttr? (.ref x) "__class__") Q E s := by
  obtain ⟨o, eo, ec⟩ := he
  have F1 := exc_find (s := { s with toks := s.toks + 1 }) (x := x) (prog := prog) (w := w) X ha hn ht
  obtain ⟨h1, g1, d1, t1, o1⟩ := s
  have L0 := looks_cls (M := model prog w) eo ec
  have G0 := looks_findIn (M := model prog w) X hga
  have G1 := looks_findIn (M := model prog w) X hgb
  have S1 := looks_mroIn (M := model prog w) X hm
  have S2 := looks_mroIn (M := model prog w) X hm2
  unfold getAttr? getAttrBy?
  unfold getAttrBy
  refine wpAny_bind (wpAny_mkText ?_)
  refine wpAny_bind (wpAny_attempt ?_)
  refine wpAny_holding ?_
  refine wpAny_bind (L0.at ?_)
  refine wpAny_bind (G0.at ?_)
  have hx2 : (onTheHeap (Value.ref C) && Value.builtin "BaseException.__getattribute__" == Value.builtin "object.__getattribute__") = false := by
    rw [show (Value.builtin "BaseException.__getattribute__" == Value.builtin "object.__getattribute__") = false by decide +kernel]
    rfl
  dsimp only
  rw [if_neg (by rw [hx2]; exact Bool.false_ne_true)]
  unfold getAttrByItsOwn hookBefore
  rw [if_pos (show onTheHeap (Value.ref C) = true from rfl)]
  refine wpAny_bind (G1.at ?_)
  unfold callGetattribute
  rw [if_neg (by simp)]
  unfold boundAndCalled
  refine wpAny_bind (wpAny_attempt (wpAny_holding ?_))
  rw [F.excAttr_ValueError.ga.bind]
  refine wpAny_bind (wpAny_pure ?_)
  dsimp only
  refine wpAny_call ?_
  refine exc_ga (s := ⟨h1, g1, d1, t1 + 1, o1⟩) L0 F1 S1 S2 ?_
  exact handed_on rfl (wpAny_pure hQ)
noncomputable def exI (K : PySem.W.Frag) (C : Addr) : Bool :=
  (findIn K (.ref C) "__getattribute__" == some (some (.builtin "BaseException.__getattribute__")) && findIn K (.ref C) "__getattr__" == some none && findIn K (.ref C) "__class__" == some (some (.builtin "object.__class__"))) &&
  (specialIn K (.builtin "object.__class__") "__get__" == some (some (.builtin "getset_descriptor.__get__")) && takesIn K (.builtin "object.__class__") == some true && mroIn K C (.type "object") == some true && mroIn K C (.type "BaseException") == some true && (clsIn K C).isSome)
theorem kitx_exc (hi : exI K C = true) : KitX K (.ref x) (.ref C) (fun h => ∃ o, h.get? x = some o ∧ o.cls = .ref C) := by
  unfold exI at hi
  simp only [Bool.and_eq_true, beq_iff_eq] at hi
  obtain ⟨⟨⟨i1, i2⟩, i3⟩, ⟨⟨⟨i4, i5⟩, i6⟩, i7⟩, i8⟩ := hi
  obtain ⟨cd, hcd⟩ := Option.isSome_iff_exists.mp i8
  have hob : ∃ a b c, K.lookup C = some ⟨a, b, .cls cd, c⟩ := by
    unfold clsIn at hcd
    split at hcd
    · rename_i q; cases hcd; exact ⟨_, _, _, q⟩
    · cases hcd
  obtain ⟨a1, a2, a3, hob⟩ := hob
  refine ⟨fun M h _ ⟨o, eo, ec⟩ => looks_cls eo ec, fun M h X _ => ?_, fun h tp dd its n sl X e => ?_, fun X p k => exc_attr X p i1 i2 i3 i4 i5 i6 i7 k⟩
  · intro A' Q' E' s' k q
    unfold isType
    unfold loadHead
    exact wpAny_bind (wpAny_loadPart (k _ _ (X _ _ hob)) (wpAny_pure q))
  · refine Bool.eq_false_iff.mpr fun q => ?_
    have ez : C = tp := by injection beq_iff_eq.mp q
    subst ez
    have := X _ _ hob
    rw [e] at this
    cases this
end
section
variable {X : Cx}
theorem call_isi_excB : CallR X (.builtin "isinstance") (fun xs H Q => ∃ x C v c b, xs = [.ref x, v] ∧ RelV v c ∧ H x = some (excO x (.ref C)) ∧ exI X.K C = true ∧ PySem.W.kitOne X.K (.ref C) c = some b ∧ Q (.bl b) H) := by
  intro pins s σ H xs us Q I r h
  obtain ⟨x, C, v, c, b, rfl, rc, hx, hi, e, q⟩ := h
  obtain ⟨u, t, rfl, ru, rt⟩ := r.two
  cases ru
  have no : ∀ z, PySem.W.kitCls X.K (.ref C) z = none → (Value.ref C == z) = false → PySem.W.kitOne X.K (.ref C) z = none := fun z h1 h2 => by unfold PySem.W.kitOne; rw [h2]; exact h1
  have ect : t = c := by
    cases v with
    | ref a => rw [show t = _ from rt, show c = _ from rc]
    | ty n => rw [show t = _ from rt, show c = _ from rc]
    | non => rw [show t = _ from rt, show c = _ from rc]
    | bl b => rw [show t = _ from rt, show c = _ from rc]
    | int i => obtain ⟨k, rfl⟩ := rc; rw [no _ rfl rfl] at e; cases e
    | str i => obtain ⟨k, rfl⟩ := rc; rw [no _ rfl rfl] at e; cases e
    | byt i => obtain ⟨k, rfl⟩ := rc; rw [no _ rfl rfl] at e; cases e
    | flt i => obtain ⟨k, rfl⟩ := rc; rw [no _ rfl rfl] at e; cases e
  subst ect
  obtain ⟨ho, _, _⟩ := I.hok x _ hx
  exact kia_one (kitx_exc hi) I.kIn ho e (by intro q; cases q) fun tk => ⟨.bl b, H, I.tok tk, rfl, q⟩
theorem call_isi_excBK {K : PySem.W.Frag} (h : X.K = K) : CallR X (.builtin "isinstance") (fun xs H Q => ∃ x C v c b, xs = [.ref x, v] ∧ RelV v c ∧ H x = some (excO x (.ref C)) ∧ exI K C = true ∧ PySem.W.kitOne K (.ref C) c = some b ∧ Q (.bl b) H) := by subst h; exact call_isi_excB
end
end L2
set_option Elab.async false
set_option linter.all false
set_option maxRecDepth 100000
namespace L2
open PySem PySem.Spec PyProof.Rows
open PySem.Builtin PySem.Builtin.Str
theorem vals_strs : ∀ (l : List (PySem.Str × Tok)), Vals (l.map fun p => V.str p.1) (strValues l)
  | [] => .nil
  | (x, t) :: l => .cons ⟨t, rfl⟩ (vals_strs l)
section
variable {X : Cx}
theorem ms_split : MtR X "str.split" (fun x xs H Q => ∃ z y, x = .str z ∧ xs = [.str y] ∧ (y.length == 0) = false ∧ z.length + 2 ≤ sizeLine ∧ (Txt.split z y).length ≤ sizeLine ∧ ∀ l, H l = none → Q (.ref l) (upd H l (.lst ((Txt.split z y).map V.str)))) := by
  intro pins s σ H x xs v us Q I rx rv h
  obtain ⟨z, y, rfl, rfl, hy, hz, hn, q⟩ := h
  obtain ⟨t, rfl⟩ := rx
  obtain ⟨u, rfl, ru⟩ := rv.one
  obtain ⟨t2, rfl⟩ := ru
  have hf : H s.heap.objs.size = none := I.hok.fresh (Nat.le_refl _)
  have fin : ∀ (l : List (PySem.Str × Tok)) (tk : Nat), l.map (·.1) = Txt.split z y → EP X pins σ Q (.ref s.heap.objs.size) { s with toks := tk, heap := s.heap.push { cls := .type "list", data := .seq (strValues l).toArray } } := fun l tk e => by
    refine ⟨.ref s.heap.objs.size, upd H s.heap.objs.size (.lst ((Txt.split z y).map V.str)), I.laid (t' := tk) (fun b u e => Heap.get?_push_of_some _ e) (Nat.le_refl _) ⟨by rw [List.length_map]; exact hn, strValues l, 0, ?_, Heap.get?_push_size _ rfl⟩, rfl, q _ hf⟩
    rw [← e, List.map_map]
    exact vals_strs l
  cases h1 : (decide (z.length < y.length) || decide (strKind z < strKind y)) with
  | true =>
    have e : Txt.split z y = [z] := if_pos h1
    exact call_meets F.slot_str_split (typeIs_str _ _ _) F.entry_str_split (F.args_str_split_2 _ _) (meets_str_split_cannot_occur z y t t2 h1) (fin [(z, t)] s.toks e.symm)
  | false =>
    cases h2 : (occurrences z y 0 z.length (z.length + 1)).isEmpty with
    | true =>
      have e : Txt.split z y = [z] := (if_neg (ne_true_of_eq_false h1)).trans (if_pos h2)
      exact call_meets F.slot_str_split (typeIs_str _ _ _) F.entry_str_split (F.args_str_split_2 _ _) (meets_str_split_not_found z y t t2 h1 hy h2) (fin [(z, t)] s.toks e.symm)
    | false =>
      have e : Txt.split z y = partsBetween z (occurrences z y 0 z.length (z.length + 1)) y.length := (if_neg (ne_true_of_eq_false h1)).trans (if_neg (ne_true_of_eq_false h2))
      refine call_meets F.slot_str_split (typeIs_str _ _ _) F.entry_str_split (F.args_str_split_2 _ _) (meets_str_split_sep z y t t2 h1 hy h2 (by omega) (by rw [← e]; exact hn)) ?_
      show EP X pins σ Q (.ref s.heap.objs.size) { s with toks := _, heap := s.heap.push { cls := .type "list", data := .seq (strsFrom s.toks (partsBetween z (occurrences z y 0 z.length (z.length + 1)) y.length)).toArray } }
      rw [strsFrom_eq]
      exact fin (numbered s.toks _) _ ((numbered_texts _ _).trans e.symm)
theorem call_int_text : CallR X (.type "int") (fun xs H Q => ∃ x n, xs = [.str x] ∧ PySem.intText? x = some n ∧ x.length ≤ 640 ∧ Q (.int n) H) := by
  intro pins s σ H vs us Q I rv h
  obtain ⟨x, n, rfl, hn, hl, q⟩ := h
  obtain ⟨u, rfl, ru⟩ := rv.one
  obtain ⟨t, rfl⟩ := ru
  exact PySem.W.KIN.call_text hn hl ⟨.int n, H, I.tok _, ⟨_, rfl⟩, q⟩
end
structure CTup (K : PySem.W.Frag) (mg : Str → Option Value) (x : Str) (xs : List Str) : Prop where
  ex : ∃ a, mg x = some (.ref a) ∧ ∀ H, SqT K H a (xs.map V.str)
noncomputable def tCT (K : PySem.W.Frag) (xs : List Str) : TE := fun _ H Q => ∀ a, (∀ H, SqT K H a (xs.map V.str)) → Q (.ref a) H
theorem pe_ctup {X : Cx} {x : Str} {xs : List Str} {pos : Pos} (c : CTup X.K X.mg x xs) (hg : Gl X x) (hd : (x == ("__debug__" : Str)) = false := by decide) : PE X (.Name x pos) (tCT X.K xs) := by
  intro pins s σ H Q I h
  obtain ⟨a, hm, ha⟩ := c.ex
  exact ld_glob I hg hm ⟨.ref a, H, I, rfl, h a ha⟩ hd
theorem ctup_mk {K : PySem.W.Frag} {h : Heap} {mg : Str → Option Value} {x : Str} {a : Addr} {xs : List Str} {oc : Value} {od : Option Addr} {its : Array Value} {n : Nat} {sl : Array (Option Value)} (X : K.In h) (G : h.Ns mainGlobals mg) (e : PySem.W.nsIn K mainGlobals x = some (some (.ref a)))
    (l : K.lookup a = some ⟨oc, od, .seq its n, sl⟩) (hc : oc = .type "tuple") (hz : its.size ≤ sizeLine) (hv : Vals (xs.map V.str) its.toList) : CTup K mg x xs :=
  ⟨a, PySem.W.mg_of X G e, fun H => .inr ⟨_, its, n, l, hc, rfl, hz, hv⟩⟩

end L2
set_option Elab.async false
set_option linter.all false
namespace M14
open PySem PySem.W PyProof.Rows
noncomputable abbrev g (p : Array Nat) (i : Nat) : Nat := p.getD i 0
section
variable (key : Nat → Int) (N : Nat)
noncomputable def R (a b : Nat) : Prop := key a < key b ∨ key a = key b ∧ a < b
structure B (p : Array Nat) (m : Nat) : Prop where
  pm : p.Perm (List.range N).toArray
  tl : ∀ i, m ≤ i → i < N → g p i = i
  lo : ∀ i, i < m → g p i < m
  le : m ≤ N
noncomputable def I (p : Array Nat) (m : Nat) : Prop := B N p m ∧ ∀ i j, i < j → j < m → R key (g p i) (g p j)
noncomputable def E (p : Array Nat) (m : Nat) : Prop := B N p m ∧ ∀ i j, i < j → j < m → R key (g p j) (g p i)
structure D (p : Array Nat) (m b : Nat) : Prop where
  bs : B N p m
  lt : b < m
  ds : ∀ i j, i < j → j < b → R key (g p j) (g p i)
  sp : ∀ i j, i < b → b ≤ j → j < m → key (g p j) < key (g p i)
  bk : ∀ i j, b ≤ i → i < j → j < m → key (g p i) = key (g p j) ∧ g p i < g p j
variable {key N}
theorem B.size {p : Array Nat} {m : Nat} (b : B N p m) : p.size = N := by
  have := b.pm.size_eq
  simpa using this
theorem B.up {p : Array Nat} {m : Nat} (b : B N p m) (h : m < N) : B N p (m + 1) := by
  refine ⟨b.pm, fun i h1 h2 => b.tl i (by omega) h2, fun i hi => ?_, h⟩
  by_cases c : i < m
  · have := b.lo i c; omega
  · have e : i = m := by omega
    rw [e, b.tl m (Nat.le_refl _) h]
    omega
theorem R.le {a b : Nat} (h : R key a b) : key a ≤ key b := by
  rcases h with h | h
  · omega
  · omega
theorem R.of {a b : Nat} (h : key a ≤ key b) (l : a < b) : R key a b := by
  by_cases c : key a < key b
  · exact .inl c
  · exact .inr ⟨by omega, l⟩
theorem E.step {p : Array Nat} {m : Nat} (h : E key N p m) (h1 : 1 ≤ m) (hm : m < N) (hk : key (g p m) < key (g p (m - 1))) : D key N p (m + 1) m := by
  refine ⟨h.1.up hm, by omega, h.2, fun i j hi h2 h3 => ?_, fun i j h2 h3 h4 => by omega⟩
  have e : j = m := by omega
  subst e
  by_cases c : i = j - 1
  · subst c; exact hk
  · have := (h.2 i (j - 1) (by omega) (by omega)).le
    omega
end
end M14
set_option Elab.async false
set_option linter.all false
set_option maxRecDepth 100000
namespace L2
open PySem PySem.W PySem.Calls PyProof.Rows
section
variable {X : Cx} {pins : List (Addr × Obj)} {σ : St} {H : Hp} {s : Shared} {a kS : Addr} {A : Around} {E : Value → Shared → Prop}
end
end L2
set_option Elab.async false
set_option linter.all false
set_option maxRecDepth 100000
namespace L2
open PySem PySem.W
section
variable {P : Program} {w : World} {A : Around} {E : Value → Shared → Prop} {s : Shared} {z TI TO T i1 i2 l1 l2 : Addr} {b : Bool}
end
end L2
set_option Elab.async false
set_option linter.all false
set_option maxRecDepth 100000
namespace L2
open PySem PySem.W PyProof.Rows
section
variable {X : Cx} {pins : List (Addr × Obj)} {σ : St} {H : Hp} {s : Shared} {h' : Heap} {t' : Nat} {ch : List Addr}
variable {A : Around} {E : Value → Shared → Prop} {z TI TO i1 i2 l1 l2 S : Addr} {xs ys : List Value} {xv yv : List V}
noncomputable abbrev Prs (H : Hp) (ts : List Addr) (ps : List (V × V)) : Prop := Paired (fun t (p : V × V) => H t = some (.tup [p.1, p.2])) ts ps
end
end L2
set_option Elab.async false
set_option linter.all false
set_option maxRecDepth 100000
namespace L2
open PySem PySem.W PyProof.Rows PySem.Calls
section
variable {X : Cx} {pins : List (Addr × Obj)} {σ : St} {H : Hp} {s : Shared} {A : Around} {E : Value → Shared → Prop} {z TI TO i1 i2 l1 l2 : Addr} {xs ys : List Value} {xv yv : List V}
end
end L2
set_option Elab.async false
set_option linter.all false
set_option maxRecDepth 100000
namespace L2
open PySem PySem.W PyProof.Rows PySem.Calls
section
variable {X : Cx} {pins : List (Addr × Obj)} {σ : St} {H : Hp} {s : Shared} {A : Around} {E : Value → Shared → Prop} {z TI TO i1 i2 l1 l2 q : Addr} {xs ys : List Value} {xv yv : List V} {kz : List Int}
theorem Prs.length {ts : List Addr} {ps : List (V × V)} (h : Prs H ts ps) : ts.length = ps.length := by
  induction h with
  | nil => rfl
  | cons _ _ ih => rw [List.length_cons, List.length_cons, ih]
end
end L2
set_option Elab.async false
set_option linter.all false
set_option maxRecDepth 100000
namespace L2
open PySem PySem.W PyProof.Rows PySem.Calls
section
variable {X : Cx} {pins : List (Addr × Obj)} {σ : St} {H : Hp} {s : Shared} {A : Around} {E : Value → Shared → Prop} {l1 l2 : Addr} {xv yv : List V}
end
end L2
set_option Elab.async false
set_option linter.all false
set_option maxRecDepth 100000
namespace L2
open PySem PySem.W PySem.Spec PyProof.Rows PySem.Calls
noncomputable def SameN (H H' : Hp) : Prop := (∀ b u, H b = some u → (∀ ps, u ≠ .tbl ps) → H' b = some u) ∧ ∀ b ps, H b = some (.tbl ps) → ∃ qs, H' b = some (.tbl qs)
theorem SameN.trans {H H1 H2 : Hp} (a : SameN H H1) (b : SameN H1 H2) : SameN H H2 := ⟨fun c u e n => b.1 c u (a.1 c u e n) n, fun c ps e => let ⟨qs, e1⟩ := a.2 c ps e; b.2 c qs e1⟩
noncomputable def noT (H : Hp) : Hp := fun b => match H b with
  | some (.tbl _) => none
  | x => x
theorem noT_of {H : Hp} {b : Addr} {u : HO} (e : H b = some u) (n : ∀ ps, u ≠ .tbl ps) : noT H b = some u := by
  unfold noT
  rw [e]
  cases u <;> first | rfl | exact absurd rfl (n _)
theorem of_noT {H : Hp} {b : Addr} {u : HO} (e : noT H b = some u) : H b = some u ∧ ∀ ps, u ≠ .tbl ps := by
  unfold noT at e
  split at e
  · cases e
  · rename_i z
    refine ⟨e, fun ps w => ?_⟩
    subst w
    exact z ps e
theorem SameN.same {H H' : Hp} (s : SameN H H') : Same (noT H) H' := fun b u e => let ⟨h, n⟩ := of_noT e; s.1 b u h n
theorem SqL.noT {K : Frag} {H : Hp} {a : Addr} {xs : List V} (h : SqL K H a xs) : SqL K (L2.noT H) a xs := by
  rcases h with (h | ⟨o, h⟩) | h
  · exact .inl (.inl (noT_of h fun _ z => by cases z))
  · exact .inl (.inr ⟨o, noT_of h fun _ z => by cases z⟩)
  · exact .inr h
section
variable {X : Cx} {pins : List (Addr × Obj)} {σ : St} {H : Hp} {s : Shared} {E : Value → Shared → Prop}
end
end L2
set_option Elab.async false
set_option linter.all false
set_option maxRecDepth 100000
namespace L2
open PySem PySem.W PySem.Spec PyProof.Rows PySem.Calls
section
variable {X : Cx} {ex ey : Expr} {t : TA} {c P : Addr} {y : Str} {p1 p2 p3 p4 p5 pos pos2 lpos kp : Pos} {j : Nat} {params : Arguments} {scope : Scope}
end
end L2
set_option Elab.async false
set_option linter.all false
set_option maxRecDepth 100000
namespace L2
open PySem PySem.W PySem.Spec PyProof.Rows PySem.Calls
section
variable {P : Program} {w : World} {K : Frag} {mg : Str → Option Value} {base : Heap}
end
end L2
set_option Elab.async false
set_option linter.all false
set_option maxRecDepth 100000
namespace L2
open PySem PySem.Spec PyProof.Rows

structure CompScope2 (sc : Scope) (N : List Str) (x x2 : Str) (fr : List Str) (ix : List Nat) (scope : Scope) : Prop where
  kind : scope.kind = .function
  nocell : ∀ y ∈ scope.names, y.2 ≠ .cell
  lcl : ∀ y ∈ scope.names, y.2 = .local → scope.names.lookup y.1 = some .local
  lx : scope.names.lookup x = some .local
  lx2 : scope.names.lookup x2 = some .local
  free : ∀ y ∈ scope.names, y.2 = .free → sc.names.lookup y.1 = some .cell ∨ sc.names.lookup y.1 = some .free
  at' : fr.map some = ix.map fun i => N[i]?
  frk : ∀ y ∈ fr, scope.names.lookup y = some .free ∧ (sc.names.lookup y = some .cell ∨ sc.names.lookup y = some .free)
  nd : (x :: x2 :: fr).Nodup
section
variable {X : Cx} {pins : List (Addr × Obj)} {σ : St} {H : Hp} {s : Shared} {x x2 : Str} {fr : List Str} {ix : List Nat} {scope : Scope} {cl : List (Str × Addr)} {fp : List Addr} {C D : Addr}
theorem CompScope2.len (S : CompScope2 X.env.scope X.N x x2 fr ix scope) : fr.length = ix.length := by have := congrArg List.length S.at'; simpa using this
end
section
variable {X : Cx} {x x2 : Str} {fr : List Str} {ix : List Nat} {scope : Scope} {elt iter : Expr} {ifs : List Expr} {px px2 tp pos : Pos} {tk : Nat} {wi : TI} {tc : TT} {te : TE}
end
end L2
set_option Elab.async false
set_option linter.all false
set_option maxRecDepth 100000
namespace L2
open PySem PySem.W PySem.Spec PyProof.Rows PySem.Calls
section
variable {X : Cx} {pins : List (Addr × Obj)} {σ : St} {H : Hp} {s : Shared} {h' : Heap} {t' : Nat} {ch : List Addr}
end
section
variable {X : Cx} {ex ey : Expr} {t : TA} {p pos tp : Pos} {elts : List Expr} {tk : Nat}
end
end L2
set_option Elab.async false
set_option linter.all false
set_option maxRecDepth 100000
namespace L2
open PySem PySem.W PySem.Spec PyProof.Rows
end L2
set_option Elab.async false
set_option linter.all false
set_option maxRecDepth 100000
namespace L2
open PySem PySem.Spec PyProof.Rows
section
variable {X : Cx}
end
end L2
set_option Elab.async false
set_option linter.all false
set_option maxRecDepth 100000
namespace L2
open PySem PySem.Spec PyProof.Rows
section
variable {X : Cx}
end
end L2
set_option Elab.async false
set_option linter.all false
set_option maxRecDepth 100000
namespace L2
open PySem PySem.W PySem.Spec PyProof.Rows PySem.Calls
section
variable {X : Cx} {pins : List (Addr × Obj)} {σ : St} {H : Hp} {s : Shared} {E : Value → Shared → Prop}
end
section
variable {X : Cx} {ex ey : Expr} {t : TA} {c P : Addr} {y : Str} {p1 p2 p3 p4 p5 pos pos2 lpos kp : Pos} {j : Nat} {params : Arguments} {scope : Scope}
end
end L2
set_option Elab.async false
set_option linter.all false
set_option maxRecDepth 100000
namespace L2
open PySem PySem.Spec PyProof.Rows
section
variable {X : Cx}
end
end L2
set_option Elab.async false
set_option linter.all false
set_option maxRecDepth 100000
namespace L2
open PySem PySem.Spec PyProof.Rows
section
variable {X : Cx}
end
end L2
set_option Elab.async false
set_option linter.all false
set_option maxRecDepth 100000
namespace L2
open PySem PySem.Spec PyProof.Rows

section
variable {X : Cx} {tg : Expr}
end
end L2
set_option Elab.async false
set_option linter.all false
set_option maxRecDepth 100000
namespace L2
open PySem PySem.Spec PyProof.Rows
end L2
set_option Elab.async false
set_option linter.all false
set_option maxRecDepth 100000
namespace L2
open PySem PySem.Spec PyProof.Rows PySem.Builtin PySem.Builtin.Str
theorem strs_of : ∀ {ts : List Str} {us : List Value}, Vals (ts.map V.str) us → ∃ l : List (Str × Tok), us = strValues l ∧ l.map (·.1) = ts
  | [], _, h => by cases h; exact ⟨[], rfl, rfl⟩
  | x :: ts, _, h => by
    cases h with
    | cons r h =>
      obtain ⟨t, rfl⟩ := r
      obtain ⟨l, rfl, e⟩ := strs_of h
      exact ⟨(x, t) :: l, rfl, by rw [List.map_cons, e]⟩
theorem join_fits {z : Str} {ts : List Str} (hz : z.length ≤ 10) (hl : ts.length ≤ 200) (h : ∀ t ∈ ts, t.length ≤ 2000) : tooLong (ts.toArray.foldl (· + ·.length + z.length) 0) = false := by
  have go : ∀ (l : List Str) (n : Nat), (∀ t ∈ l, t.length ≤ 2000) → l.foldl (· + ·.length + z.length) n ≤ n + 2010 * l.length := by
    intro l
    induction l with
    | nil => intro n _; simp
    | cons t l ih =>
      intro n h
      have := ih (n + t.length + z.length) fun u hu => h u (List.mem_cons_of_mem _ hu)
      have h1 := h t (List.mem_cons_self ..)
      rw [List.foldl_cons, List.length_cons]
      omega
  have := go ts 0 h
  have hln := line_ge
  unfold tooLong
  rw [List.foldl_toArray]
  simp only [gt_iff_lt, decide_eq_false_iff_not]
  omega
section
variable {X : Cx}
theorem call_str : CallR X (.type "str") (fun xs H Q => (∃ i : Int, xs = [.int i] ∧ i.natAbs.log2 < 1920 ∧ Q (.str (toString i)) H) ∨ ∃ y, xs = [.str y] ∧ Q (.str y) H) := by
  intro pins s σ H xs us Q I r h
  rcases h with ⟨i, rfl, hd, q⟩ | ⟨y, rfl, q⟩
  · obtain ⟨u, rfl, ⟨t, rfl⟩⟩ := r.one
    exact P.str_of_int hd ⟨.str _, H, I.tok _, ⟨_, rfl⟩, q⟩
  · obtain ⟨u, rfl, ⟨t, rfl⟩⟩ := r.one
    exact P.str_of_str ⟨.str _, H, I, ⟨_, rfl⟩, q⟩
noncomputable def rJoin (K : PySem.W.Frag) : V → List V → Hp → VK → Prop := fun x xs H Q => ∃ (z : Str) (a : Addr) (ts : List Str), x = .str z ∧ xs = [.ref a] ∧ SqL K H a (ts.map V.str) ∧ z.length ≤ 10 ∧ ts.length ≤ 200 ∧ (∀ t ∈ ts, t.length ≤ 2000) ∧ Q (.str (Txt.join z ts)) H
theorem ms_join : MtR X "str.join" (rJoin X.K) := by
  intro pins s σ H x xs v us Q I rx rv h
  obtain ⟨z, a, ts, rfl, rfl, hq, h1, h2, h3, q⟩ := h
  obtain ⟨t, rfl⟩ := rx
  obtain ⟨u, rfl, ru⟩ := rv.one
  cases ru
  obtain ⟨its, rr, p, _⟩ := I.list hq
  obtain ⟨l, rfl, rfl⟩ := strs_of rr
  have hf := join_fits h1 h2 h3
  exact call_meets F.slot_str_join (typeIs_str _ _ _) F.entry_str_join (F.args_str_join_2 _ _) (meets_str_join_list z t a l hf) ⟨p.isList, post_join l ⟨joinFit_length hf, fun t' k => ⟨.str _, H, I.tok _, ⟨_, rfl⟩, q⟩⟩⟩
end
end L2
namespace L2
open PySem
noncomputable def tN (n : Int) : Str := Str.ofString (toString n)
theorem log_ok {i : Int} (h : i.natAbs ≤ 100000) : i.natAbs.log2 < 1920 := by
  by_cases h0 : i.natAbs = 0
  · rw [h0]; decide
  · have : i.natAbs.log2 < 17 := (Nat.log2_lt h0).mpr (by omega)
    omega
end L2
set_option Elab.async false
set_option linter.all false
set_option maxRecDepth 100000
namespace L2
open PySem PySem.Spec PyProof.Rows
section
variable {X : Cx}
end

end L2
set_option linter.all false
namespace M2
open PySem L2
noncomputable def goodN (z : Str) : Bool := (decide (1 ≤ (z.length : Int)) && decide ((z.length : Int) ≤ 8)) && (z.cps.toList.map small).all id
noncomputable def goodJ (ts : List Str) : Bool := (decide (1 ≤ (ts.length : Int)) && decide ((ts.length : Int) ≤ 15)) && (decide ts.Nodup && (ts.map goodN).all id)
theorem goodN_iff (z : Str) : goodN z = true ↔ (1 ≤ z.length ∧ z.length ≤ 8) ∧ ∀ c ∈ z.cps.toList, small c = true := by
  unfold goodN
  simp only [Bool.and_eq_true, decide_eq_true_eq, List.all_map, List.all_eq_true, Function.comp, id]
  constructor
  · rintro ⟨⟨h1, h2⟩, h3⟩
    exact ⟨⟨by omega, by omega⟩, h3⟩
  · rintro ⟨⟨h1, h2⟩, h3⟩
    exact ⟨⟨by omega, by omega⟩, h3⟩
theorem goodJ_iff (ts : List Str) : goodJ ts = true ↔ (1 ≤ ts.length ∧ ts.length ≤ 15) ∧ ts.Nodup ∧ ∀ z ∈ ts, (1 ≤ z.length ∧ z.length ≤ 8) ∧ ∀ c ∈ z.cps.toList, small c = true := by
  unfold goodJ
  simp only [Bool.and_eq_true, decide_eq_true_eq, List.all_map, List.all_eq_true, Function.comp, id, goodN_iff]
  constructor
  · rintro ⟨⟨h1, h2⟩, h3, h4⟩
    exact ⟨⟨by omega, by omega⟩, h3, h4⟩
  · rintro ⟨⟨h1, h2⟩, h3, h4⟩
    exact ⟨⟨by omega, by omega⟩, h3, h4⟩
theorem le_a (c : Nat) : (!decide ((⟨#[c]⟩ : Str).cps.toList < ("a" : Str).cps.toList)) = decide (97 ≤ c) := by
  have e : ("a" : Str).cps.toList = [97] := by decide +kernel
  rw [e]
  show (!decide ([c] < [97])) = _
  by_cases h : 97 ≤ c
  · rw [decide_eq_true h, decide_eq_false]; rfl
    simp [List.cons_lt_cons_iff]; omega
  · rw [decide_eq_false h, decide_eq_true]; rfl
    simp [List.cons_lt_cons_iff]; omega
theorem le_z (c : Nat) : (!decide (("z" : Str).cps.toList < (⟨#[c]⟩ : Str).cps.toList)) = decide (c ≤ 122) := by
  have e : ("z" : Str).cps.toList = [122] := by decide +kernel
  rw [e]
  show (!decide ([122] < [c])) = _
  by_cases h : c ≤ 122
  · rw [decide_eq_true h, decide_eq_false]; rfl
    simp [List.cons_lt_cons_iff]; omega
  · rw [decide_eq_false h, decide_eq_true]; rfl
    simp [List.cons_lt_cons_iff]; omega
end M2
set_option Elab.async false
set_option linter.all false
set_option maxRecDepth 100000
namespace L2
open PySem PySem.Spec PyProof.Rows
theorem ms_lowerB {X : Cx} : MtR X "str.lower" (fun x xs H Q => ∃ z, x = .str z ∧ xs = [] ∧ z.length ≤ 1000 ∧ ((Txt.lower z).length ≤ 3 * z.length → Q (.str (Txt.lower z)) H)) := by
  intro pins s σ H x xs v us Q I rx rv h
  obtain ⟨z, rfl, rfl, hz, q⟩ := h
  obtain ⟨t, rfl⟩ := rx
  cases rv
  exact SCL.lower (by omega) fun hl => ⟨.str _, H, I.tok _, ⟨_, rfl⟩, q hl⟩
noncomputable def nice (z : Str) : Prop := z.length ≤ 9 ∧ ∀ c ∈ z.cps.toList, small c = true ∨ c = 65 ∨ c = 32
theorem lower_same {z : Str} (h : nice z) : z = Txt.lower z ↔ (65 : Nat) ∉ z.cps.toList := by
  have ha : ∀ c ∈ z.cps.toList, c < 128 := fun c hc => by
    rcases h.2 c hc with e | e | e
    · unfold small at e
      have : 97 ≤ c ∧ c ≤ 122 := by simpa using e
      omega
    · omega
    · omega
  rw [lower_ascii ha]
  constructor
  · intro e hm
    obtain ⟨i, hi, ei⟩ := List.getElem_of_mem hm
    have e2 := congrArg (fun s : Str => s.cps.toList[i]?) e
    simp only [Array.toList_map, List.getElem?_map, List.getElem?_eq_getElem hi, Option.map_some, ei] at e2
    exact absurd e2 (by decide)
  · intro hn
    have : z.cps.map lo1 = z.cps := by
      have e : z.cps.toList.map lo1 = z.cps.toList := by
        rw [List.map_congr_left (g := id) fun c hc => ?_, List.map_id]
        unfold lo1
        rw [if_neg]
        · rfl
        · intro w
          rcases h.2 c hc with q | q | q
          · unfold small at q
            have : 97 ≤ c ∧ c ≤ 122 := by simpa using q
            omega
          · exact hn (by rw [← q]; exact hc)
          · omega
      apply Array.toList_inj.mp
      rw [Array.toList_map]
      exact e
    rw [this]
theorem blank_in (z : Str) : (!(Builtin.Str.occurrences z (Str.ofString " ") 0 z.length 1).isEmpty) = decide ((32 : Nat) ∈ z.cps.toList) := by
  have e : Str.ofString " " = ⟨#[32]⟩ := by decide +kernel
  rw [e]
  exact PySem.StrLaws.found_one z 32
theorem nice_good {z : Str} (h : nice z) : M2.goodN z = (decide (0 < z.length) && decide (z.length < 9) && decide (z = Txt.lower z) && !decide ((32 : Nat) ∈ z.cps.toList)) := by
  rw [Bool.eq_iff_iff, M2.goodN_iff]
  simp only [Bool.and_eq_true, decide_eq_true_eq, Bool.not_eq_true', decide_eq_false_iff_not]
  rw [lower_same h]
  constructor
  · rintro ⟨⟨h1, h2⟩, h3⟩
    refine ⟨⟨⟨by omega, by omega⟩, fun z => ?_⟩, fun z => ?_⟩
    · exact absurd (h3 _ z) (by decide)
    · exact absurd (h3 _ z) (by decide)
  · rintro ⟨⟨⟨h1, h2⟩, h3⟩, h4⟩
    refine ⟨⟨by omega, by omega⟩, fun c hc => ?_⟩
    rcases h.2 c hc with e | e | e
    · exact e
    · exact absurd (e ▸ hc) h3
    · exact absurd (e ▸ hc) h4
theorem good_nice {z : Str} (h : M2.goodN z = true) : nice z := by
  obtain ⟨⟨h1, h2⟩, h3⟩ := (M2.goodN_iff z).mp h
  exact ⟨by omega, fun c hc => .inl (h3 c hc)⟩
theorem is_bool {M : Model} {A : Around} {E : Value → Shared → Prop} {s : Shared} {Q : Value → Shared → Prop} {p q : Bool} (h : Q (.bool (p == q)) s) : wpAny M A (compareOp .Is (.bool p) (.bool q)) Q E s := by
  show wpAny M A (do return Value.bool (← isSame (.bool p) (.bool q))) Q E s
  refine wpAny_bind ?_
  show wpAny M A (pure (Value.bool p == Value.bool q)) _ E s
  refine wpAny_pure (wpAny_pure ?_)
  have e : (Value.bool p == Value.bool q) = (p == q) := by cases p <;> cases q <;> rfl
  rw [e]
  exact h
theorem op_isB {X : Cx} : OpR X (compareOp .Is) (fun x y H Q => ∃ p q, x = .bl p ∧ y = .bl q ∧ Q (.bl (p == q)) H) := by
  intro pins s σ H x y v u Q I rx ry h
  obtain ⟨p, q, rfl, rfl, q⟩ := h
  cases rx
  cases ry
  exact is_bool (fin_bl I q rfl)
theorem slice_sub {z : Str} {l u : Option Int} {c : Nat} (h : c ∈ (Txt.slice z l u).cps.toList) : c ∈ z.cps.toList := by
  unfold Txt.slice at h
  split at h
  · exact h
  · have h : c ∈ (List.filterMap (fun i => z.cps[i]?) (Builtin.Str.strSliceIndices l u 1 z.length)) := by simpa using h
    obtain ⟨i, _, e⟩ := List.mem_filterMap.mp h
    exact Array.mem_toList_iff.mpr (Array.mem_of_getElem? e)
theorem nice_add {z : Str} {l u : Option Int} {c : Nat} (h : M2.goodN z = true) (hc : c = 65 ∨ c = 32) : nice (Txt.slice z l u ++ ⟨#[c]⟩) := by
  obtain ⟨⟨h1, h2⟩, h3⟩ := (M2.goodN_iff z).mp h
  have hs := Txt.slice_le z l u
  refine ⟨by rw [len_add]; show _ + 1 ≤ 9; omega, fun x hx => ?_⟩
  have hx : x ∈ (Txt.slice z l u).cps.toList ∨ x = c := by
    have e : (Txt.slice z l u ++ ⟨#[c]⟩ : Str).cps.toList = (Txt.slice z l u).cps.toList ++ [c] := by
      show ((Txt.slice z l u).cps ++ #[c]).toList = _
      rw [Array.toList_append]
    rw [e] at hx
    rcases List.mem_append.mp hx with w | w
    · exact .inl w
    · exact .inr (List.mem_singleton.mp w)
  rcases hx with hx | rfl
  · exact .inl (h3 x (slice_sub hx))
  · exact .inr hc
theorem pe_bm0K {X : Cx} {K : PySem.W.Frag} {o : Expr} {to : TE} {name : Str} {apos cpos : Pos} {T id : String} {r : V → List V → Hp → VK → Prop} (h : X.K = K) (pa : PlainAttrs T) (slot : Slot T name id) (hty : typeOf (.builtin id) = pure (.type "method_descriptor")) (hm : MtR X id r) (ho : PE X o to)
    (hbase : attributeBase o name X.env (eval o X.env) = eval o X.env := by rfl) (hline : (apos.endLine == cpos.line) = true := by rfl) : PE X (.Call (.Attribute o name apos) [] [] cpos) (tBM0 K T r to) := by
  subst h
  exact pe_bm0 pa slot hty hm ho hbase hline
end L2
namespace L2
open PySem PySem.Spec PyProof.Rows

section
variable {κ : Type} [DecidableEq κ]
noncomputable def valV (kvs : List (κ × V)) (k : κ) : Option V := (kvs.find? fun kv => decide (kv.1 = k)).map (·.2)
noncomputable def putK (kvs : List (κ × V)) (k : κ) (v : V) : List (κ × V) :=
  if (kvs.any fun kv => decide (kv.1 = k)) = true then kvs.map (fun kv => if kv.1 = k then (kv.1, v) else kv) else kvs ++ [(k, v)]
theorem valV_pos {p : κ × V} {r : List (κ × V)} {k : κ} (e : p.1 = k) : valV (p :: r) k = some p.2 := by simp [valV, List.find?_cons, e]
theorem valV_neg {p : κ × V} {r : List (κ × V)} {k : κ} (e : ¬ p.1 = k) : valV (p :: r) k = valV r k := by simp [valV, List.find?_cons, e]
theorem RelO.isSome_eq {o : Option V} {u : Option Value} (r : RelO o u) : o.isSome = u.isSome := by
  cases o with
  | none => cases u with
    | none => rfl
    | some _ => exact (show False from r).elim
  | some _ => cases u with
    | none => exact (show False from r).elim
    | some _ => rfl
theorem KV.val {kvs : List (κ × V)} {vs : List (κ × Value)} (r : KV kvs vs) (k : κ) : RelO (valV kvs k) (valueAt vs k) := by
  unfold KV at r
  induction r with
  | nil => exact True.intro
  | @cons p q ps qs h t ih =>
    obtain ⟨h1, h2⟩ := h
    by_cases e : p.1 = k
    · have e' : q.1 = k := h1.symm.trans e
      have b : valueAt (q :: qs) k = some q.2 := by simp [valueAt, List.find?_cons, e']
      rw [valV_pos e, b]; exact h2
    · have e' : ¬ q.1 = k := fun z => e (h1.trans z)
      have b : valueAt (q :: qs) k = valueAt qs k := by simp [valueAt, List.find?_cons, e']
      rw [valV_neg e, b]; exact ih
theorem KV.length {kvs : List (κ × V)} {vs : List (κ × Value)} (r : KV kvs vs) : kvs.length = vs.length := Paired.length r
end

theorem kV_is {P : Program} {w : World} {k : Key} {u : Value} (r : RelV (kV k) u) : (mixKind P w).is k u = true := by
  cases k with
  | inl i => obtain ⟨t, e⟩ := (show ∃ t, u = Value.int i t from r); subst e; exact mixKind_int P w i t
  | inr x => obtain ⟨t, e⟩ := (show ∃ t, u = Value.str x t from r); subst e; exact mixKind_str P w x t
theorem items_are {P : Program} {w : World} : ∀ {ks : List Key} {us : List Value}, Vals (ks.map kV) us → ItemsAre (mixKind P w) ks us
  | [], _, r => by rw [List.map_nil] at r; cases r; exact .nil
  | k :: ks, _, r => by
    rw [List.map_cons] at r
    cases r with
    | cons h t => exact .cons (kV_is h) (items_are t)
noncomputable abbrev KT (H : Hp) : List (List Key × V) → List (List Key × Addr × Value) → Prop := Paired fun p q => p.1 = q.1 ∧ H q.2.1 = some (.tup (p.1.map kV)) ∧ RelV p.2 q.2.2
theorem KT.val {H : Hp} {kvs : List (List Key × V)} {xs : List (List Key × Addr × Value)} (r : KT H kvs xs) (k : List Key) : RelO (valV kvs k) ((atKey xs k).map (·.2)) := by
  induction r with
  | nil => exact True.intro
  | @cons p q ps qs h t ih =>
    obtain ⟨h1, _, h2⟩ := h
    by_cases e : p.1 = k
    · have e' : q.1 = k := h1.symm.trans e
      have b : atKey (q :: qs) k = some q.2 := by simp [atKey, List.find?_cons, e']
      rw [valV_pos e, b]; exact h2
    · have e' : ¬ q.1 = k := fun z => e (h1.trans z)
      have b : atKey (q :: qs) k = atKey qs k := by simp [atKey, List.find?_cons, e']
      rw [valV_neg e, b]; exact ih
theorem KT.keeps {H H' : Hp} {kvs : List (List Key × V)} {xs : List (List Key × Addr × Value)} (r : KT H kvs xs) (ht : ∀ b ys, H b = some (.tup ys) → H' b = some (.tup ys)) : KT H' kvs xs :=
  Paired.mapP r fun _ _ z => ⟨z.1, ht _ _ z.2.1, z.2.2⟩
section
variable {P : Program} {w : World} {H : Hp} {h : Heap} {a : Addr}
theorem rd_of {u : HO} (ok : HOk P w H h) (e : Rd H a u) : ObjOk P w H h a u := e.ok ok
theorem dk_rd {kvs : List (Key × V)} (ok : HOk P w H h) (e : Rd H a (.dK kvs)) : kvs.length ≤ sizeLine ∧ (a == sysModules) = false ∧ ∃ vs, KV kvs vs ∧ h.DictOf (mixKind P w) a vs :=
  show ObjOk P w H h a (.dK kvs) from rd_of ok e
theorem key_of {ks : List Key} (ok : HOk P w H h) (e : H a = some (.tup (ks.map kV))) : (tupleKind (mixKind P w)).is h ks a := by
  obtain ⟨_, its, r, o, h1, h2, n, h3⟩ := (show ObjOk P w H h a (.tup (ks.map kV)) from ok a _ e)
  exact ⟨o, its.toArray, n, h1, h2, h3, by simpa using items_are r⟩
theorem dt_rd {kvs : List (List Key × V)} (ok : HOk P w H h) (e : Rd H a (.dT kvs)) : kvs.length ≤ sizeLine ∧ (a == sysModules) = false ∧
    ∃ xs, KT H kvs xs ∧ h.DictOfH (tupleKind (mixKind P w)) a xs := by
  obtain ⟨z, y, xs, r, o, es, ep, h1, h2, h3, h4, h5⟩ := (show ObjOk P w H h a (.dT kvs) from rd_of ok e)
  refine ⟨z, y, xs, r, o, es, ep, h1, h2, h3, h4, fun x hx => ?_, h5⟩
  have all : ∀ {l : List (List Key × V)} {m : List (List Key × Addr × Value)}, KT H l m → ∀ x ∈ m, (tupleKind (mixKind P w)).is h x.1 x.2.1 := by
    intro l m q
    induction q with
    | nil => intro x hx; exact nomatch hx
    | @cons p q ps qs hq t ih =>
      intro x hx
      rcases List.mem_cons.mp hx with e | hx
      · subst e
        exact key_of ok (by rw [← hq.1]; exact hq.2.1)
      · exact ih x hx
  exact all r x hx
end
noncomputable def DGet (H : Hp) (a : Addr) (y : V) (r : Option V) : Prop :=
  (∃ kvs k, Rd H a (.dK kvs) ∧ y = kV k ∧ r = valV kvs k) ∨ ∃ kvs k b, Rd H a (.dT kvs) ∧ y = .ref b ∧ H b = some (.tup (k.map kV)) ∧ r = valV kvs k
noncomputable def DPut (H : Hp) (a : Addr) (y v : V) (H' : Hp) : Prop :=
  (∃ kvs k, H a = some (.dK kvs) ∧ y = kV k ∧ kvs.length < sizeLine ∧ H' = upd H a (.dK (putK kvs k v))) ∨
  ∃ kvs k b, H a = some (.dT kvs) ∧ y = .ref b ∧ H b = some (.tup (k.map kV)) ∧ kvs.length < sizeLine ∧ H' = upd H a (.dT (putK kvs k v))
theorem DGet.k {H : Hp} {a : Addr} {kvs : List (Key × V)} {k : Key} (e : H a = some (.dK kvs)) : DGet H a (kV k) (valV kvs k) := .inl ⟨kvs, k, .inl e, rfl, rfl⟩
theorem DGet.t {H : Hp} {a b : Addr} {kvs : List (List Key × V)} {k : List Key} (e : H a = some (.dT kvs)) (eb : H b = some (.tup (k.map kV))) : DGet H a (.ref b) (valV kvs k) := .inr ⟨kvs, k, b, .inl e, rfl, eb, rfl⟩
theorem DPut.k {H : Hp} {a : Addr} {kvs : List (Key × V)} {k : Key} {v : V} (e : H a = some (.dK kvs)) (hl : kvs.length < sizeLine) : DPut H a (kV k) v (upd H a (.dK (putK kvs k v))) := .inl ⟨kvs, k, e, rfl, hl, rfl⟩
theorem DPut.t {H : Hp} {a b : Addr} {kvs : List (List Key × V)} {k : List Key} {v : V} (e : H a = some (.dT kvs)) (eb : H b = some (.tup (k.map kV))) (hl : kvs.length < sizeLine) :
    DPut H a (.ref b) v (upd H a (.dT (putK kvs k v))) := .inr ⟨kvs, k, b, e, rfl, eb, hl, rfl⟩
section
variable {X : Cx} {pins : List (Addr × Obj)} {σ : St} {H : Hp} {s : Shared} {a : Addr} {y v : V} {u r : Value} {o : Option V} {A : Around} {E : Value → Shared → Prop}
theorem Inv.big (I : Inv X pins σ H s) : sysModules < s.heap.objs.size := by
  have h : mainGlobals < s.heap.objs.size := (I.mod.glob.keeps I.bk).lt
  exact Nat.lt_trans (by decide) h
theorem d_getItem {Q : Value → Shared → Prop} (hu : A.units + 1 < cLine) (I : Inv X pins σ H s) (g : DGet H a y (some v)) (ry : RelV y u) (h : ∀ w' s', Inv X pins σ H s' → RelV v w' → Q w' s') :
    wpAny (model X.prog X.w) A (getItem (.ref a) u) Q E s := by
  rcases g with ⟨kvs, k, e, ey, l⟩ | ⟨kvs, k, b, e, ey, eb, l⟩
  · subst ey
    obtain ⟨z, hd, vs, rel, dd⟩ := dk_rd I.hok e
    obtain ⟨w', hw, rw'⟩ := RelO.some_of (v := v) (o := valueAt vs k) (by rw [l]; exact rel.val k)
    exact wpAny_getItem_of (kV_is ry) dd.mapOf hw (h w' _ (I.tok _) rw')
  · subst ey
    cases (show u = Value.ref b from ry)
    obtain ⟨z, hd, xs, rel, dd⟩ := dt_rd I.hok e
    obtain ⟨w', hw, rw'⟩ := RelO.some_of (v := v) (o := (atKey xs k).map (·.2)) (by rw [l]; exact rel.val k)
    obtain ⟨p, hp, hp2⟩ := Option.map_eq_some_iff.mp hw
    refine wpAny_getItem_heap (tupleKind_room_in1 hu) (key_of I.hok eb) dd hp ?_
    rw [hp2]
    exact h w' _ (I.tok _) rw'
theorem d_in {Q : Value → Shared → Prop} (hu : A.units + 1 < cLine) (I : Inv X pins σ H s) (g : DGet H a y o) (ry : RelV y u) (h : ∀ s', Inv X pins σ H s' → Q (.bool o.isSome) s') :
    wpAny (model X.prog X.w) A (compareOp .In u (.ref a)) Q E s := by
  rcases g with ⟨kvs, k, e, ey, l⟩ | ⟨kvs, k, b, e, ey, eb, l⟩
  · subst ey
    obtain ⟨z, hd, vs, rel, dd⟩ := dk_rd I.hok e
    refine wpAny_in_of (kV_is ry) hd dd.mapOf ?_
    rw [← (rel.val k).isSome_eq, ← l]
    exact h _ (I.tok _)
  · subst ey
    cases (show u = Value.ref b from ry)
    obtain ⟨z, hd, xs, rel, dd⟩ := dt_rd I.hok e
    refine wpAny_in_heap (tupleKind_room_in1 hu) (key_of I.hok eb) hd dd ?_
    have q := (rel.val k).isSome_eq
    rw [Option.isSome_map] at q
    rw [← q, ← l]
    exact h _ (I.tok _)
theorem d_notIn {Q : Value → Shared → Prop} (hu : A.units + 1 < cLine) (I : Inv X pins σ H s) (g : DGet H a y o) (ry : RelV y u) (h : ∀ s', Inv X pins σ H s' → Q (.bool (!o.isSome)) s') :
    wpAny (model X.prog X.w) A (compareOp .NotIn u (.ref a)) Q E s := by
  rcases g with ⟨kvs, k, e, ey, l⟩ | ⟨kvs, k, b, e, ey, eb, l⟩
  · subst ey
    obtain ⟨z, hd, vs, rel, dd⟩ := dk_rd I.hok e
    refine wpAny_notIn_of (kV_is ry) hd dd.mapOf ?_
    rw [← (rel.val k).isSome_eq, ← l]
    exact h _ (I.tok _)
  · subst ey
    cases (show u = Value.ref b from ry)
    obtain ⟨z, hd, xs, rel, dd⟩ := dt_rd I.hok e
    refine wpAny_notIn_heap (tupleKind_room_in1 hu) (key_of I.hok eb) hd dd ?_
    have q := (rel.val k).isSome_eq
    rw [Option.isSome_map] at q
    rw [← q, ← l]
    exact h _ (I.tok _)
end
section
variable {X : Cx} {pins : List (Addr × Obj)} {σ : St} {H : Hp} {s : Shared} {a : Addr} {kvs : List (Key × V)} {k : Key} {u : Value} {A : Around} {E : Value → Shared → Prop}
end

noncomputable def NoSl (i : Expr) : Prop := ∀ ov iv, subscripted i false ov iv = operate [ov, iv] (getItem ov iv)
theorem subD_of {prog : Program} {w : World} {A : Around} {E : Value → Shared → Prop} {s : Shared} {env : Env} {value slice : Expr} {pos : Pos} {T id : String} {Q : Value → Shared → Prop}
    (hl : typeLookup (.type T) "__getitem__" = pure (some (.builtin id))) (hs : NoSl slice)
    (h : wpAny (model prog w) A (eval value env) (fun o s₁ => wpAny (model prog w) A (eval slice env) (fun i s₂ => s₂.TypeIs o T ∧ wpAny (model prog w) A (getItem o i) Q E s₂) E s₁) E s) :
    wpAny (model prog w) A (eval (.Subscript value slice pos) env) Q E s := by
  refine Subscript_ (wpAny_mono h (fun o s₁ h₁ => wpAny_mono h₁ (fun i s₂ h₂ => ?_) fun _ _ x => x) fun _ _ x => x)
  obtain ⟨hT, h₂⟩ := h₂
  unfold subscriptTail
  refine wpAny_bind ?_
  rw [getitemInPython_of_ne hT.not_modules]
  refine wpAny_bind (wpAny_specialOf hT hl ?_)
  have fin : wpAny (model prog w) A (subscripted slice false o i) (fun r s₃ => wpAny (model prog w) A (letTemporaryGo value o r >>= fun _ => pure r) Q E s₃) E s₂ := by
    rw [hs o i]
    exact wpAny_operating (wpAny_mono h₂ (fun r s₃ h₃ => wpAny_bind (wpAny_letTemporaryGo (wpAny_pure h₃))) fun _ _ x => x)
  first
    | exact wpAny_pure (wpAny_bind fin)
    | exact wpAny_bind (wpAny_pure (wpAny_bind fin))
    | exact wpAny_bind fin
theorem dict_typeIs {X : Cx} {pins : List (Addr × Obj)} {σ : St} {H : Hp} {s : Shared} {a : Addr} {y : V} {o : Option V} (I : Inv X pins σ H s) (g : DGet H a y o) : s.TypeIs (.ref a) "dict" := by
  rcases g with ⟨kvs, k, e, _, _⟩ | ⟨kvs, k, b, e, _, _, _⟩
  · obtain ⟨_, _, vs, _, dd⟩ := dk_rd I.hok e
    exact dd.typeIs
  · obtain ⟨_, _, xs, _, dd⟩ := dt_rd I.hok e
    exact dd.typeIs
noncomputable def tDGet (td ty : TE) : TE := fun σ H Q => td σ H fun x H1 => ty σ H1 fun y H2 => ∃ a v, x = .ref a ∧ DGet H2 a y (some v) ∧ Q v H2
noncomputable def tDIn (ty td : TE) : TE := fun σ H Q => ty σ H fun y H1 => td σ H1 fun x H2 => ∃ a o, x = .ref a ∧ DGet H2 a y o ∧ Q (.bl o.isSome) H2
noncomputable def tDNotIn (ty td : TE) : TE := fun σ H Q => ty σ H fun y H1 => td σ H1 fun x H2 => ∃ a o, x = .ref a ∧ DGet H2 a y o ∧ Q (.bl (!o.isSome)) H2
section
variable {X : Cx} {o i e value : Expr} {pos pos' tpos : Pos} {td ty tv : TE}
theorem pe_dget (hu : X.A.units + 1 < cLine) (ho : PE X o td) (hi : PE X i ty) (hs : NoSl i) : PE X (.Subscript o i pos) (tDGet td ty) := by
  intro pins s σ H Q I h
  refine subD_of PySem.F.slot_dict_getitem.lookup hs (thn (ho pins s σ H _ I h) fun u s1 ⟨x, H1, I1, rx, q1⟩ => thn (hi pins s1 σ H1 _ I1 q1) fun iv s2 ⟨y, H2, I2, ry, a, v, ex, g, q2⟩ => ?_)
  subst ex
  obtain rfl : u = Value.ref a := rx
  exact ⟨dict_typeIs I2 g, d_getItem hu I2 g ry fun w' s3 I3 rw' => ⟨v, H2, I3, rw', q2⟩⟩
theorem pc_din (hu : X.A.units + 1 < cLine) (hi : PE X i ty) (ho : PE X o td) : PC X .In i o (tDIn ty td) := by
  intro pins s σ H Q I h
  refine thn (hi pins s σ H _ I h) fun iv s1 ⟨y, H1, I1, ry, q1⟩ => thn (ho pins s1 σ H1 _ I1 q1) fun u s2 ⟨x, H2, I2, rx, a, ov, ex, g, q2⟩ => ?_
  subst ex
  obtain rfl : u = Value.ref a := rx
  exact d_in hu I2 g ry fun s3 I3 => ⟨.bl ov.isSome, H2, I3, rfl, q2⟩
theorem pc_dnotin (hu : X.A.units + 1 < cLine) (hi : PE X i ty) (ho : PE X o td) : PC X .NotIn i o (tDNotIn ty td) := by
  intro pins s σ H Q I h
  refine thn (hi pins s σ H _ I h) fun iv s1 ⟨y, H1, I1, ry, q1⟩ => thn (ho pins s1 σ H1 _ I1 q1) fun u s2 ⟨x, H2, I2, rx, a, ov, ex, g, q2⟩ => ?_
  subst ex
  obtain rfl : u = Value.ref a := rx
  exact d_notIn hu I2 g ry fun s3 I3 => ⟨.bl (!ov.isSome), H2, I3, rfl, q2⟩
end

theorem dk_empty {P : Program} {w : World} {H : Hp} (h : Heap) (hb : sysModules < h.objs.size) : ObjOk P w H (h.push { cls := .type "dict", data := .dict #[] }) h.objs.size (.dK []) :=
  ⟨Nat.zero_le _, beq_eq_false_iff_ne.mpr (Ne.symm (Nat.ne_of_lt hb)), [], .nil, Heap.DictOf.new h⟩
noncomputable def tDNewK : TE := fun _ H Q => ∀ p, H p = none → Q (.ref p) (upd H p (.dK []))
section
variable {X : Cx} {pos : Pos}
theorem pe_dnewK : PE X (.Dict [] [] pos) tDNewK := fun pins s σ H Q I h =>
  wpAny_Dict_empty ⟨.ref s.heap.objs.size, _, I.laid (a := s.heap.objs.size) (o := .dK []) (t' := s.toks) (fun _ _ q => Heap.get?_push_of_some _ q) (Nat.le_refl _) (dk_empty s.heap I.big), rfl, h _ (I.hok.fresh (Nat.le_refl _))⟩
end

structure M1 (X : Cx) (o : Expr) (m : Str) (apos : Pos) (e : Expr) (cpos : Pos) : Prop where
  base : attributeBase o m X.env (eval o X.env) = eval o X.env
  few : ((backTo cpos (starEach [e] X.env)).all (fun x => !x.1) && (backToKw cpos (keywordEach [] X.env)).all (fun x => x.1.isSome)
    && decide (([e] : List Expr).length + ([] : List Keyword).length + (if ([] : List Keyword).isEmpty then 0 else 1) < 30)) = true
  line : (apos.endLine == cpos.line) = true
  trees : backTo cpos (starEach [e] X.env) = [(false, eval e X.env)]
structure M2 (X : Cx) (o : Expr) (m : Str) (apos : Pos) (e f : Expr) (cpos : Pos) : Prop where
  base : attributeBase o m X.env (eval o X.env) = eval o X.env
  few : ((backTo cpos (starEach [e, f] X.env)).all (fun x => !x.1) && (backToKw cpos (keywordEach [] X.env)).all (fun x => x.1.isSome)
    && decide (([e, f] : List Expr).length + ([] : List Keyword).length + (if ([] : List Keyword).isEmpty then 0 else 1) < 30)) = true
  line : (apos.endLine == cpos.line) = true
  trees : backTo cpos (starEach [e, f] X.env) = [(false, eval e X.env), (false, eval f X.env)]
section
variable {X : Cx} {pins : List (Addr × Obj)} {σ : St} {H : Hp} {s : Shared} {a : Addr} {y d : V} {u r : Value} {o : Option V} {A : Around} {E : Value → Shared → Prop}
end
section
variable {X : Cx} {o e f : Expr} {apos cpos : Pos} {td ty tx : TE}
end

section
variable {X : Cx} {pins : List (Addr × Obj)} {σ : St} {H : Hp} {s : Shared} {a : Addr} {kvs : List (Key × V)} {A : Around} {E : Value → Shared → Prop}
end
section
variable {X : Cx} {pins : List (Addr × Obj)} {σ : St} {H : Hp} {s : Shared} {a : Addr} {y : V} {u : Value} {A : Around} {E : Value → Shared → Prop}
end
end L2
namespace L2
open PySem PySem.Spec PyProof.Rows
section
variable {X : Cx}
end
end L2
namespace L2
open PySem PySem.Spec PyProof.Rows

section
variable {κ : Type} [DecidableEq κ]
end
end L2
set_option linter.all false
namespace M1
noncomputable def gap (c : Int) : Int := [1, 7, 500, 998].getD (c % 4).toNat 1
noncomputable def couples (c : Int) (m : Nat) : List Int := (List.range m).map fun (k : Nat) => (c / 4 + (k : Int) * gap c) % 999 + 1
theorem couples_len (c : Int) (m : Nat) : (couples c m).length = m := by unfold couples; simp
theorem couples_succ (c : Int) (m : Nat) : couples c (m + 1) = couples c m ++ [(c / 4 + (m : Int) * gap c) % 999 + 1] := by unfold couples; rw [List.range_succ, List.map_append]; rfl
noncomputable def goodC (ns : List Int) : Bool := (decide (1 ≤ (ns.length : Int)) && decide ((ns.length : Int) ≤ 24)) && (decide ns.Nodup && (ns.map fun n => decide (1 ≤ n) && decide (n ≤ 999)).all id)
theorem goodC_iff (ns : List Int) : goodC ns = true ↔ (1 ≤ ns.length ∧ ns.length ≤ 24) ∧ ns.Nodup ∧ ∀ n ∈ ns, 1 ≤ n ∧ n ≤ 999 := by
  unfold goodC
  simp only [Bool.and_eq_true, decide_eq_true_eq, List.all_map, List.all_eq_true, Function.comp, id]
  constructor
  · rintro ⟨⟨h1, h2⟩, h3, h4⟩
    exact ⟨⟨by omega, by omega⟩, h3, h4⟩
  · rintro ⟨⟨h1, h2⟩, h3, h4⟩
    exact ⟨⟨by omega, by omega⟩, h3, h4⟩
end M1
set_option linter.all false
set_option maxRecDepth 100000
namespace M10
open PySem L2 M2
noncomputable def nameK (e0 e1 : Str) (c : Int) (k : Nat) : Str := e0 ++ ⟨#[97 + ((c + 11 * (k : Int)) % 26).toNat]⟩ ++ e1
noncomputable def namesK (e0 e1 : Str) (c : Int) (m : Nat) : List Str := (List.range m).map fun (k : Nat) => nameK e0 e1 c k
theorem namesK_succ (e0 e1 : Str) (c : Int) (m : Nat) : namesK e0 e1 c (m + 1) = namesK e0 e1 c m ++ [nameK e0 e1 c m] := by unfold namesK; rw [List.range_succ, List.map_append]; rfl
theorem namesK_len (e0 e1 : Str) (c : Int) (m : Nat) : (namesK e0 e1 c m).length = m := by unfold namesK; simp
theorem nameK_list (e0 e1 : Str) (c : Int) (k : Nat) : (nameK e0 e1 c k).cps.toList = e0.cps.toList ++ [97 + ((c + 11 * (k : Int)) % 26).toNat] ++ e1.cps.toList := by
  show (e0.cps ++ #[97 + ((c + 11 * (k : Int)) % 26).toNat] ++ e1.cps).toList = _
  rw [Array.toList_append, Array.toList_append]
theorem namesK_nodup (e0 e1 : Str) (c : Int) {m : Nat} (hm : m ≤ 26) : (namesK e0 e1 c m).Nodup := by
  unfold namesK
  refine List.pairwise_map.mpr (List.Pairwise.imp_of_mem (fun {i j} hi hj hlt e => ?_) (List.pairwise_lt_range (n := m)))
  have hi := List.mem_range.mp hi
  have hj := List.mem_range.mp hj
  have h := congrArg (fun s : Str => s.cps.toList) e
  simp only [nameK_list, List.append_assoc] at h
  have h2 := List.append_cancel_left h
  have h3 : 97 + ((c + 11 * (i : Int)) % 26).toNat = 97 + ((c + 11 * (j : Int)) % 26).toNat := by
    have := List.cons.inj (show (97 + ((c + 11 * (i : Int)) % 26).toNat) :: e1.cps.toList = (97 + ((c + 11 * (j : Int)) % 26).toNat) :: e1.cps.toList from h2)
    exact this.1
  omega
theorem nameK_good {e0 e1 : Str} (c : Int) (k : Nat) (hl : e0.length + e1.length ≤ 7) (h0 : ∀ x ∈ e0.cps.toList, small x = true) (h1 : ∀ x ∈ e1.cps.toList, small x = true) : goodN (nameK e0 e1 c k) = true := by
  rw [goodN_iff]
  have hlen : (nameK e0 e1 c k).length = e0.length + 1 + e1.length := by unfold nameK; rw [len_add, len_add]; rfl
  refine ⟨by omega, fun x hx => ?_⟩
  rw [nameK_list] at hx
  rcases List.mem_append.mp hx with hx | hx
  · rcases List.mem_append.mp hx with hx | hx
    · exact h0 x hx
    · have e : x = 97 + ((c + 11 * (k : Int)) % 26).toNat := List.mem_singleton.mp hx
      have := Int.emod_nonneg (c + 11 * (k : Int)) (show (26 : Int) ≠ 0 by decide)
      have := Int.emod_lt_of_pos (c + 11 * (k : Int)) (show (0 : Int) < 26 by decide)
      unfold small
      rw [e, decide_eq_true (by omega), decide_eq_true (by omega)]
      rfl
  · exact h1 x hx
theorem ends_ok (z p : Fin 8) (h : p.val ≤ z.val) : (PySem.Txt.slice "vwxyzab" none (some (p.val : Int))).length + (PySem.Txt.slice "vwxyzab" (some (p.val : Int)) (some (z.val : Int))).length ≤ 7 ∧
    (∀ x ∈ (PySem.Txt.slice "vwxyzab" none (some (p.val : Int))).cps.toList, small x = true) ∧ ∀ x ∈ (PySem.Txt.slice "vwxyzab" (some (p.val : Int)) (some (z.val : Int))).cps.toList, small x = true := by
  revert z p
  decide +kernel
end M10
set_option linter.all false
namespace M3
open PySem L2
noncomputable def got (ms : List Int) (n : Int) : List Int := ms.filter fun m => decide (m ≤ n)
noncomputable def cnt (ms : List Int) (n : Int) : Nat := (got ms n).length
noncomputable def sm (ms : List Int) (n : Int) : Int := (got ms n).sum
end M3
set_option linter.all false
set_option maxRecDepth 100000
namespace L2
open PySem

inductive All2 {α β : Type} (R : α → β → Prop) : List α → List β → Prop
  | nil : All2 R [] []
  | cons {a : α} {b : β} {as : List α} {bs : List β} : R a b → All2 R as bs → All2 R (a :: as) (b :: bs)
namespace All2
variable {α β : Type} {R S : α → β → Prop} {as as' : List α} {bs bs' : List β}
theorem length (h : All2 R as bs) : as.length = bs.length := by
  induction h with
  | nil => rfl
  | cons _ _ ih => rw [List.length_cons, List.length_cons, ih]
theorem imp (f : ∀ a b, R a b → S a b) (h : All2 R as bs) : All2 S as bs := by
  induction h with
  | nil => exact .nil
  | cons r _ ih => exact .cons (f _ _ r) ih
theorem append (h : All2 R as bs) (h' : All2 R as' bs') : All2 R (as ++ as') (bs ++ bs') := by
  induction h with
  | nil => exact h'
  | cons r _ ih => exact .cons r ih
theorem snoc {a : α} {b : β} (h : All2 R as bs) (r : R a b) : All2 R (as ++ [a]) (bs ++ [b]) := h.append (.cons r .nil)
end All2

end L2
set_option linter.all false
set_option maxRecDepth 100000
namespace L2
open PySem

theorem pe_both {X : Cx} {e : Expr} {t u : TE} (h1 : PE X e t) (h2 : PE X e u) : PE X e (fun σ H Q => t σ H Q ∨ u σ H Q) := by
  intro pins s σ H Q I h
  rcases h with h | h
  · exact h1 pins s σ H Q I h
  · exact h2 pins s σ H Q I h

structure Sh where
  couples : List Int
  struck : List Int
  panel : List Str
  card : Str → Option (List Int)
  taken : Nat
  shut : Bool
noncomputable def wo (c : Int) (l : List Int) : List Int := l.filter fun o => !decide (o = c)
namespace Sh
structure Ok (S : Sh) : Prop where
  c1 : 1 ≤ S.couples.length
  c24 : S.couples.length + S.struck.length ≤ 24
  nd : S.couples.Nodup
  rng : ∀ c ∈ S.couples, 1 ≤ c ∧ c ≤ 999
  p1 : 1 ≤ S.panel.length
  p15 : S.panel.length ≤ 15
  pnd : S.panel.Nodup
  cd : ∀ j c, S.card j = some c → j ∈ S.panel ∧ c.Perm S.couples
  t200 : S.taken ≤ 200
noncomputable def handed (S : Sh) : List Str := S.panel.filter fun j => (S.card j).isSome
noncomputable def cardsIn (S : Sh) : List (List Int) := S.handed.map fun j => (S.card j).getD []
noncomputable def new (us : List Int) (ts : List Str) : Sh := ⟨us, [], ts, fun _ => none, 0, false⟩
noncomputable def strike (S : Sh) (c : Int) : Sh := { S with couples := wo c S.couples, struck := S.struck ++ [c], card := fun j => (S.card j).map (wo c) }
noncomputable def refuseS (S : Sh) (c : Int) : Option Str :=
  if S.shut = true then some "SheetSealed" else if c ∈ S.couples then (if S.couples.length = 1 then some "LastCouple" else none) else some "UnknownCouple"
noncomputable def close (S : Sh) : Sh := { S with shut := true }
theorem Ok.new {us : List Int} {ts : List Str} (h1 : M1.goodC us = true) (h2 : M2.goodJ ts = true) : (new us ts).Ok := by
  have g1 := h1
  unfold M1.goodC at g1
  simp only [Bool.and_eq_true, decide_eq_true_eq, List.all_map, List.all_eq_true, Function.comp, id] at g1
  obtain ⟨⟨a1, a2⟩, a3, a4⟩ := g1
  obtain ⟨⟨b1, b2⟩, b3, _⟩ := (M2.goodJ_iff ts).mp h2
  exact ⟨by show 1 ≤ us.length; omega, by show us.length + 0 ≤ 24; omega, a3, a4, b1, b2, b3, (fun _ _ h => nomatch h), Nat.zero_le _⟩
theorem wo_len {c : Int} {l : List Int} (nd : l.Nodup) (hc : c ∈ l) : (wo c l).length + 1 = l.length := by
  unfold wo
  have e : (l.filter fun o => !decide (o = c)) = l.erase c := by
    rw [nd.erase_eq_filter]
    refine List.filter_congr fun x _ => ?_
    by_cases h : x = c
    · subst h; simp
    · simp [h]
  rw [e, List.length_erase_of_mem hc]
  have := List.length_pos_of_mem hc
  omega
theorem Ok.strike {S : Sh} (h : S.Ok) {c : Int} (hr : S.refuseS c = none) : (S.strike c).Ok ∧ c ∈ S.couples ∧ 2 ≤ S.couples.length ∧ S.shut = false := by
  unfold refuseS at hr
  split at hr
  · cases hr
  rename_i h1
  split at hr
  rename_i h2
  split at hr
  · cases hr
  rename_i h3
  · have hl := wo_len h.nd h2
    have h0 := h.c1
    have h24 := h.c24
    refine ⟨⟨?_, ?_, h.nd.filter _, fun d hd => h.rng d (List.mem_filter.mp hd).1, h.p1, h.p15, h.pnd, fun k d e => ?_, h.t200⟩, h2, by omega, by simpa using h1⟩
    · show 1 ≤ (wo c S.couples).length
      omega
    · show (wo c S.couples).length + (S.struck ++ [c]).length ≤ 24
      rw [List.length_append, List.length_singleton]
      omega
    · have e : (S.card k).map (wo c) = some d := e
      cases q : S.card k with
      | none => rw [q] at e; cases e
      | some b =>
        rw [q] at e
        cases e
        exact ⟨(h.cd k b q).1, (h.cd k b q).2.filter _⟩
  · cases hr
theorem Ok.close {S : Sh} (h : S.Ok) : S.close.Ok := ⟨h.c1, h.c24, h.nd, h.rng, h.p1, h.p15, h.pnd, h.cd, h.t200⟩
end Sh
noncomputable def shF (a1 a2 a3 d : Addr) (S : Sh) : List (Str × V) := [("standing", .ref a1), ("struck_so_far", .ref a2), ("panel", .ref a3), ("card_by_judge", .ref d), ("taken_so_far", .int S.taken), ("sealed", .bl S.shut)]
structure Shape (K : PySem.W.Frag) (H : Hp) (p : Addr) (F : Addr → Prop) (S : Sh) (dx a1 a2 a3 d : Addr) (kvs : List (Key × V)) : Prop where
  ip : H p = some (.ins (clsA K "Sheet") dx (shF a1 a2 a3 d S))
  i1 : H a1 = some (.lst (S.couples.map V.int))
  i2 : H a2 = some (.lst (S.struck.map V.int))
  i3 : H a3 = some (.lst (S.panel.map V.str))
  i4 : H d = some (.dK kvs)
  kl : kvs.length ≤ S.taken
  cn : ∀ j, S.card j = none → valV kvs (Sum.inr j) = none
  cs : ∀ j c, S.card j = some c → ∃ l, valV kvs (Sum.inr j) = some (.ref l) ∧ H l = some (.lst (c.map V.int)) ∧ F l ∧ l ≠ a2
  fp : F p
  f1 : F a1
  f2 : F a2
  f3 : F a3
  f4 : F d
  n12 : a1 ≠ a2
  n32 : a3 ≠ a2
  fh : ∀ b, F b → H b ≠ none
structure SheetIn (K : PySem.W.Frag) (H : Hp) (p : Addr) (F : Addr → Prop) (S : Sh) (dx a1 a2 a3 d : Addr) (kvs : List (Key × V)) : Prop extends Shape K H p F S dx a1 a2 a3 d kvs where
  ok : S.Ok
noncomputable def ShapeAt (K : PySem.W.Frag) (H : Hp) (p : Addr) (F : Addr → Prop) (S : Sh) : Prop := ∃ dx a1 a2 a3 d kvs, Shape K H p F S dx a1 a2 a3 d kvs
noncomputable def SheetAt (K : PySem.W.Frag) (H : Hp) (p : Addr) (F : Addr → Prop) (S : Sh) : Prop := ∃ dx a1 a2 a3 d kvs, SheetIn K H p F S dx a1 a2 a3 d kvs
theorem SheetIn.off {K : PySem.W.Frag} {H H' : Hp} {p : Addr} {F : Addr → Prop} {S : Sh} {dx a1 a2 a3 d : Addr} {kvs : List (Key × V)} (h : SheetIn K H p F S dx a1 a2 a3 d kvs) (e : ∀ b, F b → H' b = H b) : SheetIn K H' p F S dx a1 a2 a3 d kvs :=
  ⟨⟨(e _ h.fp).trans h.ip, (e _ h.f1).trans h.i1, (e _ h.f2).trans h.i2, (e _ h.f3).trans h.i3, (e _ h.f4).trans h.i4, h.kl, h.cn,
    fun j c hc => let ⟨l, x1, x2, x3, x4⟩ := h.cs j c hc; ⟨l, x1, (e _ x3).trans x2, x3, x4⟩, h.fp, h.f1, h.f2, h.f3, h.f4, h.n12, h.n32, fun b hb => by rw [e b hb]; exact h.fh b hb⟩, h.ok⟩
theorem SheetAt.off {K : PySem.W.Frag} {H H' : Hp} {p : Addr} {F : Addr → Prop} {S : Sh} (h : SheetAt K H p F S) (e : ∀ b, F b → H' b = H b) : SheetAt K H' p F S := by
  obtain ⟨dx, a1, a2, a3, d, kvs, h⟩ := h
  exact ⟨dx, a1, a2, a3, d, kvs, h.off e⟩
theorem SheetAt.fh {K : PySem.W.Frag} {H : Hp} {p : Addr} {F : Addr → Prop} {S : Sh} (h : SheetAt K H p F S) : ∀ b, F b → H b ≠ none := by
  obtain ⟨dx, a1, a2, a3, d, kvs, h⟩ := h
  exact h.fh
theorem SheetAt.ok {K : PySem.W.Frag} {H : Hp} {p : Addr} {F : Addr → Prop} {S : Sh} (h : SheetAt K H p F S) : S.Ok := by
  obtain ⟨dx, a1, a2, a3, d, kvs, h⟩ := h
  exact h.ok
theorem SheetAt.shape {K : PySem.W.Frag} {H : Hp} {p : Addr} {F : Addr → Prop} {S : Sh} (h : SheetAt K H p F S) : ShapeAt K H p F S := by
  obtain ⟨dx, a1, a2, a3, d, kvs, h⟩ := h
  exact ⟨dx, a1, a2, a3, d, kvs, h.toShape⟩
theorem SheetAt.same {K : PySem.W.Frag} {H H' : Hp} {p : Addr} {F : Addr → Prop} {S : Sh} (h : SheetAt K H p F S) (s : Same H H') : SheetAt K H' p F S := h.off fun b hb => by
  have := h.fh b hb
  cases e : H b with
  | none => exact absurd e this
  | some o => exact s b o e
theorem SheetAt.put {K : PySem.W.Frag} {H : Hp} {p : Addr} {F : Addr → Prop} {S : Sh} (h : SheetAt K H p F S) {l : Addr} {o : HO} (n : ¬ F l) : SheetAt K (upd H l o) p F S := h.off fun b hb => upd_ne fun z => n (z ▸ hb)
noncomputable def Deed (F : Addr → Prop) (H : Hp) (F' : Addr → Prop) (H' : Hp) : Prop := ∀ b o, H b = some o → ¬ F b → H' b = some o ∧ ¬ F' b
noncomputable def LQ (K : PySem.W.Frag) (F : Addr → Prop) (H : Hp) (a : Addr) (xs : List V) : Prop :=
  (Rd H a (.lst xs) ∧ ¬ F a) ∨ ∃ (o : Obj) (its : Array Value) (n : Nat), K.lookup a = some o ∧ o.cls = .type "list" ∧ o.dict = none ∧ o.data = .seq its n ∧ its.size ≤ sizeLine ∧ Vals xs its.toList
theorem LQ.of {K : PySem.W.Frag} {F : Addr → Prop} {H : Hp} {a : Addr} {xs : List V} (h : H a = some (.lst xs)) (n : ¬ F a) : LQ K F H a xs := .inl ⟨.inl h, n⟩
theorem SqL.none {K : PySem.W.Frag} {H : Hp} {a : Addr} {xs : List V} (h : SqL K H a xs) : LQ K (fun _ => False) H a xs := h.imp (fun z => ⟨z, fun w => w⟩) id
theorem Deed.trans {F F1 F2 : Addr → Prop} {H H1 H2 : Hp} (a : Deed F H F1 H1) (b : Deed F1 H1 F2 H2) : Deed F H F2 H2 := fun c o e n => b c o (a c o e n).1 (a c o e n).2
theorem step_new {H : Hp} {x l : Addr} {o u i : HO} (hx : H x = some i) (hl : H l = none) : upd (upd H l o) x u x = some u ∧ upd (upd H l o) x u l = some o ∧ l ≠ x ∧ ∀ b v, H b = some v → b ≠ x → upd (upd H l o) x u b = some v := by
  have n : l ≠ x := fun e => by rw [e, hx] at hl; cases hl
  exact ⟨upd_same, by rw [upd_ne n]; exact upd_same, n, fun b v e nb => by rw [upd_ne nb, upd_ne (ne_of_none e hl)]; exact e⟩
theorem putF_hit (f : Str) (v x : V) (r : List (Str × V)) : putF f v ((f, x) :: r) = (f, v) :: r := by rw [putF, if_pos rfl]
theorem putF_on {f g : Str} (v x : V) (r : List (Str × V)) (h : g ≠ f) : putF f v ((g, x) :: r) = (g, x) :: putF f v r := by rw [putF, if_neg h]
theorem pf1 (v : V) : putF "standing" v [] = ([("standing", v)] : List (Str × V)) := rfl
theorem pf2 (u v : V) : putF "struck_so_far" v [("standing", u)] = ([("standing", u), ("struck_so_far", v)] : List (Str × V)) := by rw [putF_on _ _ _ (by decide)]; rfl
theorem pf3 (u w v : V) : putF "panel" v [("standing", u), ("struck_so_far", w)] = ([("standing", u), ("struck_so_far", w), ("panel", v)] : List (Str × V)) := by rw [putF_on _ _ _ (by decide), putF_on _ _ _ (by decide)]; rfl
theorem pf4 (u w y v : V) : putF "card_by_judge" v [("standing", u), ("struck_so_far", w), ("panel", y)] = ([("standing", u), ("struck_so_far", w), ("panel", y), ("card_by_judge", v)] : List (Str × V)) := by rw [putF_on _ _ _ (by decide), putF_on _ _ _ (by decide), putF_on _ _ _ (by decide)]; rfl
theorem pf5 (u w y z v : V) : putF "taken_so_far" v [("standing", u), ("struck_so_far", w), ("panel", y), ("card_by_judge", z)] = ([("standing", u), ("struck_so_far", w), ("panel", y), ("card_by_judge", z), ("taken_so_far", v)] : List (Str × V)) := by rw [putF_on _ _ _ (by decide), putF_on _ _ _ (by decide), putF_on _ _ _ (by decide), putF_on _ _ _ (by decide)]; rfl
theorem pf6 (u w y z t v : V) : putF "sealed" v [("standing", u), ("struck_so_far", w), ("panel", y), ("card_by_judge", z), ("taken_so_far", t)] = ([("standing", u), ("struck_so_far", w), ("panel", y), ("card_by_judge", z), ("taken_so_far", t), ("sealed", v)] : List (Str × V)) := by rw [putF_on _ _ _ (by decide), putF_on _ _ _ (by decide), putF_on _ _ _ (by decide), putF_on _ _ _ (by decide), putF_on _ _ _ (by decide)]; rfl
theorem pf_sealed (a1 a2 a3 d : Addr) (S S' : Sh) (h : S'.taken = S.taken) : putF "sealed" (.bl S'.shut) (shF a1 a2 a3 d S) = shF a1 a2 a3 d S' := by
  unfold shF
  rw [putF_on _ _ _ (by decide), putF_on _ _ _ (by decide), putF_on _ _ _ (by decide), putF_on _ _ _ (by decide), putF_on _ _ _ (by decide), putF_hit, h]
theorem SheetAt.ins {K : PySem.W.Frag} {H : Hp} {p : Addr} {F : Addr → Prop} {S : Sh} (h : SheetAt K H p F S) : ∃ dx a1 a2 a3 d, H p = some (.ins (clsA K "Sheet") dx (shF a1 a2 a3 d S)) := by
  obtain ⟨dx, a1, a2, a3, d, kvs, h⟩ := h
  exact ⟨dx, a1, a2, a3, d, h.ip⟩

noncomputable def Sh.rows (S : Sh) : List (List Int) := S.panel.map fun j => (S.card j).getD []
theorem All2.set {α β : Type} {R : α → β → Prop} {as : List α} {bs : List β} (h : All2 R as bs) {a : α} {b : β} (r : R a b) : ∀ k, All2 R (as.set k a) (bs.set k b) := by
  induction h with
  | nil => intro k; exact .nil
  | cons r' h' ih =>
    intro k
    cases k with
    | zero => exact .cons r h'
    | succ k => exact .cons r' (ih k)
noncomputable def Rows (F : Addr → Prop) (H : Hp) (lc : Addr) (ls : List Addr) (cs : List (List Int)) : Prop := H lc = some (.lst (ls.map V.ref)) ∧ ¬ F lc ∧ All2 (fun l c => H l = some (.lst (c.map V.int)) ∧ ¬ F l) ls cs
theorem Rows.len {F : Addr → Prop} {H : Hp} {lc : Addr} {ls : List Addr} {cs : List (List Int)} (h : Rows F H lc ls cs) : ls.length = cs.length := h.2.2.length
theorem refs_ne {ls : List Addr} {c : List Int} (h : ls ≠ []) : (HO.lst (c.map V.int)) ≠ .lst (ls.map V.ref) := fun z => by
  injection z with z
  cases ls with
  | nil => exact h rfl
  | cons l ls => cases c with
    | nil => cases z
    | cons x c => simp at z
theorem Rows.set {F : Addr → Prop} {H : Hp} {lc : Addr} {ls : List Addr} {cs : List (List Int)} (h : Rows F H lc ls cs) (hne : ls ≠ []) {m : Addr} {c : List Int} (hm : H m = some (.lst (c.map V.int))) (nm : ¬ F m) (k : Nat) :
    Rows F (upd H lc (.lst ((ls.map V.ref).set k (.ref m)))) lc (ls.set k m) (cs.set k c) := by
  refine ⟨by rw [upd_same, List.map_set], h.2.1, All2.set (h.2.2.imp fun l c z => ⟨?_, z.2⟩) ⟨?_, nm⟩ k⟩
  · rw [upd_ne (ne_of z.1 h.1 (refs_ne hne))]; exact z.1
  · rw [upd_ne (ne_of hm h.1 (refs_ne hne))]; exact hm
theorem ixN_ok {k : Int} {n : Nat} (h0 : 0 ≤ k) (h : k.toNat < n) : ixN n k = some k.toNat := by
  unfold ixN
  rw [if_pos h0, if_pos (by omega)]
end L2
set_option Elab.async false
set_option linter.all false
namespace M19
open PySem
theorem join_cons (y x : PySem.Str) (z : PySem.Str) (r : List PySem.Str) : Str.join y (x :: z :: r) = x ++ y ++ Str.join y (z :: r) := rfl
theorem cat_list (x y : PySem.Str) : (x ++ y).cps.toList = x.cps.toList ++ y.cps.toList := by
  show (x.cps ++ y.cps).toList = _
  simp
theorem first_eq {c : Nat} : ∀ {a b r q : List Nat}, c ∉ a → c ∉ b → a ++ c :: r = b ++ c :: q → a = b ∧ r = q
  | [], [], r, q, _, _, h => ⟨rfl, by simpa using h⟩
  | [], y :: b, r, q, _, hb, h => by
    simp only [List.nil_append, List.cons_append, List.cons.injEq] at h
    exact absurd (h.1 ▸ List.mem_cons_self ..) hb
  | x :: a, [], r, q, ha, _, h => by
    simp only [List.nil_append, List.cons_append, List.cons.injEq] at h
    exact absurd (h.1 ▸ List.mem_cons_self ..) ha
  | x :: a, y :: b, r, q, ha, hb, h => by
    simp only [List.cons_append, List.cons.injEq] at h
    obtain ⟨e1, e2⟩ := first_eq (fun z => ha (List.mem_cons_of_mem _ z)) (fun z => hb (List.mem_cons_of_mem _ z)) h.2
    exact ⟨by rw [h.1, e1], e2⟩
theorem no_c {c : Nat} {a b r : List Nat} (ha : c ∉ a) (h : a = b ++ c :: r) : False := ha (by rw [h]; simp)
theorem str_eq {x y : PySem.Str} (h : x.cps.toList = y.cps.toList) : x = y := by
  cases x; cases y
  have : _ = _ := Array.toList_inj.mp h
  simpa using this
theorem join_list (c : Nat) (x z : PySem.Str) (r : List PySem.Str) : (Str.join ⟨#[c]⟩ (x :: z :: r)).cps.toList = x.cps.toList ++ c :: (Str.join ⟨#[c]⟩ (z :: r)).cps.toList := by
  rw [join_cons, cat_list, cat_list, List.append_assoc]
  rfl
theorem join_inj {c : Nat} : ∀ {ws vs : List PySem.Str}, (∀ w ∈ ws, c ∉ w.cps.toList) → (∀ w ∈ vs, c ∉ w.cps.toList) → ws ≠ [] → vs ≠ [] → Str.join ⟨#[c]⟩ ws = Str.join ⟨#[c]⟩ vs → ws = vs
  | [], _, _, _, h, _, _ => absurd rfl h
  | _ :: _, [], _, _, _, h, _ => absurd rfl h
  | [x], [y], _, _, _, _, h => by
    have h : x = y := h
    rw [h]
  | [x], y :: z :: r, hx, _, _, _, h => by
    have := congrArg (fun s : PySem.Str => s.cps.toList) h
    rw [join_list] at this
    exact (no_c (hx x (List.mem_cons_self ..)) this).elim
  | x :: z :: r, [y], _, hy, _, _, h => by
    have := congrArg (fun s : PySem.Str => s.cps.toList) h
    rw [join_list] at this
    exact (no_c (hy y (List.mem_cons_self ..)) this.symm).elim
  | x :: z :: r, y :: z' :: r', hx, hy, _, _, h => by
    have := congrArg (fun s : PySem.Str => s.cps.toList) h
    rw [join_list, join_list] at this
    obtain ⟨e1, e2⟩ := first_eq (hx x (List.mem_cons_self ..)) (hy y (List.mem_cons_self ..)) this
    have ih := join_inj (ws := z :: r) (vs := z' :: r') (fun w hw => hx w (List.mem_cons_of_mem _ hw)) (fun w hw => hy w (List.mem_cons_of_mem _ hw)) (by simp) (by simp) (str_eq e2)
    rw [str_eq e1, ih]
theorem split_ne (x y : PySem.Str) : Txt.split x y ≠ [] := by
  unfold Txt.split
  split
  · simp
  · split
    · simp
    · rw [StrLaws.partsBetween_eq]
      obtain ⟨p, r, e⟩ := StrLaws.partsFrom_ne x y.length 0 (Builtin.Str.occurrences x y 0 x.length (x.length + 1))
      rw [e]
      simp
theorem split_join {c : Nat} {ws : List PySem.Str} (h : ∀ w ∈ ws, c ∉ w.cps.toList) (h0 : ws ≠ []) : Txt.split (Str.join ⟨#[c]⟩ ws) ⟨#[c]⟩ = ws :=
  join_inj (StrLaws.split_free _ c) h (split_ne _ _) h0 (StrLaws.join_split _ _)
end M19
set_option Elab.async false
set_option linter.all false
set_option maxRecDepth 100000
namespace M20
open PySem L2
noncomputable def BARE : List Str := ["seal", "couples", "places", "parts", "deciders"]
noncomputable def JUDGE : List Str := ["card", "show", "leave", "step"]
noncomputable def COUPLE : List Str := ["strike", "step", "row"]
noncomputable def strN (n : Int) : Str := Str.ofString (toString n)
noncomputable def blank : Str := ⟨#[32]⟩
theorem blank_eq : (" " : Str) = blank := by decide +kernel
theorem digits_fine : ∀ m : Fin 1000, 0 < m.val → ((Nat.toDigits 10 m.val).map Char.toNat).length ≤ 3 ∧ ((Nat.toDigits 10 m.val).map Char.toNat).head? ≠ some 48 ∧ ((Nat.toDigits 10 m.val).map Char.toNat) ≠ [] ∧ (((Nat.toDigits 10 m.val).map Char.toNat).all fun c => decide (48 ≤ c) && decide (c ≤ 57)) = true := by decide +kernel
theorem strN_list {n : Int} (h0 : 0 ≤ n) : (strN n).cps.toList = (Nat.toDigits 10 n.toNat).map Char.toNat := by
  obtain ⟨m, rfl⟩ := Int.eq_ofNat_of_zero_le h0
  exact PySem.W.KIN.signs_num m
structure Num (z : Str) : Prop where
  len : z.length ≤ 3
  ex : ∃ c r, z.cps.toList = c :: r ∧ c ≠ 48
  all : ∀ c ∈ z.cps.toList, 48 ≤ c ∧ c ≤ 57
theorem len_list (z : Str) : z.length = z.cps.toList.length := by simp [PySem.Str.length]
theorem strN_num {n : Int} (h : 1 ≤ n ∧ n ≤ 999) : Num (strN n) := by
  have e := strN_list (n := n) (by omega)
  obtain ⟨d1, d2, d3, d4⟩ := digits_fine ⟨n.toNat, by omega⟩ (by show 0 < n.toNat; omega)
  dsimp only at d1 d2 d3 d4
  rw [← e] at d1 d2 d3 d4
  refine ⟨by rw [len_list]; exact d1, ?_, fun c hc => ?_⟩
  · cases q : (strN n).cps.toList with
    | nil => exact absurd q d3
    | cons c r =>
      rw [q] at d2
      exact ⟨c, r, rfl, fun z => d2 (by rw [z]; rfl)⟩
  · have := List.all_eq_true.mp d4 c hc
    simpa using this
theorem strN_reads {n : Int} (h : 1 ≤ n ∧ n ≤ 999) : PySem.intText? (strN n) = some n := PySem.W.KIN.num_reads (by omega) (by omega)
structure Wd (z : Str) : Prop where
  ne : z ≠ Str.ofString ""
  no : (32 : Nat) ∉ z.cps.toList
  len : z.length ≤ 12
theorem empty_list : (Str.ofString "").cps.toList = [] := by decide +kernel
theorem strN_wd {n : Int} (h : 1 ≤ n ∧ n ≤ 999) : Wd (strN n) := by
  have q := strN_num h
  obtain ⟨c, r, e, _⟩ := q.ex
  refine ⟨fun z => ?_, fun z => ?_, by have := q.len; omega⟩
  · rw [z, empty_list] at e; cases e
  · have := q.all 32 z; omega
noncomputable def inW (f : Str) (l : List Str) : Bool := inV (.str f) (l.map V.str)
noncomputable def due (f : Str) : Int := if inW f COUPLE = true then 1 else 0
structure Row (f j : Str) (ns : List Int) : Prop where
  inAll : inW f (BARE ++ JUDGE ++ COUPLE) = true
  fw : Wd f
  jud : inW f JUDGE = true → Wd j
  nojud : inW f JUDGE = false → j = Str.ofString ""
  due : f = Str.ofString "card" ∨ (ns.length : Int) = due f
  rng : ∀ n ∈ ns, 1 ≤ n ∧ n ≤ 999
  len : ns.length ≤ 24
noncomputable def words (f j : Str) (ns : List Int) : List Str := f :: ((if inW f JUDGE = true then [j] else []) ++ ns.map strN)
noncomputable def row (f j : Str) (ns : List Int) : Str := Str.join blank (words f j ns)
theorem words_wd {f j : Str} {ns : List Int} (h : Row f j ns) : ∀ w ∈ words f j ns, Wd w := fun w hw => by
  unfold words at hw
  rcases List.mem_cons.mp hw with e | hw
  · rw [e]; exact h.fw
  · rcases List.mem_append.mp hw with hw | hw
    · by_cases c : inW f JUDGE = true
      · rw [if_pos c] at hw
        rw [List.mem_singleton.mp hw]
        exact h.jud c
      · rw [if_neg c] at hw; cases hw
    · obtain ⟨n, hn, rfl⟩ := List.mem_map.mp hw
      exact strN_wd (h.rng n hn)
theorem words_len {f j : Str} {ns : List Int} (h : Row f j ns) : (words f j ns).length ≤ 26 := by
  unfold words
  have := h.len
  rw [List.length_cons, List.length_append, List.length_map]
  split <;> simp <;> omega
theorem split_row {f j : Str} {ns : List Int} (h : Row f j ns) : Txt.split (row f j ns) blank = words f j ns :=
  M19.split_join (fun w hw => (words_wd h w hw).no) (by unfold words; simp)
theorem sum_le : ∀ (ws : List Str), (∀ w ∈ ws, w.length ≤ 12) → (ws.map (·.length)).sum ≤ 12 * ws.length
  | [], _ => Nat.le_refl _
  | w :: ws, h => by
    have := sum_le ws fun x hx => h x (List.mem_cons_of_mem _ hx)
    have := h w (List.mem_cons_self ..)
    simp only [List.map_cons, List.sum_cons, List.length_cons]
    omega
theorem join_short {ws : List Str} (h : ∀ w ∈ ws, w.length ≤ 12) : (Str.join blank ws).length ≤ 13 * ws.length := by
  have := StrLaws.join_length_le blank ws
  have h2 := sum_le ws h
  have e : blank.length = 1 := rfl
  rw [e] at this
  omega
theorem row_len {f j : Str} {ns : List Int} (h : Row f j ns) : (row f j ns).length ≤ 338 := by
  have := join_short (ws := words f j ns) fun w hw => (words_wd h w hw).len
  have := words_len h
  unfold row
  omega
theorem no_empty {f j : Str} {ns : List Int} (h : Row f j ns) : inV (.str (Str.ofString "")) ((words f j ns).map V.str) = false := by
  unfold inV
  rw [List.any_eq_false]
  intro y hy
  obtain ⟨w, hw, rfl⟩ := List.mem_map.mp hy
  have := (words_wd h w hw).ne
  show ¬ (w == Str.ofString "") = true
  simpa using this
theorem strs_flat (ws : List Str) : (ws.map V.str).all flatV = true := by
  rw [List.all_eq_true]
  intro y hy
  obtain ⟨w, _, rfl⟩ := List.mem_map.mp hy
  rfl
noncomputable def fig (c : Nat) : Bool := decide (48 ≤ c) && decide (c ≤ 57)
theorem le_0 (c : Nat) : (!decide ((⟨#[c]⟩ : Str).cps.toList < ("0" : Str).cps.toList)) = decide (48 ≤ c) := by
  have e : ("0" : Str).cps.toList = [48] := by decide +kernel
  rw [e]
  show (!decide ([c] < [48])) = _
  by_cases h : 48 ≤ c
  · rw [decide_eq_true h, decide_eq_false]; rfl
    simp [List.cons_lt_cons_iff]; omega
  · rw [decide_eq_false h, decide_eq_true]; rfl
    simp [List.cons_lt_cons_iff]; omega
theorem le_9 (c : Nat) : (!decide (("9" : Str).cps.toList < (⟨#[c]⟩ : Str).cps.toList)) = decide (c ≤ 57) := by
  have e : ("9" : Str).cps.toList = [57] := by decide +kernel
  rw [e]
  show (!decide ([57] < [c])) = _
  by_cases h : c ≤ 57
  · rw [decide_eq_true h, decide_eq_false]; rfl
    simp [List.cons_lt_cons_iff]; omega
  · rw [decide_eq_false h, decide_eq_true]; rfl
    simp [List.cons_lt_cons_iff]; omega
noncomputable def L14 : List Str := ["seal", "couples", "places", "parts", "deciders", "show", "leave", "strike", "row", "step", "card", "card", "card", "step"]
noncomputable def fineB (f : Str) : Bool := inW f (BARE ++ JUDGE ++ COUPLE) && (f != Str.ofString "") && (!decide ((32 : Nat) ∈ f.cps.toList)) && decide (f.length ≤ 12) && (inW f ["show", "leave", "step", "card"] == inW f JUDGE) && (inW f ["strike", "row", "step"] == inW f COUPLE)
theorem L14_fine : L14.all fineB = true := by decide +kernel
structure Fine (f : Str) : Prop where
  inAll : inW f (BARE ++ JUDGE ++ COUPLE) = true
  fw : Wd f
  jd : inW f ["show", "leave", "step", "card"] = inW f JUDGE
  cp : inW f ["strike", "row", "step"] = inW f COUPLE
theorem fine_of {f : Str} (h : f ∈ L14) : Fine f := by
  have := List.all_eq_true.mp L14_fine f h
  unfold fineB at this
  simp only [Bool.and_eq_true, Bool.not_eq_true', bne_iff_ne, ne_eq, decide_eq_false_iff_not, decide_eq_true_eq, beq_iff_eq] at this
  obtain ⟨⟨⟨⟨⟨a1, a2⟩, a3⟩, a4⟩, a5⟩, a6⟩ := this
  exact ⟨a1, ⟨a2, a3, a4⟩, a5, a6⟩
noncomputable def pre (f j : Str) : List Str := f :: (if inW f JUDGE = true then [j] else [])
end M20
set_option linter.all false
namespace M5
open PySem L2 M3
noncomputable def key (ms : List Int) : Nat → List Int
  | 0 => []
  | k + 1 => (fun a : List Int => if a = [] then [] else a ++ [-((got ms ((k : Int) + 1)).length : Int), (got ms ((k : Int) + 1)).sum])
      (if key ms k = [] ∧ ms.length < 2 * (got ms ((k : Int) + 1)).length then [(k : Int) + 1] else key ms k)
noncomputable def marksOf (cs : List (List Int)) (c : Int) : List Int := cs.map fun card => (card.idxOf c : Int) + 1
noncomputable def below (rs : List (List Int)) (m : List Int) : Nat := (rs.filter fun r => HT.lexLt r m).length
noncomputable def rows (ps us : List Int) : List (Int × Int) := (List.range us.length).flatMap fun (i : Nat) => (ps.zip us).filter fun p => decide (p.1 = (i : Int) + 1)
end M5
set_option linter.all false
namespace M6
open PySem L2 M3 M5
noncomputable abbrev Sg := Option (Int × Int)
noncomputable def sg (a : List Int) (k : Int) : Sg := if a.length < 2 * cnt a k then some ((cnt a k : Int), sm a k) else none
noncomputable def olt : Sg → Sg → Bool
  | some _, none => true
  | none, _ => false
  | some p, some q => decide (q.1 < p.1) || (decide (p.1 = q.1) && decide (p.2 < q.2))
noncomputable def firstLt : List Sg → List Sg → Bool
  | x :: xs, y :: ys => if x = y then firstLt xs ys else olt x y
  | _, _ => false
noncomputable def seqs (a : List Int) (n : Nat) : List Sg := (List.range n).map fun (i : Nat) => sg a ((i : Int) + 1)
noncomputable def ahead (a b : List Int) (n : Nat) : Bool := firstLt (seqs a n) (seqs b n)

noncomputable def tl (a : List Int) (f m : Nat) : List Int := (List.range m).flatMap fun (i : Nat) => [-(cnt a ((f : Int) + i) : Int), sm a ((f : Int) + i)]


noncomputable def word : Sg → Sg → Str
  | some p, some q => if p.1 = q.1 then "sum" else "count"
  | _, _ => "half"
end M6
set_option linter.all false
set_option maxRecDepth 100000
namespace L2
open PySem
end L2
namespace M6
open PySem L2 M3 M5
noncomputable def places (cs : List (List Int)) (us : List Int) : List Int := us.map fun c => 1 + ((us.filter fun d => ahead (marksOf cs d) (marksOf cs c) us.length).length : Int)
end M6
namespace L2
open PySem
end L2
set_option linter.all false
namespace M3
open PySem L2
end M3
set_option linter.all false
namespace M6
open PySem L2 M3 M5
end M6
set_option Elab.async false
set_option linter.all false
set_option maxRecDepth 100000
namespace L2
open PySem
noncomputable def Sh.cardsWo (S : Sh) (j : Str) : List (List Int) := (S.handed.filter fun i => !decide (i = j)).map fun i => (S.card i).getD []
theorem ints_any {ns : List Int} {i : Int} (h0 : 0 ≤ i) (h : i < ns.length) : ∃ x, x ∈ ns ∧ atI (ns.map V.int) i = some (.int x) := ⟨_, getD_in (by omega), atI_ints h0 h⟩
end L2
set_option Elab.async false
set_option linter.all false
set_option maxRecDepth 100000
namespace M6
open PySem L2 M3 M5

end M6
set_option Elab.async false
set_option linter.all false
set_option maxRecDepth 100000
namespace M6
open PySem L2 M3 M5
end M6
namespace L2
open PySem
end L2
set_option Elab.async false
set_option linter.all false
set_option maxRecDepth 100000
namespace M6
open PySem L2 M3 M5


variable {cs : List (List Int)} {us : List Int} {c : Int}
end M6
namespace L2
open PySem
end L2
set_option Elab.async false
set_option linter.all false
set_option maxRecDepth 100000
namespace M6
open PySem L2 M3 M5
end M6
namespace L2
open PySem
end L2
set_option linter.all false
set_option maxRecDepth 100000
namespace M6
open PySem L2 M3 M5
noncomputable def partFind (a b : List Int) (n : Nat) : Option (Nat × Str) := ((List.range n).find? fun (i : Nat) => decide (sg a ((i : Int) + 1) ≠ sg b ((i : Int) + 1))).map fun (i : Nat) => (i + 1, word (sg a ((i : Int) + 1)) (sg b ((i : Int) + 1)))
noncomputable abbrev R4 := Int × Int × Int × Str
noncomputable def nb (cs : List (List Int)) (us : List Int) (p q : Int × Int) : Option R4 := if p.1 = q.1 then none else (partFind (marksOf cs p.2) (marksOf cs q.2) us.length).map fun r => (p.2, q.2, (r.1 : Int), r.2)
end M6
namespace L2
open PySem
noncomputable def F4 (K : PySem.W.Frag) (H : Hp) (l : Addr) (p : M6.R4) : Prop := SqT K H l [.int p.1, .int p.2.1, .int p.2.2.1, .str p.2.2.2]
end L2
set_option linter.all false
set_option maxRecDepth 100000
namespace M9
open PySem L2 M3 M5
end M9
set_option Elab.async false
set_option linter.all false
set_option maxRecDepth 100000
namespace M6
open PySem L2 M3 M5 M9
variable {cs : List (List Int)} {us : List Int} {c d f : Int}
end M6
set_option Elab.async false
set_option linter.all false
set_option maxRecDepth 100000
namespace L2
open PySem
end L2
set_option Elab.async false
set_option linter.all false
set_option maxRecDepth 100000
namespace L2
open PySem
end L2
set_option Elab.async false
set_option linter.all false
set_option maxRecDepth 100000
namespace M6
open PySem L2 M3 M5
noncomputable def Rise1 (c : Int) (d d' : List Int) : Prop := d'.Perm d ∧ d'.idxOf c ≤ d.idxOf c ∧ ∀ e ∈ d, e ≠ c → d.idxOf e ≤ d'.idxOf e
theorem Rise1.nil {c : Int} {d d' : List Int} (h : Rise1 c d d') : d = [] ↔ d' = [] := by
  constructor
  · intro e; rw [e] at h; exact List.Perm.eq_nil h.1
  · intro e; rw [e] at h; exact List.Perm.eq_nil h.1.symm
variable {cs cs' : List (List Int)} {us : List Int} {c : Int}

end M6
namespace L2
open PySem M6 M5
noncomputable def Sh.more (S : Sh) (n : Nat) : Sh := { S with taken := S.taken + n }
section
variable {S : Sh} {j : Str} {d : List Int} {k : Nat}
end
end L2
set_option Elab.async false
set_option linter.all false
set_option maxRecDepth 100000
namespace M6
open PySem L2 M3 M5
section
variable {A B C : List Int} {c : Int}
end
end M6
set_option Elab.async false
set_option linter.all false
set_option maxRecDepth 100000
namespace L2
open PySem
end L2
set_option Elab.async false
set_option linter.all false
set_option maxRecDepth 100000
namespace L2
open PySem
noncomputable def firstsK (ps us : List Int) (n : Nat) : List Int := ((List.range n).filter fun k => decide (ps.getD k 0 = 1)).map fun k => us.getD k 0
noncomputable def firstsC (cs : List (List Int)) (us : List Int) : List Int := firstsK (M6.places cs us) us us.length
noncomputable def Sh.decide (S : Sh) : List Str := S.handed.filter fun j => !Decidable.decide (firstsC (S.cardsWo j) S.couples = firstsC S.cardsIn S.couples)
end L2
set_option Elab.async false
set_option linter.all false
set_option maxRecDepth 100000
namespace M6
open PySem L2 M3 M5
variable {cs : List (List Int)} {us : List Int} {c : Int}

end M6
set_option Elab.async false
set_option linter.all false
set_option maxRecDepth 100000
namespace L2
open PySem
theorem comp_rangeF {n : Nat} {p : Nat → Bool} {f : Nat → V} {c : St} {tc : TT} {te : TE} {H : Hp} {fin : List V → Hp → Prop} (hz : n ≤ 1000)
    (htc : ∀ (k : Nat) (H' : Hp) (Q : Bool → Hp → Prop), k < n → Same H H' → (∀ H2, Same H' H2 → Q (p k) H2) → tc (some (.int k) :: c) H' Q)
    (hte : ∀ (k : Nat) (H' : Hp) (Q : VK), k < n → Same H H' → (∀ H2, Same H' H2 → Q (f k) H2) → te (some (.int k) :: c) H' Q)
    (hd : ∀ (H' : Hp), Same H H' → fin (((List.range n).filter p).map f) H') : wComp (Itr 0 n) c tc te H fin := by
  have hln := line_ge
  refine comp_range (fun i ys H3 => Same H H3 ∧ ys = ((List.range i).filter p).map f) ⟨Same.refl _, rfl⟩ ?_ (by omega) ?_ ?_
  · rintro i ys H3 hi ⟨s3, rfl⟩
    rw [List.length_map]
    exact Nat.le_trans (List.length_filter_le _ _) (by rw [List.length_range]; exact Nat.le_refl _)
  · rintro i ys H3 hi ⟨s3, rfl⟩
    rw [show (0 : Int) + (i : Int) = (i : Int) by omega]
    refine htc i H3 _ hi s3 fun H4 s4 => ?_
    have e : (List.range (i + 1)).filter p = (List.range i).filter p ++ (if p i = true then [i] else []) := by
      rw [List.range_succ, List.filter_append, List.filter_cons]; rfl
    refine iteB (fun hb => ?_) (fun hb => ?_)
    · refine hte i H4 _ hi (s3.trans s4) fun H5 s5 => ⟨(s3.trans s4).trans s5, ?_⟩
      rw [e, if_pos hb, List.map_append]
      rfl
    · refine ⟨s3.trans s4, ?_⟩
      rw [e, if_neg (by rw [hb]; decide), List.append_nil]
  · rintro ys H3 ⟨s3, rfl⟩
    exact hd H3 s3
theorem vals_any {xs : List V} {i : Int} (h0 : 0 ≤ i) (h : i < xs.length) : ∃ x, x ∈ xs ∧ atI xs i = some x := by
  have h' : i.toNat < xs.length := by omega
  exact ⟨xs[i.toNat], List.getElem_mem h', atI_ok h0 (List.getElem?_eq_getElem h')⟩
end L2
set_option Elab.async false
set_option linter.all false
set_option maxRecDepth 100000
namespace M6
open PySem L2 M3 M5
noncomputable def blk (f : Int → Int) (us : List Int) (i : Nat) : List (Int × Int) := (us.filter fun c => decide (f c = (i : Int) + 1)).map fun c => (f c, c)
variable {cs : List (List Int)} {us : List Int} {c : Int}
end M6
set_option Elab.async false
set_option linter.all false
set_option maxRecDepth 100000
namespace L2
open PySem
end L2
set_option Elab.async false
set_option linter.all false
set_option maxRecDepth 100000
namespace L2
open PySem
theorem SameN.seq {K : PySem.W.Frag} {H H' : Hp} (s : SameN H H') {a : Addr} {xs : List V} (h : SqL K H a xs) : SqL K H' a xs := s.same.seq h.noT
end L2
set_option Elab.async false
set_option linter.all false
set_option maxRecDepth 100000
namespace L2
open PySem
end L2
set_option Elab.async false
set_option linter.all false
set_option maxRecDepth 100000
namespace M6
open PySem L2 M3 M5 M9

section
variable {φ : Sg → Sg} {cs cs' : List (List Int)} {us : List Int}
end

end M6
set_option Elab.async false
set_option linter.all false
set_option maxRecDepth 100000
namespace M6
open PySem L2 M3 M5

section
variable {cs : List (List Int)} {us d : List Int}
end
end M6
namespace L2
open PySem
end L2
set_option Elab.async false
set_option linter.all false
set_option maxRecDepth 100000
namespace L2
open PySem
end L2
set_option Elab.async false
set_option linter.all false
set_option maxRecDepth 100000
namespace M6
open PySem L2 M3 M5

noncomputable def sl : Str := Str.ofString "/"
noncomputable def blank : Str := Str.ofString " "
end M6
namespace L2
open PySem
theorem comp_strN {K : PySem.W.Frag} {a : Addr} {us : List Int} {f : Int → Str} {c : St} {te : TE} {H : Hp} {fin : List V → Hp → Prop} (hA : SqL K H a (us.map V.int)) (hz : us.length ≤ 1000)
    (hte : ∀ (x : Int) (H' : Hp) (Q : VK), x ∈ us → Same H H' → (∀ (H2 : Hp), Same H' H2 → Q (.str (f x)) H2) → te (some (.int x) :: c) H' Q)
    (hd : ∀ (H' : Hp), Same H H' → fin ((us.map f).map V.str) H') : wComp (Itl K a) c tYes te H fin := by
  have hln := line_ge
  refine comp_list0 (xs := us.map V.int) (fun k ys H5 => ys = ((us.take k).map f).map V.str ∧ Same H H5) ⟨rfl, Same.refl _⟩ ?_ (by rw [List.length_map]; omega) ?_ ?_
  · rintro k ys H5 hk ⟨rfl, s5⟩
    refine ⟨s5.seq hA, ?_⟩
    rw [List.length_map, List.length_map, List.length_take]
    omega
  · rintro k x ys H5 hx ⟨rfl, s5⟩
    obtain ⟨hk, rfl⟩ := ints_get hx
    refine hte _ H5 _ (getD_in hk) s5 fun H2 s2 => ⟨?_, s5.trans s2⟩
    rw [take_next hk, List.map_append, List.map_append]
    rfl
  · rintro ys H5 ⟨rfl, s5⟩
    rw [List.length_map, List.take_length]
    exact hd H5 s5
end L2
set_option Elab.async false
set_option linter.all false
set_option maxRecDepth 100000
namespace M6
open PySem L2

end M6
set_option Elab.async false
set_option linter.all false
set_option maxRecDepth 100000
namespace M6
open PySem L2 M3 M5

theorem tN_short {n : Int} (h : 1 ≤ n ∧ n ≤ 999) : (tN n).length ≤ 12 := (M20.strN_wd h).len

theorem row_bare : M20.row (Str.ofString "seal") (Str.ofString "") [] = Str.ofString "seal" ∧ M20.row (Str.ofString "places") (Str.ofString "") [] = Str.ofString "places" := by decide +kernel
theorem Row_seal : M20.Row (Str.ofString "seal") (Str.ofString "") [] :=
  ⟨by decide +kernel, (M20.fine_of (by decide)).fw, fun h => absurd h (by decide +kernel), fun _ => rfl, .inr (by decide +kernel), (fun n hn => by cases hn), by decide⟩
end M6
namespace L2
open PySem
end L2
set_option Elab.async false
set_option linter.all false
set_option maxRecDepth 100000
namespace L2
open PySem

theorem nodup_take {α : Type} : ∀ {l : List α}, l.Nodup ↔ ∀ k (h : k < l.length), l[k] ∉ l.take k
  | l => by
    constructor
    · intro nd k h hm
      obtain ⟨j, hj, e⟩ := List.getElem_of_mem hm
      rw [List.length_take] at hj
      rw [List.getElem_take] at e
      have := (List.getElem_inj nd).mp e
      omega
    · intro h
      refine List.pairwise_iff_getElem.mpr fun i j hi hj hij e => h j hj ?_
      rw [← e]
      exact List.mem_iff_getElem.mpr ⟨i, by rw [List.length_take]; omega, by rw [List.getElem_take]⟩
noncomputable def fineP (ns : List Int) (k : Nat) : Bool := decide (0 < ns.getD k 0) && (decide (ns.getD k 0 < 1000) && !decide (ns.getD k 0 ∈ ns.take k))
theorem fine_iff (ns : List Int) : ((List.range ns.length).filter (fineP ns)).length < ns.length ↔ ¬ (ns.Nodup ∧ ∀ c ∈ ns, 1 ≤ c ∧ c ≤ 999) := by
  have hle := List.length_filter_le (fineP ns) (List.range ns.length)
  rw [List.length_range] at hle
  have gd : ∀ k (h : k < ns.length), ns.getD k 0 = ns[k] := fun k h => by rw [List.getD_eq_getElem?_getD, List.getElem?_eq_getElem h]; rfl
  have key : ((List.range ns.length).filter (fineP ns)).length = ns.length ↔ (ns.Nodup ∧ ∀ c ∈ ns, 1 ≤ c ∧ c ≤ 999) := by
    have e : ((List.range ns.length).filter (fineP ns)).length = ns.length ↔ ∀ k ∈ List.range ns.length, fineP ns k = true := by
      have := List.length_filter_eq_length_iff (p := fineP ns) (l := List.range ns.length)
      rw [List.length_range] at this
      exact this
    rw [e, nodup_take]
    unfold fineP
    simp only [List.mem_range, Bool.and_eq_true, decide_eq_true_eq, Bool.not_eq_true', decide_eq_false_iff_not]
    constructor
    · intro h
      refine ⟨fun k hk => ?_, fun c hc => ?_⟩
      · have := (h k hk).2.2
        rw [gd k hk] at this
        exact this
      · obtain ⟨k, hk, rfl⟩ := List.getElem_of_mem hc
        have := h k hk
        rw [gd k hk] at this
        omega
    · rintro ⟨h1, h2⟩ k hk
      have a := h1 k hk
      have b := h2 _ (List.getElem_mem hk)
      rw [gd k hk]
      exact ⟨by omega, by omega, a⟩
  rw [← key]
  omega
theorem badC (ns : List Int) : (decide (ns.length = 0) || (decide (24 < ns.length) || decide (((List.range ns.length).filter (fineP ns)).length < ns.length))) = !M1.goodC ns := by
  rw [Bool.eq_iff_iff]
  simp only [Bool.or_eq_true, decide_eq_true_eq, Bool.not_eq_true']
  rw [fine_iff, ← Bool.not_eq_true, M1.goodC_iff]
  constructor
  · rintro (h | h | h) ⟨⟨a, b⟩, c, d⟩
    · omega
    · omega
    · exact h ⟨c, d⟩
  · intro h
    by_cases h0 : ns.length = 0
    · exact .inl h0
    · by_cases h1 : 24 < ns.length
      · exact .inr (.inl h1)
      · exact .inr (.inr fun z => h ⟨⟨by omega, by omega⟩, z.1, z.2⟩)
noncomputable def plainP (ts : List Str) (k : Nat) : Bool := !decide (ts.getD k "" ∈ ts.take k) && decide (0 < (ts.getD k "").length)
noncomputable def plainQ (z : Str) : Bool := decide (z.length < 9) && (decide (z = Txt.lower z) && !decide ((32 : Nat) ∈ z.cps.toList))
theorem plain_iff {ts : List Str} (hn : ∀ z ∈ ts, nice z) : (((List.range ts.length).filter (plainP ts)).filter fun k => plainQ (ts.getD k "")).length < ts.length ↔ ¬ (ts.Nodup ∧ ∀ z ∈ ts, M2.goodN z = true) := by
  rw [List.filter_filter]
  have hle := List.length_filter_le (fun k => plainQ (ts.getD k "") && plainP ts k) (List.range ts.length)
  rw [List.length_range] at hle
  have gd : ∀ k (h : k < ts.length), ts.getD k "" = ts[k] := fun k h => by rw [List.getD_eq_getElem?_getD, List.getElem?_eq_getElem h]; rfl
  have key : ((List.range ts.length).filter fun k => plainQ (ts.getD k "") && plainP ts k).length = ts.length ↔ (ts.Nodup ∧ ∀ z ∈ ts, M2.goodN z = true) := by
    have e : ((List.range ts.length).filter fun k => plainQ (ts.getD k "") && plainP ts k).length = ts.length ↔ ∀ k ∈ List.range ts.length, (plainQ (ts.getD k "") && plainP ts k) = true := by
      have := List.length_filter_eq_length_iff (p := fun k => plainQ (ts.getD k "") && plainP ts k) (l := List.range ts.length)
      rw [List.length_range] at this
      exact this
    rw [e, nodup_take]
    have hg : ∀ k (h : k < ts.length), (plainQ (ts.getD k "") && plainP ts k) = true ↔ ts[k] ∉ ts.take k ∧ M2.goodN ts[k] = true := fun k h => by
      rw [nice_good (hn _ (List.getElem_mem h))]
      unfold plainQ plainP
      rw [gd k h]
      simp only [Bool.and_eq_true, decide_eq_true_eq, Bool.not_eq_true', decide_eq_false_iff_not]
      constructor
      · rintro ⟨⟨a, b, c⟩, d, e⟩
        exact ⟨d, ⟨⟨e, a⟩, b⟩, c⟩
      · rintro ⟨d, ⟨⟨e, a⟩, b⟩, c⟩
        exact ⟨⟨a, b, c⟩, d, e⟩
    constructor
    · intro h
      refine ⟨fun k hk => ((hg k hk).mp (h k (List.mem_range.mpr hk))).1, fun z hz => ?_⟩
      obtain ⟨k, hk, rfl⟩ := List.getElem_of_mem hz
      exact ((hg k hk).mp (h k (List.mem_range.mpr hk))).2
    · rintro ⟨h1, h2⟩ k hk
      have hk := List.mem_range.mp hk
      exact (hg k hk).mpr ⟨h1 k hk, h2 _ (List.getElem_mem hk)⟩
  rw [← key]
  omega
theorem badJ {ts : List Str} (hn : ∀ z ∈ ts, nice z) : (decide (ts.length = 0) || (decide (15 < ts.length) || decide ((((List.range ts.length).filter (plainP ts)).filter fun k => plainQ (ts.getD k "")).length < ts.length))) = !M2.goodJ ts := by
  rw [Bool.eq_iff_iff]
  simp only [Bool.or_eq_true, decide_eq_true_eq, Bool.not_eq_true']
  rw [plain_iff hn, ← Bool.not_eq_true, M2.goodJ_iff]
  have e : (∀ z ∈ ts, M2.goodN z = true) ↔ ∀ z ∈ ts, (1 ≤ z.length ∧ z.length ≤ 8) ∧ ∀ c ∈ z.cps.toList, small c = true := ⟨fun h z hz => (M2.goodN_iff z).mp (h z hz), fun h z hz => (M2.goodN_iff z).mpr (h z hz)⟩
  rw [e]
  constructor
  · rintro (h | h | h) ⟨⟨a, b⟩, c, d⟩
    · omega
    · omega
    · exact h ⟨c, d⟩
  · intro h
    by_cases h0 : ts.length = 0
    · exact .inl h0
    · by_cases h1 : 15 < ts.length
      · exact .inr (.inl h1)
      · exact .inr (.inr fun z => h ⟨⟨by omega, by omega⟩, z.1, z.2⟩)
end L2
set_option Elab.async false
set_option linter.all false
set_option maxRecDepth 100000
set_option maxHeartbeats 4000000
namespace Pp
open PySem L2
noncomputable def top (i : Nat) : Stmt := PySem.Challenge.pw_panelplace_k18_sheet_made.main.body.getD i (.Pass ⟨0, 0, 0, 0⟩)
structure Txt (K : PySem.W.Frag) (mg : Str → Option Value) : Prop where
  b_ValueError : mg "ValueError" = none
  b_all : mg "all" = none
  b_bool : mg "bool" = none
  b_int : mg "int" = none
  b_isinstance : mg "isinstance" = none
  b_len : mg "len" = none
  b_list : mg "list" = none
  b_range : mg "range" = none
  b_set : mg "set" = none
  b_str : mg "str" = none
  c_MOST_COUPLES : ∃ t, mg "MOST_COUPLES" = some (.int 24 t)
  c_MOST_JUDGES : ∃ t, mg "MOST_JUDGES" = some (.int 15 t)
  c_MOST_NUMBER : ∃ t, mg "MOST_NUMBER" = some (.int 999 t)
  c_MOST_SIGNS : ∃ t, mg "MOST_SIGNS" = some (.int 8 t)
  c_MOST_CARDS : ∃ t, mg "MOST_CARDS" = some (.int 200 t)
  c_BARE_WORDS : CTup K mg "BARE_WORDS" ["seal", "couples", "places", "parts", "deciders"]
  c_JUDGE_WORDS : CTup K mg "JUDGE_WORDS" ["card", "show", "leave", "step"]
  c_COUPLE_WORDS : CTup K mg "COUPLE_WORDS" ["strike", "step", "row"]
  c_MOST_FIGURES : ∃ t, mg "MOST_FIGURES" = some (.int 3 t)
  x_PanelError : ∃ C, ClsN K "PanelError" C ∧ mg "PanelError" = some (.ref C) ∧ ExC K C
  x_BadCouples : ∃ C, ClsN K "BadCouples" C ∧ mg "BadCouples" = some (.ref C) ∧ ExC K C
  kv_BadCouples : ∀ C, ClsN K "BadCouples" C → PySem.W.kitOne K (.ref C) (.type "ValueError") = some true
  i_BadCouples : ∀ C, ClsN K "BadCouples" C → exI K C = true
  s_BadCouples_PanelError : ∀ C D, ClsN K "BadCouples" C → ClsN K "PanelError" D → subIn K C D = true
  k_BadCouples_BadCouples : ∀ C D, ClsN K "BadCouples" C → ClsN K "BadCouples" D → PySem.W.kitOne K (.ref C) (.ref D) = some true
  k_BadCouples_BadJudges : ∀ C D, ClsN K "BadCouples" C → ClsN K "BadJudges" D → PySem.W.kitOne K (.ref C) (.ref D) = some false
  x_BadJudges : ∃ C, ClsN K "BadJudges" C ∧ mg "BadJudges" = some (.ref C) ∧ ExC K C
  kv_BadJudges : ∀ C, ClsN K "BadJudges" C → PySem.W.kitOne K (.ref C) (.type "ValueError") = some true
  i_BadJudges : ∀ C, ClsN K "BadJudges" C → exI K C = true
  s_BadJudges_PanelError : ∀ C D, ClsN K "BadJudges" C → ClsN K "PanelError" D → subIn K C D = true
  k_BadJudges_BadCouples : ∀ C D, ClsN K "BadJudges" C → ClsN K "BadCouples" D → PySem.W.kitOne K (.ref C) (.ref D) = some false
  k_BadJudges_BadJudges : ∀ C D, ClsN K "BadJudges" C → ClsN K "BadJudges" D → PySem.W.kitOne K (.ref C) (.ref D) = some true
  x_SheetSealed : ∃ C, ClsN K "SheetSealed" C ∧ mg "SheetSealed" = some (.ref C) ∧ ExC K C
  x_UnknownJudge : ∃ C, ClsN K "UnknownJudge" C ∧ mg "UnknownJudge" = some (.ref C) ∧ ExC K C
  x_NoCard : ∃ C, ClsN K "NoCard" C ∧ mg "NoCard" = some (.ref C) ∧ ExC K C
  cl_Sheet : Cls K (clsA K "Sheet")
  n_Sheet_standing : NoAttr K (clsA K "Sheet") "standing"
  n_Sheet_struck_so_far : NoAttr K (clsA K "Sheet") "struck_so_far"
  n_Sheet_panel : NoAttr K (clsA K "Sheet") "panel"
  n_Sheet_card_by_judge : NoAttr K (clsA K "Sheet") "card_by_judge"
  n_Sheet_taken_so_far : NoAttr K (clsA K "Sheet") "taken_so_far"
  n_Sheet_sealed : NoAttr K (clsA K "Sheet") "sealed"
noncomputable abbrev s_Sheet_taken : Stmt := inClass (top 33) 10
theorem sc_Sheet_taken : FnScope ["self"] ["self"] (defScope s_Sheet_taken) := ⟨rfl, rfl, rfl, by decide +kernel, rfl, by decide +kernel, by decide +kernel⟩
noncomputable abbrev s_Sheet_is_sealed : Stmt := inClass (top 33) 11
theorem sc_Sheet_is_sealed : FnScope ["self"] ["self"] (defScope s_Sheet_is_sealed) := ⟨rfl, rfl, rfl, by decide +kernel, rfl, by decide +kernel, by decide +kernel⟩
noncomputable abbrev s_Sheet_refuse_if_sealed : Stmt := inClass (top 33) 12
theorem sc_Sheet_refuse_if_sealed : FnScope ["self"] ["self"] (defScope s_Sheet_refuse_if_sealed) := ⟨rfl, rfl, rfl, by decide +kernel, rfl, by decide +kernel, by decide +kernel⟩
noncomputable abbrev s_Sheet_refuse_unknown_judge : Stmt := inClass (top 33) 13
theorem sc_Sheet_refuse_unknown_judge : FnScope ["self", "judge"] ["self", "judge"] (defScope s_Sheet_refuse_unknown_judge) := ⟨rfl, rfl, rfl, by decide +kernel, rfl, by decide +kernel, by decide +kernel⟩
noncomputable abbrev s_Sheet_couples : Stmt := inClass (top 33) 4
theorem sc_Sheet_couples : FnScope ["self"] ["self"] (defScope s_Sheet_couples) := ⟨rfl, rfl, rfl, by decide +kernel, rfl, by decide +kernel, by decide +kernel⟩
noncomputable abbrev s_Sheet_struck : Stmt := inClass (top 33) 5
theorem sc_Sheet_struck : FnScope ["self"] ["self"] (defScope s_Sheet_struck) := ⟨rfl, rfl, rfl, by decide +kernel, rfl, by decide +kernel, by decide +kernel⟩
noncomputable abbrev s_Sheet_judges : Stmt := inClass (top 33) 6
theorem sc_Sheet_judges : FnScope ["self"] ["self"] (defScope s_Sheet_judges) := ⟨rfl, rfl, rfl, by decide +kernel, rfl, by decide +kernel, by decide +kernel⟩
noncomputable abbrev s_Sheet_handed : Stmt := inClass (top 33) 7
theorem sc_Sheet_handed : FnScope ["self"] ["self"] (defScope s_Sheet_handed) := ⟨rfl, rfl, rfl, by decide +kernel, rfl, by decide +kernel, by decide +kernel⟩
noncomputable abbrev s_good_number : Stmt := top 26
theorem sc_good_number : FnScope ["couple"] ["couple"] (defScope s_good_number) := ⟨rfl, rfl, rfl, by decide +kernel, rfl, by decide +kernel, by decide +kernel⟩
noncomputable abbrev s_small_letter : Stmt := top 28
theorem sc_small_letter : FnScope ["sign"] ["sign"] (defScope s_small_letter) := ⟨rfl, rfl, rfl, by decide +kernel, rfl, by decide +kernel, by decide +kernel⟩
noncomputable abbrev s_good_length : Stmt := top 29
theorem sc_good_length : FnScope ["things", "most"] ["things", "most"] (defScope s_good_length) := ⟨rfl, rfl, rfl, by decide +kernel, rfl, by decide +kernel, by decide +kernel⟩
noncomputable abbrev s_all_unlike : Stmt := top 30
theorem sc_all_unlike : FnScope ["things"] ["things"] (defScope s_all_unlike) := ⟨rfl, rfl, rfl, by decide +kernel, rfl, by decide +kernel, by decide +kernel⟩
noncomputable abbrev s_due_couples : Stmt := top 70
theorem sc_due_couples : FnScope ["first"] ["first"] (defScope s_due_couples) := ⟨rfl, rfl, rfl, by decide +kernel, rfl, by decide +kernel, by decide +kernel⟩
noncomputable abbrev s_figure : Stmt := top 73
theorem sc_figure : FnScope ["sign"] ["sign"] (defScope s_figure) := ⟨rfl, rfl, rfl, by decide +kernel, rfl, by decide +kernel, by decide +kernel⟩
noncomputable abbrev s_numbers_text : Stmt := top 82
theorem sc_numbers_text : FnScope ["couples"] ["couples"] (defScope s_numbers_text) := ⟨rfl, rfl, rfl, by decide +kernel, rfl, by decide +kernel, by decide +kernel⟩
noncomputable abbrev s_law_whole : Stmt := top 88
theorem sc_law_whole : FnScope ["_law_found"] ["_law_found"] (defScope s_law_whole) := ⟨rfl, rfl, rfl, by decide +kernel, rfl, by decide +kernel, by decide +kernel⟩
noncomputable abbrev s_law_at : Stmt := top 89
theorem sc_law_at : FnScope ["_law_script", "_law_k"] ["_law_script", "_law_k"] (defScope s_law_at) := ⟨rfl, rfl, rfl, by decide +kernel, rfl, by decide +kernel, by decide +kernel⟩
noncomputable abbrev s_law_texts : Stmt := top 91
theorem sc_law_texts : FnScope ["_law_found", "_law_due", "_law_k"] ["_law_found", "_law_due"] (defScope s_law_texts) := ⟨rfl, rfl, rfl, by decide +kernel, rfl, by decide +kernel, by decide +kernel⟩
noncomputable abbrev s_law_couples : Stmt := top 92
theorem sc_law_couples : FnScope ["_law_cell", "_law_many", "_law_gap"] ["_law_cell", "_law_many"] (defScope s_law_couples) := ⟨rfl, rfl, rfl, by decide +kernel, rfl, by decide +kernel, by decide +kernel⟩
noncomputable abbrev s_law_judges : Stmt := top 93
theorem sc_law_judges : FnScope ["_law_cell", "_law_many", "_law_letters", "_law_size", "_law_spot", "_law_ends"] ["_law_cell", "_law_many"] (defScope s_law_judges) := ⟨rfl, rfl, rfl, by decide +kernel, rfl, by decide +kernel, by decide +kernel⟩
noncomputable abbrev s_law_bad_numbers : Stmt := top 96
theorem sc_law_bad_numbers : FnScope ["_law_row", "_law_kind", "_law_spot", "_law_cell", "_law_made_here"] ["_law_row", "_law_kind", "_law_spot", "_law_cell"] (defScope s_law_bad_numbers) := ⟨rfl, rfl, rfl, by decide +kernel, rfl, by decide +kernel, by decide +kernel⟩
noncomputable abbrev s_law_bad_names : Stmt := top 97
theorem sc_law_bad_names : FnScope ["_law_row", "_law_kind", "_law_spot", "_law_cell", "_law_letters", "_law_made_here", "_law_name", "_law_bad"] ["_law_row", "_law_kind", "_law_spot", "_law_cell"] (defScope s_law_bad_names) := ⟨rfl, rfl, rfl, by decide +kernel, rfl, by decide +kernel, by decide +kernel⟩
noncomputable abbrev s_Sheet_seal : Stmt := inClass (top 33) 3
theorem sc_Sheet_seal : FnScope ["self"] ["self"] (defScope s_Sheet_seal) := ⟨rfl, rfl, rfl, by decide +kernel, rfl, by decide +kernel, by decide +kernel⟩
noncomputable abbrev s_Sheet_card_of : Stmt := inClass (top 33) 9
theorem sc_Sheet_card_of : FnScope ["self", "judge"] ["self", "judge"] (defScope s_Sheet_card_of) := ⟨rfl, rfl, rfl, by decide +kernel, rfl, by decide +kernel, by decide +kernel⟩
noncomputable abbrev s_good_couples : Stmt := top 24
theorem sc_good_couples : FnScope ["couples"] ["couples"] (defScope s_good_couples) := ⟨rfl, rfl, rfl, by decide +kernel, rfl, by decide +kernel, by decide +kernel⟩
noncomputable abbrev s_good_name : Stmt := top 27
theorem sc_good_name : FnScope ["judge"] ["judge"] (defScope s_good_name) := ⟨rfl, rfl, rfl, by decide +kernel, rfl, by decide +kernel, by decide +kernel⟩
noncomputable abbrev s_couple_word : Stmt := top 72
theorem sc_couple_word : FnScope ["word"] ["word"] (defScope s_couple_word) := ⟨rfl, rfl, rfl, by decide +kernel, rfl, by decide +kernel, by decide +kernel⟩
noncomputable abbrev s_only_told : Stmt := top 81
theorem sc_only_told : FnScope ["sheet", "first", "judge", "couples"] ["sheet", "first", "judge", "couples"] (defScope s_only_told) := ⟨rfl, rfl, rfl, by decide +kernel, rfl, by decide +kernel, by decide +kernel⟩
noncomputable abbrev s_law_same : Stmt := top 90
theorem sc_law_same : FnScope ["_law_found", "_law_due", "_law_k"] ["_law_found", "_law_due"] (defScope s_law_same) := ⟨rfl, rfl, rfl, by decide +kernel, rfl, by decide +kernel, by decide +kernel⟩
noncomputable abbrev s_Sheet_cards : Stmt := inClass (top 33) 8
theorem sc_Sheet_cards : FnScope ["self"] ["self"] (defScope s_Sheet_cards) := ⟨rfl, rfl, rfl, by decide +kernel, rfl, by decide +kernel, by decide +kernel⟩
noncomputable abbrev s_good_judges : Stmt := top 25
theorem sc_good_judges : FnScope ["judges"] ["judges"] (defScope s_good_judges) := ⟨rfl, rfl, rfl, by decide +kernel, rfl, by decide +kernel, by decide +kernel⟩
noncomputable abbrev s_read_couple : Stmt := top 71
theorem sc_read_couple : FnScope ["word"] ["word"] (defScope s_read_couple) := ⟨rfl, rfl, rfl, by decide +kernel, rfl, by decide +kernel, by decide +kernel⟩
noncomputable abbrev s_done_and_told : Stmt := top 80
theorem sc_done_and_told : FnScope ["sheet", "first", "judge", "couples"] ["sheet", "first", "judge", "couples"] (defScope s_done_and_told) := ⟨rfl, rfl, rfl, by decide +kernel, rfl, by decide +kernel, by decide +kernel⟩
noncomputable abbrev s_Sheet_init : Stmt := inClass (top 33) 0
theorem sc_Sheet_init : FnScope ["self", "couples", "judges"] ["self", "couples", "judges"] (defScope s_Sheet_init) := ⟨rfl, rfl, rfl, by decide +kernel, rfl, by decide +kernel, by decide +kernel⟩
noncomputable abbrev s_read_couples : Stmt := top 69
theorem sc_read_couples : FnScope ["first", "words"] ["first", "words"] (defScope s_read_couples) := ⟨rfl, rfl, rfl, by decide +kernel, rfl, by decide +kernel, by decide +kernel⟩
noncomputable abbrev s_law_new : Stmt := top 98
theorem sc_law_new : FnScope ["_law_sheet", "_law_row", "_law_names", "_law_found", "_law_many"] ["_law_sheet", "_law_row", "_law_names"] (defScope s_law_new) := ⟨rfl, rfl, rfl, by decide +kernel, rfl, by decide +kernel, by decide +kernel⟩
noncomputable abbrev s_read_row : Stmt := top 68
theorem sc_read_row : FnScope ["row", "words", "first"] ["row"] (defScope s_read_row) := ⟨rfl, rfl, rfl, by decide +kernel, rfl, by decide +kernel, by decide +kernel⟩
noncomputable abbrev s_answer : Stmt := top 79
theorem sc_answer : FnScope ["sheet", "row", "said"] ["sheet", "row"] (defScope s_answer) := ⟨rfl, rfl, rfl, by decide +kernel, rfl, by decide +kernel, by decide +kernel⟩
noncomputable abbrev s_law_made : Stmt := top 94
theorem sc_law_made : FnScope ["_law_couples_here", "_law_names", "e", "_law_told"] ["_law_couples_here", "_law_names"] (defScope s_law_made) := ⟨rfl, rfl, rfl, by decide +kernel, rfl, by decide +kernel, by decide +kernel⟩
noncomputable abbrev s_answers : Stmt := top 78
theorem sc_answers : FnScope ["couples", "judges", "rows", "sheet"] ["couples", "judges", "rows"] (defScope s_answers) := ⟨rfl, rfl, rfl, by decide +kernel, rfl, by decide +kernel, by decide +kernel⟩
noncomputable abbrev s_law_answered : Stmt := top 95
theorem sc_law_answered : FnScope ["_law_couples_here", "_law_names", "_law_rows", "e", "_law_told"] ["_law_couples_here", "_law_names", "_law_rows"] (defScope s_law_answered) := ⟨rfl, rfl, rfl, by decide +kernel, rfl, by decide +kernel, by decide +kernel⟩
noncomputable abbrev s_law : Stmt := top 99
theorem sc_law : FnScope ["_law_script", "_law_row", "_law_names", "_law_kind", "_law_fine", "_law_bad", "_law_plain", "_law_handed", "_law_made_here", "_law_many", "_law_told", "_law_due"] ["_law_script"] (defScope s_law) := ⟨rfl, rfl, rfl, by decide +kernel, rfl, by decide +kernel, by decide +kernel⟩
end Pp

namespace Pp
open PySem L2
noncomputable def sp_Sheet_taken (K : PySem.W.Frag) : Sp := fun vs H Q _ => ∃ (p : Addr) (F : Addr → Prop) (S : Sh), vs = [.ref p] ∧ SheetAt K H p F S ∧ Q (.int S.taken) H
section
variable {P : Program} {w : World} {K : PySem.W.Frag} {mg : Str → Option Value} {base : Heap}
theorem ok_Sheet_taken {f : Addr} {fd : FuncData} (F : Fun K "taken" "Sheet.taken" s_Sheet_taken f fd) (T : Txt K mg) : FnOk P w K mg base CX0 1 f fd ["self"] (sp_Sheet_taken K) := by
  refine F.ok sc_Sheet_taken (fun vs H Q E h => ?_) (fun cdv A outer s H vs Q E hr h => ?_)
  · obtain ⟨p, F, S, rfl, _⟩ := h
    rfl
  · obtain ⟨p, F, S, rfl, ⟨dx, a1, a2, a3, d, kvs, h⟩, q⟩ := h
    refine ⟨_, (pss_one (ps_ret (pe_fld (pv 0) rfl))), ?_⟩
    exact ⟨_, rfl, p, _, dx, _, _, rfl, h.ip, T.cl_Sheet, T.n_Sheet_taken_so_far, rfl, q⟩
end
end Pp

namespace Pp
open PySem L2
noncomputable def sp_Sheet_is_sealed (K : PySem.W.Frag) : Sp := fun vs H Q _ => ∃ (p : Addr) (F : Addr → Prop) (S : Sh), vs = [.ref p] ∧ SheetAt K H p F S ∧ Q (.bl S.shut) H
section
variable {P : Program} {w : World} {K : PySem.W.Frag} {mg : Str → Option Value} {base : Heap}
theorem ok_Sheet_is_sealed {f : Addr} {fd : FuncData} (F : Fun K "is_sealed" "Sheet.is_sealed" s_Sheet_is_sealed f fd) (T : Txt K mg) : FnOk P w K mg base CX0 1 f fd ["self"] (sp_Sheet_is_sealed K) := by
  refine F.ok sc_Sheet_is_sealed (fun vs H Q E h => ?_) (fun cdv A outer s H vs Q E hr h => ?_)
  · obtain ⟨p, F, S, rfl, _⟩ := h
    rfl
  · obtain ⟨p, F, S, rfl, ⟨dx, a1, a2, a3, d, kvs, h⟩, q⟩ := h
    refine ⟨_, (pss_one (ps_ret (pe_fld (pv 0) rfl))), ?_⟩
    exact ⟨_, rfl, p, _, dx, _, _, rfl, h.ip, T.cl_Sheet, T.n_Sheet_sealed, rfl, q⟩
end
end Pp

namespace Pp
open PySem L2
noncomputable def sp_Sheet_refuse_if_sealed (K : PySem.W.Frag) : Sp := fun vs H Q E => ∃ (p : Addr) (F : Addr → Prop) (S : Sh), vs = [.ref p] ∧ SheetAt K H p F S ∧ (S.shut = true → ∀ C, ClsN K "SheetSealed" C → E (.ref C) none H) ∧ (S.shut = false → Q .non H)
section
variable {P : Program} {w : World} {K : PySem.W.Frag} {mg : Str → Option Value} {base : Heap}
theorem ok_Sheet_refuse_if_sealed {f : Addr} {fd : FuncData} (F : Fun K "refuse_if_sealed" "Sheet.refuse_if_sealed" s_Sheet_refuse_if_sealed f fd) (T : Txt K mg) : FnOk P w K mg base (CX1 P w) 1 f fd ["self"] (sp_Sheet_refuse_if_sealed K) := by
  obtain ⟨c_SheetSealed, n_SheetSealed, m_SheetSealed, x_SheetSealed⟩ := T.x_SheetSealed
  refine F.okX sc_Sheet_refuse_if_sealed (fun vs H Q E h => ?_) (fun X W cdv A outer s H vs Q E hX hW fl md hr h => ?_)
  · obtain ⟨p, F, S, rfl, _⟩ := h
    rfl
  · obtain ⟨p, F, S, rfl, ⟨dx, a1, a2, a3, d, kvs, h⟩, qE, q⟩ := h
    subst hX
    refine ⟨_, (pss_one (ps_if (pt_val (pe_fld (pv 0) rfl)) (pss_one (ps_raise rfl md rfl m_SheetSealed x_SheetSealed (pa_cons pe_str pa_nil))) pss_nil)), ?_⟩
    refine ⟨_, rfl, p, _, dx, _, _, rfl, h.ip, T.cl_Sheet, T.n_Sheet_sealed, rfl, _, rfl, iteB (fun hs => ?_) (fun hs => q hs)⟩
    exact ⟨(by show 1 ≤ sizeLine; decide), by rw [hW]; exact qE hs _ n_SheetSealed⟩
end
end Pp

namespace Pp
open PySem L2
noncomputable def sp_Sheet_refuse_unknown_judge (K : PySem.W.Frag) : Sp := fun vs H Q E => ∃ (p : Addr) (F : Addr → Prop) (S : Sh) (j : Str), vs = [.ref p, .str j] ∧ SheetAt K H p F S ∧ (j ∉ S.panel → ∀ C, ClsN K "UnknownJudge" C → E (.ref C) none H) ∧ (j ∈ S.panel → Q .non H)
section
variable {P : Program} {w : World} {K : PySem.W.Frag} {mg : Str → Option Value} {base : Heap}
theorem ok_Sheet_refuse_unknown_judge {f : Addr} {fd : FuncData} (F : Fun K "refuse_unknown_judge" "Sheet.refuse_unknown_judge" s_Sheet_refuse_unknown_judge f fd) (T : Txt K mg) : FnOk P w K mg base (CX1 P w) 1 f fd ["self", "judge"] (sp_Sheet_refuse_unknown_judge K) := by
  obtain ⟨c_UnknownJudge, n_UnknownJudge, m_UnknownJudge, x_UnknownJudge⟩ := T.x_UnknownJudge
  refine F.okX sc_Sheet_refuse_unknown_judge (fun vs H Q E h => ?_) (fun X W cdv A outer s H vs Q E hX hW fl md hr h => ?_)
  · obtain ⟨p, F, S, j, rfl, _⟩ := h
    rfl
  · obtain ⟨p, F, S, j, rfl, ⟨dx, a1, a2, a3, d, kvs, h⟩, qE, q⟩ := h
    subst hX
    refine ⟨_, (pss_one (ps_if (pt_cmpR op_notIn_seq (pv 1) (pe_fld (pv 0) rfl) (by first | exact nomark _ | rfl)) (pss_one (ps_raise rfl md rfl m_UnknownJudge x_UnknownJudge (pa_cons pe_str pa_nil))) pss_nil)), ?_⟩
    refine ⟨_, rfl, _, rfl, p, _, dx, _, _, rfl, h.ip, T.cl_Sheet, T.n_Sheet_panel, rfl, _, _, rfl, .inl (SqL.of h.i3), rfl, flat_strs _, _, rfl, ?_⟩
    rw [inV_strs]
    refine iteND (fun hj => ?_) (fun hj => q hj)
    exact ⟨(by show 1 ≤ sizeLine; decide), by rw [hW]; exact qE hj _ n_UnknownJudge⟩
end
end Pp

namespace Pp
open PySem L2
noncomputable def sp_Sheet_couples (K : PySem.W.Frag) : Sp := fun vs H Q _ => ∃ (p : Addr) (F : Addr → Prop) (S : Sh), vs = [.ref p] ∧ SheetAt K H p F S ∧ ∀ (l : Addr) (H' : Hp), Same H H' → H l = none → H' l = some (.lst (S.couples.map V.int)) → Q (.ref l) H'
section
variable {P : Program} {w : World} {K : PySem.W.Frag} {mg : Str → Option Value} {base : Heap}
theorem ok_Sheet_couples {f : Addr} {fd : FuncData} (F : Fun K "couples" "Sheet.couples" s_Sheet_couples f fd) (T : Txt K mg) : FnOk P w K mg base CX0 1 f fd ["self"] (sp_Sheet_couples K) := by
  refine F.ok sc_Sheet_couples (fun vs H Q E h => ?_) (fun cdv A outer s H vs Q E hr h => ?_)
  · obtain ⟨p, F, S, rfl, _⟩ := h
    rfl
  · obtain ⟨p, F, S, rfl, ⟨dx, a1, a2, a3, d, kvs, h⟩, q⟩ := h
    refine ⟨_, (pss_one (ps_ret (pe_callTy call_list_of (by rfl) T.b_list PyProof.Rows.boot_list (pa_cons (pe_fld (pv 0) rfl) pa_nil)))), ?_⟩
    exact ⟨_, rfl, p, _, dx, _, _, rfl, h.ip, T.cl_Sheet, T.n_Sheet_standing, rfl, _, _, rfl, .inl (SqL.of h.i1), fun l hl => q l _ (Same.new hl) hl upd_same⟩
end
end Pp

namespace Pp
open PySem L2
noncomputable def sp_Sheet_struck (K : PySem.W.Frag) : Sp := fun vs H Q _ => ∃ (p : Addr) (F : Addr → Prop) (S : Sh), vs = [.ref p] ∧ SheetAt K H p F S ∧ ∀ (l : Addr) (H' : Hp), Same H H' → H l = none → H' l = some (.lst (S.struck.map V.int)) → Q (.ref l) H'
section
variable {P : Program} {w : World} {K : PySem.W.Frag} {mg : Str → Option Value} {base : Heap}
theorem ok_Sheet_struck {f : Addr} {fd : FuncData} (F : Fun K "struck" "Sheet.struck" s_Sheet_struck f fd) (T : Txt K mg) : FnOk P w K mg base CX0 1 f fd ["self"] (sp_Sheet_struck K) := by
  refine F.ok sc_Sheet_struck (fun vs H Q E h => ?_) (fun cdv A outer s H vs Q E hr h => ?_)
  · obtain ⟨p, F, S, rfl, _⟩ := h
    rfl
  · obtain ⟨p, F, S, rfl, ⟨dx, a1, a2, a3, d, kvs, h⟩, q⟩ := h
    refine ⟨_, (pss_one (ps_ret (pe_callTy call_list_of (by rfl) T.b_list PyProof.Rows.boot_list (pa_cons (pe_fld (pv 0) rfl) pa_nil)))), ?_⟩
    exact ⟨_, rfl, p, _, dx, _, _, rfl, h.ip, T.cl_Sheet, T.n_Sheet_struck_so_far, rfl, _, _, rfl, .inl (SqL.of h.i2), fun l hl => q l _ (Same.new hl) hl upd_same⟩
end
end Pp

namespace Pp
open PySem L2
noncomputable def sp_Sheet_judges (K : PySem.W.Frag) : Sp := fun vs H Q _ => ∃ (p : Addr) (F : Addr → Prop) (S : Sh), vs = [.ref p] ∧ SheetAt K H p F S ∧ ∀ (l : Addr) (H' : Hp), Same H H' → H l = none → H' l = some (.lst (S.panel.map V.str)) → Q (.ref l) H'
section
variable {P : Program} {w : World} {K : PySem.W.Frag} {mg : Str → Option Value} {base : Heap}
theorem ok_Sheet_judges {f : Addr} {fd : FuncData} (F : Fun K "judges" "Sheet.judges" s_Sheet_judges f fd) (T : Txt K mg) : FnOk P w K mg base CX0 1 f fd ["self"] (sp_Sheet_judges K) := by
  refine F.ok sc_Sheet_judges (fun vs H Q E h => ?_) (fun cdv A outer s H vs Q E hr h => ?_)
  · obtain ⟨p, F, S, rfl, _⟩ := h
    rfl
  · obtain ⟨p, F, S, rfl, ⟨dx, a1, a2, a3, d, kvs, h⟩, q⟩ := h
    refine ⟨_, (pss_one (ps_ret (pe_callTy call_list_of (by rfl) T.b_list PyProof.Rows.boot_list (pa_cons (pe_fld (pv 0) rfl) pa_nil)))), ?_⟩
    exact ⟨_, rfl, p, _, dx, _, _, rfl, h.ip, T.cl_Sheet, T.n_Sheet_panel, rfl, _, _, rfl, .inl (SqL.of h.i3), fun l hl => q l _ (Same.new hl) hl upd_same⟩
end
end Pp

namespace Pp
open PySem L2
noncomputable def sp_Sheet_handed (K : PySem.W.Frag) : Sp := fun vs H Q _ => ∃ (p : Addr) (F : Addr → Prop) (S : Sh), vs = [.ref p] ∧ ShapeAt K H p F S ∧ S.panel.length ≤ 15 ∧ ∀ (l : Addr) (H' : Hp), Same H H' → H l = none → H' l = some (.lst (S.handed.map V.str)) → Q (.ref l) H'
section
variable {P : Program} {w : World} {K : PySem.W.Frag} {mg : Str → Option Value} {base : Heap}
theorem ok_Sheet_handed {f : Addr} {fd : FuncData} (F : Fun K "handed" "Sheet.handed" s_Sheet_handed f fd) (T : Txt K mg) : FnOk P w K mg base CX0 1 f fd ["self"] (sp_Sheet_handed K) := by
  refine F.ok sc_Sheet_handed (fun vs H Q E h => ?_) (fun cdv A outer s H vs Q E hr h => ?_)
  · obtain ⟨p, F, S, rfl, _⟩ := h
    rfl
  · obtain ⟨p, F, S, rfl, ⟨dx, a1, a2, a3, d, kvs, h⟩, h15, q⟩ := h
    refine ⟨_, (pss_one (ps_ret (pe_comp (show CompScope (defScope s_Sheet_handed) ["self"] "judge" ["self"] [0] _ from ⟨rfl, by decide +kernel, by decide +kernel, rfl, by decide +kernel, rfl, by decide +kernel, by decide +kernel⟩) rfl (pi_list (pe_fld (pv 0) rfl)) (fun _ _ _ _ _ => (pf_one (pt_cmp (pc_din (hu_of hr) (pv 0) (pe_fldK (K := K) rfl (pv 1) rfl))))) (fun _ _ _ _ _ => (pv 0))))), ?_⟩
    have hln := line_ge
    refine ⟨_, rfl, p, _, dx, _, _, rfl, h.ip, T.cl_Sheet, T.n_Sheet_panel, rfl, a3, rfl, ⟨_, SqL.of h.i3⟩, ?_⟩
    refine comp_list (xs := S.panel.map V.str) (fun i ys H2 => H2 = H ∧ ys = ((S.panel.take i).filter fun j => (S.card j).isSome).map V.str) ⟨rfl, rfl⟩ ?_ (by rw [List.length_map]; omega) ?_ ?_
    · rintro i ys H2 hi ⟨rfl, rfl⟩
      refine ⟨SqL.of h.i3, ?_⟩
      rw [List.length_map]
      exact Nat.le_trans (List.length_filter_le _ _) (by rw [List.length_take]; omega)
    · rintro i x ys H2 hx ⟨rfl, rfl⟩
      obtain ⟨hi, rfl⟩ := strs_get hx
      refine ⟨_, rfl, _, rfl, p, _, dx, _, _, rfl, h.ip, T.cl_Sheet, T.n_Sheet_card_by_judge, rfl, d, _, rfl, DGet.k (k := Sum.inr (S.panel.getD i "")) h.i4, _, rfl, ?_⟩
      have hv : (valV kvs (Sum.inr (S.panel.getD i ""))).isSome = (S.card (S.panel.getD i "")).isSome := by
        cases e : S.card (S.panel.getD i "") with
        | none => rw [h.cn _ e]; rfl
        | some c => obtain ⟨l, e1, _⟩ := h.cs _ _ e; rw [e1]; rfl
      rw [hv]
      refine iteB (fun hb => ?_) (fun hb => ?_)
      · refine ⟨_, rfl, rfl, ?_⟩
        rw [take_nextS hi, List.filter_append, List.filter_cons, if_pos hb, List.map_append]
        rfl
      · refine ⟨rfl, ?_⟩
        rw [take_nextS hi, List.filter_append, List.filter_cons, if_neg (by rw [hb]; exact Bool.false_ne_true)]
        simp
    · rintro ys H2 ⟨rfl, rfl⟩ l hl
      rw [List.length_map, List.take_length]
      exact q l _ (Same.new hl) hl upd_same
end
end Pp

namespace Pp
open PySem L2
noncomputable def sp_good_number (K : PySem.W.Frag) : Sp := fun vs H Q _ => ∃ (n : Int), vs = [.int n] ∧ Q (.bl (decide (1 ≤ n) && decide (n ≤ 999))) H
section
variable {P : Program} {w : World} {K : PySem.W.Frag} {mg : Str → Option Value} {base : Heap}
theorem ok_good_number {f : Addr} {fd : FuncData} (F : Fun K "good_number" "good_number" s_good_number f fd) (T : Txt K mg) : FnOk P w K mg base CX0 1 f fd ["couple"] (sp_good_number K) := by
  refine F.ok sc_good_number (fun vs H Q E h => ?_) (fun cdv A outer s H vs Q E hr h => ?_)
  · obtain ⟨n, rfl, _⟩ := h
    rfl
  · obtain ⟨n, rfl, q⟩ := h
    refine ⟨_, (pss_one (ps_ret (pe_chain op_le op_le pe_int (pv 0) (pe_const T.c_MOST_NUMBER rfl)))), ?_⟩
    refine ⟨_, rfl, _, _, rfl, rfl, _, rfl, iteD (fun h1 => ?_) (fun h1 => ?_)⟩
    · rw [decide_eq_true h1, Bool.true_and] at q
      exact ⟨_, _, rfl, rfl, q⟩
    · rw [decide_eq_false h1, Bool.false_and] at q
      exact q
end
end Pp

namespace Pp
open PySem L2
noncomputable def sp_small_letter (K : PySem.W.Frag) : Sp := fun vs H Q _ => ∃ (c : Nat), vs = [.str ⟨#[c]⟩] ∧ Q (.bl (small c)) H
section
variable {P : Program} {w : World} {K : PySem.W.Frag} {mg : Str → Option Value} {base : Heap}
theorem ok_small_letter {f : Addr} {fd : FuncData} (F : Fun K "small_letter" "small_letter" s_small_letter f fd) (T : Txt K mg) : FnOk P w K mg base CX0 1 f fd ["sign"] (sp_small_letter K) := by
  refine F.ok sc_small_letter (fun vs H Q E h => ?_) (fun cdv A outer s H vs Q E hr h => ?_)
  · obtain ⟨c, rfl, _⟩ := h
    rfl
  · obtain ⟨c, rfl, q⟩ := h
    refine ⟨_, (pss_one (ps_ret (pe_chain op_le_str op_le_str pe_str (pv 0) pe_str))), ?_⟩
    unfold small at q
    refine ⟨_, rfl, _, _, rfl, rfl, _, rfl, ?_⟩
    rw [M2.le_a]
    refine iteD (fun h1 => ?_) (fun h1 => ?_)
    · rw [decide_eq_true h1, Bool.true_and] at q
      refine ⟨_, _, rfl, rfl, ?_⟩
      rw [M2.le_z]
      exact q
    · rw [decide_eq_false h1, Bool.false_and] at q
      exact q
end
end Pp

namespace Pp
open PySem L2
noncomputable def sp_good_length (K : PySem.W.Frag) : Sp := fun vs H Q _ => ∃ (x : V) (n : Nat) (m : Int), vs = [x, .int m] ∧ LenV K x H n ∧ Q (.bl (decide (1 ≤ (n : Int)) && decide ((n : Int) ≤ m))) H
section
variable {P : Program} {w : World} {K : PySem.W.Frag} {mg : Str → Option Value} {base : Heap}
theorem ok_good_length {f : Addr} {fd : FuncData} (F : Fun K "good_length" "good_length" s_good_length f fd) (T : Txt K mg) : FnOk P w K mg base CX0 1 f fd ["things", "most"] (sp_good_length K) := by
  refine F.ok sc_good_length (fun vs H Q E h => ?_) (fun cdv A outer s H vs Q E hr h => ?_)
  · obtain ⟨x, n, m, rfl, _⟩ := h
    rfl
  · obtain ⟨x, n, m, rfl, hx, q⟩ := h
    refine ⟨_, (pss_one (ps_ret (pe_chain op_le op_le pe_int (pe_callB call_len (by rfl) T.b_len PySem.boot_len (pa_cons (pv 0) pa_nil)) (pv 1)))), ?_⟩
    refine ⟨_, rfl, x, n, rfl, hx, _, _, rfl, rfl, _, rfl, iteD (fun h1 => ?_) (fun h1 => ?_)⟩
    · rw [decide_eq_true h1, Bool.true_and] at q
      exact ⟨_, rfl, _, _, rfl, rfl, q⟩
    · rw [decide_eq_false h1, Bool.false_and] at q
      exact q
end
end Pp

namespace Pp
open PySem L2
noncomputable def sp_all_unlike (K : PySem.W.Frag) : Sp := fun vs H Q _ => ∃ a : Addr, vs = [.ref a] ∧ ((∃ ns : List Int, SqL K H a (ns.map V.int) ∧ ns.length < 4000 ∧ ∀ H', Same H H' → Q (.bl (decide ns.Nodup)) H') ∨ ∃ ts : List Str, SqL K H a (ts.map V.str) ∧ ts.length < 4000 ∧ Q (.bl (decide ts.Nodup)) H)
section
variable {P : Program} {w : World} {K : PySem.W.Frag} {mg : Str → Option Value} {base : Heap}
theorem ok_all_unlike {f : Addr} {fd : FuncData} (F : Fun K "all_unlike" "all_unlike" s_all_unlike f fd) (T : Txt K mg) : FnOk P w K mg base CX0 1 f fd ["things"] (sp_all_unlike K) := by
  refine F.ok sc_all_unlike (fun vs H Q E h => ?_) (fun cdv A outer s H vs Q E hr h => ?_)
  · obtain ⟨a, rfl, _⟩ := h
    rfl
  · obtain ⟨a, rfl, h⟩ := h
    refine ⟨_, (pss_one (ps_ret (pe_cmpR op_eq (pe_both (pe_callB call_len_set (by rfl) T.b_len PySem.boot_len (pa_cons (pe_callTy (call_set_int rfl) (by rfl) T.b_set PyProof.Rows.boot_set (pa_cons (pv 0) pa_nil)) pa_nil)) (pe_lensetS rfl (by rfl) T.b_len (by rfl) T.b_set (pv 0))) (pe_callB call_len_seq (by rfl) T.b_len PySem.boot_len (pa_cons (pv 0) pa_nil)) (nomark _)))), ?_⟩
    rcases h with ⟨ns, hS, hz, q⟩ | ⟨ts, hS, hz, q⟩
    · refine .inl ⟨_, rfl, a, ns, rfl, hS, hz, fun l hl => ?_⟩
      refine ⟨l, _, _, rfl, upd_same, _, rfl, a, _, rfl, .inl ((Same.new hl).seq hS), rfl, ?_⟩
      have e : decide (V.int ((PyProof.Rows.firstMet (fun i => ns.getD i 0) ns.length).length : Int) = V.int ((ns.map V.int).length : Int)) = decide ns.Nodup := by
        rw [List.length_map]
        by_cases h : ns.Nodup
        · rw [decide_eq_true h, (set_full ns).mpr h]; exact decide_eq_true rfl
        · rw [decide_eq_false h]
          refine decide_eq_false fun z => h ((set_full ns).mp ?_)
          injection z with z
          exact Int.ofNat.inj z
      rw [e]
      exact q _ (Same.new hl)
    · refine .inr ⟨_, rfl, a, ts, rfl, hS, hz, ?_⟩
      refine ⟨_, rfl, a, _, rfl, .inl hS, rfl, ?_⟩
      have e : decide (V.int ((met (fun i => ts.getD i "") ts.length).length : Int) = V.int ((ts.map V.str).length : Int)) = decide ts.Nodup := by
        rw [List.length_map]
        by_cases h : ts.Nodup
        · rw [decide_eq_true h, (met_full ts "").mpr h]; exact decide_eq_true rfl
        · rw [decide_eq_false h]
          refine decide_eq_false fun z => h ((met_full ts "").mp ?_)
          injection z with z
          exact Int.ofNat.inj z
      rw [e]
      exact q
end
end Pp

namespace Pp
open PySem L2
noncomputable def sp_due_couples (K : PySem.W.Frag) : Sp := fun vs H Q _ => ∃ (f : Str), vs = [.str f] ∧ Q (.int (M20.due f)) H
section
variable {P : Program} {w : World} {K : PySem.W.Frag} {mg : Str → Option Value} {base : Heap}
theorem ok_due_couples {f : Addr} {fd : FuncData} (F : Fun K "due_couples" "due_couples" s_due_couples f fd) (T : Txt K mg) : FnOk P w K mg base CX0 1 f fd ["first"] (sp_due_couples K) := by
  refine F.ok sc_due_couples (fun vs H Q E h => ?_) (fun cdv A outer s H vs Q E hr h => ?_)
  · obtain ⟨f, rfl, _⟩ := h
    rfl
  · obtain ⟨f, rfl, q⟩ := h
    refine ⟨_, (pss_one (ps_ret (pe_ifExp (pt_cmpR op_in_seq (pv 0) (pe_ctup T.c_COUPLE_WORDS rfl) (by first | exact nomark _ | rfl)) pe_int pe_int))), ?_⟩
    unfold M20.due at q
    refine ⟨_, rfl, fun a ha => ⟨a, _, rfl, .inr (ha _), rfl, M20.strs_flat _, _, rfl, ?_⟩⟩
    refine iteB (fun h1 => ?_) (fun h1 => ?_)
    · rw [if_pos (show M20.inW f M20.COUPLE = true from h1)] at q
      exact q
    · rw [if_neg (by rw [show M20.inW f M20.COUPLE = false from h1]; exact Bool.false_ne_true)] at q
      exact q
end
end Pp

namespace Pp
open PySem L2
noncomputable def sp_figure (K : PySem.W.Frag) : Sp := fun vs H Q _ => ∃ (c : Nat), vs = [.str ⟨#[c]⟩] ∧ Q (.bl (M20.fig c)) H
section
variable {P : Program} {w : World} {K : PySem.W.Frag} {mg : Str → Option Value} {base : Heap}
theorem ok_figure {f : Addr} {fd : FuncData} (F : Fun K "figure" "figure" s_figure f fd) (T : Txt K mg) : FnOk P w K mg base CX0 1 f fd ["sign"] (sp_figure K) := by
  refine F.ok sc_figure (fun vs H Q E h => ?_) (fun cdv A outer s H vs Q E hr h => ?_)
  · obtain ⟨c, rfl, _⟩ := h
    rfl
  · obtain ⟨c, rfl, q⟩ := h
    refine ⟨_, (pss_one (ps_ret (pe_chain op_le_str op_le_str pe_str (pv 0) pe_str))), ?_⟩
    unfold M20.fig at q
    refine ⟨_, rfl, _, _, rfl, rfl, _, rfl, ?_⟩
    rw [M20.le_0]
    refine iteD (fun h1 => ?_) (fun h1 => ?_)
    · rw [decide_eq_true h1, Bool.true_and] at q
      refine ⟨_, _, rfl, rfl, ?_⟩
      rw [M20.le_9]
      exact q
    · rw [decide_eq_false h1, Bool.false_and] at q
      exact q
end
end Pp

namespace Pp
open PySem L2
noncomputable def sp_numbers_text (K : PySem.W.Frag) : Sp := fun vs H Q _ => ∃ (a : Addr) (ns : List Int), vs = [.ref a] ∧ SqL K H a (ns.map V.int) ∧ ns.length ≤ 24 ∧ (∀ n ∈ ns, 1 ≤ n ∧ n ≤ 999) ∧ ∀ H', Same H H' → Q (.str (Txt.join M6.blank (ns.map tN))) H'
section
variable {P : Program} {w : World} {K : PySem.W.Frag} {mg : Str → Option Value} {base : Heap}
theorem ok_numbers_text {f : Addr} {fd : FuncData} (F : Fun K "numbers_text" "numbers_text" s_numbers_text f fd) (T : Txt K mg) : FnOk P w K mg base CX0 1 f fd ["couples"] (sp_numbers_text K) := by
  refine F.ok sc_numbers_text (fun vs H Q E h => ?_) (fun cdv A outer s H vs Q E hr h => ?_)
  · obtain ⟨a, ns, rfl, _⟩ := h
    rfl
  · obtain ⟨a, ns, rfl, hA, hl, hn, q⟩ := h
    refine ⟨_, (pss_one (ps_ret (pe_bm PySem.F.plainAttrs_str PySem.F.slot_str_join PySem.F.type_str_join ms_join pe_str (pa_cons (pe_comp (show CompScope (defScope s_numbers_text) ["couples"] "couple" [] [] _ from ⟨rfl, by decide +kernel, by decide +kernel, rfl, by decide +kernel, rfl, by decide +kernel, by decide +kernel⟩) rfl (pi_list (pv 0)) (fun _ _ _ _ _ => pf_nil) (fun _ _ _ _ _ => (pe_callTy call_str (by rfl) T.b_str PyProof.Rows.boot_str (pa_cons (pv 0) pa_nil)))) pa_nil)))), ?_⟩
    have hln := line_ge
    refine ⟨rfl, _, rfl, a, rfl, ⟨_, hA⟩, ?_⟩
    refine comp_strN (f := tN) hA (by omega) (fun y H' R hy s' h => ⟨_, rfl, .inl ⟨_, rfl, log_ok (by have := hn y hy; omega), h H' (Same.refl _)⟩⟩) fun H1 s1 => ?_
    intro l1 hl1
    refine ⟨_, l1, ns.map tN, rfl, rfl, SqL.new, by decide +kernel, by rw [List.length_map]; omega, fun w hw => ?_, q _ (s1.newT hl1)⟩
    obtain ⟨n, h, rfl⟩ := List.mem_map.mp hw
    have := M6.tN_short (hn n h)
    omega
end
end Pp

namespace Pp
open PySem L2
noncomputable def sp_law_whole (K : PySem.W.Frag) : Sp := fun vs H Q _ => ∃ x b1 b2, vs = [x] ∧ isInt x = some b1 ∧ isBool x = some b2 ∧ Q (.bl (b1 && !b2)) H
section
variable {P : Program} {w : World} {K : PySem.W.Frag} {mg : Str → Option Value} {base : Heap}
theorem ok_law_whole {f : Addr} {fd : FuncData} (F : Fun K "_law_whole" "_law_whole" s_law_whole f fd) (T : Txt K mg) : FnOk P w K mg base CX0 1 f fd ["_law_found"] (sp_law_whole K) := by
  refine F.ok sc_law_whole (fun vs H Q E h => ?_) (fun cdv A outer s H vs Q E hr h => ?_)
  · obtain ⟨x, b1, b2, rfl, _⟩ := h
    rfl
  · obtain ⟨x, b1, b2, rfl, h1, h2, k⟩ := h
    refine ⟨_, (pss_one (ps_ret (pe_and (pe_callB call_isi_int (by rfl) T.b_isinstance PyProof.Rows.boot_isinstance (pa_cons (pv 0) (pa_cons (pe_bltn (v := V.ty "int") rfl T.b_int PyProof.Rows.boot_int rfl) pa_nil))) (pe_one (pe_not (pe_callB call_isi_bool (by rfl) T.b_isinstance PyProof.Rows.boot_isinstance (pa_cons (pv 0) (pa_cons (pe_bltn (v := V.ty "bool") rfl T.b_bool PyProof.Rows.boot_bool rfl) pa_nil)))))))), ?_⟩
    refine ⟨_, rfl, x, b1, rfl, h1, _, rfl, ?_⟩
    cases b1 with
    | false => exact iteF k
    | true => exact iteT ⟨_, rfl, x, b2, rfl, h2, _, rfl, k⟩
end
end Pp

namespace Pp
open PySem L2
noncomputable def sp_law_at (K : PySem.W.Frag) : Sp := fun vs H Q _ => ∃ (a : Addr) (ns : List Int) (k : Int), vs = [.ref a, .int k] ∧ SqL K H a (ns.map V.int) ∧ 0 ≤ k ∧ Q (.int (ns.getD k.toNat 0)) H
section
variable {P : Program} {w : World} {K : PySem.W.Frag} {mg : Str → Option Value} {base : Heap}
theorem ok_law_at {f : Addr} {fd : FuncData} (F : Fun K "_law_at" "_law_at" s_law_at f fd) (T : Txt K mg) : FnOk P w K mg base CX0 1 f fd ["_law_script", "_law_k"] (sp_law_at K) := by
  refine F.ok sc_law_at (fun vs H Q E h => ?_) (fun cdv A outer s H vs Q E hr h => ?_)
  · obtain ⟨a, ns, k, rfl, _⟩ := h
    rfl
  · obtain ⟨a, ns, k, rfl, hS, h0, q⟩ := h
    refine ⟨_, (pss_cons (ps_if (pt_cmpR op_lt (pv 1) (pe_callB call_len_seq (by rfl) T.b_len PySem.boot_len (pa_cons (pv 0) pa_nil)) (nomark _)) (pss_one (ps_ret (pe_ix ix_list (pv 0) (pv 1) (fun _ _ => rfl)))) pss_nil)
      (pss_one (ps_ret pe_int))), ?_⟩
    refine ⟨_, rfl, _, rfl, a, _, rfl, .inl hS, _, _, rfl, rfl, _, rfl, iteD (fun hk => ?_) (fun hk => ?_)⟩
    · rw [List.length_map] at hk
      exact ⟨_, rfl, _, rfl, a, _, k, _, rfl, rfl, hS, atI_ints h0 hk, q⟩
    · rw [List.length_map] at hk
      show Q (.int 0) H
      rw [List.getD_eq_getElem?_getD, List.getElem?_eq_none (by omega)] at q
      exact q
end
end Pp

namespace Pp
open PySem L2
noncomputable def sp_law_texts (K : PySem.W.Frag) : Sp := fun vs H Q _ => ∃ (a b : Addr) (ts us : List Str), vs = [.ref a, .ref b] ∧ SqL K H a (ts.map V.str) ∧ SqL K H b (us.map V.str) ∧ us.length ≤ 1000000 ∧ Q (.bl (decide (ts = us))) H
theorem texts_all {ts us : List Str} (hl : ts.length = us.length) (h : ∀ j, j < us.length → ts.getD j "" = us.getD j "") : ts = us := by
  refine List.ext_getElem hl fun j h1 h2 => ?_
  have := h j h2
  rwa [List.getD_eq_getElem?_getD, List.getD_eq_getElem?_getD, List.getElem?_eq_getElem h1, List.getElem?_eq_getElem h2] at this
section
variable {P : Program} {w : World} {K : PySem.W.Frag} {mg : Str → Option Value} {base : Heap}
theorem ok_law_texts {f : Addr} {fd : FuncData} (F : Fun K "_law_texts" "_law_texts" s_law_texts f fd) (T : Txt K mg) : FnOk P w K mg base CX0 1 f fd ["_law_found", "_law_due"] (sp_law_texts K) := by
  refine F.ok sc_law_texts (fun vs H Q E h => ?_) (fun cdv A outer s H vs Q E hr h => ?_)
  · obtain ⟨a, b, ts, us, rfl, _⟩ := h
    rfl
  · obtain ⟨a, b, ts, us, rfl, hA, hB, hz, q⟩ := h
    refine ⟨_, (pss_cons (ps_if (PW.pt (pw_or (pt_not (pt_val (pe_callB call_isi_list (by rfl) T.b_isinstance PyProof.Rows.boot_isinstance (pa_cons (pv 0) (pa_cons (pe_bltn (v := V.ty "list") rfl T.b_list PyProof.Rows.boot_list rfl) pa_nil))))) (pw_or1 (pt_cmpR op_ne (pe_callB call_len_seq (by rfl) T.b_len PySem.boot_len (pa_cons (pv 0) pa_nil)) (pe_callB call_len_seq (by rfl) T.b_len PySem.boot_len (pa_cons (pv 1) pa_nil)) (nomark _))))) (pss_one (ps_ret pe_bl)) pss_nil)
      (pss_cons (ps_for PassesOwn.never rfl (pi_range1 rfl T.b_range (pa_cons (pe_callB call_len_seq (by rfl) T.b_len PySem.boot_len (pa_cons (pv 1) pa_nil)) pa_nil)) (pg_name (i := 2) sc_law_texts.nd rfl (Or.inl rfl))
        (pss_one (ps_if (PW.pt (pw_or (pt_not (pt_val (pe_callB call_isi_str (by rfl) T.b_isinstance PyProof.Rows.boot_isinstance (pa_cons (pe_ix ix_list (pv 0) (pv 2) (fun _ _ => rfl)) (pa_cons (pe_bltn (v := V.ty "str") rfl T.b_str PyProof.Rows.boot_str rfl) pa_nil))))) (pw_or1 (pt_cmpR op_ne (pe_ix ix_list (pv 0) (pv 2) (fun _ _ => rfl)) (pe_ix ix_list (pv 1) (pv 2) (fun _ _ => rfl)) (nomark _))))) (pss_one (ps_ret pe_bl)) pss_nil)))
      (pss_one (ps_ret pe_bl)))), ?_⟩
    refine ⟨_, rfl, _, _, rfl, .yes hA, _, rfl, iteF ?_⟩
    refine ⟨_, rfl, a, _, rfl, .inl hA, _, rfl, b, _, rfl, .inl hB, rfl, _, rfl, ?_⟩
    rw [List.length_map, List.length_map]
    refine iteND (fun hne => ?_) (fun he => ?_)
    · show Q (.bl false) H
      have : ts ≠ us := fun e => hne (by rw [e])
      rw [decide_eq_false this] at q
      exact q
    · have hl : ts.length = us.length := by injection he with he; exact Int.ofNat.inj he
      refine ⟨_, rfl, b, _, rfl, .inl hB, _, rfl, by omega, by rw [List.length_map]; omega, ?_⟩
      rw [List.length_map]
      refine for_range (fun i σ H2 => ∃ v, σ = [some (.ref a), some (.ref b), v] ∧ H2 = H ∧ ∀ j, j < i → ts.getD j "" = us.getD j "") ⟨_, rfl, rfl, fun j hj => by omega⟩ ?_ ?_
      · rintro i σ H2 hi ⟨v, rfl, rfl, hj⟩
        have hi' : i < us.length := by simpa using hi
        have e1 : atI (ts.map V.str) (0 + (i : Int)) = some (.str (ts.getD i "")) := by rw [Int.zero_add]; exact atI_nat (strs_at (by omega))
        have e2 : atI (us.map V.str) (0 + (i : Int)) = some (.str (us.getD i "")) := by rw [Int.zero_add]; exact atI_nat (strs_at hi')
        refine ⟨_, rfl, _, rfl, a, _, _, _, rfl, rfl, hA, e1, _, _, rfl, rfl, _, rfl, iteF ?_⟩
        refine ⟨_, rfl, _, rfl, a, _, _, _, rfl, rfl, hA, e1, _, rfl, _, rfl, b, _, _, _, rfl, rfl, hB, e2, rfl, _, rfl, iteND (fun hne => ?_) (fun he => ?_)⟩
        · show Q (.bl false) _
          have : ts ≠ us := fun e => hne (by rw [e])
          rw [decide_eq_false this] at q
          exact q
        · refine ⟨_, rfl, rfl, fun j hj' => ?_⟩
          by_cases hji : j = i
          · subst hji; injection he
          · exact hj j (by omega)
      · rintro σ H2 ⟨v, rfl, rfl, hj⟩
        show Q (.bl true) _
        have : ts = us := texts_all hl fun j h => hj j (by simpa using h)
        rw [decide_eq_true this] at q
        exact q
end
end Pp

namespace Pp
open PySem L2
noncomputable def sp_law_couples (K : PySem.W.Frag) : Sp := fun vs H Q _ => ∃ c m, vs = [.int c, .int m] ∧ 0 ≤ m ∧ m ≤ 1000 ∧ ∀ l H', Same H H' → H l = none → H' l = some (.lst ((M1.couples c m.toNat).map V.int)) → Q (.ref l) H'
section
variable {P : Program} {w : World} {K : PySem.W.Frag} {mg : Str → Option Value} {base : Heap}
theorem ok_law_couples {f : Addr} {fd : FuncData} (F : Fun K "_law_couples" "_law_couples" s_law_couples f fd) (T : Txt K mg) : FnOk P w K mg base CX0 1 f fd ["_law_cell", "_law_many"] (sp_law_couples K) := by
  refine F.ok sc_law_couples (fun vs H Q E h => ?_) (fun cdv A outer s H vs Q E hr h => ?_)
  · obtain ⟨c, m, rfl, _⟩ := h
    rfl
  · obtain ⟨c, m, rfl, h0, h1, q⟩ := h
    refine ⟨_, (pss_cons (ps_set (i := 2) sc_law_couples.nd rfl (Or.inr rfl) (pe_ix ix_list (pe_lst (pa_cons pe_int (pa_cons pe_int (pa_cons pe_int (pa_cons pe_int pa_nil))))) (pe_op op_mod (pv 0) pe_int) (fun _ _ => rfl)))
      (pss_one (ps_ret (pe_comp (show CompScope (defScope s_law_couples) ["_law_cell", "_law_many", "_law_gap"] "_law_k" ["_law_cell", "_law_gap"] [0, 2] _ from ⟨rfl, by decide +kernel, by decide +kernel, rfl, by decide +kernel, rfl, by decide +kernel, by decide +kernel⟩) rfl (pi_range1 rfl T.b_range (pa_cons (pv 1) pa_nil)) (fun _ _ _ _ _ => pf_nil) (fun _ _ _ _ _ => (pe_op op_add (pe_op op_mod (pe_op op_add (pe_op op_fdiv (pv 1) pe_int) (pe_op op_mul (pv 0) (pv 2))) pe_int) pe_int)))))), ?_⟩
    refine ⟨by decide, fun p hp => ?_⟩
    have g4 : 0 ≤ c % 4 ∧ c % 4 < 4 := ⟨Int.emod_nonneg _ (by decide), Int.emod_lt_of_pos _ (by decide)⟩
    have eg : atI [V.int 1, V.int 7, V.int 500, V.int 998] (c % 4) = some (.int (M1.gap c)) := by
      have h : c % 4 = 0 ∨ c % 4 = 1 ∨ c % 4 = 2 ∨ c % 4 = 3 := by omega
      unfold M1.gap
      rcases h with h | h | h | h <;> rw [h] <;> rfl
    refine ⟨_, rfl, _, _, rfl, rfl, (by show (0 : Int) < 4; decide), p, _, _, _, rfl, rfl, SqL.new, eg, ?_⟩
    refine ⟨_, rfl, m, rfl, by omega, by omega, ?_⟩
    refine comp_range0 (fun i ys H2 => H2 = upd H p (.lst [V.int 1, V.int 7, V.int 500, V.int 998]) ∧ ys = (M1.couples c i).map V.int) ⟨rfl, rfl⟩ ?_ (Nat.le_trans (by omega) line_ge) ?_ ?_
    · rintro i ys H2 hi ⟨_, rfl⟩
      rw [List.length_map, M1.couples_len]
      exact Nat.le_refl _
    · rintro i ys H2 hi ⟨rfl, rfl⟩
      refine ⟨_, rfl, _, _, rfl, rfl, ⟨by decide, by decide⟩, _, rfl, _, rfl, _, _, rfl, rfl, .inl ⟨by omega, by omega⟩, _, _, rfl, rfl, _, _, rfl, rfl, (by show (0 : Int) < 999; decide), _, _, rfl, rfl, rfl, ?_⟩
      rw [M1.couples_succ, List.map_append, Int.zero_add]
      rfl
    · rintro ys H2 ⟨rfl, rfl⟩ l hl
      exact q l _ ((Same.new hp).newT hl) (Same.free (Same.new hp) hl) upd_same
end
end Pp

namespace Pp
open PySem L2
noncomputable def sp_law_judges (K : PySem.W.Frag) : Sp := fun vs H Q _ => ∃ (c m : Int), vs = [.int c, .int m] ∧ 0 ≤ m ∧ m ≤ 15 ∧ ∀ (l : Addr) (H' : Hp) (ts : List Str), Same H H' → H l = none → H' l = some (.lst (ts.map V.str)) → ts.length = m.toNat → ts.Nodup → (∀ z ∈ ts, M2.goodN z = true) → Q (.ref l) H'
theorem abc_at {i : Int} (h0 : 0 ≤ i) (h1 : i < 26) : atI abc.cps.toList i = some (97 + i.toNat) := by
  have : ∀ k : Fin 26, abc.cps.toList[k.val]? = some (97 + k.val) := by decide +kernel
  have := atI_nat (this ⟨i.toNat, by omega⟩)
  rwa [show ((i.toNat : Nat) : Int) = i by omega] at this
section
variable {P : Program} {w : World} {K : PySem.W.Frag} {mg : Str → Option Value} {base : Heap}
theorem ok_law_judges {f : Addr} {fd : FuncData} (F : Fun K "_law_judges" "_law_judges" s_law_judges f fd) (T : Txt K mg) : FnOk P w K mg base CX0 1 f fd ["_law_cell", "_law_many"] (sp_law_judges K) := by
  refine F.ok sc_law_judges (fun vs H Q E h => ?_) (fun cdv A outer s H vs Q E hr h => ?_)
  · obtain ⟨c, m, rfl, _⟩ := h
    rfl
  · obtain ⟨c, m, rfl, m0, m1, q⟩ := h
    refine ⟨_, (pss_cons (ps_set (i := 2) sc_law_judges.nd rfl (Or.inr rfl) pe_str)
      (pss_cons (ps_set (i := 3) sc_law_judges.nd rfl (Or.inl rfl) (pe_op op_mod (pv 0) pe_int))
      (pss_cons (ps_set (i := 4) sc_law_judges.nd rfl (Or.inl rfl) (pe_op op_mod (pe_op op_fdiv (pv 0) pe_int) (pe_op op_add (pv 3) pe_int)))
      (pss_cons (ps_set (i := 5) sc_law_judges.nd rfl (Or.inr rfl) (pe_lst (pa_cons (pe_slice sl_str pe_str po_none (po_some (pv 4))) (pa_cons (pe_slice sl_str pe_str (po_some (pv 4)) (po_some (pv 3))) pa_nil))))
      (pss_one (ps_ret (pe_comp (show CompScope (defScope s_law_judges) ["_law_cell", "_law_many", "_law_letters", "_law_size", "_law_spot", "_law_ends"] "_law_k" ["_law_cell", "_law_letters", "_law_ends"] [0, 2, 5] _ from ⟨rfl, by decide +kernel, by decide +kernel, rfl, by decide +kernel, rfl, by decide +kernel, by decide +kernel⟩) rfl (pi_range1 rfl T.b_range (pa_cons (pv 1) pa_nil)) (fun _ _ _ _ _ => pf_nil) (fun _ _ _ _ _ => (pe_op op_add_str (pe_op op_add_str (pe_ix (ix_listK (K := K) rfl) (pv 3) pe_int (fun _ _ => rfl)) (pe_ix ix_str (pv 2) (pe_op op_mod (pe_op op_add (pe_op op_fdiv (pv 1) pe_int) (pe_op op_mul pe_int (pv 0))) pe_int) (fun _ _ => rfl))) (pe_ix (ix_listK (K := K) rfl) (pv 3) pe_int (fun _ _ => rfl))))))))))), ?_⟩
    have hln := line_ge
    have z0 : 0 ≤ c % 8 := Int.emod_nonneg _ (by decide)
    have z1 : c % 8 < 8 := Int.emod_lt_of_pos _ (by decide)
    refine ⟨_, rfl, _, _, rfl, rfl, (by show (0 : Int) < 8; decide), ?_⟩
    dsimp only
    generalize c % 8 = size at z0 z1 ⊢
    have p0 : 0 ≤ c / 8 % (size + 1) := Int.emod_nonneg _ (by omega)
    have p1 : c / 8 % (size + 1) < size + 1 := Int.emod_lt_of_pos _ (by omega)
    refine ⟨_, rfl, _, _, rfl, rfl, ⟨by decide, by decide⟩, _, rfl, _, _, rfl, rfl, _, _, rfl, rfl, (by show 0 < size + 1; omega), ?_⟩
    dsimp only
    generalize c / 8 % (size + 1) = spot at p0 p1 ⊢
    have he := M10.ends_ok ⟨size.toNat, by omega⟩ ⟨spot.toNat, by omega⟩ (by show spot.toNat ≤ size.toNat; omega)
    dsimp only at he
    rw [show ((spot.toNat : Nat) : Int) = spot by omega, show ((size.toNat : Nat) : Int) = size by omega] at he
    refine ⟨_, rfl, _, rfl, _, rfl, (by show 7 ≤ sizeLine; decide), _, rfl, _, rfl, _, rfl, _, rfl, _, rfl, (by show 7 ≤ sizeLine; decide), (by show 2 ≤ sizeLine; decide), fun p3 hp3 => ?_⟩
    generalize PySem.Txt.slice "vwxyzab" none (some spot) = e0 at he ⊢
    generalize PySem.Txt.slice "vwxyzab" (some spot) (some size) = e1 at he ⊢
    obtain ⟨hl, h0, h1⟩ := he
    have s3 := Same.new (o := .lst [.str e0, .str e1]) hp3
    have q3 := SqL.new (K := K) (H := H) (l := p3) (xs := [.str e0, .str e1])
    generalize hH3 : upd H p3 _ = H3 at s3 q3 ⊢
    refine ⟨_, rfl, m, rfl, by omega, by omega, ?_⟩
    refine comp_range0 (fun i ys H4 => H4 = H3 ∧ ys = (M10.namesK e0 e1 (c / 64) i).map V.str) ⟨rfl, rfl⟩ ?_ (by omega) ?_ ?_
    · rintro i ys H4 hi ⟨rfl, rfl⟩
      rw [List.length_map, M10.namesK_len]
      omega
    · rintro i ys H4 hi ⟨rfl, rfl⟩
      have i0 := Int.emod_nonneg (c / 64 + 11 * (0 + (i : Int))) (show (26 : Int) ≠ 0 by decide)
      have i1 := Int.emod_lt_of_pos (c / 64 + 11 * (0 + (i : Int))) (show (0 : Int) < 26 by decide)
      refine ⟨_, rfl, p3, _, _, _, rfl, rfl, q3, rfl, _, rfl, _, rfl, _, _, rfl, rfl, ⟨by decide, by decide⟩, _, rfl, _, _, rfl, rfl, .inl ⟨by decide, by decide⟩, _, _, rfl, rfl, _, _, rfl, rfl, (by show (0 : Int) < 26; decide), abc, _, _, rfl, rfl, (by decide), abc_at i0 i1, _, _, rfl, rfl, (by show e0.length + 1 ≤ sizeLine; omega), _, rfl, p3, _, _, _, rfl, rfl, q3, rfl, _, _, rfl, rfl, (by rw [len_add]; show e0.length + 1 + e1.length ≤ sizeLine; omega), rfl, ?_⟩
      rw [M10.namesK_succ, List.map_append, Int.zero_add]
      rfl
    · rintro ys H4 ⟨rfl, rfl⟩ l hl'
      refine q l _ _ (s3.newT hl') (s3.free hl') upd_same (M10.namesK_len _ _ _ _) (M10.namesK_nodup _ _ _ (by omega)) fun z hz => ?_
      unfold M10.namesK at hz
      obtain ⟨k, _, rfl⟩ := List.mem_map.mp hz
      exact M10.nameK_good _ _ hl h0 h1
end
end Pp

namespace Pp
open PySem L2
noncomputable def sp_law_bad_numbers (K : PySem.W.Frag) : Sp := fun vs H Q _ => ∃ (a : Addr) (ns : List Int) (kd sp c : Int), vs = [.ref a, .int kd, .int sp, .int c] ∧ SqL K H a (ns.map V.int) ∧ ns ≠ [] ∧ ns.length ≤ 24 ∧ ∀ (l : Addr) (H' : Hp) (ms : List Int), Same H H' → H l = none → H' l = some (.lst (ms.map V.int)) → ms.length ≤ 25 → Q (.ref l) H'
section
variable {P : Program} {w : World} {K : PySem.W.Frag} {mg : Str → Option Value} {base : Heap}
theorem ok_law_bad_numbers {f : Addr} {fd : FuncData} (F : Fun K "_law_bad_numbers" "_law_bad_numbers" s_law_bad_numbers f fd) (T : Txt K mg) : FnOk P w K mg base CX0 1 f fd ["_law_row", "_law_kind", "_law_spot", "_law_cell"] (sp_law_bad_numbers K) := by
  refine F.ok sc_law_bad_numbers (fun vs H Q E h => ?_) (fun cdv A outer s H vs Q E hr h => ?_)
  · obtain ⟨a, ns, kd, sp, c, rfl, _⟩ := h
    rfl
  · obtain ⟨a, ns, kd, sp, c, rfl, hA, hne, hl, q⟩ := h
    refine ⟨_, (pss_cons (ps_if (pt_cmpR op_eq (pv 1) pe_int (nomark _)) (pss_one (ps_ret (pe_lst pa_nil))) pss_nil)
      (pss_cons (ps_if (pt_cmpR op_eq (pv 1) pe_int (nomark _)) (pss_one (ps_ret (pe_comp (show CompScope (defScope s_law_bad_numbers) ["_law_row", "_law_kind", "_law_spot", "_law_cell", "_law_made_here"] "_law_k" ["_law_row"] [0] _ from ⟨rfl, by decide +kernel, by decide +kernel, rfl, by decide +kernel, rfl, by decide +kernel, by decide +kernel⟩) rfl (pi_range1 rfl T.b_range (pa_cons pe_int pa_nil)) (fun _ _ _ _ _ => pf_nil) (fun _ _ _ _ _ => (pe_op op_add (pe_op op_mod (pe_op op_add (pe_ix (ix_listK (K := K) rfl) (pv 1) pe_int (fun _ _ => rfl)) (pv 0)) pe_int) pe_int))))) pss_nil)
      (pss_cons (ps_set (i := 4) sc_law_bad_numbers.nd rfl (Or.inl rfl) (pe_callTy call_list_of (by rfl) T.b_list PyProof.Rows.boot_list (pa_cons (pv 0) pa_nil)))
      (pss_cons (ps_asg (pe_ix ix_list (pe_lst (pa_cons pe_int (pa_cons (pe_un un_neg pe_int) (pa_cons pe_int (pa_cons (pe_op op_pow pe_int pe_int) (pa_cons (pe_ix ix_list (pv 0) (pe_op op_mod (pe_op op_fdiv (pv 3) pe_int) (pe_callB call_len_seq (by rfl) T.b_len PySem.boot_len (pa_cons (pv 0) pa_nil))) (fun _ _ => rfl)) pa_nil)))))) (pe_op op_mod (pv 3) pe_int) (fun _ _ => rfl)) (pg_sub (pv 4) (pe_op op_mod (pv 2) (pe_callB call_len_seq (by rfl) T.b_len PySem.boot_len (pa_cons (pv 0) pa_nil))) set_list))
      (pss_one (ps_ret (pv 4))))))), ?_⟩
    have hln := line_ge
    have hpos : 0 < ns.length := List.length_pos_iff.mpr hne
    refine ⟨_, rfl, rfl, _, rfl, iteD (fun _ => ?_) (fun _ => ?_)⟩
    · exact ⟨(by show 0 ≤ sizeLine; decide), fun l hl' => q l _ [] (Same.new hl') hl' upd_same (by simp)⟩
    refine ⟨_, rfl, rfl, _, rfl, iteD (fun _ => ?_) (fun _ => ?_)⟩
    · refine ⟨_, rfl, by decide, by decide, ?_⟩
      refine comp_range0 (fun i ys H2 => H2 = H ∧ ∃ ms : List Int, ys = ms.map V.int ∧ ms.length = i) ⟨rfl, [], rfl, rfl⟩ ?_ (by show 25 ≤ sizeLine; decide) ?_ ?_
      · rintro i ys H2 hi ⟨rfl, ms, rfl, rfl⟩
        rw [List.length_map]
        exact Nat.le_refl _
      · rintro i ys H2 hi ⟨rfl, ms, rfl, rfl⟩
        refine ⟨_, rfl, a, _, _, _, rfl, rfl, hA, atI_ints (i := 0) (by decide) (by omega), _, rfl, _, _, rfl, rfl, _, _, rfl, rfl, (by show (0 : Int) < 999; decide), _, _, rfl, rfl, rfl, ms ++ [_], by rw [List.map_append]; rfl, by rw [List.length_append]; rfl⟩
      · rintro ys H2 ⟨rfl, ms, rfl, hml⟩ l hl'
        exact q l _ ms (Same.new hl') hl' upd_same (by rw [hml]; decide)
    refine ⟨_, rfl, a, _, rfl, .inl hA, fun l1 hl1 => ?_⟩
    have s1 := Same.new (o := .lst (ns.map V.int)) hl1
    have e1 : upd H l1 (.lst (ns.map V.int)) l1 = some (.lst (ns.map V.int)) := upd_same
    generalize hH1 : upd H l1 _ = H1 at s1 e1 ⊢
    have q0 := Int.emod_nonneg (c / 5) (b := (ns.length : Int)) (by omega)
    have q1 := Int.emod_lt_of_pos (c / 5) (b := (ns.length : Int)) (by omega)
    have p0 := Int.emod_nonneg sp (b := (ns.length : Int)) (by omega)
    have p1 := Int.emod_lt_of_pos sp (b := (ns.length : Int)) (by omega)
    have x0 : 0 ≤ c % 5 := Int.emod_nonneg _ (by decide)
    have x1 : c % 5 < 5 := Int.emod_lt_of_pos _ (by decide)
    refine ⟨_, rfl, _, _, rfl, rfl, ⟨by decide, by decide, by decide⟩, _, rfl, _, rfl, _, _, rfl, rfl, ⟨by decide, by decide⟩, _, rfl, a, _, rfl, .inl (s1.seq hA), ?_⟩
    rw [List.length_map]
    refine ⟨_, _, rfl, rfl, (by show (0 : Int) < ns.length; omega), a, _, _, _, rfl, rfl, s1.seq hA, atI_ints q0 (by omega), (by show 5 ≤ sizeLine; decide), fun l2 hl2 => ?_⟩
    generalize ns.getD (c / 5 % (ns.length : Int)).toNat 0 = w
    obtain ⟨v, _, ev⟩ := ints_any (ns := [0, -1, 1000, 10 ^ (30 : Int).toNat, w]) x0 (by show c % 5 < 5; omega)
    have s2 := s1.newT (o := .lst (([0, -1, 1000, 10 ^ (30 : Int).toNat, w] : List Int).map V.int)) hl2
    have e2 := (Same.new (o := .lst (([0, -1, 1000, 10 ^ (30 : Int).toNat, w] : List Int).map V.int)) hl2) _ _ e1
    refine ⟨_, rfl, _, _, rfl, rfl, (by show (0 : Int) < 5; decide), l2, _, _, _, rfl, rfl, SqL.new, ev, _, rfl, _, rfl, _, rfl, a, _, rfl, .inl (s2.seq hA), ?_⟩
    rw [List.length_map]
    refine ⟨_, _, rfl, rfl, (by show (0 : Int) < ns.length; omega), l1, _, _, (sp % (ns.length : Int)).toNat, rfl, rfl, e2, ixN_ok p0 (by rw [List.length_map]; omega), ?_⟩
    refine ⟨_, rfl, q l1 _ (ns.set (sp % (ns.length : Int)).toNat v) (fun b o e => ?_) hl1 (by rw [upd_same, List.map_set]) (by rw [List.length_set]; omega)⟩
    rw [upd_ne (ne_of_none e hl1)]
    exact s2 _ _ e
end
end Pp

namespace Pp
open PySem L2
noncomputable def sp_law_bad_names (K : PySem.W.Frag) : Sp := fun vs H Q _ => ∃ (a : Addr) (ts : List Str) (kd sp c : Int), vs = [.ref a, .int kd, .int sp, .int c] ∧ SqL K H a (ts.map V.str) ∧ ts ≠ [] ∧ ts.length ≤ 15 ∧ (∀ z ∈ ts, M2.goodN z = true) ∧ ∀ (l : Addr) (H' : Hp) (us : List Str), Same H H' → H l = none → H' l = some (.lst (us.map V.str)) → us.length ≤ 16 → (∀ z ∈ us, nice z) → Q (.ref l) H'
noncomputable def abcP : Str := Str.ofString "abcdefghijklmnop"
theorem abcP_at {i : Int} (h0 : 0 ≤ i) (h1 : i < 16) : atI abcP.cps.toList i = some (97 + i.toNat) := by
  have : ∀ k : Fin 16, abcP.cps.toList[k.val]? = some (97 + k.val) := by decide +kernel
  have := atI_nat (this ⟨i.toNat, by omega⟩)
  rwa [show ((i.toNat : Nat) : Int) = i by omega] at this
theorem abcP_nice : ∀ k : Fin 16, nice (Str.ofString "n" ++ ⟨#[97 + k.val]⟩) := fun k => by
  have h1 : ∀ k : Fin 16, (Str.ofString "n" ++ ⟨#[97 + k.val]⟩ : Str).length ≤ 9 := by decide +kernel
  have h2 : ∀ k : Fin 16, ∀ c ∈ (Str.ofString "n" ++ ⟨#[97 + k.val]⟩ : Str).cps.toList, small c = true ∨ c = 65 ∨ c = 32 := by decide +kernel
  exact ⟨h1 k, h2 k⟩
section
variable {P : Program} {w : World} {K : PySem.W.Frag} {mg : Str → Option Value} {base : Heap}
theorem ok_law_bad_names {f : Addr} {fd : FuncData} (F : Fun K "_law_bad_names" "_law_bad_names" s_law_bad_names f fd) (T : Txt K mg) : FnOk P w K mg base CX0 1 f fd ["_law_row", "_law_kind", "_law_spot", "_law_cell"] (sp_law_bad_names K) := by
  refine F.ok sc_law_bad_names (fun vs H Q E h => ?_) (fun cdv A outer s H vs Q E hr h => ?_)
  · obtain ⟨a, ts, kd, sp, c, rfl, _⟩ := h
    rfl
  · obtain ⟨a, ts, kd, sp, c, rfl, hA, hne, hl, hg, q⟩ := h
    refine ⟨_, (pss_cons (ps_set (i := 4) sc_law_bad_names.nd rfl (Or.inr rfl) pe_str)
      (pss_cons (ps_if (pt_cmpR op_eq (pv 1) pe_int (nomark _)) (pss_one (ps_ret (pe_lst pa_nil))) pss_nil)
      (pss_cons (ps_if (pt_cmpR op_eq (pv 1) pe_int (nomark _)) (pss_one (ps_ret (pe_comp (show CompScope (defScope s_law_bad_names) ["_law_row", "_law_kind", "_law_spot", "_law_cell", "_law_letters", "_law_made_here", "_law_name", "_law_bad"] "_law_k" ["_law_letters"] [4] _ from ⟨rfl, by decide +kernel, by decide +kernel, rfl, by decide +kernel, rfl, by decide +kernel, by decide +kernel⟩) rfl (pi_range1 rfl T.b_range (pa_cons pe_int pa_nil)) (fun _ _ _ _ _ => pf_nil) (fun _ _ _ _ _ => (pe_op op_add_str pe_str (pe_ix ix_str (pv 1) (pv 0) (fun _ _ => rfl))))))) pss_nil)
      (pss_cons (ps_set (i := 5) sc_law_bad_names.nd rfl (Or.inl rfl) (pe_callTy call_list_of (by rfl) T.b_list PyProof.Rows.boot_list (pa_cons (pv 0) pa_nil)))
      (pss_cons (ps_set (i := 6) sc_law_bad_names.nd rfl (Or.inl rfl) (pe_ix ix_list (pv 0) (pe_op op_mod (pv 2) (pe_callB call_len_seq (by rfl) T.b_len PySem.boot_len (pa_cons (pv 0) pa_nil))) (fun _ _ => rfl)))
      (pss_cons (ps_set (i := 7) sc_law_bad_names.nd rfl (Or.inl rfl) (pe_lst (pa_cons pe_str (pa_cons pe_str (pa_cons (pe_op op_add_str (pe_slice sl_str (pv 6) po_none (po_some (pe_un un_neg pe_int))) pe_str) (pa_cons (pe_op op_add_str (pe_slice sl_str (pv 6) (po_some pe_int) po_none) pe_str) (pa_cons (pe_ix ix_list (pv 0) (pe_op op_mod (pe_op op_fdiv (pv 3) pe_int) (pe_callB call_len_seq (by rfl) T.b_len PySem.boot_len (pa_cons (pv 0) pa_nil))) (fun _ _ => rfl)) pa_nil)))))))
      (pss_cons (ps_asg (pe_ix ix_list (pv 7) (pe_op op_mod (pv 3) pe_int) (fun _ _ => rfl)) (pg_sub (pv 5) (pe_op op_mod (pv 2) (pe_callB call_len_seq (by rfl) T.b_len PySem.boot_len (pa_cons (pv 0) pa_nil))) set_list))
      (pss_one (ps_ret (pv 5)))))))))), ?_⟩
    have hln := line_ge
    have hpos : 0 < ts.length := List.length_pos_iff.mpr hne
    refine ⟨_, rfl, rfl, _, rfl, iteD (fun _ => ?_) (fun _ => ?_)⟩
    · exact ⟨(by show 0 ≤ sizeLine; decide), fun l hl' => q l _ [] (Same.new hl') hl' upd_same (by simp) (fun z hz => by cases hz)⟩
    refine ⟨_, rfl, rfl, _, rfl, iteD (fun _ => ?_) (fun _ => ?_)⟩
    · refine ⟨_, rfl, by decide, by decide, ?_⟩
      refine comp_range0 (fun i ys H2 => H2 = H ∧ ∃ us : List Str, ys = us.map V.str ∧ us.length = i ∧ ∀ z ∈ us, nice z) ⟨rfl, [], rfl, rfl, (fun z hz => by cases hz)⟩ ?_ (by show 16 ≤ sizeLine; decide) ?_ ?_
      · rintro i ys H2 hi ⟨rfl, us, rfl, rfl, _⟩
        rw [List.length_map]
        exact Nat.le_refl _
      · rintro i ys H2 hi ⟨rfl, us, rfl, rfl, hu⟩
        have hi : us.length < 16 := hi
        refine ⟨_, rfl, _, rfl, abcP, _, _, rfl, rfl, (by decide +kernel), abcP_at (by omega) (by omega), _, _, rfl, rfl, (by show (Str.ofString "n").length + 1 ≤ sizeLine; decide +kernel), rfl, us ++ [_], by rw [List.map_append]; rfl, by rw [List.length_append]; rfl, fun z hz => ?_⟩
        rcases List.mem_append.mp hz with w | w
        · exact hu z w
        · rw [List.mem_singleton.mp w]
          have := abcP_nice ⟨us.length, hi⟩
          rw [show (0 + (us.length : Int)).toNat = us.length by omega]
          exact this
      · rintro ys H2 ⟨rfl, us, rfl, hul, hu⟩ l hl'
        exact q l _ us (Same.new hl') hl' upd_same (by rw [hul]; decide) hu
    refine ⟨_, rfl, a, _, rfl, .inl hA, fun l1 hl1 => ?_⟩
    have s1 := Same.new (o := .lst (ts.map V.str)) hl1
    have e1 : upd H l1 (.lst (ts.map V.str)) l1 = some (.lst (ts.map V.str)) := upd_same
    generalize hH1 : upd H l1 _ = H1 at s1 e1 ⊢
    have q0 := Int.emod_nonneg (c / 5) (b := (ts.length : Int)) (by omega)
    have q1 := Int.emod_lt_of_pos (c / 5) (b := (ts.length : Int)) (by omega)
    have p0 := Int.emod_nonneg sp (b := (ts.length : Int)) (by omega)
    have p1 := Int.emod_lt_of_pos sp (b := (ts.length : Int)) (by omega)
    have x0 : 0 ≤ c % 5 := Int.emod_nonneg _ (by decide)
    have x1 : c % 5 < 5 := Int.emod_lt_of_pos _ (by decide)
    refine ⟨_, rfl, _, rfl, _, rfl, a, _, rfl, .inl (s1.seq hA), ?_⟩
    rw [List.length_map]
    refine ⟨_, _, rfl, rfl, (by show (0 : Int) < ts.length; omega), a, _, _, _, rfl, rfl, s1.seq hA, atI_strs p0 (by omega), ?_⟩
    have hg0 := hg _ (getD_inS (ts := ts) (i := (sp % (ts.length : Int)).toNat) (by omega))
    generalize ts.getD (sp % (ts.length : Int)).toNat "" = nm at hg0
    have hg1 := hg _ (getD_inS (ts := ts) (i := (c / 5 % (ts.length : Int)).toNat) (by omega))
    have hnl := ((M2.goodN_iff nm).mp hg0).1
    have na : nice (Txt.slice nm none (some (-1)) ++ Str.ofString "A") := by
      have e : Str.ofString "A" = ⟨#[65]⟩ := by decide +kernel
      rw [e]
      exact nice_add hg0 (.inl rfl)
    have nb : nice (Txt.slice nm (some 1) none ++ Str.ofString " ") := by
      have e : Str.ofString " " = ⟨#[32]⟩ := by decide +kernel
      rw [e]
      exact nice_add hg0 (.inr rfl)
    have la : (Str.ofString "A").length = 1 := by decide +kernel
    have lb : (Str.ofString " ").length = 1 := by decide +kernel
    have sa := Txt.slice_le nm none (some (-1))
    have sb := Txt.slice_le nm (some 1) none
    refine ⟨_, rfl, _, rfl, _, rfl, _, rfl, by omega, _, _, rfl, rfl, by omega, _, rfl, _, rfl, _, rfl, by omega, _, _, rfl, rfl, by omega, _, rfl, _, rfl, _, _, rfl, rfl, ⟨by decide, by decide⟩, _, rfl, a, _, rfl, .inl (s1.seq hA), ?_⟩
    rw [List.length_map]
    refine ⟨_, _, rfl, rfl, (by show (0 : Int) < ts.length; omega), a, _, _, _, rfl, rfl, s1.seq hA, atI_strs q0 (by omega), (by show 5 ≤ sizeLine; decide), fun l2 hl2 => ?_⟩
    generalize ts.getD (c / 5 % (ts.length : Int)).toNat "" = nm2 at hg1 ⊢
    generalize Txt.slice nm none (some (-1)) ++ Str.ofString "A" = za at na ⊢
    generalize Txt.slice nm (some 1) none ++ Str.ofString " " = zb at nb ⊢
    have n0 : nice (Str.ofString "") := ⟨by decide +kernel, fun c hc => by rw [show (Str.ofString "").cps.toList = [] by decide +kernel] at hc; cases hc⟩
    have n9 : nice (Str.ofString "abcdefghi") := ⟨by decide +kernel, by decide +kernel⟩
    obtain ⟨v, hv, ev⟩ := vals_any (xs := [V.str (Str.ofString ""), V.str (Str.ofString "abcdefghi"), V.str za, V.str zb, V.str nm2]) x0 (by show c % 5 < 5; omega)
    obtain ⟨z, rfl, hz⟩ : ∃ z, v = .str z ∧ nice z := by
      simp only [List.mem_cons, List.not_mem_nil, or_false] at hv
      rcases hv with rfl | rfl | rfl | rfl | rfl
      · exact ⟨_, rfl, n0⟩
      · exact ⟨_, rfl, n9⟩
      · exact ⟨_, rfl, na⟩
      · exact ⟨_, rfl, nb⟩
      · exact ⟨_, rfl, good_nice hg1⟩
    have s2 := s1.newT (o := .lst [V.str (Str.ofString ""), V.str (Str.ofString "abcdefghi"), V.str za, V.str zb, V.str nm2]) hl2
    have e2 := (Same.new (o := .lst [V.str (Str.ofString ""), V.str (Str.ofString "abcdefghi"), V.str za, V.str zb, V.str nm2]) hl2) _ _ e1
    refine ⟨_, rfl, _, rfl, _, _, rfl, rfl, (by show (0 : Int) < 5; decide), l2, _, _, _, rfl, rfl, SqL.new, ev, _, rfl, _, rfl, _, rfl, a, _, rfl, .inl (s2.seq hA), ?_⟩
    rw [List.length_map]
    refine ⟨_, _, rfl, rfl, (by show (0 : Int) < ts.length; omega), l1, _, _, (sp % (ts.length : Int)).toNat, rfl, rfl, e2, ixN_ok p0 (by rw [List.length_map]; omega), ?_⟩
    refine ⟨_, rfl, q l1 _ (ts.set (sp % (ts.length : Int)).toNat z) (fun b o e => ?_) hl1 (by rw [upd_same, List.map_set]) (by rw [List.length_set]; omega) (fun w hw => ?_)⟩
    · rw [upd_ne (ne_of_none e hl1)]
      exact s2 _ _ e
    · rcases List.mem_or_eq_of_mem_set hw with hw | rfl
      · exact good_nice (hg w hw)
      · exact hz
end
end Pp

namespace Pp
open PySem L2
noncomputable def sp_Sheet_seal (K : PySem.W.Frag) : Sp := fun vs H Q E => ∃ (p : Addr) (F : Addr → Prop) (S : Sh), vs = [.ref p] ∧ SheetAt K H p F S ∧ (S.shut = true → ∀ C, ClsN K "SheetSealed" C → E (.ref C) none H) ∧
  (S.shut = false → ∀ H', SheetAt K H' p F S.close → Deed F H F H' → Q .non H')
section
variable {P : Program} {w : World} {K : PySem.W.Frag} {mg : Str → Option Value} {base : Heap}
theorem ok_Sheet_seal {f : Addr} {fd : FuncData} (F : Fun K "seal" "Sheet.seal" s_Sheet_seal f fd) (T : Txt K mg) (C_Sheet_refuse_if_sealed : CanMX P w K mg base 1 (clsA K "Sheet") "refuse_if_sealed" ["self"] (sp_Sheet_refuse_if_sealed K)) : FnOk P w K mg base (CX1 P w) 2 f fd ["self"] (sp_Sheet_seal K) := by
  refine F.okX sc_Sheet_seal (fun vs H Q E h => ?_) (fun X W cdv A outer s H vs Q E hX hW fl md hr h => ?_)
  · obtain ⟨p, F, S, rfl, _⟩ := h
    rfl
  · obtain ⟨p, F, S, rfl, ⟨dx, a1, a2, a3, d, kvs, h⟩, qE, q⟩ := h
    subst hX
    refine ⟨_, (pss_cons (ps_expr (pe_ownMX0 C_Sheet_refuse_if_sealed T.cl_Sheet fl (hr.mono (by decide)) (pv 0)))
      (pss_one (ps_fld (pv 0) pe_bl rfl))), ?_⟩
    refine ⟨_, rfl, p, dx, _, rfl, h.ip, rfl, p, F, S, rfl, ⟨dx, a1, a2, a3, d, kvs, h⟩, fun hs C hC => by rw [hW]; exact qE hs C hC, fun hs => ?_⟩
    refine ⟨_, rfl, p, _, dx, _, rfl, h.ip, T.cl_Sheet, T.n_Sheet_sealed, (by show 6 < 1000; decide), ?_⟩
    rw [show V.bl true = V.bl S.close.shut from rfl, pf_sealed a1 a2 a3 d S S.close rfl]
    have up : ∀ b o, H b = some o → b ≠ p → upd H p (.ins (clsA K "Sheet") dx (shF a1 a2 a3 d S.close)) b = some o := fun b o e n => by rw [upd_ne n]; exact e
    have n1 : a1 ≠ p := ne_of h.i1 h.ip (by intro z; cases z)
    have n2 : a2 ≠ p := ne_of h.i2 h.ip (by intro z; cases z)
    have n3 : a3 ≠ p := ne_of h.i3 h.ip (by intro z; cases z)
    have n4 : d ≠ p := ne_of h.i4 h.ip (by intro z; cases z)
    refine q hs _ ⟨dx, a1, a2, a3, d, kvs, ⟨⟨upd_same, up _ _ h.i1 n1, up _ _ h.i2 n2, up _ _ h.i3 n3, up _ _ h.i4 n4, h.kl, h.cn, fun j c hc => ?_, h.fp, h.f1, h.f2, h.f3, h.f4, h.n12, h.n32, fun b hb => ?_⟩, h.ok.close⟩⟩ fun b o e n => ⟨up b o e fun z => n (z ▸ h.fp), n⟩
    · obtain ⟨l, x1, x2, x3, x4⟩ := h.cs j c hc
      exact ⟨l, x1, up _ _ x2 (ne_of x2 h.ip (by intro z; cases z)), x3, x4⟩
    · by_cases hbp : b = p
      · rw [hbp, upd_same]; exact fun z => nomatch z
      · rw [upd_ne hbp]; exact h.fh b hb
end
end Pp

namespace Pp
open PySem L2
noncomputable def sp_Sheet_card_of (K : PySem.W.Frag) : Sp := fun vs H Q E => ∃ (p : Addr) (F : Addr → Prop) (S : Sh) (j : Str), vs = [.ref p, .str j] ∧ SheetAt K H p F S ∧ (j ∉ S.panel → ∀ C, ClsN K "UnknownJudge" C → E (.ref C) none H) ∧ (j ∈ S.panel → S.card j = none → ∀ C, ClsN K "NoCard" C → E (.ref C) none H) ∧
  (∀ c, S.card j = some c → ∀ (l : Addr) (H' : Hp), Same H H' → H l = none → H' l = some (.lst (c.map V.int)) → Q (.ref l) H')
section
variable {P : Program} {w : World} {K : PySem.W.Frag} {mg : Str → Option Value} {base : Heap}
theorem ok_Sheet_card_of {f : Addr} {fd : FuncData} (F : Fun K "card_of" "Sheet.card_of" s_Sheet_card_of f fd) (T : Txt K mg) (C_Sheet_refuse_unknown_judge : CanMX P w K mg base 1 (clsA K "Sheet") "refuse_unknown_judge" ["self", "judge"] (sp_Sheet_refuse_unknown_judge K)) : FnOk P w K mg base (CX1 P w) 2 f fd ["self", "judge"] (sp_Sheet_card_of K) := by
  obtain ⟨c_NoCard, n_NoCard, m_NoCard, x_NoCard⟩ := T.x_NoCard
  refine F.okX sc_Sheet_card_of (fun vs H Q E h => ?_) (fun X W cdv A outer s H vs Q E hX hW fl md hr h => ?_)
  · obtain ⟨p, F, S, j, rfl, _⟩ := h
    rfl
  · obtain ⟨p, F, S, j, rfl, ⟨dx, a1, a2, a3, d, kvs, h⟩, qU, qN, q⟩ := h
    subst hX
    refine ⟨_, (pss_cons (ps_expr (pe_ownMX C_Sheet_refuse_unknown_judge T.cl_Sheet fl (hr.mono (by decide)) (pv 0) (pa_cons (pv 1) pa_nil)))
      (pss_cons (ps_if (pt_cmp (pc_dnotin (hu_of hr) (pv 1) (pe_fld (pv 0) rfl))) (pss_one (ps_raise rfl md rfl m_NoCard x_NoCard (pa_cons pe_str pa_nil))) pss_nil)
      (pss_one (ps_ret (pe_callTy call_list_of (by rfl) T.b_list PyProof.Rows.boot_list (pa_cons (pe_dget (hu_of hr) (pe_fld (pv 0) rfl) (pv 1) (fun _ _ => rfl)) pa_nil)))))), ?_⟩
    refine ⟨_, rfl, p, dx, _, rfl, h.ip, rfl, _, rfl, p, F, S, j, rfl, ⟨dx, a1, a2, a3, d, kvs, h⟩, fun hj C hC => by rw [hW]; exact qU hj C hC, fun hj => ?_⟩
    refine ⟨_, rfl, _, rfl, p, _, dx, _, _, rfl, h.ip, T.cl_Sheet, T.n_Sheet_card_by_judge, rfl, d, _, rfl, DGet.k (k := Sum.inr j) h.i4, _, rfl, ?_⟩
    cases e : S.card j with
    | none =>
      rw [h.cn _ e]
      exact ⟨(by show 1 ≤ sizeLine; decide), by rw [hW]; exact qN hj e _ n_NoCard⟩
    | some c =>
      obtain ⟨l, e1, e2, _⟩ := h.cs _ _ e
      rw [e1]
      refine ⟨_, rfl, p, _, dx, _, _, rfl, h.ip, T.cl_Sheet, T.n_Sheet_card_by_judge, rfl, _, rfl, d, .ref l, rfl, e1 ▸ DGet.k (k := Sum.inr j) h.i4, l, _, rfl, .inl (SqL.of e2), fun l' hl' => ?_⟩
      exact q c e l' _ (Same.new hl') hl' upd_same
end
end Pp

namespace Pp
open PySem L2
noncomputable def sp_good_couples (K : PySem.W.Frag) : Sp := fun vs H Q _ => ∃ (a : Addr) (ns : List Int), vs = [.ref a] ∧ SqL K H a (ns.map V.int) ∧ ns.length < 4000 ∧ ∀ H', Same H H' → Q (.bl (M1.goodC ns)) H'
section
variable {P : Program} {w : World} {K : PySem.W.Frag} {mg : Str → Option Value} {base : Heap}
theorem ok_good_couples {f : Addr} {fd : FuncData} (F : Fun K "good_couples" "good_couples" s_good_couples f fd) (T : Txt K mg) (C_good_number : Can P w K mg base 1 "good_number" ["couple"] (sp_good_number K)) (C_good_length : Can P w K mg base 1 "good_length" ["things", "most"] (sp_good_length K)) (C_all_unlike : Can P w K mg base 1 "all_unlike" ["things"] (sp_all_unlike K)) : FnOk P w K mg base CX0 2 f fd ["couples"] (sp_good_couples K) := by
  refine F.ok sc_good_couples (fun vs H Q E h => ?_) (fun cdv A outer s H vs Q E hr h => ?_)
  · obtain ⟨a, ns, rfl, _⟩ := h
    rfl
  · obtain ⟨a, ns, rfl, hS, hz, q⟩ := h
    refine ⟨_, (pss_one (ps_ret (pe_and (pe_own C_good_length (hr.mono (by decide)) rfl (pa_cons (pv 0) (pa_cons (pe_const T.c_MOST_COUPLES rfl) pa_nil))) (pe_and (pe_own C_all_unlike (hr.mono (by decide)) rfl (pa_cons (pv 0) pa_nil)) (pe_one (pe_callB (call_all rfl) (by rfl) T.b_all PyProof.Rows.boot_all (pa_cons (pe_comp (show CompScope (defScope s_good_couples) ["couples"] "couple" [] [] _ from ⟨rfl, by decide +kernel, by decide +kernel, rfl, by decide +kernel, rfl, by decide +kernel, by decide +kernel⟩) rfl (pi_list (pv 0)) (fun _ _ _ _ _ => pf_nil) (fun _ _ _ _ _ => (pe_own C_good_number (hr.mono (by decide)) rfl (pa_cons (pv 0) pa_nil)))) pa_nil))))))), ?_⟩
    refine ⟨_, rfl, _, _, _, rfl, .inl ⟨_, hS, rfl⟩, _, rfl, ?_⟩
    rw [List.length_map]
    unfold M1.goodC at q
    refine iteB (fun h1 => ?_) (fun h1 => ?_)
    · rw [h1, Bool.true_and] at q
      refine ⟨_, rfl, a, rfl, .inl ⟨ns, hS, hz, fun H1 s1 => ⟨_, rfl, iteD (fun h2 => ?_) (fun h2 => ?_)⟩⟩⟩
      · rw [decide_eq_true h2, Bool.true_and] at q
        have hS1 := s1.seq hS
        refine ⟨_, rfl, a, rfl, ⟨_, hS1⟩, ?_⟩
        refine comp_list0 (xs := ns.map V.int) (fun i ys H2 => H2 = H1 ∧ ys = ((ns.take i).map fun n => decide (1 ≤ n) && decide (n ≤ 999)).map V.bl) ⟨rfl, rfl⟩ ?_ (by rw [List.length_map]; have := line_ge; omega) ?_ ?_
        · rintro i ys H2 hi ⟨rfl, rfl⟩
          exact ⟨hS1, by simp only [List.length_map, List.length_take]; omega⟩
        · rintro i x ys H2 hx ⟨rfl, rfl⟩
          obtain ⟨hi, rfl⟩ := ints_get hx
          refine ⟨_, rfl, _, rfl, rfl, ?_⟩
          rw [take_next hi, List.map_append, List.map_append]
          rfl
        · rintro ys H2 ⟨rfl, rfl⟩ l hl
          rw [List.length_map, List.take_length]
          exact ⟨l, _, rfl, SqL.new, q _ (s1.newT hl)⟩
      · rw [decide_eq_false h2, Bool.false_and] at q
        exact q _ s1
    · rw [h1, Bool.false_and] at q
      exact q _ (Same.refl _)
end
end Pp

namespace Pp
open PySem L2
noncomputable def sp_good_name (K : PySem.W.Frag) : Sp := fun vs H Q _ => ∃ (z : Str), vs = [.str z] ∧ z.length ≤ 1000 ∧ ∀ H', Same H H' → Q (.bl (M2.goodN z)) H'
section
variable {P : Program} {w : World} {K : PySem.W.Frag} {mg : Str → Option Value} {base : Heap}
theorem ok_good_name {f : Addr} {fd : FuncData} (F : Fun K "good_name" "good_name" s_good_name f fd) (T : Txt K mg) (C_small_letter : Can P w K mg base 1 "small_letter" ["sign"] (sp_small_letter K)) (C_good_length : Can P w K mg base 1 "good_length" ["things", "most"] (sp_good_length K)) : FnOk P w K mg base CX0 2 f fd ["judge"] (sp_good_name K) := by
  refine F.ok sc_good_name (fun vs H Q E h => ?_) (fun cdv A outer s H vs Q E hr h => ?_)
  · obtain ⟨z, rfl, _⟩ := h
    rfl
  · obtain ⟨z, rfl, hz, q⟩ := h
    refine ⟨_, (pss_one (ps_ret (pe_and (pe_own C_good_length (hr.mono (by decide)) rfl (pa_cons (pv 0) (pa_cons (pe_const T.c_MOST_SIGNS rfl) pa_nil))) (pe_one (pe_callB (call_all rfl) (by rfl) T.b_all PyProof.Rows.boot_all (pa_cons (pe_comp (show CompScope (defScope s_good_name) ["judge"] "sign" [] [] _ from ⟨rfl, by decide +kernel, by decide +kernel, rfl, by decide +kernel, rfl, by decide +kernel, by decide +kernel⟩) rfl (pi_str (pv 0)) (fun _ _ _ _ _ => pf_nil) (fun _ _ _ _ _ => (pe_own C_small_letter (hr.mono (by decide)) rfl (pa_cons (pv 0) pa_nil)))) pa_nil)))))), ?_⟩
    have hl := line_ge
    refine ⟨_, rfl, _, _, _, rfl, ⟨by omega, rfl⟩, _, rfl, ?_⟩
    unfold M2.goodN at q
    refine iteB (fun h1 => ?_) (fun h1 => ?_)
    · rw [h1, Bool.true_and] at q
      refine ⟨_, rfl, z, rfl, ?_⟩
      refine comp_str0 (fun i ys H2 => H2 = H ∧ ys = ((z.cps.toList.take i).map small).map V.bl) ⟨rfl, rfl⟩ ?_ (by omega) ?_ ?_
      · rintro i ys H2 hi ⟨rfl, rfl⟩
        simp only [List.length_map, List.length_take]
        omega
      · rintro i d ys H2 hx ⟨rfl, rfl⟩
        refine ⟨_, rfl, d, rfl, rfl, ?_⟩
        rw [List.take_succ, hx, List.map_append, List.map_append]
        rfl
      · rintro ys H2 ⟨rfl, rfl⟩ l hl
        have e : z.cps.toList.take z.length = z.cps.toList := List.take_of_length_le (by show z.cps.toList.length ≤ z.cps.size; rw [Array.length_toList]; exact Nat.le_refl _)
        rw [e]
        exact ⟨l, _, rfl, SqL.new, q _ (Same.new hl)⟩
    · rw [h1, Bool.false_and] at q
      exact q _ (Same.refl _)
end
end Pp

namespace Pp
open PySem L2
noncomputable def sp_couple_word (K : PySem.W.Frag) : Sp := fun vs H Q _ => ∃ (z : Str), vs = [.str z] ∧ M20.Num z ∧ ∀ H', Same H H' → Q (.bl true) H'
section
variable {P : Program} {w : World} {K : PySem.W.Frag} {mg : Str → Option Value} {base : Heap}
theorem ok_couple_word {f : Addr} {fd : FuncData} (F : Fun K "couple_word" "couple_word" s_couple_word f fd) (T : Txt K mg) (C_figure : Can P w K mg base 1 "figure" ["sign"] (sp_figure K)) : FnOk P w K mg base CX0 2 f fd ["word"] (sp_couple_word K) := by
  refine F.ok sc_couple_word (fun vs H Q E h => ?_) (fun cdv A outer s H vs Q E hr h => ?_)
  · obtain ⟨z, rfl, _⟩ := h
    rfl
  · obtain ⟨z, rfl, hz, q⟩ := h
    refine ⟨_, (pss_one (ps_ret (pe_and (pe_cmpR op_le (pe_callB call_len_str (by rfl) T.b_len PySem.boot_len (pa_cons (pv 0) pa_nil)) (pe_const T.c_MOST_FIGURES rfl) (nomark _)) (pe_and (pe_cmpR op_ne (pe_ix ix_str (pv 0) pe_int (fun _ _ => rfl)) pe_str (nomark _)) (pe_one (pe_callB (call_all rfl) (by rfl) T.b_all PyProof.Rows.boot_all (pa_cons (pe_comp (show CompScope (defScope s_couple_word) ["word"] "sign" [] [] _ from ⟨rfl, by decide +kernel, by decide +kernel, rfl, by decide +kernel, rfl, by decide +kernel, by decide +kernel⟩) rfl (pi_str (pv 0)) (fun _ _ _ _ _ => pf_nil) (fun _ _ _ _ _ => (pe_own C_figure (hr.mono (by decide)) rfl (pa_cons (pv 0) pa_nil)))) pa_nil))))))), ?_⟩
    have hl := line_ge
    have hz3 := hz.len
    obtain ⟨c0, r0, e0, n0⟩ := hz.ex
    refine ⟨_, rfl, z, rfl, by omega, _, _, rfl, rfl, _, rfl, iteD (fun _ => ?_) (fun h1 => absurd (show (z.length : Int) ≤ 3 by omega) h1)⟩
    refine ⟨_, rfl, z, 0, c0, rfl, rfl, by omega, by rw [e0]; exact atI_nat (j := 0) rfl, rfl, _, rfl, ?_⟩
    refine iteND (fun _ => ?_) (fun h1 => ?_)
    · refine ⟨_, rfl, z, rfl, ?_⟩
      refine comp_str0 (fun i ys H2 => H2 = H ∧ ys = ((z.cps.toList.take i).map M20.fig).map V.bl) ⟨rfl, rfl⟩ ?_ (by omega) ?_ ?_
      · rintro i ys H2 hi ⟨rfl, rfl⟩
        simp only [List.length_map, List.length_take]
        omega
      · rintro i d ys H2 hx ⟨rfl, rfl⟩
        refine ⟨_, rfl, d, rfl, rfl, ?_⟩
        rw [List.take_succ, hx, List.map_append, List.map_append]
        rfl
      · rintro ys H2 ⟨rfl, rfl⟩ l hl
        have e : z.cps.toList.take z.length = z.cps.toList := List.take_of_length_le (by rw [M20.len_list]; exact Nat.le_refl _)
        rw [e]
        refine ⟨l, _, rfl, SqL.new, ?_⟩
        have ea : (z.cps.toList.map M20.fig).all id = true := by
          rw [List.all_eq_true]
          intro b hb
          obtain ⟨c, hc, rfl⟩ := List.mem_map.mp hb
          obtain ⟨a1, a2⟩ := hz.all c hc
          show (decide (48 ≤ c) && decide (c ≤ 57)) = true
          rw [decide_eq_true a1, decide_eq_true a2]
          rfl
        rw [ea]
        exact q _ (Same.new hl)
    · exfalso
      have e48 : (("0" : Str)) = ⟨#[48]⟩ := by decide +kernel
      rw [e48] at h1
      injection h1 with h1
      injection h1 with h1
      have := congrArg (fun a : Array Nat => a.toList) h1
      simp at this
      exact n0 this
end
end Pp

namespace Pp
open PySem L2
noncomputable def sp_only_told (K : PySem.W.Frag) : Sp := fun vs H Q _ => ∃ (p : Addr) (F : Addr → Prop) (S : Sh) (j l : V), vs = [.ref p, .str (Str.ofString "couples"), j, l] ∧ SheetAt K H p F S ∧ ∀ H', Same H H' → Q (.str (Txt.join M6.blank (S.couples.map tN))) H'
section
variable {P : Program} {w : World} {K : PySem.W.Frag} {mg : Str → Option Value} {base : Heap}
theorem ok_only_told {f : Addr} {fd : FuncData} (F : Fun K "only_told" "only_told" s_only_told f fd) (T : Txt K mg) (C_numbers_text : Can P w K mg base 1 "numbers_text" ["couples"] (sp_numbers_text K)) (C_Sheet_couples : CanM P w K mg base 1 (clsA K "Sheet") "couples" ["self"] (sp_Sheet_couples K)) : FnOk P w K mg base CX0 2 f fd ["sheet", "first", "judge", "couples"] (sp_only_told K) := by
  refine F.ok sc_only_told (fun vs H Q E h => ?_) (fun cdv A outer s H vs Q E hr h => ?_)
  · obtain ⟨p, F, S, j, l, rfl, _⟩ := h
    rfl
  · obtain ⟨p, F, S, j, l, rfl, hS, q⟩ := h
    refine ⟨_, (pss_cons (ps_if (pt_cmpR op_eq (pv 1) pe_str (nomark _)) (pss_one (ps_ret (pe_own C_numbers_text (hr.mono (by decide)) rfl (pa_cons (pe_ownM0 C_Sheet_couples T.cl_Sheet (hr.mono (by decide)) (pv 0)) pa_nil)))) pss_nil)
      (pss_cons ps_never
      (pss_cons ps_never
      (pss_cons ps_never
      (pss_cons ps_never
      (pss_cons ps_never
      (pss_cons ps_never
      (pss_one ps_never)))))))), ?_⟩
    have c24 := hS.ok.c24
    obtain ⟨dx, b1, b2, b3, d, hip⟩ := hS.ins
    refine ⟨_, rfl, rfl, _, rfl, iteY (by decide) ?_⟩
    exact ⟨_, rfl, p, dx, _, rfl, hip, rfl, p, F, S, rfl, hS, fun l1 H1 s1 f1 e1 => ⟨l1, S.couples, rfl, SqL.of e1, by omega, hS.ok.rng, fun H2 s2 => q _ (s1.trans s2)⟩⟩
end
end Pp

namespace Pp
open PySem L2
noncomputable def sp_law_same (K : PySem.W.Frag) : Sp := fun vs H Q _ => ∃ (a b : Addr) (ns ms : List Int), vs = [.ref a, .ref b] ∧ SqL K H a (ns.map V.int) ∧ SqL K H b (ms.map V.int) ∧ ms.length ≤ 1000000 ∧ Q (.bl (decide (ns = ms))) H
theorem same_all {ns ms : List Int} (hl : ns.length = ms.length) (h : ∀ j, j < ms.length → ns.getD j 0 = ms.getD j 0) : ns = ms := by
  refine List.ext_getElem hl fun j h1 h2 => ?_
  have := h j h2
  rwa [List.getD_eq_getElem?_getD, List.getD_eq_getElem?_getD, List.getElem?_eq_getElem h1, List.getElem?_eq_getElem h2] at this
section
variable {P : Program} {w : World} {K : PySem.W.Frag} {mg : Str → Option Value} {base : Heap}
theorem ok_law_same {f : Addr} {fd : FuncData} (F : Fun K "_law_same" "_law_same" s_law_same f fd) (T : Txt K mg) (C_law_whole : Can P w K mg base 1 "_law_whole" ["_law_found"] (sp_law_whole K)) : FnOk P w K mg base CX0 2 f fd ["_law_found", "_law_due"] (sp_law_same K) := by
  refine F.ok sc_law_same (fun vs H Q E h => ?_) (fun cdv A outer s H vs Q E hr h => ?_)
  · obtain ⟨a, b, ns, ms, rfl, _⟩ := h
    rfl
  · obtain ⟨a, b, ns, ms, rfl, hA, hB, hz, q⟩ := h
    refine ⟨_, (pss_cons (ps_if (PW.pt (pw_or (pt_not (pt_val (pe_callB call_isi_list (by rfl) T.b_isinstance PyProof.Rows.boot_isinstance (pa_cons (pv 0) (pa_cons (pe_bltn (v := V.ty "list") rfl T.b_list PyProof.Rows.boot_list rfl) pa_nil))))) (pw_or1 (pt_cmpR op_ne (pe_callB call_len_seq (by rfl) T.b_len PySem.boot_len (pa_cons (pv 0) pa_nil)) (pe_callB call_len_seq (by rfl) T.b_len PySem.boot_len (pa_cons (pv 1) pa_nil)) (nomark _))))) (pss_one (ps_ret pe_bl)) pss_nil)
      (pss_cons (ps_for PassesOwn.never rfl (pi_range1 rfl T.b_range (pa_cons (pe_callB call_len_seq (by rfl) T.b_len PySem.boot_len (pa_cons (pv 1) pa_nil)) pa_nil)) (pg_name (i := 2) sc_law_same.nd rfl (Or.inl rfl))
        (pss_one (ps_if (PW.pt (pw_or (pt_not (pt_val (pe_own C_law_whole (hr.mono (by decide)) rfl (pa_cons (pe_ix ix_list (pv 0) (pv 2) (fun _ _ => rfl)) pa_nil)))) (pw_or1 (pt_cmpR op_ne (pe_ix ix_list (pv 0) (pv 2) (fun _ _ => rfl)) (pe_ix ix_list (pv 1) (pv 2) (fun _ _ => rfl)) (nomark _))))) (pss_one (ps_ret pe_bl)) pss_nil)))
      (pss_one (ps_ret pe_bl)))), ?_⟩
    refine ⟨_, rfl, _, _, rfl, .yes hA, _, rfl, iteF ?_⟩
    refine ⟨_, rfl, a, _, rfl, .inl hA, _, rfl, b, _, rfl, .inl hB, rfl, _, rfl, ?_⟩
    rw [List.length_map, List.length_map]
    refine iteND (fun hne => ?_) (fun he => ?_)
    · show Q (.bl false) H
      have : ns ≠ ms := fun e => hne (by rw [e])
      rw [decide_eq_false this] at q
      exact q
    · have hl : ns.length = ms.length := by injection he with he; exact Int.ofNat.inj he
      refine ⟨_, rfl, b, _, rfl, .inl hB, _, rfl, by omega, by rw [List.length_map]; omega, ?_⟩
      rw [List.length_map]
      refine for_range (fun i σ H2 => ∃ v, σ = [some (.ref a), some (.ref b), v] ∧ H2 = H ∧ ∀ j, j < i → ns.getD j 0 = ms.getD j 0) ⟨_, rfl, rfl, fun j hj => by omega⟩ ?_ ?_
      · rintro i σ H2 hi ⟨v, rfl, rfl, hj⟩
        have hi' : i < ms.length := by simpa using hi
        have e1 : atI (ns.map V.int) (0 + (i : Int)) = some (.int (ns.getD i 0)) := by rw [Int.zero_add]; exact atI_nat (ints_at (by omega))
        have e2 : atI (ms.map V.int) (0 + (i : Int)) = some (.int (ms.getD i 0)) := by rw [Int.zero_add]; exact atI_nat (ints_at hi')
        refine ⟨_, rfl, _, rfl, a, _, _, _, rfl, rfl, hA, e1, _, true, false, rfl, rfl, rfl, _, rfl, iteF ?_⟩
        refine ⟨_, rfl, _, rfl, a, _, _, _, rfl, rfl, hA, e1, _, rfl, _, rfl, b, _, _, _, rfl, rfl, hB, e2, rfl, _, rfl, iteND (fun hne => ?_) (fun he => ?_)⟩
        · show Q (.bl false) _
          have : ns ≠ ms := fun e => hne (by rw [e])
          rw [decide_eq_false this] at q
          exact q
        · refine ⟨_, rfl, rfl, fun j hj' => ?_⟩
          by_cases hji : j = i
          · subst hji; injection he
          · exact hj j (by omega)
      · rintro σ H2 ⟨v, rfl, rfl, hj⟩
        show Q (.bl true) _
        have : ns = ms := same_all hl fun j h => hj j (by simpa using h)
        rw [decide_eq_true this] at q
        exact q
end
end Pp

namespace Pp
open PySem L2
noncomputable def sp_Sheet_cards (K : PySem.W.Frag) : Sp := fun vs H Q _ => ∃ (p : Addr) (F : Addr → Prop) (S : Sh), vs = [.ref p] ∧ SheetAt K H p F S ∧ ∀ (l : Addr) (H' : Hp) (ks : List Addr), Same H H' → H l = none → H' l = some (.lst (ks.map V.ref)) → All2 (fun k c => H k = none ∧ H' k = some (.lst (c.map V.int))) ks S.cardsIn → Q (.ref l) H'
section
variable {P : Program} {w : World} {K : PySem.W.Frag} {mg : Str → Option Value} {base : Heap}
theorem ok_Sheet_cards {f : Addr} {fd : FuncData} (F : Fun K "cards" "Sheet.cards" s_Sheet_cards f fd) (T : Txt K mg) (C_Sheet_handed : CanM P w K mg base 1 (clsA K "Sheet") "handed" ["self"] (sp_Sheet_handed K)) (C_Sheet_card_of : CanMX P w K mg base 2 (clsA K "Sheet") "card_of" ["self", "judge"] (sp_Sheet_card_of K)) : FnOk P w K mg base CX0 3 f fd ["self"] (sp_Sheet_cards K) := by
  refine F.ok sc_Sheet_cards (fun vs H Q E h => ?_) (fun cdv A outer s H vs Q E hr h => ?_)
  · obtain ⟨p, F, S, rfl, _⟩ := h
    rfl
  · obtain ⟨p, F, S, rfl, hSh, q⟩ := h
    refine ⟨_, (pss_one (ps_ret (pe_comp (show CompScope (defScope s_Sheet_cards) ["self"] "judge" ["self"] [0] _ from ⟨rfl, by decide +kernel, by decide +kernel, rfl, by decide +kernel, rfl, by decide +kernel, by decide +kernel⟩) rfl (pi_list (pe_ownM0 C_Sheet_handed T.cl_Sheet (hr.mono (by decide)) (pv 0))) (fun _ _ _ _ _ => pf_nil) (fun _ _ _ _ _ => (pe_ownMX C_Sheet_card_of T.cl_Sheet fl_no (hr.mono (by decide)) (pv 1) (pa_cons (pv 0) pa_nil)))))), ?_⟩
    have hln := line_ge
    have h15 := hSh.ok.p15
    have hip : ∃ dx fs, H p = some (.ins (clsA K "Sheet") dx fs) ∧ fs.lookup ("handed" : Str) = none ∧ fs.lookup ("card_of" : Str) = none := by
      obtain ⟨dx, a1, a2, a3, d, kvs, h⟩ := hSh
      exact ⟨dx, _, h.ip, rfl, rfl⟩
    obtain ⟨dx, fs, hip, fs1, fs2⟩ := hip
    refine ⟨_, rfl, p, dx, _, rfl, hip, fs1, p, F, S, rfl, hSh.shape, h15, fun a H1 s1 f1 e1 => ?_⟩
    have hl2 : S.handed.length ≤ 15 := Nat.le_trans (List.length_filter_le _ _) h15
    refine ⟨a, rfl, ⟨_, SqL.of e1⟩, ?_⟩
    refine comp_list0 (xs := S.handed.map V.str) (fun i ys H2 => ∃ ks : List Addr, ys = ks.map V.ref ∧ Same H1 H2 ∧ All2 (fun k c => H k = none ∧ H2 k = some (.lst (c.map V.int))) ks ((S.handed.take i).map fun j => (S.card j).getD [])) ⟨[], rfl, Same.refl _, .nil⟩ ?_ (by rw [List.length_map]; omega) ?_ ?_
    · rintro i ys H2 hi ⟨ks, rfl, s2, r2⟩
      refine ⟨s2.seq (SqL.of e1), ?_⟩
      have := r2.length
      rw [List.length_map, List.length_take] at this
      rw [List.length_map]
      omega
    · rintro i x ys H2 hx ⟨ks, rfl, s2, r2⟩
      obtain ⟨hi, rfl⟩ := strs_get hx
      have hm := List.mem_filter.mp (show S.handed.getD i "" ∈ S.panel.filter fun j => (S.card j).isSome from getD_inS hi)
      have s12 := s1.trans s2
      cases e : S.card (S.handed.getD i "") with
      | none => rw [e] at hm; exact absurd hm.2 Bool.false_ne_true
      | some c =>
        refine ⟨_, rfl, p, dx, _, rfl, s12 _ _ hip, fs2, _, rfl, p, F, S, _, rfl, hSh.same s12, fun hj => absurd hm.1 hj, (fun _ z => by rw [e] at z; cases z), fun c' e' l H3 s3 f3 e3 => ?_⟩
        rw [e] at e'
        cases e'
        refine ⟨ks ++ [l], by rw [List.map_append]; rfl, s2.trans s3, ?_⟩
        rw [take_nextS hi, List.map_append]
        refine (r2.imp fun _ _ z => ⟨z.1, s3 _ _ z.2⟩).snoc ⟨s12.free f3, ?_⟩
        dsimp only
        rw [e]
        exact e3
    · rintro ys H2 ⟨ks, rfl, s2, r2⟩ l hl
      rw [List.length_map, List.take_length] at r2
      exact q l _ ks ((s1.trans s2).newT hl) ((s1.trans s2).free hl) upd_same (r2.imp fun _ _ z => ⟨z.1, Same.new hl _ _ z.2⟩)
end
end Pp

namespace Pp
open PySem L2
noncomputable def sp_good_judges (K : PySem.W.Frag) : Sp := fun vs H Q _ => ∃ (a : Addr) (ts : List Str), vs = [.ref a] ∧ SqL K H a (ts.map V.str) ∧ ts.length < 4000 ∧ (∀ z ∈ ts, z.length ≤ 1000) ∧ ∀ H', Same H H' → Q (.bl (M2.goodJ ts)) H'
section
variable {P : Program} {w : World} {K : PySem.W.Frag} {mg : Str → Option Value} {base : Heap}
theorem ok_good_judges {f : Addr} {fd : FuncData} (F : Fun K "good_judges" "good_judges" s_good_judges f fd) (T : Txt K mg) (C_good_name : Can P w K mg base 2 "good_name" ["judge"] (sp_good_name K)) (C_good_length : Can P w K mg base 1 "good_length" ["things", "most"] (sp_good_length K)) (C_all_unlike : Can P w K mg base 1 "all_unlike" ["things"] (sp_all_unlike K)) : FnOk P w K mg base CX0 3 f fd ["judges"] (sp_good_judges K) := by
  refine F.ok sc_good_judges (fun vs H Q E h => ?_) (fun cdv A outer s H vs Q E hr h => ?_)
  · obtain ⟨a, ts, rfl, _⟩ := h
    rfl
  · obtain ⟨a, ts, rfl, hS, hz, ht, q⟩ := h
    refine ⟨_, (pss_one (ps_ret (pe_and (pe_own C_good_length (hr.mono (by decide)) rfl (pa_cons (pv 0) (pa_cons (pe_const T.c_MOST_JUDGES rfl) pa_nil))) (pe_and (pe_own C_all_unlike (hr.mono (by decide)) rfl (pa_cons (pv 0) pa_nil)) (pe_one (pe_callB (call_all rfl) (by rfl) T.b_all PyProof.Rows.boot_all (pa_cons (pe_comp (show CompScope (defScope s_good_judges) ["judges"] "judge" [] [] _ from ⟨rfl, by decide +kernel, by decide +kernel, rfl, by decide +kernel, rfl, by decide +kernel, by decide +kernel⟩) rfl (pi_list (pv 0)) (fun _ _ _ _ _ => pf_nil) (fun _ _ _ _ _ => (pe_own C_good_name (hr.mono (by decide)) rfl (pa_cons (pv 0) pa_nil)))) pa_nil))))))), ?_⟩
    refine ⟨_, rfl, _, _, _, rfl, .inl ⟨_, hS, rfl⟩, _, rfl, ?_⟩
    rw [List.length_map]
    unfold M2.goodJ at q
    refine iteB (fun h1 => ?_) (fun h1 => ?_)
    · rw [h1, Bool.true_and] at q
      refine ⟨_, rfl, a, rfl, .inr ⟨ts, hS, hz, _, rfl, iteD (fun h2 => ?_) (fun h2 => ?_)⟩⟩
      · rw [decide_eq_true h2, Bool.true_and] at q
        refine ⟨_, rfl, a, rfl, ⟨_, hS⟩, ?_⟩
        refine comp_list0 (xs := ts.map V.str) (fun i ys H2 => Same H H2 ∧ ys = ((ts.take i).map M2.goodN).map V.bl) ⟨Same.refl _, rfl⟩ ?_ (by rw [List.length_map]; have := line_ge; omega) ?_ ?_
        · rintro i ys H2 hi ⟨s2, rfl⟩
          exact ⟨s2.seq hS, by simp only [List.length_map, List.length_take]; omega⟩
        · rintro i x ys H2 hx ⟨s2, rfl⟩
          obtain ⟨hi, rfl⟩ := strs_get hx
          refine ⟨_, rfl, _, rfl, ht _ (getD_inS hi), fun H3 s3 => ⟨s2.trans s3, ?_⟩⟩
          rw [take_nextS hi, List.map_append, List.map_append]
          rfl
        · rintro ys H2 ⟨s2, rfl⟩ l hl
          rw [List.length_map, List.take_length]
          exact ⟨l, _, rfl, SqL.new, q _ (s2.newT hl)⟩
      · rw [decide_eq_false h2, Bool.false_and] at q
        exact q _ (Same.refl _)
    · rw [h1, Bool.false_and] at q
      exact q _ (Same.refl _)
end
end Pp

namespace Pp
open PySem L2
noncomputable def sp_read_couple (K : PySem.W.Frag) : Sp := fun vs H Q _ => ∃ (n : Int), vs = [.str (M20.strN n)] ∧ (1 ≤ n ∧ n ≤ 999) ∧ ∀ H', Same H H' → Q (.int n) H'
section
variable {P : Program} {w : World} {K : PySem.W.Frag} {mg : Str → Option Value} {base : Heap}
theorem ok_read_couple {f : Addr} {fd : FuncData} (F : Fun K "read_couple" "read_couple" s_read_couple f fd) (T : Txt K mg) (C_couple_word : Can P w K mg base 2 "couple_word" ["word"] (sp_couple_word K)) : FnOk P w K mg base CX0 3 f fd ["word"] (sp_read_couple K) := by
  refine F.ok sc_read_couple (fun vs H Q E h => ?_) (fun cdv A outer s H vs Q E hr h => ?_)
  · obtain ⟨n, rfl, _⟩ := h
    rfl
  · obtain ⟨n, rfl, hn, q⟩ := h
    refine ⟨_, (pss_cons (ps_if (pt_not (pt_val (pe_own C_couple_word (hr.mono (by decide)) rfl (pa_cons (pv 0) pa_nil)))) (pss_one ps_never) pss_nil)
      (pss_one (ps_ret (pe_callTy call_int_text (by rfl) T.b_int PyProof.Rows.boot_int (pa_cons (pv 0) pa_nil))))), ?_⟩
    refine ⟨_, rfl, _, rfl, M20.strN_num hn, fun H1 s1 => ⟨_, rfl, iteF ?_⟩⟩
    exact ⟨_, rfl, _, n, rfl, M20.strN_reads hn, by have := (M20.strN_num hn).len; omega, q _ s1⟩
end
end Pp

namespace Pp
open PySem L2
noncomputable def sp_done_and_told (K : PySem.W.Frag) : Sp := fun vs H Q _ => ∃ (p : Addr) (F : Addr → Prop) (S : Sh) (f : Str) (j l : V), vs = [.ref p, .str f, j, l] ∧ SheetAt K H p F S ∧
  ((f = Str.ofString "couples" ∧ ∀ H', Same H H' → Q (.str (Txt.join M6.blank (S.couples.map tN))) H') ∨
   (f = Str.ofString "seal" ∧ S.shut = false ∧ ∀ H', SheetAt K H' p F S.close → Deed F H F H' → Q (.str (Str.ofString "sealed")) H'))
section
variable {P : Program} {w : World} {K : PySem.W.Frag} {mg : Str → Option Value} {base : Heap}
theorem ok_done_and_told {f : Addr} {fd : FuncData} (F : Fun K "done_and_told" "done_and_told" s_done_and_told f fd) (T : Txt K mg) (C_only_told : Can P w K mg base 2 "only_told" ["sheet", "first", "judge", "couples"] (sp_only_told K)) (C_Sheet_seal : CanMX P w K mg base 2 (clsA K "Sheet") "seal" ["self"] (sp_Sheet_seal K)) : FnOk P w K mg base CX0 3 f fd ["sheet", "first", "judge", "couples"] (sp_done_and_told K) := by
  refine F.ok sc_done_and_told (fun vs H Q E h => ?_) (fun cdv A outer s H vs Q E hr h => ?_)
  · obtain ⟨p, F, S, f, j, l, rfl, _⟩ := h
    rfl
  · obtain ⟨p, F, S, f, j, l, rfl, hS, h⟩ := h
    refine ⟨_, (pss_cons (ps_if (pt_cmpR op_eq (pv 1) pe_str (nomark _)) (pss_cons ps_never
      (pss_one ps_never)) pss_nil)
      (pss_cons (ps_if (pt_cmpR op_eq (pv 1) pe_str (nomark _)) (pss_cons ps_never
      (pss_one ps_never)) pss_nil)
      (pss_cons (ps_if (pt_cmpR op_eq (pv 1) pe_str (nomark _)) (pss_cons (ps_expr (pe_ownMX0 C_Sheet_seal T.cl_Sheet fl_no (hr.mono (by decide)) (pv 0)))
      (pss_one (ps_ret pe_str))) pss_nil)
      (pss_one (ps_ret (pe_own C_only_told (hr.mono (by decide)) rfl (pa_cons (pv 0) (pa_cons (pv 1) (pa_cons (pv 2) (pa_cons (pv 3) pa_nil)))))))))), ?_⟩
    obtain ⟨dx, b1, b2, b3, d, hip⟩ := hS.ins
    rcases h with ⟨rfl, q⟩ | ⟨rfl, hs, q⟩
    · refine ⟨_, rfl, rfl, _, rfl, iteNo (by decide) ?_⟩
      refine ⟨_, rfl, rfl, _, rfl, iteNo (by decide) ?_⟩
      refine ⟨_, rfl, rfl, _, rfl, iteNo (by decide) ?_⟩
      exact ⟨_, rfl, _, rfl, _, rfl, _, rfl, p, F, S, _, _, rfl, hS, q⟩
    · refine ⟨_, rfl, rfl, _, rfl, iteNo (by decide) ?_⟩
      refine ⟨_, rfl, rfl, _, rfl, iteNo (by decide) ?_⟩
      refine ⟨_, rfl, rfl, _, rfl, iteY (by decide) ?_⟩
      exact ⟨_, rfl, p, dx, _, rfl, hip, rfl, p, F, S, rfl, hS, (fun z => by rw [hs] at z; cases z), fun _ H' h' d' => q H' h' d'⟩
end
end Pp

namespace Pp
open PySem L2
noncomputable def sp_Sheet_init (K : PySem.W.Frag) : Sp := fun vs H Q E => ∃ (x dx a b : Addr) (us : List Int) (ts : List Str), vs = [.ref x, .ref a, .ref b] ∧ H x = some (.ins (clsA K "Sheet") dx []) ∧ SqL K H a (us.map V.int) ∧ us.length < 4000 ∧ SqL K H b (ts.map V.str) ∧ ts.length < 4000 ∧ (∀ z ∈ ts, z.length ≤ 1000) ∧
  (M1.goodC us = false → ∀ C H', ClsN K "BadCouples" C → Same H H' → E (.ref C) none H') ∧ (M1.goodC us = true → M2.goodJ ts = false → ∀ C H', ClsN K "BadJudges" C → Same H H' → E (.ref C) none H') ∧
  (M1.goodC us = true → M2.goodJ ts = true → ∀ H' F, SheetAt K H' x F (Sh.new us ts) → (∀ b o, H b = some o → b ≠ x → H' b = some o ∧ ¬ F b) → Q .non H')
section
variable {P : Program} {w : World} {K : PySem.W.Frag} {mg : Str → Option Value} {base : Heap}
theorem ok_Sheet_init {f : Addr} {fd : FuncData} (F : Fun K "__init__" "Sheet.__init__" s_Sheet_init f fd) (T : Txt K mg) (C_good_couples : Can P w K mg base 2 "good_couples" ["couples"] (sp_good_couples K)) (C_good_judges : Can P w K mg base 3 "good_judges" ["judges"] (sp_good_judges K)) : FnOk P w K mg base (CX1 P w) 4 f fd ["self", "couples", "judges"] (sp_Sheet_init K) := by
  obtain ⟨c_BadCouples, n_BadCouples, m_BadCouples, x_BadCouples⟩ := T.x_BadCouples
  obtain ⟨c_BadJudges, n_BadJudges, m_BadJudges, x_BadJudges⟩ := T.x_BadJudges
  refine F.okX sc_Sheet_init (fun vs H Q E h => ?_) (fun X W cdv A outer s H vs Q E hX hW fl md hr h => ?_)
  · obtain ⟨x, dx, a, b, us, ts, rfl, _⟩ := h
    rfl
  · obtain ⟨x, dx, a, b, us, ts, rfl, hx, hA, hzA, hB, hzB, hzz, qC, qJ, q⟩ := h
    subst hX
    refine ⟨_, (pss_cons (ps_if (pt_not (pt_val (pe_own C_good_couples (hr.mono (by decide)) rfl (pa_cons (pv 1) pa_nil)))) (pss_one (ps_raise rfl md rfl m_BadCouples x_BadCouples (pa_cons pe_str pa_nil))) pss_nil)
      (pss_cons (ps_if (pt_not (pt_val (pe_own C_good_judges (hr.mono (by decide)) rfl (pa_cons (pv 2) pa_nil)))) (pss_one (ps_raise rfl md rfl m_BadJudges x_BadJudges (pa_cons pe_str pa_nil))) pss_nil)
      (pss_cons (ps_fld (pv 0) (pe_callTy call_list_of (by rfl) T.b_list PyProof.Rows.boot_list (pa_cons (pv 1) pa_nil)) rfl)
      (pss_cons (ps_fld (pv 0) (pe_lst pa_nil) rfl)
      (pss_cons (ps_fld (pv 0) (pe_callTy call_list_of (by rfl) T.b_list PyProof.Rows.boot_list (pa_cons (pv 2) pa_nil)) rfl)
      (pss_cons (ps_fld (pv 0) pe_dnewK rfl)
      (pss_cons (ps_fld (pv 0) pe_int rfl)
      (pss_one (ps_fld (pv 0) pe_bl rfl))))))))), ?_⟩
    refine ⟨_, rfl, a, us, rfl, hA, hzA, fun H1 s1 => ⟨_, rfl, ?_⟩⟩
    cases hg : M1.goodC us with
    | false => exact ⟨(by show 1 ≤ sizeLine; decide), by rw [hW]; exact qC hg _ _ n_BadCouples s1⟩
    | true =>
      refine ⟨_, rfl, b, ts, rfl, s1.seq hB, hzB, hzz, fun H2 s2 => ⟨_, rfl, ?_⟩⟩
      have s12 := s1.trans s2
      cases hj : M2.goodJ ts with
      | false => exact ⟨(by show 1 ≤ sizeLine; decide), by rw [hW]; exact qJ hg hj _ _ n_BadJudges s12⟩
      | true =>
        have x2 := s12 _ _ hx
        have k2 : ∀ c o, H c = some o → c ≠ x → H2 c = some o := fun c o e _ => s12 c o e
        refine ⟨_, rfl, a, _, rfl, .inl (s12.seq hA), fun l1 hl1 => ?_⟩
        have f1 := s12.free hl1
        obtain ⟨x3, e1, n1, k3⟩ := step_new (o := .lst (us.map V.int)) (u := .ins (clsA K "Sheet") dx [("standing", .ref l1)]) x2 hl1
        refine ⟨_, rfl, x, _, dx, _, rfl, (by rw [upd_ne (ne_of_none x2 hl1)]; exact x2), T.cl_Sheet, T.n_Sheet_standing, (by decide), ?_⟩
        rw [pf1]
        generalize hH3 : upd (upd H2 l1 _) x _ = H3 at x3 e1 k3 ⊢
        refine ⟨(by show 0 ≤ sizeLine; decide), fun l2 hl2 => ?_⟩
        obtain ⟨x4, e2, n2, k4⟩ := step_new (o := .lst []) (u := .ins (clsA K "Sheet") dx [("standing", .ref l1), ("struck_so_far", .ref l2)]) x3 hl2
        refine ⟨_, rfl, x, _, dx, _, rfl, (by rw [upd_ne (ne_of_none x3 hl2)]; exact x3), T.cl_Sheet, T.n_Sheet_struck_so_far, (by show 1 < 1000; decide), ?_⟩
        rw [pf2]
        generalize hH4 : upd (upd H3 l2 _) x _ = H4 at x4 e2 k4 ⊢
        have k24 : ∀ c o, H c = some o → c ≠ x → H4 c = some o := fun c o e n => k4 c o (k3 c o (k2 c o e n) n) n
        have hB4 : SqL K H4 b (ts.map V.str) := by
          rcases hB with (e | ⟨o, e⟩) | e
          · exact .inl (.inl (k24 _ _ e (ne_of e hx (by intro z; cases z))))
          · exact .inl (.inr ⟨o, k24 _ _ e (ne_of e hx (by intro z; cases z))⟩)
          · exact .inr e
        refine ⟨_, rfl, b, _, rfl, .inl hB4, fun l3 hl3 => ?_⟩
        obtain ⟨x5, e3, n3, k5⟩ := step_new (o := .lst (ts.map V.str)) (u := .ins (clsA K "Sheet") dx [("standing", .ref l1), ("struck_so_far", .ref l2), ("panel", .ref l3)]) x4 hl3
        refine ⟨_, rfl, x, _, dx, _, rfl, (by rw [upd_ne (ne_of_none x4 hl3)]; exact x4), T.cl_Sheet, T.n_Sheet_panel, (by show 2 < 1000; decide), ?_⟩
        rw [pf3]
        generalize hH5 : upd (upd H4 l3 _) x _ = H5 at x5 e3 k5 ⊢
        intro d hd
        obtain ⟨x6, e4, n4, k6⟩ := step_new (o := .dK []) (u := .ins (clsA K "Sheet") dx [("standing", .ref l1), ("struck_so_far", .ref l2), ("panel", .ref l3), ("card_by_judge", .ref d)]) x5 hd
        refine ⟨_, rfl, x, _, dx, _, rfl, (by rw [upd_ne (ne_of_none x5 hd)]; exact x5), T.cl_Sheet, T.n_Sheet_card_by_judge, (by show 3 < 1000; decide), ?_⟩
        rw [pf4]
        generalize hH6 : upd (upd H5 d _) x _ = H6 at x6 e4 k6 ⊢
        refine ⟨_, rfl, x, _, dx, _, rfl, x6, T.cl_Sheet, T.n_Sheet_taken_so_far, (by show 4 < 1000; decide), ?_⟩
        rw [pf5]
        refine ⟨_, rfl, x, _, dx, _, rfl, upd_same, T.cl_Sheet, T.n_Sheet_sealed, (by show 5 < 1000; decide), ?_⟩
        rw [pf6, upd_upd]
        have keep : ∀ c o, H6 c = some o → c ≠ x → upd H6 x (.ins (clsA K "Sheet") dx (shF l1 l2 l3 d (Sh.new us ts))) c = some o := fun c o e n => by rw [upd_ne n]; exact e
        have g1 : H6 l1 = some (.lst (us.map V.int)) := k6 _ _ (k5 _ _ (k4 _ _ e1 n1) n1) n1
        have g2 : H6 l2 = some (.lst []) := k6 _ _ (k5 _ _ e2 n2) n2
        have g3 : H6 l3 = some (.lst (ts.map V.str)) := k6 _ _ e3 n3
        refine q hg hj (upd H6 x (.ins (clsA K "Sheet") dx (shF l1 l2 l3 d (Sh.new us ts)))) (fun c => c = x ∨ c = l1 ∨ c = l2 ∨ c = l3 ∨ c = d) ⟨dx, l1, l2, l3, d, [], ?_⟩ fun c o e n => ⟨?_, ?_⟩
        · refine ⟨⟨upd_same, keep _ _ g1 n1, keep _ _ g2 n2, keep _ _ g3 n3, keep _ _ e4 n4, Nat.zero_le _, fun _ _ => rfl, (fun _ _ z => nomatch z), .inl rfl, .inr (.inl rfl), .inr (.inr (.inl rfl)), .inr (.inr (.inr (.inl rfl))), .inr (.inr (.inr (.inr rfl))), ?_, ?_, ?_⟩, Sh.Ok.new hg hj⟩
          · exact ne_of_none e1 hl2
          · exact fun z => ne_of_none (k4 _ _ (show H3 l1 = _ from e1) n1) hl3 (by rw [z] at hl3; rw [e2] at hl3; cases hl3)
          · rintro c (rfl | rfl | rfl | rfl | rfl)
            · rw [upd_same]; exact fun z => nomatch z
            · rw [keep _ _ g1 n1]; exact fun z => nomatch z
            · rw [keep _ _ g2 n2]; exact fun z => nomatch z
            · rw [keep _ _ g3 n3]; exact fun z => nomatch z
            · rw [keep _ _ e4 n4]; exact fun z => nomatch z
        · exact keep _ _ (k6 _ _ (k5 _ _ (k24 _ _ e n) n) n) n
        · have e2' := k2 _ _ e n
          have e3' := k3 _ _ e2' n
          have e4' := k4 _ _ e3' n
          have e5' := k5 _ _ e4' n
          rintro (z | z | z | z | z)
          · exact n z
          · rw [z, hl1] at e2'; cases e2'
          · rw [z, hl2] at e3'; cases e3'
          · rw [z, hl3] at e4'; cases e4'
          · rw [z, hd] at e5'; cases e5'
end
end Pp

namespace Pp
open PySem L2
noncomputable def sp_read_couples (K : PySem.W.Frag) : Sp := fun vs H Q _ => ∃ (f : Str) (a : Addr) (ns : List Int), vs = [.str f, .ref a] ∧ SqL K H a ((ns.map M20.strN).map V.str) ∧ (f = Str.ofString "card" ∨ (ns.length : Int) = M20.due f) ∧ (∀ n ∈ ns, 1 ≤ n ∧ n ≤ 999) ∧ ns.length ≤ 1000 ∧ ∀ (l : Addr) (H' : Hp), Same H H' → H l = none → H' l = some (.lst (ns.map V.int)) → Q (.ref l) H'
section
variable {P : Program} {w : World} {K : PySem.W.Frag} {mg : Str → Option Value} {base : Heap}
theorem ok_read_couples {f : Addr} {fd : FuncData} (F : Fun K "read_couples" "read_couples" s_read_couples f fd) (T : Txt K mg) (C_due_couples : Can P w K mg base 1 "due_couples" ["first"] (sp_due_couples K)) (C_read_couple : Can P w K mg base 3 "read_couple" ["word"] (sp_read_couple K)) : FnOk P w K mg base CX0 4 f fd ["first", "words"] (sp_read_couples K) := by
  refine F.ok sc_read_couples (fun vs H Q E h => ?_) (fun cdv A outer s H vs Q E hr h => ?_)
  · obtain ⟨f, a, ns, rfl, _⟩ := h
    rfl
  · obtain ⟨f, a, ns, rfl, hA, hd, hn, hz, q⟩ := h
    refine ⟨_, (pss_cons (ps_mid (ps_if (PW.pt (pw_and (pt_cmpR op_ne (pv 0) pe_str (nomark _)) (pw_and1 (pt_cmpR op_ne (pe_callB call_len_seq (by rfl) T.b_len PySem.boot_len (pa_cons (pv 1) pa_nil)) (pe_own C_due_couples (hr.mono (by decide)) rfl (pa_cons (pv 0) pa_nil)) (nomark _))))) (pss_one ps_never) pss_nil))
      (pss_one (ps_ret (pe_comp (show CompScope (defScope s_read_couples) ["first", "words"] "word" [] [] _ from ⟨rfl, by decide +kernel, by decide +kernel, rfl, by decide +kernel, rfl, by decide +kernel, by decide +kernel⟩) rfl (pi_list (pv 1)) (fun _ _ _ _ _ => pf_nil) (fun _ _ _ _ _ => (pe_own C_read_couple (hr.mono (by decide)) rfl (pa_cons (pv 0) pa_nil))))))), ?_⟩
    have hln := line_ge
    refine ⟨fun σ' H' => σ' = [some (.str f), some (.ref a)] ∧ H' = H, ?_, ?_⟩
    · refine ⟨_, rfl, rfl, _, rfl, iteND (fun hc => ?_) (fun hc => ?_)⟩
      · have hd' : (ns.length : Int) = M20.due f := by
          rcases hd with e | e
          · exact absurd (by rw [e]) hc
          · exact e
        exact ⟨_, rfl, a, _, rfl, .inl hA, _, rfl, f, rfl, rfl, _, rfl, iteNS (by rw [List.length_map, List.length_map, hd']) ⟨rfl, rfl⟩⟩
      · exact ⟨rfl, rfl⟩
    rintro σ' H1 ⟨rfl, rfl⟩
    refine ⟨_, rfl, a, rfl, ⟨_, hA⟩, ?_⟩
    refine comp_list0 (xs := (ns.map M20.strN).map V.str) (fun i ys H2 => Same H1 H2 ∧ ys = (ns.take i).map V.int) ⟨Same.refl _, rfl⟩ ?_ (by rw [List.length_map, List.length_map]; omega) ?_ ?_
    · rintro i ys H2 hi ⟨s2, rfl⟩
      refine ⟨s2.seq hA, ?_⟩
      rw [List.length_map, List.length_take]
      omega
    · rintro i x ys H2 hx ⟨s2, rfl⟩
      rw [List.getElem?_map, List.getElem?_map] at hx
      cases en : ns[i]? with
      | none => rw [en] at hx; cases hx
      | some n =>
        rw [en] at hx
        cases hx
        refine ⟨_, rfl, n, rfl, hn n (List.mem_of_getElem? en), fun H3 s3 => ⟨s2.trans s3, ?_⟩⟩
        rw [List.take_succ, en, List.map_append]
        rfl
    · rintro ys H2 ⟨s2, rfl⟩ l hl
      rw [List.length_map, List.length_map, List.take_length]
      exact q l _ (s2.newT hl) (s2.free hl) upd_same
end
end Pp

namespace Pp
open PySem L2
noncomputable def sp_law_new (K : PySem.W.Frag) : Sp := fun vs H Q _ => ∃ (p : Addr) (F : Addr → Prop) (us : List Int) (ts : List Str) (a b : Addr), vs = [.ref p, .ref a, .ref b] ∧ SheetAt K H p F (Sh.new us ts) ∧ SqL K H a (us.map V.int) ∧ SqL K H b (ts.map V.str) ∧ ∀ H', Same H H' → Q (.bl true) H'
section
variable {P : Program} {w : World} {K : PySem.W.Frag} {mg : Str → Option Value} {base : Heap}
theorem ok_law_new {f : Addr} {fd : FuncData} (F : Fun K "_law_new" "_law_new" s_law_new f fd) (T : Txt K mg) (C_law_whole : Can P w K mg base 1 "_law_whole" ["_law_found"] (sp_law_whole K)) (C_law_same : Can P w K mg base 2 "_law_same" ["_law_found", "_law_due"] (sp_law_same K)) (C_law_texts : Can P w K mg base 1 "_law_texts" ["_law_found", "_law_due"] (sp_law_texts K)) (C_Sheet_couples : CanM P w K mg base 1 (clsA K "Sheet") "couples" ["self"] (sp_Sheet_couples K)) (C_Sheet_struck : CanM P w K mg base 1 (clsA K "Sheet") "struck" ["self"] (sp_Sheet_struck K)) (C_Sheet_judges : CanM P w K mg base 1 (clsA K "Sheet") "judges" ["self"] (sp_Sheet_judges K)) (C_Sheet_handed : CanM P w K mg base 1 (clsA K "Sheet") "handed" ["self"] (sp_Sheet_handed K)) (C_Sheet_cards : CanM P w K mg base 3 (clsA K "Sheet") "cards" ["self"] (sp_Sheet_cards K)) (C_Sheet_taken : CanM P w K mg base 1 (clsA K "Sheet") "taken" ["self"] (sp_Sheet_taken K)) (C_Sheet_is_sealed : CanM P w K mg base 1 (clsA K "Sheet") "is_sealed" ["self"] (sp_Sheet_is_sealed K)) : FnOk P w K mg base CX0 4 f fd ["_law_sheet", "_law_row", "_law_names"] (sp_law_new K) := by
  refine F.ok sc_law_new (fun vs H Q E h => ?_) (fun cdv A outer s H vs Q E hr h => ?_)
  · obtain ⟨p, F, us, ts, a, b, rfl, _⟩ := h
    rfl
  · obtain ⟨p, F, us, ts, a, b, rfl, hSh, hA, hB, q⟩ := h
    refine ⟨_, (pss_cons (ps_if (PW.pt (pw_or (pt_not (pt_val (pe_own C_law_same (hr.mono (by decide)) rfl (pa_cons (pe_ownM0 C_Sheet_couples T.cl_Sheet (hr.mono (by decide)) (pv 0)) (pa_cons (pv 1) pa_nil))))) (pw_or1 (pt_not (pt_val (pe_own C_law_texts (hr.mono (by decide)) rfl (pa_cons (pe_ownM0 C_Sheet_judges T.cl_Sheet (hr.mono (by decide)) (pv 0)) (pa_cons (pv 2) pa_nil)))))))) (pss_one (ps_ret pe_bl)) pss_nil)
      (pss_cons (ps_for PassesOwn.never rfl (pi_list (pe_lst (pa_cons (pe_ownM0 C_Sheet_struck T.cl_Sheet (hr.mono (by decide)) (pv 0)) (pa_cons (pe_ownM0 C_Sheet_handed T.cl_Sheet (hr.mono (by decide)) (pv 0)) (pa_cons (pe_ownM0 C_Sheet_cards T.cl_Sheet (hr.mono (by decide)) (pv 0)) pa_nil))))) (pg_name (i := 3) sc_law_new.nd rfl (Or.inl rfl))
        (pss_one (ps_if (PW.pt (pw_or (pt_not (pt_val (pe_callB call_isi_list (by rfl) T.b_isinstance PyProof.Rows.boot_isinstance (pa_cons (pv 3) (pa_cons (pe_bltn (v := V.ty "list") rfl T.b_list PyProof.Rows.boot_list rfl) pa_nil))))) (pw_or1 (pt_cmpR op_ne (pe_callB call_len_seq (by rfl) T.b_len PySem.boot_len (pa_cons (pv 3) pa_nil)) pe_int (nomark _))))) (pss_one (ps_ret pe_bl)) pss_nil)))
      (pss_cons (ps_set (i := 4) sc_law_new.nd rfl (Or.inl rfl) (pe_ownM0 C_Sheet_taken T.cl_Sheet (hr.mono (by decide)) (pv 0)))
      (pss_one (ps_ret (pe_and (pe_own C_law_whole (hr.mono (by decide)) rfl (pa_cons (pv 4) pa_nil)) (pe_and (pe_cmpR op_eq (pv 4) pe_int (nomark _)) (pe_one (pe_cmpR op_isB (pe_ownM0 C_Sheet_is_sealed T.cl_Sheet (hr.mono (by decide)) (pv 0)) pe_bl (nomark _)))))))))), ?_⟩
    have hln := line_ge
    have ok := hSh.ok
    have c24 : us.length + 0 ≤ 24 := ok.c24
    have p15 : ts.length ≤ 15 := ok.p15
    obtain ⟨dx, b1, b2, b3, d, hip⟩ := hSh.ins
    refine ⟨_, rfl, p, dx, _, rfl, hip, rfl, p, F, _, rfl, hSh, fun l1 H1 s1 f1 e1 => ?_⟩
    refine ⟨_, rfl, l1, a, us, us, rfl, SqL.of e1, s1.seq hA, by omega, ?_⟩
    rw [decide_eq_true rfl]
    refine ⟨_, rfl, iteF ?_⟩
    refine ⟨_, rfl, p, dx, _, rfl, s1 _ _ hip, rfl, p, F, _, rfl, hSh.same s1, fun l2 H2 s2 f2 e2 => ?_⟩
    have t2 := s1.trans s2
    refine ⟨_, rfl, l2, b, ts, ts, rfl, SqL.of e2, t2.seq hB, by omega, ?_⟩
    rw [decide_eq_true rfl]
    refine ⟨_, rfl, iteF ?_⟩
    have hh : (Sh.new us ts).handed = [] := List.filter_eq_nil_iff.mpr fun j _ => by show ¬ (Option.isSome (none : Option (List Int))) = true; simp
    have hc : (Sh.new us ts).cardsIn = [] := by unfold Sh.cardsIn; rw [hh]; rfl
    refine ⟨_, rfl, p, dx, _, rfl, t2 _ _ hip, rfl, p, F, _, rfl, hSh.same t2, fun l3 H3 s3 f3 e3 => ?_⟩
    have t3 := t2.trans s3
    refine ⟨_, rfl, p, dx, _, rfl, t3 _ _ hip, rfl, p, F, _, rfl, (hSh.same t3).shape, p15, fun l4 H4 s4 f4 e4 => ?_⟩
    have t4 := t3.trans s4
    refine ⟨_, rfl, p, dx, _, rfl, t4 _ _ hip, rfl, p, F, _, rfl, hSh.same t4, fun l5 H5 ks s5 f5 e5 r5 => ?_⟩
    rw [hh] at e4
    rw [hc] at r5
    have hks : ks = [] := by cases r5; rfl
    subst hks
    have t5 := t4.trans s5
    have e3' := (s4.trans s5) _ _ e3
    have e4' := s5 _ _ e4
    refine ⟨(by show 3 ≤ sizeLine; decide), fun l6 hl6 => ?_⟩
    have s6 := Same.new (o := .lst [V.ref l3, V.ref l4, V.ref l5]) hl6
    have t6 := t5.trans s6
    refine ⟨l6, rfl, ⟨_, SqL.new⟩, ?_⟩
    have x3 := s6 _ _ e3'
    have x4 := s6 _ _ e4'
    have x5 := s6 _ _ e5
    have x6 : upd H5 l6 (.lst [V.ref l3, V.ref l4, V.ref l5]) l6 = some (.lst [V.ref l3, V.ref l4, V.ref l5]) := upd_same
    generalize hH6 : upd H5 l6 _ = H6 at s6 t6 x3 x4 x5 x6 ⊢
    refine for_list (xs := [V.ref l3, V.ref l4, V.ref l5]) (fun i σ H' => ∃ v, σ = [some (.ref p), some (.ref a), some (.ref b), v, none] ∧ H' = H6) ⟨_, rfl, rfl⟩ ?_ ?_ ?_
    · rintro i σ H' hi ⟨v, rfl, rfl⟩
      exact SqL.of x6
    · rintro i y σ H' hy ⟨v, rfl, rfl⟩
      have he : ∃ l, y = .ref l ∧ H' l = some (.lst []) := by
        have hm := List.mem_of_getElem? hy
        simp only [List.mem_cons, List.not_mem_nil, or_false] at hm
        rcases hm with rfl | rfl | rfl
        · exact ⟨_, rfl, x3⟩
        · exact ⟨_, rfl, x4⟩
        · exact ⟨_, rfl, x5⟩
      obtain ⟨l, rfl, el⟩ := he
      refine ⟨_, rfl, _, _, rfl, .yes (SqL.of el), _, rfl, iteF ?_⟩
      exact ⟨_, rfl, l, _, rfl, .inl (SqL.of el), rfl, _, rfl, iteND (fun h => absurd rfl h) (fun _ => ⟨_, rfl, rfl⟩)⟩
    · rintro σ H' ⟨v, rfl, rfl⟩
      refine ⟨_, rfl, p, dx, _, rfl, t6 _ _ hip, rfl, p, F, _, rfl, hSh.same t6, ?_⟩
      refine ⟨_, rfl, _, _, _, rfl, rfl, rfl, true, rfl, iteT ?_⟩
      refine ⟨_, rfl, rfl, true, (by rfl), iteT ?_⟩
      refine ⟨_, rfl, p, dx, _, rfl, t6 _ _ hip, rfl, p, F, _, rfl, hSh.same t6, _, _, rfl, rfl, ?_⟩
      exact q _ t6
end
end Pp

namespace Pp
open PySem L2
noncomputable def sp_read_row (K : PySem.W.Frag) : Sp := fun vs H Q _ => ∃ (f j : Str) (ns : List Int), vs = [.str (M20.row f j ns)] ∧ M20.Row f j ns ∧ ∀ (t l : Addr) (H' : Hp), Same H H' → H t = none → H l = none → H' t = some (.tup [.str f, .str j, .ref l]) → H' l = some (.lst (ns.map V.int)) → Q (.ref t) H'
section
variable {P : Program} {w : World} {K : PySem.W.Frag} {mg : Str → Option Value} {base : Heap}
theorem ok_read_row {f : Addr} {fd : FuncData} (F : Fun K "read_row" "read_row" s_read_row f fd) (T : Txt K mg) (C_read_couples : Can P w K mg base 4 "read_couples" ["first", "words"] (sp_read_couples K)) : FnOk P w K mg base CX0 5 f fd ["row"] (sp_read_row K) := by
  refine F.ok sc_read_row (fun vs H Q E h => ?_) (fun cdv A outer s H vs Q E hr h => ?_)
  · obtain ⟨f, j, ns, rfl, _⟩ := h
    rfl
  · obtain ⟨f, j, ns, rfl, hR, q⟩ := h
    refine ⟨_, (pss_cons (ps_set (i := 1) sc_read_row.nd rfl (Or.inl rfl) (pe_bm PySem.F.plainAttrs_str PySem.F.slot_str_split PySem.F.type_str_split ms_split (pv 0) (pa_cons pe_str pa_nil)))
      (pss_cons (ps_if (pt_cmpR op_in_seq pe_str (pv 1) (by first | exact nomark _ | rfl)) (pss_one ps_never) pss_nil)
      (pss_cons (ps_set (i := 2) sc_read_row.nd rfl (Or.inl rfl) (pe_ix ix_list (pv 1) pe_int (fun _ _ => rfl)))
      (pss_cons (ps_if (pt_cmpR op_notIn_seq (pv 2) (pe_op op_catT (pe_op op_catT (pe_ctup T.c_BARE_WORDS rfl) (pe_ctup T.c_JUDGE_WORDS rfl)) (pe_ctup T.c_COUPLE_WORDS rfl)) (by first | exact nomark _ | rfl)) (pss_one ps_never) pss_nil)
      (pss_cons (ps_if (pt_cmpR op_notIn_seq (pv 2) (pe_ctup T.c_JUDGE_WORDS rfl) (by first | exact nomark _ | rfl)) (pss_one (ps_ret (pe_tup (pa_cons (pv 2) (pa_cons pe_str (pa_cons (pe_own C_read_couples (hr.mono (by decide)) rfl (pa_cons (pv 2) (pa_cons (pe_slice sl_list (pv 1) (po_some pe_int) po_none) pa_nil))) pa_nil)))))) pss_nil)
      (pss_cons (ps_if (pt_cmpR op_eq (pe_callB call_len_seq (by rfl) T.b_len PySem.boot_len (pa_cons (pv 1) pa_nil)) pe_int (nomark _)) (pss_one ps_never) pss_nil)
      (pss_one (ps_ret (pe_tup (pa_cons (pv 2) (pa_cons (pe_ix ix_list (pv 1) pe_int (fun _ _ => rfl)) (pa_cons (pe_own C_read_couples (hr.mono (by decide)) rfl (pa_cons (pv 2) (pa_cons (pe_slice sl_list (pv 1) (po_some pe_int) po_none) pa_nil))) pa_nil)))))))))))), ?_⟩
    have hln := line_ge
    have hrl := M20.row_len hR
    have hwl := M20.words_len hR
    have hsp := M20.split_row hR
    refine ⟨_, rfl, rfl, _, _, rfl, rfl, by decide +kernel, by omega, by rw [M20.blank_eq, hsp]; omega, fun l1 hl1 => ?_⟩
    rw [M20.blank_eq, hsp]
    have s1 := Same.new (o := .lst ((M20.words f j ns).map V.str)) hl1
    have e1 : upd H l1 (.lst ((M20.words f j ns).map V.str)) l1 = some (.lst ((M20.words f j ns).map V.str)) := upd_same
    generalize hH1 : upd H l1 _ = H1 at s1 e1 ⊢
    refine ⟨_, rfl, l1, _, rfl, .inl (SqL.of e1), rfl, M20.strs_flat _, _, rfl, iteNo (M20.no_empty hR) ?_⟩
    refine ⟨_, rfl, l1, _, _, .str f, rfl, rfl, SqL.of e1, atI_nat (j := 0) rfl, ?_⟩
    refine ⟨_, rfl, fun a1 h1 => fun a2 h2 => ⟨a1, a2, _, _, rfl, rfl, h1 _, h2 _, by decide, by decide, (fun z => by cases z), fun _ p hp => fun a3 h3 => ⟨p, a3, _, _, rfl, rfl, .inl (.inl upd_same), h3 _, by decide, by decide, (fun z => by cases z), fun _ p2 hp2 => ?_⟩⟩⟩
    have s3 := (Same.newT s1 (o := .tup (List.map V.str ["seal", "couples", "places", "parts", "deciders"] ++ List.map V.str ["card", "show", "leave", "step"])) hp).newT (o := .tup ((List.map V.str ["seal", "couples", "places", "parts", "deciders"] ++ List.map V.str ["card", "show", "leave", "step"]) ++ List.map V.str ["strike", "step", "row"])) hp2
    have e3 := (Same.newT (Same.new (o := .tup (List.map V.str ["seal", "couples", "places", "parts", "deciders"] ++ List.map V.str ["card", "show", "leave", "step"])) hp) (o := .tup ((List.map V.str ["seal", "couples", "places", "parts", "deciders"] ++ List.map V.str ["card", "show", "leave", "step"]) ++ List.map V.str ["strike", "step", "row"])) hp2) _ _ e1
    refine ⟨p2, _, rfl, .inr (.inl (.inl upd_same)), rfl, by rfl, _, rfl, iteNo ?_ ?_⟩
    · show (!M20.inW f (M20.BARE ++ M20.JUDGE ++ M20.COUPLE)) = false
      rw [hR.inAll]
      rfl
    generalize hH3 : upd (upd H1 p _) p2 _ = H3 at s3 e3 ⊢
    refine ⟨_, rfl, fun a4 h4 => ⟨a4, _, rfl, .inr (h4 _), rfl, by rfl, _, rfl, ?_⟩⟩
    show if (!M20.inW f M20.JUDGE) = true then _ else _
    cases hJ : M20.inW f M20.JUDGE with
    | false =>
      have ej := hR.nojud hJ
      have ew : (M20.words f j ns).map V.str = .str f :: (ns.map M20.strN).map V.str := by
        unfold M20.words
        rw [if_neg (by rw [hJ]; exact Bool.false_ne_true)]
        rfl
      rw [ew] at e3
      refine iteT ?_
      refine ⟨_, rfl, _, rfl, _, rfl, _, rfl, l1, _, rfl, SqL.of e3, fun l5 hl5 => ?_⟩
      have s5 := Same.new (o := .lst (cutV (.str f :: (ns.map M20.strN).map V.str) (some 1) none)) hl5
      have e5 : upd H3 l5 (.lst (cutV (.str f :: (ns.map M20.strN).map V.str) (some 1) none)) l5 = some (.lst ((ns.map M20.strN).map V.str)) := by rw [upd_same, cut_from (by decide)]; rfl
      refine ⟨f, l5, ns, rfl, SqL.of e5, hR.due, hR.rng, by have := hR.len; omega, fun l6 H6 s6 f6 e6 => ⟨(by show 3 ≤ sizeLine; decide), fun t7 ht7 => ?_⟩⟩
      have sA := (s3.trans s5).trans s6
      rw [← ej]
      exact q t7 l6 _ (sA.newT ht7) (sA.free ht7) ((s3.trans s5).free f6) upd_same ((Same.new ht7) _ _ e6)
    | true =>
      have ew : (M20.words f j ns).map V.str = .str f :: .str j :: (ns.map M20.strN).map V.str := by
        unfold M20.words
        rw [if_pos hJ]
        rfl
      rw [ew] at e3
      refine iteF ?_
      refine ⟨_, rfl, l1, _, rfl, .inl (SqL.of e3), rfl, _, rfl, iteNo ?_ ?_⟩
      · refine decide_eq_false fun z => ?_
        injection z with z
        simp only [List.length_cons, List.length_map] at z
        omega
      refine ⟨_, rfl, _, rfl, l1, _, _, .str j, rfl, rfl, SqL.of e3, atI_nat (j := 1) rfl, _, rfl, _, rfl, _, rfl, l1, _, rfl, SqL.of e3, fun l5 hl5 => ?_⟩
      have s5 := Same.new (o := .lst (cutV (.str f :: .str j :: (ns.map M20.strN).map V.str) (some 2) none)) hl5
      have e5 : upd H3 l5 (.lst (cutV (.str f :: .str j :: (ns.map M20.strN).map V.str) (some 2) none)) l5 = some (.lst ((ns.map M20.strN).map V.str)) := by rw [upd_same, cut_from (by decide)]; rfl
      refine ⟨f, l5, ns, rfl, SqL.of e5, hR.due, hR.rng, by have := hR.len; omega, fun l6 H6 s6 f6 e6 => ⟨(by show 3 ≤ sizeLine; decide), fun t7 ht7 => ?_⟩⟩
      have sA := (s3.trans s5).trans s6
      exact q t7 l6 _ (sA.newT ht7) (sA.free ht7) ((s3.trans s5).free f6) upd_same ((Same.new ht7) _ _ e6)
end
end Pp

namespace Pp
open PySem L2
noncomputable def sp_answer (K : PySem.W.Frag) : Sp := fun vs H Q _ => ∃ (p : Addr) (F : Addr → Prop) (S : Sh) (f : Str), vs = [.ref p, .str f] ∧ SheetAt K H p F S ∧
  ((f = Str.ofString "couples" ∧ ∀ H', Same H H' → Q (.str (Txt.join M6.blank (S.couples.map tN))) H') ∨
   (f = Str.ofString "seal" ∧ S.shut = false ∧ ∀ H', SheetAt K H' p F S.close → Deed F H F H' → Q (.str (Str.ofString "sealed")) H'))
theorem cou_row : M20.row (Str.ofString "couples") (Str.ofString "") [] = Str.ofString "couples" := by decide +kernel
theorem cou_Row : M20.Row (Str.ofString "couples") (Str.ofString "") [] :=
  ⟨by decide +kernel, (M20.fine_of (by decide)).fw, fun h => absurd h (by decide +kernel), fun _ => rfl, .inr (by decide +kernel), (fun n hn => by cases hn), by decide⟩
section
variable {P : Program} {w : World} {K : PySem.W.Frag} {mg : Str → Option Value} {base : Heap}
theorem ok_answer {f : Addr} {fd : FuncData} (F : Fun K "answer" "answer" s_answer f fd) (T : Txt K mg) (C_read_row : Can P w K mg base 5 "read_row" ["row"] (sp_read_row K)) (C_done_and_told : Can P w K mg base 3 "done_and_told" ["sheet", "first", "judge", "couples"] (sp_done_and_told K)) : FnOk P w K mg base CX0 6 f fd ["sheet", "row"] (sp_answer K) := by
  refine F.ok sc_answer (fun vs H Q E h => ?_) (fun cdv A outer s H vs Q E hr h => ?_)
  · obtain ⟨p, F, S, f, rfl, _⟩ := h
    rfl
  · obtain ⟨p, F, S, f, rfl, hS, h⟩ := h
    refine ⟨_, (pss_one (ps_try rfl rfl (fun _ _ _ fl => (pss_cons (ps_set (i := 2) sc_answer.nd rfl (Or.inl rfl) (pe_own C_read_row (hr.mono (by decide)) rfl (pa_cons (pv 1) pa_nil)))
      (pss_one (ps_ret (pe_own C_done_and_told (hr.mono (by decide)) rfl (pa_cons (pv 0) (pa_cons (pe_ix (ix_tupK (K := K) rfl) (pv 2) pe_int (fun _ _ => rfl)) (pa_cons (pe_ix (ix_tupK (K := K) rfl) (pv 2) pe_int (fun _ _ => rfl)) (pa_cons (pe_ix (ix_tupK (K := K) rfl) (pv 2) pe_int (fun _ _ => rfl)) pa_nil))))))))) ph_never)), ?_⟩
    refine ⟨fun _ _ _ => False, ?_, fun _ _ _ h => h.elim⟩
    rcases h with ⟨rfl, q⟩ | ⟨rfl, hs, q⟩
    · refine ⟨_, rfl, _, _, _, (by rw [cou_row]; rfl), cou_Row, fun t l H1 s1 f1 f2 e1 e2 => ?_⟩
      have q1 : SqT K H1 t [.str (Str.ofString "couples"), .str (Str.ofString ""), .ref l] := .inl (.inl e1)
      exact ⟨_, rfl, _, rfl, t, _, _, _, rfl, rfl, q1, rfl, _, rfl, t, _, _, _, rfl, rfl, q1, rfl, _, rfl, t, _, _, _, rfl, rfl, q1, rfl, p, F, S, _, _, _, rfl, hS.same s1, .inl ⟨rfl, fun H2 s2 => q _ (s1.trans s2)⟩⟩
    · refine ⟨_, rfl, _, _, _, (by rw [M6.row_bare.1]; rfl), M6.Row_seal, fun t l H1 s1 f1 f2 e1 e2 => ?_⟩
      have q1 : SqT K H1 t [.str (Str.ofString "seal"), .str (Str.ofString ""), .ref l] := .inl (.inl e1)
      exact ⟨_, rfl, _, rfl, t, _, _, _, rfl, rfl, q1, rfl, _, rfl, t, _, _, _, rfl, rfl, q1, rfl, _, rfl, t, _, _, _, rfl, rfl, q1, rfl, p, F, S, _, _, _, rfl, hS.same s1, .inr ⟨rfl, hs, fun H2 h2 d2 => q _ h2 (fun b o e n => d2 b o (s1 _ _ e) n)⟩⟩
end
end Pp

namespace Pp
open PySem L2
noncomputable def sp_law_made (K : PySem.W.Frag) : Sp := fun vs H Q _ => ∃ (a b : Addr) (us : List Int) (ts : List Str), vs = [.ref a, .ref b] ∧ SqL K H a (us.map V.int) ∧ us.length < 4000 ∧ SqL K H b (ts.map V.str) ∧ ts.length < 4000 ∧ (∀ z ∈ ts, z.length ≤ 1000) ∧
  (M1.goodC us = false → ∀ l H', Same H H' → H' l = some (.lst [.bl true, .bl false, .bl true]) → Q (.ref l) H') ∧ (M1.goodC us = true → M2.goodJ ts = false → ∀ l H', Same H H' → H' l = some (.lst [.bl false, .bl true, .bl true]) → Q (.ref l) H') ∧
  (M1.goodC us = true → M2.goodJ ts = true → ∀ x H' F, SheetAt K H' x F (Sh.new us ts) → (∀ b o, H b = some o → H' b = some o ∧ ¬ F b) → Q (.ref x) H')
section
variable {P : Program} {w : World} {K : PySem.W.Frag} {mg : Str → Option Value} {base : Heap}
theorem ok_law_made {f : Addr} {fd : FuncData} (F : Fun K "_law_made" "_law_made" s_law_made f fd) (T : Txt K mg) (C_Sheet_init : CanK P w K mg base 4 "Sheet" (clsA K "Sheet") ["self", "couples", "judges"] (sp_Sheet_init K)) : FnOk P w K mg base CX0 6 f fd ["_law_couples_here", "_law_names"] (sp_law_made K) := by
  obtain ⟨c_PanelError, n_PanelError, m_PanelError, x_PanelError⟩ := T.x_PanelError
  obtain ⟨c_BadCouples, n_BadCouples, m_BadCouples, x_BadCouples⟩ := T.x_BadCouples
  obtain ⟨c_BadJudges, n_BadJudges, m_BadJudges, x_BadJudges⟩ := T.x_BadJudges
  refine F.ok sc_law_made (fun vs H Q E h => ?_) (fun cdv A outer s H vs Q E hr h => ?_)
  · obtain ⟨a, b, us, ts, rfl, _⟩ := h
    rfl
  · obtain ⟨a, b, us, ts, rfl, hA, hzA, hB, hzB, hzz, qC, qJ, q⟩ := h
    refine ⟨_, (pss_cons (ps_try rfl rfl (fun _ _ _ fl => (pss_one (ps_ret (pe_makeX C_Sheet_init fl (hr.mono (by decide)) rfl (pa_cons (pv 0) (pa_cons (pv 1) pa_nil)))))) (ph_as (i := 2) rfl m_PanelError x_PanelError sc_law_made.nd rfl rfl (fun _ => (pss_one (ps_set (i := 3) sc_law_made.nd rfl (Or.inl rfl) (pe_lst (pa_cons (pe_callB (call_isi_excBK (K := K) rfl) (by rfl) T.b_isinstance PyProof.Rows.boot_isinstance (pa_cons (pv 2) (pa_cons (pe_cls rfl m_BadCouples) pa_nil))) (pa_cons (pe_callB (call_isi_excBK (K := K) rfl) (by rfl) T.b_isinstance PyProof.Rows.boot_isinstance (pa_cons (pv 2) (pa_cons (pe_cls rfl m_BadJudges) pa_nil))) (pa_cons (pe_callB (call_isi_excBK (K := K) rfl) (by rfl) T.b_isinstance PyProof.Rows.boot_isinstance (pa_cons (pv 2) (pa_cons (pe_bltn (v := V.ty "ValueError") rfl T.b_ValueError (by decide +kernel) rfl) pa_nil))) pa_nil))))))) ph_never))
      (pss_one (ps_ret (pv 3)))), ?_⟩
    refine ⟨fun σ1 cls H2 => σ1 = [some (.ref a), some (.ref b), none, none] ∧ Same H H2 ∧ ∃ c C, ClsN K c C ∧ cls = .ref C ∧ ((c = ("BadCouples" : Str) ∧ M1.goodC us = false) ∨ (c = ("BadJudges" : Str) ∧ M1.goodC us = true ∧ M2.goodJ ts = false)), ?_, ?_⟩
    · refine ⟨_, rfl, _, rfl, ?_⟩
      intro x dx hx hdx hxd
      have s5 := (Same.new (o := .own x) hdx).newT (o := .ins (clsA K "Sheet") dx []) (l := x) (by rw [upd_ne (Ne.symm hxd)]; exact hx)
      exact ⟨x, dx, a, b, us, ts, rfl, upd_same, s5.seq hA, hzA, s5.seq hB, hzB, hzz, fun z C H' hC s' => ⟨rfl, s5.trans s', _, C, hC, rfl, .inl ⟨rfl, z⟩⟩, fun z1 z2 C H' hC s' => ⟨rfl, s5.trans s', _, C, hC, rfl, .inr ⟨rfl, z1, z2⟩⟩, fun z1 z2 H5 F hSh hkeep => ⟨rfl, q z1 z2 x H5 F hSh fun b o e => hkeep b o (s5 _ _ e) (ne_of_none e hx)⟩⟩
    · rintro σ1 cls H2 ⟨rfl, s2, c, C, hC, rfl, hc⟩
      rcases hc with ⟨rfl, z⟩ | ⟨rfl, z1, z2⟩
      · cases ClsN.inj hC n_BadCouples
        have i0 := T.i_BadCouples _ n_BadCouples
        refine ⟨c_BadCouples, rfl, x_BadCouples, iteY (T.s_BadCouples_PanelError _ _ n_BadCouples n_PanelError) fun y hy => ?_⟩
        have s3 := s2.newT (o := excO y (.ref c_BadCouples)) hy
        have e3 : upd H2 y (excO y (.ref c_BadCouples)) y = some (excO y (.ref c_BadCouples)) := upd_same
        generalize hH3 : upd H2 y _ = H3 at s3 e3 ⊢
        refine ⟨_, rfl, y, c_BadCouples, _, _, _, rfl, rfl, e3, i0, T.k_BadCouples_BadCouples _ _ n_BadCouples n_BadCouples, _, rfl, y, c_BadCouples, _, _, _, rfl, rfl, e3, i0, T.k_BadCouples_BadJudges _ _ n_BadCouples n_BadJudges, _, rfl, y, c_BadCouples, _, _, _, rfl, rfl, e3, i0, T.kv_BadCouples _ n_BadCouples, (by show 3 ≤ sizeLine; decide), fun l hl => ?_⟩
        exact ⟨_, rfl, qC z l _ (s3.newT hl) upd_same⟩
      · cases ClsN.inj hC n_BadJudges
        have i0 := T.i_BadJudges _ n_BadJudges
        refine ⟨c_BadJudges, rfl, x_BadJudges, iteY (T.s_BadJudges_PanelError _ _ n_BadJudges n_PanelError) fun y hy => ?_⟩
        have s3 := s2.newT (o := excO y (.ref c_BadJudges)) hy
        have e3 : upd H2 y (excO y (.ref c_BadJudges)) y = some (excO y (.ref c_BadJudges)) := upd_same
        generalize hH3 : upd H2 y _ = H3 at s3 e3 ⊢
        refine ⟨_, rfl, y, c_BadJudges, _, _, _, rfl, rfl, e3, i0, T.k_BadJudges_BadCouples _ _ n_BadJudges n_BadCouples, _, rfl, y, c_BadJudges, _, _, _, rfl, rfl, e3, i0, T.k_BadJudges_BadJudges _ _ n_BadJudges n_BadJudges, _, rfl, y, c_BadJudges, _, _, _, rfl, rfl, e3, i0, T.kv_BadJudges _ n_BadJudges, (by show 3 ≤ sizeLine; decide), fun l hl => ?_⟩
        exact ⟨_, rfl, qJ z1 z2 l _ (s3.newT hl) upd_same⟩
end
end Pp

namespace Pp
open PySem L2
/-- what the desk tells of a new sheet -/
noncomputable def due18 (us : List Int) (n : Nat) : List Str := [Txt.join M6.blank (us.map tN), Str.ofString "sealed"].take n
noncomputable def sp_answers (K : PySem.W.Frag) : Sp := fun vs H Q E => ∃ (a b r : Addr) (us : List Int) (ts : List Str) (n : Nat), vs = [.ref a, .ref b, .ref r] ∧ SqL K H a (us.map V.int) ∧ us.length < 4000 ∧ SqL K H b (ts.map V.str) ∧ ts.length < 4000 ∧ (∀ z ∈ ts, z.length ≤ 1000) ∧ n ≤ 2 ∧ H r = some (.lst (([Str.ofString "couples", Str.ofString "seal"].take n).map V.str)) ∧
  (M1.goodC us = false → ∀ C H', ClsN K "BadCouples" C → Same H H' → E (.ref C) none H') ∧ (M1.goodC us = true → M2.goodJ ts = false → ∀ C H', ClsN K "BadJudges" C → Same H H' → E (.ref C) none H') ∧
  (M1.goodC us = true → M2.goodJ ts = true → ∀ l H', Same H H' → H l = none → H' l = some (.lst ((due18 us n).map V.str)) → Q (.ref l) H')
section
variable {P : Program} {w : World} {K : PySem.W.Frag} {mg : Str → Option Value} {base : Heap}
theorem ok_answers {f : Addr} {fd : FuncData} (F : Fun K "answers" "answers" s_answers f fd) (T : Txt K mg) (C_answer : Can P w K mg base 6 "answer" ["sheet", "row"] (sp_answer K)) (C_Sheet_init : CanK P w K mg base 4 "Sheet" (clsA K "Sheet") ["self", "couples", "judges"] (sp_Sheet_init K)) : FnOk P w K mg base (CX1 P w) 7 f fd ["couples", "judges", "rows"] (sp_answers K) := by
  refine F.okX sc_answers (fun vs H Q E h => ?_) (fun X W cdv A outer s H vs Q E hX hW fl md hr h => ?_)
  · obtain ⟨a, b, r, us, ts, n, rfl, _⟩ := h
    rfl
  · obtain ⟨a, b, r, us, ts, n, rfl, hA, hzA, hB, hzB, hzz, hn, hr', qC, qJ, q⟩ := h
    subst hX
    refine ⟨_, (pss_cons (ps_set (i := 3) sc_answers.nd rfl (Or.inr rfl) (pe_makeX C_Sheet_init fl (hr.mono (by decide)) rfl (pa_cons (pv 0) (pa_cons (pv 1) pa_nil))))
      (pss_one (ps_ret (pe_comp (show CompScope (defScope s_answers) ["couples", "judges", "rows", "sheet"] "row" ["sheet"] [3] _ from ⟨rfl, by decide +kernel, by decide +kernel, rfl, by decide +kernel, rfl, by decide +kernel, by decide +kernel⟩) rfl (pi_list (pv 2)) (fun _ _ _ _ _ => pf_nil) (fun _ _ _ _ _ => (pe_own C_answer (hr.mono (by decide)) rfl (pa_cons (pv 1) (pa_cons (pv 0) pa_nil)))))))), ?_⟩
    have hln := line_ge
    refine ⟨_, rfl, _, rfl, ?_⟩
    intro x dx hx hdx hxd
    have s5 := (Same.new (o := .own x) hdx).newT (o := .ins (clsA K "Sheet") dx []) (l := x) (by rw [upd_ne (Ne.symm hxd)]; exact hx)
    refine ⟨x, dx, a, b, us, ts, rfl, upd_same, s5.seq hA, hzA, s5.seq hB, hzB, hzz, fun z C H' hC s' => ?_, fun z1 z2 C H' hC s' => ?_, fun z1 z2 H5 F hSh hkeep => ⟨rfl, ?_⟩⟩
    · rw [hW]; exact qC z C H' hC (s5.trans s')
    · rw [hW]; exact qJ z1 z2 C H' hC (s5.trans s')
    have kp : ∀ b o, H b = some o → H5 b = some o ∧ ¬ F b := fun b o e => hkeep b o (s5 _ _ e) (ne_of_none e hx)
    have r5 := kp _ _ hr'
    refine ⟨_, rfl, r, rfl, ⟨_, SqL.of r5.1⟩, ?_⟩
    have hul : ([Str.ofString "couples", Str.ofString "seal"].take n).length = n := by rw [List.length_take]; show min n 2 = n; omega
    refine comp_list0 (xs := ([Str.ofString "couples", Str.ofString "seal"].take n).map V.str) (fun i ys H6 => ys = (due18 us i).map V.str ∧ (∀ b o, H b = some o → H6 b = some o ∧ ¬ F b) ∧ SheetAt K H6 x F (if 2 ≤ i then (Sh.new us ts).close else Sh.new us ts)) ⟨rfl, kp, hSh⟩ ?_ (by rw [List.length_map, hul]; omega) ?_ ?_
    · rintro i ys H6 hi ⟨rfl, k6, h6⟩
      rw [List.length_map, hul] at hi
      refine ⟨SqL.of (k6 _ _ hr').1, ?_⟩
      unfold due18
      rw [List.length_map, List.length_take]
      omega
    · rintro i y ys H6 hy ⟨rfl, k6, h6⟩
      have hi : i < n := by have := (List.getElem?_eq_some_iff.mp hy).1; rwa [List.length_map, hul] at this
      rw [List.getElem?_map, List.getElem?_take, if_pos hi] at hy
      have hi2 : i = 0 ∨ i = 1 := by omega
      rcases hi2 with rfl | rfl
      · cases hy
        exact ⟨_, rfl, _, rfl, x, F, _, _, rfl, h6, .inl ⟨rfl, fun H7 s7 => ⟨rfl, fun b o e => ⟨s7 _ _ (k6 b o e).1, (k6 b o e).2⟩, h6.same s7⟩⟩⟩
      · cases hy
        exact ⟨_, rfl, _, rfl, x, F, _, _, rfl, h6, .inr ⟨rfl, rfl, fun H7 h7 d7 => ⟨rfl, fun b o e => d7 b o (k6 b o e).1 (k6 b o e).2, h7⟩⟩⟩
    · rintro ys H6 ⟨rfl, k6, h6⟩ l hl
      rw [List.length_map, hul]
      exact q z1 z2 l _ (fun b o e => Same.new hl _ _ (k6 b o e).1) (by
        cases e : H l with
        | none => rfl
        | some o => rw [(k6 l o e).1] at hl; cases hl) upd_same
end
end Pp

namespace Pp
open PySem L2
noncomputable def sp_law_answered (K : PySem.W.Frag) : Sp := fun vs H Q _ => ∃ (a b r : Addr) (us : List Int) (ts : List Str) (n : Nat), vs = [.ref a, .ref b, .ref r] ∧ SqL K H a (us.map V.int) ∧ us.length < 4000 ∧ SqL K H b (ts.map V.str) ∧ ts.length < 4000 ∧ (∀ z ∈ ts, z.length ≤ 1000) ∧ n ≤ 2 ∧ H r = some (.lst (([Str.ofString "couples", Str.ofString "seal"].take n).map V.str)) ∧
  (M1.goodC us = false → ∀ l H', Same H H' → H l = none → H' l = some (.lst [.bl true, .bl false, .bl true]) → Q (.ref l) H') ∧ (M1.goodC us = true → M2.goodJ ts = false → ∀ l H', Same H H' → H l = none → H' l = some (.lst [.bl false, .bl true, .bl true]) → Q (.ref l) H') ∧
  (M1.goodC us = true → M2.goodJ ts = true → ∀ l H', Same H H' → H l = none → H' l = some (.lst ((due18 us n).map V.str)) → Q (.ref l) H')
section
variable {P : Program} {w : World} {K : PySem.W.Frag} {mg : Str → Option Value} {base : Heap}
theorem ok_law_answered {f : Addr} {fd : FuncData} (F : Fun K "_law_answered" "_law_answered" s_law_answered f fd) (T : Txt K mg) (C_answers : CanX P w K mg base 7 "answers" ["couples", "judges", "rows"] (sp_answers K)) : FnOk P w K mg base CX0 8 f fd ["_law_couples_here", "_law_names", "_law_rows"] (sp_law_answered K) := by
  obtain ⟨c_PanelError, n_PanelError, m_PanelError, x_PanelError⟩ := T.x_PanelError
  obtain ⟨c_BadCouples, n_BadCouples, m_BadCouples, x_BadCouples⟩ := T.x_BadCouples
  obtain ⟨c_BadJudges, n_BadJudges, m_BadJudges, x_BadJudges⟩ := T.x_BadJudges
  refine F.ok sc_law_answered (fun vs H Q E h => ?_) (fun cdv A outer s H vs Q E hr h => ?_)
  · obtain ⟨a, b, r, us, ts, n, rfl, _⟩ := h
    rfl
  · obtain ⟨a, b, r, us, ts, n, rfl, hA, hzA, hB, hzB, hzz, hn, hr', qC, qJ, q⟩ := h
    refine ⟨_, (pss_cons (ps_try rfl rfl (fun _ _ _ fl => (pss_one (ps_ret (pe_ownX C_answers fl (hr.mono (by decide)) rfl (pa_cons (pv 0) (pa_cons (pv 1) (pa_cons (pv 2) pa_nil))))))) (ph_as (i := 3) rfl m_PanelError x_PanelError sc_law_answered.nd rfl rfl (fun _ => (pss_one (ps_set (i := 4) sc_law_answered.nd rfl (Or.inl rfl) (pe_lst (pa_cons (pe_callB (call_isi_excBK (K := K) rfl) (by rfl) T.b_isinstance PyProof.Rows.boot_isinstance (pa_cons (pv 3) (pa_cons (pe_cls rfl m_BadCouples) pa_nil))) (pa_cons (pe_callB (call_isi_excBK (K := K) rfl) (by rfl) T.b_isinstance PyProof.Rows.boot_isinstance (pa_cons (pv 3) (pa_cons (pe_cls rfl m_BadJudges) pa_nil))) (pa_cons (pe_callB (call_isi_excBK (K := K) rfl) (by rfl) T.b_isinstance PyProof.Rows.boot_isinstance (pa_cons (pv 3) (pa_cons (pe_bltn (v := V.ty "ValueError") rfl T.b_ValueError (by decide +kernel) rfl) pa_nil))) pa_nil))))))) ph_never))
      (pss_one (ps_ret (pv 4)))), ?_⟩
    refine ⟨fun σ1 cls H2 => σ1 = [some (.ref a), some (.ref b), some (.ref r), none, none] ∧ Same H H2 ∧ ∃ c C, ClsN K c C ∧ cls = .ref C ∧ ((c = ("BadCouples" : Str) ∧ M1.goodC us = false) ∨ (c = ("BadJudges" : Str) ∧ M1.goodC us = true ∧ M2.goodJ ts = false)), ?_, ?_⟩
    · exact ⟨_, rfl, _, rfl, _, rfl, a, b, r, us, ts, n, rfl, hA, hzA, hB, hzB, hzz, hn, hr', fun z C H' hC s' => ⟨rfl, s', _, C, hC, rfl, .inl ⟨rfl, z⟩⟩, fun z1 z2 C H' hC s' => ⟨rfl, s', _, C, hC, rfl, .inr ⟨rfl, z1, z2⟩⟩, fun z1 z2 l H' s' f' e' => q z1 z2 l H' s' f' e'⟩
    · rintro σ1 cls H2 ⟨rfl, s2, c, C, hC, rfl, hc⟩
      rcases hc with ⟨rfl, z⟩ | ⟨rfl, z1, z2⟩
      · cases ClsN.inj hC n_BadCouples
        have i0 := T.i_BadCouples _ n_BadCouples
        refine ⟨c_BadCouples, rfl, x_BadCouples, iteY (T.s_BadCouples_PanelError _ _ n_BadCouples n_PanelError) fun y hy => ?_⟩
        have s3 := s2.newT (o := excO y (.ref c_BadCouples)) hy
        have e3 : upd H2 y (excO y (.ref c_BadCouples)) y = some (excO y (.ref c_BadCouples)) := upd_same
        generalize hH3 : upd H2 y _ = H3 at s3 e3 ⊢
        refine ⟨_, rfl, y, c_BadCouples, _, _, _, rfl, rfl, e3, i0, T.k_BadCouples_BadCouples _ _ n_BadCouples n_BadCouples, _, rfl, y, c_BadCouples, _, _, _, rfl, rfl, e3, i0, T.k_BadCouples_BadJudges _ _ n_BadCouples n_BadJudges, _, rfl, y, c_BadCouples, _, _, _, rfl, rfl, e3, i0, T.kv_BadCouples _ n_BadCouples, (by show 3 ≤ sizeLine; decide), fun l hl => ?_⟩
        exact ⟨_, rfl, qC z l _ (s3.newT hl) (s3.free hl) upd_same⟩
      · cases ClsN.inj hC n_BadJudges
        have i0 := T.i_BadJudges _ n_BadJudges
        refine ⟨c_BadJudges, rfl, x_BadJudges, iteY (T.s_BadJudges_PanelError _ _ n_BadJudges n_PanelError) fun y hy => ?_⟩
        have s3 := s2.newT (o := excO y (.ref c_BadJudges)) hy
        have e3 : upd H2 y (excO y (.ref c_BadJudges)) y = some (excO y (.ref c_BadJudges)) := upd_same
        generalize hH3 : upd H2 y _ = H3 at s3 e3 ⊢
        refine ⟨_, rfl, y, c_BadJudges, _, _, _, rfl, rfl, e3, i0, T.k_BadJudges_BadCouples _ _ n_BadJudges n_BadCouples, _, rfl, y, c_BadJudges, _, _, _, rfl, rfl, e3, i0, T.k_BadJudges_BadJudges _ _ n_BadJudges n_BadJudges, _, rfl, y, c_BadJudges, _, _, _, rfl, rfl, e3, i0, T.kv_BadJudges _ n_BadJudges, (by show 3 ≤ sizeLine; decide), fun l hl => ?_⟩
        exact ⟨_, rfl, qJ z1 z2 l _ (s3.newT hl) (s3.free hl) upd_same⟩
end
end Pp

namespace Pp
open PySem L2
noncomputable def sp_law (K : PySem.W.Frag) : Sp := fun vs H Q _ => ∃ (a : Addr) (ns : List Int), vs = [.ref a] ∧ SqL K H a (ns.map V.int) ∧ ns.length ≤ 63 ∧ ∀ H', Q (.bl true) H'
theorem comp_intsF {K : PySem.W.Frag} {a : Addr} {ts : List Int} {p : Int → Bool} {c : St} {tc : TT} {te : TE} {H : Hp} {fin : List V → Hp → Prop} (hA : SqL K H a (ts.map V.int)) (hz : ts.length ≤ 1000)
    (htc : ∀ (t : Int) (H' : Hp) (Q : Bool → Hp → Prop), t ∈ ts → Same H H' → (∀ H2, Same H' H2 → Q (p t) H2) → tc (some (.int t) :: c) H' Q)
    (hte : ∀ (t : Int) (H' : Hp) (Q : VK), Q (.int t) H' → te (some (.int t) :: c) H' Q)
    (hd : ∀ (H' : Hp), Same H H' → fin ((ts.filter p).map V.int) H') : wComp (Itl K a) c tc te H fin := by
  have hln := line_ge
  refine comp_list (xs := ts.map V.int) (fun i ys H5 => ys = ((ts.take i).filter p).map V.int ∧ Same H H5) ⟨rfl, Same.refl _⟩ ?_ (by rw [List.length_map]; omega) ?_ ?_
  · rintro i ys H5 hi ⟨rfl, s5⟩
    refine ⟨s5.seq hA, ?_⟩
    have := List.length_filter_le p (ts.take i)
    rw [List.length_take] at this
    rw [List.length_map]
    omega
  · rintro i x ys H5 hx ⟨rfl, s5⟩
    obtain ⟨hi, rfl⟩ := ints_get hx
    have et : ts[i]? = some (ts.getD i 0) := by rw [List.getD_eq_getElem?_getD, List.getElem?_eq_getElem hi]; rfl
    refine htc _ H5 _ (getD_in hi) s5 fun H6 s6 => ?_
    have ef : (ts.take (i + 1)).filter p = (ts.take i).filter p ++ if p (ts.getD i 0) = true then [ts.getD i 0] else [] := by
      rw [List.take_succ, et, List.filter_append]
      congr 1
      show List.filter p [ts.getD i 0] = _
      rw [List.filter_cons]
      split <;> rfl
    by_cases hp : p (ts.getD i 0) = true
    · rw [if_pos hp]
      refine hte _ _ _ ⟨?_, s5.trans s6⟩
      rw [ef, if_pos hp, List.map_append]
      rfl
    · rw [if_neg hp]
      refine ⟨?_, s5.trans s6⟩
      rw [ef, if_neg hp, List.append_nil]
  · rintro ys H5 ⟨rfl, s5⟩
    rw [List.length_map, List.take_length]
    exact hd _ s5
section
variable {P : Program} {w : World} {K : PySem.W.Frag} {mg : Str → Option Value} {base : Heap}
theorem ok_law {f : Addr} {fd : FuncData} (F : Fun K "law" "law" s_law f fd) (T : Txt K mg) (C_law_at : Can P w K mg base 1 "_law_at" ["_law_script", "_law_k"] (sp_law_at K)) (C_law_same : Can P w K mg base 2 "_law_same" ["_law_found", "_law_due"] (sp_law_same K)) (C_law_texts : Can P w K mg base 1 "_law_texts" ["_law_found", "_law_due"] (sp_law_texts K)) (C_law_couples : Can P w K mg base 1 "_law_couples" ["_law_cell", "_law_many"] (sp_law_couples K)) (C_law_judges : Can P w K mg base 1 "_law_judges" ["_law_cell", "_law_many"] (sp_law_judges K)) (C_law_made : Can P w K mg base 6 "_law_made" ["_law_couples_here", "_law_names"] (sp_law_made K)) (C_law_answered : Can P w K mg base 8 "_law_answered" ["_law_couples_here", "_law_names", "_law_rows"] (sp_law_answered K)) (C_law_bad_numbers : Can P w K mg base 1 "_law_bad_numbers" ["_law_row", "_law_kind", "_law_spot", "_law_cell"] (sp_law_bad_numbers K)) (C_law_bad_names : Can P w K mg base 1 "_law_bad_names" ["_law_row", "_law_kind", "_law_spot", "_law_cell"] (sp_law_bad_names K)) (C_law_new : Can P w K mg base 4 "_law_new" ["_law_sheet", "_law_row", "_law_names"] (sp_law_new K)) : FnOk P w K mg base CX0 9 f fd ["_law_script"] (sp_law K) := by
  refine F.ok sc_law (fun vs H Q E h => ?_) (fun cdv A outer s H vs Q E hr h => ?_)
  · obtain ⟨a, ns, rfl, _⟩ := h
    rfl
  · obtain ⟨a, ns, rfl, hS, hz, q⟩ := h
    refine ⟨_, (pss_cons (ps_set (i := 1) sc_law.nd rfl (Or.inr rfl) (pe_own C_law_couples (hr.mono (by decide)) rfl (pa_cons (pe_own C_law_at (hr.mono (by decide)) rfl (pa_cons (pv 0) (pa_cons pe_int pa_nil))) (pa_cons (pe_op op_add pe_int (pe_op op_mod (pe_own C_law_at (hr.mono (by decide)) rfl (pa_cons (pv 0) (pa_cons pe_int pa_nil))) pe_int)) pa_nil))))
      (pss_cons (ps_set (i := 2) sc_law.nd rfl (Or.inr rfl) (pe_own C_law_judges (hr.mono (by decide)) rfl (pa_cons (pe_own C_law_at (hr.mono (by decide)) rfl (pa_cons (pv 0) (pa_cons pe_int pa_nil))) (pa_cons (pe_op op_add pe_int (pe_op op_mod (pe_own C_law_at (hr.mono (by decide)) rfl (pa_cons (pv 0) (pa_cons pe_int pa_nil))) pe_int)) pa_nil))))
      (pss_cons (ps_set (i := 3) sc_law.nd rfl (Or.inl rfl) (pe_op op_mod (pe_own C_law_at (hr.mono (by decide)) rfl (pa_cons (pv 0) (pa_cons pe_int pa_nil))) pe_int))
      (pss_cons (ps_mid (ps_if (pt_cmpR op_gt (pv 3) pe_int (nomark _)) (pss_one (ps_set (i := 1) sc_law.nd rfl (Or.inr rfl) (pe_own C_law_bad_numbers (hr.mono (by decide)) rfl (pa_cons (pv 1) (pa_cons (pe_op op_sub (pv 3) pe_int) (pa_cons (pe_own C_law_at (hr.mono (by decide)) rfl (pa_cons (pv 0) (pa_cons pe_int pa_nil))) (pa_cons (pe_own C_law_at (hr.mono (by decide)) rfl (pa_cons (pv 0) (pa_cons pe_int pa_nil))) pa_nil))))))) pss_nil))
      (pss_cons (ps_set (i := 3) sc_law.nd rfl (Or.inl rfl) (pe_op op_mod (pe_own C_law_at (hr.mono (by decide)) rfl (pa_cons (pv 0) (pa_cons pe_int pa_nil))) pe_int))
      (pss_cons (ps_mid (ps_if (pt_cmpR op_gt (pv 3) pe_int (nomark _)) (pss_one (ps_set (i := 2) sc_law.nd rfl (Or.inr rfl) (pe_own C_law_bad_names (hr.mono (by decide)) rfl (pa_cons (pv 2) (pa_cons (pe_op op_sub (pv 3) pe_int) (pa_cons (pe_own C_law_at (hr.mono (by decide)) rfl (pa_cons (pv 0) (pa_cons pe_int pa_nil))) (pa_cons (pe_own C_law_at (hr.mono (by decide)) rfl (pa_cons (pv 0) (pa_cons pe_int pa_nil))) pa_nil))))))) pss_nil))
      (pss_cons (ps_setcomp (i := 4) (show CompScope (defScope s_law) ["_law_script", "_law_row", "_law_names", "_law_kind", "_law_fine", "_law_bad", "_law_plain", "_law_handed", "_law_made_here", "_law_many", "_law_told", "_law_due"] "_law_k" ["_law_row"] [1] _ from ⟨rfl, by decide +kernel, by decide +kernel, rfl, by decide +kernel, rfl, by decide +kernel, by decide +kernel⟩) rfl sc_law.nd rfl (Or.inl rfl) (pi_range1 rfl T.b_range (pa_cons (pe_callB call_len_seq (by rfl) T.b_len PySem.boot_len (pa_cons (pv 1) pa_nil)) pa_nil)) (fun _ _ _ _ _ => (pf_one (PW.pt (pw_and (pt_cmpR op_lt pe_int (pe_ix (ix_listK (K := K) rfl) (pv 1) (pv 0) (fun _ _ => rfl)) (nomark _)) (pw_and (pt_cmpR op_lt (pe_ix (ix_listK (K := K) rfl) (pv 1) (pv 0) (fun _ _ => rfl)) pe_int (nomark _)) (pw_and1 (pt_cmpR (op_notIn_seqK (K := K) rfl) (pe_ix (ix_listK (K := K) rfl) (pv 1) (pv 0) (fun _ _ => rfl)) (pe_slice (sl_listK (K := K) rfl) (pv 1) po_none (po_some (pv 0))) (by first | exact nomark _ | rfl)))))))) (fun _ _ _ _ _ => (pv 0)))
      (pss_cons (ps_mid (ps_set (i := 5) sc_law.nd rfl (Or.inl rfl) (pe_lst (pa_cons (pe_or (pe_cmpR op_eq (pe_callB call_len_seq (by rfl) T.b_len PySem.boot_len (pa_cons (pv 1) pa_nil)) pe_int (nomark _)) (pe_or (pe_cmpR op_gt (pe_callB call_len_seq (by rfl) T.b_len PySem.boot_len (pa_cons (pv 1) pa_nil)) pe_int (nomark _)) (pe_one (pe_cmpR op_lt (pe_callB call_len_seq (by rfl) T.b_len PySem.boot_len (pa_cons (pv 4) pa_nil)) (pe_callB call_len_seq (by rfl) T.b_len PySem.boot_len (pa_cons (pv 1) pa_nil)) (nomark _))))) pa_nil))))
      (pss_cons (ps_setcomp (i := 6) (show CompScope (defScope s_law) ["_law_script", "_law_row", "_law_names", "_law_kind", "_law_fine", "_law_bad", "_law_plain", "_law_handed", "_law_made_here", "_law_many", "_law_told", "_law_due"] "_law_k" ["_law_names"] [2] _ from ⟨rfl, by decide +kernel, by decide +kernel, rfl, by decide +kernel, rfl, by decide +kernel, by decide +kernel⟩) rfl sc_law.nd rfl (Or.inl rfl) (pi_range1 rfl T.b_range (pa_cons (pe_callB call_len_seq (by rfl) T.b_len PySem.boot_len (pa_cons (pv 2) pa_nil)) pa_nil)) (fun _ _ _ _ _ => (pf_one (PW.pt (pw_and (pt_cmpR (op_notIn_seqK (K := K) rfl) (pe_ix (ix_listK (K := K) rfl) (pv 1) (pv 0) (fun _ _ => rfl)) (pe_slice (sl_listK (K := K) rfl) (pv 1) po_none (po_some (pv 0))) (by first | exact nomark _ | rfl)) (pw_and1 (pt_cmpR op_lt pe_int (pe_callB call_len_str (by rfl) T.b_len PySem.boot_len (pa_cons (pe_ix (ix_listK (K := K) rfl) (pv 1) (pv 0) (fun _ _ => rfl)) pa_nil)) (nomark _))))))) (fun _ _ _ _ _ => (pv 0)))
      (pss_cons (ps_setcomp (i := 6) (show CompScope (defScope s_law) ["_law_script", "_law_row", "_law_names", "_law_kind", "_law_fine", "_law_bad", "_law_plain", "_law_handed", "_law_made_here", "_law_many", "_law_told", "_law_due"] "_law_k" ["_law_names"] [2] _ from ⟨rfl, by decide +kernel, by decide +kernel, rfl, by decide +kernel, rfl, by decide +kernel, by decide +kernel⟩) rfl sc_law.nd rfl (Or.inl rfl) (pi_list (pv 6)) (fun _ _ _ _ _ => (pf_one (PW.pt (pw_and (pt_cmpR op_lt (pe_callB call_len_str (by rfl) T.b_len PySem.boot_len (pa_cons (pe_ix (ix_listK (K := K) rfl) (pv 1) (pv 0) (fun _ _ => rfl)) pa_nil)) pe_int (nomark _)) (pw_and (pt_cmpR op_eq (pe_ix (ix_listK (K := K) rfl) (pv 1) (pv 0) (fun _ _ => rfl)) (pe_bm0K (K := K) rfl PySem.F.plainAttrs_str PySem.F.slot_str_lower PySem.F.type_str_lower ms_lowerB (pe_ix (ix_listK (K := K) rfl) (pv 1) (pv 0) (fun _ _ => rfl))) (nomark _)) (pw_and1 (pt_cmpR op_notIn_str pe_str (pe_ix (ix_listK (K := K) rfl) (pv 1) (pv 0) (fun _ _ => rfl)) (by first | exact nomark _ | rfl)))))))) (fun _ _ _ _ _ => (pv 0)))
      (pss_cons (ps_mid (ps_expr (pe_bm PySem.F.plainAttrs_list PySem.F.slot_list_append PySem.F.type_list_append mt_append (pv 5) (pa_cons (pe_and (pe_not (pe_ix ix_list (pv 5) pe_int (fun _ _ => rfl))) (pe_one (pe_or (pe_cmpR op_eq (pe_callB call_len_seq (by rfl) T.b_len PySem.boot_len (pa_cons (pv 2) pa_nil)) pe_int (nomark _)) (pe_or (pe_cmpR op_gt (pe_callB call_len_seq (by rfl) T.b_len PySem.boot_len (pa_cons (pv 2) pa_nil)) pe_int (nomark _)) (pe_one (pe_cmpR op_lt (pe_callB call_len_seq (by rfl) T.b_len PySem.boot_len (pa_cons (pv 6) pa_nil)) (pe_callB call_len_seq (by rfl) T.b_len PySem.boot_len (pa_cons (pv 2) pa_nil)) (nomark _))))))) pa_nil))))
      (pss_cons (ps_set (i := 7) sc_law.nd rfl (Or.inl rfl) (pe_lst (pa_cons (pe_callTy call_list_of (by rfl) T.b_list PyProof.Rows.boot_list (pa_cons (pv 1) pa_nil)) (pa_cons (pe_callTy call_list_of (by rfl) T.b_list PyProof.Rows.boot_list (pa_cons (pv 2) pa_nil)) pa_nil))))
      (pss_cons (ps_mid (ps_set (i := 8) sc_law.nd rfl (Or.inl rfl) (pe_own C_law_made (hr.mono (by decide)) rfl (pa_cons (pe_ix ix_list (pv 7) pe_int (fun _ _ => rfl)) (pa_cons (pe_ix ix_list (pv 7) pe_int (fun _ _ => rfl)) pa_nil)))))
      (pss_cons (ps_set (i := 9) sc_law.nd rfl (Or.inl rfl) (pe_ix ix_list (pe_lst (pa_cons pe_int (pa_cons pe_int (pa_cons pe_int pa_nil)))) (pe_op op_mod (pe_own C_law_at (hr.mono (by decide)) rfl (pa_cons (pv 0) (pa_cons pe_int pa_nil))) pe_int) (fun _ _ => rfl)))
      (pss_cons (ps_mid (ps_set (i := 10) sc_law.nd rfl (Or.inl rfl) (pe_own C_law_answered (hr.mono (by decide)) rfl (pa_cons (pe_ix ix_list (pv 7) pe_int (fun _ _ => rfl)) (pa_cons (pe_ix ix_list (pv 7) pe_int (fun _ _ => rfl)) (pa_cons (pe_slice sl_list (pe_lst (pa_cons pe_str (pa_cons pe_str pa_nil))) po_none (po_some (pv 9))) pa_nil))))))
      (pss_cons (ps_if (PW.pt (pw_or (pt_not (pt_val (pe_own C_law_same (hr.mono (by decide)) rfl (pa_cons (pe_ix ix_list (pv 7) pe_int (fun _ _ => rfl)) (pa_cons (pv 1) pa_nil))))) (pw_or1 (pt_not (pt_val (pe_own C_law_texts (hr.mono (by decide)) rfl (pa_cons (pe_ix ix_list (pv 7) pe_int (fun _ _ => rfl)) (pa_cons (pv 2) pa_nil)))))))) (pss_one (ps_ret pe_bl)) pss_nil)
      (pss_cons (ps_if (PW.pt (pw_or (pt_val (pe_ix ix_list (pv 5) pe_int (fun _ _ => rfl))) (pw_or1 (pt_val (pe_ix ix_list (pv 5) pe_int (fun _ _ => rfl)))))) (pss_one (ps_ret (pe_and (pe_cmpR (op_eq_list hr.units0) (pv 8) (pe_op op_cat (pv 5) (pe_lst (pa_cons pe_bl pa_nil))) (nomark _)) (pe_one (pe_cmpR (op_eq_list hr.units0) (pv 10) (pe_op op_cat (pv 5) (pe_lst (pa_cons pe_bl pa_nil))) (nomark _)))))) pss_nil)
      (pss_cons (ps_expr (pe_bm PySem.F.plainAttrs_list PySem.F.slot_list_append PySem.F.type_list_append mt_append (pe_ix ix_list (pv 7) pe_int (fun _ _ => rfl)) (pa_cons pe_int pa_nil)))
      (pss_cons (ps_expr (pe_bm0 PySem.F.plainAttrs_list PySem.F.slot_list_reverse PySem.F.type_list_reverse mt_reverse (pe_ix ix_list (pv 7) pe_int (fun _ _ => rfl))))
      (pss_cons (ps_set (i := 11) sc_law.nd rfl (Or.inl rfl) (pe_lst (pa_cons (pe_bm PySem.F.plainAttrs_str PySem.F.slot_str_join PySem.F.type_str_join ms_join pe_str (pa_cons (pe_comp (show CompScope (defScope s_law) ["_law_script", "_law_row", "_law_names", "_law_kind", "_law_fine", "_law_bad", "_law_plain", "_law_handed", "_law_made_here", "_law_many", "_law_told", "_law_due"] "_law_number" [] [] _ from ⟨rfl, by decide +kernel, by decide +kernel, rfl, by decide +kernel, rfl, by decide +kernel, by decide +kernel⟩) rfl (pi_list (pv 1)) (fun _ _ _ _ _ => pf_nil) (fun _ _ _ _ _ => (pe_callTy call_str (by rfl) T.b_str PyProof.Rows.boot_str (pa_cons (pv 0) pa_nil)))) pa_nil)) (pa_cons pe_str pa_nil))))
      (pss_one (ps_ret (pe_and (pe_own C_law_texts (hr.mono (by decide)) rfl (pa_cons (pv 10) (pa_cons (pe_slice sl_list (pv 11) po_none (po_some (pv 9))) pa_nil))) (pe_one (pe_own C_law_new (hr.mono (by decide)) rfl (pa_cons (pv 8) (pa_cons (pv 1) (pa_cons (pv 2) pa_nil)))))))))))))))))))))))))))), ?_⟩
    have hln := line_ge
    refine ⟨_, rfl, a, ns, 1, rfl, hS, by decide, _, rfl, a, ns, 0, rfl, hS, by decide, _, _, rfl, rfl, (by show (0 : Int) < 24; decide), _, _, rfl, rfl, ?_⟩
    dsimp only
    obtain ⟨many, hmn, m1, m2⟩ : ∃ many : Int, 1 + ns.getD (0 : Int).toNat 0 % 24 = many ∧ 1 ≤ many ∧ many ≤ 24 := ⟨_, rfl, by omega, by omega⟩
    rw [hmn]
    refine ⟨_, _, rfl, by omega, by omega, fun l1 H1 s1 f1 e1 => ?_⟩
    generalize hus : M1.couples _ _ = us at e1
    have hul : us.length = many.toNat := by rw [← hus, M1.couples_len]
    refine ⟨_, rfl, a, ns, 3, rfl, s1.seq hS, by decide, _, rfl, a, ns, 2, rfl, s1.seq hS, by decide, _, _, rfl, rfl, (by show (0 : Int) < 15; decide), _, _, rfl, rfl, ?_⟩
    dsimp only
    obtain ⟨panel, hpn, p1, p2⟩ : ∃ panel : Int, 1 + ns.getD (2 : Int).toNat 0 % 15 = panel ∧ 1 ≤ panel ∧ panel ≤ 15 := ⟨_, rfl, by omega, by omega⟩
    rw [hpn]
    refine ⟨_, _, rfl, by omega, by omega, fun l2 H2 ts s2 f2 e2 htl htn htg => ?_⟩
    have t2 := s1.trans s2
    refine ⟨_, rfl, a, ns, 4, rfl, t2.seq hS, by decide, _, _, rfl, rfl, (by show (0 : Int) < 8; decide), ?_⟩
    dsimp only
    generalize ns.getD (4 : Int).toNat 0 % 8 = kd
    -- the numbers
    refine ⟨fun σ' H' => ∃ (l1 : Addr) (us : List Int), σ' = [some (.ref a), some (.ref l1), some (.ref l2), some (.int kd), none, none, none, none, none, none, none, none] ∧ Same H2 H' ∧ H' l1 = some (.lst (us.map V.int)) ∧ us.length ≤ 25, ?_, ?_⟩
    · refine ⟨_, rfl, _, _, rfl, rfl, _, rfl, iteD (fun _ => ?_) (fun _ => ⟨l1, us, rfl, Same.refl _, s2 _ _ e1, by omega⟩)⟩
      exact ⟨_, rfl, _, rfl, _, _, rfl, rfl, _, rfl, a, ns, 5, rfl, t2.seq hS, by decide, _, rfl, a, ns, 6, rfl, t2.seq hS, by decide, l1, us, _, _, _, rfl, SqL.of (s2 _ _ e1), (fun z => by rw [z] at hul; simp at hul; omega), by omega, fun l H' ms s' f' e' hm => ⟨l, ms, rfl, s', e', hm⟩⟩
    clear e1 hul hus
    rintro σ' H3 ⟨l1, us, rfl, s3, e3, hul⟩
    have t3 := t2.trans s3
    refine ⟨_, rfl, a, ns, 7, rfl, t3.seq hS, by decide, _, _, rfl, rfl, (by show (0 : Int) < 8; decide), ?_⟩
    dsimp only
    generalize ns.getD (7 : Int).toNat 0 % 8 = kd2
    -- the names
    refine ⟨fun σ' H' => ∃ (l2 : Addr) (ts : List Str), σ' = [some (.ref a), some (.ref l1), some (.ref l2), some (.int kd2), none, none, none, none, none, none, none, none] ∧ Same H3 H' ∧ H' l2 = some (.lst (ts.map V.str)) ∧ ts.length ≤ 16 ∧ ∀ z ∈ ts, nice z, ?_, ?_⟩
    · refine ⟨_, rfl, _, _, rfl, rfl, _, rfl, iteD (fun _ => ?_) (fun _ => ⟨l2, ts, rfl, Same.refl _, s3 _ _ e2, by omega, fun z hz => good_nice (htg z hz)⟩)⟩
      exact ⟨_, rfl, _, rfl, _, _, rfl, rfl, _, rfl, a, ns, 8, rfl, t3.seq hS, by decide, _, rfl, a, ns, 9, rfl, t3.seq hS, by decide, l2, ts, _, _, _, rfl, SqL.of (s3 _ _ e2), (fun z => by rw [z] at htl; simp at htl; omega), by omega, htg, fun l H' ms s' f' e' hm hn => ⟨l, ms, rfl, s', e', hm, hn⟩⟩
    clear e2 htl htg htn
    rintro σ' H4 ⟨l2, ts, rfl, s4, e4, htl, hni⟩
    have t4 := t3.trans s4
    have u4 := s4 _ _ e3
    -- which numbers are fine
    refine ⟨_, rfl, l1, _, rfl, .inl (SqL.of u4), _, rfl, by omega, by rw [List.length_map]; omega, ?_⟩
    rw [List.length_map, show ((us.length : Nat) : Int).toNat = us.length by omega]
    refine comp_rangeF (n := us.length) (p := fineP us) (f := fun (k : Nat) => .int k) (by omega) (fun k H' R hk s' h => ?_) (fun k H' R hk s' h => ⟨_, rfl, h _ (Same.refl _)⟩) fun H5 s5 => ?_
    · have hat : atI (us.map V.int) (k : Int) = some (.int (us.getD k 0)) := atI_nat (ints_at hk)
      have u' := s' _ _ u4
      unfold fineP at h
      refine ⟨_, rfl, _, rfl, l1, _, _, _, rfl, rfl, SqL.of u', hat, _, _, rfl, rfl, _, rfl, iteD (fun h1 => ?_) (fun h1 => ?_)⟩
      · rw [decide_eq_true (show 0 < us.getD k 0 from h1), Bool.true_and] at h
        refine ⟨_, rfl, _, rfl, l1, _, _, _, rfl, rfl, SqL.of u', hat, _, _, rfl, rfl, _, rfl, iteD (fun h2 => ?_) (fun h2 => ?_)⟩
        · rw [decide_eq_true (show us.getD k 0 < 1000 from h2), Bool.true_and] at h
          refine ⟨_, rfl, _, rfl, l1, _, _, _, rfl, rfl, SqL.of u', hat, _, rfl, _, rfl, _, rfl, l1, _, rfl, SqL.of u', fun l5 hl5 => ?_⟩
          rw [cut_uptoI (by omega), show ((k : Int)).toNat = k by omega]
          refine ⟨l5, _, rfl, .inl SqL.new, rfl, flat_ints _, _, rfl, ?_⟩
          rw [show inV (V.int (us.getD k 0)) ((us.take k).map V.int) = decide (us.getD k 0 ∈ us.take k) from inV_ints ..]
          exact h _ (Same.new hl5)
        · rw [decide_eq_false (show ¬ us.getD k 0 < 1000 from h2), Bool.false_and] at h
          exact h _ (Same.refl _)
      · rw [decide_eq_false (show ¬ 0 < us.getD k 0 from h1), Bool.false_and] at h
        exact h _ (Same.refl _)
    intro lf hlf
    have s6 := s5.newT (o := .lst (((List.range us.length).filter (fineP us)).map fun (k : Nat) => V.int k)) hlf
    have e6 : upd H5 lf (.lst (((List.range us.length).filter (fineP us)).map fun (k : Nat) => V.int k)) lf = some (.lst (((List.range us.length).filter (fineP us)).map fun (k : Nat) => V.int k)) := upd_same
    generalize hH6 : upd H5 lf _ = H6 at s6 e6 ⊢
    have u6 := s6 _ _ u4
    have j6 := s6 _ _ e4
    -- bad couples
    have hbad := badC us
    have S7 : ∀ b : Bool, b = !M1.goodC us → ∀ l, H6 l = none → ∃ lb : Addr, [some (V.ref a), some (.ref l1), some (.ref l2), some (.int kd2), some (.ref lf), some (.ref l), none, none, none, none, none, none] = [some (.ref a), some (.ref l1), some (.ref l2), some (.int kd2), some (.ref lf), some (.ref lb), none, none, none, none, none, none] ∧ Same H6 (upd H6 l (.lst [.bl b])) ∧ upd H6 l (.lst [.bl b]) lb = some (.lst [.bl (!M1.goodC us)]) := fun b hb l hl => ⟨l, rfl, Same.new hl, by rw [hb]; exact upd_same⟩
    refine ⟨fun σ' H' => ∃ lb : Addr, σ' = [some (.ref a), some (.ref l1), some (.ref l2), some (.int kd2), some (.ref lf), some (.ref lb), none, none, none, none, none, none] ∧ Same H6 H' ∧ H' lb = some (.lst [.bl (!M1.goodC us)]), ?_, ?_⟩
    · refine ⟨_, rfl, l1, _, rfl, .inl (SqL.of u6), rfl, _, rfl, ?_⟩
      rw [List.length_map]
      refine iteD (fun h1 => ?_) (fun h1 => ?_)
      · have h1 : us.length = 0 := by have := V.int.inj h1; omega
        rw [decide_eq_true h1, Bool.true_or] at hbad
        exact ⟨(by show 1 ≤ sizeLine; decide), S7 _ hbad⟩
      · have h1 : ¬ us.length = 0 := fun z => h1 (by rw [z]; rfl)
        rw [decide_eq_false h1, Bool.false_or] at hbad
        refine ⟨_, rfl, l1, _, rfl, .inl (SqL.of u6), _, _, rfl, rfl, _, rfl, ?_⟩
        rw [List.length_map]
        refine iteD (fun h2 => ?_) (fun h2 => ?_)
        · have h2 : 24 < us.length := by have h2 : (us.length : Int) > 24 := h2; omega
          rw [decide_eq_true h2, Bool.true_or] at hbad
          exact ⟨(by show 1 ≤ sizeLine; decide), S7 _ hbad⟩
        · have h2 : ¬ 24 < us.length := fun z => h2 (by show (us.length : Int) > 24; omega)
          rw [decide_eq_false h2, Bool.false_or] at hbad
          refine ⟨_, rfl, lf, _, rfl, .inl (SqL.of e6), _, rfl, l1, _, rfl, .inl (SqL.of u6), _, _, rfl, rfl, (by show 1 ≤ sizeLine; decide), S7 _ ?_⟩
          rw [List.length_map, List.length_map, ← hbad]
          exact decide_eq_decide.mpr ⟨fun z => by omega, fun z => by omega⟩
    rintro σ' H7 ⟨lb, rfl, s67, e7⟩
    have s7 := s6.trans s67
    have u7 := s7 _ _ u4
    have j7 := s7 _ _ e4
    -- the names that are plain
    refine ⟨_, rfl, l2, _, rfl, .inl (SqL.of j7), _, rfl, by omega, by rw [List.length_map]; omega, ?_⟩
    rw [List.length_map, show ((ts.length : Nat) : Int).toNat = ts.length by omega]
    refine comp_rangeF (n := ts.length) (p := plainP ts) (f := fun (k : Nat) => .int k) (by omega) (fun k H' R hk s' h => ?_) (fun k H' R hk s' h => ⟨_, rfl, h _ (Same.refl _)⟩) fun H8 s8 => ?_
    · have hat : atI (ts.map V.str) (k : Int) = some (.str (ts.getD k "")) := atI_nat (strs_at hk)
      have j' := s' _ _ j7
      have hzl := (hni _ (getD_inS hk)).1
      unfold plainP at h
      refine ⟨_, rfl, _, rfl, l2, _, _, _, rfl, rfl, SqL.of j', hat, _, rfl, _, rfl, _, rfl, l2, _, rfl, SqL.of j', fun l5 hl5 => ?_⟩
      rw [cut_uptoS (by omega), show ((k : Int)).toNat = k by omega]
      have s5' := Same.new (o := .lst ((ts.take k).map V.str)) hl5
      refine ⟨l5, _, rfl, .inl SqL.new, rfl, flat_strs _, _, rfl, ?_⟩
      rw [inV_strs]
      refine iteND (fun h1 => ?_) (fun h1 => ?_)
      · rw [decide_eq_false h1, Bool.not_false, Bool.true_and] at h
        refine ⟨_, rfl, _, rfl, l2, _, _, _, rfl, rfl, SqL.of (s5' _ _ j'), hat, _, rfl, by omega, _, _, rfl, rfl, _, rfl, ?_⟩
        have e : decide ((0 : Int) < ((ts.getD k "").length : Int)) = decide (0 < (ts.getD k "").length) := decide_eq_decide.mpr ⟨fun z => by omega, fun z => by omega⟩
        rw [← e] at h
        exact h _ s5'
      · rw [decide_eq_true h1, Bool.not_true, Bool.false_and] at h
        exact h _ s5'
    intro lp hlp
    have s9 := s8.newT (o := .lst (((List.range ts.length).filter (plainP ts)).map fun (k : Nat) => V.int k)) hlp
    have e9 : upd H8 lp (.lst (((List.range ts.length).filter (plainP ts)).map fun (k : Nat) => V.int k)) lp = some (.lst ((((List.range ts.length).filter (plainP ts)).map fun (k : Nat) => (k : Int)).map V.int)) := by rw [upd_same, List.map_map]; rfl
    generalize hH9 : upd H8 lp _ = H9 at s9 e9 ⊢
    have j9 := s9 _ _ j7
    have hpl : ((List.range ts.length).filter (plainP ts)).length ≤ 16 := Nat.le_trans (List.length_filter_le _ _) (by rw [List.length_range]; exact htl)
    refine ⟨_, rfl, lp, rfl, ⟨_, SqL.of e9⟩, ?_⟩
    refine comp_intsF (p := fun x => plainQ (ts.getD x.toNat "")) (SqL.of e9) (by rw [List.length_map]; omega) (fun x H' R hx s' h => ?_) (fun x H' R h => ⟨_, rfl, h⟩) fun H10 s10 => ?_
    · obtain ⟨k, hk, rfl⟩ := List.mem_map.mp hx
      have hk := List.mem_range.mp (List.mem_filter.mp hk).1
      have hat : atI (ts.map V.str) (k : Int) = some (.str (ts.getD k "")) := atI_nat (strs_at hk)
      have j' := s' _ _ j9
      have hzl := (hni _ (getD_inS hk)).1
      rw [show ((k : Int)).toNat = k by omega] at h
      generalize ts.getD k "" = z at hat hzl h
      unfold plainQ at h
      refine ⟨_, rfl, _, rfl, l2, _, _, _, rfl, rfl, SqL.of j', hat, _, rfl, by omega, _, _, rfl, rfl, _, rfl, iteD (fun h1 => ?_) (fun h1 => ?_)⟩
      · have h1 : z.length < 9 := by have h1 : ((z.length : Nat) : Int) < 9 := h1; omega
        rw [decide_eq_true h1, Bool.true_and] at h
        refine ⟨_, rfl, _, rfl, l2, _, _, _, rfl, rfl, SqL.of j', hat, _, rfl, _, rfl, l2, _, _, _, rfl, rfl, SqL.of j', hat, rfl, z, rfl, rfl, by omega, fun hy => ?_⟩
        refine ⟨rfl, _, rfl, iteD (fun h2 => ?_) (fun h2 => ?_)⟩
        · rw [decide_eq_true (V.str.inj h2), Bool.true_and] at h
          refine ⟨_, rfl, _, rfl, l2, _, _, _, rfl, rfl, SqL.of j', hat, _, _, rfl, rfl, _, rfl, ?_⟩
          rw [blank_in]
          exact h _ (Same.refl _)
        · rw [decide_eq_false (fun w => h2 (by rw [← w])), Bool.false_and] at h
          exact h _ (Same.refl _)
      · have h1 : ¬ z.length < 9 := fun w => h1 (by show ((z.length : Nat) : Int) < 9; omega)
        rw [decide_eq_false h1, Bool.false_and] at h
        exact h _ (Same.refl _)
    intro lq hlq
    have hpq : ((((List.range ts.length).filter (plainP ts)).map fun (k : Nat) => (k : Int)).filter fun x => plainQ (ts.getD x.toNat "")).length = (((List.range ts.length).filter (plainP ts)).filter fun k => plainQ (ts.getD k "")).length := by
      rw [List.filter_map, List.length_map]
      rfl
    have s11 := s10.newT (o := .lst (((((List.range ts.length).filter (plainP ts)).map fun (k : Nat) => (k : Int)).filter fun x => plainQ (ts.getD x.toNat "")).map V.int)) hlq
    have e11 : upd H10 lq (.lst (((((List.range ts.length).filter (plainP ts)).map fun (k : Nat) => (k : Int)).filter fun x => plainQ (ts.getD x.toNat "")).map V.int)) lq = some (.lst (((((List.range ts.length).filter (plainP ts)).map fun (k : Nat) => (k : Int)).filter fun x => plainQ (ts.getD x.toNat "")).map V.int)) := upd_same
    generalize hH11 : upd H10 lq _ = H11 at s11 e11 ⊢
    have b11 := s11 _ _ (s9 _ _ e7)
    have j11 := s11 _ _ j9
    have u11 := s11 _ _ (s9 _ _ u7)
    -- bad judges
    have hbj := badJ hni
    refine ⟨fun σ' H' => σ' = [some (.ref a), some (.ref l1), some (.ref l2), some (.int kd2), some (.ref lf), some (.ref lb), some (.ref lq), none, none, none, none, none] ∧ (∀ b o, H11 b = some o → b ≠ lb → H' b = some o) ∧ H' lb = some (.lst [.bl (!M1.goodC us), .bl (M1.goodC us && !M2.goodJ ts)]), ?_, ?_⟩
    · have fin : ∀ b : Bool, b = (M1.goodC us && !M2.goodJ ts) → [some (V.ref a), some (.ref l1), some (.ref l2), some (.int kd2), some (.ref lf), some (.ref lb), some (.ref lq), none, none, none, none, none] = [some (.ref a), some (.ref l1), some (.ref l2), some (.int kd2), some (.ref lf), some (.ref lb), some (.ref lq), none, none, none, none, none] ∧ (∀ c o, H11 c = some o → c ≠ lb → upd H11 lb (.lst ([.bl (!M1.goodC us)] ++ [.bl b])) c = some o) ∧ upd H11 lb (.lst ([.bl (!M1.goodC us)] ++ [.bl b])) lb = some (.lst [.bl (!M1.goodC us), .bl (M1.goodC us && !M2.goodJ ts)]) := fun b hb => ⟨rfl, fun c o e n => by rw [upd_ne n]; exact e, by rw [upd_same, hb]; rfl⟩
      refine ⟨_, rfl, .inl ⟨rfl, _, SqL.of b11⟩, _, rfl, lb, _, _, _, rfl, rfl, SqL.of b11, rfl, _, rfl, _, rfl, ?_⟩
      rw [Bool.not_not]
      refine iteB (fun h0 => ?_) (fun h0 => ?_)
      · refine ⟨_, rfl, l2, _, rfl, .inl (SqL.of j11), rfl, _, rfl, ?_⟩
        rw [List.length_map]
        refine iteD (fun h1 => ?_) (fun h1 => ?_)
        · have h1 : ts.length = 0 := by have := V.int.inj h1; omega
          rw [decide_eq_true h1, Bool.true_or] at hbj
          exact ⟨lb, _, _, rfl, rfl, b11, (by show 1 < sizeLine; decide), fin _ (by rw [h0, ← hbj]; rfl)⟩
        · have h1 : ¬ ts.length = 0 := fun z => h1 (by rw [z]; rfl)
          rw [decide_eq_false h1, Bool.false_or] at hbj
          refine ⟨_, rfl, l2, _, rfl, .inl (SqL.of j11), _, _, rfl, rfl, _, rfl, ?_⟩
          rw [List.length_map]
          refine iteD (fun h2 => ?_) (fun h2 => ?_)
          · have h2 : 15 < ts.length := by have h2 : (ts.length : Int) > 15 := h2; omega
            rw [decide_eq_true h2, Bool.true_or] at hbj
            exact ⟨lb, _, _, rfl, rfl, b11, (by show 1 < sizeLine; decide), fin _ (by rw [h0, ← hbj]; rfl)⟩
          · have h2 : ¬ 15 < ts.length := fun z => h2 (by show (ts.length : Int) > 15; omega)
            rw [decide_eq_false h2, Bool.false_or] at hbj
            refine ⟨_, rfl, lq, _, rfl, .inl (SqL.of e11), _, rfl, l2, _, rfl, .inl (SqL.of j11), _, _, rfl, rfl, lb, _, _, rfl, rfl, b11, (by show 1 < sizeLine; decide), fin _ ?_⟩
            rw [List.length_map, List.length_map, hpq, h0, Bool.true_and, ← hbj]
            exact decide_eq_decide.mpr ⟨fun z => by omega, fun z => by omega⟩
      · exact ⟨lb, _, _, rfl, rfl, b11, (by show 1 < sizeLine; decide), fin _ (by rw [h0]; rfl)⟩
    rintro σ' H12 ⟨rfl, k12, b12⟩
    have ubl : ∀ {w : List Int} {c : Bool}, HO.lst (w.map V.int) ≠ .lst [.bl c] := fun {w c} z => by
      injection z with z
      cases w with
      | nil => cases z
      | cons x w => simp at z
    have jbl : ∀ {w : List Str} {c : Bool}, HO.lst (w.map V.str) ≠ .lst [.bl c] := fun {w c} z => by
      injection z with z
      cases w with
      | nil => cases z
      | cons x w => simp at z
    have u12 := k12 _ _ u11 (ne_of u11 b11 ubl)
    have j12 := k12 _ _ j11 (ne_of j11 b11 jbl)
    have a11 : SqL K H11 a (ns.map V.int) := (t4.trans (s7.trans (s9.trans s11))).seq hS
    have a12 : SqL K H12 a (ns.map V.int) := by
      rcases a11 with (e | ⟨o, e⟩) | h
      · exact .inl (.inl (k12 _ _ e (ne_of e b11 ubl)))
      · exact .inl (.inr ⟨o, k12 _ _ e (ne_of e b11 fun z => by cases z)⟩)
      · exact .inr h
    -- what is handed in
    refine ⟨_, rfl, l1, _, rfl, .inl (SqL.of u12), fun h0 hh0 => ?_⟩
    have s13 := Same.new (o := .lst (us.map V.int)) hh0
    have x13 : upd H12 h0 (.lst (us.map V.int)) h0 = some (.lst (us.map V.int)) := upd_same
    generalize hH13 : upd H12 h0 _ = H13 at s13 x13 ⊢
    refine ⟨_, rfl, l2, _, rfl, .inl (SqL.of (s13 _ _ j12)), fun h1 hh1 => ?_⟩
    have s14 := Same.new (o := .lst (ts.map V.str)) hh1
    have y14 : upd H13 h1 (.lst (ts.map V.str)) h1 = some (.lst (ts.map V.str)) := upd_same
    generalize hH14 : upd H13 h1 _ = H14 at s14 y14 ⊢
    refine ⟨(by show 2 ≤ sizeLine; decide), fun lh hlh => ?_⟩
    have s15 := Same.new (o := .lst [V.ref h0, V.ref h1]) hlh
    have z15 : upd H14 lh (.lst [V.ref h0, V.ref h1]) lh = some (.lst [V.ref h0, V.ref h1]) := upd_same
    generalize hH15 : upd H14 lh _ = H15 at s15 z15 ⊢
    have t15 := (s13.trans s14).trans s15
    have u15 := t15 _ _ u12
    have j15 := t15 _ _ j12
    have b15 := t15 _ _ b12
    have a15 := t15.seq a12
    have x15 := (s14.trans s15) _ _ x13
    have y15 := s15 _ _ y14
    have n10 : h0 ≠ l1 := (ne_of_none u12 hh0).symm
    have n11 : h1 ≠ l1 := (ne_of_none (s13 _ _ u12) hh1).symm
    have n20 : h0 ≠ l2 := (ne_of_none j12 hh0).symm
    have n21 : h1 ≠ l2 := (ne_of_none (s13 _ _ j12) hh1).symm
    have n01 : h0 ≠ h1 := ne_of_none x13 hh1
    have hz9 : ∀ z ∈ ts, z.length ≤ 1000 := fun z hz => by have := (hni z hz).1; omega
    clear k12 b11 u11 j11 a11 s13 s14 s15 x13 y14 hH13 hH14 hH15
    -- a sheet, or not
    refine ⟨fun σ' H' => ∃ m : Addr, σ' = [some (.ref a), some (.ref l1), some (.ref l2), some (.int kd2), some (.ref lf), some (.ref lb), some (.ref lq), some (.ref lh), some (.ref m), none, none, none] ∧ Same H15 H' ∧ ((M1.goodC us = false ∧ H' m = some (.lst [.bl true, .bl false, .bl true])) ∨ (M1.goodC us = true ∧ M2.goodJ ts = false ∧ H' m = some (.lst [.bl false, .bl true, .bl true])) ∨ (M1.goodC us = true ∧ M2.goodJ ts = true ∧ ∃ F, SheetAt K H' m F (Sh.new us ts) ∧ ∀ b o, H15 b = some o → ¬ F b)), ?_, ?_⟩
    · exact ⟨_, rfl, lh, _, _, _, rfl, rfl, SqL.of z15, rfl, _, rfl, lh, _, _, _, rfl, rfl, SqL.of z15, rfl, h0, h1, us, ts, rfl, SqL.of x15, by omega, SqL.of y15, by omega, hz9, fun z l H' s' e' => ⟨l, rfl, s', .inl ⟨z, e'⟩⟩, fun z1 z2 l H' s' e' => ⟨l, rfl, s', .inr (.inl ⟨z1, z2, e'⟩)⟩, fun z1 z2 x H' F h' k' => ⟨x, rfl, fun b o e => (k' b o e).1, .inr (.inr ⟨z1, z2, F, h', fun b o e => (k' b o e).2⟩)⟩⟩
    rintro σ' H16 ⟨m, rfl, s16, hm⟩
    -- how many rows
    refine ⟨(by show 3 ≤ sizeLine; decide), fun ln hln' => ?_⟩
    have s17 := Same.new (o := .lst (([2, 0, 1] : List Int).map V.int)) hln'
    change Same H16 (upd H16 ln (.lst [.int 2, .int 0, .int 1])) at s17
    have x0 : 0 ≤ ns.getD (10 : Int).toNat 0 % 3 := Int.emod_nonneg _ (by decide)
    have x1 : ns.getD (10 : Int).toNat 0 % 3 < 3 := Int.emod_lt_of_pos _ (by decide)
    obtain ⟨n, hn2, hat⟩ : ∃ n : Nat, n ≤ 2 ∧ atI [V.int 2, V.int 0, V.int 1] (ns.getD (10 : Int).toNat 0 % 3) = some (.int (n : Int)) := by
      generalize ns.getD (10 : Int).toNat 0 % 3 = r at x0 x1
      have : r = 0 ∨ r = 1 ∨ r = 2 := by omega
      rcases this with rfl | rfl | rfl
      · exact ⟨2, by decide, rfl⟩
      · exact ⟨0, by decide, rfl⟩
      · exact ⟨1, by decide, rfl⟩
    have t17 := s16.trans s17
    refine ⟨_, rfl, a, ns, 10, rfl, t17.seq a15, by decide, _, _, rfl, rfl, (by show (0 : Int) < 3; decide), ln, _, _, _, rfl, rfl, SqL.new, hat, ?_⟩
    generalize hH17 : upd H16 ln _ = H17 at s17 t17 ⊢
    -- what the desk tells
    refine ⟨fun σ' H' => ∃ r : Addr, σ' = [some (.ref a), some (.ref l1), some (.ref l2), some (.int kd2), some (.ref lf), some (.ref lb), some (.ref lq), some (.ref lh), some (.ref m), some (.int n), some (.ref r), none] ∧ Same H17 H' ∧ H17 r = none ∧ ((M1.goodC us = false ∧ H' r = some (.lst [.bl true, .bl false, .bl true])) ∨ (M1.goodC us = true ∧ M2.goodJ ts = false ∧ H' r = some (.lst [.bl false, .bl true, .bl true])) ∨ (M1.goodC us = true ∧ M2.goodJ ts = true ∧ H' r = some (.lst ((due18 us n).map V.str)))), ?_, ?_⟩
    · refine ⟨_, rfl, lh, _, _, _, rfl, rfl, SqL.of (t17 _ _ z15), rfl, _, rfl, lh, _, _, _, rfl, rfl, SqL.of (t17 _ _ z15), rfl, (by show 2 ≤ sizeLine; decide), fun l5 hl5 => ?_⟩
      have s18 := Same.new (o := .lst (([Str.ofString "couples", Str.ofString "seal"] : List Str).map V.str)) hl5
      change Same H17 (upd H17 l5 (.lst [.str (Str.ofString "couples"), .str (Str.ofString "seal")])) at s18
      refine ⟨_, rfl, _, rfl, l5, _, rfl, SqL.new, fun l6 hl6 => ?_⟩
      rw [show cutV [V.str (Str.ofString "couples"), V.str (Str.ofString "seal")] none (some (n : Int)) = (([Str.ofString "couples", Str.ofString "seal"] : List Str).take n).map V.str from by
        have := cut_uptoS (ts := [Str.ofString "couples", Str.ofString "seal"]) (k := (n : Int)) (by omega)
        rw [show ((n : Int)).toNat = n by omega] at this
        exact this]
      have s19 := s18.newT (o := .lst ((([Str.ofString "couples", Str.ofString "seal"] : List Str).take n).map V.str)) hl6
      have e19 : upd (upd H17 l5 (.lst [.str (Str.ofString "couples"), .str (Str.ofString "seal")])) l6 (.lst ((([Str.ofString "couples", Str.ofString "seal"] : List Str).take n).map V.str)) l6 = some (.lst ((([Str.ofString "couples", Str.ofString "seal"] : List Str).take n).map V.str)) := upd_same
      generalize hH19 : upd (upd H17 l5 _) l6 _ = H19 at s19 e19 ⊢
      have t19 := t17.trans s19
      refine ⟨h0, h1, l6, us, ts, n, rfl, SqL.of (t19 _ _ x15), by omega, SqL.of (t19 _ _ y15), by omega, hz9, hn2, e19, fun z l H' s' f' e' => ⟨l, rfl, s19.trans s', s19.free f', .inl ⟨z, e'⟩⟩, fun z1 z2 l H' s' f' e' => ⟨l, rfl, s19.trans s', s19.free f', .inr (.inl ⟨z1, z2, e'⟩)⟩, fun z1 z2 l H' s' f' e' => ⟨l, rfl, s19.trans s', s19.free f', .inr (.inr ⟨z1, z2, e'⟩)⟩⟩
    rintro σ' H20 ⟨r, rfl, s20, f20, hr20⟩
    have t20 := t17.trans s20
    have v20 := s17.trans s20
    -- the lists stay
    refine ⟨_, rfl, lh, _, _, _, rfl, rfl, SqL.of (t20 _ _ z15), rfl, _, rfl, h0, l1, us, us, rfl, SqL.of (t20 _ _ x15), SqL.of (t20 _ _ u15), by omega, ?_⟩
    rw [decide_eq_true rfl]
    refine ⟨_, rfl, iteF ?_⟩
    refine ⟨_, rfl, lh, _, _, _, rfl, rfl, SqL.of (t20 _ _ z15), rfl, _, rfl, h1, l2, ts, ts, rfl, SqL.of (t20 _ _ y15), SqL.of (t20 _ _ j15), by omega, ?_⟩
    rw [decide_eq_true rfl]
    refine ⟨_, rfl, iteF ?_⟩
    -- bad ones
    have b20 := t20 _ _ b15
    refine ⟨_, rfl, lb, _, _, _, rfl, rfl, SqL.of b20, rfl, _, rfl, ?_⟩
    rcases hm with ⟨zc, hm⟩ | ⟨zc, zj, hm⟩ | ⟨zc, zj, F, hSm, kF⟩
    · rw [zc] at b20 ⊢
      refine iteT ?_
      rcases hr20 with ⟨_, hr⟩ | ⟨w, _⟩ | ⟨w, _⟩
      · refine ⟨_, rfl, _, rfl, (by show 1 ≤ sizeLine; decide), fun l7 hl7 => ?_⟩
        have s21 := Same.new (o := .lst [V.bl true]) hl7
        refine ⟨lb, l7, _, [V.bl true], rfl, rfl, s21 _ _ b20, upd_same, (by show 3 ≤ sizeLine; decide), fun l8 hl8 => ?_⟩
        have s22 := s21.newT (o := .lst [V.bl true, V.bl false, V.bl true]) hl8
        refine ⟨m, l8, _, _, rfl, rfl, SqL.of (s22 _ _ (v20 _ _ hm)), SqL.new, rfl, rfl, true, (by rfl), iteT ?_⟩
        refine ⟨_, rfl, _, rfl, (by show 1 ≤ sizeLine; decide), fun l9 hl9 => ?_⟩
        have s23 := s22.newT (o := .lst [V.bl true]) hl9
        refine ⟨lb, l9, _, [V.bl true], rfl, rfl, s23 _ _ b20, upd_same, (by show 3 ≤ sizeLine; decide), fun l10 hl10 => ?_⟩
        have s24 := s23.newT (o := .lst [V.bl true, V.bl false, V.bl true]) hl10
        refine ⟨r, l10, _, _, rfl, rfl, SqL.of (s24 _ _ hr), SqL.new, rfl, rfl, ?_⟩
        exact q _
      · rw [zc] at w; cases w
      · rw [zc] at w; cases w
    · rw [zc, zj] at b20
      rw [zc]
      refine iteF ?_
      refine ⟨_, rfl, lb, _, _, _, rfl, rfl, SqL.of b20, rfl, _, rfl, iteT ?_⟩
      rcases hr20 with ⟨w, _⟩ | ⟨_, _, hr⟩ | ⟨_, w, _⟩
      · rw [zc] at w; cases w
      · refine ⟨_, rfl, _, rfl, (by show 1 ≤ sizeLine; decide), fun l7 hl7 => ?_⟩
        have s21 := Same.new (o := .lst [V.bl true]) hl7
        refine ⟨lb, l7, _, [V.bl true], rfl, rfl, s21 _ _ b20, upd_same, (by show 3 ≤ sizeLine; decide), fun l8 hl8 => ?_⟩
        have s22 := s21.newT (o := .lst [V.bl false, V.bl true, V.bl true]) hl8
        refine ⟨m, l8, _, _, rfl, rfl, SqL.of (s22 _ _ (v20 _ _ hm)), SqL.new, rfl, rfl, true, (by rfl), iteT ?_⟩
        refine ⟨_, rfl, _, rfl, (by show 1 ≤ sizeLine; decide), fun l9 hl9 => ?_⟩
        have s23 := s22.newT (o := .lst [V.bl true]) hl9
        refine ⟨lb, l9, _, [V.bl true], rfl, rfl, s23 _ _ b20, upd_same, (by show 3 ≤ sizeLine; decide), fun l10 hl10 => ?_⟩
        have s24 := s23.newT (o := .lst [V.bl false, V.bl true, V.bl true]) hl10
        refine ⟨r, l10, _, _, rfl, rfl, SqL.of (s24 _ _ hr), SqL.new, rfl, rfl, ?_⟩
        exact q _
      · rw [zj] at w; cases w
    -- good ones
    have hr : H20 r = some (.lst ((due18 us n).map V.str)) := by
      rcases hr20 with ⟨w, _⟩ | ⟨_, w, _⟩ | ⟨_, _, hr⟩
      · rw [zc] at w; cases w
      · rw [zj] at w; cases w
      · exact hr
    rw [zc, zj] at b20
    rw [zc]
    refine iteF ?_
    refine ⟨_, rfl, lb, _, _, _, rfl, rfl, SqL.of b20, rfl, _, rfl, iteF ?_⟩
    have hS20 := hSm.same v20
    obtain ⟨⟨c1, c24⟩, cnd, crg⟩ := (M1.goodC_iff us).mp zc
    have x20 := t20 _ _ x15
    have y20 := t20 _ _ y15
    have z20 := t20 _ _ z15
    have u20 := t20 _ _ u15
    have j20 := t20 _ _ j15
    have nr0 : r ≠ h0 := (ne_of_none (t17 _ _ x15) f20).symm
    have nr1 : r ≠ h1 := (ne_of_none (t17 _ _ y15) f20).symm
    refine ⟨_, rfl, lh, _, _, _, rfl, rfl, SqL.of z20, rfl, .inl ⟨rfl, _, SqL.of x20⟩, h0, _, _, rfl, rfl, x20, by rw [List.length_map]; omega, ?_⟩
    have hS21 := hS20.put (o := .lst (us.map V.int ++ [V.int 5])) (kF _ _ x15)
    have zh0 : lh ≠ h0 := ne_of z20 x20 fun z => by
      injection z with z
      cases us with
      | nil => cases z
      | cons x w => simp at z
    have z21 : upd H20 h0 (.lst (us.map V.int ++ [V.int 5])) lh = some (.lst [V.ref h0, V.ref h1]) := by rw [upd_ne zh0]; exact z20
    have y21 : upd H20 h0 (.lst (us.map V.int ++ [V.int 5])) h1 = some (.lst (ts.map V.str)) := by rw [upd_ne n01.symm]; exact y20
    have u21 : upd H20 h0 (.lst (us.map V.int ++ [V.int 5])) l1 = some (.lst (us.map V.int)) := by rw [upd_ne n10.symm]; exact u20
    have j21 : upd H20 h0 (.lst (us.map V.int ++ [V.int 5])) l2 = some (.lst (ts.map V.str)) := by rw [upd_ne n20.symm]; exact j20
    have r21 : upd H20 h0 (.lst (us.map V.int ++ [V.int 5])) r = some (.lst ((due18 us n).map V.str)) := by rw [upd_ne nr0]; exact hr
    generalize hH21 : upd H20 h0 _ = H21 at hS21 z21 y21 u21 j21 r21 ⊢
    refine ⟨_, rfl, lh, _, _, _, rfl, rfl, SqL.of z21, rfl, .inl ⟨rfl, _, SqL.of y21⟩, h1, _, rfl, rfl, y21, ?_⟩
    have hS22 := hS21.put (o := .lst (ts.map V.str).reverse) (kF _ _ y15)
    have u22 : upd H21 h1 (.lst (ts.map V.str).reverse) l1 = some (.lst (us.map V.int)) := by rw [upd_ne n11.symm]; exact u21
    have j22 : upd H21 h1 (.lst (ts.map V.str).reverse) l2 = some (.lst (ts.map V.str)) := by rw [upd_ne n21.symm]; exact j21
    have r22 : upd H21 h1 (.lst (ts.map V.str).reverse) r = some (.lst ((due18 us n).map V.str)) := by rw [upd_ne nr1]; exact r21
    generalize hH22 : upd H21 h1 _ = H22 at hS22 u22 j22 r22 ⊢
    -- what is due
    refine ⟨rfl, _, rfl, l1, rfl, ⟨_, SqL.of u22⟩, ?_⟩
    refine comp_strN (f := tN) (SqL.of u22) (by omega) (fun y H' R hy s' h => ⟨_, rfl, .inl ⟨_, rfl, log_ok (by have := crg y hy; omega), h H' (Same.refl _)⟩⟩) fun H23 s23 => ?_
    intro l7 hl7
    have s24 := s23.newT (o := .lst ((us.map tN).map V.str)) hl7
    refine ⟨_, l7, us.map tN, rfl, rfl, SqL.new, by decide +kernel, by rw [List.length_map]; omega, fun w hw => ?_, (by show 2 ≤ sizeLine; decide), fun ld hld => ?_⟩
    · obtain ⟨y, hy, rfl⟩ := List.mem_map.mp hw
      have := M6.tN_short (crg y hy)
      omega
    have s25 := s24.newT (o := .lst (([Txt.join M6.blank (us.map tN), Str.ofString "sealed"] : List Str).map V.str)) hld
    have e25 : upd (upd H23 l7 (.lst ((us.map tN).map V.str))) ld (.lst (([Txt.join M6.blank (us.map tN), Str.ofString "sealed"] : List Str).map V.str)) ld = some (.lst (([Txt.join M6.blank (us.map tN), Str.ofString "sealed"] : List Str).map V.str)) := upd_same
    change Same H22 (upd (upd H23 l7 (.lst ((us.map tN).map V.str))) ld (.lst [.str (Txt.join (Str.ofString " ") (us.map tN)), .str (Str.ofString "sealed")])) at s25
    change upd (upd H23 l7 (.lst ((us.map tN).map V.str))) ld (.lst [.str (Txt.join (Str.ofString " ") (us.map tN)), .str (Str.ofString "sealed")]) ld = _ at e25
    generalize hH25 : upd (upd H23 l7 _) ld _ = H25 at s25 e25 ⊢
    refine ⟨_, rfl, _, rfl, _, rfl, _, rfl, ld, _, rfl, SqL.of e25, fun l8 hl8 => ?_⟩
    rw [cut_uptoS (by omega), show ((n : Int)).toNat = n by omega]
    have s26 := s25.newT (o := .lst ((due18 us n).map V.str)) hl8
    change Same H22 (upd H25 l8 (.lst (([Txt.join M6.blank (us.map tN), Str.ofString "sealed"].take n).map V.str))) at s26
    have hdl : (due18 us n).length ≤ 2 := by unfold due18; rw [List.length_take]; show min n 2 ≤ 2; omega
    refine ⟨r, l8, due18 us n, due18 us n, rfl, SqL.of (s26 _ _ r22), SqL.new, by omega, ?_⟩
    rw [decide_eq_true rfl]
    refine ⟨true, rfl, iteT ?_⟩
    generalize hH26 : upd H25 l8 _ = H26 at s26 ⊢
    exact ⟨_, rfl, _, rfl, _, rfl, m, F, us, ts, l1, l2, rfl, hS22.same s26, SqL.of (s26 _ _ u22), SqL.of (s26 _ _ j22), fun H27 _ => q H27⟩
end
end Pp

namespace Pp
open PySem L2
theorem on0 {α : Type} {P : List α → Prop} (p : P []) : ∀ us : List α, us.length = 0 → P us := by
  intro us e
  cases us with
  | nil => exact p
  | cons _ _ => cases e
theorem onS {α : Type} {n : Nat} {P : List α → Prop} (p : ∀ (a : α) (us : List α), us.length = n → P (a :: us)) : ∀ us : List α, us.length = n + 1 → P us := by
  intro us e
  cases us with
  | nil => cases e
  | cons a r => exact p a r (Nat.succ.inj e)
theorem all_mk {l : PySem.W.OpenLaw} {w : World} {K : PySem.W.Frag} {h : Heap} {mg : Str → Option Value} {fa f0 f1 f2 f3 f4 f5 f6 f7 f8 f9 f10 f11 f12 f13 f14 f15 f16 f17 f18 f19 f20 f21 f22 f23 f24 f25 f26 f27 f28 f29 f30 f31 f32 f33 f34 f35 f36 f37 f38 f39 f40 f41 oC_Sheet : Addr} (X : K.In h) (G : h.Ns mainGlobals mg) (hfa : mg "law" = some (.ref fa))
    (oa_Sheet : PySem.W.nsIn K mainGlobals "Sheet" = some (some (.ref oC_Sheet)))
    {oc0 kV0 dc0 pm0 cd0 ct0 : Value} {od0 an0 : Option Addr} {sl0 : Array (Option Value)}
    (a0 : PySem.W.findIn K (.ref oC_Sheet) "taken" = some (some (.ref f0))) (i0 : PySem.W.isFn K (.ref f0) = true) (l0 : K.lookup f0 = some ⟨oc0, od0, .func (PySem.W.fnOf "taken" "Sheet.taken" (defArgs s_Sheet_taken) (defBody s_Sheet_taken) (defScope s_Sheet_taken) .none kV0 dc0 pm0 an0 cd0 ct0), sl0⟩) (c0 : PySem.W.codeIn K cd0 "Sheet.taken" = true) (k0 : PySem.W.keepIn K (.ref f0) = true)
    {oc1 kV1 dc1 pm1 cd1 ct1 : Value} {od1 an1 : Option Addr} {sl1 : Array (Option Value)}
    (a1 : PySem.W.findIn K (.ref oC_Sheet) "is_sealed" = some (some (.ref f1))) (i1 : PySem.W.isFn K (.ref f1) = true) (l1 : K.lookup f1 = some ⟨oc1, od1, .func (PySem.W.fnOf "is_sealed" "Sheet.is_sealed" (defArgs s_Sheet_is_sealed) (defBody s_Sheet_is_sealed) (defScope s_Sheet_is_sealed) .none kV1 dc1 pm1 an1 cd1 ct1), sl1⟩) (c1 : PySem.W.codeIn K cd1 "Sheet.is_sealed" = true) (k1 : PySem.W.keepIn K (.ref f1) = true)
    {oc2 kV2 dc2 pm2 cd2 ct2 : Value} {od2 an2 : Option Addr} {sl2 : Array (Option Value)}
    (a2 : PySem.W.findIn K (.ref oC_Sheet) "refuse_if_sealed" = some (some (.ref f2))) (i2 : PySem.W.isFn K (.ref f2) = true) (l2 : K.lookup f2 = some ⟨oc2, od2, .func (PySem.W.fnOf "refuse_if_sealed" "Sheet.refuse_if_sealed" (defArgs s_Sheet_refuse_if_sealed) (defBody s_Sheet_refuse_if_sealed) (defScope s_Sheet_refuse_if_sealed) .none kV2 dc2 pm2 an2 cd2 ct2), sl2⟩) (c2 : PySem.W.codeIn K cd2 "Sheet.refuse_if_sealed" = true) (k2 : PySem.W.keepIn K (.ref f2) = true)
    {oc3 kV3 dc3 pm3 cd3 ct3 : Value} {od3 an3 : Option Addr} {sl3 : Array (Option Value)}
    (a3 : PySem.W.findIn K (.ref oC_Sheet) "refuse_unknown_judge" = some (some (.ref f3))) (i3 : PySem.W.isFn K (.ref f3) = true) (l3 : K.lookup f3 = some ⟨oc3, od3, .func (PySem.W.fnOf "refuse_unknown_judge" "Sheet.refuse_unknown_judge" (defArgs s_Sheet_refuse_unknown_judge) (defBody s_Sheet_refuse_unknown_judge) (defScope s_Sheet_refuse_unknown_judge) .none kV3 dc3 pm3 an3 cd3 ct3), sl3⟩) (c3 : PySem.W.codeIn K cd3 "Sheet.refuse_unknown_judge" = true) (k3 : PySem.W.keepIn K (.ref f3) = true)
    {oc4 kV4 dc4 pm4 cd4 ct4 : Value} {od4 an4 : Option Addr} {sl4 : Array (Option Value)}
    (a4 : PySem.W.findIn K (.ref oC_Sheet) "couples" = some (some (.ref f4))) (i4 : PySem.W.isFn K (.ref f4) = true) (l4 : K.lookup f4 = some ⟨oc4, od4, .func (PySem.W.fnOf "couples" "Sheet.couples" (defArgs s_Sheet_couples) (defBody s_Sheet_couples) (defScope s_Sheet_couples) .none kV4 dc4 pm4 an4 cd4 ct4), sl4⟩) (c4 : PySem.W.codeIn K cd4 "Sheet.couples" = true) (k4 : PySem.W.keepIn K (.ref f4) = true)
    {oc5 kV5 dc5 pm5 cd5 ct5 : Value} {od5 an5 : Option Addr} {sl5 : Array (Option Value)}
    (a5 : PySem.W.findIn K (.ref oC_Sheet) "struck" = some (some (.ref f5))) (i5 : PySem.W.isFn K (.ref f5) = true) (l5 : K.lookup f5 = some ⟨oc5, od5, .func (PySem.W.fnOf "struck" "Sheet.struck" (defArgs s_Sheet_struck) (defBody s_Sheet_struck) (defScope s_Sheet_struck) .none kV5 dc5 pm5 an5 cd5 ct5), sl5⟩) (c5 : PySem.W.codeIn K cd5 "Sheet.struck" = true) (k5 : PySem.W.keepIn K (.ref f5) = true)
    {oc6 kV6 dc6 pm6 cd6 ct6 : Value} {od6 an6 : Option Addr} {sl6 : Array (Option Value)}
    (a6 : PySem.W.findIn K (.ref oC_Sheet) "judges" = some (some (.ref f6))) (i6 : PySem.W.isFn K (.ref f6) = true) (l6 : K.lookup f6 = some ⟨oc6, od6, .func (PySem.W.fnOf "judges" "Sheet.judges" (defArgs s_Sheet_judges) (defBody s_Sheet_judges) (defScope s_Sheet_judges) .none kV6 dc6 pm6 an6 cd6 ct6), sl6⟩) (c6 : PySem.W.codeIn K cd6 "Sheet.judges" = true) (k6 : PySem.W.keepIn K (.ref f6) = true)
    {oc7 kV7 dc7 pm7 cd7 ct7 : Value} {od7 an7 : Option Addr} {sl7 : Array (Option Value)}
    (a7 : PySem.W.findIn K (.ref oC_Sheet) "handed" = some (some (.ref f7))) (i7 : PySem.W.isFn K (.ref f7) = true) (l7 : K.lookup f7 = some ⟨oc7, od7, .func (PySem.W.fnOf "handed" "Sheet.handed" (defArgs s_Sheet_handed) (defBody s_Sheet_handed) (defScope s_Sheet_handed) .none kV7 dc7 pm7 an7 cd7 ct7), sl7⟩) (c7 : PySem.W.codeIn K cd7 "Sheet.handed" = true) (k7 : PySem.W.keepIn K (.ref f7) = true)
    {oc8 kV8 dc8 pm8 cd8 ct8 : Value} {od8 an8 : Option Addr} {sl8 : Array (Option Value)}
    (a8 : PySem.W.nsIn K mainGlobals "good_number" = some (some (.ref f8))) (l8 : K.lookup f8 = some ⟨oc8, od8, .func (PySem.W.fnOf "good_number" "good_number" (defArgs s_good_number) (defBody s_good_number) (defScope s_good_number) .none kV8 dc8 pm8 an8 cd8 ct8), sl8⟩) (c8 : PySem.W.codeIn K cd8 "good_number" = true) (k8 : PySem.W.keepIn K (.ref f8) = true)
    {oc9 kV9 dc9 pm9 cd9 ct9 : Value} {od9 an9 : Option Addr} {sl9 : Array (Option Value)}
    (a9 : PySem.W.nsIn K mainGlobals "small_letter" = some (some (.ref f9))) (l9 : K.lookup f9 = some ⟨oc9, od9, .func (PySem.W.fnOf "small_letter" "small_letter" (defArgs s_small_letter) (defBody s_small_letter) (defScope s_small_letter) .none kV9 dc9 pm9 an9 cd9 ct9), sl9⟩) (c9 : PySem.W.codeIn K cd9 "small_letter" = true) (k9 : PySem.W.keepIn K (.ref f9) = true)
    {oc10 kV10 dc10 pm10 cd10 ct10 : Value} {od10 an10 : Option Addr} {sl10 : Array (Option Value)}
    (a10 : PySem.W.nsIn K mainGlobals "good_length" = some (some (.ref f10))) (l10 : K.lookup f10 = some ⟨oc10, od10, .func (PySem.W.fnOf "good_length" "good_length" (defArgs s_good_length) (defBody s_good_length) (defScope s_good_length) .none kV10 dc10 pm10 an10 cd10 ct10), sl10⟩) (c10 : PySem.W.codeIn K cd10 "good_length" = true) (k10 : PySem.W.keepIn K (.ref f10) = true)
    {oc11 kV11 dc11 pm11 cd11 ct11 : Value} {od11 an11 : Option Addr} {sl11 : Array (Option Value)}
    (a11 : PySem.W.nsIn K mainGlobals "all_unlike" = some (some (.ref f11))) (l11 : K.lookup f11 = some ⟨oc11, od11, .func (PySem.W.fnOf "all_unlike" "all_unlike" (defArgs s_all_unlike) (defBody s_all_unlike) (defScope s_all_unlike) .none kV11 dc11 pm11 an11 cd11 ct11), sl11⟩) (c11 : PySem.W.codeIn K cd11 "all_unlike" = true) (k11 : PySem.W.keepIn K (.ref f11) = true)
    {oc12 kV12 dc12 pm12 cd12 ct12 : Value} {od12 an12 : Option Addr} {sl12 : Array (Option Value)}
    (a12 : PySem.W.nsIn K mainGlobals "due_couples" = some (some (.ref f12))) (l12 : K.lookup f12 = some ⟨oc12, od12, .func (PySem.W.fnOf "due_couples" "due_couples" (defArgs s_due_couples) (defBody s_due_couples) (defScope s_due_couples) .none kV12 dc12 pm12 an12 cd12 ct12), sl12⟩) (c12 : PySem.W.codeIn K cd12 "due_couples" = true) (k12 : PySem.W.keepIn K (.ref f12) = true)
    {oc13 kV13 dc13 pm13 cd13 ct13 : Value} {od13 an13 : Option Addr} {sl13 : Array (Option Value)}
    (a13 : PySem.W.nsIn K mainGlobals "figure" = some (some (.ref f13))) (l13 : K.lookup f13 = some ⟨oc13, od13, .func (PySem.W.fnOf "figure" "figure" (defArgs s_figure) (defBody s_figure) (defScope s_figure) .none kV13 dc13 pm13 an13 cd13 ct13), sl13⟩) (c13 : PySem.W.codeIn K cd13 "figure" = true) (k13 : PySem.W.keepIn K (.ref f13) = true)
    {oc14 kV14 dc14 pm14 cd14 ct14 : Value} {od14 an14 : Option Addr} {sl14 : Array (Option Value)}
    (a14 : PySem.W.nsIn K mainGlobals "numbers_text" = some (some (.ref f14))) (l14 : K.lookup f14 = some ⟨oc14, od14, .func (PySem.W.fnOf "numbers_text" "numbers_text" (defArgs s_numbers_text) (defBody s_numbers_text) (defScope s_numbers_text) .none kV14 dc14 pm14 an14 cd14 ct14), sl14⟩) (c14 : PySem.W.codeIn K cd14 "numbers_text" = true) (k14 : PySem.W.keepIn K (.ref f14) = true)
    {oc15 kV15 dc15 pm15 cd15 ct15 : Value} {od15 an15 : Option Addr} {sl15 : Array (Option Value)}
    (a15 : PySem.W.nsIn K mainGlobals "_law_whole" = some (some (.ref f15))) (l15 : K.lookup f15 = some ⟨oc15, od15, .func (PySem.W.fnOf "_law_whole" "_law_whole" (defArgs s_law_whole) (defBody s_law_whole) (defScope s_law_whole) .none kV15 dc15 pm15 an15 cd15 ct15), sl15⟩) (c15 : PySem.W.codeIn K cd15 "_law_whole" = true) (k15 : PySem.W.keepIn K (.ref f15) = true)
    {oc16 kV16 dc16 pm16 cd16 ct16 : Value} {od16 an16 : Option Addr} {sl16 : Array (Option Value)}
    (a16 : PySem.W.nsIn K mainGlobals "_law_at" = some (some (.ref f16))) (l16 : K.lookup f16 = some ⟨oc16, od16, .func (PySem.W.fnOf "_law_at" "_law_at" (defArgs s_law_at) (defBody s_law_at) (defScope s_law_at) .none kV16 dc16 pm16 an16 cd16 ct16), sl16⟩) (c16 : PySem.W.codeIn K cd16 "_law_at" = true) (k16 : PySem.W.keepIn K (.ref f16) = true)
    {oc17 kV17 dc17 pm17 cd17 ct17 : Value} {od17 an17 : Option Addr} {sl17 : Array (Option Value)}
    (a17 : PySem.W.nsIn K mainGlobals "_law_texts" = some (some (.ref f17))) (l17 : K.lookup f17 = some ⟨oc17, od17, .func (PySem.W.fnOf "_law_texts" "_law_texts" (defArgs s_law_texts) (defBody s_law_texts) (defScope s_law_texts) .none kV17 dc17 pm17 an17 cd17 ct17), sl17⟩) (c17 : PySem.W.codeIn K cd17 "_law_texts" = true) (k17 : PySem.W.keepIn K (.ref f17) = true)
    {oc18 kV18 dc18 pm18 cd18 ct18 : Value} {od18 an18 : Option Addr} {sl18 : Array (Option Value)}
    (a18 : PySem.W.nsIn K mainGlobals "_law_couples" = some (some (.ref f18))) (l18 : K.lookup f18 = some ⟨oc18, od18, .func (PySem.W.fnOf "_law_couples" "_law_couples" (defArgs s_law_couples) (defBody s_law_couples) (defScope s_law_couples) .none kV18 dc18 pm18 an18 cd18 ct18), sl18⟩) (c18 : PySem.W.codeIn K cd18 "_law_couples" = true) (k18 : PySem.W.keepIn K (.ref f18) = true)
    {oc19 kV19 dc19 pm19 cd19 ct19 : Value} {od19 an19 : Option Addr} {sl19 : Array (Option Value)}
    (a19 : PySem.W.nsIn K mainGlobals "_law_judges" = some (some (.ref f19))) (l19 : K.lookup f19 = some ⟨oc19, od19, .func (PySem.W.fnOf "_law_judges" "_law_judges" (defArgs s_law_judges) (defBody s_law_judges) (defScope s_law_judges) .none kV19 dc19 pm19 an19 cd19 ct19), sl19⟩) (c19 : PySem.W.codeIn K cd19 "_law_judges" = true) (k19 : PySem.W.keepIn K (.ref f19) = true)
    {oc20 kV20 dc20 pm20 cd20 ct20 : Value} {od20 an20 : Option Addr} {sl20 : Array (Option Value)}
    (a20 : PySem.W.nsIn K mainGlobals "_law_bad_numbers" = some (some (.ref f20))) (l20 : K.lookup f20 = some ⟨oc20, od20, .func (PySem.W.fnOf "_law_bad_numbers" "_law_bad_numbers" (defArgs s_law_bad_numbers) (defBody s_law_bad_numbers) (defScope s_law_bad_numbers) .none kV20 dc20 pm20 an20 cd20 ct20), sl20⟩) (c20 : PySem.W.codeIn K cd20 "_law_bad_numbers" = true) (k20 : PySem.W.keepIn K (.ref f20) = true)
    {oc21 kV21 dc21 pm21 cd21 ct21 : Value} {od21 an21 : Option Addr} {sl21 : Array (Option Value)}
    (a21 : PySem.W.nsIn K mainGlobals "_law_bad_names" = some (some (.ref f21))) (l21 : K.lookup f21 = some ⟨oc21, od21, .func (PySem.W.fnOf "_law_bad_names" "_law_bad_names" (defArgs s_law_bad_names) (defBody s_law_bad_names) (defScope s_law_bad_names) .none kV21 dc21 pm21 an21 cd21 ct21), sl21⟩) (c21 : PySem.W.codeIn K cd21 "_law_bad_names" = true) (k21 : PySem.W.keepIn K (.ref f21) = true)
    {oc22 kV22 dc22 pm22 cd22 ct22 : Value} {od22 an22 : Option Addr} {sl22 : Array (Option Value)}
    (a22 : PySem.W.findIn K (.ref oC_Sheet) "seal" = some (some (.ref f22))) (i22 : PySem.W.isFn K (.ref f22) = true) (l22 : K.lookup f22 = some ⟨oc22, od22, .func (PySem.W.fnOf "seal" "Sheet.seal" (defArgs s_Sheet_seal) (defBody s_Sheet_seal) (defScope s_Sheet_seal) .none kV22 dc22 pm22 an22 cd22 ct22), sl22⟩) (c22 : PySem.W.codeIn K cd22 "Sheet.seal" = true) (k22 : PySem.W.keepIn K (.ref f22) = true)
    {oc23 kV23 dc23 pm23 cd23 ct23 : Value} {od23 an23 : Option Addr} {sl23 : Array (Option Value)}
    (a23 : PySem.W.findIn K (.ref oC_Sheet) "card_of" = some (some (.ref f23))) (i23 : PySem.W.isFn K (.ref f23) = true) (l23 : K.lookup f23 = some ⟨oc23, od23, .func (PySem.W.fnOf "card_of" "Sheet.card_of" (defArgs s_Sheet_card_of) (defBody s_Sheet_card_of) (defScope s_Sheet_card_of) .none kV23 dc23 pm23 an23 cd23 ct23), sl23⟩) (c23 : PySem.W.codeIn K cd23 "Sheet.card_of" = true) (k23 : PySem.W.keepIn K (.ref f23) = true)
    {oc24 kV24 dc24 pm24 cd24 ct24 : Value} {od24 an24 : Option Addr} {sl24 : Array (Option Value)}
    (a24 : PySem.W.nsIn K mainGlobals "good_couples" = some (some (.ref f24))) (l24 : K.lookup f24 = some ⟨oc24, od24, .func (PySem.W.fnOf "good_couples" "good_couples" (defArgs s_good_couples) (defBody s_good_couples) (defScope s_good_couples) .none kV24 dc24 pm24 an24 cd24 ct24), sl24⟩) (c24 : PySem.W.codeIn K cd24 "good_couples" = true) (k24 : PySem.W.keepIn K (.ref f24) = true)
    {oc25 kV25 dc25 pm25 cd25 ct25 : Value} {od25 an25 : Option Addr} {sl25 : Array (Option Value)}
    (a25 : PySem.W.nsIn K mainGlobals "good_name" = some (some (.ref f25))) (l25 : K.lookup f25 = some ⟨oc25, od25, .func (PySem.W.fnOf "good_name" "good_name" (defArgs s_good_name) (defBody s_good_name) (defScope s_good_name) .none kV25 dc25 pm25 an25 cd25 ct25), sl25⟩) (c25 : PySem.W.codeIn K cd25 "good_name" = true) (k25 : PySem.W.keepIn K (.ref f25) = true)
    {oc26 kV26 dc26 pm26 cd26 ct26 : Value} {od26 an26 : Option Addr} {sl26 : Array (Option Value)}
    (a26 : PySem.W.nsIn K mainGlobals "couple_word" = some (some (.ref f26))) (l26 : K.lookup f26 = some ⟨oc26, od26, .func (PySem.W.fnOf "couple_word" "couple_word" (defArgs s_couple_word) (defBody s_couple_word) (defScope s_couple_word) .none kV26 dc26 pm26 an26 cd26 ct26), sl26⟩) (c26 : PySem.W.codeIn K cd26 "couple_word" = true) (k26 : PySem.W.keepIn K (.ref f26) = true)
    {oc27 kV27 dc27 pm27 cd27 ct27 : Value} {od27 an27 : Option Addr} {sl27 : Array (Option Value)}
    (a27 : PySem.W.nsIn K mainGlobals "only_told" = some (some (.ref f27))) (l27 : K.lookup f27 = some ⟨oc27, od27, .func (PySem.W.fnOf "only_told" "only_told" (defArgs s_only_told) (defBody s_only_told) (defScope s_only_told) .none kV27 dc27 pm27 an27 cd27 ct27), sl27⟩) (c27 : PySem.W.codeIn K cd27 "only_told" = true) (k27 : PySem.W.keepIn K (.ref f27) = true)
    {oc28 kV28 dc28 pm28 cd28 ct28 : Value} {od28 an28 : Option Addr} {sl28 : Array (Option Value)}
    (a28 : PySem.W.nsIn K mainGlobals "_law_same" = some (some (.ref f28))) (l28 : K.lookup f28 = some ⟨oc28, od28, .func (PySem.W.fnOf "_law_same" "_law_same" (defArgs s_law_same) (defBody s_law_same) (defScope s_law_same) .none kV28 dc28 pm28 an28 cd28 ct28), sl28⟩) (c28 : PySem.W.codeIn K cd28 "_law_same" = true) (k28 : PySem.W.keepIn K (.ref f28) = true)
    {oc29 kV29 dc29 pm29 cd29 ct29 : Value} {od29 an29 : Option Addr} {sl29 : Array (Option Value)}
    (a29 : PySem.W.findIn K (.ref oC_Sheet) "cards" = some (some (.ref f29))) (i29 : PySem.W.isFn K (.ref f29) = true) (l29 : K.lookup f29 = some ⟨oc29, od29, .func (PySem.W.fnOf "cards" "Sheet.cards" (defArgs s_Sheet_cards) (defBody s_Sheet_cards) (defScope s_Sheet_cards) .none kV29 dc29 pm29 an29 cd29 ct29), sl29⟩) (c29 : PySem.W.codeIn K cd29 "Sheet.cards" = true) (k29 : PySem.W.keepIn K (.ref f29) = true)
    {oc30 kV30 dc30 pm30 cd30 ct30 : Value} {od30 an30 : Option Addr} {sl30 : Array (Option Value)}
    (a30 : PySem.W.nsIn K mainGlobals "good_judges" = some (some (.ref f30))) (l30 : K.lookup f30 = some ⟨oc30, od30, .func (PySem.W.fnOf "good_judges" "good_judges" (defArgs s_good_judges) (defBody s_good_judges) (defScope s_good_judges) .none kV30 dc30 pm30 an30 cd30 ct30), sl30⟩) (c30 : PySem.W.codeIn K cd30 "good_judges" = true) (k30 : PySem.W.keepIn K (.ref f30) = true)
    {oc31 kV31 dc31 pm31 cd31 ct31 : Value} {od31 an31 : Option Addr} {sl31 : Array (Option Value)}
    (a31 : PySem.W.nsIn K mainGlobals "read_couple" = some (some (.ref f31))) (l31 : K.lookup f31 = some ⟨oc31, od31, .func (PySem.W.fnOf "read_couple" "read_couple" (defArgs s_read_couple) (defBody s_read_couple) (defScope s_read_couple) .none kV31 dc31 pm31 an31 cd31 ct31), sl31⟩) (c31 : PySem.W.codeIn K cd31 "read_couple" = true) (k31 : PySem.W.keepIn K (.ref f31) = true)
    {oc32 kV32 dc32 pm32 cd32 ct32 : Value} {od32 an32 : Option Addr} {sl32 : Array (Option Value)}
    (a32 : PySem.W.nsIn K mainGlobals "done_and_told" = some (some (.ref f32))) (l32 : K.lookup f32 = some ⟨oc32, od32, .func (PySem.W.fnOf "done_and_told" "done_and_told" (defArgs s_done_and_told) (defBody s_done_and_told) (defScope s_done_and_told) .none kV32 dc32 pm32 an32 cd32 ct32), sl32⟩) (c32 : PySem.W.codeIn K cd32 "done_and_told" = true) (k32 : PySem.W.keepIn K (.ref f32) = true)
    {oc33 kV33 dc33 pm33 cd33 ct33 : Value} {od33 an33 : Option Addr} {sl33 : Array (Option Value)}
    (a33 : PySem.W.findIn K (.ref oC_Sheet) "__init__" = some (some (.ref f33))) (i33 : PySem.W.isFn K (.ref f33) = true) (l33 : K.lookup f33 = some ⟨oc33, od33, .func (PySem.W.fnOf "__init__" "Sheet.__init__" (defArgs s_Sheet_init) (defBody s_Sheet_init) (defScope s_Sheet_init) .none kV33 dc33 pm33 an33 cd33 ct33), sl33⟩) (c33 : PySem.W.codeIn K cd33 "Sheet.__init__" = true) (k33 : PySem.W.keepIn K (.ref f33) = true)
    {oc34 kV34 dc34 pm34 cd34 ct34 : Value} {od34 an34 : Option Addr} {sl34 : Array (Option Value)}
    (a34 : PySem.W.nsIn K mainGlobals "read_couples" = some (some (.ref f34))) (l34 : K.lookup f34 = some ⟨oc34, od34, .func (PySem.W.fnOf "read_couples" "read_couples" (defArgs s_read_couples) (defBody s_read_couples) (defScope s_read_couples) .none kV34 dc34 pm34 an34 cd34 ct34), sl34⟩) (c34 : PySem.W.codeIn K cd34 "read_couples" = true) (k34 : PySem.W.keepIn K (.ref f34) = true)
    {oc35 kV35 dc35 pm35 cd35 ct35 : Value} {od35 an35 : Option Addr} {sl35 : Array (Option Value)}
    (a35 : PySem.W.nsIn K mainGlobals "_law_new" = some (some (.ref f35))) (l35 : K.lookup f35 = some ⟨oc35, od35, .func (PySem.W.fnOf "_law_new" "_law_new" (defArgs s_law_new) (defBody s_law_new) (defScope s_law_new) .none kV35 dc35 pm35 an35 cd35 ct35), sl35⟩) (c35 : PySem.W.codeIn K cd35 "_law_new" = true) (k35 : PySem.W.keepIn K (.ref f35) = true)
    {oc36 kV36 dc36 pm36 cd36 ct36 : Value} {od36 an36 : Option Addr} {sl36 : Array (Option Value)}
    (a36 : PySem.W.nsIn K mainGlobals "read_row" = some (some (.ref f36))) (l36 : K.lookup f36 = some ⟨oc36, od36, .func (PySem.W.fnOf "read_row" "read_row" (defArgs s_read_row) (defBody s_read_row) (defScope s_read_row) .none kV36 dc36 pm36 an36 cd36 ct36), sl36⟩) (c36 : PySem.W.codeIn K cd36 "read_row" = true) (k36 : PySem.W.keepIn K (.ref f36) = true)
    {oc37 kV37 dc37 pm37 cd37 ct37 : Value} {od37 an37 : Option Addr} {sl37 : Array (Option Value)}
    (a37 : PySem.W.nsIn K mainGlobals "answer" = some (some (.ref f37))) (l37 : K.lookup f37 = some ⟨oc37, od37, .func (PySem.W.fnOf "answer" "answer" (defArgs s_answer) (defBody s_answer) (defScope s_answer) .none kV37 dc37 pm37 an37 cd37 ct37), sl37⟩) (c37 : PySem.W.codeIn K cd37 "answer" = true) (k37 : PySem.W.keepIn K (.ref f37) = true)
    {oc38 kV38 dc38 pm38 cd38 ct38 : Value} {od38 an38 : Option Addr} {sl38 : Array (Option Value)}
    (a38 : PySem.W.nsIn K mainGlobals "_law_made" = some (some (.ref f38))) (l38 : K.lookup f38 = some ⟨oc38, od38, .func (PySem.W.fnOf "_law_made" "_law_made" (defArgs s_law_made) (defBody s_law_made) (defScope s_law_made) .none kV38 dc38 pm38 an38 cd38 ct38), sl38⟩) (c38 : PySem.W.codeIn K cd38 "_law_made" = true) (k38 : PySem.W.keepIn K (.ref f38) = true)
    {oc39 kV39 dc39 pm39 cd39 ct39 : Value} {od39 an39 : Option Addr} {sl39 : Array (Option Value)}
    (a39 : PySem.W.nsIn K mainGlobals "answers" = some (some (.ref f39))) (l39 : K.lookup f39 = some ⟨oc39, od39, .func (PySem.W.fnOf "answers" "answers" (defArgs s_answers) (defBody s_answers) (defScope s_answers) .none kV39 dc39 pm39 an39 cd39 ct39), sl39⟩) (c39 : PySem.W.codeIn K cd39 "answers" = true) (k39 : PySem.W.keepIn K (.ref f39) = true)
    {oc40 kV40 dc40 pm40 cd40 ct40 : Value} {od40 an40 : Option Addr} {sl40 : Array (Option Value)}
    (a40 : PySem.W.nsIn K mainGlobals "_law_answered" = some (some (.ref f40))) (l40 : K.lookup f40 = some ⟨oc40, od40, .func (PySem.W.fnOf "_law_answered" "_law_answered" (defArgs s_law_answered) (defBody s_law_answered) (defScope s_law_answered) .none kV40 dc40 pm40 an40 cd40 ct40), sl40⟩) (c40 : PySem.W.codeIn K cd40 "_law_answered" = true) (k40 : PySem.W.keepIn K (.ref f40) = true)
    {oc41 kV41 dc41 pm41 cd41 ct41 : Value} {od41 an41 : Option Addr} {sl41 : Array (Option Value)}
    (a41 : PySem.W.nsIn K mainGlobals "law" = some (some (.ref f41))) (l41 : K.lookup f41 = some ⟨oc41, od41, .func (PySem.W.fnOf "law" "law" (defArgs s_law) (defBody s_law) (defScope s_law) .none kV41 dc41 pm41 an41 cd41 ct41), sl41⟩) (c41 : PySem.W.codeIn K cd41 "law" = true) (k41 : PySem.W.keepIn K (.ref f41) = true)
    (z0 : PySem.W.nsIn K mainGlobals "ValueError" = some none)
    (z1 : PySem.W.nsIn K mainGlobals "all" = some none)
    (z2 : PySem.W.nsIn K mainGlobals "bool" = some none)
    (z3 : PySem.W.nsIn K mainGlobals "int" = some none)
    (z4 : PySem.W.nsIn K mainGlobals "isinstance" = some none)
    (z5 : PySem.W.nsIn K mainGlobals "len" = some none)
    (z6 : PySem.W.nsIn K mainGlobals "list" = some none)
    (z7 : PySem.W.nsIn K mainGlobals "range" = some none)
    (z8 : PySem.W.nsIn K mainGlobals "set" = some none)
    (z9 : PySem.W.nsIn K mainGlobals "str" = some none)
    {t0 : Tok} (y0 : PySem.W.nsIn K mainGlobals "MOST_COUPLES" = some (some (.int 24 t0)))
    {t1 : Tok} (y1 : PySem.W.nsIn K mainGlobals "MOST_JUDGES" = some (some (.int 15 t1)))
    {t2 : Tok} (y2 : PySem.W.nsIn K mainGlobals "MOST_NUMBER" = some (some (.int 999 t2)))
    {t3 : Tok} (y3 : PySem.W.nsIn K mainGlobals "MOST_SIGNS" = some (some (.int 8 t3)))
    {t4 : Tok} (y4 : PySem.W.nsIn K mainGlobals "MOST_CARDS" = some (some (.int 200 t4)))
    {ya5 : Addr} {yc5 : Value} {yd5 : Option Addr} {yi5 : Array Value} {yn5 : Nat} {ys5 : Array (Option Value)}
    (y5 : PySem.W.nsIn K mainGlobals "BARE_WORDS" = some (some (.ref ya5))) (yl5 : K.lookup ya5 = some ⟨yc5, yd5, .seq yi5 yn5, ys5⟩) (yt5 : yc5 = .type "tuple") (yz5 : yi5.size ≤ sizeLine) (yv5 : Vals ((["seal", "couples", "places", "parts", "deciders"] : List Str).map V.str) yi5.toList)
    {ya6 : Addr} {yc6 : Value} {yd6 : Option Addr} {yi6 : Array Value} {yn6 : Nat} {ys6 : Array (Option Value)}
    (y6 : PySem.W.nsIn K mainGlobals "JUDGE_WORDS" = some (some (.ref ya6))) (yl6 : K.lookup ya6 = some ⟨yc6, yd6, .seq yi6 yn6, ys6⟩) (yt6 : yc6 = .type "tuple") (yz6 : yi6.size ≤ sizeLine) (yv6 : Vals ((["card", "show", "leave", "step"] : List Str).map V.str) yi6.toList)
    {ya7 : Addr} {yc7 : Value} {yd7 : Option Addr} {yi7 : Array Value} {yn7 : Nat} {ys7 : Array (Option Value)}
    (y7 : PySem.W.nsIn K mainGlobals "COUPLE_WORDS" = some (some (.ref ya7))) (yl7 : K.lookup ya7 = some ⟨yc7, yd7, .seq yi7 yn7, ys7⟩) (yt7 : yc7 = .type "tuple") (yz7 : yi7.size ≤ sizeLine) (yv7 : Vals ((["strike", "step", "row"] : List Str).map V.str) yi7.toList)
    {t8 : Tok} (y8 : PySem.W.nsIn K mainGlobals "MOST_FIGURES" = some (some (.int 3 t8)))
    {xc0 : Addr} (xa0 : PySem.W.nsIn K mainGlobals "PanelError" = some (some (.ref xc0)))
    {xc1 : Addr} (xa1 : PySem.W.nsIn K mainGlobals "BadCouples" = some (some (.ref xc1)))
    {xc2 : Addr} (xa2 : PySem.W.nsIn K mainGlobals "BadJudges" = some (some (.ref xc2)))
    {xc3 : Addr} (xa3 : PySem.W.nsIn K mainGlobals "SheetSealed" = some (some (.ref xc3)))
    {xc4 : Addr} (xa4 : PySem.W.nsIn K mainGlobals "UnknownJudge" = some (some (.ref xc4)))
    {xc9 : Addr} (xa9 : PySem.W.nsIn K mainGlobals "NoCard" = some (some (.ref xc9)))
    (xe0 : PySem.W.excIn K xc0 bmV "ValueError.__new__" = true)
    (xe1 : PySem.W.excIn K xc1 bmV "ValueError.__new__" = true)
    (xv1 : PySem.W.kitOne K (.ref xc1) (.type "ValueError") = some true)
    (xi1 : L2.exI K xc1 = true)
    (xs1_0 : L2.subIn K xc1 xc0 = true)
    (xk1_1 : PySem.W.kitOne K (.ref xc1) (.ref xc1) = some true)
    (xk1_2 : PySem.W.kitOne K (.ref xc1) (.ref xc2) = some false)
    (xe2 : PySem.W.excIn K xc2 bmV "ValueError.__new__" = true)
    (xv2 : PySem.W.kitOne K (.ref xc2) (.type "ValueError") = some true)
    (xi2 : L2.exI K xc2 = true)
    (xs2_0 : L2.subIn K xc2 xc0 = true)
    (xk2_1 : PySem.W.kitOne K (.ref xc2) (.ref xc1) = some false)
    (xk2_2 : PySem.W.kitOne K (.ref xc2) (.ref xc2) = some true)
    (xe3 : PySem.W.excIn K xc3 bmV "ValueError.__new__" = true)
    (xe4 : PySem.W.excIn K xc4 bmV "ValueError.__new__" = true)
    (xe9 : PySem.W.excIn K xc9 bmV "ValueError.__new__" = true)
    (opg_Sheet : PySem.W.plainGet K oC_Sheet Str.empty = true)
    (ohd_Sheet : PySem.W.hasDictIn K oC_Sheet = true)
    (opo_Sheet : PySem.W.plainOver K oC_Sheet = true)
    (osa_Sheet : PySem.W.findIn K (.ref oC_Sheet) "__setattr__" = some (some (.builtin "object.__setattr__")))
    (omk_Sheet : PySem.W.makesIn K oC_Sheet = true)
    (okc_Sheet : PySem.W.keepIn K (.ref oC_Sheet) = true)
    (on_Sheet_standing : PySem.W.findIn K (.ref oC_Sheet) "standing" = some none)
    (on_Sheet_struck_so_far : PySem.W.findIn K (.ref oC_Sheet) "struck_so_far" = some none)
    (on_Sheet_panel : PySem.W.findIn K (.ref oC_Sheet) "panel" = some none)
    (on_Sheet_card_by_judge : PySem.W.findIn K (.ref oC_Sheet) "card_by_judge" = some none)
    (on_Sheet_taken_so_far : PySem.W.findIn K (.ref oC_Sheet) "taken_so_far" = some none)
    (on_Sheet_sealed : PySem.W.findIn K (.ref oC_Sheet) "sealed" = some none)
    : ∃ fd : FuncData, (∀ (s : Shared) (v : Value), BindsTo s fd ⟨[v], []⟩ [("_law_script", v)]) ∧ ∀ base : Heap, K.In base → base.Ns mainGlobals mg → FnOk l.prog w K mg base CX0 9 fa fd ["_law_script"] (sp_law K) := by
  have e := hfa.symm.trans (PySem.W.mg_of X G a41)
  cases e
  have oc_Sheet := clsA_of oa_Sheet
  have T : Txt K mg := ⟨PySem.W.mg_none_of X G z0, PySem.W.mg_none_of X G z1, PySem.W.mg_none_of X G z2, PySem.W.mg_none_of X G z3, PySem.W.mg_none_of X G z4, PySem.W.mg_none_of X G z5, PySem.W.mg_none_of X G z6, PySem.W.mg_none_of X G z7, PySem.W.mg_none_of X G z8, PySem.W.mg_none_of X G z9, ⟨_, PySem.W.mg_of X G y0⟩, ⟨_, PySem.W.mg_of X G y1⟩, ⟨_, PySem.W.mg_of X G y2⟩, ⟨_, PySem.W.mg_of X G y3⟩, ⟨_, PySem.W.mg_of X G y4⟩, ctup_mk X G y5 yl5 yt5 yz5 yv5, ctup_mk X G y6 yl6 yt6 yz6 yv6, ctup_mk X G y7 yl7 yt7 yz7 yv7, ⟨_, PySem.W.mg_of X G y8⟩, ⟨xc0, xa0, PySem.W.mg_of X G xa0, xe0⟩, ⟨xc1, xa1, PySem.W.mg_of X G xa1, xe1⟩, fun C hC => by cases ClsN.inj hC xa1; exact xv1, fun C hC => by cases ClsN.inj hC xa1; exact xi1, fun C D hC hD => by cases ClsN.inj hC xa1; cases ClsN.inj hD xa0; exact xs1_0, fun C D hC hD => by cases ClsN.inj hC xa1; cases ClsN.inj hD xa1; exact xk1_1, fun C D hC hD => by cases ClsN.inj hC xa1; cases ClsN.inj hD xa2; exact xk1_2, ⟨xc2, xa2, PySem.W.mg_of X G xa2, xe2⟩, fun C hC => by cases ClsN.inj hC xa2; exact xv2, fun C hC => by cases ClsN.inj hC xa2; exact xi2, fun C D hC hD => by cases ClsN.inj hC xa2; cases ClsN.inj hD xa0; exact xs2_0, fun C D hC hD => by cases ClsN.inj hC xa2; cases ClsN.inj hD xa1; exact xk2_1, fun C D hC hD => by cases ClsN.inj hC xa2; cases ClsN.inj hD xa2; exact xk2_2, ⟨xc3, xa3, PySem.W.mg_of X G xa3, xe3⟩, ⟨xc4, xa4, PySem.W.mg_of X G xa4, xe4⟩, ⟨xc9, xa9, PySem.W.mg_of X G xa9, xe9⟩, oc_Sheet ▸ ⟨opg_Sheet, ohd_Sheet, opo_Sheet, osa_Sheet⟩, oc_Sheet ▸ on_Sheet_standing, oc_Sheet ▸ on_Sheet_struck_so_far, oc_Sheet ▸ on_Sheet_panel, oc_Sheet ▸ on_Sheet_card_by_judge, oc_Sheet ▸ on_Sheet_taken_so_far, oc_Sheet ▸ on_Sheet_sealed⟩
  have F0 := fun_mk (st := s_Sheet_taken) l0 c0 k0
  have b0 := F0.binds (ps := ["self"]) fun _ _ _ _ _ _ => onS fun _ => on0 rfl
  have F1 := fun_mk (st := s_Sheet_is_sealed) l1 c1 k1
  have b1 := F1.binds (ps := ["self"]) fun _ _ _ _ _ _ => onS fun _ => on0 rfl
  have F2 := fun_mk (st := s_Sheet_refuse_if_sealed) l2 c2 k2
  have b2 := F2.binds (ps := ["self"]) fun _ _ _ _ _ _ => onS fun _ => on0 rfl
  have F3 := fun_mk (st := s_Sheet_refuse_unknown_judge) l3 c3 k3
  have b3 := F3.binds (ps := ["self", "judge"]) fun _ _ _ _ _ _ => onS fun _ => onS fun _ => on0 rfl
  have F4 := fun_mk (st := s_Sheet_couples) l4 c4 k4
  have b4 := F4.binds (ps := ["self"]) fun _ _ _ _ _ _ => onS fun _ => on0 rfl
  have F5 := fun_mk (st := s_Sheet_struck) l5 c5 k5
  have b5 := F5.binds (ps := ["self"]) fun _ _ _ _ _ _ => onS fun _ => on0 rfl
  have F6 := fun_mk (st := s_Sheet_judges) l6 c6 k6
  have b6 := F6.binds (ps := ["self"]) fun _ _ _ _ _ _ => onS fun _ => on0 rfl
  have F7 := fun_mk (st := s_Sheet_handed) l7 c7 k7
  have b7 := F7.binds (ps := ["self"]) fun _ _ _ _ _ _ => onS fun _ => on0 rfl
  have F8 := fun_mk (st := s_good_number) l8 c8 k8
  have b8 := F8.binds (ps := ["couple"]) fun _ _ _ _ _ _ => onS fun _ => on0 rfl
  have F9 := fun_mk (st := s_small_letter) l9 c9 k9
  have b9 := F9.binds (ps := ["sign"]) fun _ _ _ _ _ _ => onS fun _ => on0 rfl
  have F10 := fun_mk (st := s_good_length) l10 c10 k10
  have b10 := F10.binds (ps := ["things", "most"]) fun _ _ _ _ _ _ => onS fun _ => onS fun _ => on0 rfl
  have F11 := fun_mk (st := s_all_unlike) l11 c11 k11
  have b11 := F11.binds (ps := ["things"]) fun _ _ _ _ _ _ => onS fun _ => on0 rfl
  have F12 := fun_mk (st := s_due_couples) l12 c12 k12
  have b12 := F12.binds (ps := ["first"]) fun _ _ _ _ _ _ => onS fun _ => on0 rfl
  have F13 := fun_mk (st := s_figure) l13 c13 k13
  have b13 := F13.binds (ps := ["sign"]) fun _ _ _ _ _ _ => onS fun _ => on0 rfl
  have F14 := fun_mk (st := s_numbers_text) l14 c14 k14
  have b14 := F14.binds (ps := ["couples"]) fun _ _ _ _ _ _ => onS fun _ => on0 rfl
  have F15 := fun_mk (st := s_law_whole) l15 c15 k15
  have b15 := F15.binds (ps := ["_law_found"]) fun _ _ _ _ _ _ => onS fun _ => on0 rfl
  have F16 := fun_mk (st := s_law_at) l16 c16 k16
  have b16 := F16.binds (ps := ["_law_script", "_law_k"]) fun _ _ _ _ _ _ => onS fun _ => onS fun _ => on0 rfl
  have F17 := fun_mk (st := s_law_texts) l17 c17 k17
  have b17 := F17.binds (ps := ["_law_found", "_law_due"]) fun _ _ _ _ _ _ => onS fun _ => onS fun _ => on0 rfl
  have F18 := fun_mk (st := s_law_couples) l18 c18 k18
  have b18 := F18.binds (ps := ["_law_cell", "_law_many"]) fun _ _ _ _ _ _ => onS fun _ => onS fun _ => on0 rfl
  have F19 := fun_mk (st := s_law_judges) l19 c19 k19
  have b19 := F19.binds (ps := ["_law_cell", "_law_many"]) fun _ _ _ _ _ _ => onS fun _ => onS fun _ => on0 rfl
  have F20 := fun_mk (st := s_law_bad_numbers) l20 c20 k20
  have b20 := F20.binds (ps := ["_law_row", "_law_kind", "_law_spot", "_law_cell"]) fun _ _ _ _ _ _ => onS fun _ => onS fun _ => onS fun _ => onS fun _ => on0 rfl
  have F21 := fun_mk (st := s_law_bad_names) l21 c21 k21
  have b21 := F21.binds (ps := ["_law_row", "_law_kind", "_law_spot", "_law_cell"]) fun _ _ _ _ _ _ => onS fun _ => onS fun _ => onS fun _ => onS fun _ => on0 rfl
  have F22 := fun_mk (st := s_Sheet_seal) l22 c22 k22
  have b22 := F22.binds (ps := ["self"]) fun _ _ _ _ _ _ => onS fun _ => on0 rfl
  have F23 := fun_mk (st := s_Sheet_card_of) l23 c23 k23
  have b23 := F23.binds (ps := ["self", "judge"]) fun _ _ _ _ _ _ => onS fun _ => onS fun _ => on0 rfl
  have F24 := fun_mk (st := s_good_couples) l24 c24 k24
  have b24 := F24.binds (ps := ["couples"]) fun _ _ _ _ _ _ => onS fun _ => on0 rfl
  have F25 := fun_mk (st := s_good_name) l25 c25 k25
  have b25 := F25.binds (ps := ["judge"]) fun _ _ _ _ _ _ => onS fun _ => on0 rfl
  have F26 := fun_mk (st := s_couple_word) l26 c26 k26
  have b26 := F26.binds (ps := ["word"]) fun _ _ _ _ _ _ => onS fun _ => on0 rfl
  have F27 := fun_mk (st := s_only_told) l27 c27 k27
  have b27 := F27.binds (ps := ["sheet", "first", "judge", "couples"]) fun _ _ _ _ _ _ => onS fun _ => onS fun _ => onS fun _ => onS fun _ => on0 rfl
  have F28 := fun_mk (st := s_law_same) l28 c28 k28
  have b28 := F28.binds (ps := ["_law_found", "_law_due"]) fun _ _ _ _ _ _ => onS fun _ => onS fun _ => on0 rfl
  have F29 := fun_mk (st := s_Sheet_cards) l29 c29 k29
  have b29 := F29.binds (ps := ["self"]) fun _ _ _ _ _ _ => onS fun _ => on0 rfl
  have F30 := fun_mk (st := s_good_judges) l30 c30 k30
  have b30 := F30.binds (ps := ["judges"]) fun _ _ _ _ _ _ => onS fun _ => on0 rfl
  have F31 := fun_mk (st := s_read_couple) l31 c31 k31
  have b31 := F31.binds (ps := ["word"]) fun _ _ _ _ _ _ => onS fun _ => on0 rfl
  have F32 := fun_mk (st := s_done_and_told) l32 c32 k32
  have b32 := F32.binds (ps := ["sheet", "first", "judge", "couples"]) fun _ _ _ _ _ _ => onS fun _ => onS fun _ => onS fun _ => onS fun _ => on0 rfl
  have F33 := fun_mk (st := s_Sheet_init) l33 c33 k33
  have b33 := F33.binds (ps := ["self", "couples", "judges"]) fun _ _ _ _ _ _ => onS fun _ => onS fun _ => onS fun _ => on0 rfl
  have F34 := fun_mk (st := s_read_couples) l34 c34 k34
  have b34 := F34.binds (ps := ["first", "words"]) fun _ _ _ _ _ _ => onS fun _ => onS fun _ => on0 rfl
  have F35 := fun_mk (st := s_law_new) l35 c35 k35
  have b35 := F35.binds (ps := ["_law_sheet", "_law_row", "_law_names"]) fun _ _ _ _ _ _ => onS fun _ => onS fun _ => onS fun _ => on0 rfl
  have F36 := fun_mk (st := s_read_row) l36 c36 k36
  have b36 := F36.binds (ps := ["row"]) fun _ _ _ _ _ _ => onS fun _ => on0 rfl
  have F37 := fun_mk (st := s_answer) l37 c37 k37
  have b37 := F37.binds (ps := ["sheet", "row"]) fun _ _ _ _ _ _ => onS fun _ => onS fun _ => on0 rfl
  have F38 := fun_mk (st := s_law_made) l38 c38 k38
  have b38 := F38.binds (ps := ["_law_couples_here", "_law_names"]) fun _ _ _ _ _ _ => onS fun _ => onS fun _ => on0 rfl
  have F39 := fun_mk (st := s_answers) l39 c39 k39
  have b39 := F39.binds (ps := ["couples", "judges", "rows"]) fun _ _ _ _ _ _ => onS fun _ => onS fun _ => onS fun _ => on0 rfl
  have F40 := fun_mk (st := s_law_answered) l40 c40 k40
  have b40 := F40.binds (ps := ["_law_couples_here", "_law_names", "_law_rows"]) fun _ _ _ _ _ _ => onS fun _ => onS fun _ => onS fun _ => on0 rfl
  have F41 := fun_mk (st := s_law) l41 c41 k41
  have b41 := F41.binds (ps := ["_law_script"]) fun _ _ _ _ _ _ => onS fun _ => on0 rfl
  refine ⟨PySem.W.fnOf "law" "law" (defArgs s_law) (defBody s_law) (defScope s_law) .none kV41 dc41 pm41 an41 cd41 ct41, fun s v => .of_eq rfl, fun base _ _ => ?_⟩
  have C0 : CanM l.prog w K mg base 1 (clsA K "Sheet") "taken" ["self"] (sp_Sheet_taken K) := CanM.of oc_Sheet (ok_Sheet_taken F0 T) ⟨a0, i0, k0⟩ b0
  have C1 : CanM l.prog w K mg base 1 (clsA K "Sheet") "is_sealed" ["self"] (sp_Sheet_is_sealed K) := CanM.of oc_Sheet (ok_Sheet_is_sealed F1 T) ⟨a1, i1, k1⟩ b1
  have C2 : CanMX l.prog w K mg base 1 (clsA K "Sheet") "refuse_if_sealed" ["self"] (sp_Sheet_refuse_if_sealed K) := CanMX.of oc_Sheet (ok_Sheet_refuse_if_sealed F2 T) ⟨a2, i2, k2⟩ b2
  have C3 : CanMX l.prog w K mg base 1 (clsA K "Sheet") "refuse_unknown_judge" ["self", "judge"] (sp_Sheet_refuse_unknown_judge K) := CanMX.of oc_Sheet (ok_Sheet_refuse_unknown_judge F3 T) ⟨a3, i3, k3⟩ b3
  have C4 : CanM l.prog w K mg base 1 (clsA K "Sheet") "couples" ["self"] (sp_Sheet_couples K) := CanM.of oc_Sheet (ok_Sheet_couples F4 T) ⟨a4, i4, k4⟩ b4
  have C5 : CanM l.prog w K mg base 1 (clsA K "Sheet") "struck" ["self"] (sp_Sheet_struck K) := CanM.of oc_Sheet (ok_Sheet_struck F5 T) ⟨a5, i5, k5⟩ b5
  have C6 : CanM l.prog w K mg base 1 (clsA K "Sheet") "judges" ["self"] (sp_Sheet_judges K) := CanM.of oc_Sheet (ok_Sheet_judges F6 T) ⟨a6, i6, k6⟩ b6
  have C7 : CanM l.prog w K mg base 1 (clsA K "Sheet") "handed" ["self"] (sp_Sheet_handed K) := CanM.of oc_Sheet (ok_Sheet_handed F7 T) ⟨a7, i7, k7⟩ b7
  have C8 : Can l.prog w K mg base 1 "good_number" ["couple"] (sp_good_number K) := Can.of F8 (ok_good_number F8 T) (PySem.W.mg_of X G a8) b8
  have C9 : Can l.prog w K mg base 1 "small_letter" ["sign"] (sp_small_letter K) := Can.of F9 (ok_small_letter F9 T) (PySem.W.mg_of X G a9) b9
  have C10 : Can l.prog w K mg base 1 "good_length" ["things", "most"] (sp_good_length K) := Can.of F10 (ok_good_length F10 T) (PySem.W.mg_of X G a10) b10
  have C11 : Can l.prog w K mg base 1 "all_unlike" ["things"] (sp_all_unlike K) := Can.of F11 (ok_all_unlike F11 T) (PySem.W.mg_of X G a11) b11
  have C12 : Can l.prog w K mg base 1 "due_couples" ["first"] (sp_due_couples K) := Can.of F12 (ok_due_couples F12 T) (PySem.W.mg_of X G a12) b12
  have C13 : Can l.prog w K mg base 1 "figure" ["sign"] (sp_figure K) := Can.of F13 (ok_figure F13 T) (PySem.W.mg_of X G a13) b13
  have C14 : Can l.prog w K mg base 1 "numbers_text" ["couples"] (sp_numbers_text K) := Can.of F14 (ok_numbers_text F14 T) (PySem.W.mg_of X G a14) b14
  have C15 : Can l.prog w K mg base 1 "_law_whole" ["_law_found"] (sp_law_whole K) := Can.of F15 (ok_law_whole F15 T) (PySem.W.mg_of X G a15) b15
  have C16 : Can l.prog w K mg base 1 "_law_at" ["_law_script", "_law_k"] (sp_law_at K) := Can.of F16 (ok_law_at F16 T) (PySem.W.mg_of X G a16) b16
  have C17 : Can l.prog w K mg base 1 "_law_texts" ["_law_found", "_law_due"] (sp_law_texts K) := Can.of F17 (ok_law_texts F17 T) (PySem.W.mg_of X G a17) b17
  have C18 : Can l.prog w K mg base 1 "_law_couples" ["_law_cell", "_law_many"] (sp_law_couples K) := Can.of F18 (ok_law_couples F18 T) (PySem.W.mg_of X G a18) b18
  have C19 : Can l.prog w K mg base 1 "_law_judges" ["_law_cell", "_law_many"] (sp_law_judges K) := Can.of F19 (ok_law_judges F19 T) (PySem.W.mg_of X G a19) b19
  have C20 : Can l.prog w K mg base 1 "_law_bad_numbers" ["_law_row", "_law_kind", "_law_spot", "_law_cell"] (sp_law_bad_numbers K) := Can.of F20 (ok_law_bad_numbers F20 T) (PySem.W.mg_of X G a20) b20
  have C21 : Can l.prog w K mg base 1 "_law_bad_names" ["_law_row", "_law_kind", "_law_spot", "_law_cell"] (sp_law_bad_names K) := Can.of F21 (ok_law_bad_names F21 T) (PySem.W.mg_of X G a21) b21
  have C22 : CanMX l.prog w K mg base 2 (clsA K "Sheet") "seal" ["self"] (sp_Sheet_seal K) := CanMX.of oc_Sheet (ok_Sheet_seal F22 T C2) ⟨a22, i22, k22⟩ b22
  have C23 : CanMX l.prog w K mg base 2 (clsA K "Sheet") "card_of" ["self", "judge"] (sp_Sheet_card_of K) := CanMX.of oc_Sheet (ok_Sheet_card_of F23 T C3) ⟨a23, i23, k23⟩ b23
  have C24 : Can l.prog w K mg base 2 "good_couples" ["couples"] (sp_good_couples K) := Can.of F24 (ok_good_couples F24 T C8 C10 C11) (PySem.W.mg_of X G a24) b24
  have C25 : Can l.prog w K mg base 2 "good_name" ["judge"] (sp_good_name K) := Can.of F25 (ok_good_name F25 T C9 C10) (PySem.W.mg_of X G a25) b25
  have C26 : Can l.prog w K mg base 2 "couple_word" ["word"] (sp_couple_word K) := Can.of F26 (ok_couple_word F26 T C13) (PySem.W.mg_of X G a26) b26
  have C27 : Can l.prog w K mg base 2 "only_told" ["sheet", "first", "judge", "couples"] (sp_only_told K) := Can.of F27 (ok_only_told F27 T C14 C4) (PySem.W.mg_of X G a27) b27
  have C28 : Can l.prog w K mg base 2 "_law_same" ["_law_found", "_law_due"] (sp_law_same K) := Can.of F28 (ok_law_same F28 T C15) (PySem.W.mg_of X G a28) b28
  have C29 : CanM l.prog w K mg base 3 (clsA K "Sheet") "cards" ["self"] (sp_Sheet_cards K) := CanM.of oc_Sheet (ok_Sheet_cards F29 T C7 C23) ⟨a29, i29, k29⟩ b29
  have C30 : Can l.prog w K mg base 3 "good_judges" ["judges"] (sp_good_judges K) := Can.of F30 (ok_good_judges F30 T C25 C10 C11) (PySem.W.mg_of X G a30) b30
  have C31 : Can l.prog w K mg base 3 "read_couple" ["word"] (sp_read_couple K) := Can.of F31 (ok_read_couple F31 T C26) (PySem.W.mg_of X G a31) b31
  have C32 : Can l.prog w K mg base 3 "done_and_told" ["sheet", "first", "judge", "couples"] (sp_done_and_told K) := Can.of F32 (ok_done_and_told F32 T C27 C22) (PySem.W.mg_of X G a32) b32
  have C33 : CanK l.prog w K mg base 4 "Sheet" (clsA K "Sheet") ["self", "couples", "judges"] (sp_Sheet_init K) := CanK.of oc_Sheet (ok_Sheet_init F33 T C24 C30) (PySem.W.mg_of X G oa_Sheet) ⟨omk_Sheet, a33, i33, okc_Sheet⟩ b33
  have C34 : Can l.prog w K mg base 4 "read_couples" ["first", "words"] (sp_read_couples K) := Can.of F34 (ok_read_couples F34 T C12 C31) (PySem.W.mg_of X G a34) b34
  have C35 : Can l.prog w K mg base 4 "_law_new" ["_law_sheet", "_law_row", "_law_names"] (sp_law_new K) := Can.of F35 (ok_law_new F35 T C15 C28 C17 C4 C5 C6 C7 C29 C0 C1) (PySem.W.mg_of X G a35) b35
  have C36 : Can l.prog w K mg base 5 "read_row" ["row"] (sp_read_row K) := Can.of F36 (ok_read_row F36 T C34) (PySem.W.mg_of X G a36) b36
  have C37 : Can l.prog w K mg base 6 "answer" ["sheet", "row"] (sp_answer K) := Can.of F37 (ok_answer F37 T C36 C32) (PySem.W.mg_of X G a37) b37
  have C38 : Can l.prog w K mg base 6 "_law_made" ["_law_couples_here", "_law_names"] (sp_law_made K) := Can.of F38 (ok_law_made F38 T C33) (PySem.W.mg_of X G a38) b38
  have C39 : CanX l.prog w K mg base 7 "answers" ["couples", "judges", "rows"] (sp_answers K) := CanX.of F39 (ok_answers F39 T C37 C33) (PySem.W.mg_of X G a39) b39
  have C40 : Can l.prog w K mg base 8 "_law_answered" ["_law_couples_here", "_law_names", "_law_rows"] (sp_law_answered K) := Can.of F40 (ok_law_answered F40 T C39) (PySem.W.mg_of X G a40) b40
  exact ok_law F41 T C16 C28 C17 C18 C19 C38 C40 C20 C21 C35
theorem walk {l : PySem.W.OpenLaw} {q : Program} {loose : List Str} {XP : (Str → Option Value) → Heap → Prop} {YP : World → Heap → Prop} {d : DefRec} {K : Params → PySem.W.Frag} (hn : l.most = some 63) (hdf : d.params.defaults = [])
    (hY : ∀ (w : World) (h : Heap), YP w h → (K w.params).In h)
    (F : ∀ (w : World) (mg : Str → Option Value) (fa : Addr) (h : Heap), (K w.params).In h → h.Ns mainGlobals mg → mg d.name = some (.ref fa) →
      ∃ fd : FuncData, (∀ (s : Shared) (u : Value), BindsTo s fd ⟨[u], []⟩ [("_law_script", u)]) ∧ ∀ base : Heap, (K w.params).In base → base.Ns mainGlobals mg → FnOk l.prog w (K w.params) mg base CX0 9 fa fd ["_law_script"] (sp_law (K w.params))) :
    PySem.W.WalkO q loose XP YP l.row.toRowW d [] (fun f vs => PySem.call f vs) :=
  L2.walk_of (n := 63) (k := 9) (x := "_law_script") (CX := fun _ => CX0) (sp := fun w => sp_law (K w.params)) hn (by decide) hdf ⟨rfl, by decide, by decide⟩ hY F (fun _ _ a ns hl _ hS => ⟨a, ns, rfl, hS, hl, fun _ => rfl⟩) fun _ _ _ _ _ z => z
theorem walkX {q : Program} {loose : List Str} {XP : (Str → Option Value) → Heap → Prop} {as : List Addr} {K : Params → PySem.W.Frag} {n t : Nat} {r : PySem.W.RowW} {d : DefRec} {kwd : List (Str × Expr)} {run : Value → List Value → Sem Value}
    (e : ∀ P, as = (K P).map (·.1)) (c : PySem.W.WalkO q loose XP (PySem.W.InK K) r d kwd run) :
    PySem.W.WalkX q loose XP (PySem.W.X.obsZ as) (PySem.W.X.valZ K n t) r d kwd run :=
  fun w s₀ s₁ mg mb G y a o pm cd doc dV kV h1 h2 h3 h4 h5 h6 args vals as' L => c w s₀ s₁ mg mb G (PySem.W.InK.keeps w _ _ (PySem.W.X.z_facts e y).2.1 L.keeps) a o pm cd doc dV kV h1 h2 h3 h4 h5 h6 args vals as'
end Pp
noncomputable def PySem.W.Fast.tw6308941181499417198 : Nat := 0
noncomputable def PySem.W.Fast.tw3907097388029836274 : Nat := 0
noncomputable def PySem.W.Fast.tw14852962451443093133 : Nat := 0
noncomputable def PySem.W.Fast.tw9044020754917490303 : Nat := 0
noncomputable def PySem.W.Fast.tw11513000825095132655 : Nat := 0
noncomputable def PySem.W.Fast.tw8363142235009247253 : Nat := 0
noncomputable def PySem.W.Fast.tw12077507982883306045 : Nat := 0
noncomputable def PySem.W.Fast.tw11329480391514157856 : Nat := 0
noncomputable def PySem.W.Fast.tw16223571291694852453 : Nat := 0
noncomputable def PySem.W.Fast.tw6076271678883229955 : Nat := 0
noncomputable def PySem.W.Fast.tw14576924921360988603 : Nat := 0
noncomputable def PySem.W.Fast.tw8980102254218499971 : Nat := 0
noncomputable def PySem.W.Fast.tw13345287694722875031 : Nat := 0
noncomputable def PySem.W.Fast.tw1900044754160115127 : Nat := 0
noncomputable def PySem.W.Fast.tw15360900908483884497 : Nat := 0
noncomputable def PySem.W.Fast.tw9828125626355814035 : Nat := 0
noncomputable def PySem.W.Fast.tw6912058757163870386 : Nat := 0
noncomputable def PySem.W.Fast.tw10769650202128081733 : Nat := 0
noncomputable def PySem.W.Fast.tw10646536471779674297 : Nat := 0
noncomputable def PySem.W.Fast.tw2148642875947009564 : Nat := 0
noncomputable def PySem.W.Fast.tw14654721576318933200 : Nat := 0
noncomputable def PySem.W.Fast.tw13375745515932756612 : Nat := 0
noncomputable def PySem.W.Fast.tw13038333514824032245 : Nat := 0
noncomputable def PySem.W.Fast.tw8708298304387850056 : Nat := 0
noncomputable def PySem.W.Fast.tw12164711653400327565 : Nat := 0
noncomputable def PySem.W.Fast.tw10788640749738218621 : Nat := 0
noncomputable def PySem.W.Fast.tw14711080577276300220 : Nat := 0
noncomputable def PySem.W.Fast.tw2158693367302017297 : Nat := 0
noncomputable def PySem.W.Fast.tw4040346535871249875 : Nat := 0
noncomputable def PySem.W.Fast.tw11186230176667950638 : Nat := 0
noncomputable def PySem.W.Fast.tw14818709128311444888 : Nat := 0
noncomputable def PySem.W.Fast.tw6731466988496470058 : Nat := 0
noncomputable def PySem.W.Fast.tw4739370504606143736 : Nat := 0
noncomputable def PySem.W.Fast.tw4886003790781651558 : Nat := 0
noncomputable def PySem.W.Fast.tw10002913626707863362 : Nat := 0
noncomputable def PySem.W.Fast.tw351702216523290794 : Nat := 0
noncomputable def PySem.W.Fast.tw17778786984248314467 : Nat := 0
noncomputable def PySem.W.Fast.tw11431761556460748263 : Nat := 0
noncomputable def PySem.W.Fast.tw2583273773171738516 : Nat := 0
noncomputable def PySem.W.Fast.tw902771754672211923 : Nat := 0
noncomputable def PySem.W.Fast.tw16445399188285912434 : Nat := 0
noncomputable def PySem.W.Fast.tw13916835268635852108 : Nat := 0
noncomputable def PySem.W.Fast.tw17728393536504640083 : Nat := 0
noncomputable def PySem.W.Fast.tw6082009853137705830 : Nat := 0
noncomputable def PySem.W.Fast.tw14817575980487355550 : Nat := 0
noncomputable def PySem.W.Fast.tw11237910872198192621 : Nat := 0
noncomputable def PySem.W.Fast.tw11028200868419367108 : Nat := 0
noncomputable def PySem.W.Fast.tw5182745556739928089 : Nat := 0
noncomputable def PySem.W.Fast.tw18125008767423912352 : Nat := 0
noncomputable def PySem.W.Fast.tw13727394331730002024 : Nat := 0
noncomputable def PySem.W.Fast.tw2495810757682186820 : Nat := 0
noncomputable def PySem.W.Fast.tw8063144655338276414 : Nat := 0
noncomputable def PySem.W.Fast.tw4612691993004666180 : Nat := 0
noncomputable def PySem.W.Fast.tw6803258201954839305 : Nat := 0
noncomputable def PySem.W.Fast.tw2714625136094190627 : Nat := 0
noncomputable def PySem.W.Fast.tw11251873883072185535 : Nat := 0
noncomputable def PySem.W.Fast.tw17522257119395082895 : Nat := 0
noncomputable def PySem.W.Fast.tw7367464941667355763 : Nat := 0
noncomputable def PySem.W.Fast.tw15094304469956988937 : Nat := 0
noncomputable def PySem.W.Fast.tw1226049233730811949 : Nat := 0
noncomputable def PySem.W.Fast.tw12328173415595689098 : Nat := 0
noncomputable def PySem.W.Fast.tw786813625757603102 : Nat := 0
noncomputable def PySem.W.Fast.tw10082893276577995649 : Nat := 0
noncomputable def PySem.W.Fast.tw11425716526816534269 : Nat := 0
noncomputable def PySem.W.Fast.tw15836993996486994717 : Nat := 0
noncomputable def PySem.W.Fast.tw12722963078346480544 : Nat := 0
noncomputable def PySem.W.Fast.tw13634509474815409665 : Nat := 0
noncomputable def PySem.W.Fast.tw74935436739630089 : Nat := 0
noncomputable def PySem.W.Fast.tw8791400685969612474 : Nat := 0
noncomputable def PySem.W.Fast.tw12110339519698219025 : Nat := 0
noncomputable def PySem.W.Fast.tw9450328574283378613 : Nat := 0
noncomputable def PySem.W.Fast.tw18014034696662808644 : Nat := 0
open PySem PySem.W PyProof.Rows
set_option maxRecDepth 100000 in
set_option maxHeartbeats 0 in
theorem PySem.Challenge.cw_panelplace_k18_sheet_made_holds : PySem.Challenge.rw_panelplace_k18_sheet_made.Holds := by
  w_on; o_law; z_head; (case hw => w_witness2)
  refine Pp.walkX (fun _ => by kernel_rfl) ?_
  refine Pp.walk (l := PySem.Challenge.rw_panelplace_k18_sheet_made) rfl rfl (fun w h Y => Y) ?F
  case F =>
    intro w mg fa h KX G hmg
    refine' Pp.all_mk KX G hmg ?oa_Sheet ?a0 ?i0 ?l0 ?c0 ?k0 ?a1 ?i1 ?l1 ?c1 ?k1 ?a2 ?i2 ?l2 ?c2 ?k2 ?a3 ?i3 ?l3 ?c3 ?k3 ?a4 ?i4 ?l4 ?c4 ?k4 ?a5 ?i5 ?l5 ?c5 ?k5 ?a6 ?i6 ?l6 ?c6 ?k6 ?a7 ?i7 ?l7 ?c7 ?k7 ?a8 ?l8 ?c8 ?k8 ?a9 ?l9 ?c9 ?k9 ?a10 ?l10 ?c10 ?k10 ?a11 ?l11 ?c11 ?k11 ?a12 ?l12 ?c12 ?k12 ?a13 ?l13 ?c13 ?k13 ?a14 ?l14 ?c14 ?k14 ?a15 ?l15 ?c15 ?k15 ?a16 ?l16 ?c16 ?k16 ?a17 ?l17 ?c17 ?k17 ?a18 ?l18 ?c18 ?k18 ?a19 ?l19 ?c19 ?k19 ?a20 ?l20 ?c20 ?k20 ?a21 ?l21 ?c21 ?k21 ?a22 ?i22 ?l22 ?c22 ?k22 ?a23 ?i23 ?l23 ?c23 ?k23 ?a24 ?l24 ?c24 ?k24 ?a25 ?l25 ?c25 ?k25 ?a26 ?l26 ?c26 ?k26 ?a27 ?l27 ?c27 ?k27 ?a28 ?l28 ?c28 ?k28 ?a29 ?i29 ?l29 ?c29 ?k29 ?a30 ?l30 ?c30 ?k30 ?a31 ?l31 ?c31 ?k31 ?a32 ?l32 ?c32 ?k32 ?a33 ?i33 ?l33 ?c33 ?k33 ?a34 ?l34 ?c34 ?k34 ?a35 ?l35 ?c35 ?k35 ?a36 ?l36 ?c36 ?k36 ?a37 ?l37 ?c37 ?k37 ?a38 ?l38 ?c38 ?k38 ?a39 ?l39 ?c39 ?k39 ?a40 ?l40 ?c40 ?k40 ?a41 ?l41 ?c41 ?k41 ?z0 ?z1 ?z2 ?z3 ?z4 ?z5 ?z6 ?z7 ?z8 ?z9 ?y0 ?y1 ?y2 ?y3 ?y4 ?y5 ?yl5 ?yt5 ?yz5 ?yv5 ?y6 ?yl6 ?yt6 ?yz6 ?yv6 ?y7 ?yl7 ?yt7 ?yz7 ?yv7 ?y8 ?xa0 ?xa1 ?xa2 ?xa3 ?xa4 ?xa9 ?xe0 ?xe1 ?xv1 ?xi1 ?xs1_0 ?xk1_1 ?xk1_2 ?xe2 ?xv2 ?xi2 ?xs2_0 ?xk2_1 ?xk2_2 ?xe3 ?xe4 ?xe9 ?opg_Sheet ?ohd_Sheet ?opo_Sheet ?osa_Sheet ?omk_Sheet ?okc_Sheet ?on_Sheet_standing ?on_Sheet_struck_so_far ?on_Sheet_panel ?on_Sheet_card_by_judge ?on_Sheet_taken_so_far ?on_Sheet_sealed
    (case oa_Sheet => k_is)
    (case a0 => k_is)
    (case i0 => k_is)
    (case l0 => k_is)
    (case c0 => k_is)
    (case k0 => k_is)
    (case a1 => k_is)
    (case i1 => k_is)
    (case l1 => k_is)
    (case c1 => k_is)
    (case k1 => k_is)
    (case a2 => k_is)
    (case i2 => k_is)
    (case l2 => k_is)
    (case c2 => k_is)
    (case k2 => k_is)
    (case a3 => k_is)
    (case i3 => k_is)
    (case l3 => k_is)
    (case c3 => k_is)
    (case k3 => k_is)
    (case a4 => k_is)
    (case i4 => k_is)
    (case l4 => k_is)
    (case c4 => k_is)
    (case k4 => k_is)
    (case a5 => k_is)
    (case i5 => k_is)
    (case l5 => k_is)
    (case c5 => k_is)
    (case k5 => k_is)
    (case a6 => k_is)
    (case i6 => k_is)
    (case l6 => k_is)
    (case c6 => k_is)
    (case k6 => k_is)
    (case a7 => k_is)
    (case i7 => k_is)
    (case l7 => k_is)
    (case c7 => k_is)
    (case k7 => k_is)
    (case a8 => k_is)
    (case l8 => k_is)
    (case c8 => k_is)
    (case k8 => k_is)
    (case a9 => k_is)
    (case l9 => k_is)
    (case c9 => k_is)
    (case k9 => k_is)
    (case a10 => k_is)
    (case l10 => k_is)
    (case c10 => k_is)
    (case k10 => k_is)
    (case a11 => k_is)
    (case l11 => k_is)
    (case c11 => k_is)
    (case k11 => k_is)
    (case a12 => k_is)
    (case l12 => k_is)
    (case c12 => k_is)
    (case k12 => k_is)
    (case a13 => k_is)
    (case l13 => k_is)
    (case c13 => k_is)
    (case k13 => k_is)
    (case a14 => k_is)
    (case l14 => k_is)
    (case c14 => k_is)
    (case k14 => k_is)
    (case a15 => k_is)
    (case l15 => k_is)
    (case c15 => k_is)
    (case k15 => k_is)
    (case a16 => k_is)
    (case l16 => k_is)
    (case c16 => k_is)
    (case k16 => k_is)
    (case a17 => k_is)
    (case l17 => k_is)
    (case c17 => k_is)
    (case k17 => k_is)
    (case a18 => k_is)
    (case l18 => k_is)
    (case c18 => k_is)
    (case k18 => k_is)
    (case a19 => k_is)
    (case l19 => k_is)
    (case c19 => k_is)
    (case k19 => k_is)
    (case a20 => k_is)
    (case l20 => k_is)
    (case c20 => k_is)
    (case k20 => k_is)
    (case a21 => k_is)
    (case l21 => k_is)
    (case c21 => k_is)
    (case k21 => k_is)
    (case a22 => k_is)
    (case i22 => k_is)
    (case l22 => k_is)
    (case c22 => k_is)
    (case k22 => k_is)
    (case a23 => k_is)
    (case i23 => k_is)
    (case l23 => k_is)
    (case c23 => k_is)
    (case k23 => k_is)
    (case a24 => k_is)
    (case l24 => k_is)
    (case c24 => k_is)
    (case k24 => k_is)
    (case a25 => k_is)
    (case l25 => k_is)
    (case c25 => k_is)
    (case k25 => k_is)
    (case a26 => k_is)
    (case l26 => k_is)
    (case c26 => k_is)
    (case k26 => k_is)
    (case a27 => k_is)
    (case l27 => k_is)
    (case c27 => k_is)
    (case k27 => k_is)
    (case a28 => k_is)
    (case l28 => k_is)
    (case c28 => k_is)
    (case k28 => k_is)
    (case a29 => k_is)
    (case i29 => k_is)
    (case l29 => k_is)
    (case c29 => k_is)
    (case k29 => k_is)
    (case a30 => k_is)
    (case l30 => k_is)
    (case c30 => k_is)
    (case k30 => k_is)
    (case a31 => k_is)
    (case l31 => k_is)
    (case c31 => k_is)
    (case k31 => k_is)
    (case a32 => k_is)
    (case l32 => k_is)
    (case c32 => k_is)
    (case k32 => k_is)
    (case a33 => k_is)
    (case i33 => k_is)
    (case l33 => k_is)
    (case c33 => k_is)
    (case k33 => k_is)
    (case a34 => k_is)
    (case l34 => k_is)
    (case c34 => k_is)
    (case k34 => k_is)
    (case a35 => k_is)
    (case l35 => k_is)
    (case c35 => k_is)
    (case k35 => k_is)
    (case a36 => k_is)
    (case l36 => k_is)
    (case c36 => k_is)
    (case k36 => k_is)
    (case a37 => k_is)
    (case l37 => k_is)
    (case c37 => k_is)
    (case k37 => k_is)
    (case a38 => k_is)
    (case l38 => k_is)
    (case c38 => k_is)
    (case k38 => k_is)
    (case a39 => k_is)
    (case l39 => k_is)
    (case c39 => k_is)
    (case k39 => k_is)
    (case a40 => k_is)
    (case l40 => k_is)
    (case c40 => k_is)
    (case k40 => k_is)
    (case a41 => k_is)
    (case l41 => k_is)
    (case c41 => k_is)
    (case k41 => k_is)
    (case z0 => k_is)
    (case z1 => k_is)
    (case z2 => k_is)
    (case z3 => k_is)
    (case z4 => k_is)
    (case z5 => k_is)
    (case z6 => k_is)
    (case z7 => k_is)
    (case z8 => k_is)
    (case z9 => k_is)
    (case y0 => k_is)
    (case y1 => k_is)
    (case y2 => k_is)
    (case y3 => k_is)
    (case y4 => k_is)
    (case y5 => k_is)
    (case yl5 => k_is)
    (case yt5 => exact rfl)
    (case yz5 => decide)
    (case yv5 => exact .cons ⟨_, rfl⟩ (.cons ⟨_, rfl⟩ (.cons ⟨_, rfl⟩ (.cons ⟨_, rfl⟩ (.cons ⟨_, rfl⟩ (.nil))))))
    (case y6 => k_is)
    (case yl6 => k_is)
    (case yt6 => exact rfl)
    (case yz6 => decide)
    (case yv6 => exact .cons ⟨_, rfl⟩ (.cons ⟨_, rfl⟩ (.cons ⟨_, rfl⟩ (.cons ⟨_, rfl⟩ (.nil)))))
    (case y7 => k_is)
    (case yl7 => k_is)
    (case yt7 => exact rfl)
    (case yz7 => decide)
    (case yv7 => exact .cons ⟨_, rfl⟩ (.cons ⟨_, rfl⟩ (.cons ⟨_, rfl⟩ (.nil))))
    (case y8 => k_is)
    (case xa0 => k_is)
    (case xa1 => k_is)
    (case xa2 => k_is)
    (case xa3 => k_is)
    (case xa4 => k_is)
    (case xa9 => k_is)
    (case xe0 => kernel_rfl)
    (case xe1 => kernel_rfl)
    (case xv1 => kernel_rfl)
    (case xi1 => kernel_rfl)
    (case xs1_0 => kernel_rfl)
    (case xk1_1 => kernel_rfl)
    (case xk1_2 => kernel_rfl)
    (case xe2 => kernel_rfl)
    (case xv2 => kernel_rfl)
    (case xi2 => kernel_rfl)
    (case xs2_0 => kernel_rfl)
    (case xk2_1 => kernel_rfl)
    (case xk2_2 => kernel_rfl)
    (case xe3 => kernel_rfl)
    (case xe4 => kernel_rfl)
    (case xe9 => kernel_rfl)
    (case opg_Sheet => k_is)
    (case ohd_Sheet => k_is)
    (case opo_Sheet => k_is)
    (case osa_Sheet => k_is)
    (case omk_Sheet => k_is)
    (case okc_Sheet => k_is)
    (case on_Sheet_standing => k_is)
    (case on_Sheet_struck_so_far => k_is)
    (case on_Sheet_panel => k_is)
    (case on_Sheet_card_by_judge => k_is)
    (case on_Sheet_taken_so_far => k_is)
    (case on_Sheet_sealed => k_is)

import PyProof.Rows.All
import Wide.All
import OpenK.AllK
import Wide.FinOn
import Lean
import PyProof.EqAt
import PyProof.EqKinds
import PyProof.TupleCall
import PyProof.ListRange
import KE.KSortAsk
import KE.KSortKey
import KE.KSortTup
import KE.KItemsList
import KE.KLam
import KE.KNestM
import PyProof.Rows.StrLen
import PyProof.Rows.Range3
import PyProof.CallStr
import PyProof.StrBlockL
import PyProof.MeetsStr
import PyProof.Rows.StrDigits
import PySem.Challenge.RW_panelplace_k43_whole_names_do_not_matter
noncomputable section
set_option Elab.async false
set_option linter.all false
set_option maxRecDepth 100000
namespace L2
open PySem PySem.Spec PyProof.Rows
abbrev Key:=Sum Int Str
def zff:Key→Value→Bool
 | .inl k,v=>Value.isInt k v
 | .inr x,v=>Value.isStrOf x v
def keyH(w:World):Key→Int
 | .inl k=>hashInt k
 | .inr x=>hashStr w x
theorem ym:∀{k:Key} {v:Value},zff k v=true→(∃i t,k=Sum.inl i∧v=Value.int i t)∨(∃x t,k=Sum.inr x∧v=Value.str x t)
 | .inl i,v,h=>by
   obtain⟨t,e⟩:=Value.isInt_shape (k:=i) (v:=v) h
   exact .inl ⟨i,t,rfl,e⟩
 | .inr x,v,h=>by
   obtain⟨t,e⟩:=Value.isStrOf_shape (x:=x) (v:=v) h
   exact .inr ⟨x,t,rfl,e⟩
theorem keyIs_int(i:Int)(t:Tok):zff (.inl i) (.int i t)=true:=by simp[zff,Value.isInt]
theorem keyIs_str(x:Str)(t:Tok):zff (.inr x) (.str x t)=true:=by simp[zff,Value.isStrOf]
theorem key_ll(a b:Int):decide ((Sum.inl a:Key)=Sum.inl b)=(a==b):=by
 by_cases e:a=b
 ·subst e;simp
 ·have h:¬(Sum.inl a:Key)=Sum.inl b:=fun q=>e (Sum.inl.inj q)
  rw[decide_eq_false h]
  exact(beq_eq_false_iff_ne.mpr e).symm
theorem key_rr(a b:Str):decide ((Sum.inr a:Key)=Sum.inr b)=decide (a=b):=by
 by_cases e:a=b
 ·subst e;simp
 ·have h:¬(Sum.inr a:Key)=Sum.inr b:=fun q=>e (Sum.inr.inj q)
  rw[decide_eq_false h,decide_eq_false e]
theorem key_lr(a:Int)(b:Str):decide ((Sum.inl a:Key)=Sum.inr b)=false:=decide_eq_false (fun q=>nomatch q)
theorem key_rl(a:Str)(b:Int):decide ((Sum.inr a:Key)=Sum.inl b)=false:=decide_eq_false (fun q=>nomatch q)
def wn(prog:Program)(w:World):PySem.KeyKind prog w Key where
 is:=zff
 hash:=keyH w
 inj:=fun v a b ha hb=>by
  rcases ym ha with⟨i,t,rfl,rfl⟩ | ⟨x,t,rfl,rfl⟩
  ·rcases ym hb with⟨j,u,rfl,e⟩ | ⟨y,u,rfl,e⟩
   ·injection e with e1 _;rw[e1]
   ·exact nomatch e
  ·rcases ym hb with⟨j,u,rfl,e⟩ | ⟨y,u,rfl,e⟩
   ·exact nomatch e
   ·injection e with e1 _;rw[e1]
 byValue:=fun k v h=>by
  rcases ym h with⟨i,t,rfl,rfl⟩ | ⟨x,t,rfl,rfl⟩ <;> rfl
 pyHash:=fun hv h=>by
  rcases ym hv with⟨i,t,rfl,rfl⟩ | ⟨x,t,rfl,rfl⟩
  ·exact wpAny_pyHash_int h
  ·exact wpAny_pyHash_str h
 eqBool:=fun hu hv h=>by
  rcases ym hu with⟨i,t,rfl,rfl⟩ | ⟨x,t,rfl,rfl⟩
  ·rcases ym hv with⟨j,u,rfl,rfl⟩ | ⟨y,u,rfl,rfl⟩
   ·rw[key_ll] at h;exact wpAny_eqBool_int h
   ·rw[key_lr] at h;exact SeqAt.EqAt.int_str i t y u _ _ _ _ h
  ·rcases ym hv with⟨j,u,rfl,rfl⟩ | ⟨y,u,rfl,rfl⟩
   ·rw[key_rl] at h;exact SeqAt.EqAt.str_int x t j u _ _ _ _ h
   ·rw[key_rr] at h;exact wpAny_eqBool_str h
 «strs» := fun k x t v h=>by
  rcases ym h with⟨i,u,rfl,e⟩ | ⟨y,u,rfl,e⟩
  ·exact nomatch e
  ·injection e with e1 _
   subst e1
   cases v <;> rfl
theorem zha(prog:Program)(w:World)(i:Int)(t:Tok):(wn prog w).is (.inl i) (.int i t)=true:=keyIs_int i t
theorem zgV(prog:Program)(w:World)(x:Str)(t:Tok):(wn prog w).is (.inr x) (.str x t)=true:=keyIs_str x t
inductive V where
 | non | bl (b:Bool) | int (i:Int) | str (x:Str) | byt (b:Array UInt8) | flt (b:UInt64) | ref (a:Addr) | ty (n:String)
 deriving DecidableEq
def zH:V→Value→Prop
 | .non,u=>u=Value.none
 | .bl b,u=>u=Value.bool b
 | .int i,u=>∃t,u=Value.int i t
 | .str x,u=>∃t,u=Value.str x t
 | .byt b,u=>∃t,u=Value.bytes b t
 | .flt b,u=>∃t,u=Value.float b t
 | .ref a,u=>u=Value.ref a
 | .ty n,u=>u=Value.type n
abbrev zA:List V→List Value→Prop:=Paired zH
theorem zA.length{xs:List V}{us:List Value}(r:zA xs us):xs.length=us.length:=Paired.length r
theorem zA.get:∀{xs:List V} {us:List Value} {i:Nat} {x:V},zA xs us→xs[i]? = some x→∃u,us[i]? = some u∧zH x u
 | _,_,_,_,.nil,e=>by simp at e
 | _,_,0,_,.cons r _,e=>by simp at e;subst e;exact⟨_,rfl,r⟩
 | _,_,i+1,x,.cons _ t,e=>by
   obtain⟨u,h1,h2⟩:=zA.get (i:=i) (x:=x) t (by simpa using e)
   exact⟨u,by simpa using h1,h2⟩
theorem zA.set{x:V}{u:Value}(r:zH x u):∀{xs:List V} {us:List Value} (i:Nat),zA xs us→zA (xs.set i x) (us.set i u)
 | _,_,_,.nil=>.nil
 | _,_,0,.cons _ t=>.cons r t
 | _,_,i+1,.cons q t=>.cons q (zA.set r i t)
theorem zA.append:∀{xs ys:List V} {us ws:List Value},zA xs us→zA ys ws→zA (xs++ys) (us++ws)
 | _,_,_,_,.nil,s=>s
 | _,_,_,_,.cons r t,s=>.cons r (zA.append t s)
theorem zA.take:∀{xs:List V} {us:List Value} (n:Nat),zA xs us→zA (xs.take n) (us.take n)
 | _,_,0,_=>.nil
 | _,_,_+1,.nil=>.nil
 | _,_,n+1,.cons r t=>.cons r (zA.take n t)
theorem zA.drop:∀{xs:List V} {us:List Value} (n:Nat),zA xs us→zA (xs.drop n) (us.drop n)
 | _,_,0,r=>r
 | _,_,_+1,.nil=>.nil
 | _,_,n+1,.cons _ t=>zA.drop n t
def zcs:Option V→Option Value→Prop
 | some v,some u=>zH v u
 | none,none=>True
 | _,_=>False
def KV{κ:Type}:List (κ × V)→List (κ × Value)→Prop:=Paired fun(p:κ × V) (q:κ × Value)=>p.1=q.1∧zH p.2 q.2
def kV:Key→V
 | .inl i=>.int i
 | .inr x=>.str x
inductive HO where
 /-- a list -/
 | lst (xs:List V)
 /-- a tuple (never changes) -/
 | tup (xs:List V)
 /-- a dict whose keys are ints and texts;one whose keys are tuples of ints and texts (the empty one is both) -/
 | dK (kvs:List (Key × V)) | dT (kvs:List (List Key × V))
 /-- a set of ints: its members,its size -/
 | set (S:Int→Bool) (n:Nat)
 /-- an instance of the class at C,its dict at dx,its attributes -/
 | ins (C dx:Addr) (fs:List (Str × V))
 /-- the dict of the instance at x -/
 | own (x:Addr)
 /-- the dict of an exception -/
 | xd (fs:List (Str × V))
 /-- a bound method,f of x -/
 | met (f x:Addr)
 /-- a range object lo,lo+1,.. zhb hi -/
 | rng (lo hi:Int)
 /-- a thing that is known to the object (the script;a dict while a loop walks it): read,never written while it is so -/
 | frz (o:Obj) (u:HO)
 /-- a code object's table -/
 | tbl (ps:Array Value)
 /-- any other thing,by what is true of its one object (a def of one's own: SetO a S n:=HO.ext fun h => ..) -/
 | ext (φ:Heap→Prop)
abbrev Hp:=Addr→Option HO
def upd(H:Hp)(a:Addr)(o:HO):Hp:=fun b=>if b=a then some o else H b
theorem zf{H:Hp}{a:Addr}{o:HO}:upd H a o a=some o:=by unfold upd;rw[if_pos rfl]
theorem zj{H:Hp}{a b:Addr}{o:HO}(h:b≠a):upd H a o b=H b:=by unfold upd;rw[if_neg h]
theorem upd_upd{H:Hp}{a:Addr}{o u:HO}:upd (upd H a o) a u=upd H a u:=by
 funext b;unfold upd;split <;> rfl
theorem zaw{H:Hp}{a b:Addr}{o u:HO}(h:H a=some o)(h':H b=some u)(d:o≠u):a≠b:=by
 intro e;subst e;rw[h] at h';exact d (Option.some.inj h')
theorem zq{H:Hp}{a b:Addr}{o:HO}(h:H a=some o)(h':H b=none):a≠b:=by
 intro e;subst e;rw[h] at h';cases h'
section
variable (P:Program) (w:World)
def yF(H:Hp)(h:Heap)(a:Addr):HO→Prop
 | .lst xs=>xs.length≤sizeLine∧∃(its:List Value) (n:Nat),zA xs its∧h.get? a=some { cls:=.type "list",data:=.seq its.toArray n }
 | .tup xs=>xs.length≤sizeLine∧∃its:List Value,zA xs its∧IsTup h a its.toArray
 | .dK kvs=>kvs.length≤sizeLine∧(a==sysModules)=false∧∃vs,KV kvs vs∧h.DictOf (wn P w) a vs
 | .dT kvs=>kvs.length≤sizeLine∧(a==sysModules)=false∧∃xs:List (List Key × Addr × Value),
    Paired (fun(p:List Key × V) (q:List Key × Addr × Value)=>p.1=q.1∧H q.2.1=some (.tup (p.1.map kV))∧zH p.2 q.2.2) kvs xs ∧
    ∃o es ep,h.get? a=some o∧o.ExactDict∧o.data=.dict es ep∧es.toList=xs.map (entryOfKey (tupleKind (wn P w)))∧(xs.map (·.1)).Nodup
 | .set S n=>h.SetOf (intKind P w) a S n
 | .ins C dx fs=>H dx=some (.own a)∧fs.length≤1000∧dx≠a∧h.get? a=some (PySem.W.instObj C dx) ∧
    ∃mA,h.Ns1 dx mA∧(∀f,zcs (fs.lookup f) (mA f))∧PySem.Within mA (fs.map (·.1))
 | .own _=>∃o,h.get? a=some o
 | .xd fs=>∃mA,h.Ns1 a mA∧∀f,zcs (fs.lookup f) (mA f)
 | .rng lo hi=>∃t u v,h.get? a=some { cls:=.type "range",data:=.fields #[.int lo t,.int hi u,.int 1 v] }
 | .frz o u=>h.get? a=some o∧yF H h a u
 | .tbl ps=>h.get? a=some { cls:=.none,data:=.fields ps }
 | .met f x=>h.get? a=some (PySem.W.methodObj (.ref f) (.ref x))
 | .ext φ=>φ h∧(∃o,h.get? a=some o)∧∀h1 h2:Heap,φ h1→(∀o,h1.get? a=some o→h2.get? a=some o)→φ h2
def HOk(H:Hp)(h:Heap):Prop:=∀a o,H a=some o→yF P w H h a o
end
section
variable {P:Program} {w:World} {H H':Hp} {h h':Heap} {a:Addr} {o:HO}
theorem yF.lt(x:yF P w H h a o):a<h.objs.size:=by
 cases o with
 | lst xs=>obtain⟨_,_,_,_,e⟩:=x;exact Heap.lt_size e
 | tup xs=>obtain⟨_,_,_,p⟩:=x;exact p.lt
 | dK kvs=>obtain⟨_,_,_,_,o,_,_,e,_⟩:=x;exact Heap.lt_size e
 | dT kvs=>obtain⟨_,_,_,_,o,_,_,e,_⟩:=x;exact Heap.lt_size e
 | set S n=>obtain⟨o,_,_,_,e,_⟩:=x;exact Heap.lt_size e
 | ins C dx fs=>obtain⟨_,_,_,e,_⟩:=x;exact Heap.lt_size e
 | own y=>obtain⟨_,e⟩:=x;exact Heap.lt_size e
 | xd fs=>obtain⟨_,⟨_,_,_,e,_⟩,_⟩:=x;exact Heap.lt_size e
 | rng lo hi=>obtain⟨_,_,_,e⟩:=x;exact Heap.lt_size e
 | frz ob u=>obtain⟨e,_⟩:=x;exact Heap.lt_size e
 | tbl ps=>exact Heap.lt_size (show h.get? a=some _ from x)
 | met f y=>exact Heap.lt_size (show h.get? a=some _ from x)
 | ext φ=>obtain⟨_,⟨_,e⟩,_⟩:=x;exact Heap.lt_size e
theorem Paired.mapP{α β:Type}{F G:α→β→Prop}:∀{l₁:List α} {l₂:List β},Paired F l₁ l₂→(∀a b,F a b→G a b)→Paired G l₁ l₂
 | _,_,.nil,_=>.nil
 | _,_,.cons r t,f=>.cons (f _ _ r) (Paired.mapP t f)
theorem yF.stay(x:yF P w H h a o)(k:∀b u,(b=a∨H b=some (.own a))→h.get? b=some u→h'.get? b=some u)
 (ho:∀b,H b=some (.own a)→H' b=some (.own a)) (ht:∀b xs,H b=some (.tup xs)→H' b=some (.tup xs)):yF P w H' h' a o:=by
 induction o with
 | lst xs=>obtain⟨z,its,n,r,e⟩:=x;exact⟨z,its,n,r,k _ _ (.inl rfl) e⟩
 | tup xs=>obtain⟨z,its,r,ob,e,c⟩:=x;exact⟨z,its,r,ob,k _ _ (.inl rfl) e,c⟩
 | dK kvs=>obtain⟨z,y,vs,r,ob,es,ep,e,c⟩:=x;exact⟨z,y,vs,r,ob,es,ep,k _ _ (.inl rfl) e,c⟩
 | dT kvs =>
   obtain⟨z,y,xs,r,ob,es,ep,e,c⟩:=x
   exact⟨z,y,xs,Paired.mapP r fun p q z=>⟨z.1,ht _ _ z.2.1,z.2.2⟩,ob,es,ep,k _ _ (.inl rfl) e,c⟩
 | set S n=>obtain⟨ob,es,ep,t,e,c⟩:=x;exact⟨ob,es,ep,t,k _ _ (.inl rfl) e,c⟩
 | ins C dx fs =>
   obtain⟨d,z,ne,e,mA,⟨od,es,ep,e2,c⟩,r⟩:=x
   exact⟨ho _ d,z,ne,k _ _ (.inl rfl) e,mA,⟨od,es,ep,k _ _ (.inr d) e2,c⟩,r⟩
 | own y=>obtain⟨ob,e⟩:=x;exact⟨ob,k _ _ (.inl rfl) e⟩
 | xd fs=>obtain⟨mA,⟨od,es,ep,e,c⟩,r⟩:=x;exact⟨mA,⟨od,es,ep,k _ _ (.inl rfl) e,c⟩,r⟩
 | rng lo hi=>obtain⟨t,u,v,e⟩:=x;exact⟨t,u,v,k _ _ (.inl rfl) e⟩
 | frz ob u ih=>obtain⟨e,q⟩:=x;exact⟨k _ _ (.inl rfl) e,ih q⟩
 | tbl ps =>
   have e:h.get? a=some { cls:=.none,data:=.fields ps }:=x
   show h'.get? a=some { cls:=.none,data:=.fields ps }
   exact k a _ (.inl rfl) e
 | met f y =>
   have e:h.get? a=some (PySem.W.methodObj (.ref f) (.ref y)):=x
   show h'.get? a=some (PySem.W.methodObj (.ref f) (.ref y))
   exact k a _ (.inl rfl) e
 | ext φ=>obtain⟨p,⟨o,e⟩,st⟩:=x;exact⟨st _ _ p fun o q=>k _ _ (.inl rfl) q,⟨o,k _ _ (.inl rfl) e⟩,st⟩
theorem HOk.lt(x:HOk P w H h)(e:H a=some o):a<h.objs.size:=(x a o e).lt
theorem HOk.fresh(x:HOk P w H h)(e:h.objs.size≤a):H a=none:=by
 cases q:H a with
 | none=>rfl
 | some u=>exact absurd (Nat.lt_of_lt_of_le (x.lt q) e) (Nat.lt_irrefl _)
theorem HOk.kept(x:HOk P w H h)(k:∀b u,h.get? b=some u→h'.get? b=some u):HOk P w H h':=fun a o e =>
 (x a o e).stay (fun b u _ q=>k b u q) (fun _ q=>q) fun _ _ q=>q
theorem HOk.laid(x:HOk P w H h)(k:∀b u,h.get? b=some u→h'.get? b=some u)(hp:h.objs.size≤a)(new:yF P w (upd H a o) h' a o):HOk P w (upd H a o) h':=fun b u e=>by
 have hn:=x.fresh hp
 by_cases hb:b=a
 ·subst hb;rw[zf] at e;cases e;exact new
 ·rw[zj hb] at e
  exact(x b u e).stay (fun c v _ q=>k c v q) (fun c q=>by rw[zj (zq q hn)];exact q) fun c xs q=>by rw[zj (zq q hn)];exact q
end
def Rd(H:Hp)(a:Addr)(u:HO):Prop:=H a=some u∨∃o,H a=some (.frz o u)
theorem Rd.of{H:Hp}{a:Addr}{u:HO}(h:H a=some u):Rd H a u:=.inl h
theorem Rd.ok{P:Program}{w:World}{H:Hp}{h:Heap}{a:Addr}{u:HO}(r:Rd H a u)(x:HOk P w H h):yF P w H h a u:=by
 rcases r with r | ⟨o,r⟩
 ·exact x a u r
 ·obtain⟨_,q⟩:=x a _ r
  exact q
def Mut:Option HO→Prop
 | some (.lst _)=>True
 | some (.dK _)=>True
 | some (.dT _)=>True
 | some (.set _ _)=>True
 | some (.ins _ _ _)=>True
 | some (.ext _)=>True
 | _=>False
section
variable {P:Program} {w:World} {H:Hp} {h h':Heap} {x e:Addr} {o':HO}
theorem HOk.write(ok:HOk P w H h)(mu:Mut (H x))(he:e=x∨H e=some (.own x))(k:∀b u,b≠e→h.get? b=some u→h'.get? b=some u)(heo:∃u,h'.get? e=some u)
 (new:yF P w (upd H x o') h' x o'):HOk P w (upd H x o') h':=fun b u q=>by
 have nown:∀c y,H c=some (.own y)→c≠x:=fun c y r z=>by subst z;rw[r] at mu;exact mu
 have ntup:∀c xs,H c=some (.tup xs)→c≠x:=fun c xs r z=>by subst z;rw[r] at mu;exact mu
 by_cases hb:b=x
 ·subst hb;rw[zf] at q;cases q;exact new
 ·rw[zj hb] at q
  by_cases hbe:b=e
  ·have q':H b=some (.own x):=by
    rcases he with z | z
    ·exact absurd (hbe.trans z) hb
    ·rw[hbe];exact z
   rw[q] at q';cases q'
   obtain⟨v,hv⟩:=heo
   exact⟨v,by rw[hbe];exact hv⟩
  ·refine(ok b u q).stay (fun c v hc r=>k c v ?_ r) (fun c r=>by rw[zj (nown c b r)];exact r) fun c xs r=>by rw[zj (ntup c xs r)];exact r
   rcases hc with rfl | hc
   ·exact hbe
   ·rintro rfl
    rcases he with z | z
    ·exact nown c b hc z
    ·rw[hc] at z;cases z;exact hb rfl
end
structure Un (fs ex:List Addr) (H H':Hp) (h h':Heap):Prop where
 keep:∀b o,h.get? b=some o→H b=none→b∉fs→b∉ex→h'.get? b=some o
 slot:∀b o,h.get? b=some o→H b=none→b∈fs→b∉ex→∃sl,h'.get? b=some { o with slots:=sl }
 free:∀b o,h.get? b=some o→H b=none→b∉ex→H' b=none
 there:∀b o,h.get? b=some o→b∉ex→∃o',h'.get? b=some o'
 tups:∀b xs,H b=some (.tup xs)→H' b=some (.tup xs)
 frzs:∀b o u,H b=some (.frz o u)→H' b=some (.frz o u)
 tbls:∀b ps,H b=some (.tbl ps)→∃more,H' b=some (.tbl (ps++more))
section
variable {fs fs' ex ex':List Addr} {H H1 H2:Hp} {h h1 h2 h':Heap} {a x e:Addr} {o:HO}
theorem Un.any(u:Un fs ex H H1 h h1){b:Addr}{ob:Obj}(q:h.get? b=some ob)(n:H b=none)(hx:b∉ex):∃sl,h1.get? b=some { ob with slots:=sl }:=by
 by_cases hb:b∈fs
 ·exact u.slot b ob q n hb hx
 ·exact⟨ob.slots,u.keep b ob q n hb hx⟩
theorem Un.trans(a:Un fs ex H H1 h h1)(b:Un fs ex H1 H2 h1 h2):Un fs ex H H2 h h2 where
 keep:=fun c ob q n hc hx=>b.keep c ob (a.keep c ob q n hc hx) (a.free c ob q n hx) hc hx
 slot:=fun c ob q n hc hx=>by
  obtain⟨sl,e1⟩:=a.slot c ob q n hc hx
  obtain⟨sl',e2⟩:=b.slot c _ e1 (a.free c ob q n hx) hc hx
  exact⟨sl',e2⟩
 free:=fun c ob q n hx=>by
  obtain⟨o',e1⟩:=a.there c ob q hx
  exact b.free c o' e1 (a.free c ob q n hx) hx
 there:=fun c ob q hx=>by
  obtain⟨o',e1⟩:=a.there c ob q hx
  exact b.there c o' e1 hx
 tups:=fun c xs q=>b.tups c xs (a.tups c xs q)
 frzs:=fun c ob xs q=>b.frzs c ob xs (a.frzs c ob xs q)
 tbls:=fun c ps q=>by
  obtain⟨m1,e1⟩:=a.tbls c ps q
  obtain⟨m2,e2⟩:=b.tbls c _ e1
  exact⟨m1++m2,by rw[e2,Array.append_assoc]⟩
theorem Un.kept(k:∀b u,h.get? b=some u→h'.get? b=some u):Un fs ex H H h h' :=
 ⟨fun b ob q _ _ _=>k b ob q,fun b ob q _ _ _=>⟨ob.slots,k b ob q⟩,fun _ _ _ n _=>n,fun b ob q _=>⟨ob,k b ob q⟩,fun _ _ q=>q,fun _ _ _ q=>q,fun _ ps q=>⟨#[],by rw[q];simp⟩⟩
theorem Un.refl:Un fs ex H H h h:=Un.kept fun _ _ q=>q
theorem Un.laid(k:∀b u,h.get? b=some u→h'.get? b=some u)(hp:h.objs.size≤a)(hn:H a=none):Un fs ex H (upd H a o) h h' where
 keep:=fun b u q _ _ _=>k b u q
 slot:=fun b u q _ _ _=>⟨u.slots,k b u q⟩
 free:=fun b u q n _=>by rw[zj (Nat.ne_of_lt (Nat.lt_of_lt_of_le (Heap.lt_size q) hp))];exact n
 there:=fun b u q _=>⟨u,k b u q⟩
 tups:=fun b xs q=>by rw[zj (zq q hn)];exact q
 frzs:=fun b u xs q=>by rw[zj (zq q hn)];exact q
 tbls:=fun b ps q=>⟨#[],by rw[zj (zq q hn),q];simp⟩
theorem Un.write(mu:Mut (H x))(he:e=x∨H e=some (.own x))(k:∀b u,b≠e→h.get? b=some u→h'.get? b=some u)(heo:∃u,h'.get? e=some u):Un fs ex H (upd H x o) h h':=by
 have hx:∀b,H b=none→b≠x:=fun b n z=>by subst z;rw[n] at mu;exact mu
 have hb:∀b,H b=none→b≠e:=fun b n z=>by
  subst z
  rcases he with r | r
  ·exact hx b n r
  ·rw[n] at r;cases r
 have hm:∀b u,H b=some u→¬Mut (some u)→b≠x:=fun b u q nm z=>by subst z;rw[q] at mu;exact nm mu
 refine⟨fun b u q n _ _=>k b u (hb b n) q,fun b u q n _ _=>⟨u.slots,k b u (hb b n) q⟩,fun b u q n _=>by rw[zj (hx b n)];exact n,fun b u q _=>?_,
  fun b xs q=>by rw[zj (hm b _ q fun z=>z)];exact q,fun b u xs q=>by rw[zj (hm b _ q fun z=>z)];exact q,fun b ps q=>⟨#[],by rw[zj (hm b _ q fun z=>z),q];simp⟩⟩
 by_cases hbe:b=e
 ·subst hbe;exact heo
 ·exact⟨u,k b u hbe q⟩
end
def trk(h:Heap)(H:Hp):List Addr:=(List.range h.objs.size).filter fun a=>(H a).isSome
def ze3(h:Heap)(H:Hp):Heap:=PySem.W.hideAll h (trk h H)
theorem hidT_size(h:Heap)(H:Hp):(ze3 h H).objs.size=h.objs.size:=PySem.W.hideAll_size _ _
theorem hidT_get{h:Heap}{H:Hp}{b:Addr}{o:Obj}(e:h.get? b=some o)(n:H b=none):(ze3 h H).get? b=some o :=
 PySem.W.hideAll_get _ e fun hm=>by
  have q:(H b).isSome=true:=(List.mem_filter.mp hm).2
  rw[n] at q;simp at q
theorem of_hidT{h:Heap}{H:Hp}{b:Addr}{o:Obj}(e:(ze3 h H).get? b=some o):h.get? b=some o∧H b=none:=by
 have e':h.get? b=some o:=PySem.W.of_hideAll (trk h H) e
 refine⟨e',?_⟩
 cases q:H b with
 | none=>rfl
 | some x =>
   have hm:b∈trk h H:=List.mem_filter.mpr ⟨List.mem_range.mpr (Heap.lt_size e'),by simp[q]⟩
   have z:(ze3 h H).get? b=none:=PySem.W.hideAll_none (trk h H) hm
   rw[z] at e;cases e
def allNews(g h:Heap)(L:Addr):List (Addr × Obj):=(List.range h.objs.size).filterMap fun a=>if a=L∨(g.get? a).isSome=true then none else(h.get? a).map fun o=>(a,o)
def zcJ(g h:Heap)(L d:Addr):List (Addr × Obj):=(allNews g h L).filter fun p=>decide (p.1≠d)
structure Mod (K:PySem.W.Frag) (mg:Str→Option Value) (base:Heap):Prop where
 kin:K.In base
 glob:base.Ns mainGlobals mg
 blt:∃mb,base.Ns builtinsNs mb∧∀x:Str,x ≠ "__name__" → mb x=bootBuiltins x
 nolimit:base.NoLimit
/-- the context: a def's body (or a comprehension's block) running. base: fixed through the whole law;s₀,H₀: the entry;outer: the frames whose slots others may change (a def's callers);stack: all frames that run;
 ex: iterators that were made zS of the entry and are walked here (a comprehension's);fn: the names whose cells were made at the entry (a def: all;a comprehension's block: its own);calm: not within an except suite;pn: pins that every state bears;xe: what is wanted of an exception that leaves the code -/
structure Cx where
 prog:Program
 w:World
 K:PySem.W.Frag
 mg:Str→Option Value
 base:Heap
 A:Around
 N:List Str
 s₀:Shared
 H₀:Hp
 env:Env
 outer:List Env
 stack:List Env
 ex:List Addr
 fn:Str→Bool
 calm:Bool
 pn:List (Addr × Obj)
 xe:Value→Shared→Prop
def frs(l:List Env):List Addr:=l.filterMap (·.frame)
abbrev Cx.fs(X:Cx):List Addr:=frs X.outer
def Vis(sc:Scope)(x:Str):Prop:=sc.names.lookup x=some .local∨sc.names.lookup x=some .cell∨sc.names.lookup x=some .free
def Loc(sc:Scope)(x:Str):Prop:=sc.names.lookup x=some .local∨sc.names.lookup x=some .cell
def Look(env:Env)(h:Heap)(m:Str→Option Value)(x:Str)(u:Value):Prop :=
 (env.kindOf x=some .local∧m x=some u)∨((env.kindOf x=some .cell∨env.kindOf x=some .free)∧∃c,env.cells.lookup x=some c∧h.IsCell c (some u))
structure Cx.Ok (X:Cx):Prop where
 mod:Mod X.K X.mg X.base
 kind:X.env.scope.kind=.function
 glob:X.env.globals=mainGlobals
 blt:X.env.builtins=builtinsNs
 above:X.s₀.heap.objs.size≤X.env.locals
 inj:∀x y c,X.env.cells.lookup x=some c→X.env.cells.lookup y=some c→x=y
 has:∀x,(X.env.kindOf x=some .cell∨X.env.kindOf x=some .free)→∃c,X.env.cells.lookup x=some c
 cab:∀x c,X.fn x=true→X.env.cells.lookup x=some c→X.s₀.heap.objs.size≤c
 hd:X.calm=true→X.A.handled=none
 frames:X.A.frames=some X.stack
 stk:X.stack=X.outer∨(X.stack=X.env::X.outer∧X.env.frame=some X.env.locals)
 exf:∀b∈X.ex,b≠X.env.locals∧∀x c,X.env.cells.lookup x=some c→c≠b
 bs:∀b o,X.base.get? b=some o→X.s₀.heap.get? b=some o∧X.H₀ b=none
 bsz:X.base.objs.size≤X.s₀.heap.objs.size
 noex:∀b o,X.base.get? b=some o→b∉X.ex
 exfs:∀b∈X.ex,b∉X.fs
 funs:X.s₀.heap.FunFrames X.base X.outer
 frf:∀b∈X.fs,X.H₀ b=none
structure Inv (X:Cx) (pins:List (Addr × Obj)) (σ:List (Option V)) (H:Hp) (s:Shared):Prop where
 ok:X.Ok
 os:s.os=X.s₀.os
 bare:AllBare s.gens
 base:Un X.fs X.ex X.H₀ H X.s₀.heap s.heap
 loc:∃m,s.heap.Ns X.env.locals m∧∀(i:Nat) (x:Str) (v:V),X.N[i]? = some x→σ[i]? = some (some v)→Vis X.env.scope x→∃u,zH v u∧Look X.env s.heap m x u
 cell:∀x c,X.env.cells.lookup x=some c→∃v,s.heap.IsCell c v
 free:H X.env.locals=none
 freeC:∀x c,X.env.cells.lookup x=some c→H c=none
 pin:∀p∈X.pn++pins,s.heap.get? p.1=some p.2∧H p.1=none∧p.1≠X.env.locals∧p.1∉X.fs∧∀v,p.2.data ≠ .cell v
 hok:HOk X.prog X.w H s.heap
 len:σ.length=X.N.length
section
variable {X:Cx} {pins:List (Addr × Obj)} {σ:List (Option V)} {H H':Hp} {s:Shared} {h':Heap}
theorem Cx.Ok.nofr(ok:X.Ok){b:Addr}{o:Obj}(e:X.base.get? b=some o):b∉X.fs:=fun hb=>by
 have:=(ok.funs.mem hb).1
 rw[e] at this;cases this
theorem Inv.bs(I:Inv X pins σ H s):∀b o,X.base.get? b=some o→s.heap.get? b=some o∧H b=none:=fun b o e =>
 ⟨I.base.keep b o (I.ok.bs b o e).1 (I.ok.bs b o e).2 (I.ok.nofr e) (I.ok.noex b o e),I.base.free b o (I.ok.bs b o e).1 (I.ok.bs b o e).2 (I.ok.noex b o e)⟩
theorem Inv.bk(I:Inv X pins σ H s):∀b o,X.base.get? b=some o→s.heap.get? b=some o:=fun b o e=>(I.bs b o e).1
theorem Inv.mod(I:Inv X pins σ H s):Mod X.K X.mg X.base:=I.ok.mod
theorem Inv.kIn(I:Inv X pins σ H s):X.K.In s.heap:=I.ok.mod.kin.keeps I.bk
theorem Inv.lt(I:Inv X pins σ H s):X.env.locals<s.heap.objs.size:=let ⟨_,hn,_⟩:=I.loc;hn.lt
theorem Inv.sz(I:Inv X pins σ H s):X.s₀.heap.objs.size≤s.heap.objs.size:=Nat.le_trans I.ok.above (Nat.le_of_lt I.lt)
theorem Inv.nofs(I:Inv X pins σ H s){a:Addr}(h:s.heap.objs.size≤a):a∉X.fs:=fun hb=>by
 obtain⟨_,o,ho,_⟩:=I.ok.funs.mem hb
 exact absurd (Nat.lt_of_lt_of_le (Heap.lt_size ho) (Nat.le_trans I.sz h)) (Nat.lt_irrefl _)
theorem Inv.cne(I:Inv X pins σ H s):∀x c,X.env.cells.lookup x=some c→c≠X.env.locals:=fun x c e z=>by
 obtain⟨v,o,ho,hd⟩:=I.cell x c e
 obtain⟨m,⟨o',es,ep,ho',hd',_⟩,_⟩:=I.loc
 rw[z,ho'] at ho;cases ho;rw[hd'] at hd;cases hd
theorem Inv.funs(I:Inv X pins σ H s):s.heap.FunFrames X.base X.outer:=by
 have all:∀(l:List Env),(∀b∈frs l,b∈X.fs)→X.s₀.heap.FunFrames X.base l→s.heap.FunFrames X.base l:=by
  intro l
  induction l with
  | nil=>intro _ _;trivial
  | cons env r ih =>
    intro hs hl
    obtain⟨hk,⟨L,o,hf,hn,ho,hd⟩,hr⟩:=hl
    have hL:L∈X.fs:=hs L (by unfold frs;rw[List.filterMap_cons,hf];exact List.mem_cons_self)
    obtain⟨sl,e⟩:=I.base.slot L o ho (I.ok.frf L hL) hL fun z=>I.ok.exfs L z hL
    exact⟨hk,⟨L,_,hf,hn,e,hd⟩,ih (fun b hb=>hs b (by unfold frs;rw[List.filterMap_cons,hf];exact List.mem_cons_of_mem _ hb)) hr⟩
 exact all X.outer (fun _ hb=>hb) I.ok.funs
theorem Inv.stack(I:Inv X pins σ H s):s.heap.FunFrames X.base X.stack:=by
 rcases I.ok.stk with e | ⟨e,hf⟩
 ·rw[e];exact I.funs
 ·rw[e]
  obtain⟨m,hn,_⟩:=I.loc
  refine .cons (by rw[I.ok.kind];decide) hf hn ?_ I.funs
  exact Heap.get?_none_of_le (Nat.le_trans I.ok.bsz I.ok.above)
theorem Inv.stkSub(I:Inv X pins σ H s):∀b∈frs X.stack,b∈X.env.locals::X.fs:=fun b hb=>by
 rcases I.ok.stk with e | ⟨e,hf⟩
 ·rw[e] at hb;exact List.mem_cons_of_mem _ hb
 ·rw[e] at hb
  unfold frs at hb
  rw[List.filterMap_cons,hf] at hb
  exact hb
theorem Inv.stkFree(I:Inv X pins σ H s):∀b∈frs X.stack,H b=none:=fun b hb=>by
 rcases List.mem_cons.mp (I.stkSub b hb)with e | hb
 ·rw[e];exact I.free
 ·obtain⟨_,o,ho,_⟩:=I.ok.funs.mem hb
  exact I.base.free b o ho (I.ok.frf b hb) fun z=>I.ok.exfs b z hb
theorem Inv.step{g':Array GenState}{t':Nat}{d':Drawn}{ch:List Addr}(I:Inv X pins σ H s)
 (hch:∀b∈ch,(b∈X.ex∨X.s₀.heap.objs.size≤b)∧b≠X.env.locals∧(∀x c,X.env.cells.lookup x=some c→c≠b)∧∀p∈X.pn++pins,p.1≠b)
 (keep:∀b o,b≠X.env.locals→b∉X.fs→b∉ch→s.heap.get? b=some o→H b=none→h'.get? b=some o)
 (slot:∀b o,b≠X.env.locals→b∈X.fs→b∉ch→s.heap.get? b=some o→H b=none→∃sl,h'.get? b=some { o with slots:=sl }) (free:∀b o,b∉ch→s.heap.get? b=some o→H b=none→H' b=none)
 (there:∀b o,b∉ch→s.heap.get? b=some o→∃o',h'.get? b=some o')
 (tups:∀b xs,H b=some (.tup xs)→H' b=some (.tup xs)) (frzs:∀b o u,H b=some (.frz o u)→H' b=some (.frz o u)) (tbls:∀b ps,H b=some (.tbl ps)→∃more,H' b=some (.tbl (ps++more)))
 (ns:∀m,s.heap.Ns X.env.locals m→h'.Ns X.env.locals m) (hok:HOk X.prog X.w H' h') (hg:AllBare g') :
 Inv X pins σ H' { s with heap:=h',gens:=g',drawn:=d',toks:=t' }:=by
 have neL:∀b o,X.s₀.heap.get? b=some o→b≠X.env.locals:=fun b o e=>Nat.ne_of_lt (Nat.lt_of_lt_of_le (Heap.lt_size e) I.ok.above)
 have neC:∀b o,X.s₀.heap.get? b=some o→b∉X.ex→b∉ch:=fun b o e hx hb=>by
  rcases (hch b hb).1 with z | z
  ·exact hx z
  ·exact absurd (Nat.lt_of_lt_of_le (Heap.lt_size e) z) (Nat.lt_irrefl _)
 have cellK:∀x c,X.env.cells.lookup x=some c→∀v,s.heap.IsCell c v→h'.IsCell c v:=fun x c e v ⟨o,ho,hd⟩=>by
  have nch:c∉ch:=fun z=>(hch c z).2.2.1 x c e rfl
  by_cases hc:c∈X.fs
  ·obtain⟨sl,q⟩:=slot c o (I.cne x c e) hc nch ho (I.freeC x c e)
   exact⟨_,q,hd⟩
  ·exact⟨o,keep c o (I.cne x c e) hc nch ho (I.freeC x c e),hd⟩
 refine⟨I.ok,I.os,hg,⟨fun b o e n hb hx=>?_,fun b o e n hb hx=>?_,fun b o e n hx=>?_,fun b o e hx=>?_,fun b xs e=>tups b xs (I.base.tups b xs e),fun b o xs e=>frzs b o xs (I.base.frzs b o xs e),fun b ps e=>?_⟩,?_,fun x c e=>?_,?_,fun x c e=>?_,fun p hp=>?_,hok,I.len⟩
 ·exact keep b o (neL b o e) hb (neC b o e hx) (I.base.keep b o e n hb hx) (I.base.free b o e n hx)
 ·obtain⟨sl,e1⟩:=I.base.slot b o e n hb hx
  obtain⟨sl',e2⟩:=slot b _ (neL b o e) hb (neC b o e hx) e1 (I.base.free b o e n hx)
  exact⟨sl',e2⟩
 ·obtain⟨o',e1⟩:=I.base.there b o e hx
  exact free b o' (neC b o e hx) e1 (I.base.free b o e n hx)
 ·obtain⟨o',e1⟩:=I.base.there b o e hx
  exact there b o' (neC b o e hx) e1
 ·obtain⟨m1,e1⟩:=I.base.tbls b ps e
  obtain⟨m2,e2⟩:=tbls b _ e1
  exact⟨m1++m2,by rw[e2,Array.append_assoc]⟩
 ·obtain⟨m,hn,hl⟩:=I.loc
  refine⟨m,ns m hn,fun i x v e1 e2 e3=>?_⟩
  obtain⟨u,r,l⟩:=hl i x v e1 e2 e3
  refine⟨u,r,?_⟩
  rcases l with l | ⟨k,c,e,z⟩
  ·exact .inl l
  ·exact .inr ⟨k,c,e,cellK x c e _ z⟩
 ·obtain⟨v,z⟩:=I.cell x c e
  exact⟨v,cellK x c e v z⟩
 ·obtain⟨m,⟨o,_,_,ho,_⟩,_⟩:=I.loc
  exact free _ o (fun z=>(hch _ z).2.1 rfl) ho I.free
 ·obtain⟨v,o,ho,hd⟩:=I.cell x c e
  exact free c o (fun z=>(hch c z).2.2.1 x c e rfl) ho (I.freeC x c e)
 ·obtain⟨e,n,ne,nf,d⟩:=I.pin p hp
  have nch:p.1∉ch:=fun z=>(hch p.1 z).2.2.2 p hp rfl
  exact⟨keep p.1 p.2 ne nf nch e n,free p.1 p.2 nch e n,ne,nf,d⟩
theorem Inv.un{t':Nat}(I:Inv X pins σ H s)(u:Un X.fs [] H H' s.heap h')(hok:HOk X.prog X.w H' h'):Inv X pins σ H' { s with heap:=h',toks:=t' }:=by
 obtain⟨m,⟨o,es,ep,ho,r⟩,_⟩:=id I.loc
 obtain⟨sl,hL⟩:=u.any ho I.free (by simp)
 exact I.step (g':=s.gens) (d':=s.drawn) (ch := []) (fun _ z=>nomatch z) (fun b o _ hb _ e n=>u.keep b o e n hb (by simp)) (fun b o _ hb _ e n=>u.slot b o e n hb (by simp)) (fun b o _ e n=>u.free b o e n (by simp)) (fun b o _ e=>u.there b o e (by simp)) u.tups u.frzs u.tbls (fun m' hm=>by
  obtain⟨o',es',ep',ho',r'⟩:=hm
  rw[ho] at ho';cases ho'
  exact⟨_,es',ep',hL,r'⟩) hok I.bare
theorem Inv.call{g':Array GenState}{t':Nat}{d':Drawn}{ch:List Addr}(I:Inv X pins σ H s)(u:Un (frs X.stack) ch H H' s.heap h')(hok:HOk X.prog X.w H' h')(hg:AllBare g')
 (hch:∀b∈ch,(b∈X.ex∨X.s₀.heap.objs.size≤b)∧b≠X.env.locals∧(∀x c,X.env.cells.lookup x=some c→c≠b)∧∀p∈X.pn++pins,p.1≠b) :
 Inv X pins σ H' { s with heap:=h',gens:=g',drawn:=d',toks:=t' }:=by
 obtain⟨m,⟨o,es,ep,ho,r⟩,_⟩:=id I.loc
 obtain⟨sl,hL⟩:=u.any ho I.free fun z=>(hch _ z).2.1 rfl
 exact I.step (ch:=ch) hch (fun b o hL hb hc e n=>u.keep b o e n (fun z=>(List.mem_cons.mp (I.stkSub b z)).elim hL hb) hc) (fun b o _ _ hc e n=>u.any e n hc) (fun b o hc e n=>u.free b o e n hc) (fun b o hc e=>u.there b o e hc) u.tups u.frzs u.tbls (fun m' hm=>by
  obtain⟨o',es',ep',ho',r'⟩:=hm
  rw[ho] at ho';cases ho'
  exact⟨_,es',ep',hL,r'⟩) hok hg
theorem Inv.turned{t':Nat}{it:Addr}(I:Inv X pins σ H s)(k:∀b o,b≠it→s.heap.get? b=some o→h'.get? b=some o)(hn:H it=none)(hL:it≠X.env.locals)
 (h1:it∈X.ex∨X.s₀.heap.objs.size≤it) (h2:∀x c,X.env.cells.lookup x=some c→c≠it) (h3:∀p∈X.pn++pins,p.1≠it):Inv X pins σ H { s with heap:=h',toks:=t' }:=by
 have nit:∀b u,H b=some u→b≠it:=fun b u e z=>by rw[z,hn] at e;cases e
 refine I.step (g':=s.gens) (d':=s.drawn) (ch := [it]) (fun b hb=>?_) (fun b o _ _ hc e _=>k b o (fun z=>hc (by simp[z])) e) (fun b o _ _ hc e _=>⟨o.slots,k b o (fun z=>hc (by simp[z])) e⟩) (fun _ _ _ _ n=>n)
  (fun b o hc e=>⟨o,k b o (fun z=>hc (by simp[z])) e⟩) (fun _ _ e=>e) (fun _ _ _ e=>e) (fun b ps e=>⟨#[],by rw[e];simp⟩) (fun m hm=>?_) (fun b u e=>?_) I.bare
 ·have e:b=it:=by simpa using hb
  subst e
  exact⟨h1,hL,h2,h3⟩
 ·obtain⟨o,es,ep,ho,r⟩:=hm
  exact⟨o,es,ep,k _ o (Ne.symm hL) ho,r⟩
 ·refine(I.hok b u e).stay (fun c v hc q=>k c v ?_ q) (fun _ q=>q) fun _ _ q=>q
  rcases hc with z | z
  ·rw[z];exact nit b u e
  ·exact nit c _ z
theorem Inv.tok(I:Inv X pins σ H s)(t:Nat):Inv X pins σ H { s with toks:=t }:=I.un (h':=s.heap) (t':=t) Un.refl I.hok
theorem Inv.kept{t':Nat}(I:Inv X pins σ H s)(k:∀b u,s.heap.get? b=some u→h'.get? b=some u):Inv X pins σ H { s with heap:=h',toks:=t' }:=I.un (Un.kept k) (I.hok.kept k)
theorem Inv.laid{a:Addr}{o:HO}{t':Nat}(I:Inv X pins σ H s)(k:∀b u,s.heap.get? b=some u→h'.get? b=some u)(hp:s.heap.objs.size≤a)(new:yF X.prog X.w (upd H a o) h' a o):
 Inv X pins σ (upd H a o) { s with heap:=h',toks:=t' }:=I.un (Un.laid k hp (I.hok.fresh hp)) (I.hok.laid k hp new)
theorem Inv.write{x e:Addr}{o:HO}{t':Nat}(I:Inv X pins σ H s)(mu:Mut (H x))(he:e=x∨H e=some (.own x))(k:∀b u,b≠e→s.heap.get? b=some u→h'.get? b=some u)(heo:∃u,h'.get? e=some u)
 (new:yF X.prog X.w (upd H x o) h' x o):Inv X pins σ (upd H x o) { s with heap:=h',toks:=t' }:=I.un (Un.write mu he k heo) (I.hok.write mu he k heo new)
theorem Inv.pins_of{pins':List (Addr × Obj)}(I:Inv X pins σ H s)(h:∀p∈pins',s.heap.get? p.1=some p.2∧H p.1=none∧p.1≠X.env.locals∧p.1∉X.fs∧∀v,p.2.data ≠ .cell v):Inv X pins' σ H s :=
 ⟨I.ok,I.os,I.bare,I.base,I.loc,I.cell,I.free,I.freeC,fun p hp=>(List.mem_append.mp hp).elim (fun z=>I.pin p (List.mem_append_left _ z)) (h p),I.hok,I.len⟩
theorem zgt{N:List Str}(hN:N.Nodup){i j:Nat}{x:Str}(a:N[i]? = some x)(b:N[j]? = some x):i=j:=by
 obtain⟨h1,e1⟩:=List.getElem?_eq_some_iff.mp a
 obtain⟨h2,e2⟩:=List.getElem?_eq_some_iff.mp b
 exact(List.getElem_inj hN).mp (e1.trans e2.symm)
theorem zdp{M:Model}{A:Around}{E:Value→Shared→Prop}{i:Nat}{x:Str}{v:V}{u:Value}{Q:Unit→Shared→Prop}(I:Inv X pins σ H s)(hN:X.N.Nodup)(hi:X.N[i]? = some x)(hx:Loc X.env.scope x)(r:zH v u)
 (h:∀s',Inv X pins (σ.set i (some v)) H s'→(∃a,Heap.SameBut a s.heap s'.heap∧(a=X.env.locals∨X.env.cells.lookup x=some a))→Q () s') (hf:X.fn x=true∨X.env.scope.names.lookup x=some .local:=by first | exact .inl rfl | exact .inr rfl | assumption):wpAny M A (storeName X.env x u) Q E s:=by
 obtain⟨m,hn,hl⟩:=id I.loc
 have hcls:(X.env.scope.kind == .class || (X.env.scope.kind == .module && X.env.locals != X.env.globals))=false:=by rw[I.ok.kind];rfl
 have hiσ:i<σ.length:=by rw[I.len];exact(List.getElem?_eq_some_iff.mp hi).1
 have cne:=I.cne
 have tracked:∀{a:Addr} {h':Heap},(∃o,s.heap.get? a=some o∧H a=none)→Heap.SameBut a s.heap h'→HOk X.prog X.w H h':=fun {a h'} ha hs b ob e=>by
  obtain⟨_,_,hfree⟩:=ha
  refine(I.hok b ob e).stay (fun c w' hc q=>(hs.2 c ?_).trans q) (fun _ q=>q) fun _ _ q=>q
  rintro rfl
  rcases hc with rfl | hc
  ·rw[hfree] at e;cases e
  ·rw[hfree] at hc;cases hc
 rcases hx with hk | hk
 ·refine wpAny_storeName_local hk hn (fun h' hn' hs=>?_) hcls
  obtain⟨oL,_,_,hoL,_⟩:=id hn
  refine h _ ⟨I.ok,I.os,I.bare,⟨fun b o e n hb hx=>?_,fun b o e n hb hx=>?_,I.base.free,fun b o e hx=>?_,I.base.tups,I.base.frzs,I.base.tbls⟩,⟨_,hn',fun j y v' e1 e2 e3=>?_⟩,fun y c e=>?_,I.free,I.freeC,fun p hp=>?_,tracked ⟨oL,hoL,I.free⟩ hs,by simpa using I.len⟩ ⟨_,hs,.inl rfl⟩
  ·exact(hs.2 b (Nat.ne_of_lt (Nat.lt_of_lt_of_le (Heap.lt_size e) I.ok.above))).trans (I.base.keep b o e n hb hx)
  ·obtain⟨sl,e1⟩:=I.base.slot b o e n hb hx
   exact⟨sl,(hs.2 b (Nat.ne_of_lt (Nat.lt_of_lt_of_le (Heap.lt_size e) I.ok.above))).trans e1⟩
  ·obtain⟨o',e1⟩:=I.base.there b o e hx
   exact⟨o',(hs.2 b (Nat.ne_of_lt (Nat.lt_of_lt_of_le (Heap.lt_size e) I.ok.above))).trans e1⟩
  ·by_cases hj:j=i
   ·subst hj
    rw[hi] at e1;cases e1
    rw[List.getElem?_set_self hiσ] at e2
    cases e2
    exact⟨u,r,.inl ⟨hk,by simp⟩⟩
   ·rw[List.getElem?_set_ne (Ne.symm hj)] at e2
    obtain⟨u',r',q⟩:=hl j y v' e1 e2 e3
    refine⟨u',r',?_⟩
    rcases q with⟨k,e⟩ | ⟨k,c,e,z⟩
    ·refine .inl ⟨k,?_⟩
     have:y≠x:=fun e=>hj (zgt hN e1 (e ▸ hi))
     simp[this,e]
    ·exact .inr ⟨k,c,e,z.sameBut hs (cne y c e)⟩
  ·obtain⟨w',z⟩:=I.cell y c e
   exact⟨w',z.sameBut hs (cne y c e)⟩
  ·obtain⟨e,n,ne,nf,d⟩:=I.pin p hp
   exact⟨(hs.2 p.1 ne).trans e,n,ne,nf,d⟩
 ·have hfn:X.fn x=true:=by
   rcases hf with z | z
   ·exact z
   ·rw[z] at hk;cases hk
  obtain⟨c,hc⟩:=I.ok.has x (.inl hk)
  obtain⟨w',z⟩:=I.cell x c hc
  refine wpAny_storeName_cell I.ok.kind hk hc z (fun h' hc' hs=>?_)
  obtain⟨oc,hoc,hocd⟩:=id z
  refine h { s with heap:=h' } ⟨I.ok,I.os,I.bare,⟨fun b o e n hb hx=>?_,fun b o e n hb hx=>?_,I.base.free,fun b o e hx=>?_,I.base.tups,I.base.frzs,I.base.tbls⟩,⟨m,hn.sameBut hs (Ne.symm (cne x c hc)),fun j y v' e1 e2 e3=>?_⟩,fun y c' e=>?_,I.free,I.freeC,fun p hp=>?_,tracked ⟨oc,hoc,I.freeC x c hc⟩ hs,by simpa using I.len⟩ ⟨c,hs,.inr hc⟩
  ·exact(hs.2 b (Nat.ne_of_lt (Nat.lt_of_lt_of_le (Heap.lt_size e) (I.ok.cab x c hfn hc)))).trans (I.base.keep b o e n hb hx)
  ·obtain⟨sl,e1⟩:=I.base.slot b o e n hb hx
   exact⟨sl,(hs.2 b (Nat.ne_of_lt (Nat.lt_of_lt_of_le (Heap.lt_size e) (I.ok.cab x c hfn hc)))).trans e1⟩
  ·obtain⟨o',e1⟩:=I.base.there b o e hx
   exact⟨o',(hs.2 b (Nat.ne_of_lt (Nat.lt_of_lt_of_le (Heap.lt_size e) (I.ok.cab x c hfn hc)))).trans e1⟩
  ·by_cases hj:j=i
   ·subst hj
    rw[hi] at e1;cases e1
    rw[List.getElem?_set_self hiσ] at e2
    cases e2
    exact⟨u,r,.inr ⟨.inl hk,c,hc,hc'⟩⟩
   ·rw[List.getElem?_set_ne (Ne.symm hj)] at e2
    obtain⟨u',r',q⟩:=hl j y v' e1 e2 e3
    refine⟨u',r',?_⟩
    rcases q with q | ⟨k,c',e,z'⟩
    ·exact .inl q
    ·refine .inr ⟨k,c',e,z'.sameBut hs ?_⟩
     rintro rfl
     exact hj (zgt hN e1 (I.ok.inj _ _ _ e hc ▸ hi))
  ·by_cases hcc:c'=c
   ·subst hcc;exact⟨_,hc'⟩
   ·obtain⟨w2,z2⟩:=I.cell y c' e
    exact⟨w2,z2.sameBut hs hcc⟩
  ·obtain⟨e,n,ne,nf,d⟩:=I.pin p hp
   refine⟨(hs.2 p.1 ?_).trans e,n,ne,nf,d⟩
   intro q
   rw[q,hoc] at e
   have q':oc=p.2:=Option.some.inj e
   exact d w' (by rw[← q'];exact hocd)
theorem zgR{M:Model}{A:Around}{E:Value→Shared→Prop}{i:Nat}{x:Str}{v:V}{u:Value}{Q:Unit→Shared→Prop}(I:Inv X pins σ H s)(hN:X.N.Nodup)(hi:X.N[i]? = some x)(hx:Loc X.env.scope x)(r:zH v u)
 (h:∀s',Inv X pins (σ.set i (some v)) H s'→Q () s') (hf:X.fn x=true∨X.env.scope.names.lookup x=some .local:=by first | exact .inl rfl | exact .inr rfl | assumption):wpAny M A (storeName X.env x u) Q E s :=
 zdp I hN hi hx r (fun s' I' _=>h s' I') hf
theorem Inv.call'{s':Shared}{ch:List Addr}(I:Inv X pins σ H s)(ho:s'.os=s.os)(u:Un (frs X.stack) ch H H' s.heap s'.heap)(hok:HOk X.prog X.w H' s'.heap)(hg:AllBare s'.gens)
 (hch:∀b∈ch,(b∈X.ex∨X.s₀.heap.objs.size≤b)∧b≠X.env.locals∧(∀x c,X.env.cells.lookup x=some c→c≠b)∧∀p∈X.pn++pins,p.1≠b):Inv X pins σ H' s':=by
 obtain⟨h',g',d',t',o'⟩:=s'
 have e:o'=s.os:=ho
 subst e
 exact I.call (g':=g') (t':=t') (d':=d') u hok hg hch
end
abbrev XK:=Value→Option Addr→Hp→Prop
abbrev St:=List (Option V)
abbrev VK:=V→Hp→Prop
abbrev TE:=St→Hp→VK→Prop
abbrev TT:=St→Hp→(Bool→Hp→Prop)→Prop
abbrev TA:=St→Hp→(List V→Hp→Prop)→Prop
structure Ends where
 nx:St→Hp→Prop
 rt:VK
 bk:St→Hp→Prop:=fun _ _=>False
 ct:St→Hp→Prop:=fun _ _=>False
abbrev TS:=Ends→St→Hp→Prop
def EP(X:Cx)(pins:List (Addr × Obj))(σ:St)(Q:VK)(u:Value)(s':Shared):Prop:=∃v H',Inv X pins σ H' s'∧zH v u∧Q v H'
def TP(X:Cx)(pins:List (Addr × Obj))(σ:St)(Q:Bool→Hp→Prop)(b:Bool)(s':Shared):Prop:=∃H',Inv X pins σ H' s'∧Q b H'
def AP(X:Cx)(pins:List (Addr × Obj))(σ:St)(Q:List V→Hp→Prop)(us:List Value)(s':Shared):Prop:=∃vs H',Inv X pins σ H' s'∧zA vs us∧Q vs H'
def SP(X:Cx)(pins:List (Addr × Obj))(D:Ends)(f:Flow)(s':Shared):Prop :=
 match f with
 | .next=>∃σ' H',Inv X pins σ' H' s'∧D.nx σ' H'
 | .brk=>∃σ' H',Inv X pins σ' H' s'∧D.bk σ' H'
 | .cont=>∃σ' H',Inv X pins σ' H' s'∧D.ct σ' H'
 | .ret u=>∃v σ' H',Inv X pins σ' H' s'∧zH v u∧D.rt v H'
def PE(X:Cx)(e:Expr)(t:TE):Prop :=
 ∀(pins:List (Addr × Obj)) (s:Shared) (σ:St) (H:Hp) (Q:VK),Inv X pins σ H s→t σ H Q→wpAny (model X.prog X.w) X.A (eval e X.env) (EP X pins σ Q) X.xe s
def PT(X:Cx)(e:Expr)(t:TT):Prop :=
 ∀(pins:List (Addr × Obj)) (s:Shared) (σ:St) (H:Hp) (Q:Bool→Hp→Prop),Inv X pins σ H s→t σ H Q→wpAny (model X.prog X.w) X.A (isTrue e X.env (eval e X.env)) (TP X pins σ Q) X.xe s
def PW(X:Cx)(e:Expr)(t:TT):Prop :=
 ∀(whole:Sem Value) (pins:List (Addr × Obj)) (s:Shared) (σ:St) (H:Hp) (Q:Bool→Hp→Prop),Inv X pins σ H s→t σ H Q→wpAny (model X.prog X.w) X.A (isTrue e X.env whole) (TP X pins σ Q) X.xe s
theorem PW.pt{X:Cx}{e:Expr}{t:TT}(h:PW X e t):PT X e t:=h _
def PA(X:Cx)(es:List Expr)(t:TA):Prop :=
 ∀(pos:Pos) (pins:List (Addr × Obj)) (s:Shared) (σ:St) (H:Hp) (Q:List V→Hp→Prop),Inv X pins σ H s→t σ H Q→wpAny (model X.prog X.w) X.A (spliced (backTo pos (starEach es X.env))) (AP X pins σ Q) X.xe s
def PS(X:Cx)(st:Stmt)(t:TS):Prop :=
 ∀(pins:List (Addr × Obj)) (s:Shared) (σ:St) (H:Hp) (D:Ends),Inv X pins σ H s→t D σ H→wpAny (model X.prog X.w) X.A (exec st X.env) (SP X pins D) X.xe s
def PSs(X:Cx)(st:List Stmt)(t:TS):Prop :=
 ∀(pins:List (Addr × Obj)) (s:Shared) (σ:St) (H:Hp) (D:Ends),Inv X pins σ H s→t D σ H→wpAny (model X.prog X.w) X.A (execs st X.env) (SP X pins D) X.xe s
theorem thn{α:Type}{t:Sem α}{Q Q':α→Shared→Prop}{M:Model}{A:Around}{E:Value→Shared→Prop}{s:Shared}(h:wpAny M A t Q E s)(hQ:∀a s,Q a s→Q' a s):wpAny M A t Q' E s:=wpAny_mono h hQ fun _ _ x=>x
section
variable {X:Cx}
theorem bin{a b:Expr}{ta tb:TE}(ha:PE X a ta)(hb:PE X b tb){pins:List (Addr × Obj)}{s:Shared}{σ:St}{H:Hp}{R:V→V→Hp→Prop}(I:Inv X pins σ H s)(h:ta σ H fun x H1=>tb σ H1 fun y H2=>R x y H2)
 {α:Type} {Q:α→Shared→Prop} {f:Value→Value→Sem α}
 (hf:∀v u s2 x y H2,Inv X pins σ H2 s2→zH x v→zH y u→R x y H2→wpAny (model X.prog X.w) X.A (f v u) Q X.xe s2) :
 wpAny (model X.prog X.w) X.A (eval a X.env) (fun v s₁=>wpAny (model X.prog X.w) X.A (eval b X.env) (fun u s₂=>wpAny (model X.prog X.w) X.A (f v u) Q X.xe s₂) X.xe s₁) X.xe s:=by
 refine thn (ha pins s σ H _ I h) fun v s1 ⟨x,H1,I1,r1,q1⟩=>?_
 refine thn (hb pins s1 σ H1 _ I1 q1) fun u s2 ⟨y,H2,I2,r2,q2⟩=>?_
 exact hf v u s2 x y H2 I2 r1 r2 q2
def tVar(i:Nat):TE:=fun σ H Q=>∃v,σ[i]? = some (some v)∧Q v H
def tC(v:V):TE:=fun _ H Q=>Q v H
theorem pe_var{i:Nat}{x:Str}{pos:Pos}(hN:X.N[i]? = some x)(hv:Vis X.env.scope x)(hd:(x==("__debug__" : Str))=false:=by decide)(hcd:(x==("__classdict__" : Str))=false:=by decide):PE X (.Name x pos) (tVar i):=by
 intro pins s σ H Q I h
 obtain⟨v,e,h⟩:=h
 obtain⟨m,hn,hl⟩:=I.loc
 obtain⟨u,r,l⟩:=hl i x v hN e hv
 have fin:EP X pins σ Q u s:=⟨v,H,I,r,h⟩
 rcases l with⟨hk,hm⟩ | ⟨hk,c,hc,hcell⟩
 ·exact wpAny_Name (wpAny_loadName_local I.ok.kind hk hn hm fin) hd
 ·rcases hk with hk | hk
  ·exact wpAny_Name (wpAny_loadName_cell I.ok.kind hk hc hcell fin) hd
  ·exact wpAny_Name (wpAny_loadName_free I.ok.kind hk hc hcell fin hcd) hd
theorem zg{i j pos}:PE X (.Constant (.int i) j pos) (tC (.int i)):=fun _ _ _ H _ I h=>wpAny_Constant_int ⟨.int i,H,I.tok _,⟨_,rfl⟩,h⟩
theorem wt{b j pos}:PE X (.Constant (.bool b) j pos) (tC (.bl b)):=fun _ _ _ H _ I h=>Constant_bool ⟨.bl b,H,I,rfl,h⟩
theorem zd2{j pos}:PE X (.Constant .none j pos) (tC .non):=fun _ _ _ H _ I h=>Constant_none ⟨.non,H,I,rfl,h⟩
theorem y9{x j pos}:PE X (.Constant (.str x) j pos) (tC (.str x)):=fun _ _ _ H _ I h=>Calls.Constant_str ⟨.str x,H,I.tok _,⟨_,rfl⟩,h⟩
def Gl(X:Cx)(x:Str):Prop:=X.env.kindOf x=some .globalImplicit
theorem zcK{E:Value→Shared→Prop}{pins:List (Addr × Obj)}{s:Shared}{σ:St}{H:Hp}{x:Str}{u:Value}{pos:Pos}{Q:Value→Shared→Prop}(I:Inv X pins σ H s)(hg:Gl X x)(hm:X.mg x=some u)(h:Q u s)
 (hd:(x==("__debug__" : Str))=false:=by decide):wpAny (model X.prog X.w) X.A (eval (.Name x pos) X.env) Q E s :=
 Calls.Name_function_global I.ok.kind hg (Calls.loadGlobal_global (by rw[I.ok.glob];exact I.mod.glob.keeps I.bk) hm h) hd
theorem zat{E:Value→Shared→Prop}{pins:List (Addr × Obj)}{s:Shared}{σ:St}{H:Hp}{x:Str}{u:Value}{pos:Pos}{Q:Value→Shared→Prop}(I:Inv X pins σ H s)(hg:Gl X x)(hm:X.mg x=none)(hv:bootBuiltins x=some u)(h:Q u s)
 (hn:x ≠ "__name__" := by decide) (hd:(x==("__debug__" : Str))=false:=by decide):wpAny (model X.prog X.w) X.A (eval (.Name x pos) X.env) Q E s:=by
 obtain⟨mb,h1,h2⟩:=I.mod.blt
 exact Calls.Name_function_global I.ok.kind hg (Calls.loadGlobal_builtin (by rw[I.ok.glob];exact I.mod.glob.keeps I.bk) hm (by rw[I.ok.blt];exact h1.keeps I.bk) ((h2 x hn).trans hv) h) hd
theorem pe_glob{x:Str}{v:V}{u:Value}{pos:Pos}(hg:Gl X x)(hm:X.mg x=some u)(r:zH v u)(hd:(x==("__debug__" : Str))=false:=by decide):PE X (.Name x pos) (tC v) :=
 fun _ _ _ H _ I h=>zcK I hg hm ⟨v,H,I,r,h⟩ hd
theorem yV{x:Str}{v:V}{u:Value}{pos:Pos}(hg:Gl X x)(hm:X.mg x=none)(hv:bootBuiltins x=some u)(r:zH v u)(hn:x ≠ "__name__" := by decide)(hd:(x==("__debug__" : Str))=false:=by decide):PE X (.Name x pos) (tC v) :=
 fun _ _ _ H _ I h=>zat I hg hm hv ⟨v,H,I,r,h⟩ hn hd
variable {a b:Expr} {ta tb:TE} {pos:Pos}
def PC(X:Cx)(op:CmpOp)(a b:Expr)(t:TE):Prop :=
 ∀(pins:List (Addr × Obj)) (s:Shared) (σ:St) (H:Hp) (Q:VK),Inv X pins σ H s→t σ H Q →
  wpAny (model X.prog X.w) X.A (eval a X.env) (fun v s₁=>wpAny (model X.prog X.w) X.A (eval b X.env) (fun u s₂=>wpAny (model X.prog X.w) X.A (compareOp op v u) (EP X pins σ Q) X.xe s₂) X.xe s₁) X.xe s
def tB(t:TE):TT:=fun σ H Q=>t σ H fun x H1=>∃c,x=.bl c∧Q c H1
theorem pt_cmp{op:CmpOp}{t:TE}(h:PC X op a b t)(h1:behindInMarks op b=false:=by first | exact nobehind _ (by decide) (by decide) | rfl):PT X (.Compare a [op] [b] pos) (tB t):=by
 intro pins s σ H Q I hw
 refine wpAny_isTrue_Compare1 (thn (h pins s σ H _ I hw) fun v s1 h1=>thn h1 fun u s2 h2=>thn h2 fun c s3 ⟨x,H1,I1,r1,q1⟩=>?_) h1
 obtain⟨d,rfl,q⟩:=q1
 cases r1
 exact wpAny_truthy_bool ⟨H1,I1,q⟩
theorem yc{e:Expr}{t:TE}(h:PE X e t)(he:∀whole,isTrue e X.env whole=(do let v ← whole;standAt e.pos;holding [v] (truthy v)):=by intro _;rfl):PT X e (tB t):=by
 intro pins s σ H Q I hw
 refine isTrue_plain (thn (h pins s σ H _ I hw) fun v s1 ⟨x,H1,I1,r1,q1⟩=>?_) (he _)
 obtain⟨d,rfl,q⟩:=q1
 cases r1
 exact wpAny_truthy_bool ⟨H1,I1,q⟩
variable {tA tB':TT} {zcJ:List Expr}
def tAnd(t u:TT):TT:=fun σ H Q=>t σ H fun c H1=>if c=true then u σ H1 Q else Q false H1
def tOr(t u:TT):TT:=fun σ H Q=>t σ H fun c H1=>if c=true then Q true H1 else u σ H1 Q
def tNot(t:TT):TT:=fun σ H Q=>t σ H fun c H1=>Q (!c) H1
theorem zil(ha:PT X a tA):PW X (.BoolOp .And [a] pos) tA:=by
 intro wh pins s σ H Q I h
 refine isTrue_and (thn (ha pins s σ H Q I h) fun c s1 e=>?_)
 cases c with
 | true=>exact isTrue_and_nil e
 | false=>exact e
theorem zaF(ha:PT X a tA):PW X (.BoolOp .Or [a] pos) tA:=by
 intro wh pins s σ H Q I h
 refine isTrue_or (thn (ha pins s σ H Q I h) fun c s1 e=>?_)
 cases c with
 | false=>exact isTrue_or_nil e
 | true=>exact e
theorem pw_and(ha:PT X a tA)(hb:PW X (.BoolOp .And (b::zcJ) pos) tB'):PW X (.BoolOp .And (a::b::zcJ) pos) (tAnd tA tB'):=by
 intro wh pins s σ H Q I h
 refine isTrue_and (thn (ha pins s σ H _ I h) fun c s1 ⟨H1,I1,q1⟩=>?_)
 cases c with
 | true=>exact hb wh pins s1 σ H1 Q I1 q1
 | false=>exact⟨H1,I1,q1⟩
theorem zau(ha:PT X a tA)(hb:PW X (.BoolOp .Or (b::zcJ) pos) tB'):PW X (.BoolOp .Or (a::b::zcJ) pos) (tOr tA tB'):=by
 intro wh pins s σ H Q I h
 refine isTrue_or (thn (ha pins s σ H _ I h) fun c s1 ⟨H1,I1,q1⟩=>?_)
 cases c with
 | true=>exact⟨H1,I1,q1⟩
 | false=>exact hb wh pins s1 σ H1 Q I1 q1
theorem yt(ha:PT X a tA):PT X (.UnaryOp .Not a pos) (tNot tA):=by
 intro pins s σ H Q I h
 exact isTrue_not (ha pins s σ H (fun c H1=>Q (!c) H1) I h)
def tAndV(ta tb:TE):TE:=fun σ H Q=>ta σ H fun x H1=>∃c,x=.bl c∧if c=true then tb σ H1 Q else Q (.bl false) H1
def tNotV(ta:TE):TE:=fun σ H Q=>ta σ H fun x H1=>∃c,x=.bl c∧Q (.bl (!c)) H1
theorem zd0{op}{t:TE}(h:PE X a t):PE X (.BoolOp op [a] pos) t:=fun pins s σ H Q I hw=>BoolOp_one (h pins s σ H Q I hw)
theorem zb6(ha:PE X a ta)(hb:PE X (.BoolOp .And (b::zcJ) pos) tb):PE X (.BoolOp .And (a::b::zcJ) pos) (tAndV ta tb):=by
 intro pins s σ H Q I h
 refine BoolOp_and (thn (ha pins s σ H _ I h) fun v s1 ⟨x,H1,I1,r1,q1⟩=>?_)
 obtain⟨c,rfl,q1⟩:=q1
 cases r1
 refine wpAny_truthy_bool ?_
 cases c with
 | true=>exact hb pins s1 σ H1 Q I1 q1
 | false=>exact⟨.bl false,H1,I1,rfl,q1⟩
theorem pe_not(ha:PE X a ta):PE X (.UnaryOp .Not a pos) (tNotV ta):=by
 intro pins s σ H Q I h
 refine UnaryOp_ (thn (ha pins s σ H _ I h) fun v s1 ⟨x,H1,I1,r1,q1⟩=>?_)
 obtain⟨c,rfl,q1⟩:=q1
 cases r1
 exact not_of (wpAny_truthy_bool ⟨.bl (!c),H1,I1,rfl,q1⟩)
def tIf(t:TT)(ta tb:TE):TE:=fun σ H Q=>t σ H fun c H1=>if c=true then ta σ H1 Q else tb σ H1 Q
theorem pe_ifExp{c:Expr}(hc:PT X c tA)(ha:PE X a ta)(hb:PE X b tb):PE X (.IfExp c a b pos) (tIf tA ta tb):=by
 intro pins s σ H Q I h
 refine wpAny_IfExp (thn (hc pins s σ H _ I h) fun d s1 ⟨H1,I1,q1⟩=>?_)
 cases d with
 | true=>exact ha pins s1 σ H1 Q I1 q1
 | false=>exact hb pins s1 σ H1 Q I1 q1
end
def SqL(K:PySem.W.Frag)(H:Hp)(a:Addr)(xs:List V):Prop :=
 Rd H a (.lst xs) ∨
  ∃(o:Obj) (its:Array Value) (n:Nat),K.lookup a=some o∧o.cls=.type "list" ∧ o.dict=none∧o.data=.seq its n∧its.size≤sizeLine∧zA xs its.toList
def SqT(K:PySem.W.Frag)(H:Hp)(a:Addr)(xs:List V):Prop :=
 Rd H a (.tup xs) ∨
  ∃(o:Obj) (its:Array Value) (n:Nat),K.lookup a=some o∧o.cls=.type "tuple" ∧ o.data=.seq its n∧its.size≤sizeLine∧zA xs its.toList
def absV:Value→Option V
 | .none=>some .non
 | .bool b=>some (.bl b)
 | .int i _=>some (.int i)
 | .str x _=>some (.str x)
 | .bytes b _=>some (.byt b)
 | .float b _=>some (.flt b)
 | .ref a=>some (.ref a)
 | .type n=>some (.ty n)
 | _=>none
theorem zH.abs{x:V}{u:Value}(r:zH x u):absV u=some x:=by
 cases x with
 | non=>cases r;rfl
 | bl _=>cases r;rfl
 | int _=>obtain⟨t,rfl⟩:=r;rfl
 | str _=>obtain⟨t,rfl⟩:=r;rfl
 | byt _=>obtain⟨t,rfl⟩:=r;rfl
 | flt _=>obtain⟨t,rfl⟩:=r;rfl
 | ref _=>cases r;rfl
 | ty _=>cases r;rfl
theorem zH.inj{x y:V}{u:Value}(r:zH x u)(q:zH y u):x=y:=Option.some.inj (r.abs.symm.trans q.abs)
theorem zA.inj:∀{xs ys:List V} {us:List Value},zA xs us→zA ys us→xs=ys
 | _,_,_,.nil,.nil=>rfl
 | _,_,_,.cons r t,.cons r' t'=>by rw[r.inj r',zA.inj t t']
section
variable {X:Cx} {pins:List (Addr × Obj)} {σ:St} {H:Hp} {s:Shared} {a:Addr} {xs ys:List V}
theorem SqL.of{K:PySem.W.Frag}(h:H a=some (.lst xs)):SqL K H a xs:=.inl (.inl h)
theorem SqT.of{K:PySem.W.Frag}(h:H a=some (.tup xs)):SqT K H a xs:=.inl (.inl h)
theorem Inv.list(I:Inv X pins σ H s)(h:SqL X.K H a xs):∃its:List Value,zA xs its∧PlainL s.heap a its.toArray∧xs.length≤sizeLine:=by
 rcases h with h | ⟨o,its,n,hk,hc,hd,hs,hz,r⟩
 ·obtain⟨z,its,n,r,e⟩:=h.ok I.hok
  exact⟨its,r,⟨_,n,e,rfl,rfl,rfl⟩,z⟩
 ·refine⟨its.toList,r,⟨o,n,I.kIn a o hk,hc,hd,by simpa using hs⟩,?_⟩
  have e:=r.length
  simp only[Array.length_toList] at e
  omega
theorem Inv.tuple(I:Inv X pins σ H s)(h:SqT X.K H a xs):∃its:List Value,zA xs its∧IsTup s.heap a its.toArray∧xs.length≤sizeLine:=by
 rcases h with h | ⟨o,its,n,hk,hc,hs,hz,r⟩
 ·obtain⟨z,its,r,p⟩:=h.ok I.hok
  exact⟨its,r,p,z⟩
 ·refine⟨its.toList,r,⟨o,I.kIn a o hk,hc,n,by simpa using hs⟩,?_⟩
  have e:=r.length
  simp only[Array.length_toList] at e
  omega
theorem Inv.list_inj(I:Inv X pins σ H s)(h:SqL X.K H a xs)(h':SqL X.K H a ys):xs=ys:=by
 obtain⟨its,r,⟨o,n,e,_,_,d⟩,_⟩:=I.list h
 obtain⟨its',r',⟨o',n',e',_,_,d'⟩,_⟩:=I.list h'
 rw[e] at e';cases e'
 rw[d] at d'
 injection d' with d1 _
 have:its=its':=by simpa using congrArg Array.toList d1
 subst this
 exact r.inj r'
end
abbrev Cx.wish(X:Cx)(E:Value→Shared→Prop):Cx:={ X with xe:=E }
abbrev Cx.nox(X:Cx):Cx:=X.wish fun _ _=>False
theorem Cx.Ok.wish{X:Cx}(ok:X.Ok)(E:Value→Shared→Prop):(X.wish E).Ok :=
 ⟨ok.mod,ok.kind,ok.glob,ok.blt,ok.above,ok.inj,ok.has,ok.cab,ok.hd,ok.frames,ok.stk,ok.exf,ok.bs,ok.bsz,ok.noex,ok.exfs,ok.funs,ok.frf⟩
theorem Cx.Ok.unwish{X:Cx}{E:Value→Shared→Prop}(ok:(X.wish E).Ok):X.Ok :=
 ⟨ok.mod,ok.kind,ok.glob,ok.blt,ok.above,ok.inj,ok.has,ok.cab,ok.hd,ok.frames,ok.stk,ok.exf,ok.bs,ok.bsz,ok.noex,ok.exfs,ok.funs,ok.frf⟩
section
variable {X:Cx} {pins:List (Addr × Obj)} {σ:St} {H:Hp} {s:Shared} {E:Value→Shared→Prop}
theorem Inv.wish(I:Inv X pins σ H s)(E:Value→Shared→Prop):Inv (X.wish E) pins σ H s:=⟨I.ok.wish E,I.os,I.bare,I.base,I.loc,I.cell,I.free,I.freeC,I.pin,I.hok,I.len⟩
theorem Inv.unwish(I:Inv (X.wish E) pins σ H s):Inv X pins σ H s:=⟨I.ok.unwish,I.os,I.bare,I.base,I.loc,I.cell,I.free,I.freeC,I.pin,I.hok,I.len⟩
theorem SP.unwish{D:Ends}{f:Flow}{s':Shared}(h:SP (X.wish E) pins D f s'):SP X pins D f s':=by
 cases f with
 | next=>obtain⟨σ',H',I,q⟩:=h;exact⟨σ',H',I.unwish,q⟩
 | brk=>obtain⟨σ',H',I,q⟩:=h;exact⟨σ',H',I.unwish,q⟩
 | cont=>obtain⟨σ',H',I,q⟩:=h;exact⟨σ',H',I.unwish,q⟩
 | ret u=>obtain⟨v,σ',H',I,r,q⟩:=h;exact⟨v,σ',H',I.unwish,r,q⟩
theorem PSs.nox{st:List Stmt}{t:TS}(h:PSs X.nox st t):PSs X st t:=fun pins s σ H D I hw =>
 wpAny_mono (h pins s σ H D (I.wish _) hw) (fun _ _ q=>q.unwish) fun _ _ z=>False.elim z
end
section
variable {X:Cx} {st:Stmt} {zcJ:List Stmt} {t u:TS} {e:Expr} {te:TE} {pos:Pos}
def tNext:TS:=fun D σ H=>D.nx σ H
def tSeq(t u:TS):TS:=fun D σ H=>t { D with nx:=u D } σ H
theorem zu:PSs X [] tNext:=fun _ _ σ H _ I h=>wpAny_execs_nil ⟨σ,H,I,h⟩
theorem zd(h1:PS X st t)(h2:PSs X zcJ u):PSs X (st::zcJ) (tSeq t u):=by
 intro pins s σ H D I h
 refine wpAny_execs_cons (thn (h1 pins s σ H { D with nx:=u D } I h) fun f s1 q=>?_)
 cases f with
 | next =>
   obtain⟨σ',H',I',q⟩:=q
   exact h2 pins s1 σ' H' D I' q
 | ret v=>exact q
 | brk=>exact q
 | cont=>exact q
theorem ze(h1:PS X st t):PSs X [st] t:=by
 intro pins s σ H D I h
 refine wpAny_execs_cons (thn (h1 pins s σ H D I h) fun f s1 q=>?_)
 cases f with
 | next=>exact wpAny_execs_nil q
 | ret v=>exact q
 | brk=>exact q
 | cont=>exact q
theorem Inv.quiet{pins:List (Addr × Obj)}{σ:St}{H:Hp}{s:Shared}(I:Inv X pins σ H s):interactive X.env=false:=by simp[interactive,I.ok.kind]
def tDrop(te:TE):TS:=fun D σ H=>te σ H fun _ H1=>D.nx σ H1
theorem yT(he:PE X e te)(hs:swapsWith e none pos.line X.env=pure false:=by rfl):PS X (.Expr e pos) (tDrop te):=by
 intro pins s σ H D I h
 exact wpAny_Expr_any (thn (he pins s σ H _ I h) fun v s1 ⟨x,H1,I1,r1,q1⟩=>⟨σ,H1,I1,q1⟩) I.quiet hs
def tRet(te:TE):TS:=fun D σ H=>te σ H D.rt
theorem zo(he:PE X e te):PS X (.Return (some e) pos) (tRet te):=by
 intro pins s σ H D I h
 exact wpAny_Return_some (thn (he pins s σ H _ I h) fun v s1 ⟨x,H1,I1,r1,q1⟩=>⟨x,σ,H1,I1,r1,q1⟩)
def tIfS(c:TT)(t u:TS):TS:=fun D σ H=>c σ H fun b H1=>if b=true then t D σ H1 else u D σ H1
theorem zG{c:Expr}{a b:List Stmt}{tc:TT}(hc:PT X c tc)(ha:PSs X a t)(hb:PSs X b u):PS X (.If c a b pos) (tIfS tc t u):=by
 intro pins s σ H D I h
 refine wpAny_If (thn (hc pins s σ H _ I h) fun d s1 ⟨H1,I1,q1⟩=>?_)
 cases d with
 | true=>exact ha pins s1 σ H1 D I1 q1
 | false=>exact hb pins s1 σ H1 D I1 q1
def tNever:TS:=fun _ _ _=>False
theorem zhj:PS X st tNever:=fun _ _ _ _ _ _ h=>h.elim
end
abbrev TG:=V→St→Hp→(St→Hp→Prop)→Prop
abbrev TGs:=List V→St→Hp→(St→Hp→Prop)→Prop
def PG(X:Cx)(target:Expr)(t:TG):Prop :=
 ∀(pins:List (Addr × Obj)) (s:Shared) (σ:St) (H:Hp) (v:V) (u:Value) (Q:St→Hp→Prop),Inv X pins σ H s→zH v u→t v σ H Q →
  wpAny (model X.prog X.w) X.A (assign target X.env u) (fun _ s'=>∃σ' H',Inv X pins σ' H' s'∧Q σ' H') X.xe s
def PGs(X:Cx)(ts:List Expr)(t:TGs):Prop :=
 ∀(pins:List (Addr × Obj)) (s:Shared) (σ:St) (H:Hp) (vs:List V) (us:List Value) (Q:St→Hp→Prop),Inv X pins σ H s→zA vs us→t vs σ H Q →
  wpAny (model X.prog X.w) X.A (assignInOrder ((assignEach ts X.env).map (·.2)) us) (fun _ s'=>∃σ' H',Inv X pins σ' H' s'∧Q σ' H') X.xe s
abbrev TSet:=V→V→V→Hp→(Hp→Prop)→Prop
def PSet(X:Cx)(t:TSet):Prop :=
 ∀(pins:List (Addr × Obj)) (s:Shared) (σ:St) (H:Hp) (o i v:V) (ov iv u:Value) (Q:Hp→Prop),Inv X pins σ H s→zH o ov→zH i iv→zH v u→t o i v H Q →
  wpAny (model X.prog X.w) X.A (setItem ov iv u) (fun _ s'=>∃H',Inv X pins σ H' s'∧Q H') X.xe s
section
variable {X:Cx} {pos:Pos}
def zej(i:Nat):TG:=fun v σ H Q=>Q (σ.set i (some v)) H
theorem wb{i:Nat}{x:Str}(hN:X.N.Nodup)(hi:X.N[i]? = some x)(hx:Loc X.env.scope x)(hf:X.fn x=true∨X.env.scope.names.lookup x=some .local:=by first | exact .inl rfl | exact .inr rfl | assumption):PG X (.Name x pos) (zej i):=by
 intro pins s σ H v u Q I r h
 exact wpAny_assign_Name (zgR I hN hi hx r (fun s' I'=>⟨_,H,I',h⟩) hf)
def gNil:TGs:=fun vs σ H Q=>vs = []∧Q σ H
def gCons(t:TG)(u:TGs):TGs:=fun vs σ H Q=>∃v r,vs=v::r∧t v σ H fun σ' H'=>u r σ' H' Q
theorem zib:PGs X [] gNil:=by
 intro pins s σ H vs us Q I r h
 obtain⟨e,h⟩:=h
 subst e
 cases r
 exact assignInOrder_nil ⟨σ,H,I,h⟩
theorem zcN{e:Expr}{es:List Expr}{t:TG}{u:TGs}(h1:PG X e t)(h2:PGs X es u)
 (hs:(assignEach (e::es) X.env).map (·.2)=assign e X.env::(assignEach es X.env).map (·.2):=by rfl):PGs X (e::es) (gCons t u):=by
 intro pins s σ H vs us Q I r h
 obtain⟨v,vr,e1,h⟩:=h
 subst e1
 cases r with
 | cons r rr =>
   rw[hs]
   refine assignInOrder_cons (thn (h1 pins s σ H _ _ _ I r h) fun _ s1 ⟨σ1,H1,I1,q1⟩=>?_)
   exact h2 pins s1 σ1 H1 _ _ Q I1 rr q1
def gTup(K:PySem.W.Frag)(n:Nat)(t:TGs):TG:=fun v σ H Q=>∃a xs,v=.ref a∧SqT K H a xs∧xs.length=n∧t xs σ H Q
theorem pg_tup{es:List Expr}{k:Nat}{t:TGs}{n:Nat}(hc:X.calm=true)(h:PGs X es t)
 (hn:(assignEach es X.env).length=n:=by rfl) (hst:(assignEach es X.env).findIdx? (·.1)=none:=by rfl):PG X (.Tuple es k pos) (gTup X.K n t):=by
 intro pins s σ H v u Q I r hw
 obtain⟨a,xs,e1,hq,hl,hw⟩:=hw
 subst e1
 cases r
 obtain⟨its,rv,ht,hz⟩:=I.tuple hq
 refine assign_Tuple_tuple (I.ok.hd hc) ht (by simp[hn,← hl,rv.length]) hst fun h' hx=>?_
 have I1:Inv X pins σ H { s with heap:=h' }:=I.kept (t':=s.toks) fun b o e=>hx b o (Nat.ne_of_lt (Heap.lt_size e)) e
 exact h pins _ σ H xs _ Q I1 (by simpa using rv) hw
def gSub(to ti:TE)(t:TSet):TG:=fun v σ H Q=>to σ H fun o H1=>ti σ H1 fun i H2=>t o i v H2 fun H3=>Q σ H3
theorem pg_sub{o i:Expr}{to ti:TE}{t:TSet}(ho:PE X o to)(hi:PE X i ti)(hs:PSet X t)
 (ha:∀v,assign (.Subscript o i pos) X.env v=(do
   let ov ← holding [v] (eval o X.env)
   let iv ← holding [v,ov] (eval i X.env)
   standAt pos
   holding [v,ov,iv] (setItem ov iv v)
   release [v,ov,iv] []):=by intro _;rfl):PG X (.Subscript o i pos) (gSub to ti t):=by
 intro pins s σ H v u Q I r h
 rw[ha]
 refine wpAny_bind (wpAny_holding (thn (ho pins s σ H _ I h) fun ov s1 ⟨x,H1,I1,r1,q1⟩=>?_))
 refine wpAny_bind (wpAny_holding (thn (hi pins s1 σ H1 _ I1 q1) fun iv s2 ⟨y,H2,I2,r2,q2⟩=>?_))
 refine wpAny_bind (wpAny_standAt (wpAny_bind (wpAny_holding (thn (hs pins s2 σ H2 x y v ov iv u _ I2 r1 r2 r q2) fun _ s3 ⟨H3,I3,q3⟩=>?_))))
 exact wpAny_release ⟨σ,H3,I3,q3⟩
def tAsg(te:TE)(g:TG):TS:=fun D σ H=>te σ H fun x H1=>g x σ H1 D.nx
theorem ps_asg{tg e:Expr}{te:TE}{g:TG}(he:PE X e te)(hg:PG X tg g)(hs:swapsWithSole [tg] e pos.line X.env=pure false:=by rfl)(hw:swappedStores [tg] e X.env=pure none:=by rfl)
 (h1:(assignEach [tg] X.env).map (·.2) = [assign tg X.env]:=by rfl):PS X (.Assign [tg] e pos) (tAsg te g):=by
 intro pins s σ H D I h
 refine wpAny_Assign_stores (thn (he pins s σ H _ I h) fun v s1 ⟨x,H1,I1,r1,q1⟩=>?_) hs hw
 rw[h1]
 exact thn (hg pins s1 σ H1 x v _ I1 r1 q1) fun _ s2 q=>q
theorem zz{i:Nat}{x:Str}{e:Expr}{te:TE}{pos':Pos}(hN:X.N.Nodup)(hi:X.N[i]? = some x)(hx:Loc X.env.scope x)(he:PE X e te)(hs:swapsWith e (some (.Name x pos')) pos.line X.env=pure false:=by rfl)(hf:X.fn x=true∨X.env.scope.names.lookup x=some .local:=by first | exact .inl rfl | exact .inr rfl | assumption):
 PS X (.Assign [.Name x pos'] e pos) (tAsg te (zej i)):=by
 intro pins s σ H D I h
 refine wpAny_Assign_Name (thn (he pins s σ H _ I h) fun v s1 ⟨y,H1,I1,r1,q1⟩=>?_) hs
 exact zgR I1 hN hi hx r1 (fun s2 I2=>⟨_,H1,I2,q1⟩) hf
end
section
variable {X:Cx} {pos:Pos}
end
structure It where
 go:Nat→Hp→Prop
 yld:Nat→Hp→V→Hp→Prop
 stop:Nat→Hp→Prop
def zai(X:Cx)(pins:List (Addr × Obj))(H:Hp)(b:Addr):Prop :=
 H b=none∧b≠X.env.locals∧b∉X.fs∧(b∈X.ex∨X.s₀.heap.objs.size≤b)∧(∀x c,X.env.cells.lookup x=some c→c≠b)∧∀p∈X.pn++pins,p.1≠b
theorem Inv.fpOk{X:Cx}{pins:List (Addr × Obj)}{σ:St}{H H':Hp}{s:Shared}{b:Addr}(I:Inv X pins σ H s)(hb:s.heap.objs.size≤b)(hn:H' b=none):zai X pins H' b:=by
 refine⟨hn,Nat.ne_of_gt (Nat.lt_of_lt_of_le I.lt hb),I.nofs hb,.inr (Nat.le_trans I.sz hb),fun x c e z=>?_,fun p hp z=>?_⟩
 ·obtain⟨v,q⟩:=I.cell x c e
  exact absurd (Nat.lt_of_lt_of_le q.lt (by rw[z];exact hb)) (Nat.lt_irrefl _)
 ·exact absurd (Nat.lt_of_lt_of_le (Heap.lt_size (I.pin p hp).1) (by rw[z];exact hb)) (Nat.lt_irrefl _)
structure Turn (P:Program) (w:World) (K:PySem.W.Frag) (tg:Expr) (J:It) (fp:List Addr) (it:Addr) (tn:Nat→Heap→Prop):Prop where
 mem:it∈fp
 obj:∀i h,tn i h→∀b∈fp,∃o,h.get? b=some o∧∀v,o.data ≠ .cell v
 keep:∀i h h',tn i h→(∀b∈fp,∀o,h.get? b=some o→h'.get? b=some o)→tn i h'
 item:∀(X:Cx),X.prog=P→X.w=w→X.K=K→X.calm=true→∀(i:Nat) (pins:List (Addr × Obj)) (s:Shared) (σ:St) (H:Hp) (E:Value→Shared→Prop),Inv X pins σ H s→(∀b∈fp,zai X pins H b)→tn i s.heap→J.go i H →
  wpAny (model P w) X.A (pyNext (.ref it)) (fun r s1=>∃u,r=some u ∧
   wpAny (model P w) X.A (letOwnedTupleGo tg (.ref it) u) (fun _ s2=>∃x H',Inv X pins σ H' s2∧zH x u∧J.yld i H x H'∧tn (i+1) s2.heap∧∀b∈fp,H' b=none) E s1) E s
 done:∀(X:Cx),X.prog=P→X.w=w→X.K=K→X.calm=true→∀(i:Nat) (pins:List (Addr × Obj)) (s:Shared) (σ:St) (H:Hp) (E:Value→Shared→Prop),Inv X pins σ H s→(∀b∈fp,zai X pins H b)→tn i s.heap→J.stop i H →
  wpAny (model P w) X.A (pyNext (.ref it)) (fun r s1=>r=none∧Inv X pins σ H s1) E s
 self:∀(A:Around) (i:Nat) (s:Shared) (Q:Value→Shared→Prop) (E:Value→Shared→Prop),tn i s.heap→Q (.ref it) s→wpAny (model P w) A (pyIter (.ref it)) Q E s
abbrev TI:=St→Hp→(It→Hp→Prop)→Prop
def PIE(X:Cx)(pins:List (Addr × Obj))(σ:St)(tg:Expr)(R:It→Hp→Prop)(itv:Value)(s2:Shared):Prop :=
 ∃(it:Addr) (fp:List Addr) (tn:Nat→Heap→Prop) (J:It) (H':Hp),itv=.ref it∧Inv X pins σ H' s2∧Turn X.prog X.w X.K tg J fp it tn∧tn 0 s2.heap∧(∀b∈fp,zai X pins H' b)∧R J H'
def PI(X:Cx)(tg iter:Expr)(wi:TI):Prop :=
 ∀(pins:List (Addr × Obj)) (s:Shared) (σ:St) (H:Hp) (R:It→Hp→Prop),Inv X pins σ H s→wi σ H R →
  wpAny (model X.prog X.w) X.A (eval iter X.env) (fun v s1=>wpAny (model X.prog X.w) X.A (pyIter v) (PIE X pins σ tg R) X.xe s1) X.xe s
theorem go_of{M:Model}{A:Around}{E:Value→Shared→Prop}{s:Shared}{tg:Expr}{it:Addr}{u:Value}{o:Obj}{n:String}{vs:Array Value}{Q:Unit→Shared→Prop}(ho:s.heap.get? it=some o)(hc:o.cls=.type n)(hd:o.data=.fields vs)
 (hn : ["enumerate","zip","dict_itemiterator","dict_reverseitemiterator","odict_iterator","itertools.zip_longest","itertools.pairwise"].contains n=false) (hQ:Q () s):wpAny M A (letOwnedTupleGo tg (.ref it) u) Q E s:=by
 unfold letOwnedTupleGo
 cases tg <;> first
  | exact wpAny_pure hQ
  | (cases u <;> first
      | exact wpAny_pure hQ
      | (refine wpAny_bind (wpAny_load ho ?_)
         rw[hc,hd]
         show wpAny M A (if(["enumerate","zip","dict_itemiterator","dict_reverseitemiterator","odict_iterator","itertools.zip_longest","itertools.pairwise"].contains n && vs[0]? == some (rawInt _))=true then _ else _) Q E s
         rw[if_neg (by intro h;rw[hn,Bool.false_and] at h;cases h)]
         exact wpAny_pure hQ))
def Itl(K:PySem.W.Frag)(a:Addr):It :=
 ⟨fun i H=>∃xs x,SqL K H a xs∧xs[i]? = some x,fun i H x H'=>H'=H∧∀xs,SqL K H a xs→xs[i]? = some x,fun i H=>∃xs,SqL K H a xs∧xs.length≤i⟩
def Itr(lo:Int)(n:Nat):It:=⟨fun i _=>i<n,fun i H x H'=>H'=H∧x=.int (lo+i),fun i _=>n≤i⟩
theorem turn_list{P:Program}{w:World}{K:PySem.W.Frag}{tg:Expr}(a it:Addr):Turn P w K tg (Itl K a) [it] it (fun i h=>h.IsListIter it a i) where
 mem:=by simp
 obj:=fun i h st b hb=>by
  have e:b=it:=by simpa using hb
  subst e
  obtain⟨o,e,c,d⟩:=st
  exact⟨o,e,fun v z=>by rw[d] at z;cases z⟩
 keep:=fun i h h' st k=>st.at fun o e=>k it (by simp) o e
 item:=by
  intro X hP hw hK hc i pins s σ H E I hf st hg
  subst hP hw hK
  obtain⟨xs,x,hq,hx⟩:=hg
  obtain⟨its,rv,p,hz⟩:=I.list hq
  obtain⟨u,hu,ru⟩:=rv.get hx
  obtain⟨f0,f1,f2,f3,f4,f5⟩:=hf it (by simp)
  refine wpAny_pyNext_list_item st p.isList (x:=u) (by simpa using hu) fun h' st' sb=>?_
  have I1:Inv X pins σ H { s with heap:=h' }:=I.turned (t':=s.toks) (fun b o hb e=>(sb.2 b hb).trans e) f0 f1 f3 f4 f5
  obtain⟨o,e,c,d⟩:=id st'
  exact⟨u,rfl,go_of (s:={ s with heap:=h' }) e c d (by decide) ⟨x,H,I1,ru,⟨rfl,fun ys hy=>by rw[I.list_inj hy hq];exact hx⟩,st',fun b hb=>(hf b hb).1⟩⟩
 done:=by
  intro X hP hw hK hc i pins s σ H E I hf st hg
  subst hP hw hK
  obtain⟨xs,hq,hx⟩:=hg
  obtain⟨its,rv,p,hz⟩:=I.list hq
  obtain⟨f0,f1,f2,f3,f4,f5⟩:=hf it (by simp)
  have hl:=rv.length
  exact wpAny_pyNext_list_end (I.ok.hd hc) st p.isList (by simp;omega) fun h' eb=>⟨rfl,I.turned (t':=s.toks) (fun b o hb e=>eb b o hb e) f0 f1 f3 f4 f5⟩
 self:=fun _ _ _ _ _ st h=>wpAny_pyIter_listiter st h
theorem zhD{P:Program}{w:World}{K:PySem.W.Frag}{tg:Expr}(it:Addr)(lo:Int)(n:Nat):Turn P w K tg (Itr lo n) [it] it (fun i h=>IsRangeIter h it (lo+(i:Nat)*1) ((n:Int) - (i:Nat)) 1) where
 mem:=by simp
 obj:=fun i h st b hb=>by
  have e:b=it:=by simpa using hb
  subst e
  exact⟨_,st,fun v z=>by
   have z':Data.fields _=Data.cell v:=z
   cases z'⟩
 keep:=fun i h h' st k=>k it (by simp) _ st
 item:=by
  intro X hP hw hK hc i pins s σ H E I hf st hg
  subst hP hw hK
  obtain⟨f0,f1,f2,f3,f4,f5⟩:=hf it (by simp)
  have W:=Walks.range (prog:=X.prog) (w:=X.w) (I.ok.hd hc) it lo 1 n
  refine W.item i s _ _ hg st fun v h' tk hv st' kk=>?_
  obtain⟨t,rfl⟩:=hv
  have I1:Inv X pins σ H { s with heap:=h',toks:=tk }:=I.turned (fun b o hb e=>kk b o (by simpa using hb) e) f0 f1 f3 f4 f5
  refine⟨_,rfl,go_of (s:={ s with heap:=h',toks:=tk }) (n:= "range_iterator") st' rfl rfl (by decide) ⟨.int (lo+i),H,I1,⟨t,?_⟩,⟨rfl,rfl⟩,st',fun b hb=>(hf b hb).1⟩⟩
  rw[Int.mul_one]
 done:=by
  intro X hP hw hK hc i pins s σ H E I hf st hg
  subst hP hw hK
  obtain⟨f0,f1,f2,f3,f4,f5⟩:=hf it (by simp)
  exact wpAny_pyNext_range_end (I.ok.hd hc) st (by have:n≤i:=hg;omega) fun h' eb=>⟨rfl,I.turned (t':=s.toks) (fun b o hb e=>eb b o hb e) f0 f1 f3 f4 f5⟩
 self:=fun _ _ _ _ _ st h=>wpAny_pyIter_rangeiter st h
section
variable {X:Cx} {tg:Expr}
def iList(K:PySem.W.Frag)(tl:TE):TI:=fun σ H R=>tl σ H fun x H1=>∃a,x=.ref a∧(∃xs,SqL K H1 a xs)∧R (Itl K a) H1
theorem zX{l:Expr}{tl:TE}(hl:PE X l tl):PI X tg l (iList X.K tl):=by
 intro pins s σ H R I h
 refine thn (hl pins s σ H _ I h) fun v s1 ⟨x,H1,I1,r1,q1⟩=>?_
 obtain⟨a,e,⟨xs,hq⟩,q⟩:=q1
 subst e
 cases r1
 obtain⟨its,rv,p,hz⟩:=I1.list hq
 refine wpAny_pyIter_list p.isList ?_
 refine⟨s1.heap.objs.size,[s1.heap.objs.size],_,_,H1,rfl,I1.kept (t':=s1.toks) fun b o e=>Heap.get?_push_of_some _ e,turn_list a _,⟨_,Heap.get?_push_size _ rfl,rfl,rfl⟩,fun b hb=>?_,q⟩
 have e:b=s1.heap.objs.size:=by simpa using hb
 subst e
 exact I1.fpOk (Nat.le_refl _) (I1.hok.fresh (Nat.le_refl _))
theorem zg5{pins:List (Addr × Obj)}{σ:St}{H:Hp}{s:Shared}{R:It→Hp→Prop}{E:Value→Shared→Prop}{lo hi:Int}{t u v:Tok}{tk:Nat}(I:Inv X pins σ H s)(h1 : -(2 ^ 62)≤lo)(h2:lo<2 ^ 62)(h3 : -(2 ^ 62)≤hi)(h4:hi<2 ^ 62)
 (q:R (Itr lo (hi - lo).toNat) H):wpAny (model X.prog X.w) X.A (pyIter (.ref s.heap.objs.size)) (PIE X pins σ tg R) E { s with heap:=s.heap.push { cls:=.type "range",data:=.fields #[.int lo t,.int hi u,.int 1 v] },toks:=tk }:=by
 refine wpAny_pyIter_range (IsRange.new ..) (small_one h1 h2 h3 h4) ?_
 have I1:Inv X pins σ H { s with heap:=s.heap.push { cls:=.type "range",data:=.fields #[.int lo t,.int hi u,.int 1 v] },toks:=tk }:=I.kept fun b o e=>Heap.get?_push_of_some _ e
 refine⟨(s.heap.push { cls:=.type "range",data:=.fields #[.int lo t,.int hi u,.int 1 v] }).objs.size,[(s.heap.push { cls:=.type "range",data:=.fields #[.int lo t,.int hi u,.int 1 v] }).objs.size],_,_,H,rfl,
  I1.kept (t':=tk) fun b o e=>Heap.get?_push_of_some _ e,zhD _ lo (hi - lo).toNat,?_,fun b hb=>?_,q⟩
 ·have e1:lo+((0:Nat):Int)*1=lo:=by simp
  have e2:(((hi - lo).toNat:Nat):Int) - ((0:Nat):Int)=Builtin.Range.rangeSize lo hi 1:=by rw[rangeSize_one];split <;> omega
  show IsRangeIter _ _ (lo+((0:Nat):Int)*1) ((((hi - lo).toNat:Nat):Int) - ((0:Nat):Int)) 1
  rw[e1,e2]
  exact Heap.get?_push_size _ rfl
 ·have e:b=(s.heap.push { cls:=.type "range",data:=.fields #[.int lo t,.int hi u,.int 1 v] }).objs.size:=by simpa using hb
  subst e
  exact I1.fpOk (Nat.le_refl _) (I1.hok.fresh (Nat.le_refl _))
def iRng1(ta:TA):TI:=fun σ H R=>ta σ H fun vs H1=>∃j:Int,vs = [.int j] ∧ -(2 ^ 62)≤j∧j<2 ^ 62∧R (Itr 0 j.toNat) H1
def iRng2(ta:TA):TI:=fun σ H R=>ta σ H fun vs H1=>∃i j:Int,vs = [.int i,.int j]∧(-(2 ^ 62)≤i∧i<2 ^ 62 ∧ -(2 ^ 62)≤j∧j<2 ^ 62)∧R (Itr i (j - i).toNat) H1
theorem yC{a:Expr}{ta:TA}{p pos:Pos}(hg:Gl X "range")(hm:X.mg "range" = none)(ha:PA X [a] ta)(hs:starEach [a] X.env = [(false,eval a X.env)]:=by rfl):PI X tg (.Call (.Name "range" p) [a] [] pos) (iRng1 ta):=by
 intro pins s σ H R I h
 refine Call_ (zat I hg hm boot_range (PyProof.Rows.callWith_type1 (thn (ha pos pins s σ H _ I h) fun us s1 ⟨vs,H1,I1,r1,q1⟩=>?_) hs rfl))
 obtain⟨j,e,q1,q2,q⟩:=q1
 subst e
 cases r1 with
 | cons r rr =>
   cases rr
   obtain⟨t,rfl⟩:=r
   exact call_range_1 (zg5 I1 (by omega) (by omega) q1 q2 (by simpa using q))
theorem pi_range2{a b:Expr}{ta:TA}{p pos:Pos}(hg:Gl X "range")(hm:X.mg "range" = none)(ha:PA X [a,b] ta)(hs:starEach [a,b] X.env = [(false,eval a X.env),(false,eval b X.env)]:=by rfl)(hs2:starEach [b] X.env = [(false,eval b X.env)]:=by rfl):
 PI X tg (.Call (.Name "range" p) [a,b] [] pos) (iRng2 ta):=by
 intro pins s σ H R I h
 refine Call_ (zat I hg hm boot_range (PyProof.Rows.callWith_type1 (thn (ha pos pins s σ H _ I h) fun us s1 ⟨vs,H1,I1,r1,q1⟩=>?_) (by rw[hs,hs2]) (by rw[hs2];rfl)))
 obtain⟨i,j,e,⟨q1,q2,q3,q4⟩,q⟩:=q1
 subst e
 cases r1 with
 | cons r rr =>
   cases rr with
   | cons r' rr =>
     cases rr
     obtain⟨t,rfl⟩:=r
     obtain⟨t',rfl⟩:=r'
     exact call_range_2 (zg5 I1 q1 q2 q3 q4 q)
def tFor(wi:TI)(g:TG)(tb:TS):TS:=fun D σ H=>wi σ H fun J H1=>∃W:Nat→Nat→St→Hp→Prop,(∃m,W 0 m σ H1)∧∀i m σ H,W i m σ H →
 (J.stop i H∧D.nx σ H)∨(J.go i H∧∃N:St→Hp→Prop,(∀σ' H',N σ' H'→∃m',m'<m∧W (i+1) m' σ' H')∧∀x H',J.yld i H x H'→g x σ H' fun σ2 H2=>tb { D with nx:=N,ct:=N,bk:=D.nx } σ2 H2)
def zfN(fp:List Addr)(h:Heap):List (Addr × Obj):=fp.filterMap fun b=>(h.get? b).map fun o=>(b,o)
theorem y8{fp:List Addr}{h:Heap}{b:Addr}{o:Obj}(hb:b∈fp)(e:h.get? b=some o):(b,o)∈zfN fp h:=List.mem_filterMap.mpr ⟨b,hb,by rw[e];rfl⟩
theorem of_pinsAt{fp:List Addr}{h:Heap}{p:Addr × Obj}(hp:p∈zfN fp h):p.1∈fp∧h.get? p.1=some p.2:=by
 obtain⟨b,hb,e⟩:=List.mem_filterMap.mp hp
 cases q:h.get? b with
 | none=>rw[q] at e;cases e
 | some o =>
   rw[q] at e
   have e':(b,o)=p:=Option.some.inj e
   subst e'
   exact⟨hb,q⟩
theorem Inv.pinned{pins:List (Addr × Obj)}{σ:St}{H:Hp}{s:Shared}{fp:List Addr}(I:Inv X pins σ H s)(hf:∀b∈fp,zai X pins H b)(ho:∀b∈fp,∃o,s.heap.get? b=some o∧∀v,o.data ≠ .cell v):Inv X (pins++zfN fp s.heap) σ H s :=
 I.pins_of fun p hp=>(List.mem_append.mp hp).elim (fun z=>I.pin p (List.mem_append_right _ z)) fun z=>by
  obtain⟨hb,e⟩:=of_pinsAt z
  obtain⟨f0,f1,f2,_⟩:=hf p.1 hb
  obtain⟨o,e',d⟩:=ho p.1 hb
  rw[e] at e';cases e'
  exact⟨e,f0,f1,f2,d⟩
theorem Inv.unpinned{pins pl:List (Addr × Obj)}{σ:St}{H:Hp}{s:Shared}(I:Inv X (pins++pl) σ H s):Inv X pins σ H s:=I.pins_of fun p hp=>I.pin p (List.mem_append_right _ (List.mem_append_left _ hp))
theorem zbC{iter:Expr}{body:List Stmt}{wi:TI}{g:TG}{tb:TS}{pos:Pos}(hp:PassesOwn (model X.prog X.w) X.A X.env X.xe)(hc:X.calm=true)(hi:PI X tg iter wi)(hg:PG X tg g)(hb:PSs X body tb)
 (hs:∀x,foldedSetIterable iter X.env x=pure x:=by intro _;rfl):PS X (.For tg iter body [] pos) (tFor wi g tb):=by
 intro pins s σ H D I h
 refine wpAny_For (thn (hi pins s σ H _ I h) fun v s1 h1=>thn h1 fun itv s2 h2=>?_) hs
 obtain⟨it,fp,tn,J,H2,e,I2,T,st2,f2,W,⟨m0,w0⟩,turn⟩:=h2
 subst e
 -- what stays true of the iterator's objects through the loop
 have stat:∀{H':Hp},(∀b∈fp,H' b=none)→∀b∈fp,zai X pins H' b:=fun hn b hb=>⟨hn b hb,(f2 b hb).2⟩
 refine codeAny_forLoop_any (fun n s'=>∃i σ' H',Inv X pins σ' H' s'∧tn i s'.heap∧(∀b∈fp,H' b=none)∧W i n σ' H') ?_ m0 ⟨0,σ,H2,I2,st2,fun b hb=>(f2 b hb).1,w0⟩
 rintro n s3 ⟨i,σ3,H3,I3,st3,fr3,w3⟩
 rcases turn i n σ3 H3 w3 with⟨stop,qn⟩ | ⟨go,N,hN,step⟩
 ·refine wpAny_passesOwn hp (thn (T.done X rfl rfl rfl hc i pins s3 σ3 H3 X.xe I3 (stat fr3) st3 stop) fun r s4 ⟨hr,I4⟩=>?_)
  subst hr
  exact wpAny_execs_nil ⟨σ3,H3,I4,qn⟩
 ·refine wpAny_passesOwn hp (thn (T.item X rfl rfl rfl hc i pins s3 σ3 H3 X.xe I3 (stat fr3) st3 go) fun r s4 ⟨u,hr,h4⟩=>?_)
  subst hr
  refine wpAny_passesOwn hp (thn h4 fun _ s5 ⟨x,H5,I5,r5,y5,st5,fr5⟩=>?_)
  have I5':=I5.pinned (stat fr5) (T.obj _ _ st5)
  refine wpAny_passesOwn hp (thn (hg _ s5 σ3 H5 x u _ I5' r5 (step x H5 y5)) fun _ s6 ⟨σ6,H6,I6,q6⟩=>?_)
  refine wpAny_passesOwn hp (thn (hb _ s6 σ6 H6 _ I6 q6) fun f s7 q7=>?_)
  have again:∀{σ7:St} {H7:Hp},Inv X (pins++zfN fp s5.heap) σ7 H7 s7→N σ7 H7→∃m,m<n∧∃i σ' H',Inv X pins σ' H' s7∧tn i s7.heap∧(∀b∈fp,H' b=none)∧W i m σ' H':=fun {σ7 H7} I7 n7=>by
   obtain⟨m',hm,w7⟩:=hN σ7 H7 n7
   refine⟨m',hm,i+1,σ7,H7,I7.unpinned,T.keep _ _ _ st5 fun b hb o e=>(I7.pin (b,o) (List.mem_append_right _ (List.mem_append_right _ (y8 hb e)))).1,fun b hb=>?_,w7⟩
   obtain⟨o,e,d⟩:=T.obj _ _ st5 b hb
   exact(I7.pin (b,o) (List.mem_append_right _ (List.mem_append_right _ (y8 hb e)))).2.1
  cases f with
  | next=>obtain⟨σ7,H7,I7,n7⟩:=q7;exact again I7 n7
  | cont=>obtain⟨σ7,H7,I7,n7⟩:=q7;exact again I7 n7
  | brk=>obtain⟨σ7,H7,I7,q7⟩:=q7;exact⟨σ7,H7,I7.unpinned,q7⟩
  | ret v=>obtain⟨x7,σ7,H7,I7,r7,q7⟩:=q7;exact⟨x7,σ7,H7,I7.unpinned,r7,q7⟩
end
theorem for_list{K:PySem.W.Frag}{a:Addr}{xs:List V}{g:TG}{tb:TS}{D:Ends}{σ:St}{H:Hp}(Pv:Nat→St→Hp→Prop)(h0:Pv 0 σ H)(hl:∀i σ H,i≤xs.length→Pv i σ H→SqL K H a xs)
 (hs:∀i x σ H,xs[i]? = some x→Pv i σ H→g x σ H fun σ2 H2=>tb { D with nx:=Pv (i+1),ct:=Pv (i+1),bk:=D.nx } σ2 H2) (hd:∀σ H,Pv xs.length σ H→D.nx σ H) :
 ∃W:Nat→Nat→St→Hp→Prop,(∃m,W 0 m σ H)∧∀i m σ H,W i m σ H →
  ((Itl K a).stop i H∧D.nx σ H)∨((Itl K a).go i H∧∃N:St→Hp→Prop,(∀σ' H',N σ' H'→∃m',m'<m∧W (i+1) m' σ' H')∧∀x H',(Itl K a).yld i H x H'→g x σ H' fun σ2 H2=>tb { D with nx:=N,ct:=N,bk:=D.nx } σ2 H2):=by
 refine⟨fun i m σ H=>m=xs.length - i∧i≤xs.length∧Pv i σ H,⟨xs.length,by simp,Nat.zero_le _,h0⟩,?_⟩
 rintro i m σ H ⟨rfl,hi,p⟩
 have q:=hl i σ H hi p
 by_cases hlt:i<xs.length
 ·refine .inr ⟨⟨xs,xs[i],q,by simp[hlt]⟩,Pv (i+1),fun σ' H' p'=>⟨xs.length - (i+1),by omega,rfl,hlt,p'⟩,fun x H' y=>?_⟩
  obtain⟨e,y⟩:=y
  subst e
  exact hs i x σ _ (y xs q) p
 ·have e:i=xs.length:=by omega
  subst e
  exact .inl ⟨⟨xs,q,Nat.le_refl _⟩,hd σ H p⟩
theorem zac{lo:Int}{n:Nat}{g:TG}{tb:TS}{D:Ends}{σ:St}{H:Hp}(Pv:Nat→St→Hp→Prop)(h0:Pv 0 σ H)
 (hs:∀i σ H,i<n→Pv i σ H→g (.int (lo+i)) σ H fun σ2 H2=>tb { D with nx:=Pv (i+1),ct:=Pv (i+1),bk:=D.nx } σ2 H2) (hd:∀σ H,Pv n σ H→D.nx σ H) :
 ∃W:Nat→Nat→St→Hp→Prop,(∃m,W 0 m σ H)∧∀i m σ H,W i m σ H →
  ((Itr lo n).stop i H∧D.nx σ H)∨((Itr lo n).go i H∧∃N:St→Hp→Prop,(∀σ' H',N σ' H'→∃m',m'<m∧W (i+1) m' σ' H')∧∀x H',(Itr lo n).yld i H x H'→g x σ H' fun σ2 H2=>tb { D with nx:=N,ct:=N,bk:=D.nx } σ2 H2):=by
 refine⟨fun i m σ H=>m=n - i∧i≤n∧Pv i σ H,⟨n,by simp,Nat.zero_le _,h0⟩,?_⟩
 rintro i m σ H ⟨rfl,hi,p⟩
 by_cases hlt:i<n
 ·refine .inr ⟨hlt,Pv (i+1),fun σ' H' p'=>⟨n - (i+1),by omega,rfl,hlt,p'⟩,fun x H' y=>?_⟩
  obtain⟨e,y⟩:=y
  subst e y
  exact hs i σ _ hlt p
 ·have e:i=n:=by omega
  subst e
  exact .inl ⟨Nat.le_refl _,hd σ H p⟩
abbrev R2:=V→V→Hp→VK→Prop
def OpR(X:Cx)(f:Value→Value→Sem Value)(r:R2):Prop :=
 ∀(pins:List (Addr × Obj)) (s:Shared) (σ:St) (H:Hp) (x y:V) (v u:Value) (Q:VK),Inv X pins σ H s→zH x v→zH y u→r x y H Q →
  wpAny (model X.prog X.w) X.A (f v u) (EP X pins σ Q) X.xe s
def UnR(X:Cx)(f:Value→Sem Value)(r:V→Hp→VK→Prop):Prop :=
 ∀(pins:List (Addr × Obj)) (s:Shared) (σ:St) (H:Hp) (x:V) (v:Value) (Q:VK),Inv X pins σ H s→zH x v→r x H Q →
  wpAny (model X.prog X.w) X.A (f v) (EP X pins σ Q) X.xe s
def zal(X:Cx)(f:Value)(r:List V→Hp→VK→Prop):Prop :=
 ∀(pins:List (Addr × Obj)) (s:Shared) (σ:St) (H:Hp) (xs:List V) (us:List Value) (Q:VK),Inv X pins σ H s→zA xs us→r xs H Q →
  wpAny (model X.prog X.w) X.A (call f us) (EP X pins σ Q) X.xe s
def tOp(r:R2)(ta tb:TE):TE:=fun σ H Q=>ta σ H fun x H1=>tb σ H1 fun y H2=>r x y H2 Q
def tUn(r:V→Hp→VK→Prop)(ta:TE):TE:=fun σ H Q=>ta σ H fun x H1=>r x H1 Q
def rI(C:Int→Int→Prop)(g:Int→Int→V):R2:=fun x y H Q=>∃i j,x=.int i∧y=.int j∧C i j∧Q (g i j) H
def rI0(g:Int→Int→V):R2:=fun x y H Q=>∃i j,x=.int i∧y=.int j∧Q (g i j) H
def rU(g:Int→V):V→Hp→VK→Prop:=fun x H Q=>∃i,x=.int i∧Q (g i) H
section
variable {X:Cx} {a b c:Expr} {ta tb tc:TE} {pos:Pos}
theorem binT(ha:PE X a ta)(hb:PE X b tb){pins:List (Addr × Obj)}{s:Shared}{σ:St}{H:Hp}{R:V→V→Hp→Prop}(I:Inv X pins σ H s)
 (h:ta σ H fun x H1=>tb σ H1 fun y H2=>R x y H2) {Q:Value→Shared→Prop} {f:Value→Value→Sem Value}
 (hf:∀v u s2 x y H2,Inv X pins σ H2 s2→zH x v→zH y u→R x y H2→wpAny (model X.prog X.w) X.A (f v u) Q X.xe s2) :
 wpAny (model X.prog X.w) X.A (eval a X.env) (fun v s₁=>wpAny (model X.prog X.w) X.A (eval b X.env) (fun u s₂=>wpAny (model X.prog X.w) X.A (f v u) Q X.xe s₂) X.xe s₁) X.xe s:=by
 refine thn (ha pins s σ H _ I h) fun v s1 ⟨x,H1,I1,r1,q1⟩=>?_
 refine thn (hb pins s1 σ H1 _ I1 q1) fun u s2 ⟨y,H2,I2,r2,q2⟩=>?_
 exact hf v u s2 x y H2 I2 r1 r2 q2
theorem zD{op:Operator}{r:R2}(ho:OpR X (binaryOp op) r)(ha:PE X a ta)(hb:PE X b tb):PE X (.BinOp a op b pos) (tOp r ta tb):=by
 intro pins s σ H Q I h
 exact wpAny_BinOp (binT ha hb I h fun v u s2 x y H2 I2 rx ry q=>ho pins s2 σ H2 x y v u Q I2 rx ry q)
theorem zen{op:UnaryOp}{r:V→Hp→VK→Prop}(ho:UnR X (unaryOp op) r)(ha:PE X a ta):PE X (.UnaryOp op a pos) (tUn r ta):=by
 intro pins s σ H Q I h
 exact UnaryOp_ (thn (ha pins s σ H _ I h) fun v s1 ⟨x,H1,I1,r1,q1⟩=>ho pins s1 σ H1 x v Q I1 r1 q1)
theorem opI{f:Value→Value→Sem Value}{C:Int→Int→Prop}{g:Int→Int→Int}
 (rule:∀(i j:Int) (t u:Tok) (s:Shared) (Q:Value→Shared→Prop) (E:Value→Shared→Prop),C i j→Q (.int (g i j) s.toks) { s with toks:=s.toks+1 }→wpAny (model X.prog X.w) X.A (f (.int i t) (.int j u)) Q E s) :
 OpR X f (rI C fun i j=>.int (g i j)):=by
 intro pins s σ H x y v u Q I rx ry h
 obtain⟨i,j,rfl,rfl,hc,q⟩:=h
 obtain⟨t,rfl⟩:=rx
 obtain⟨t',rfl⟩:=ry
 exact rule i j t t' s _ _ hc ⟨.int (g i j),H,I.tok _,⟨_,rfl⟩,q⟩
theorem opI0{f:Value→Value→Sem Value}{g:Int→Int→Int}
 (rule:∀(i j:Int) (t u:Tok) (s:Shared) (Q:Value→Shared→Prop) (E:Value→Shared→Prop),Q (.int (g i j) s.toks) { s with toks:=s.toks+1 }→wpAny (model X.prog X.w) X.A (f (.int i t) (.int j u)) Q E s) :
 OpR X f (rI0 fun i j=>.int (g i j)):=by
 intro pins s σ H x y v u Q I rx ry h
 obtain⟨i,j,rfl,rfl,q⟩:=h
 obtain⟨t,rfl⟩:=rx
 obtain⟨t',rfl⟩:=ry
 exact rule i j t t' s _ _ ⟨.int (g i j),H,I.tok _,⟨_,rfl⟩,q⟩
theorem opB0{f:Value→Value→Sem Value}{g:Int→Int→Bool}
 (rule:∀(i j:Int) (t u:Tok) (s:Shared) (Q:Value→Shared→Prop) (E:Value→Shared→Prop),Q (.bool (g i j)) s→wpAny (model X.prog X.w) X.A (f (.int i t) (.int j u)) Q E s) :
 OpR X f (rI0 fun i j=>.bl (g i j)):=by
 intro pins s σ H x y v u Q I rx ry h
 obtain⟨i,j,rfl,rfl,q⟩:=h
 obtain⟨t,rfl⟩:=rx
 obtain⟨t',rfl⟩:=ry
 exact rule i j t t' s _ _ ⟨.bl (g i j),H,I,rfl,q⟩
def CDiv(i j:Int):Prop:=0<j∧j<1073741824
def CMul(i j:Int):Prop:=(-(2 ^ 64)<i∧i<2 ^ 64)∨(-(2 ^ 64)<j∧j<2 ^ 64)
theorem CMul.ok{i j:Int}(h:CMul i j):IntMulOk i j:=by
 rcases h with⟨h1,h2⟩ | ⟨h1,h2⟩
 ·exact .of_left (intBits_le_64 h1 h2)
 ·exact .of_right (intBits_le_64 h1 h2)
theorem yR:OpR X (binaryOp .Add) (rI0 fun i j=>.int (i+j)):=opI0 fun _ _ _ _ _ _ _ q=>add_int q
theorem zeJ:OpR X (binaryOp .Sub) (rI0 fun i j=>.int (i - j)):=opI0 fun _ _ _ _ _ _ _ q=>sub_int q
theorem zf9:OpR X (binaryOp .Mult) (rI CMul fun i j=>.int (i*j)):=opI fun _ _ _ _ _ _ _ hc q=>mul_int q hc.ok
theorem zbE:OpR X (binaryOp .FloorDiv) (rI CDiv fun i j=>.int (i/j)):=opI fun i j _ _ _ _ _ hc q=>by
 have h1:(0:Int)<j:=hc.1
 have h2:j<1073741824:=hc.2
 exact floordiv_int (by omega) (by rw[Int.fdiv_eq_ediv_of_nonneg i (by omega)];exact q) (.inl (PyProof.noPylong_small (by omega)))
theorem yY:OpR X (binaryOp .Mod) (rI (fun _ j=>0<j) fun i j=>.int (i%j)):=opI fun i j _ _ _ _ _ hc q=>by
 have h1:(0:Int)<j:=hc
 exact mod_int' (by omega) (by rw[Int.fmod_eq_emod_of_nonneg i (by omega)];exact q)
theorem unI{f:Value→Sem Value}{g:Int→Int}
 (rule:∀(i:Int) (t:Tok) (s:Shared) (Q:Value→Shared→Prop) (E:Value→Shared→Prop),Q (.int (g i) s.toks) { s with toks:=s.toks+1 }→wpAny (model X.prog X.w) X.A (f (.int i t)) Q E s) :
 UnR X f (rU fun i=>.int (g i)):=by
 intro pins s σ H x v Q I rx h
 obtain⟨i,rfl,q⟩:=h
 obtain⟨t,rfl⟩:=rx
 exact rule i t s _ _ ⟨.int (g i),H,I.tok _,⟨_,rfl⟩,q⟩
theorem zcH:UnR X (unaryOp .USub) (rU fun i=>.int (-i)):=unI fun _ _ _ _ _ q=>neg_int q
end
def scal:V→V→Bool
 | .non,.non=>true | .non,.int _=>true | .int _,.non=>true | .non,.bl _=>true | .bl _,.non=>true | .non,.str _=>true | .str _,.non=>true
 | .int _,.int _=>true | .bl _,.bl _=>true | .str _,.str _=>true | .byt _,.byt _=>true
 | .int _,.str _=>true | .str _,.int _=>true | .bl _,.str _=>true | .str _,.bl _=>true
 | _,_=>false
def rEq:R2:=fun x y H Q=>scal x y=true∧Q (.bl (decide (x=y))) H
def rNe:R2:=fun x y H Q=>scal x y=true∧Q (.bl (!decide (x=y))) H
theorem zii{i j:Int}:decide (V.int i=V.int j)=(i==j):=by
 rw[Bool.eq_iff_iff]
 simp
theorem dec_bl{i j:Bool}:decide (V.bl i=V.bl j)=(i==j):=by
 rw[Bool.eq_iff_iff]
 simp
theorem zh6{i j:Str}:decide (V.str i=V.str j)=(i==j):=by
 rw[Bool.eq_iff_iff]
 simp
theorem zie{i j:Array UInt8}:decide (V.byt i=V.byt j)=(i.toList==j.toList):=by
 rw[Bool.eq_iff_iff]
 cases i
 cases j
 simp
section
variable {X:Cx} {a b c:Expr} {ta tb tc:TE} {pos:Pos}
theorem zI{pins:List (Addr × Obj)}{σ:St}{H:Hp}{s:Shared}{Q:VK}{k k':Bool}(I:Inv X pins σ H s)(q:Q (.bl k) H)(e:k=k'):EP X pins σ Q (.bool k') s:=by
 subst e
 exact⟨.bl k,H,I,rfl,q⟩
theorem zb3:OpR X (compareOp .Eq) rEq:=by
 intro pins s σ H x y v u Q I rx ry h
 obtain⟨hs,q⟩:=h
 cases x with
 | non =>
   cases rx
   cases y with
   | non=>cases ry;exact PySem.EqNone.eq_none_none (zI I q (by simp))
   | bl j=>cases ry;exact PySem.EqNone.eq_none_bool (zI I q (by simp))
   | int j=>obtain⟨t',rfl⟩:=ry;exact PySem.EqNone.eq_none_int (zI I q (by simp))
   | str j=>obtain⟨t',rfl⟩:=ry;exact PySem.EqNone.eq_none_str (zI I q (by simp))
   | _=>exact absurd (show false=true from hs) Bool.false_ne_true
 | bl i =>
   cases rx
   cases y with
   | non=>cases ry;exact PySem.EqNone.eq_bool_none (zI I q (by simp))
   | bl j=>cases ry;exact eq_bool (zI I q dec_bl)
   | str j=>obtain⟨t',rfl⟩:=ry;exact PySem.EqMixed.eq_bool_str (zI I q (by simp))
   | _=>exact absurd (show false=true from hs) Bool.false_ne_true
 | int i =>
   obtain⟨t,rfl⟩:=rx
   cases y with
   | non=>cases ry;exact PySem.EqNone.eq_int_none (zI I q (by simp))
   | int j=>obtain⟨t',rfl⟩:=ry;exact eq_int (zI I q zii)
   | str j=>obtain⟨t',rfl⟩:=ry;exact PySem.EqMixed.eq_int_str (zI I q (by simp))
   | _=>exact absurd (show false=true from hs) Bool.false_ne_true
 | str i =>
   obtain⟨t,rfl⟩:=rx
   cases y with
   | non=>cases ry;exact PySem.EqNone.eq_str_none (zI I q (by simp))
   | bl j=>cases ry;exact PySem.EqMixed.eq_str_bool (zI I q (by simp))
   | int j=>obtain⟨t',rfl⟩:=ry;exact PySem.EqMixed.eq_str_int (zI I q (by simp))
   | str j=>obtain⟨t',rfl⟩:=ry;exact eq_str (zI I q zh6)
   | _=>exact absurd (show false=true from hs) Bool.false_ne_true
 | byt i =>
   obtain⟨t,rfl⟩:=rx
   cases y with
   | byt j=>obtain⟨t',rfl⟩:=ry;exact PySem.W.eq_bytes (zI I q zie)
   | _=>exact absurd (show false=true from hs) Bool.false_ne_true
 | _=>cases y <;> exact absurd (show false=true from hs) Bool.false_ne_true
theorem wC:OpR X (compareOp .NotEq) rNe:=by
 intro pins s σ H x y v u Q I rx ry h
 obtain⟨hs,q⟩:=h
 cases x with
 | non =>
   cases rx
   cases y with
   | non=>cases ry;exact PySem.EqNone.ne_none_none (zI I q (by simp))
   | bl j=>cases ry;exact PySem.EqNone.ne_none_bool (zI I q (by simp))
   | int j=>obtain⟨t',rfl⟩:=ry;exact PySem.EqNone.ne_none_int (zI I q (by simp))
   | str j=>obtain⟨t',rfl⟩:=ry;exact PySem.EqNone.ne_none_str (zI I q (by simp))
   | _=>exact absurd (show false=true from hs) Bool.false_ne_true
 | bl i =>
   cases rx
   cases y with
   | non=>cases ry;exact PySem.EqNone.ne_bool_none (zI I q (by simp))
   | bl j=>cases ry;exact ne_bool (zI I q (congrArg not dec_bl))
   | str j=>obtain⟨t',rfl⟩:=ry;exact PySem.EqMixed.ne_bool_str (zI I q (by simp))
   | _=>exact absurd (show false=true from hs) Bool.false_ne_true
 | int i =>
   obtain⟨t,rfl⟩:=rx
   cases y with
   | non=>cases ry;exact PySem.EqNone.ne_int_none (zI I q (by simp))
   | int j=>obtain⟨t',rfl⟩:=ry;exact ne_int (zI I q (congrArg not zii))
   | str j=>obtain⟨t',rfl⟩:=ry;exact PySem.EqMixed.ne_int_str (zI I q (by simp))
   | _=>exact absurd (show false=true from hs) Bool.false_ne_true
 | str i =>
   obtain⟨t,rfl⟩:=rx
   cases y with
   | non=>cases ry;exact PySem.EqNone.ne_str_none (zI I q (by simp))
   | bl j=>cases ry;exact PySem.EqMixed.ne_str_bool (zI I q (by simp))
   | int j=>obtain⟨t',rfl⟩:=ry;exact PySem.EqMixed.ne_str_int (zI I q (by simp))
   | str j=>obtain⟨t',rfl⟩:=ry;exact ne_str (zI I q (congrArg not zh6))
   | _=>exact absurd (show false=true from hs) Bool.false_ne_true
 | byt i =>
   obtain⟨t,rfl⟩:=rx
   cases y with
   | byt j=>obtain⟨t',rfl⟩:=ry;exact PySem.W.ne_bytes (zI I q (congrArg not zie))
   | _=>exact absurd (show false=true from hs) Bool.false_ne_true
 | _=>cases y <;> exact absurd (show false=true from hs) Bool.false_ne_true
theorem zdA:OpR X (compareOp .Lt) (rI0 fun i j=>.bl (decide (i<j))):=opB0 fun _ _ _ _ _ _ _ q=>lt_int q
theorem zgF:OpR X (compareOp .LtE) (rI0 fun i j=>.bl (decide (i≤j))):=opB0 fun _ _ _ _ _ _ _ q=>le_int q
theorem op_gt:OpR X (compareOp .Gt) (rI0 fun i j=>.bl (decide (j<i))):=opB0 fun _ _ _ _ _ _ _ q=>gt_int q
theorem op_ge:OpR X (compareOp .GtE) (rI0 fun i j=>.bl (decide (j≤i))):=opB0 fun _ _ _ _ _ _ _ q=>ge_int q
theorem op_isN:OpR X (compareOp .Is) (fun x y H Q=>y=.non∧Q (.bl (decide (x=.non))) H):=by
 intro pins s σ H x y v u Q I rx ry h
 obtain⟨rfl,q⟩:=h
 cases ry
 refine is_none_gen (zI I q ?_)
 cases x <;> first
  | (cases rx;rfl)
  | (obtain⟨t,rfl⟩:=rx;rfl)
theorem op_notN:OpR X (compareOp .IsNot) (fun x y H Q=>y=.non∧Q (.bl (!decide (x=.non))) H):=by
 intro pins s σ H x y v u Q I rx ry h
 obtain⟨rfl,q⟩:=h
 cases ry
 refine isnot_none_gen (zI I q ?_)
 cases x <;> first
  | (cases rx;rfl)
  | (obtain⟨t,rfl⟩:=rx;rfl)
theorem zv(b:Expr){op:CmpOp}(h:op ≠ .In:=by decide)(h2:op ≠ .NotIn:=by decide):behindInMarks op b=false:=by
 have e1:(op==CmpOp.In)=false:=by cases op <;> first | rfl | exact absurd rfl h
 have e2:(op==CmpOp.NotIn)=false:=by cases op <;> first | rfl | exact absurd rfl h2
 cases b <;> simp[behindInMarks,e1,e2]
theorem zcl{op:CmpOp}{r:R2}(ho:OpR X (compareOp op) r)(ha:PE X a ta)(hb:PE X b tb)(hm:behindInMarks op b=false):PE X (.Compare a [op] [b] pos) (tOp r ta tb):=by
 intro pins s σ H Q I h
 exact wpAny_Compare1 (binT ha hb I h fun v u s2 x y H2 I2 rx ry q=>ho pins s2 σ H2 x y v u Q I2 rx ry q) hm
def tTest(t:TE):TT:=fun σ H Q=>t σ H fun x H'=>∃k,x=.bl k∧Q k H'
theorem zr{op:CmpOp}{r:R2}(ho:OpR X (compareOp op) r)(ha:PE X a ta)(hb:PE X b tb)(hm:behindInMarks op b=false):PT X (.Compare a [op] [b] pos) (tTest (tOp r ta tb)):=by
 intro pins s σ H Q I h
 refine wpAny_isTrue_Compare1 (thn (ha pins s σ H _ I h) fun v s1 ⟨x,H1,I1,r1,q1⟩=>thn (hb pins s1 σ H1 _ I1 q1) fun u s2 ⟨y,H2,I2,r2,q2⟩ =>
  thn (ho pins s2 σ H2 x y v u _ I2 r1 r2 q2) fun c s3 ⟨z,H3,I3,r3,k,e,q3⟩=>?_) hm
 subst e
 cases r3
 exact wpAny_truthy_bool ⟨H3,I3,q3⟩
def tChain(r r':R2)(ta tb tc:TE):TE:=fun σ H Q=>ta σ H fun x H1=>tb σ H1 fun y H2=>r x y H2 fun z H3=>∃k,z=.bl k ∧
 (if k=true then tc σ H3 fun w' H4=>r' y w' H4 Q else Q (.bl false) H3)
theorem zeF{op op':CmpOp}{r r':R2}(ho:OpR X (compareOp op) r)(ho':OpR X (compareOp op') r')(ha:PE X a ta)(hb:PE X b tb)(hc:PE X c tc)
 (hm:lastMarks [op,op'] [b,c]=false:=by with_unfolding_all rfl):PE X (.Compare a [op,op'] [b,c] pos) (tChain r r' ta tb tc):=by
 intro pins s σ H Q I h
 refine Compare_chain (thn (ha pins s σ H _ I h) fun v s1 ⟨x,H1,I1,r1,q1⟩=>chain_link (thn (hb pins s1 σ H1 _ I1 q1) fun u s2 ⟨y,H2,I2,r2,q2⟩ =>
  thn (ho pins s2 σ H2 x y v u _ I2 r1 r2 q2) fun d s3 ⟨z,H3,I3,r3,k,e,q3⟩=>?_)) hm
 subst e
 cases r3
 refine wpAny_truthy_bool ?_
 cases k with
 | false=>exact ite_ff ⟨.bl false,H3,I3,rfl,q3⟩
 | true=>exact ite_tt (chain_last (thn (hc pins s3 σ H3 _ I3 q3) fun w' s4 ⟨z',H4,I4,r4,q4⟩=>ho' pins s4 σ H4 y z' u w' Q I4 r2 r4 q4))
theorem zdv:(sizeLine:Nat)<2 ^ 63:=by rw[sizeLine_eq];decide
theorem zeG:OpR X (binaryOp .Add) (fun x y H Q=>∃i j,x=.str i∧y=.str j∧i.length+j.length≤sizeLine∧Q (.str (i++j)) H):=by
 intro pins s σ H x y v u Q I rx ry h
 obtain⟨i,j,rfl,rfl,hz,q⟩:=h
 obtain⟨t,rfl⟩:=rx
 obtain⟨t',rfl⟩:=ry
 exact add_str (fun t' tk=>⟨.str (i++j),H,I.tok _,⟨_,rfl⟩,q⟩) hz
theorem vals1{x:V}{us:List Value}(r:zA [x] us):∃u,us = [u]∧zH x u:=by
 cases r with
 | cons r1 r2=>cases r2;exact⟨_,rfl,r1⟩
theorem vals2{x y:V}{us:List Value}(r:zA [x,y] us):∃u w',us = [u,w']∧zH x u∧zH y w':=by
 cases r with
 | cons r1 r2 =>
   cases r2 with
   | cons r3 r4=>cases r4;exact⟨_,_,rfl,r1,r3⟩
theorem call_min2(hc:X.calm=true):zal X (.builtin "min") (fun xs H Q=>∃i j,xs = [.int i,.int j]∧Q (.int (if j<i then j else i)) H):=by
 intro pins s σ H xs us Q I r h
 obtain⟨i,j,rfl,q⟩:=h
 obtain⟨u,w',rfl,⟨t,rfl⟩,⟨t',rfl⟩⟩:=vals2 r
 refine min_two_ints (I.ok.hd hc) fun h' tk k=>⟨_,H,I.kept k,?_,q⟩
 by_cases hj:j<i
 ·rw[if_pos hj,if_pos hj];exact⟨_,rfl⟩
 ·rw[if_neg hj,if_neg hj];exact⟨_,rfl⟩
def LenV(K:PySem.W.Frag)(x:V)(H:Hp)(n:Nat):Prop :=
 match x with
 | .str y=>y.length≤sizeLine∧n=y.length
 | .byt y=>y.size≤sizeLine∧n=y.size
 | .ref p=>(∃xs,SqL K H p xs∧n=xs.length)∨∃xs,SqT K H p xs∧n=xs.length
 | _=>False
theorem call_len:zal X (.builtin "len") (fun xs H Q=>∃x n,xs = [x]∧LenV X.K x H n∧Q (.int n) H):=by
 intro pins s σ H xs us Q I r h
 obtain⟨x,n,rfl,e,q⟩:=h
 obtain⟨u,rfl,rx⟩:=vals1 r
 have hl:=zdv
 have hs:sizeLine=16777216:=sizeLine_eq
 cases x with
 | str y =>
   obtain⟨t,rfl⟩:=rx
   obtain⟨hy,e'⟩:y.length≤sizeLine∧n=y.length:=e
   subst e'
   exact len_str (by omega) ⟨.int _,H,I.tok _,⟨_,rfl⟩,q⟩
 | byt y =>
   obtain⟨t,rfl⟩:=rx
   obtain⟨hy,e'⟩:y.size≤sizeLine∧n=y.size:=e
   subst e'
   exact PySem.W.len_bytes (by omega) ⟨.int _,H,I.tok _,⟨_,rfl⟩,q⟩
 | ref p =>
   cases rx
   have e':(∃xs,SqL X.K H p xs∧n=xs.length)∨∃xs,SqT X.K H p xs∧n=xs.length:=e
   rcases e' with⟨xs,hx,e'⟩ | ⟨xs,hx,e'⟩
   ·subst e'
    obtain⟨its,r',pl,hz⟩:=I.list hx
    have hlen:=r'.length
    exact Calls.call_len_list pl.isList (by simp only[List.size_toArray];omega) ⟨.int xs.length,H,I.tok _,⟨_,by simp only[List.size_toArray];rw[hlen]⟩,q⟩
   ·subst e'
    obtain⟨its,r',pl,hz⟩:=I.tuple hx
    have hlen:=r'.length
    exact len_tuple pl (by simp only[List.size_toArray];omega) ⟨.int xs.length,H,I.tok _,⟨_,by simp only[List.size_toArray];rw[hlen]⟩,q⟩
 | _=>exact(show False from e).elim
end
structure ObjM (h:Heap) (x dx C:Addr) (mA:Str→Option Value):Prop where
 obj:h.get? x=some (PySem.W.instObj C dx)
 ns:h.Ns1 dx mA
 ne:dx≠x
theorem lookIn_ns{h:Heap}{dx:Addr}{mA:Str→Option Value}(n:h.Ns1 dx mA):∃od,h.get? dx=some od∧∀name,PySem.W.lookIn name od=some (mA name):=by
 obtain⟨o,es,ep,ho,hd,hk,_,hm⟩:=n
 refine⟨o,ho,fun name=>?_⟩
 have e:=hm name
 unfold nsFind findBy at e
 rw[← Array.find?_toList] at e
 unfold PySem.W.lookIn
 rw[hd]
 dsimp only
 split
 ·rename_i y q
  rw[q] at e
  exact congrArg some e
 ·rename_i q
  rw[q] at e
  have a:es.toList.any (·.refKey)=false:=by
   rw[List.any_eq_false]
   intro y hy
   obtain⟨z,t,hkey⟩:=hk y (Array.mem_toList_iff.mp hy)
   simp[DictEntry.refKey,hkey]
  have a':¬es.toList.any (·.refKey)=true:=by rw[a];exact Bool.false_ne_true
  rw[if_neg a']
  exact congrArg some e
theorem ObjM.look{h:Heap}{x dx C:Addr}{mA:Str→Option Value}(I:ObjM h x dx C mA):∃od,PySem.W.InstAt h x (PySem.W.instObj C dx) C (some od)∧∀name,PySem.W.lookIn name od=some (mA name) :=
 let ⟨od,ho,hl⟩:=lookIn_ns I.ns
 ⟨od,⟨I.obj,rfl,rfl,ho⟩,hl⟩
section
variable {prog:Program} {w:World} {A:Around} {E:Value→Shared→Prop} {s:Shared} {K:PySem.W.Frag} {x dx C f:Addr} {mA:Str→Option Value} {name:Str} {v:Value}
theorem get_map{expr:Bool}{Q:Value→Shared→Prop}(X:K.In s.heap)(I:ObjM s.heap x dx C mA)(hg:PySem.W.plainGet K C name=true)(hh:PySem.W.hasDictIn K C=true)
 (ha:PySem.W.findIn K (.ref C) name=some none) (hv:mA name=some v) (hv':PySem.W.handedIn v=true) (h:Q v { s with toks:=s.toks+1 }) :
 wpAny (model prog w) A (getAttr (.ref x) name expr) Q E s:=by
 obtain⟨od,J,hl⟩:=I.look
 exact PySem.W.get_value X J (PySem.W.plainGet_of hg).1 (PySem.W.findObj_own hh ha rfl (by rw[hl,hv])) hv' h
theorem get_meth{pl:Sem Bool}{Q:Value × List Value→Shared→Prop}(X:K.In s.heap)(I:ObjM s.heap x dx C mA)(hg:PySem.W.plainGet K C name=true)
 (hf:PySem.W.findIn K (.ref C) name=some (some (.ref f))) (ht:PySem.W.isFn K (.ref f)=true) (hv:mA name=none) (h:Q (.ref f,[.ref x]) s) :
 wpAny (model prog w) A (getMethod (.ref x) name pl) Q E s:=by
 obtain⟨od,J,hl⟩:=I.look
 exact PySem.W.method_fn X J (PySem.W.plainGet_of hg).1 (PySem.W.plainGet_of hg).2 hf (beq_iff_eq.mp ht) (by show(PySem.W.lookIn name od).map (·.isSome)=some false;rw[hl,hv];rfl) h
theorem set_map{ns:List Str}{Q:Unit→Shared→Prop}(X:K.In s.heap)(I:ObjM s.heap x dx C mA)
 (hs:PySem.W.findIn K (.ref C) "__setattr__" = some (some (.builtin "object.__setattr__"))) (hp:PySem.W.plainOver K C=true) (ht:PySem.W.takerIn K C name=some none) (hh:PySem.W.hasDictIn K C=true)
 (hw:PySem.Within mA ns) (hsz:ns.length≤sizeLine)
 (h:∀h',ObjM h' x dx C (fun y=>if y=name then some v else mA y)→Heap.SameBut dx s.heap h'→Q () { s with heap:=h',toks:=s.toks+2 }) :
 wpAny (model prog w) A (setAttr (.ref x) name v) Q E s:=by
 obtain⟨od,J,hl⟩:=I.look
 refine PySem.W.set_plain X J hs (PySem.W.osa_open (s:={ s with toks:=s.toks+1 }) (r:=none) X J hp ht fun b=>?_)
 obtain⟨cd,hc,hd'⟩:=PySem.W.any_some hh
 have hx:s.heap.get? x=some ⟨.ref C,some dx,.plain,#[]⟩:=I.obj
 refine wpAny_bind (wpAny_pure (wpAny_bind (wpAny_bind (wpAny_loadPart hx (wpAny_bind (PySem.W.Looks.here (s:={ s with toks:=s.toks+1 }) (PySem.W.looks_clsIn X hc) ?_))))))
 rw[hd']
 refine wpAny_pure (a:=some dx) (wpAny_bind (wpAny_pure (wpAny_bind ?_)))
 refine wpAny_nsSet1 (s:={ s with toks:=s.toks+1 }) I.ns fun h' hn2 hs2=>?_
 obtain⟨oD,esD,epD,hoD,hdD,hcD⟩:=hn2.count (PySem.Within.cons name v hw)
 refine wpAny_bind (wpAny_lookBehind hoD (by rw[hdD];exact pastItsLine_dict (Nat.le_trans hcD (by rw[List.length_cons];omega))) ?_)
 exact wpAny_pure (h _ ⟨(hs2.2 _ (Ne.symm I.ne)).trans I.obj,hn2,I.ne⟩ hs2)
theorem make_map{R:Result→Shared→Prop}{vs:List Value}{kw:List (Str × Value)}(X:K.In s.heap)(hm:PySem.W.makesIn K C=true)
 (hi:PySem.W.findIn K (.ref C) "__init__" = some (some (.ref f))) (hf:PySem.W.typeIn K (.ref f)=some (.type "function"))
 (h:codeAny (model prog w) (A.under (.builtin "type.__call__" ⟨.ref C::vs,kw⟩)) (.call (.ref f) ⟨.ref (s.heap.objs.size+1)::vs,kw⟩) (PySem.W.InitBack (s.heap.objs.size+1) R)
   { s with heap:=(s.heap.push PySem.W.emptyDict).push (PySem.W.instObj C s.heap.objs.size) }) :
 codeAny (model prog w) A (.call (.ref C) ⟨vs,kw⟩) R s:=by
 obtain⟨hh,g,d,t,os⟩:=s
 exact PySem.W.make_core (PySem.W.makes_of X hm) (PySem.W.looks_findIn X hi) (fun self=>PySem.W.bind_fn X self hf) (.inl rfl) h
end
def wR(f:Str)(v:V):List (Str × V)→List (Str × V)
 | [] => [(f,v)]
 | (g,x)::r=>if g=f then(g,v)::r else(g,x)::wR f v r
theorem zdz(f g:Str)(v:V):∀fs:List (Str × V),(wR f v fs).lookup g=if g=f then some v else fs.lookup g
 | []=>by
   show List.lookup g [(f,v)]=_
   by_cases h:g=f
   ·have hb:(g==f)=true:=beq_iff_eq.mpr h
    simp only[List.lookup,hb,if_pos h]
   ·have hb:(g==f)=false:=beq_eq_false_iff_ne.mpr h
    simp only[List.lookup,hb,if_neg h]
 | (k,x)::r=>by
   have ih:=zdz f g v r
   rw[show wR f v ((k,x)::r)=(if k=f then(k,v)::r else(k,x)::wR f v r)from rfl]
   by_cases hk:k=f
   ·rw[if_pos hk]
    by_cases h:g=k
    ·have hb:(g==k)=true:=beq_iff_eq.mpr h
     simp only[List.lookup,hb,if_pos (h.trans hk)]
    ·have hb:(g==k)=false:=beq_eq_false_iff_ne.mpr h
     simp only[List.lookup,hb,if_neg (fun e:g=f=>h (e.trans hk.symm))]
   ·rw[if_neg hk]
    by_cases h:g=k
    ·have hb:(g==k)=true:=beq_iff_eq.mpr h
     simp only[List.lookup,hb,if_neg (fun e:g=f=>hk (h.symm.trans e))]
    ·have hb:(g==k)=false:=beq_eq_false_iff_ne.mpr h
     simp only[List.lookup,hb]
     exact ih
theorem zc8(f:Str)(v:V):∀fs:List (Str × V),f∈(wR f v fs).map (·.1)∧∀g,g∈fs.map (·.1)→g∈(wR f v fs).map (·.1)
 | []=>⟨by simp[wR],fun g h=>by simp at h⟩
 | (k,x)::r=>by
   obtain⟨i1,i2⟩:=zc8 f v r
   rw[show wR f v ((k,x)::r)=(if k=f then(k,v)::r else(k,x)::wR f v r)from rfl]
   by_cases hk:k=f
   ·rw[if_pos hk]
    subst hk
    exact⟨by simp,fun g h=>by simpa using h⟩
   ·rw[if_neg hk]
    refine⟨?_,fun g h=>?_⟩
    ·rw[List.map_cons]
     exact List.mem_cons_of_mem _ i1
    ·rw[List.map_cons] at h ⊢
     rcases List.mem_cons.mp h with e | e
     ·exact List.mem_cons.mpr (.inl e)
     ·exact List.mem_cons_of_mem _ (i2 g e)
theorem zdB(f:Str)(v:V):∀fs:List (Str × V),(wR f v fs).length≤fs.length+1
 | []=>by simp[wR]
 | (k,x)::r=>by
   have ih:=zdB f v r
   rw[show wR f v ((k,x)::r)=(if k=f then(k,v)::r else(k,x)::wR f v r)from rfl]
   by_cases hk:k=f
   ·rw[if_pos hk,List.length_cons,List.length_cons];omega
   ·rw[if_neg hk,List.length_cons,List.length_cons];omega
theorem zcs.some_of{v:V}{o:Option Value}(r:zcs (some v) o):∃u,o=some u∧zH v u:=by
 cases o with
 | none=>exact(show False from r).elim
 | some u=>exact⟨u,rfl,r⟩
theorem zcs.none_of{o:Option Value}(r:zcs none o):o=none:=by
 cases o with
 | none=>rfl
 | some u=>exact(show False from r).elim
theorem handed_of{v:V}{u:Value}(r:zH v u):PySem.W.handedIn u=true:=by
 cases v with
 | non=>cases (show u=Value.none from r);rfl
 | bl b=>cases (show u=Value.bool b from r);rfl
 | int i=>obtain⟨t,e⟩:=(show ∃t,u=Value.int i t from r);cases e;rfl
 | str x=>obtain⟨t,e⟩:=(show ∃t,u=Value.str x t from r);cases e;rfl
 | byt b=>obtain⟨t,e⟩:=(show ∃t,u=Value.bytes b t from r);cases e;rfl
 | flt b=>obtain⟨t,e⟩:=(show ∃t,u=Value.float b t from r);cases e;rfl
 | ref a=>cases (show u=Value.ref a from r);rfl
 | ty n=>cases (show u=Value.type n from r);rfl
section
variable {P:Program} {w:World} {H H':Hp} {h h':Heap} {a C dx:Addr} {fs fs':List (Str × V)}
theorem zfF(hok:HOk P w H h)(e:H a=some (.ins C dx fs)):∃mA,ObjM h a dx C mA∧(∀f,zcs (fs.lookup f) (mA f))∧PySem.Within mA (fs.map (·.1))∧fs.length≤1000∧H dx=some (.own a):=by
 obtain⟨d,z,ne,ob,mA,n,r,q⟩:=(show yF P w H h a (.ins C dx fs)from hok a _ e)
 exact⟨mA,⟨ob,n,ne⟩,r,q,z,d⟩
end
structure Cls (K:PySem.W.Frag) (C:Addr):Prop where
 pg:PySem.W.plainGet K C Str.empty=true
 hd:PySem.W.hasDictIn K C=true
 po:PySem.W.plainOver K C=true
 sa:PySem.W.findIn K (.ref C) "__setattr__" = some (some (.builtin "object.__setattr__"))
theorem Cls.get{K:PySem.W.Frag}{C:Addr}(c:Cls K C)(f:Str):PySem.W.plainGet K C f=true:=c.pg
def zas(K:PySem.W.Frag)(C:Addr)(f:Str):Prop:=PySem.W.findIn K (.ref C) f=some none
theorem zas.taker{K:PySem.W.Frag}{C:Addr}{f:Str}(n:zas K C f):PySem.W.takerIn K C f=some none:=by
 unfold PySem.W.takerIn
 rw[show PySem.W.findIn K (.ref C) f=some none from n]
 rfl
structure Meth (K:PySem.W.Frag) (C:Addr) (m:Str) (f:Addr):Prop where
 at_:PySem.W.findIn K (.ref C) m=some (some (.ref f))
 fn:PySem.W.isFn K (.ref f)=true
 kp:PySem.W.keepIn K (.ref f)=true
section
variable {X:Cx} {pins:List (Addr × Obj)} {σ:St} {H:Hp} {s:Shared} {a C dx:Addr} {fs:List (Str × V)} {f:Str} {v:V} {A:Around} {E:Value→Shared→Prop}
theorem zhM{b:Bool}{Q:Value→Shared→Prop}(I:Inv X pins σ H s)(e:H a=some (.ins C dx fs))(c:Cls X.K C)(n:zas X.K C f)(l:fs.lookup f=some v)
 (h:∀u s',Inv X pins σ H s'→zH v u→Q u s'):wpAny (model X.prog X.w) A (getAttr (.ref a) f b) Q E s:=by
 obtain⟨mA,O,r,_,_,_⟩:=zfF I.hok e
 obtain⟨u,hu,ru⟩:=zcs.some_of (v:=v) (o:=mA f) (by rw[← l];exact r f)
 exact get_map I.kIn O (c.get f) c.hd n hu (handed_of ru) (h u _ (I.tok _) ru)
theorem zcE{m:Str}{g:Addr}{pl:Sem Bool}{Q:Value × List Value→Shared→Prop}(I:Inv X pins σ H s)(e:H a=some (.ins C dx fs))(c:Cls X.K C)(k:Meth X.K C m g)(l:fs.lookup m=none)
 (h:Q (.ref g,[.ref a]) s):wpAny (model X.prog X.w) A (getMethod (.ref a) m pl) Q E s:=by
 obtain⟨mA,O,r,_,_,_⟩:=zfF I.hok e
 have hn:mA m=none:=zcs.none_of (by rw[← l];exact r m)
 exact get_meth I.kIn O (c.get m) k.at_ k.fn hn h
theorem zhB{y:V}{u:Value}{Q:Unit→Shared→Prop}(I:Inv X pins σ H s)(e:H a=some (.ins C dx fs))(c:Cls X.K C)(n:zas X.K C f)(hl:fs.length<1000)(ry:zH y u)
 (h:∀s',Inv X pins σ (upd H a (.ins C dx (wR f y fs))) s'→Q () s'):wpAny (model X.prog X.w) A (setAttr (.ref a) f u) Q E s:=by
 obtain⟨mA,O,r,wi,_,ho⟩:=zfF I.hok e
 have hz:(fs.map (·.1)).length≤sizeLine:=by rw[List.length_map,sizeLine_eq];omega
 refine set_map I.kIn O c.sa c.po n.taker c.hd wi hz fun h' O' sb=>h _ ?_
 have hd:∃o,h'.get? dx=some o:=let ⟨o,_,_,e',_⟩:=O'.ns;⟨o,e'⟩
 refine I.write (x:=a) (e:=dx) (by rw[e];exact True.intro) (.inr ho) (fun b q hb z=>(sb.2 b hb).trans z) hd ?_
 refine⟨by rw[zj O.ne];exact ho,?_,O.ne,O'.obj,_,O'.ns,fun g=>?_,fun g hg=>?_⟩
 ·have:=zdB f y fs;omega
 ·show zcs ((wR f y fs).lookup g) (if g=f then some u else mA g)
  rw[zdz]
  by_cases q:g=f
  ·rw[if_pos q,if_pos q];exact ry
  ·rw[if_neg q,if_neg q];exact r g
 ·by_cases q:g=f
  ·rw[q];exact(zc8 f y fs).1
  ·refine(zc8 f y fs).2 g (wi g fun z=>hg ?_)
   show(if g=f then some u else mA g)=none
   rw[if_neg q];exact z
theorem Inv.made(I:Inv X pins σ H s):Inv X pins σ (upd (upd H s.heap.objs.size (.own (s.heap.objs.size+1))) (s.heap.objs.size+1) (.ins C s.heap.objs.size []))
 { s with heap:=(s.heap.push PySem.W.emptyDict).push (PySem.W.instObj C s.heap.objs.size) }:=by
 have e1:(s.heap.push PySem.W.emptyDict).get? s.heap.objs.size=some PySem.W.emptyDict:=Heap.get?_push_size s.heap rfl
 have e2:((s.heap.push PySem.W.emptyDict).push (PySem.W.instObj C s.heap.objs.size)).get? (s.heap.objs.size+1)=some (PySem.W.instObj C s.heap.objs.size):=by
  have:=Heap.get?_push_size (s.heap.push PySem.W.emptyDict) (o:=PySem.W.instObj C s.heap.objs.size) rfl
  rwa [Heap.size_push] at this
 have e3:(s.heap.push PySem.W.emptyDict).Ns s.heap.objs.size (fun _=>none):=⟨PySem.W.emptyDict,#[],_,e1,rfl,(fun e he=>absurd he (by simp)),fun _=>rfl⟩
 have I1:=I.laid (a:=s.heap.objs.size) (o:=.own (s.heap.objs.size+1)) (h':=s.heap.push PySem.W.emptyDict) (t':=s.toks) (fun b u q=>Heap.get?_push_of_some _ q) (Nat.le_refl _) ⟨_,e1⟩
 refine I1.laid (a:=s.heap.objs.size+1) (o:=.ins C s.heap.objs.size []) (t':=s.toks) (fun b u q=>Heap.get?_push_of_some _ q) (Nat.le_of_eq (Heap.size_push _ _)) ?_
 have ne:s.heap.objs.size≠s.heap.objs.size+1:=Nat.ne_of_lt (Nat.lt_succ_self _)
 refine⟨by rw[zj ne,zf],Nat.zero_le _,ne,e2,fun _=>none,(Heap.Ns1.of_empty e3).at fun o q=>Heap.get?_push_of_some _ q,fun _=>True.intro,fun y hy=>absurd rfl hy⟩
theorem attr_of{prog:Program}{w:World}{env:Env}{e:Expr}{f:Str}{pos:Pos}{s:Shared}{Q:Value→Shared→Prop}(hb:attributeBase e f env (eval e env)=eval e env)
 (h:wpAny (model prog w) A (eval e env) (fun o s₁=>wpAny (model prog w) A (getAttr o f true) Q E s₁) E s):wpAny (model prog w) A (eval (.Attribute e f pos) env) Q E s :=
 Attribute_any_ h (by rw[arm_eval_Attribute,hb])
end
def tFld(K:PySem.W.Frag)(ta:TE)(f:Str):TE:=fun σ H Q=>ta σ H fun x H1=>∃a C dx fs v,x=.ref a∧H1 a=some (.ins C dx fs)∧Cls K C∧zas K C f∧fs.lookup f=some v∧Q v H1
def sFld(K:PySem.W.Frag)(ta tv:TE)(f:Str):TS:=fun D σ H=>tv σ H fun y H1=>ta σ H1 fun x H2=>∃a C dx fs,x=.ref a∧H2 a=some (.ins C dx fs)∧Cls K C∧zas K C f∧fs.length<1000 ∧
 D.nx σ (upd H2 a (.ins C dx (wR f y fs)))
section
variable {X:Cx} {o e value:Expr} {f:Str} {pos pos' tpos:Pos} {ta tv:TE}
theorem zaO(he:PE X e ta)(hb:attributeBase e f X.env (eval e X.env)=eval e X.env):PE X (.Attribute e f pos) (tFld X.K ta f):=by
 intro pins s σ H Q I h
 refine attr_of hb (thn (he pins s σ H _ I h) fun u s1 ⟨x,H1,I1,rx,a,C,dx,fs,v,ex,ea,c,n,l,q⟩=>?_)
 subst ex
 obtain rfl:u=Value.ref a:=rx
 exact zhM I1 ea c n l fun u' s2 I2 ru=>⟨v,H1,I2,ru,q⟩
theorem zcF(ha:PE X o ta)(hv:PE X value tv)(hs:swapsWith value (some (.Attribute o f pos')) pos.line X.env=pure false):PS X (.Assign [.Attribute o f pos'] value pos) (sFld X.K ta tv f):=by
 intro pins s σ H D I h
 refine plainObj_wpAny_Assign_Attribute (thn (hv pins s σ H _ I h) fun u s1 ⟨y,H1,I1,ry,q⟩=>thn (ha pins s1 σ H1 _ I1 q) fun ov s2 ⟨x,H2,I2,rx,a,C,dx,fs,ex,ea,c,n,l,q2⟩=>?_) hs
 subst ex
 obtain rfl:ov=Value.ref a:=rx
 exact zhB I2 ea c n l ry fun s3 I3=>⟨σ,_,I3,q2⟩
end
section
variable {X:Cx} {pins:List (Addr × Obj)} {σ:St} {H:Hp} {s:Shared} {A:Around} {E:Value→Shared→Prop} {Q:Value→Shared→Prop} {c:Value} {b:Bool}
end
structure Room (k:Nat) (A:Around):Prop where
 hd:A.handled=none
 dp:A.depth+3*k+5<recursionLimit
 un:A.units+16*k+200<cLine
theorem Room.mono{j k:Nat}{A:Around}(r:Room k A)(h:j≤k):Room j A:=⟨r.hd,by have:=r.dp;omega,by have:=r.un;omega⟩
theorem Room.deeper{k:Nat}{A:Around}(r:Room (k+1) A)(env:Env):Room k (A.deeper env) :=
 ⟨r.hd,by have:=r.dp;show A.depth+1+3*k+5<_;omega,by have:=r.un;show A.units+3+16*k+200<_;omega⟩
theorem Room.in1{k:Nat}{A:Around}(r:Room (k+1) A):Room k A.in1 :=
 ⟨r.hd,by have:=r.dp;show A.depth+3*k+5<_;omega,by have:=r.un;show A.units+1+16*k+200<_;omega⟩
theorem zhP{A:Around}{C:Addr}{us:List Value}{kw:List (Str × Value)}:(A.under (.builtin "type.__call__" ⟨.ref C::us,kw⟩)).depth=A.depth+1:=by
 first | rfl | simp[Around.under,Code.weight,Code.isCreation,Code.isGuard,Code.isCaller,Code.frames,Code.isFrame,guardIds]
theorem zhW{A:Around}{C:Addr}{us:List Value}{kw:List (Str × Value)}:(A.under (.builtin "type.__call__" ⟨.ref C::us,kw⟩)).units=A.units+1:=by
 first | rfl | simp[Around.under,Code.cUnits,Code.frames,Code.isFrame]
theorem Room.make{k:Nat}{A:Around}(r:Room (k+1) A)(C:Addr)(us:List Value)(kw:List (Str × Value)):Room k (A.under (.builtin "type.__call__" ⟨.ref C::us,kw⟩)) :=
 ⟨r.hd,by have:=r.dp;rw[zhP];omega,by have:=r.un;rw[zhW];omega⟩
theorem Room.depth{k:Nat}{A:Around}(r:Room k A):A.depth<recursionLimit:=by have:=r.dp;omega
theorem Room.units{k:Nat}{A:Around}(r:Room k A):A.units+64<cLine:=by have:=r.un;omega
theorem Room.units0{k:Nat}{A:Around}(r:Room k A):A.units<cLine:=by have:=r.un;omega
def tNil:TA:=fun _ H Q=>Q [] H
def tCons(ta:TE)(tr:TA):TA:=fun σ H Q=>ta σ H fun x H1=>tr σ H1 fun xs H2=>Q (x::xs) H2
section
variable {X:Cx} {e:Expr} {es:List Expr} {te:TE} {t:TA} {pos:Pos}
theorem zb:PA X [] tNil:=fun _ _ _ _ H Q I h=>Calls.spliced_nil ⟨[],H,I,.nil,h⟩
theorem za(ha:PE X e te)(hr:PA X es t)(hs:starEach (e::es) X.env=(false,eval e X.env)::starEach es X.env:=by rfl):PA X (e::es) (tCons te t):=by
 intro pos pins s σ H Q I h
 rw[hs]
 show wpAny _ _ (spliced ((false,eval e X.env)::backTo pos (starEach es X.env))) _ _ s
 refine Calls.spliced_cons (thn (ha pins s σ H _ I h) fun u s1 ⟨x,H1,I1,r1,q1⟩=>?_)
 exact thn (hr pos pins s1 σ H1 _ I1 q1) fun us s2 ⟨xs,H2,I2,r2,q2⟩=>⟨x::xs,H2,I2,.cons r1 r2,q2⟩
def tTup(t:TA):TE:=fun σ H Q=>t σ H fun xs H1=>xs.length≤sizeLine∧∀p,H1 p=none→Q (.ref p) (upd H1 p (.tup xs))
def tLst(t:TA):TE:=fun σ H Q=>t σ H fun xs H1=>xs.length≤sizeLine∧∀p,H1 p=none→Q (.ref p) (upd H1 p (.lst xs))
theorem zdt{x1}(h:PA X es t):PE X (.Tuple es x1 pos) (tTup t):=by
 intro pins s σ H Q I hq
 refine wpAny_Tuple_spliced (thn (h pos pins s σ H _ I hq) fun us s1 ⟨xs,H1,I1,r,z,q⟩=>⟨by rw[← r.length];exact z,?_⟩)
 have hf:H1 s1.heap.objs.size=none:=I1.hok.fresh (Nat.le_refl _)
 refine⟨.ref s1.heap.objs.size,upd H1 s1.heap.objs.size (.tup xs),I1.laid (t':=s1.toks) (fun b u e=>Heap.get?_push_of_some _ e) (Nat.le_refl _) ?_,rfl,q _ hf⟩
 exact⟨z,us,r,⟨_,Heap.get?_push_size _ rfl,rfl,_,rfl⟩⟩
theorem wz(h:PA X es t):PE X (.List es pos) (tLst t):=by
 intro pins s σ H Q I hq
 refine wpAny_List_spliced (thn (h pos pins s σ H _ I hq) fun us s1 ⟨xs,H1,I1,r,z,q⟩=>⟨by rw[← r.length];exact z,?_⟩)
 have hf:H1 s1.heap.objs.size=none:=I1.hok.fresh (Nat.le_refl _)
 refine⟨.ref s1.heap.objs.size,upd H1 s1.heap.objs.size (.lst xs),I1.laid (t':=s1.toks) (fun b u e=>Heap.get?_push_of_some _ e) (Nat.le_refl _) ?_,rfl,q _ hf⟩
 exact⟨z,us,0,r,Heap.get?_push_size _ rfl⟩
end
abbrev Sp:=List V→Hp→VK→XK→Prop
abbrev CXT:=List Env→Hp→Shared→XK→Value→Shared→Prop
structure Env0 (P:Program) (w:World) (K:PySem.W.Frag) (mg:Str→Option Value) (base:Heap) (A:Around) (outer:List Env) (s:Shared) (H:Hp):Prop where
 frames:A.frames=some outer
 mod:Mod K mg base
 bs:∀b o,base.get? b=some o→s.heap.get? b=some o∧H b=none
 bsz:base.objs.size≤s.heap.objs.size
 funs:s.heap.FunFrames base outer
 frf:∀b∈frs outer,H b=none
 hok:HOk P w H s.heap
 bare:AllBare s.gens
def CE(outer:List Env)(P:Program)(w:World)(H:Hp)(s:Shared)(Q:VK)(u:Value)(s':Shared):Prop :=
 ∃v H',s'.os=s.os∧AllBare s'.gens∧Un (frs outer) [] H H' s.heap s'.heap∧HOk P w H' s'.heap∧zH v u∧Q v H'
def CR(CX:CXT)(outer:List Env)(P:Program)(w:World)(H:Hp)(s:Shared)(Q:VK)(E:XK)(r:Result)(s':Shared):Prop :=
 match r with
 | .ok (.ret u)=>CE outer P w H s Q u s'
 | .ok _=>False
 | .error e=>CX outer H s E e s'
structure FnOk (P:Program) (w:World) (K:PySem.W.Frag) (mg:Str→Option Value) (base:Heap) (CX:CXT) (k:Nat) (f:Addr) (fd:FuncData) (ps:List Str) (sp:Sp):Prop where
 len:∀vs H Q E,sp vs H Q E→vs.length=ps.length
 run:∀(A:Around) (outer:List Env) (s:Shared) (H:Hp) (args:Args) (us:List Value) (vs:List V) (Q:VK) (E:XK),Room k A→Env0 P w K mg base A outer s H→BindsTo s fd args (ps.zip us)→zA vs us→sp vs H Q E →
  codeAny (model P w) A (.call (.ref f) args) (CR CX outer P w H s Q E) s
theorem Env0.make{P:Program}{w:World}{K:PySem.W.Frag}{mg:Str→Option Value}{base:Heap}{A:Around}{outer:List Env}{s:Shared}{H:Hp}(e:Env0 P w K mg base A outer s H)(C:Addr)(us:List Value)(kw:List (Str × Value)):
 Env0 P w K mg base (A.under (.builtin "type.__call__" ⟨.ref C::us,kw⟩)) outer s H:=⟨by first | exact e.frames | (simpa [Around.under,Code.envs,Code.isFrame,pushEnvs] using e.frames),e.mod,e.bs,e.bsz,e.funs,e.frf,e.hok,e.bare⟩
theorem Env0.in1{P:Program}{w:World}{K:PySem.W.Frag}{mg:Str→Option Value}{base:Heap}{A:Around}{outer:List Env}{s:Shared}{H:Hp}(e:Env0 P w K mg base A outer s H):
 Env0 P w K mg base A.in1 outer s H:=⟨e.frames,e.mod,e.bs,e.bsz,e.funs,e.frf,e.hok,e.bare⟩
section
variable {X:Cx} {pins:List (Addr × Obj)} {σ:St} {H:Hp} {s s':Shared}
theorem Inv.env0(I:Inv X pins σ H s):Env0 X.prog X.w X.K X.mg X.base X.A X.stack s H :=
 ⟨I.ok.frames,I.ok.mod,I.bs,Nat.le_trans I.ok.bsz I.sz,I.stack,I.stkFree,I.hok,I.bare⟩
theorem Inv.after{Q:VK}{u:Value}(I:Inv X pins σ H s)(h:CE X.stack X.prog X.w H s Q u s'):EP X pins σ Q u s':=by
 obtain⟨v,H',os,bare,un,hok,r,q⟩:=h
 obtain⟨hh,g,d,t,os'⟩:=s'
 obtain rfl:os'=s.os:=os
 exact⟨v,H',I.call (h':=hh) (g':=g) (d':=d) (t':=t) (ch := []) un hok bare (fun b z=>absurd z (by simp)),r,q⟩
end
def tCall(sp:Sp)(dvs:List V)(E:XK)(t:TA):TE:=fun σ H Q=>t σ H fun vs H1=>sp (vs++dvs) H1 Q E
def tMeth(C:Addr)(m:Str)(sp:Sp)(dvs:List V)(E:XK)(ta:TE)(t:TA):TE:=fun σ H Q=>ta σ H fun x H1=>∃a dx fs,x=.ref a∧H1 a=some (.ins C dx fs)∧fs.lookup m=none ∧
 t σ H1 fun vs H2=>sp (x::(vs++dvs)) H2 Q E
def wT(K:PySem.W.Frag)(fd:FuncData)(ps:List Str)(ds:List Value):Prop :=
 ∀(s:Shared) (us:List Value),K.In s.heap→(us++ds).length=ps.length→BindsTo s fd ⟨us,[]⟩ (ps.zip (us++ds))
theorem wT.all{K:PySem.W.Frag}{fd:FuncData}{ps:List Str}(h:∀us:List Value,us.length=ps.length→bindArgs fd ⟨us,[]⟩=pure (ps.zip us)):wT K fd ps []:=fun s us _ hl=>by
 rw[List.append_nil] at hl ⊢
 exact .of_eq (h us hl)
def zgc(CX:CXT)(X:Cx)(E:XK):Prop:=∀(pins:List (Addr × Obj)) (σ:St) (H:Hp) (s:Shared) (e:Value) (s':Shared),Inv X pins σ H s→CX X.stack H s E e s'→X.xe e s'
section
variable {X:Cx} {CX:CXT} {k:Nat} {f C:Addr} {fd:FuncData} {ps:List Str} {sp:Sp} {dvs:List V} {ds:List Value} {E:XK} {x m:Str} {p pos apos:Pos} {e o:Expr} {es:List Expr} {ta:TE} {t:TA}
theorem run_fn{pins:List (Addr × Obj)}{σ:St}{H:Hp}{s:Shared}{Q:VK}{us:List Value}{vs:List V}(F:FnOk X.prog X.w X.K X.mg X.base CX k f fd ps sp)(hr:Room k X.A)(hb:wT X.K fd ps ds)(hd:zA dvs ds)(hx:zgc CX X E)
 (I:Inv X pins σ H s) (r:zA vs us) (h:sp (vs++dvs) H Q E):wpAny (model X.prog X.w) X.A (call (.ref f) us) (EP X pins σ Q) X.xe s:=by
 have r2:zA (vs++dvs) (us++ds):=r.append hd
 have hl:(us++ds).length=ps.length:=by rw[← r2.length];exact F.len _ _ _ _ h
 refine wpAny_call (codeAny_mono (F.run X.A X.stack s H ⟨us,[]⟩ (us++ds) (vs++dvs) Q E hr I.env0 (hb s us I.kIn hl) r2 h) fun r s' hq=>?_)
 cases r with
 | error e=>exact hx pins σ H s e s' I hq
 | ok fl =>
   cases fl with
   | ret u=>exact I.after hq
   | next=>exact False.elim hq
   | brk=>exact False.elim hq
   | cont=>exact False.elim hq
theorem pe_call(F:FnOk X.prog X.w X.K X.mg X.base CX k f fd ps sp)(hr:Room k X.A)(hg:Gl X x)(hm:X.mg x=some (.ref f))(hk:PySem.W.keepIn X.K (.ref f)=true)(hb:wT X.K fd ps ds)(hd:zA dvs ds)(hx:zgc CX X E)
 (ha:PA X (e::es) t) (hdb:(x==("__debug__" : Str))=false:=by decide) (he:starEach (e::es) X.env=(false,eval e X.env)::starEach es X.env:=by rfl) (hpl:(backTo pos (starEach es X.env)).any (·.1)=false:=by rfl) :
 PE X (.Call (.Name x p) (e::es) [] pos) (tCall sp dvs E t):=by
 intro pins s σ H Q I h
 refine wpAny_Call_Name_kw (zcK I hg hm ?_ hdb)
 refine PySem.W.callWith_K (h₀:=X.base) I.ok.mod.kin hk (thn (ha pos pins s σ H _ I h) fun us s1 ⟨vs,H1,I1,r,q⟩=>⟨I1.kIn,?_⟩) he hpl
 exact run_fn F hr hb hd hx I1 r q
theorem pe_meth0{pl:Sem Bool}(he:PE X o ta)(c:Cls X.K C)(hm:Meth X.K C m f)(F:FnOk X.prog X.w X.K X.mg X.base CX k f fd ps sp)(hr:Room k X.A)(hb:wT X.K fd ps ds)(hd:zA dvs ds)(hx:zgc CX X E)
 (ht:eval (.Call (.Attribute o m apos) [] [] pos) X.env=(do
   let ov ← eval o X.env
   standAt apos.atName
   let (f,first) ← holding [ov] (getMethod ov m pl)
   callWith pos f first (backTo pos (starEach [] X.env)) (backToKw pos (keywordEach [] X.env))):=by rfl) :
 PE X (.Call (.Attribute o m apos) [] [] pos) (tMeth C m sp dvs E ta tNil):=by
 intro pins s σ H Q I h
 refine PySem.W.methodCall_KW (pl:=pl) (thn (he pins s σ H _ I h) fun u s1 ⟨x,H1,I1,rx,a,dx,fs,ex,ea,l,q⟩=>?_) ht
 subst ex
 obtain rfl:u=Value.ref a:=rx
 refine zcE I1 ea c hm l ?_
 exact PySem.W.callWith_K0 (first := [.ref a]) I1.kIn hm.kp (run_fn (us := [.ref a]) (vs := [.ref a]) F hr hb hd hx I1 (.cons rfl .nil) q)
structure Mk (K:PySem.W.Frag) (C f:Addr):Prop where
 makes:PySem.W.makesIn K C=true
 init:PySem.W.findIn K (.ref C) "__init__" = some (some (.ref f))
 fn:PySem.W.isFn K (.ref f)=true
 kp:PySem.W.keepIn K (.ref C)=true
end
section
variable {X:Cx} {CX:CXT} {k:Nat} {f C:Addr} {fd:FuncData} {ps ks:List Str} {sp:Sp} {E:XK} {x m:Str} {p pos apos kpos:Pos} {e o:Expr} {es:List Expr} {kws:List Keyword} {te ta:TE} {t tk:TA} {nm:Option Str}
variable {g:List Value→List Value→List Value} {gV:List V→List V→List V}
end
structure FnScope (N P:List Str) (sc:Scope):Prop where
 kind:sc.kind=.function
 co:sc.isCoroutine=false
 gen:sc.isGenerator=false
 nd:N.Nodup
 pre:N.take P.length=P
 par:∀x∈P,sc.names.lookup x=some .local∨sc.names.lookup x=some .cell
 nofree:∀y∈sc.names,y.2 ≠ .free
theorem zfq{kindOf:Str→Option NameKind}{x:Str}:∀{binds:List (Str × Value)} {m:Str→Option Value},(∀v,(x,v)∉binds)→bindL kindOf binds m x=m x
 | [],_,_=>rfl
 | (n,v)::r,m,h=>by
   unfold bindL
   rw[zfq fun w hw=>h w (List.mem_cons_of_mem _ hw)]
   split
   ·have:x≠n:=by rintro rfl;exact h v List.mem_cons_self
    simp[this]
   ·rfl
theorem zfA{kindOf:Str→Option NameKind}{x:Str}:∀{binds:List (Str × Value)} {m:Str→Option Value},(∀v,(x,v)∉binds)→bindC kindOf binds m x=m x
 | [],_,_=>rfl
 | (n,v)::r,m,h=>by
   unfold bindC
   rw[zfA fun w hw=>h w (List.mem_cons_of_mem _ hw)]
   split
   ·rfl
   ·have:x≠n:=by rintro rfl;exact h v List.mem_cons_self
    simp[this]
theorem zfk{kindOf:Str→Option NameKind}{x:Str}{v:Value}:∀{P:List Str} {vs:List Value} {i:Nat} {m:Str→Option Value},P.Nodup→P[i]? = some x→vs[i]? = some v→kindOf x=some .local →
 bindL kindOf (P.zip vs) m x=some v
 | [],_,_,_,_,h,_,_=>by simp at h
 | _::_,[],_,_,_,_,h,_=>by simp at h
 | p::P,w::vs,0,m,nd,h1,h2,hk=>by
   simp at h1 h2;subst h1;subst h2
   show bindL kindOf ((p,w)::P.zip vs) m p=_
   unfold bindL
   rw[zfq fun v hv=>(List.nodup_cons.mp nd).1 (List.of_mem_zip hv).1,if_pos hk]
   simp
 | p::P,w::vs,i+1,m,nd,h1,h2,hk=>by
   show bindL kindOf ((p,w)::P.zip vs) m x=_
   unfold bindL
   exact zfk (i:=i) (List.nodup_cons.mp nd).2 (by simpa using h1) (by simpa using h2) hk
theorem zfs{kindOf:Str→Option NameKind}{x:Str}{v:Value}:∀{P:List Str} {vs:List Value} {i:Nat} {m:Str→Option Value},P.Nodup→P[i]? = some x→vs[i]? = some v→kindOf x≠some .local →
 bindC kindOf (P.zip vs) m x=some v
 | [],_,_,_,_,h,_,_=>by simp at h
 | _::_,[],_,_,_,_,h,_=>by simp at h
 | p::P,w::vs,0,m,nd,h1,h2,hk=>by
   simp at h1 h2;subst h1;subst h2
   show bindC kindOf ((p,w)::P.zip vs) m p=_
   unfold bindC
   rw[zfA fun v hv=>(List.nodup_cons.mp nd).1 (List.of_mem_zip hv).1,if_neg hk]
   simp
 | p::P,w::vs,i+1,m,nd,h1,h2,hk=>by
   show bindC kindOf ((p,w)::P.zip vs) m x=_
   unfold bindC
   exact zfs (i:=i) (List.nodup_cons.mp nd).2 (by simpa using h1) (by simpa using h2) hk
def zav(N:List Str)(vs:List V):St:=vs.map some++List.replicate (N.length - vs.length) none
def zaL(CX:CXT)(P:Program)(w:World)(K:PySem.W.Frag)(mg:Str→Option Value)(base:Heap)(N:List Str)(qual:Str)(scope:Scope)(f:Addr)(cd:Value)(A:Around)(outer:List Env)(s:Shared)(H:Hp)(E:XK):Cx where
 prog:=P
 w:=w
 K:=K
 mg:=mg
 base:=base
 A:=A.deeper (envOfC qual scope s.heap.objs.size f cd)
 N:=N
 s₀:=s
 H₀:=H
 env:=envOfC qual scope s.heap.objs.size f cd
 outer:=outer
 stack:=envOfC qual scope s.heap.objs.size f cd::outer
 ex := []
 calm:=true
 fn:=fun _=>true
 pn := []
 xe:=fun e s'=>wpAny (model P w) (A.deeper (envOfC qual scope s.heap.objs.size f cd)) (leaving (envOfC qual scope s.heap.objs.size f cd) e) (fun _ s''=>CX outer H s E e s'') (fun e' s''=>CX outer H s E e' s'') s'
theorem zgG{sc:Scope}{n:Nat}{x:Str}(h:sc.names.lookup x=some .cell):∃c,(cellsFrom n sc.names []).lookup x=some c:=by
 have q:=PySem.W.cellsFrom_some sc.names n [] (.inl h)
 exact Option.isSome_iff_exists.mp q
theorem zfn{CX:CXT}{P:Program}{w:World}{K:PySem.W.Frag}{mg:Str→Option Value}{base:Heap}{N ps:List Str}{qual:Str}{scope:Scope}{f:Addr}{cd:Value}{A:Around}{outer:List Env}{s s1:Shared}{H:Hp}{E:XK}{us:List Value}{vs:List V}
 (S:FnScope N ps scope) (hd:A.handled=none) (e0:Env0 P w K mg base A outer s H) (hl:vs.length=ps.length) (r:zA vs us)
 (x:InCallC s s.heap.objs.size (bindL (envOfC qual scope s.heap.objs.size f cd).kindOf (ps.zip us) fun _=>none) (cellsFrom (s.heap.objs.size+1) scope.names []) (bindC (envOfC qual scope s.heap.objs.size f cd).kindOf (ps.zip us) fun _=>none) s1) :
 Inv (zaL CX P w K mg base N qual scope f cd A outer s H E) [] (zav N vs) H s1:=by
 have hpl:ps.length≤N.length:=by have:=congrArg List.length S.pre;rw[List.length_take] at this;omega
 obtain⟨h1,tk,rfl,hk⟩:=x.done
 have noA:∀b:Addr,b∉(zaL CX P w K mg base N qual scope f cd A outer s H E).ex:=fun b z=>absurd (show b∈([]:List Addr)from z) (by simp)
 refine⟨⟨e0.mod,S.kind,rfl,rfl,Nat.le_refl _,fun y z c h1 h2=>?_,fun y hy=>?_,fun y c _ h=>?_,fun _=>hd,Around.frames_deeper e0.frames,.inr ⟨rfl,rfl⟩,fun b z=>absurd z (noA b),e0.bs,e0.bsz,fun b _ _=>noA b,fun b z=>absurd z (noA b),e0.funs,e0.frf⟩,
  rfl,e0.bare,Un.kept hk,⟨_,x.toInCall.ns,fun i y v h1 h2 h3=>?_⟩,fun y c h=>⟨_,x.cell y c h⟩,e0.hok.fresh (Nat.le_refl _),fun y c h=>?_,fun p hp=>absurd (show p∈([]:List (Addr × Obj))from hp) (by simp),e0.hok.kept hk,?_⟩
 ·exact name_of_addr x.apart (PySem.mem_of_lookup h1) (PySem.mem_of_lookup h2)
 ·have hy:scope.names.lookup y=some .cell∨scope.names.lookup y=some .free:=hy
  rcases hy with hy | hy
  ·exact zgG hy
  ·exact absurd rfl (S.nofree _ (PySem.mem_of_lookup hy))
 ·exact Nat.le_of_lt (x.above y c (PySem.mem_of_lookup h))
 ·have hi:i<vs.length:=by
   unfold zav at h2
   by_cases hi:i<vs.length
   ·exact hi
   ·rw[List.getElem?_append_right (by simpa using hi)] at h2
    rw[List.getElem?_replicate] at h2
    split at h2 <;> cases h2
  have ha:vs[i]? = some v:=by
   unfold zav at h2
   rw[List.getElem?_append_left (by simpa using hi),List.getElem?_map] at h2
   cases e:vs[i]? with
   | none=>rw[e] at h2;cases h2
   | some a=>rw[e] at h2;cases h2;rfl
  obtain⟨u,hu,rv⟩:=r.get ha
  have hp:ps[i]? = some y:=by
   rw[← S.pre,List.getElem?_take_of_lt (by omega)];exact h1
  have ndP:ps.Nodup:=by rw[← S.pre];exact S.nd.sublist (List.take_sublist _ _)
  refine⟨u,rv,?_⟩
  rcases S.par y (List.mem_of_getElem? hp)with k | k
  ·exact .inl ⟨k,zfk ndP hp hu k⟩
  ·obtain⟨c,e⟩:=zgG (n:=s.heap.objs.size+1) k
   refine .inr ⟨.inl k,c,e,?_⟩
   have q:=x.cell y c e
   rw[zfs ndP hp hu (by show scope.names.lookup y≠_;rw[k];decide)] at q
   exact q
 ·exact e0.hok.fresh (Nat.le_of_lt (x.above y c (PySem.mem_of_lookup h)))
 ·unfold zav
  show _=N.length
  rw[List.length_append,List.length_map,List.length_replicate]
  omega
theorem fn_of{CX:CXT}{P:Program}{w:World}{K:PySem.W.Frag}{mg:Str→Option Value}{base:Heap}{k:Nat}{f:Addr}{name qual:Str}{params:Arguments}{body:List Stmt}{scope:Scope}{dV kV doc pm cdv ct oc:Value}{an od:Option Addr}
 {osl:Array (Option Value)} {N ps:List Str} {sp:Sp} (lk:K.lookup f=some ⟨oc,od,.func (PySem.W.fnOf name qual params body scope dV kV doc pm an cdv ct),osl⟩) (hcd:PySem.W.codeIn K cdv qual=true) (S:FnScope N ps scope)
 (len:∀vs H Q E,sp vs H Q E→vs.length=ps.length)
 (hbody:∀(A:Around) (outer:List Env) (s:Shared) (H:Hp) (vs:List V) (Q:VK) (E:XK),Room k (A.deeper (envOfC qual scope s.heap.objs.size f cdv))→sp vs H Q E →
   ∃t,PSs (zaL CX P w K mg base N qual scope f cdv A outer s H E) body t∧t { nx:=fun _ H'=>Q .non H',rt:=Q } (zav N vs) H) :
 FnOk P w K mg base CX (k+1) f (PySem.W.fnOf name qual params body scope dV kV doc pm an cdv ct) ps sp:=by
 refine⟨len,fun A outer s H args us vs Q E hr e0 hb r hsp=>?_⟩
 have hl:=len _ _ _ _ hsp
 have KX:K.In s.heap:=e0.mod.kin.keeps fun b o e=>(e0.bs b o e).1
 have lim:s.heap.NoLimit:=e0.mod.nolimit.keeps fun b o e=>(e0.bs b o e).1
 have hkind:∀y∈ps.zip us,scope.names.lookup y.1=some .local∨(scope.names.lookup y.1=some .cell∧((cellsFrom (s.heap.objs.size+1) scope.names []).lookup y.1).isSome=true):=fun⟨n,v⟩ hy=>by
  rcases S.par n (List.of_mem_zip hy).1 with q | q
  ·exact .inl q
  ·exact .inr ⟨q,PySem.W.cellsFrom_some _ _ _ (.inl q)⟩
 refine codeAny_call_function hr.depth (KX _ _ lk) rfl S.co S.gen rfl (PySem.W.codeRec_of KX hcd) (hb _ _ _ _ ?_)
 refine wpAny_newFunctionEnv_cells S.kind hkind fun env he s1 x=>?_
 subst he
 refine⟨lim.keeps x.toInCall.keep,codeAny_func ?_⟩
 obtain⟨t,ht,hq⟩:=hbody A outer s H vs Q E (hr.deeper _) hsp
 have I:Inv (zaL CX P w K mg base N qual scope f cdv A outer s H E) [] (zav N vs) H s1:=zfn S hr.hd e0 hl r x
 refine wpAny_mono (ht [] s1 (zav N vs) H _ I hq) (fun fl s' hs=>?_) fun e s' hs=>hs
 have fin:∀{σ':St} {H':Hp} {v:V} {u:Value},Inv (zaL CX P w K mg base N qual scope f cdv A outer s H E) [] σ' H' s'→zH v u→Q v H'→CE outer P w H s Q u s' :=
  fun {σ' H' v u} J rv q=>⟨v,H',J.os,J.bare,J.base,J.hok,rv,q⟩
 cases fl with
 | ret u =>
   obtain⟨v,σ',H',J,rv,q⟩:=hs
   exact fin J rv q
 | next =>
   obtain⟨σ',H',J,q⟩:=hs
   exact fin (v:=V.non) (u:=Value.none) J rfl q
 | brk =>
   obtain⟨_,_,_,q⟩:=hs
   exact False.elim q
 | cont =>
   obtain⟨_,_,_,q⟩:=hs
   exact False.elim q
section
variable {X:Cx} {x:Str} {p pos:Pos} {e:Expr} {es:List Expr} {t:TA} {id T:String} {r:List V→Hp→VK→Prop}
def tCB(r:List V→Hp→VK→Prop)(t:TA):TE:=fun σ H Q=>t σ H fun vs H1=>r vs H1 Q
theorem zl(hc:zal X (.builtin id) r)(hg:Gl X x)(hm:X.mg x=none)(hv:bootBuiltins x=some (.builtin id))(ha:PA X (e::es) t)(hn:x ≠ "__name__" := by decide)(hdb:(x==("__debug__" : Str))=false:=by decide)
 (he:starEach (e::es) X.env=(false,eval e X.env)::starEach es X.env:=by rfl) (hpl:(backTo pos (starEach es X.env)).any (·.1)=false:=by rfl):PE X (.Call (.Name x p) (e::es) [] pos) (tCB r t):=by
 intro pins s σ H Q I h
 refine wpAny_Call_Name_kw (zat I hg hm hv ?_ hn hdb)
 exact PyProof.Rows.callWith_builtin1 (thn (ha pos pins s σ H _ I h) fun us s1 ⟨vs,H1,I1,r1,q1⟩=>hc pins s1 σ H1 vs us Q I1 r1 q1) he hpl
theorem yk(hc:zal X (.type T) r)(hg:Gl X x)(hm:X.mg x=none)(hv:bootBuiltins x=some (.type T))(ha:PA X (e::es) t)(hn:x ≠ "__name__" := by decide)(hdb:(x==("__debug__" : Str))=false:=by decide)
 (he:starEach (e::es) X.env=(false,eval e X.env)::starEach es X.env:=by rfl) (hpl:(backTo pos (starEach es X.env)).any (·.1)=false:=by rfl):PE X (.Call (.Name x p) (e::es) [] pos) (tCB r t):=by
 intro pins s σ H Q I h
 refine wpAny_Call_Name_kw (zat I hg hm hv ?_ hn hdb)
 exact PyProof.Rows.callWith_type1 (thn (ha pos pins s σ H _ I h) fun us s1 ⟨vs,H1,I1,r1,q1⟩=>hc pins s1 σ H1 vs us Q I1 r1 q1) he hpl
end
end L2
namespace HT
open PySem PyProof.Rows
def lexLt:List Int→List Int→Bool
 | [],[]=>false
 | [],_::_=>true
 | _::_,[]=>false
 | x::xs,y::ys=>if x=y then lexLt xs ys else decide (x<y)
section
open PySem.SeqAt
open PySem.AutoSeq1 (wpAny_loadPart')
open PySem.MeetsSeq PySem.MeetsSeq2 PySem.MeetsSeq3
end
section
variable {prog:Program} {w:World} {A:Around} {E:Value→Shared→Prop} {s:Shared}
def sIx(n d:Nat):Option Int→Nat
 | none=>d
 | some v=>if v<0 then(v+(n:Int)).toNat else min v.toNat n
theorem sIx_none(n d:Nat):sIx n d none=d:=rfl
theorem sIx_nat(n d k:Nat):sIx n d (some (k:Int))=min k n:=by
 show(if(k:Int)<0 then((k:Int)+(n:Int)).toNat else min (k:Int).toNat n)=min k n
 rw[if_neg (by omega),Int.toNat_natCast]
theorem sIx_le(n d:Nat)(hd:d≤n)(o:Option Int):sIx n d o≤n:=by
 cases o with
 | none=>exact hd
 | some v =>
   show(if v<0 then(v+(n:Int)).toNat else min v.toNat n)≤n
   by_cases hv:v<0
   ·rw[if_pos hv];omega
   ·rw[if_neg hv];exact Nat.min_le_right _ _
theorem zh5(v:Int)(n d:Nat):(if v<0 then max (v+(n:Int)) 0 else min v (n:Int))=((sIx n d (some v):Nat):Int):=by
 show(if v<0 then max (v+(n:Int)) 0 else min v (n:Int))=(((if v<0 then(v+(n:Int)).toNat else min v.toNat n):Nat):Int)
 by_cases hv:v<0
 ·simp only[if_pos hv];omega
 ·simp only[if_neg hv];omega
theorem zhF(lo hi:Option Int)(n:Nat):Builtin.Slice.sliceAdjust lo hi 1 (n:Int)=(((sIx n 0 lo:Nat):Int),((sIx n n hi:Nat):Int)):=by
 have h1:¬((1:Int)<0):=by omega
 unfold Builtin.Slice.sliceAdjust
 simp only[h1,if_false]
 refine Prod.ext ?_ ?_
 ·cases lo with
  | none=>rfl
  | some v=>exact zh5 v n 0
 ·cases hi with
  | none=>rfl
  | some v=>exact zh5 v n n
theorem zht(i j:Nat):Builtin.Slice.slicePlaces (i:Int) (j:Int) 1=j - i:=by
 unfold Builtin.Slice.slicePlaces
 have h1:(1:Int) > 0:=by omega
 simp only[h1,if_true,Int.ediv_one]
 split <;> omega
theorem zeN{v:Value}{o:Option Int}{Q:Option Int→Shared→Prop}(p:IsPart v o)(h:Q o s):wpAny (model prog w) A (Builtin.Slice.slicePartIndex v) Q E s:=by
 cases p with
 | none=>exact slicePart_none h
 | int i t=>exact slicePart_int h
theorem zde{sl:Addr}{vl vu:Value}{lo hi:Option Int}{n:Nat}{Q:Int × Int × Nat→Shared→Prop}(hs:s.heap.IsSliceOf sl vl vu .none)(pl:IsPart vl lo)(pu:IsPart vu hi)
 (h:Q (((sIx n 0 lo:Nat):Int),1,sIx n n hi - sIx n 0 lo) s):wpAny (model prog w) A (Builtin.Slice.sliceApplied (.ref sl) (pure (n:Int))) Q E s:=by
 obtain⟨os,hos,hcs,hds⟩:=id hs
 unfold Builtin.Slice.sliceApplied Builtin.Slice.sliceFields
 refine wpAny_bind (wpAny_bind (wpAny_field hos hds (x:=vl) rfl (wpAny_bind (wpAny_field hos hds (x:=vu) rfl (wpAny_bind (wpAny_field hos hds (x:=.none) rfl (wpAny_pure ?_)))))))
 refine wpAny_bind (slicePart_none ?_)
 show wpAny _ _ (if((1:Int)==0)=true then _ else _) _ _ s
 rw[if_neg (by decide)]
 refine wpAny_bind (zeN pl (wpAny_bind (zeN pu (wpAny_bind (wpAny_pure ?_)))))
 show wpAny _ _ (match Builtin.Slice.sliceAdjust lo hi 1 (n:Int)with | (lo,hi)=>pure (lo,(1:Int),Builtin.Slice.slicePlaces lo hi 1)) _ _ s
 rw[zhF lo hi n]
 show wpAny _ _ (pure (((sIx n 0 lo:Nat):Int),(1:Int),Builtin.Slice.slicePlaces ((sIx n 0 lo:Nat):Int) ((sIx n n hi:Nat):Int) 1)) _ _ s
 rw[zht]
 exact wpAny_pure h
theorem pick_gen(xs:Array Value)(i k:Nat):((List.range k).filterMap fun(m:Nat)=>xs[((i:Int)+(m:Int)*1).toNat]?).toArray=((xs.toList.drop i).take k).toArray:=by
 have e:(fun(m:Nat)=>xs[((i:Int)+(m:Int)*1).toNat]?)=fun m=>xs[i+m]? := by
  funext m
  have:((i:Int)+(m:Int)*1).toNat=i+m:=by omega
  rw[this]
 rw[e]
 have:=pick_run xs i k
 rw[List.filterMap_map] at this
 have e2:((fun x=>xs[x]?) ∘ fun x=>i+x)=fun m=>xs[i+m]? := rfl
 rw[e2] at this
 rw[this]
theorem getItem_tuple_cut{t sl:Addr}{items:Array Value}{vl vu:Value}{lo hi:Option Int}{Q:Value→Shared→Prop}(ht:IsTup s.heap t items)(hs:s.heap.IsSliceOf sl vl vu .none)(pl:IsPart vl lo)(pu:IsPart vu hi)
 (hw:¬(sIx items.size 0 lo=0∧sIx items.size items.size hi=items.size))
 (h:Q (.ref s.heap.objs.size) { s with heap:=s.heap.push { cls:=.type "tuple",data:=.seq ((items.toList.drop (sIx items.size 0 lo)).take (sIx items.size items.size hi - sIx items.size 0 lo)).toArray } })
 (hsz:items.size≤sizeLine):wpAny (model prog w) A (getItem (.ref t) (.ref sl)) Q E s:=by
 have htake:sizeOk (.seq ((items.toList.drop (sIx items.size 0 lo)).take (sIx items.size items.size hi - sIx items.size 0 lo)).toArray):=by
  show((items.toList.drop (sIx items.size 0 lo)).take (sIx items.size items.size hi - sIx items.size 0 lo)).toArray.size≤sizeLine
  rw[List.size_toArray,List.length_take,List.length_drop,Array.length_toList]
  omega
 have hj:sIx items.size items.size hi≤items.size:=sIx_le _ _ (Nat.le_refl _) hi
 obtain⟨os,hos,hcs,hds⟩:=id hs
 have hTs:s.TypeIs (.ref sl) "slice" := ⟨os,hos,hcs⟩
 unfold getItem
 try with_reducible refine wpAny_holding ?_
 first | refine wpAny_bind (wpAny_pure ?_) | skip
 refine wpAny_bind (wpAny_sequenceKey ht.typeIs (by decide) ?_)
 refine wpAny_bind (wpAny_callSpecial?_slot (name:=Str.ofString "__getitem__") ht.typeIs PyProof.Rows.slot_tuple_getitem
  (wpAny_call_entry PyProof.Rows.slot_tuple_getitem ht.typeIs entry_tuple_getitem ?_ (args_tuple_getitem _ _)))
 show wpAny _ _ (Builtin.Tuple.tupleItemsOf (.ref t) >>= _) _ _ s
 refine wpAny_bind (tupleItemsOf_ ht ?_)
 refine wpAny_bind (wpAny_typeOf hTs ?_)
 rw[if_pos (by decide)]
 refine wpAny_bind (zde hs pl pu ?_)
 have hno:¬((((sIx items.size 0 lo:Nat):Int)==0 && (1:Int)==1 && (sIx items.size items.size hi - sIx items.size 0 lo)==items.size)=true):=by
  intro q
  rw[Bool.and_eq_true,Bool.and_eq_true] at q
  have q1:((sIx items.size 0 lo:Nat):Int)=0:=eq_of_beq q.1.1
  have q2:sIx items.size items.size hi - sIx items.size 0 lo=items.size:=eq_of_beq q.2
  exact hw ⟨by omega,by omega⟩
 show wpAny _ _ (if(((sIx items.size 0 lo:Nat):Int)==0 && (1:Int)==1 && (sIx items.size items.size hi - sIx items.size 0 lo)==items.size)=true then _ else _) _ _ s
 rw[if_neg hno,pick_gen]
 first
  | exact wpAny_bind (m:=Builtin.Tuple.tupleExact _) (wpAny_newObj_type (wpAny_pure ⟨_,rfl,wpAny_pure h⟩) htake)
  | exact wpAny_bind (m:=Builtin.Tuple.tupleExact _) (wpAny_newObj_type (wpAny_bind (wpAny_pure (wpAny_pure ⟨_,rfl,wpAny_pure h⟩))) htake)
  | exact wpAny_bind (wpAny_bind (m:=Builtin.Tuple.tupleExact _) (wpAny_newObj_type (wpAny_pure (wpAny_pure ⟨_,rfl,wpAny_pure h⟩)) htake))
  | exact wpAny_bind (wpAny_bind (m:=Builtin.Tuple.tupleExact _) (wpAny_newObj_type (wpAny_pure ⟨_,rfl,wpAny_pure h⟩) htake))
end
end HT
namespace L2
open PySem PySem.Spec PyProof.Rows
abbrev TO:=St→Hp→(Option Int→Hp→Prop)→Prop
def PO(X:Cx)(e:Option Expr)(t:TO):Prop :=
 ∀(pins:List (Addr × Obj)) (s:Shared) (σ:St) (H:Hp) (Q:Option Int→Hp→Prop),Inv X pins σ H s→t σ H Q →
  wpAny (model X.prog X.w) X.A (evalPart e X.env) (fun u s'=>∃o H',Inv X pins σ H' s'∧IsPart u o∧Q o H') X.xe s
def tNoPart:TO:=fun _ H Q=>Q none H
def tPart(t:TE):TO:=fun σ H Q=>t σ H fun x H1=>∃i,x=.int i∧Q (some i) H1
theorem zbF{ns:List Int}:∀{us:List Value},zA (ns.map V.int) us→IntsAre us ns:=by
 induction ns with
 | nil=>intro us r;rw[List.map_nil] at r;cases r;exact .nil
 | cons n ns ih =>
   intro us r
   rw[List.map_cons] at r
   cases r with
   | cons r1 r2 =>
     obtain⟨t,e⟩:=r1
     subst e
     exact .cons n t (ih r2)
section
variable {X:Cx} {e:Expr} {te:TE} {lo hi:Option Expr} {tl th:TO} {pos p2:Pos}
theorem za2:PO X none tNoPart:=by
 intro pins s σ H Q I h
 rw[evalPart_none]
 exact wpAny_pure ⟨none,H,I,.none,h⟩
theorem zag(h:PE X e te):PO X (some e) (tPart te):=by
 intro pins s σ H Q I hw
 rw[evalPart_some]
 refine thn (h pins s σ H _ I hw) fun u s1 ⟨x,H1,I1,r1,q1⟩=>?_
 obtain⟨i,rfl,q⟩:=q1
 obtain⟨t,rfl⟩:=r1
 exact⟨some i,H1,I1,.int i t,q⟩
def SlR(X:Cx)(r:V→Option Int→Option Int→Hp→VK→Prop):Prop :=
 ∀(pins:List (Addr × Obj)) (s:Shared) (σ:St) (H:Hp) (x:V) (v vl vu:Value) (lo hi:Option Int) (sl:Addr) (Q:VK),Inv X pins σ H s→zH x v→s.heap.IsSliceOf sl vl vu .none→IsPart vl lo→IsPart vu hi→r x lo hi H Q →
  ∃T id,typeLookup (.type T) "__getitem__" = pure (some (.builtin id))∧s.TypeIs v T∧wpAny (model X.prog X.w) X.A (getItem v (.ref sl)) (EP X pins σ Q) X.xe s
def tSl(r:V→Option Int→Option Int→Hp→VK→Prop)(te:TE)(tl th:TO):TE:=fun σ H Q=>te σ H fun x H1=>tl σ H1 fun l H2=>th σ H2 fun u H3=>r x l u H3 Q
theorem wL{r:V→Option Int→Option Int→Hp→VK→Prop}(hr:SlR X r)(he:PE X e te)(hl:PO X lo tl)(hu:PO X hi th):PE X (.Subscript e (.Slice lo hi none p2) pos) (tSl r te tl th):=by
 intro pins s σ H Q I h
 refine Subscript_ (thn (he pins s σ H _ I h) fun v s1 ⟨x,H1,I1,r1,q1⟩=>?_)
 refine wpAny_Slice (thn (hl pins s1 σ H1 _ I1 q1) fun vl s2 ⟨l,H2,I2,pl,q2⟩=>thn (hu pins s2 σ H2 _ I2 q2) fun vu s3 ⟨u,H3,I3,pu,q3⟩=>?_)
 rw[evalPart_none]
 refine wpAny_pure ?_
 have I4:Inv X pins σ H3 { s3 with heap:=s3.heap.push { cls:=.type "slice",data:=.fields #[vl,vu,.none] } }:=I3.kept (t':=s3.toks) fun b ob q=>Heap.get?_push_of_some _ q
 obtain⟨T,id,hT,ht,hg⟩:=hr pins { s3 with heap:=s3.heap.push { cls:=.type "slice",data:=.fields #[vl,vu,.none] } } σ H3 x v vl vu l u s3.heap.objs.size Q I4 r1 (Heap.IsSliceOf.new ..) pl pu q3
 show wpAny (model X.prog X.w) X.A (subscriptTail e (.Slice lo hi none p2) v (.ref s3.heap.objs.size)) (EP X pins σ Q) X.xe { s3 with heap:=s3.heap.push { cls:=.type "slice",data:=.fields #[vl,vu,.none] } }
 exact tail_any (ops := [.ref s3.heap.objs.size,v]) ht hT hg (by with_unfolding_all rfl)
def zdS(xs:List V)(lo hi:Option Int):List V:=(xs.drop (HT.sIx xs.length 0 lo)).take (HT.sIx xs.length xs.length hi - HT.sIx xs.length 0 lo)
theorem zdx(xs:List V)(lo hi:Option Int):(zdS xs lo hi).length≤xs.length:=by
 unfold zdS
 rw[List.length_take,List.length_drop]
 omega
def rSlT(K:PySem.W.Frag):V→Option Int→Option Int→Hp→VK→Prop:=fun x lo hi H Q=>∃a xs,x=.ref a∧SqT K H a xs ∧
 ¬(HT.sIx xs.length 0 lo=0∧HT.sIx xs.length xs.length hi=xs.length)∧∀p,H p=none→Q (.ref p) (upd H p (.tup (zdS xs lo hi)))
theorem sl_tup:SlR X (rSlT X.K):=by
 intro pins s σ H x v vl vu lo hi sl Q I rx hs pl pu h
 obtain⟨a,xs,rfl,hx,hw,q⟩:=h
 cases rx
 obtain⟨its,r,ht,hz⟩:=I.tuple hx
 have hlen:its.toArray.size=xs.length:=by rw[List.size_toArray];exact r.length.symm
 refine⟨"tuple",_,PyProof.Rows.slot_tuple_getitem.lookup,ht.typeIs,?_⟩
 refine HT.getItem_tuple_cut ht hs pl pu (by rw[hlen];exact hw) ?_ (by rw[hlen];exact hz)
 rw[hlen]
 refine⟨.ref s.heap.objs.size,_,I.laid (t':=s.toks) (o:=.tup (zdS xs lo hi)) (fun b ob q=>Heap.get?_push_of_some _ q) (Nat.le_refl _) ?_,rfl,q _ (I.hok.fresh (Nat.le_refl _))⟩
 exact⟨Nat.le_trans (zdx xs lo hi) hz,_,(r.drop (HT.sIx xs.length 0 lo)).take (HT.sIx xs.length xs.length hi - HT.sIx xs.length 0 lo),IsTup.new _ _⟩
end
def ixN(n:Nat)(i:Int):Option Nat:=if 0≤i then(if i<n then some i.toNat else none)else if -(n:Int)≤i then some (i+n).toNat else none
def atI{α:Type}(xs:List α)(i:Int):Option α:=(ixN xs.length i).bind fun j=>xs[j]?
theorem zh7{n:Nat}{i:Int}{j:Nat}(h:ixN n i=some j):seqIndex? i n=some j∧j<n ∧ -(n:Int)≤i∧i<n:=by
 unfold ixN at h
 by_cases h0:0≤i
 ·rw[if_pos h0] at h
  by_cases h1:i<n
  ·rw[if_pos h1] at h
   have e:i.toNat=j:=Option.some.inj h
   exact⟨by rw[seqIndex_of h0 h1,e],by omega,by omega,h1⟩
  ·rw[if_neg h1] at h;cases h
 ·rw[if_neg h0] at h
  by_cases h1 : -(n:Int)≤i
  ·rw[if_pos h1] at h
   have e:(i+n).toNat=j:=Option.some.inj h
   exact⟨by rw[seqIndex_neg (by omega) h1,e],by omega,h1,by omega⟩
  ·rw[if_neg h1] at h;cases h
theorem zfK{α:Type}{xs:List α}{i:Int}{v:α}(h:atI xs i=some v):∃j,seqIndex? i xs.length=some j∧xs[j]? = some v∧j<xs.length ∧ -(xs.length:Int)≤i∧i<xs.length:=by
 unfold atI at h
 cases e:ixN xs.length i with
 | none=>rw[e] at h;cases h
 | some j =>
   rw[e] at h
   obtain⟨h1,h2,h3,h4⟩:=zh7 e
   exact⟨j,h1,h,h2,h3,h4⟩
theorem zW{α:Type}{xs:List α}{j:Nat}{v:α}(h:xs[j]? = some v):atI xs (j:Int)=some v:=by
 have hj:j<xs.length:=(List.getElem?_eq_some_iff.mp h).1
 have e:ixN xs.length (j:Int)=some j:=by
  unfold ixN
  rw[if_pos (by omega),if_pos (by omega)];simp
 unfold atI;rw[e];exact h
theorem atI_last{α:Type}(xs:List α)(v:α):atI (xs ++ [v]) (-1)=some v:=by
 have hl:(xs ++ [v]).length=xs.length+1:=by simp
 have e:ixN (xs ++ [v]).length (-1)=some xs.length:=by
  unfold ixN
  rw[hl,if_neg (by decide),if_pos (by omega)]
  congr 1
  omega
 unfold atI
 rw[e]
 show(xs ++ [v])[xs.length]? = some v
 simp
def PlainIx(b:Expr):Prop:=∀o i,subscripted b false o i=operate [o,i] (getItem o i)
def IxR(X:Cx)(r:R2):Prop :=
 ∀(value slice:Expr) (pins:List (Addr × Obj)) (s:Shared) (σ:St) (H:Hp) (x y:V) (v u:Value) (Q:VK),Inv X pins σ H s→zH x v→zH y u→r x y H Q →
  subscripted slice false v u=operate [v,u] (getItem v u)→wpAny (model X.prog X.w) X.A (subscriptTail value slice v u) (EP X pins σ Q) X.xe s
def MtR(X:Cx)(id:String)(r:V→List V→Hp→VK→Prop):Prop :=
 ∀(pins:List (Addr × Obj)) (s:Shared) (σ:St) (H:Hp) (x:V) (xs:List V) (v:Value) (us:List Value) (Q:VK),Inv X pins σ H s→zH x v→zA xs us→r x xs H Q →
  wpAny (model X.prog X.w) X.A (call (.builtin id) (v::us)) (EP X pins σ Q) X.xe s
section
variable {X:Cx} {a b:Expr} {ta tb:TE} {pos:Pos}
theorem zB{r:R2}(hr:IxR X r)(ha:PE X a ta)(hb:PE X b tb)(hs:PlainIx b):PE X (.Subscript a b pos) (tOp r ta tb):=by
 intro pins s σ H Q I h
 exact Subscript_ (binT ha hb I h fun v u s2 x y H2 I2 rx ry q=>hr a b pins s2 σ H2 x y v u Q I2 rx ry q (hs _ _))
def rIxL(K:PySem.W.Frag):R2:=fun x y H Q=>∃p xs i v,x=.ref p∧y=.int i∧SqL K H p xs∧atI xs i=some v∧Q v H
def rIxT(K:PySem.W.Frag):R2:=fun x y H Q=>∃p xs i v,x=.ref p∧y=.int i∧SqT K H p xs∧atI xs i=some v∧Q v H
def rIxS:R2:=fun x y H Q=>∃z i c,x=.str z∧y=.int i∧z.length≤sizeLine∧atI z.cps.toList i=some c∧Q (.str ⟨#[c]⟩) H
theorem zy:IxR X (rIxL X.K):=by
 intro value slice pins s σ H x y v u Q I rx ry h hs
 obtain⟨p,xs,i,z,rfl,rfl,hq,he,q⟩:=h
 cases rx
 obtain⟨t,rfl⟩:=ry
 obtain⟨its,r,pl,hz⟩:=I.list hq
 obtain⟨j,h1,h2,h3,h4,h5⟩:=zfK he
 obtain⟨w,ew,rw'⟩:=r.get h2
 have hl:=r.length
 have hn:=zdv
 have fin:EP X pins σ Q w s:=⟨z,H,I,rw',q⟩
 by_cases h0:0≤i
 ·have hj:i.toNat=j:=by
   rw[seqIndex_of h0 h5] at h1
   exact Option.some.inj h1
  exact item_listR pl.isList h0 (by omega) (by rw[hj];simpa using ew) fin hs
 ·have hj:(i+(its.toArray.size:Int)).toNat=j:=by
   rw[seqIndex_neg (by omega) h4] at h1
   rw[List.size_toArray,← hl]
   exact Option.some.inj h1
  exact subscriptTail_builtinR (x:=w) pl.isList.typeIs slot_list_getitem.lookup
   (wpAny_getItem_list_neg (Q:=fun r s'=>r=w∧EP X pins σ Q r s') pl.isList (by omega) (by rw[List.size_toArray] <;> omega) (by omega) (by rw[hj];simpa using ew) ⟨rfl,fin⟩) hs
theorem zaN:IxR X (rIxT X.K):=by
 intro value slice pins s σ H x y v u Q I rx ry h hs
 obtain⟨p,xs,i,z,rfl,rfl,hq,he,q⟩:=h
 cases rx
 obtain⟨t,rfl⟩:=ry
 obtain⟨its,r,pl,hz⟩:=I.tuple hq
 obtain⟨j,h1,h2,h3,h4,h5⟩:=zfK he
 obtain⟨w,ew,rw'⟩:=r.get h2
 have hl:=r.length
 have hn:=zdv
 have fin:EP X pins σ Q w s:=⟨z,H,I,rw',q⟩
 exact subscriptTail_builtinR (x:=w) pl.typeIs slot_tuple_getitem.lookup
  (getItem_tuple (j:=j) (Q:=fun r s'=>r=w∧EP X pins σ Q r s') pl (by omega) (by omega) (by rw[List.size_toArray,← hl];exact h1) (by simpa using ew) ⟨rfl,fin⟩) hs
theorem ix_str:IxR X rIxS:=by
 intro value slice pins s σ H x y v u Q I rx ry h hs
 obtain⟨z,i,c,rfl,rfl,hz,he,q⟩:=h
 obtain⟨t,rfl⟩:=rx
 obtain⟨t',rfl⟩:=ry
 obtain⟨j,h1,h2,h3,h4,h5⟩:=zfK he
 have hl:z.cps.toList.length=z.length:=by simp[Str.length]
 rw[hl] at h1 h4 h5
 have hn:=zdv
 exact tail_any (typeIs_str s z t) slot_str_getitem.lookup (getItem_str (c:=c) (by
  have e1:decide (i < -(2 ^ 63:Int))=false:=decide_eq_false (by omega)
  have e2:decide (i ≥ 2 ^ 63)=false:=decide_eq_false (by omega)
  rw[e1,e2,Bool.or_false]) (by rw[h1];simpa using h2) ⟨.str ⟨#[c]⟩,H,I.tok _,⟨_,rfl⟩,q⟩) hs
theorem zhO(its:List Value)(n j:Nat)(u:Value):Obj.mapSeq (·.setIfInBounds j u) { cls:=.type "list",data:=.seq its.toArray n }={ cls:=.type "list",data:=.seq (its.set j u).toArray n }:=by
 simp[Obj.mapSeq]
theorem Inv.lst{pins:List (Addr × Obj)}{σ:St}{H:Hp}{s:Shared}{p:Addr}{xs:List V}(I:Inv X pins σ H s)(h:H p=some (.lst xs)):
 ∃(its:List Value) (n:Nat),zA xs its∧s.heap.get? p=some { cls:=.type "list",data:=.seq its.toArray n }∧xs.length≤sizeLine:=by
 obtain⟨z,its,n,r,e⟩:=I.hok p _ h
 exact⟨its,n,r,e,z⟩
theorem Inv.lstUpd{pins:List (Addr × Obj)}{σ:St}{H:Hp}{s:Shared}{p:Addr}{xs ys:List V}{its its':List Value}{n n':Nat}{f:Obj→Obj}(I:Inv X pins σ H s)(h:H p=some (.lst xs))
 (ho:s.heap.get? p=some { cls:=.type "list",data:=.seq its.toArray n }) (hf:f { cls:=.type "list",data:=.seq its.toArray n }={ cls:=.type "list",data:=.seq its'.toArray n' }) (r:zA ys its') (hz:ys.length≤sizeLine) (t:Nat) :
 Inv X pins σ (upd H p (.lst ys)) { s with heap:=s.heap.update p f,toks:=t }:=by
 have e:(s.heap.update p f).get? p=some { cls:=.type "list",data:=.seq its'.toArray n' }:=by
  rw[Heap.get?_update_self f ho (by rw[hf] <;> rfl),hf]
 refine I.write (x:=p) (e:=p) (by rw[h];trivial) (.inl rfl) (fun b u hb q=>(Heap.get?_update_other _ _ (Ne.symm hb)).trans q) ⟨_,e⟩ ?_
 exact⟨hz,its',n',r,e⟩
def rSetL:V→V→V→Hp→(Hp→Prop)→Prop:=fun o i v H Q=>∃p xs k j,o=.ref p∧i=.int k∧H p=some (.lst xs)∧ixN xs.length k=some j∧Q (upd H p (.lst (xs.set j v)))
theorem zgv:PSet X rSetL:=by
 intro pins s σ H o i v ov iv u Q I ro ri rv h
 obtain⟨p,xs,k,j,rfl,rfl,hp,hj,q⟩:=h
 cases ro
 obtain⟨t,rfl⟩:=ri
 obtain⟨its,n,r,ho,hz⟩:=I.lst hp
 obtain⟨h1,h2,h3,h4⟩:=zh7 hj
 have hl:=r.length
 have hn:=zdv
 have I':Inv X pins σ (upd H p (.lst (xs.set j v))) { s with heap:=s.heap.update p (Obj.mapSeq (·.setIfInBounds j u)) } :=
  I.lstUpd hp ho (zhO its n j u) (r.set rv j) (by rw[List.length_set];exact hz) s.toks
 by_cases h0:0≤k
 ·have hk:k.toNat=j:=by
   rw[seqIndex_of h0 h4] at h1
   exact Option.some.inj h1
  exact PySem.W.ki_setAt ho h0 (by omega) (by rw[List.size_toArray,← hl];exact h4) (by rw[hk];exact⟨_,I',q⟩)
 ·have hk:(k+(its.toArray.size:Int)).toNat=j:=by
   rw[seqIndex_neg (by omega) h3] at h1
   rw[List.size_toArray,← hl]
   exact Option.some.inj h1
  exact PySem.W.ki_setBack ho (by omega) (by rw[List.size_toArray,← hl];exact h3) (by omega) (by rw[hk];exact⟨_,I',q⟩)
theorem zfU(lo hi:Option Int)(n:Nat):(sliceBounds lo hi none n).1=((HT.sIx n 0 lo:Nat):Int)∧(sliceBounds lo hi none n).2.1=((HT.sIx n n hi:Nat):Int)∧(sliceBounds lo hi none n).2.2=1:=by
 refine⟨?_,?_,rfl⟩
 ·cases lo with
  | none=>simp[sliceBounds,HT.sIx]
  | some i =>
    simp only[sliceBounds,HT.sIx,Option.getD_none,show(1:Int) > 0 by decide,if_true]
    by_cases h:i<0
    ·simp only[h,if_true] <;> omega
    ·simp only[h,if_false] <;> omega
 ·cases hi with
  | none=>simp[sliceBounds,HT.sIx]
  | some i =>
    simp only[sliceBounds,HT.sIx,Option.getD_none,show(1:Int) > 0 by decide,if_true]
    by_cases h:i<0
    ·simp only[h,if_true] <;> omega
    ·simp only[h,if_false] <;> omega
theorem ze6(its:List Value)(lo hi:Option Int):slicePick its.toArray lo hi none=((its.drop (HT.sIx its.length 0 lo)).take (HT.sIx its.length its.length hi - HT.sIx its.length 0 lo)).toArray:=by
 obtain⟨h1,h2,h3⟩:=zfU lo hi its.toArray.size
 unfold slicePick
 rw[h1,h2,h3]
 simp only[sliceRange_one,pick_run,List.size_toArray] <;> rfl
def rSlL(K:PySem.W.Frag):V→Option Int→Option Int→Hp→VK→Prop:=fun x lo hi H Q=>∃a xs,x=.ref a∧SqL K H a xs∧∀p,H p=none→Q (.ref p) (upd H p (.lst (zdS xs lo hi)))
theorem zcL:SlR X (rSlL X.K):=by
 intro pins s σ H x v vl vu lo hi sl Q I rx hs pl pu h
 obtain⟨a,xs,rfl,hx,q⟩:=h
 cases rx
 obtain⟨its,r,ht,hz⟩:=I.list hx
 have hlen:=r.length
 refine⟨"list",_,slot_list_getitem.lookup,ht.isList.typeIs,?_⟩
 refine wpAny_getItem_list_slice ht.isList hs pl pu .none (by simp) ?_ (by rw[List.size_toArray] <;> omega)
 rw[ze6,← hlen]
 refine⟨.ref s.heap.objs.size,_,I.laid (t':=s.toks) (o:=.lst (zdS xs lo hi)) (fun b ob q=>Heap.get?_push_of_some _ q) (Nat.le_refl _) ?_,rfl,q _ (I.hok.fresh (Nat.le_refl _))⟩
 exact⟨Nat.le_trans (zdx xs lo hi) hz,_,0,(r.drop (HT.sIx xs.length 0 lo)).take (HT.sIx xs.length xs.length hi - HT.sIx xs.length 0 lo),Heap.get?_push_size _ rfl⟩
def wv:V→Bool
 | .non=>true
 | .bl _=>true
 | .int _=>true
 | .str _=>true
 | _=>false
def eqV:V→V→Bool
 | .non,.non=>true
 | .bl a,.bl b=>a==b
 | .bl a,.int b=>(if a then 1 else 0)==b
 | .int a,.bl b=>a==(if b then 1 else 0)
 | .int a,.int b=>a==b
 | .str a,.str b=>a==b
 | _,_=>false
theorem eqAt_V{A:Around}{s:Shared}{y x:V}{u v:Value}(ry:zH y u)(rx:zH x v)(fy:wv y=true)(fx:wv x=true):SeqAt.EqAt A s u v (eqV y x):=by
 cases y with
 | non =>
   cases ry
   cases x with
   | non=>cases rx;exact SeqAt.EqAt.same _
   | bl b=>cases rx;exact SeqAt.EqAt.none_bool b
   | int b=>obtain⟨t,rfl⟩:=rx;exact SeqAt.EqAt.none_int b t
   | str b=>obtain⟨t,rfl⟩:=rx;exact SeqAt.EqAt.none_str b t
   | _=>exact absurd (show false=true from fx) Bool.false_ne_true
 | bl a =>
   cases ry
   cases x with
   | non=>cases rx;exact SeqAt.EqAt.bool_none a
   | bl b=>cases rx;exact SeqAt.EqAt.bool_bool a b
   | int b=>obtain⟨t,rfl⟩:=rx;exact SeqAt.EqAt.bool_int a b t
   | str b=>obtain⟨t,rfl⟩:=rx;exact SeqAt.EqAt.bool_str a b t
   | _=>exact absurd (show false=true from fx) Bool.false_ne_true
 | int a =>
   obtain⟨t',rfl⟩:=ry
   cases x with
   | non=>cases rx;exact SeqAt.EqAt.int_none a t'
   | bl b=>cases rx;exact SeqAt.EqAt.int_bool a t' b
   | int b=>obtain⟨t,rfl⟩:=rx;exact SeqAt.EqAt.int_int a t' b t
   | str b=>obtain⟨t,rfl⟩:=rx;exact SeqAt.EqAt.int_str a t' b t
   | _=>exact absurd (show false=true from fx) Bool.false_ne_true
 | str a =>
   obtain⟨t',rfl⟩:=ry
   cases x with
   | non=>cases rx;exact SeqAt.EqAt.str_none a t'
   | bl b=>cases rx;exact SeqAt.EqAt.str_bool a t' b
   | int b=>obtain⟨t,rfl⟩:=rx;exact SeqAt.EqAt.str_int a t' b t
   | str b=>obtain⟨t,rfl⟩:=rx;exact SeqAt.EqAt.str_str a t' b t
   | _=>exact absurd (show false=true from fx) Bool.false_ne_true
 | _=>exact absurd (show false=true from fy) Bool.false_ne_true
def eqU(x:V)(u:Value):Bool:=match u with
 | .none=>eqV .non x
 | .bool b=>eqV (.bl b) x
 | .int i _=>eqV (.int i) x
 | .str z _=>eqV (.str z) x
 | _=>false
theorem zhQ{x y:V}{u:Value}(r:zH y u)(f:wv y=true):eqU x u=eqV y x:=by
 cases y with
 | non=>cases r;rfl
 | bl b=>cases r;rfl
 | int i=>obtain⟨t,rfl⟩:=r;rfl
 | str z=>obtain⟨t,rfl⟩:=r;rfl
 | _=>exact absurd (show false=true from f) Bool.false_ne_true
theorem zcP{x:V}:∀{xs:List V} {us:List Value},zA xs us→xs.all wv=true→us.any (eqU x)=xs.any fun y=>eqV y x
 | _,_,.nil,_=>rfl
 | y::xs,u::us,.cons r t,f=>by
   rw[List.all_cons,Bool.and_eq_true] at f
   rw[List.any_cons,List.any_cons,zhQ r f.1,zcP t f.2]
theorem zbp{A:Around}{s:Shared}{x:V}{v:Value}(rx:zH x v)(fx:wv x=true):∀{xs:List V} {us:List Value},zA xs us→xs.all wv=true→∀u∈us,SeqAt.EqAt A s u v (eqU x u)
 | _,_,.nil,_=>fun u hu=>by cases hu
 | y::xs,u::us,.cons r t,f=>fun u' hu=>by
   rw[List.all_cons,Bool.and_eq_true] at f
   rcases List.mem_cons.mp hu with rfl | hu
   ·rw[zhQ r f.1];exact eqAt_V r rx f.1 fx
   ·exact zbp rx fx t f.2 u' hu
def inV(x:V)(xs:List V):Bool:=xs.any fun y=>eqV y x
def rIn(K:PySem.W.Frag)(neg:Bool):R2:=fun x y H Q=>∃p xs,y=.ref p∧(SqL K H p xs∨SqT K H p xs)∧wv x=true∧xs.all wv=true∧Q (.bl (if neg then !inV x xs else inV x xs)) H
theorem zfe:OpR X (compareOp .In) (rIn X.K false):=by
 intro pins s σ H x y v u Q I rx ry h
 obtain⟨p,xs,rfl,hq,fx,fs,q⟩:=h
 cases ry
 rcases hq with hq | hq
 ·obtain⟨its,r,pl,hz⟩:=I.list hq
  refine SeqAt.in_listAt (eqU x) pl.isList (fun w hw=>zbp rx fx r fs w (by simpa using hw)) ⟨.bl _,H,I,rfl,?_⟩
  rw[show its.toArray.any (eqU x)=its.any (eqU x)by simp,zcP r fs]
  exact q
 ·obtain⟨its,r,pl,hz⟩:=I.tuple hq
  refine SeqAt.in_tupleAt (eqU x) pl (fun w hw=>zbp rx fx r fs w (by simpa using hw)) ⟨.bl _,H,I,rfl,?_⟩
  rw[show its.toArray.any (eqU x)=its.any (eqU x)by simp,zcP r fs]
  exact q
theorem zcY:OpR X (compareOp .NotIn) (rIn X.K true):=by
 intro pins s σ H x y v u Q I rx ry h
 obtain⟨p,xs,rfl,hq,fx,fs,q⟩:=h
 cases ry
 rcases hq with hq | hq
 ·obtain⟨its,r,pl,hz⟩:=I.list hq
  refine SeqAt.notIn_listAt (eqU x) pl.isList (fun w hw=>zbp rx fx r fs w (by simpa using hw)) ⟨.bl _,H,I,rfl,?_⟩
  rw[show its.toArray.any (eqU x)=its.any (eqU x)by simp,zcP r fs]
  exact q
 ·obtain⟨its,r,pl,hz⟩:=I.tuple hq
  refine SeqAt.notIn_tupleAt (eqU x) pl (fun w hw=>zbp rx fx r fs w (by simpa using hw)) ⟨.bl _,H,I,rfl,?_⟩
  rw[show its.toArray.any (eqU x)=its.any (eqU x)by simp,zcP r fs]
  exact q
theorem zk:zal X (.builtin "len") (fun xs H Q=>∃p ys,xs = [.ref p]∧(SqL X.K H p ys∨SqT X.K H p ys)∧Q (.int ys.length) H):=by
 intro pins s σ H xs us Q I r h
 obtain⟨p,ys,rfl,hq,q⟩:=h
 obtain⟨u,rfl,rx⟩:=vals1 r
 cases rx
 have hn:=zdv
 rcases hq with hq | hq
 ·obtain⟨its,r',pl,hz⟩:=I.list hq
  have hlen:=r'.length
  exact Calls.call_len_list pl.isList (by simp only[List.size_toArray] <;> omega) ⟨.int ys.length,H,I.tok _,⟨s.toks+1,by rw[List.size_toArray,hlen]⟩,q⟩
 ·obtain⟨its,r',pl,hz⟩:=I.tuple hq
  have hlen:=r'.length
  exact len_tuple pl (by simp only[List.size_toArray] <;> omega) ⟨.int ys.length,H,I.tok _,⟨s.toks+1,by rw[List.size_toArray,hlen]⟩,q⟩
theorem zO:zal X (.type "list") (fun xs H Q=>∃p ys,xs = [.ref p]∧(SqL X.K H p ys∨SqT X.K H p ys)∧∀l,H l=none→Q (.ref l) (upd H l (.lst ys))):=by
 intro pins s σ H xs us Q I r h
 obtain⟨p,ys,rfl,hq,q⟩:=h
 obtain⟨u,rfl,rx⟩:=vals1 r
 cases rx
 have fin:∀(its:List Value),zA ys its→ys.length≤sizeLine→∀(h':Heap) (c':Nat),(∀b o',s.heap.get? b=some o'→h'.get? b=some o') →
  h'.get? s.heap.objs.size=some { cls:=.type "list",dict:=none,data:=.seq its.toArray c',slots := #[] }→EP X pins σ Q (.ref s.heap.objs.size) { s with heap:=h' }:=fun its r' hz h' c' kp e =>
  ⟨.ref s.heap.objs.size,_,I.laid (t':=s.toks) kp (Nat.le_refl _) (show yF X.prog X.w _ h' _ (.lst ys)from⟨hz,its,c',r',e⟩),rfl,q _ (I.hok.fresh (Nat.le_refl _))⟩
 rcases hq with hq | hq
 ·obtain⟨its,r',pl,hz⟩:=I.list hq
  have hlen:=r'.length
  obtain⟨o,ho,hc,n,hd⟩:=pl.isList
  exact call_list_seq p (.inl rfl) ho hc hd (fun h' c' kp e=>fin its r' hz h' c' kp e) (by simp only[List.size_toArray] <;> omega)
 ·obtain⟨its,r',pl,hz⟩:=I.tuple hq
  have hlen:=r'.length
  obtain⟨o,ho,hc,n,hd⟩:=pl
  exact call_list_seq p (.inr rfl) ho hc hd (fun h' c' kp e=>fin its r' hz h' c' kp e) (by simp only[List.size_toArray] <;> omega)
def tyV(K:PySem.W.Frag)(T:String)(x:V)(H:Hp):Prop:=match x with
 | .str _=>T= "str"
 | .int _=>T= "int"
 | .ref p=>(T= "list" ∧ ∃xs,SqL K H p xs)∨(T= "tuple" ∧ ∃o,K.lookup p=some o∧o.cls=.type "tuple" ∧ o.dict=none) ∨
    (T= "dict" ∧ ((∃kvs,H p=some (.dK kvs))∨∃kvs,H p=some (.dT kvs)))∨(T= "set" ∧ ∃S n,H p=some (.set S n))
 | _=>False
theorem tyV_is{pins:List (Addr × Obj)}{σ:St}{H:Hp}{s:Shared}{T:String}{x:V}{v:Value}(I:Inv X pins σ H s)(r:zH x v)(ty:tyV X.K T x H):
 s.TypeIs v T∧∀a,v=.ref a→∃ob,s.heap.get? a=some ob∧ob.dict=none:=by
 cases x with
 | str z =>
   obtain⟨t,rfl⟩:=r
   cases (show T= "str" from ty)
   exact⟨typeIs_str s z t,fun _ e=>nomatch e⟩
 | int i =>
   obtain⟨t,rfl⟩:=r
   cases (show T= "int" from ty)
   exact⟨typeIs_int s i t,fun _ e=>nomatch e⟩
 | ref p =>
   cases r
   rcases ty with⟨rfl,xs,hq⟩ | ⟨rfl,o,hk,hc,hd⟩ | ⟨rfl,hk⟩ | ⟨rfl,S,n,hk⟩
   ·obtain⟨its,_,pl,_⟩:=I.list hq
    refine⟨pl.isList.typeIs,fun a e=>?_⟩
    cases e
    obtain⟨o,n,e,c,hd,_⟩:=pl
    exact⟨o,e,hd⟩
   ·refine⟨⟨o,I.kIn p o hk,hc⟩,fun a e=>?_⟩
    cases e
    exact⟨o,I.kIn _ o hk,hd⟩
   ·have z:∃o,s.heap.get? p=some o∧o.ExactDict:=by
     rcases hk with⟨kvs,hk⟩ | ⟨kvs,hk⟩
     ·obtain⟨_,_,_,_,o,_,_,e,ex,_⟩:=I.hok p _ hk
      exact⟨o,e,ex⟩
     ·obtain⟨_,_,_,_,o,_,_,e,ex,_⟩:=I.hok p _ hk
      exact⟨o,e,ex⟩
    obtain⟨o,e,ex⟩:=z
    refine⟨⟨o,e,ex.1⟩,fun a e2=>?_⟩
    cases e2
    exact⟨o,e,ex.2.1⟩
   ·obtain⟨o,_,_,_,e,ex,_⟩:=I.hok p _ hk
    refine⟨⟨o,e,ex.1⟩,fun a e2=>?_⟩
    cases e2
    exact⟨o,e,ex.2.1⟩
 | _=>exact False.elim ty
def tBM(K:PySem.W.Frag)(T:String)(r:V→List V→Hp→VK→Prop)(to:TE)(t:TA):TE:=fun σ H Q=>to σ H fun x H1=>tyV K T x H1∧t σ H1 fun xs H2=>r x xs H2 Q
variable {o e:Expr} {es:List Expr} {to:TE} {t:TA} {name:Str} {apos cpos:Pos} {T id:String} {r:V→List V→Hp→VK→Prop}
theorem zb4(pa:PlainAttrs T)(slot:Slot T name id)(hty:typeOf (.builtin id)=pure (.type "method_descriptor"))(hm:MtR X id r)(ho:PE X o to)(ha:PA X (e::es) t)
 (hbase:attributeBase o name X.env (eval o X.env)=eval o X.env:=by rfl)
 (hfew:((backTo cpos (starEach (e::es) X.env)).all (fun x => !x.1) && (backToKw cpos (keywordEach [] X.env)).all (fun x=>x.1.isSome)
   && decide ((e::es).length+([]:List Keyword).length+(if([]:List Keyword).isEmpty then 0 else 1)<30))=true:=by rfl)
 (hline:(apos.endLine==cpos.line)=true:=by rfl) (hs:starEach (e::es) X.env=(false,eval e X.env)::starEach es X.env:=by rfl) (hplain:(backTo cpos (starEach es X.env)).any (·.1)=false:=by rfl) :
 PE X (.Call (.Attribute o name apos) (e::es) [] cpos) (tBM X.K T r to t):=by
 intro pins s σ H Q I h
 refine wpAny_Call_method_late hbase hfew hline rfl (thn (ho pins s σ H _ I h) fun v s1 ⟨x,H1,I1,r1,ty,q1⟩=>?_)
 obtain⟨h1,h2⟩:=tyV_is I1 r1 ty
 refine⟨T,id,pa,slot,hty,h1,h2,?_⟩
 have hA:=ha cpos pins s1 σ H1 _ I1 q1
 rw[hs] at hA ⊢
 refine Calls.callWith_builtin (by show(false || (backTo cpos (starEach es X.env)).any (·.1))=false;rw[hplain] <;> rfl) (Calls.evalArgs_plain ?_)
 exact thn hA fun us s2 ⟨vs,H2,I2,r2,q2⟩=>hm pins s2 σ H2 x vs v us Q I2 r1 r2 q2
/- xs.append(e),list.index on a module's tuple .. are MtR facts of 06m -/
end
def MtM(X:Cx)(id:String)(r:V→List V→Hp→VK→Prop):Prop :=
 ∀(pins:List (Addr × Obj)) (s:Shared) (σ:St) (H:Hp) (x:V) (xs:List V) (v:Value) (us:List Value) (Q:VK),Inv X pins σ H s→zH x v→zA xs us→r x xs H Q →
  wpAny (model X.prog X.w) X.A (call (.builtin id) (v::us)) (EP X pins σ Q) X.xe s
theorem zA.one:∀{x:V} {us:List Value},zA [x] us→∃u,us = [u]∧zH x u
 := by
 intro x us h
 cases h with
 | cons r q=>cases q;exact⟨_,rfl,r⟩
theorem zA.two:∀{x y:V} {us:List Value},zA [x,y] us→∃u v,us = [u,v]∧zH x u∧zH y v
 := by
 intro x y us h
 cases h with
 | cons r z=>cases z with
   | cons q z=>cases z;exact⟨_,_,rfl,r,q⟩
theorem zA.eraseIdx:∀{xs:List V} {us:List Value} (i:Nat),zA xs us→zA (xs.eraseIdx i) (us.eraseIdx i)
 | _,_,_,.nil=>.nil
 | _,_,0,.cons _ t=>t
 | _,_,i+1,.cons r t=>.cons r (zA.eraseIdx i t)
theorem zA.reverse{xs:List V}{us:List Value}(h:zA xs us):zA xs.reverse us.reverse:=by
 induction h with
 | nil=>exact .nil
 | cons r t ih=>rw[List.reverse_cons,List.reverse_cons];exact zA.append ih (.cons r .nil)
theorem zfv{α:Type}:∀(l:List α) (i:Nat),(l.eraseIdx i).length≤l.length
 | [],_=>Nat.le_refl _
 | _::_,0=>Nat.le_succ _
 | _::r,i+1=>Nat.succ_le_succ (zfv r i)
section
variable {X:Cx} {pins:List (Addr × Obj)} {σ:St} {H:Hp} {s:Shared} {l b:Addr} {xs ys zs:List V}
theorem Inv.lset{its its':List Value}{n:Nat}{f:Array Value→Array Value}{t':Nat}(I:Inv X pins σ H s)(hH:H l=some (.lst xs))
 (e:s.heap.get? l=some { cls:=.type "list",data:=.seq its.toArray n }) (hf:f its.toArray=its'.toArray) (hv:zA ys its') (hz:ys.length≤sizeLine) :
 Inv X pins σ (upd H l (.lst ys)) { s with heap:=s.heap.update l (Obj.mapSeq f),toks:=t' }:=by
 have q:=PySem.IsL.update e f
 rw[hf] at q
 refine I.write (x:=l) (e:=l) (by rw[hH];exact trivial) (.inl rfl) (fun b' u hb hu=>(Heap.get?_update_other s.heap (Obj.mapSeq f) (Ne.symm hb)).trans hu) ⟨_,q⟩ ?_
 exact⟨hz,its',_,hv,q⟩
theorem Inv.lnew{its:List Value}{t':Nat}(I:Inv X pins σ H s)(hv:zA ys its)(hz:ys.length≤sizeLine):
 Inv X pins σ (upd H s.heap.objs.size (.lst ys)) { s with heap:=s.heap.push { cls:=.type "list",data:=.seq its.toArray },toks:=t' } :=
 I.laid (fun _ _ q=>Heap.get?_push_of_some _ q) (Nat.le_refl _) ⟨hz,its,0,hv,Heap.get?_push_size _ rfl⟩
theorem Inv.fresh(I:Inv X pins σ H s):H s.heap.objs.size=none:=I.hok.fresh (Nat.le_refl _)
theorem Inv.lstM(I:Inv X pins σ H s)(hH:H l=some (.lst xs)):xs.length≤sizeLine∧∃(its:List Value) (n:Nat),zA xs its∧xs.length=its.length∧s.heap.get? l=some { cls:=.type "list",data:=.seq its.toArray n }:=by
 obtain⟨z,its,n,r,e⟩:=I.hok l _ hH
 exact⟨z,its,n,r,r.length,e⟩
end
section
variable {X:Cx}
def rAppend:V→List V→Hp→VK→Prop:=fun x vs H Q=>∃l xs y,x=.ref l∧vs = [y]∧H l=some (.lst xs)∧xs.length<sizeLine∧Q .non (upd H l (.lst (xs ++ [y])))
theorem zco:MtM X "list.append" rAppend:=by
 intro pins s σ H x vs v us Q I rx rv h
 obtain⟨l,xs,y,rfl,rfl,hH,hz,q⟩:=h
 cases rx
 obtain⟨u,rfl,ru⟩:=rv.one
 obtain⟨z,its,n,r,hl,e⟩:=I.lstM hH
 refine call_meets F.slot_list_append ⟨_,e,rfl⟩ F.entry_list_append (F.args_list_append_2 _ _) (PySem.list_append l its.toArray n u (by rw[List.size_toArray];omega)) ⟨e,?_⟩
 refine⟨.non,_,I.lset (its':=its ++ [u]) hH e (by simp) (r.append (.cons ru .nil)) ?_,rfl,q⟩
 rw[List.length_append,List.length_singleton]
 omega
def rPopAt:V→List V→Hp→VK→Prop:=fun x vs H Q=>∃l xs i k y,x=.ref l∧vs = [.int i]∧H l=some (.lst xs) ∧ -(2 ^ 63)≤i∧i<2 ^ 63∧seqIndex? i xs.length=some k∧xs[k]? = some y∧Q y (upd H l (.lst (xs.eraseIdx k)))
theorem mt_popAt:MtM X "list.pop" rPopAt:=by
 intro pins s σ H x vs v us Q I rx rv h
 obtain⟨l,xs,i,k,y,rfl,rfl,hH,h1,h2,hk,hy,q⟩:=h
 cases rx
 obtain⟨u,rfl,ru⟩:=rv.one
 obtain⟨t,rfl⟩:=ru
 obtain⟨z,its,n,r,hl,e⟩:=I.lstM hH
 obtain⟨w,hw,rw'⟩:=r.get hy
 refine call_meets F.slot_list_pop ⟨_,e,rfl⟩ F.entry_list_pop (F.args_list_pop_2 _ _)
  (MeetsSeq.list_pop_at l its.toArray n i t k w (fitsIndex_both h1 h2) (by rw[List.size_toArray,← hl];exact hk) (by rw[← Array.getElem?_toList];exact hw) (by rw[List.size_toArray];omega)) ⟨e,?_⟩
 refine⟨y,_,I.lset (its':=its.eraseIdx k) hH e ?_ (r.eraseIdx k) ?_,rw',q⟩
 ·show its.toArray.eraseIdxIfInBounds k=(its.eraseIdx k).toArray
  rw[List.eraseIdxIfInBounds_toArray]
 ·have:=zfv xs k
  omega
def rCat:R2:=fun x y H Q=>∃l b xs zs,x=.ref l∧y=.ref b∧H l=some (.lst xs)∧H b=some (.lst zs)∧xs.length+zs.length≤sizeLine∧∀p,H p=none→Q (.ref p) (upd H p (.lst (xs++zs)))
theorem zhz:OpR X (binaryOp .Add) rCat:=by
 intro pins s σ H x y v u Q I rx ry h
 obtain⟨l,b,xs,zs,rfl,rfl,hH,hB,hz,q⟩:=h
 cases rx
 cases ry
 obtain⟨z,its,n,r,hl,e⟩:=I.lstM hH
 obtain⟨z2,its2,n2,r2,hl2,e2⟩:=I.lstM hB
 refine PySem.P.add_list e e2 ?_ (by rw[List.size_toArray,List.size_toArray];omega)
 have ea:its.toArray++its2.toArray=(its++its2).toArray:=by simp
 rw[ea]
 exact⟨.ref _,_,I.lnew (t':=s.toks) (r.append r2) (by rw[List.length_append];omega),rfl,q _ I.fresh⟩
end
section
variable {prog:Program} {w:World} {A:Around} {E:Value→Shared→Prop} {s:Shared}
end
section
variable {X:Cx}
end
end L2
namespace Att
open PySem PySem.W PySem.Calls PyProof.Rows
theorem zdJ{P:Params}{h:Heap}:∀(ns:List Int) (vs:List Value),WellAll P h vs (ns.map WData.int)→IntsAre vs ns:=by
 intro ns
 induction ns with
 | nil =>
   intro vs w
   rw[List.map_nil] at w
   cases w
   exact .nil
 | cons n ns ih =>
   intro vs w
   rw[List.map_cons] at w
   cases w with
   | cons a b =>
     cases a
     exact .cons _ _ (ih _ b)
theorem script_of{l:OpenLaw}{n:Nat}(hn:l.most=some n){P:Params}{h:Heap}{args:List WData}{vals:List Value}
 (hpre:l.row.toRowW.claim.pre args=true) (hwl:WellAll P h vals args) :
 ∃a vs ns,vals = [Value.ref a]∧args = [WData.list (ns.map WData.int)]∧h.get? a=some { cls:=.type "list",data:=.seq vs.toArray }∧IntsAre vs ns∧ns.length≤n:=by
 have hsh:WShape.hasAll [] args [.list .int]=true:=(pre_splitW hpre).1
 have hc:l.pre.holds [] { args:=args }=true:=(pre_splitW hpre).2
 obtain⟨d,r,rfl,h1,h2⟩:=hasAllW_cons hsh
 obtain rfl:=hasAllW_nil h2
 obtain⟨xs,rfl,h3⟩:=hasW_list h1
 obtain⟨ns,rfl⟩:=items_int h3
 have hlen:ns.length≤n:=by
  unfold OpenLaw.pre at hc
  have h4:(WTm.not (.lt (.lit (.int (n:Int))) (.len (.arg 0)))).holds [] { args := [.list (ns.map .int)] }=true:=by
   have h4:=(holds_andW hc).1
   rw[hn] at h4
   exact h4
  have h5:=condW_of h4 (w_not (w_lt w_lit (w_len_list (w_arg rfl))))
  rw[List.length_map] at h5
  refine Nat.le_of_not_lt fun q=>?_
  have q':(n:Int)<((ns.length:Nat):Int):=by omega
  first
   | (rw[decide_eq_true q'] at h5;exact absurd h5 (by decide))
   | (simp at h5;omega)
 cases hwl with
 | cons w1 w2 =>
   cases w2
   cases w1 with
   | list ho hall=>exact⟨_,_,ns,rfl,rfl,ho,zdJ ns _ hall,hlen⟩
theorem post_true(l:OpenLaw)(args:List WData):l.row.toRowW.claim.post args (.bool true) args=true :=
 postW_of (r:=l.row.toRowW) (X:=(true==true))
  (show WShape.has [] (.bool true) .bool=true by first | rfl | decide | simp[WShape.has,WShape.arms,WShape.armsAll])
  (show(WTm.eq .res (.lit (.bool true))).value [] { args:=args,res:=some (.bool true),after:=args }=some (.bool (true==true))from w_eq_bool (w_res rfl) w_lit) rfl
theorem attach_call{l:OpenLaw}{n:Nat}{q:Program}{loose:List Str}{XP:(Str→Option Value)→Heap→Prop}{YP:World→Heap→Prop}{d:DefRec}
 (hn:l.most=some n) (hdf:d.params.defaults = [])
 (call:∀(w:World) (s₀ s₁:Shared) (mg mb:Str→Option Value) (fa:Addr) (o:Obj) (pm cd doc:Value) (a:Addr) (vs:List Value) (ns:List Int),
   Ground q loose [] XP w s₀ mg mb s₁.heap→YP w s₁.heap →
   s₁.heap.get? fa=some o→o.data=.func (docDef d.name d.params d.body d.scope pm cd doc)→s₁.heap.CodeRec cd d.name→mg d.name=some (.ref fa) →
   s₁.heap.get? a=some { cls:=.type "list",data:=.seq vs.toArray }→IntsAre vs ns→ns.length≤n→s₁.gens = #[] →
   codeAny (model l.prog w) callerA (.call (.ref fa) ⟨[.ref a],[]⟩) (fun r s'=>r=.ok (.ret (.bool true))∧OldK s₁.heap s'.heap∧s'.os=s₁.os∧AllBare s'.gens) s₁) :
 WalkO q loose XP YP l.row.toRowW d [] (fun f vs=>PySem.call f vs):=by
 intro w s₀ s₁ mg mb G Y fa o pm cd doc dV kV ho hd hcd hD hmg hg args vals as hpre hlay hrd hwl hlo
 obtain rfl:dV=.none:=Dflts.none hD hdf
 obtain rfl:kV=.none:=Dflts.noKw hD
 obtain⟨a,vs,ns,rfl,rfl,hobj,hints,hlen⟩:=script_of hn hpre hwl
 refine enter_call (codeAny_mono (call w s₀ s₁ mg mb fa o pm cd doc a vs ns G Y ho (fd_plain hd) hcd hmg hobj hints hlen hg) fun r s' hq=>?_)
 obtain⟨rfl,h2,h3,h4⟩:=hq
 exact⟨.inl ⟨.bool true,.bool true,[],rfl,fun _=>rfl,.bool true,post_true l _,fun _=>⟨List.Pairwise.nil,fun _ hm=>(nomatch hm)⟩⟩,h2,h3,h4⟩
section
variable {prog:Program} {w:World} {A:Around} {E:Value→Shared→Prop} {s:Shared} {K:Frag}
def ledger(h:Heap)(L d:Addr):List (Addr × Obj):=(List.range h.objs.size).filterMap fun a=>if a=L∨a=d then none else(h.get? a).map fun o=>(a,o)
end
end Att
namespace L2
open PySem PySem.Spec PyProof.Rows
theorem zfx:∀{vs:List Value} {ns:List Int},IntsAre vs ns→zA (ns.map V.int) vs
 | _,_,.nil=>.nil
 | _,_,.cons n t h=>.cons ⟨t,rfl⟩ (zfx h)
end L2
/- THE LAST THEOREM (shape;LID,My.* are yours):
 My.Adr: a structure of the addresses that your layer names (classes,functions);My.Txt K t: a structure (Prop) of the equations over K;
 My.txt_mk:{K} {implicit addresses ..} (e1:nsIn K mainGlobals "law" = some (some (.ref f))) (e2:K.lookup f=some ⟨oc,od,.func (fnOf "law" "law" params body scope dV kV doc pm an cdv ct),sl⟩) (e3:codeIn K cdv "law" = true) .. : ∃t,My.Txt K t
(the tactic k_is has no namespace: write k_is) -/
namespace L2
open PySem PySem.Spec PyProof.Rows
def za0(s:Stmt)(j:Nat):Stmt:=match s with
 | .ClassDef _ _ _ body _ _ _ _ _ _ _=>body.getD j (.Pass ⟨0,0,0,0⟩)
 | _ => .Pass ⟨0,0,0,0⟩
def zp(s:Stmt):Arguments:=match s with
 | .FunctionDef _ a _ _ _ _ _ _ _ _=>a
 | _=>{ posonlyargs := [],args := [],vararg:=none,kwonlyargs := [],kw_defaults := [],kwarg:=none,defaults := [] }
def zn(s:Stmt):List Stmt:=match s with
 | .FunctionDef _ _ b _ _ _ _ _ _ _=>b
 | _ => []
def zc(s:Stmt):Scope:=match s with
 | .FunctionDef _ _ _ _ _ _ sc _ _ _=>sc
 | _=>{ kind:=.function,names := [],isGenerator:=false,isCoroutine:=false }
abbrev CX0:CXT:=fun _ _ _ _ _ _=>False
abbrev E0:XK:=fun _ _ _=>False
theorem pass0{X:Cx}:zgc CX0 X E0:=fun _ _ _ _ _ _ _ h=>h.elim
structure Fun (K:PySem.W.Frag) (x qual:Str) (st:Stmt) (f:Addr) (fd:FuncData):Prop where
 ex:∃(oc:Value) (od:Option Addr) (kV doc pm:Value) (an:Option Addr) (cdv ct:Value) (osl:Array (Option Value)),
  fd=PySem.W.fnOf x qual (zp st) (zn st) (zc st) .none kV doc pm an cdv ct∧K.lookup f=some ⟨oc,od,.func fd,osl⟩∧PySem.W.codeIn K cdv qual=true
 kp:PySem.W.keepIn K (.ref f)=true
section
variable {P:Program} {w:World} {K:PySem.W.Frag} {mg:Str→Option Value} {base:Heap}
theorem Fun.ok{x qual:Str}{st:Stmt}{f:Addr}{fd:FuncData}{N ps:List Str}{k:Nat}{sp:Sp}(F:Fun K x qual st f fd)(S:FnScope N ps (zc st))(len:∀vs H Q E,sp vs H Q E→vs.length=ps.length)
 (hbody:∀(cdv:Value) (A:Around) (outer:List Env) (s:Shared) (H:Hp) (vs:List V) (Q:VK) (E:XK),Room k (A.deeper (envOfC qual (zc st) s.heap.objs.size f cdv))→sp vs H Q E →
   ∃t,PSs (zaL CX0 P w K mg base N qual (zc st) f cdv A outer s H E).nox (zn st) t∧t { nx:=fun _ H'=>Q .non H',rt:=Q } (zav N vs) H):FnOk P w K mg base CX0 (k+1) f fd ps sp:=by
 obtain⟨oc,od,kV,doc,pm,an,cdv,ct,osl,rfl,lk,hcd⟩:=F.ex
 refine fn_of lk hcd S len fun A outer s H vs Q E hr hsp=>?_
 obtain⟨t,h,q⟩:=hbody cdv A outer s H vs Q E hr hsp
 exact⟨t,h.nox,q⟩
theorem Fun.binds{x qual:Str}{st:Stmt}{f:Addr}{fd:FuncData}{ps:List Str}(F:Fun K x qual st f fd)
 (h:∀(kV doc pm:Value) (an:Option Addr) (cdv ct:Value) (us:List Value),us.length=ps.length→bindArgs (PySem.W.fnOf x qual (zp st) (zn st) (zc st) .none kV doc pm an cdv ct) ⟨us,[]⟩=pure (ps.zip us)):wT K fd ps []:=by
 obtain⟨oc,od,kV,doc,pm,an,cdv,ct,osl,rfl,lk,hcd⟩:=F.ex
 exact .all (h kV doc pm an cdv ct)
theorem zt{x qual:Str}{st:Stmt}{f:Addr}{oc:Value}{od an:Option Addr}{osl:Array (Option Value)}{kV doc pm cdv ct:Value}(l:K.lookup f=some ⟨oc,od,.func (PySem.W.fnOf x qual (zp st) (zn st) (zc st) .none kV doc pm an cdv ct),osl⟩)
 (c:PySem.W.codeIn K cdv qual=true) (k:PySem.W.keepIn K (.ref f)=true):Fun K x qual st f (PySem.W.fnOf x qual (zp st) (zn st) (zc st) .none kV doc pm an cdv ct):=⟨⟨oc,od,kV,doc,pm,an,cdv,ct,osl,rfl,l,c⟩,k⟩
end
theorem zh3{A:Around}{k:Nat}(hr:Room k A):A.units+1<cLine:=Nat.lt_of_le_of_lt (Nat.add_le_add_left (by decide:1≤64) _) hr.units
section
variable {X:Cx}
theorem pv(i:Nat){x:Str}{pos:Pos}(hN:X.N[i]? = some x:=by rfl)(hv:Vis X.env.scope x:=by first | exact Or.inl rfl | exact Or.inr (Or.inl rfl) | exact Or.inr (Or.inr rfl))(hd:(x==("__debug__" : Str))=false:=by decide)
 (hcd:(x==("__classdict__" : Str))=false:=by decide):PE X (.Name x pos) (tVar i):=pe_var hN hv hd hcd
end
theorem zaT{A B:Prop}(h:B):if false=true then A else B:=by
 rw[if_neg Bool.false_ne_true]
 exact h
theorem zfC{A B:Prop}(h:A):if true=true then A else B:=by
 rw[if_pos rfl]
 exact h
theorem iteNS{c A B:Prop} [Decidable c](hc:c)(h:B):if(!decide c)=true then A else B:=by
 rw[decide_eq_true hc]
 exact zaT h
def zh(H H':Hp):Prop:=∀b o,H b=some o→H' b=some o
theorem zh.refl(H:Hp):zh H H:=fun _ _ h=>h
theorem zh.trans{H H1 H2:Hp}(a:zh H H1)(b:zh H1 H2):zh H H2:=fun c o h=>b c o (a c o h)
theorem zh.free{H H':Hp}(e:zh H H'){l:Addr}(h:H' l=Option.none):H l=Option.none:=by
 cases q:H l with
 | none=>rfl
 | some o =>
   rw[e l o q] at h
   cases h
theorem zh.seq{K:PySem.W.Frag}{H H':Hp}{a:Addr}{xs:List V}(e:zh H H')(h:SqL K H a xs):SqL K H' a xs:=by
 rcases h with(h | ⟨o,h⟩) | h
 ·exact .inl (.inl (e _ _ h))
 ·exact .inl (.inr ⟨o,e _ _ h⟩)
 ·exact .inr h
theorem zbM{env:Env}:∀(l:List (Str × NameKind)) (acc:List (Str × Addr)),(∀y∈l,y.2=.free→∃c,env.cells.lookup y.1=some c)→(∀y c,acc.lookup y=some c→env.cells.lookup y=some c) →
 ∃cl,(forIn l acc fun(x:Str × NameKind) (r:List (Str × Addr))=>if(x.2==NameKind.free)=true then(do let a ← cellOf env x.1;pure (ForInStep.yield ((x.1,a)::r)))else(pure (ForInStep.yield r):Sem (ForInStep (List (Str × Addr)))))=(pure cl:Sem (List (Str × Addr))) ∧
  (∀y c,cl.lookup y=some c→env.cells.lookup y=some c)∧(∀y,((y,NameKind.free)∈l∨(acc.lookup y).isSome=true)→∃c,cl.lookup y=some c)
 | [],acc,_,ha=>⟨acc,rfl,ha,fun y h=>by
    rcases h with h | h
    ·cases h
    ·exact Option.isSome_iff_exists.mp h⟩
 | (n,k)::r,acc,h,ha=>by
   by_cases hk:k=.free
   ·subst hk
    obtain⟨c,hc⟩:=h (n,.free) List.mem_cons_self rfl
    obtain⟨cl,e,h1,h2⟩:=zbM r ((n,c)::acc) (fun y hy=>h y (List.mem_cons_of_mem _ hy)) (fun y d hd=>by
     rw[List.lookup_cons] at hd
     by_cases hy:y=n
     ·subst hy;simp at hd;subst hd;exact hc
     ·rw[beq_eq_false_iff_ne.mpr hy] at hd;exact ha y d hd)
    refine⟨cl,?_,h1,fun y hy=>h2 y ?_⟩
    ·rw[List.forIn_cons]
     have:cellOf env n=pure c:=by unfold cellOf;rw[hc]
     simp only[this]
     exact e
    ·rcases hy with hy | hy
     ·rcases List.mem_cons.mp hy with z | z
      ·have:y=n:=by injection z
       right;simp[List.lookup_cons,this]
      ·exact .inl z
     ·right
      rw[List.lookup_cons]
      split
      ·rfl
      ·exact hy
   ·obtain⟨cl,e,h1,h2⟩:=zbM r acc (fun y hy=>h y (List.mem_cons_of_mem _ hy)) ha
    refine⟨cl,?_,h1,fun y hy=>h2 y ?_⟩
    ·rw[List.forIn_cons]
     have hb:(k==NameKind.free)=false:=by simpa using hk
     simp only[hb]
     exact e
    ·rcases hy with hy | hy
     ·rcases List.mem_cons.mp hy with z | z
      ·injection z with _ z2;exact absurd z2.symm hk
      ·exact .inl z
     ·exact .inr hy
theorem zbB{env:Env}{scope:Scope}(h:∀y∈scope.names,y.2=.free→∃c,env.cells.lookup y.1=some c):
 ∃cl,closureFor scope env=pure cl∧(∀y c,cl.lookup y=some c→env.cells.lookup y=some c)∧∀y,(y,NameKind.free)∈scope.names→∃c,cl.lookup y=some c:=by
 obtain⟨cl,e,h1,h2⟩:=zbM scope.names [] h (fun y c z=>by cases z)
 refine⟨cl,?_,h1,fun y hy=>h2 y (.inl hy)⟩
 unfold closureFor
 exact(congrArg (fun(m:Sem (List (Str × Addr)))=>m >>= fun r=>pure r) e).trans rfl
theorem zbS{f:Str × NameKind→Str × NameKind}(h1:∀p,(f p).1=p.1):∀{names:List (Str × NameKind)} {y:Str} {k:NameKind},(names.map f).lookup y=some k→∃k0,(y,k0)∈names∧(f (y,k0)).2=k
 | [],_,_,h=>by cases h
 | p::r,y,k,h=>by
   rw[List.map_cons] at h
   generalize hq:f p=q at h
   obtain⟨q1,q2⟩:=q
   rw[List.lookup_cons] at h
   have e1:q1=p.1:=by have:=h1 p;rw[hq] at this;exact this
   by_cases hy:y=q1
   ·have hb:(y==q1)=true:=by simp[hy]
    rw[hb] at h
    have h':q2=k:=Option.some.inj h
    refine⟨p.2,?_,?_⟩
    ·rw[hy,e1];exact List.mem_cons_self
    ·rw[hy,e1]
     have:f (p.1,p.2)=(q1,q2):=hq
     rw[this];exact h'
   ·rw[beq_eq_false_iff_ne.mpr hy] at h
    obtain⟨k0,m,e⟩:=zbS h1 (names:=r) h
    exact⟨k0,List.mem_cons_of_mem _ m,e⟩
theorem zaU{f:Str × NameKind→Str × NameKind}(h1:∀p,(f p).1=p.1):∀{names:List (Str × NameKind)} {y:Str} {k:NameKind},names.lookup y=some k→(names.map f).lookup y=some (f (y,k)).2
 | [],_,_,h=>by cases h
 | p::r,y,k,h=>by
   rw[List.map_cons]
   obtain⟨p1,p2⟩:=p
   have e1:=h1 (p1,p2)
   generalize hq:f (p1,p2)=q at e1 ⊢
   obtain⟨q1,q2⟩:=q
   have e1:q1=p1:=e1
   subst e1
   rw[List.lookup_cons] at h ⊢
   by_cases hy:y=q1
   ·have hb:(y==q1)=true:=by simp[hy]
    rw[hb] at h ⊢
    have h':p2=k:=Option.some.inj h
    subst h'
    subst hy
    show some q2=_
    rw[hq]
   ·rw[beq_eq_false_iff_ne.mpr hy] at h ⊢
    exact zaU h1 h
def rl(env:Env)(p:Str × NameKind):Str × NameKind:=if(p.2==NameKind.free && env.scope.kind == .function && env.kindOf p.1==some .cell)then(p.1,NameKind.cell)else(p.1,p.2)
theorem zhU(env:Env)(p:Str × NameKind):(rl env p).1=p.1:=by unfold rl;split <;> rfl
theorem rl_free(env:Env)(y:Str):(rl env (y,.free)).2=.cell∨(rl env (y,.free)).2=.free:=by
 unfold rl
 split
 ·exact .inl rfl
 ·exact .inr rfl
theorem rl_not(env:Env)(y:Str)(k:NameKind)(h:k ≠ .free):(rl env (y,k)).2=k:=by
 unfold rl
 have hb:(k==NameKind.free)=false:=by simpa using h
 simp[hb]
theorem zbb(scope:Scope)(env:Env):(relabel scope env).names=scope.names.map (rl env):=rfl
theorem zc4{env:Env}{scope:Scope}{y:Str}(hc:∀z∈scope.names,z.2 ≠ .cell)(h:(relabel scope env).names.lookup y=some .cell∨(relabel scope env).names.lookup y=some .free):(y,NameKind.free)∈scope.names:=by
 rw[zbb] at h
 have go:∀k,(k=.cell∨k=.free)→(scope.names.map (rl env)).lookup y=some k→(y,NameKind.free)∈scope.names:=fun k hk q=>by
  obtain⟨k0,m,e⟩:=zbS (zhU env) q
  by_cases hf:k0=.free
  ·rw[hf] at m;exact m
  ·rw[rl_not env y k0 hf] at e
   rcases hk with z | z
   ·exact absurd (e.trans z) (hc _ m)
   ·exact absurd (e.trans z) hf
 rcases h with h | h
 ·exact go _ (.inl rfl) h
 ·exact go _ (.inr rfl) h
theorem zbP{env:Env}{scope:Scope}{y:Str}(h:scope.names.lookup y=some .free):(relabel scope env).names.lookup y=some .cell∨(relabel scope env).names.lookup y=some .free:=by
 rw[zbb,zaU (zhU env) h]
 rcases rl_free env y with z | z
 ·exact .inl (congrArg some z)
 ·exact .inr (congrArg some z)
def blk(X:Cx)(N:List Str)(scope:Scope)(cl:List (Str × Addr))(C:Addr)(s2:Shared)(H2:Hp)(fp:List Addr):Cx where
 prog:=X.prog
 w:=X.w
 K:=X.K
 mg:=X.mg
 base:=X.base
 A:=X.A
 N:=N
 s₀:=s2
 H₀:=H2
 env:=compEnvC scope cl C X.env
 outer:=X.stack
 stack:=X.stack
 ex:=fp
 fn:=fun _=>false
 calm:=X.calm
 pn := []
 xe:=fun _ _=>False
structure CompScope (sc:Scope) (N:List Str) (x:Str) (fr:List Str) (ix:List Nat) (scope:Scope):Prop where
 kind:scope.kind=.function
 nocell:∀y∈scope.names,y.2 ≠ .cell
 lcl:∀y∈scope.names,y.2=.local→scope.names.lookup y.1=some .local
 lx:scope.names.lookup x=some .local
 free:∀y∈scope.names,y.2=.free→sc.names.lookup y.1=some .cell∨sc.names.lookup y.1=some .free
 at':fr.map some=ix.map fun i=>N[i]?
 frk:∀y∈fr,scope.names.lookup y=some .free∧(sc.names.lookup y=some .cell∨sc.names.lookup y=some .free)
 nd:(x::fr).Nodup
def cap(ix:List Nat)(σ:St):St:=ix.map fun i=>(σ[i]?).join
section
variable {X:Cx} {pins:List (Addr × Obj)} {σ:St} {H:Hp} {s:Shared} {x:Str} {fr:List Str} {ix:List Nat} {scope:Scope} {cl:List (Str × Addr)} {fp:List Addr} {C D:Addr}
theorem blk_ok(S:CompScope X.env.scope X.N x fr ix scope)(I:Inv X pins σ H s)(hf:∀b∈fp,zai X pins H b)(hfo:∀b∈fp,b<s.heap.objs.size)(hC:s.heap.objs.size≤C)
 (h1:∀y c,cl.lookup y=some c→X.env.cells.lookup y=some c) (h2:∀y,(y,NameKind.free)∈scope.names→∃c,cl.lookup y=some c):(blk X (x::fr) scope cl C s H fp).Ok where
 mod:=I.ok.mod
 kind:=S.kind
 glob:=I.ok.glob
 blt:=I.ok.blt
 above:=hC
 inj:=fun y z c a b=>I.ok.inj y z c (h1 y c a) (h1 z c b)
 has:=fun y hy=>h2 y (zc4 (env:=X.env) (scope:=scope) S.nocell hy)
 cab:=fun y c h _=>Bool.noConfusion (show false=true from h)
 hd:=I.ok.hd
 frames:=I.ok.frames
 stk:=.inl rfl
 exf:=fun b hb=>⟨fun z=>absurd (hfo b hb) (by rw[z];exact Nat.not_lt.mpr hC),fun y c e=>(hf b hb).2.2.2.2.1 y c (h1 y c e)⟩
 bs:=I.bs
 bsz:=Nat.le_trans I.ok.bsz I.sz
 noex:=fun b o e hb=>by
  rcases (hf b hb).2.2.2.1 with z | z
  ·exact I.ok.noex b o e z
  ·exact absurd (Nat.lt_of_lt_of_le (Heap.lt_size e) (Nat.le_trans I.ok.bsz z)) (Nat.lt_irrefl _)
 exfs:=fun b hb z=>by
  rcases List.mem_cons.mp (I.stkSub b z)with e | e
  ·exact(hf b hb).2.1 e
  ·exact(hf b hb).2.2.1 e
 funs:=I.stack
 frf:=I.stkFree
theorem zic:(cap ix σ).length=ix.length:=by unfold cap;rw[List.length_map]
theorem CompScope.len(S:CompScope X.env.scope X.N x fr ix scope):fr.length=ix.length:=by have:=congrArg List.length S.at';simpa using this
theorem blk_inv{s':Shared}{pn:List (Addr × Obj)}{m:Str→Option Value}(S:CompScope X.env.scope X.N x fr ix scope)(I:Inv X pins σ H s)(hf:∀b∈fp,zai X pins H b)(hfo:∀b∈fp,b<s.heap.objs.size)(hC:s.heap.objs.size≤C)
 (h1:∀y c,cl.lookup y=some c→X.env.cells.lookup y=some c) (h2:∀y,(y,NameKind.free)∈scope.names→∃c,cl.lookup y=some c)
 (ho:s'.os=s.os) (hg:s'.gens=s.gens) (k:∀b o,s.heap.get? b=some o→s'.heap.get? b=some o) (hn:s'.heap.Ns C m)
 (hp:∀p∈pn,s'.heap.get? p.1=some p.2∧s.heap.objs.size≤p.1∧p.1≠C∧∀v,p.2.data ≠ .cell v) :
 Inv (blk X (x::fr) scope cl C s H fp) pn (none::cap ix σ) H s':=by
 obtain⟨mX,hnX,hlX⟩:=I.loc
 refine⟨blk_ok S I hf hfo hC h1 h2,ho,by rw[hg];exact I.bare,Un.kept k,⟨m,hn,fun i y v e1 e2 e3=>?_⟩,fun y c e=>?_,I.hok.fresh hC,fun y c e=>I.freeC y c (h1 y c e),fun p hp'=>?_,I.hok.kept k,by
  show(none::cap ix σ).length=(x::fr).length
  simp[zic,S.len]⟩
 ·cases i with
  | zero=>cases e2
  | succ j =>
    have e1':fr[j]? = some y:=e1
    have e2':(cap ix σ)[j]? = some (some v):=e2
    obtain⟨f1,f2⟩:=S.frk y (List.mem_of_getElem? e1')
    unfold cap at e2'
    rw[List.getElem?_map] at e2'
    cases ei:ix[j]? with
    | none=>rw[ei] at e2';cases e2'
    | some i =>
      rw[ei] at e2'
      have e3':(σ[i]?).join=some v:=Option.some.inj e2'
      have e4:σ[i]? = some (some v):=by
       cases q:σ[i]? with
       | none=>rw[q] at e3';cases e3'
       | some w=>rw[q] at e3';have:w=some v:=e3';rw[this]
      have e5:X.N[i]? = some y:=by
       have:=congrArg (fun l=>l[j]?) S.at'
       simp only[List.getElem?_map,e1',ei] at this
       simpa using this.symm
      have vis:Vis X.env.scope y:=by
       rcases f2 with z | z
       ·exact .inr (.inl z)
       ·exact .inr (.inr z)
      obtain⟨u,r,l⟩:=hlX i y v e5 e4 vis
      refine⟨u,r,.inr ⟨zbP f1,?_⟩⟩
      rcases l with⟨z,_⟩ | ⟨_,c,ec,hc⟩
      ·rcases f2 with q | q
       ·have q':=(show X.env.scope.names.lookup y=some .local from z).symm.trans q;cases q'
       ·have q':=(show X.env.scope.names.lookup y=some .local from z).symm.trans q;cases q'
      ·obtain⟨c',hc'⟩:=h2 y (PySem.mem_of_lookup f1)
       have:c'=c:=by have:=h1 y c' hc';rw[ec] at this;exact(Option.some.inj this).symm
       subst this
       refine⟨c',hc',?_⟩
       obtain⟨o,ho',hd⟩:=hc
       exact⟨o,k _ _ ho',hd⟩
 ·obtain⟨v,o,ho',hd⟩:=I.cell y c (h1 y c e)
  exact⟨v,o,k _ _ ho',hd⟩
 ·have hp'':p∈pn:=by simpa [blk] using hp'
  obtain⟨q1,q2,q3,q4⟩:=hp p hp''
  refine⟨q1,I.hok.fresh q2,q3,fun z=>?_,q4⟩
  obtain⟨_,o,ho',_⟩:=I.stack.mem z
  exact absurd (Nat.lt_of_lt_of_le (Heap.lt_size ho') q2) (Nat.lt_irrefl _)
end
def PIf(X:Cx)(ifs:List Expr)(t:TT):Prop :=
 ∀(pins:List (Addr × Obj)) (s:Shared) (σ:St) (H:Hp) (Q:Bool→Hp→Prop),Inv X pins σ H s→t σ H Q →
  wpAny (model X.prog X.w) X.A (forIn ifs true fun c r=>if r=true then do let ok ← isTrue c X.env (eval c X.env);pure (ForInStep.yield ok)else pure (ForInStep.yield r)) (TP X pins σ Q) X.xe s
def zfS:TT:=fun _ H Q=>Q true H
theorem wo{X:Cx}:PIf X [] zfS:=fun _ _ _ H _ I h=>wpAny_tests_nil ⟨H,I,h⟩
theorem zbc{X:Cx}{c:Expr}{t:TT}(h:PT X c t):PIf X [c] t:=fun pins s σ H Q I q=>wpAny_tests_one (h pins s σ H Q I q)
def za4(J:It)(c:St)(tc:TT)(te:TE)(H1:Hp)(fin:List V→Hp→Prop):Prop :=
 ∃W:Nat→Nat→List V→Hp→Prop,(∃m,W 0 m [] H1)∧∀i m ys H,W i m ys H →
  (J.stop i H∧ys.length≤sizeLine∧fin ys H) ∨
  (J.go i H∧ys.length<sizeLine∧∃N:List V→Hp→Prop,(∀ys' H',N ys' H'→∃m',m'<m∧W (i+1) m' ys' H')∧∀x H',J.yld i H x H'→tc (some x::c) H' fun b H2=>if b=true then te (some x::c) H2 fun y H3=>N (ys ++ [y]) H3 else N ys H2)
def tComp(ix:List Nat)(wi:TI)(tc:TT)(te:TE):TE:=fun σ H Q=>wi σ H fun J H1=>za4 J (cap ix σ) tc te H1 fun ys H2=>∀l,H2 l=none→Q (.ref l) (upd H2 l (.lst ys))
theorem zcQ{prog:Program}{w:World}{A:Around}{R:Result→Shared→Prop}{s:Shared}{elt tg it0:Expr}{tests:List Expr}{scope:Scope}{pos:Pos}{it acc:Value}{env:Env}(J:Nat→Shared→Prop)
 (turn:∀n s,J n s→wpAny (model prog w) A (pyNext it) (fun r s1=>match r with
   | none=>R (.ok .next) s1
   | some v=>wpAny (model prog w) A (letOwnedTupleGo tg it v) (fun _ s2=>wpAny (model prog w) A (assign tg env v) (fun _ s3 =>
      wpAny (model prog w) A (forIn tests true fun c r=>if r=true then do let ok ← isTrue c env (eval c env);pure (ForInStep.yield ok)else pure (ForInStep.yield r)) (fun ok s4 =>
       if ok=true then wpAny (model prog w) A (eval elt env) (fun x s5 =>
        wpAny (model prog w) A (call (.builtin "list.append") [acc,x]) (fun _ s6=>∃m,m<n∧J m s6) (fun _ _=>False) s5) (fun _ _=>False) s4
       else ∃m,m<n∧J m s4) (fun _ _=>False) s3) (fun _ _=>False) s2) (fun _ _=>False) s1) (fun _ _=>False) s)
 (n:Nat) (h:J n s):codeAny (model prog w) A (.compLoop (.ListComp elt [⟨tg,it0,tests,0⟩] scope pos) 0 it acc env) R s:=by
 have up:∀{α:Type} {t:Sem α} {q q':α→Shared→Prop} {E':Value→Shared→Prop} {s:Shared},wpAny (model prog w) A t q (fun _ _=>False) s→(∀a s,q a s→q' a s)→wpAny (model prog w) A t q' E' s:=fun h k=>wpAny_mono h k fun _ _ z=>False.elim z
 refine codeAny_loop rfl J (fun n s hJ=>?_) n h
 show wpAny _ A ((compTurn (.ListComp elt [⟨tg,it0,tests,0⟩] scope pos) 0 it acc env).onRaise (fun x=>do noteFrame x env;theTreesLotGoes x)) _ _ s
 refine wpAny_noted ?_
 rw[compTurn_list]
 refine wpAny_bind (wpAny_standAt (wpAny_bind (up (turn n s hJ) fun r s1 h1=>?_)))
 cases r with
 | none=>exact wpAny_pure h1
 | some v =>
   refine wpAny_bind (up h1 fun _ s2 h2=>wpAny_bind (up h2 fun _ s3 h3=>wpAny_bind (up h3 fun ok s4 h4=>?_)))
   cases ok with
   | false=>exact wpAny_pure ⟨rfl,h4⟩
   | true =>
     exact wpAny_bind (wpAny_bind (up h4 fun x s5 h5=>wpAny_bind (up h5 fun _ s6 h6=>wpAny_pure (wpAny_pure ⟨rfl,h6⟩))))
section
variable {X:Cx} {x:Str} {fr:List Str} {ix:List Nat} {scope:Scope} {elt iter:Expr} {ifs:List Expr} {px pos:Pos} {wi:TI} {tc:TT} {te:TE}
theorem zgZ{use:Option (Value→Sem Unit)}{Q:Value→Shared→Prop}{pins:List (Addr × Obj)}{s2:Shared}{σ:St}{H2:Hp}{it:Addr}{fp:List Addr}{tn:Nat→Heap→Prop}{J:It}{cl:List (Str × Addr)}(S:CompScope X.env.scope X.N x fr ix scope)(hc:X.calm=true)
 (hif:∀cl C s2 H2 fp,PIf (blk X (x::fr) scope cl C s2 H2 fp) ifs tc) (he:∀cl C s2 H2 fp,PE (blk X (x::fr) scope cl C s2 H2 fp) elt te)
 (h1:∀y c,cl.lookup y=some c→X.env.cells.lookup y=some c) (h2:∀y,(y,NameKind.free)∈scope.names→∃c,cl.lookup y=some c)
 (I2:Inv X pins σ H2 s2) (T:Turn X.prog X.w X.K (.Name x px) J fp it tn) (st2:tn 0 s2.heap) (f2:∀b∈fp,zai X pins H2 b) {fin:List V→Hp→Prop} (wc:za4 J (cap ix σ) tc te H2 fin)
 (hQ:∀(D C:Addr) (ys:List V) (H':Hp) (s':Shared) (m:Str→Option Value),Inv X pins σ (upd H' D (.lst ys)) s'→H' D=none→s'.heap.Ns C m→D≠C→s2.heap.objs.size≤C→H' C=none→fin ys H' →
   compPost (model X.prog X.w) X.A X.xe use Q (.ref D) C (.ok .next) s') :
 wpAny (model X.prog X.w) X.A (newList []) (fun acc s₃=>wpAny (model X.prog X.w) X.A (newFunctionEnv scope X.env.globals cl [] X.env.qual none .none (some X.env)) (fun cenv s₄ =>
  codeAny (model X.prog X.w) X.A (.compStart (.ListComp elt [⟨.Name x px,iter,ifs,0⟩] scope pos) 0 (.ref it) acc { cenv with scope:=relabel scope X.env }) (compPost (model X.prog X.w) X.A X.xe use Q acc cenv.locals) s₄) X.xe s₃) X.xe s2:=by
 have hfo:∀b∈fp,b<s2.heap.objs.size:=fun b hb=>by
  obtain⟨o,e,_⟩:=T.obj 0 _ st2 b hb
  exact Heap.lt_size e
 refine wpAny_newObj_type (wpAny_newFunctionEnv S.nocell (by intro y hy;simp at hy) (fun h₁ hns₁ hsb₁=>?_) S.kind)
 dsimp only at hns₁ hsb₁ ⊢
 generalize hHp:s2.heap.push { cls:=.type "list",dict:=none,data:=.seq ([]:List Value).toArray }=Hp2 at hns₁ hsb₁ ⊢
 have hCs:Hp2.objs.size=s2.heap.objs.size+1:=by rw[← hHp,Heap.size_push]
 have hDC:s2.heap.objs.size≠Hp2.objs.size:=by rw[hCs];exact Nat.ne_of_lt (Nat.lt_succ_self _)
 have hCle:s2.heap.objs.size≤Hp2.objs.size:=by rw[hCs];exact Nat.le_succ _
 have zhb:∀b,b<s2.heap.objs.size→b≠Hp2.objs.size:=fun b hb=>by rw[hCs];exact Nat.ne_of_lt (Nat.lt_succ_of_lt hb)
 have old:∀b o,s2.heap.get? b=some o→h₁.get? b=some o:=fun b o e=>hsb₁.extBut b o (zhb b (Heap.lt_size e)) (Heap.get?_push_of_some _ (hHp ▸ Heap.get?_push_of_some _ e))
 have hacc:h₁.get? s2.heap.objs.size=some { cls:=.type "list",data:=.seq ([]:List Value).toArray 0 }:=hsb₁.extBut _ _ hDC (Heap.get?_push_of_some _ (hHp ▸ Heap.get?_push_size _ rfl))
 have st1:tn 0 h₁:=T.keep 0 _ _ st2 fun b _ o e=>old b o e
 have fpD:∀b∈fp,b≠s2.heap.objs.size:=fun b hb=>Nat.ne_of_lt (hfo b hb)
 generalize hD:s2.heap.objs.size=D at hacc hDC fpD ⊢
 have hDle:s2.heap.objs.size≤D:=Nat.le_of_eq hD
 generalize hC:Hp2.objs.size=C at hns₁ hsb₁ hDC hCle ⊢
 have oldD:∀b o,s2.heap.get? b=some o→b≠D:=fun b o e z=>absurd (Heap.lt_size e) (by rw[z,← hD];exact Nat.lt_irrefl _)
 obtain⟨W,⟨m0,w0⟩,turn⟩:=wc
 have loop:∀s₃:Shared,s₃={ s2 with heap:=h₁,toks:=s2.toks+([]:List (Str × Value)).length } →
  codeAny (model X.prog X.w) X.A (.compLoop (.ListComp elt [⟨.Name x px,iter,ifs,0⟩] scope pos) 0 (.ref it) (.ref D) (compEnvC scope cl C X.env))
   (compPost (model X.prog X.w) X.A X.xe use Q (.ref D) C) s₃:=by
  rintro s₃ rfl
  have I0:Inv (blk X (x::fr) scope cl C s2 H2 fp) [(D,{ cls:=.type "list",data:=.seq ([]:List Value).toArray 0 })] (none::cap ix σ) H2 { s2 with heap:=h₁,toks:=s2.toks+([]:List (Str × Value)).length } :=
   blk_inv S I2 f2 hfo hCle h1 h2 rfl rfl old hns₁ (fun p hp=>by
    have e:p=(D,{ cls:=.type "list",data:=.seq ([]:List Value).toArray 0 }):=by simpa using hp
    subst e
    exact⟨hacc,hDle,hDC,fun v z=>by cases z⟩)
  have stat:∀{its:Obj} {H':Hp},(∀b∈fp,H' b=none)→∀b∈fp,zai (blk X (x::fr) scope cl C s2 H2 fp) [(D,its)] H' b:=fun {its H'} hn b hb=>by
   refine⟨hn b hb,fun z=>?_,fun z=>(I0.ok.exfs b hb z),.inl hb,fun y c e=>(I0.ok.exf b hb).2 y c e,fun p hp z=>?_⟩
   ·exact(I0.ok.exf b hb).1 z
   ·have e:p=(D,its):=by simpa [blk] using hp
    subst e
    exact fpD b hb (Eq.symm z)
  refine zcQ (env:=compEnvC scope cl C X.env)
   (fun n s'=>∃i ys its k v0 H',zA ys its∧Inv (blk X (x::fr) scope cl C s2 H2 fp) [(D,{ cls:=.type "list",data:=.seq its.toArray k })] (v0::cap ix σ) H' s'∧tn i s'.heap∧(∀b∈fp,H' b=none)∧W i n ys H') ?_ m0
   ⟨0,[],[],0,none,H2,.nil,I0,st1,fun b hb=>(f2 b hb).1,w0⟩
  rintro n s3 ⟨i,ys,its,k,v0,H3,rv,I3,st3,fr3,w3⟩
  rcases turn i n ys H3 w3 with⟨stop,hz,hfin⟩ | ⟨go,hz,N,hN,step⟩
  ·refine thn (T.done (blk X (x::fr) scope cl C s2 H2 fp) rfl rfl rfl hc i _ s3 _ H3 _ I3 (stat fr3) st3 stop) fun r s4 ⟨hr,I4⟩=>?_
   subst hr
   have pD:=I4.pin (D,{ cls:=.type "list",data:=.seq its.toArray k }) (by simp[blk])
   obtain⟨mC,hnC,_⟩:=I4.loc
   have hH3D:H3 D=none:=pD.2.1
   have hok':HOk X.prog X.w (upd H3 D (.lst ys)) s4.heap:=fun b u e=>by
    by_cases hb:b=D
    ·subst hb
     rw[zf] at e;cases e
     exact⟨hz,its,k,rv,pD.1⟩
    ·rw[zj hb] at e
     exact(I4.hok b u e).stay (fun c v _ q=>q) (fun c q=>by rw[zj (zq q hH3D)];exact q) fun c xs q=>by rw[zj (zq q hH3D)];exact q
   have b4:Un (frs X.stack) fp H2 H3 s2.heap s4.heap:=I4.base
   have un:Un (frs X.stack) fp H2 (upd H3 D (.lst ys)) s2.heap s4.heap :=
    ⟨b4.keep,b4.slot,fun b o q n hx=>by
     rw[zj (oldD b o q)];exact b4.free b o q n hx,b4.there,fun b xs q=>by rw[zj (zq (b4.tups b xs q) hH3D)];exact b4.tups b xs q,
     fun b o u q=>by rw[zj (zq (b4.frzs b o u q) hH3D)];exact b4.frzs b o u q,fun b ps q=>by
      obtain⟨more,e⟩:=b4.tbls b ps q
      exact⟨more,by rw[zj (zq e hH3D)];exact e⟩⟩
   have I5:Inv X pins σ (upd H3 D (.lst ys)) s4:=I2.call' (ch:=fp) I4.os un hok' I4.bare fun b hb=>by
    obtain⟨g0,g1,g2,g3,g4,g5⟩:=f2 b hb
    exact⟨g3,g1,g4,g5⟩
   exact hQ D C ys H3 s4 mC I5 hH3D hnC hDC hCle I4.free hfin
  ·refine thn (T.item (blk X (x::fr) scope cl C s2 H2 fp) rfl rfl rfl hc i _ s3 _ H3 _ I3 (stat fr3) st3 go) fun r s4 ⟨u,hr,h4⟩=>?_
   subst hr
   refine thn h4 fun _ s5 ⟨y,H5,I5,r5,y5,st5,fr5⟩=>?_
   have I5':=I5.pinned (stat fr5) (T.obj _ _ st5)
   have pg:PG (blk X (x::fr) scope cl C s2 H2 fp) (.Name x px) (zej 0):=wb S.nd rfl (.inl (lookup_relabel_local S.lx)) (.inr (lookup_relabel_local S.lx))
   refine thn (pg _ s5 _ H5 y u (fun σ6 H6=>σ6=some y::cap ix σ∧H6=H5) I5' r5 ⟨rfl,rfl⟩) fun _ s6 ⟨σ6,H6,I6,e6,e6'⟩=>?_
   subst e6 e6'
   refine thn (hif cl C s2 H2 fp _ s6 _ _ _ I6 (step y _ y5)) fun b s7 ⟨H7,I7,q7⟩=>?_
   have again:∀{s8:Shared} {H8:Hp} {its':List Value} {k':Nat} {ys':List V},zA ys' its'→Inv (blk X (x::fr) scope cl C s2 H2 fp) [(D,{ cls:=.type "list",data:=.seq its'.toArray k' })] (some y::cap ix σ) H8 s8→(∀b∈fp,∀o,s5.heap.get? b=some o→s8.heap.get? b=some o)→(∀b∈fp,H8 b=none)→N ys' H8 →
    ∃m,m<n∧∃i ys its k v0 H',zA ys its∧Inv (blk X (x::fr) scope cl C s2 H2 fp) [(D,{ cls:=.type "list",data:=.seq its.toArray k })] (v0::cap ix σ) H' s8∧tn i s8.heap∧(∀b∈fp,H' b=none)∧W i m ys H' :=
    fun {s8 H8 its' k' ys'} rv8 I8 kp fr8 nn=>let ⟨m',hm,w8⟩:=hN ys' H8 nn;⟨m',hm,i+1,ys',its',k',some y,H8,rv8,I8,T.keep _ _ _ st5 kp,fr8,w8⟩
   cases b with
   | false =>
     rw[if_neg Bool.false_ne_true] at q7 ⊢
     refine again rv I7.unpinned (fun b hb o e=>(I7.pin (b,o) (by simp[blk];exact .inr (y8 hb e))).1) (fun b hb=>?_) q7
     obtain⟨o,e,d⟩:=T.obj _ _ st5 b hb
     exact(I7.pin (b,o) (by simp[blk];exact .inr (y8 hb e))).2.1
   | true =>
     rw[if_pos rfl] at q7 ⊢
     refine thn (he cl C s2 H2 fp _ s7 _ _ _ I7 q7) fun v s8 ⟨z,H8,I8,r8,q8⟩=>?_
     have pD:=I8.pin (D,{ cls:=.type "list",data:=.seq its.toArray k }) (by simp[blk])
     have hvl:ys.length=its.length:=rv.length
     refine append_at (hsz:=by show its.toArray.size≤sizeLine;rw[List.size_toArray];omega) pD.1 fun h₉ hs₉ hD₉=>?_
     have eo:({ cls:=.type "list",data:=.seq (its.toArray.push v) (k+1) }:Obj)={ cls:=.type "list",data:=.seq (its ++ [v]).toArray (k+1) }:=by rw[List.push_toArray]
     rw[eo] at hD₉
     have pn8:∀b∈fp,∀o,s5.heap.get? b=some o→s8.heap.get? b=some o∧H8 b=none:=fun b hb o e=>by
      have q:=I8.pin (b,o) (by simp[blk];exact .inr (y8 hb e))
      exact⟨q.1,q.2.1⟩
     have J8:=I8.unpinned.pins_of (pins' := []) (fun p hp=>by cases hp)
     have f2D:zai (blk X (x::fr) scope cl C s2 H2 fp) [] H8 D:=⟨pD.2.1,pD.2.2.1,pD.2.2.2.1,.inr hDle,fun y c e z=>by
      obtain⟨v,o,ho,_⟩:=I2.cell y c (h1 y c e)
      exact oldD c o ho z,fun p hp=>by cases hp⟩
     have I9:Inv (blk X (x::fr) scope cl C s2 H2 fp) [] (some y::cap ix σ) H8 { s8 with heap:=h₉ }:=J8.turned (t':=s8.toks) (it:=D) (fun b o hb e=>(hs₉.2 b hb).trans e) f2D.1 f2D.2.1 f2D.2.2.2.1 f2D.2.2.2.2.1 f2D.2.2.2.2.2
     refine again (its':=its ++ [v]) (k':=k+1) (ys':=ys ++ [z]) (rv.append (.cons r8 .nil)) (I9.pins_of fun p hp=>?_) (fun b hb o e=>(hs₉.2 b (fpD b hb)).trans (pn8 b hb o e).1) (fun b hb=>?_) q8
     ·have e:p=(D,{ cls:=.type "list",data:=.seq (its ++ [v]).toArray (k+1) }):=by simpa using hp
      subst e
      exact⟨hD₉,f2D.1,f2D.2.1,f2D.2.2.1,fun v z=>by cases z⟩
     ·obtain⟨o,e,d⟩:=T.obj _ _ st5 b hb
      exact(pn8 b hb o e).2
 exact codeAny_compStart_list (loop _ rfl) (T.self X.A 0 _ _ _ st1 (loop _ rfl))
theorem zU(S:CompScope X.env.scope X.N x fr ix scope)(hc:X.calm=true)(hi:PI X (.Name x px) iter wi)(hif:∀cl C s2 H2 fp,PIf (blk X (x::fr) scope cl C s2 H2 fp) ifs tc)(he:∀cl C s2 H2 fp,PE (blk X (x::fr) scope cl C s2 H2 fp) elt te)
 (hs:∀x,foldedSetIterable iter X.env x=pure x:=by intro _;rfl):PE X (.ListComp elt [⟨.Name x px,iter,ifs,0⟩] scope pos) (tComp ix wi tc te):=by
 intro pins s σ H Q I h
 obtain⟨cl,ecl,h1,h2⟩:=zbB (env:=X.env) (scope:=scope) fun y hy hf=>I.ok.has y.1 (S.free y hy hf)
 rw[eval_ListComp]
 refine wpAny_comprehension_free (use:=none) rfl hs ecl S.kind S.lcl (thn (hi pins s σ H _ I h) fun xv s1 q1=>thn q1 fun itv s2 q2=>?_)
 obtain⟨it,fp,tn,J,H2,rfl,I2,T,st2,f2,wc⟩:=q2
 refine zgZ S hc hif he h1 h2 I2 T st2 f2 wc fun D C ys H' s' m I' hD hn hDC hC hHC fin=>?_
 refine⟨m,hn,fun h' sb=>⟨.ref D,upd H' D (.lst ys),?_,rfl,fin D hD⟩⟩
 have hcf:zai X pins (upd H' D (.lst ys)) C:=by
  have z:=I2.fpOk (H':=upd H' D (.lst ys)) hC (by rw[zj (Ne.symm hDC)];exact hHC)
  exact z
 exact I'.turned (t':=s'.toks) (it:=C) (fun b o hb e=>(sb.2 b hb).trans e) hcf.1 hcf.2.1 hcf.2.2.2.1 hcf.2.2.2.2.1 hcf.2.2.2.2.2
theorem zcI{i:Nat}{y:Str}{py spos:Pos}(S:CompScope X.env.scope X.N x fr ix scope)(hc:X.calm=true)(hN:X.N.Nodup)(hiy:X.N[i]? = some y)(hy:Loc X.env.scope y)(hi:PI X (.Name x px) iter wi)(hif:∀cl C s2 H2 fp,PIf (blk X (x::fr) scope cl C s2 H2 fp) ifs tc)(he:∀cl C s2 H2 fp,PE (blk X (x::fr) scope cl C s2 H2 fp) elt te)
 (hsw:swapsWith (.ListComp elt [⟨.Name x px,iter,ifs,0⟩] scope pos) (some (.Name y py)) spos.line X.env=pure true:=by rfl)
 (hf:X.fn y=true∨X.env.scope.names.lookup y=some .local:=by first | exact .inl rfl | exact .inr rfl | assumption)
 (hs:∀x,foldedSetIterable iter X.env x=pure x:=by intro _;rfl) :
 PS X (.Assign [.Name y py] (.ListComp elt [⟨.Name x px,iter,ifs,0⟩] scope pos) spos) (tAsg (tComp ix wi tc te) (zej i)):=by
 intro pins s σ H Dn I h
 obtain⟨cl,ecl,h1,h2⟩:=zbB (env:=X.env) (scope:=scope) fun y hy hf=>I.ok.has y.1 (S.free y hy hf)
 rw[exec_Assign_Name_used _ _ _ _ hsw]
 refine wpAny_bind (wpAny_standAt (wpAny_bind ?_))
 show wpAny _ X.A (do let _ ← comprehension (.ListComp elt [⟨.Name x px,iter,ifs,0⟩] scope pos) scope X.env _ (newList []) false (eval iter X.env) (some (assign (.Name y py) X.env))) _ _ s
 refine wpAny_bind (thn (Q:=fun _ s'=>SP X pins Dn .next s') ?_ fun _ s' q=>wpAny_pure (wpAny_pure q))
 refine wpAny_comprehension_free (use:=some (assign (.Name y py) X.env)) rfl hs ecl S.kind S.lcl (thn (hi pins s σ H _ I h) fun xv s1 q1=>thn q1 fun itv s2 q2=>?_)
 obtain⟨it,fp,tn,J,H2,rfl,I2,T,st2,f2,wc⟩:=q2
 refine zgZ S hc hif he h1 h2 I2 T st2 f2 wc fun D C ys H' s' m I' hD hn hDC hC hHC fin=>?_
 have hcf:zai X pins (upd H' D (.lst ys)) C:=I2.fpOk (H':=upd H' D (.lst ys)) hC (by rw[zj (Ne.symm hDC)];exact hHC)
 show wpAny _ X.A (assign (.Name y py) X.env (.ref D)) _ _ s'
 refine wpAny_assign_Name (zdp (v:=V.ref D) I' hN hiy hy rfl (fun s'' I'' hsb=>?_) hf)
 obtain⟨a,sb,ha⟩:=hsb
 have hCa:C≠a:=fun z=>by
  rcases ha with q | q
  ·exact hcf.2.1 (z.trans q)
  ·exact hcf.2.2.2.2.1 y a q z.symm
 refine⟨m,hn.sameBut sb hCa,fun h' sb'=>⟨_,_,I''.turned (t':=s''.toks) (it:=C) (fun b o hb e=>(sb'.2 b hb).trans e) hcf.1 hcf.2.1 hcf.2.2.2.1 hcf.2.2.2.2.1 hcf.2.2.2.2.2,fin D hD⟩⟩
end
section
variable {X:Cx}
def ixV(xs:List V)(y:V):Nat:=xs.findIdx fun z=>eqV z y
theorem zgW{x:V}:∀{xs:List V} {us:List Value},zA xs us→xs.all wv=true→us.findIdx (eqU x)=xs.findIdx fun y=>eqV y x
 | _,_,.nil,_=>rfl
 | y::xs,u::us,.cons r t,f=>by
   rw[List.all_cons,Bool.and_eq_true] at f
   rw[List.findIdx_cons,List.findIdx_cons,zhQ r f.1,zgW t f.2]
def rIndex(K:PySem.W.Frag):V→List V→Hp→VK→Prop:=fun x vs H Q=>∃l xs y,x=.ref l∧vs = [y]∧SqL K H l xs∧wv y=true∧xs.all wv=true∧ixV xs y<xs.length∧Q (.int (ixV xs y:Nat)) H
theorem zhZ:(sizeLine:Int)<2 ^ 63 - 1:=by decide
theorem zbo:MtM X "list.index" (rIndex X.K):=by
 intro pins s σ H x vs v us Q I rx rv h
 obtain⟨l,xs,y,rfl,rfl,hH,fy,fs,hj,q⟩:=h
 cases rx
 obtain⟨u,rfl,ru⟩:=rv.one
 obtain⟨its,r,⟨⟨oc,od,dt,sl⟩,n,e,c1,c2,c3⟩,z⟩:=I.list hH
 simp only at c1 c2 c3
 subst c1 c2 c3
 have hl:=r.length
 have ef:=zgW (x:=y) r fs
 have hj':its.findIdx (eqU y)<its.length:=by rw[ef,← hl];exact hj
 refine call_meets F.slot_list_index ⟨_,e,rfl⟩ F.entry_list_index (F.args_list_index_2 _ _)
  (SeqAt.list_indexAt l its.toArray n none sl u (eqU y) (its.findIdx (eqU y)) (by simpa using hj') (by have:=zhZ;omega) (by simpa using List.findIdx_getElem (w:=hj')) (fun m hm hlt=>by simpa using List.not_of_lt_findIdx hlt)) ⟨e,fun w hw=>zbp ru fy r fs w (by simpa using hw),?_⟩
 refine⟨.int (ixV xs y:Nat),H,I.tok _,⟨s.toks,?_⟩,q⟩
 rw[ef];rfl
def isInt:V→Option Bool
 | .int _=>some true
 | .bl _=>some true
 | .str _=>some false
 | .non=>some false
 | _=>none
def isBool:V→Option Bool
 | .int _=>some false
 | .bl _=>some true
 | .str _=>some false
 | .non=>some false
 | _=>none
def isStr:V→Option Bool
 | .int _=>some false
 | .bl _=>some false
 | .str _=>some true
 | .non=>some false
 | _=>none
inductive IsLst (K:PySem.W.Frag) (H:Hp):V→Bool→Prop
 | yes {a:Addr} {xs:List V}:SqL K H a xs→IsLst K H (.ref a) true
 | no {a:Addr} {xs:List V}:SqT K H a xs→IsLst K H (.ref a) false
inductive IsTpl (K:PySem.W.Frag) (H:Hp):V→Bool→Prop
 | yes {a:Addr} {xs:List V}:SqT K H a xs→IsTpl K H (.ref a) true
 | no {a:Addr} {xs:List V}:SqL K H a xs→IsTpl K H (.ref a) false
theorem zf5:zal X (.builtin "isinstance") (fun xs H Q=>∃x b,xs = [x,.ty "int"]∧isInt x=some b∧Q (.bl b) H):=by
 intro pins s σ H xs us Q I r h
 obtain⟨x,b,rfl,e,q⟩:=h
 obtain⟨u,t,rfl,ru,rt⟩:=r.two
 cases rt
 cases x with
 | int i=>obtain⟨t',rfl⟩:=ru;cases e;exact IsiPair.int_int ⟨.bl true,H,I,rfl,q⟩
 | bl i=>cases ru;cases e;exact IsiPair.bool_int ⟨.bl true,H,I,rfl,q⟩
 | str i=>obtain⟨t',rfl⟩:=ru;cases e;exact IsiPair.str_int ⟨.bl false,H,I.tok _,rfl,q⟩
 | non=>cases ru;cases e;exact IsiPair.NoneType_int ⟨.bl false,H,I.tok _,rfl,q⟩
 | _=>cases e
theorem ze8:zal X (.builtin "isinstance") (fun xs H Q=>∃x b,xs = [x,.ty "bool"]∧isBool x=some b∧Q (.bl b) H):=by
 intro pins s σ H xs us Q I r h
 obtain⟨x,b,rfl,e,q⟩:=h
 obtain⟨u,t,rfl,ru,rt⟩:=r.two
 cases rt
 cases x with
 | int i=>obtain⟨t',rfl⟩:=ru;cases e;exact IsiPair.int_bool ⟨.bl false,H,I.tok _,rfl,q⟩
 | bl i=>cases ru;cases e;exact IsiPair.bool_bool ⟨.bl true,H,I,rfl,q⟩
 | str i=>obtain⟨t',rfl⟩:=ru;cases e;exact IsiPair.str_bool ⟨.bl false,H,I.tok _,rfl,q⟩
 | non=>cases ru;cases e;exact IsiPair.NoneType_bool ⟨.bl false,H,I.tok _,rfl,q⟩
 | _=>cases e
theorem zfI:zal X (.builtin "isinstance") (fun xs H Q=>∃x b,xs = [x,.ty "str"]∧isStr x=some b∧Q (.bl b) H):=by
 intro pins s σ H xs us Q I r h
 obtain⟨x,b,rfl,e,q⟩:=h
 obtain⟨u,t,rfl,ru,rt⟩:=r.two
 cases rt
 cases x with
 | int i=>obtain⟨t',rfl⟩:=ru;cases e;exact IsiPair.int_str ⟨.bl false,H,I.tok _,rfl,q⟩
 | bl i=>cases ru;cases e;exact IsiPair.bool_str ⟨.bl false,H,I.tok _,rfl,q⟩
 | str i=>obtain⟨t',rfl⟩:=ru;cases e;exact IsiPair.str_str ⟨.bl true,H,I,rfl,q⟩
 | non=>cases ru;cases e;exact IsiPair.NoneType_str ⟨.bl false,H,I.tok _,rfl,q⟩
 | _=>cases e
theorem yx:zal X (.builtin "isinstance") (fun xs H Q=>∃x b,xs = [x,.ty "list"]∧IsLst X.K H x b∧Q (.bl b) H):=by
 intro pins s σ H xs us Q I r h
 obtain⟨x,b,rfl,e,q⟩:=h
 obtain⟨u,t,rfl,ru,rt⟩:=r.two
 cases rt
 cases e with
 | yes hq =>
   cases ru
   obtain⟨its,r,⟨o,n,e,c1,c2,c3⟩,z⟩:=I.list hq
   exact IsiPair.list_list e c1 ⟨.bl true,H,I,rfl,q⟩
 | no hq =>
   cases ru
   obtain⟨its,r,⟨o,e,c1,n,c3⟩,z⟩:=I.tuple hq
   exact IsiPair.tuple_list e c1 ⟨.bl false,H,I.tok _,rfl,q⟩
theorem wQ:zal X (.builtin "isinstance") (fun xs H Q=>∃x b,xs = [x,.ty "tuple"]∧IsTpl X.K H x b∧Q (.bl b) H):=by
 intro pins s σ H xs us Q I r h
 obtain⟨x,b,rfl,e,q⟩:=h
 obtain⟨u,t,rfl,ru,rt⟩:=r.two
 cases rt
 cases e with
 | yes hq =>
   cases ru
   obtain⟨its,r,⟨o,e,c1,n,c3⟩,z⟩:=I.tuple hq
   exact IsiPair.tuple_tuple e c1 ⟨.bl true,H,I,rfl,q⟩
 | no hq =>
   cases ru
   obtain⟨its,r,⟨o,n,e,c1,c2,c3⟩,z⟩:=I.list hq
   exact IsiPair.list_tuple e c1 ⟨.bl false,H,I.tok _,rfl,q⟩
def tRev(K:PySem.W.Frag)(te ts:TE):TE:=fun σ H Q=>te σ H fun x H1=>ts σ H1 fun y H2=>y=.int (-1)∧∃a xs,x=.ref a∧SqL K H2 a xs∧∀p,H2 p=none→Q (.ref p) (upd H2 p (.lst xs.reverse))
theorem pe_rev{e st:Expr}{te ts:TE}{p2 pos:Pos}(he:PE X e te)(hst:PE X st ts):PE X (.Subscript e (.Slice none none (some st) p2) pos) (tRev X.K te ts):=by
 intro pins s σ H Q I h
 refine Subscript_ (thn (he pins s σ H _ I h) fun v s1 ⟨x,H1,I1,r1,q1⟩=>?_)
 refine wpAny_Slice ?_
 rw[evalPart_none]
 refine wpAny_pure (wpAny_pure ?_)
 rw[evalPart_some]
 refine thn (hst pins s1 σ H1 _ I1 q1) fun u s3 ⟨y,H3,I3,r3,q3⟩=>?_
 obtain⟨rfl,a,xs,rfl,hx,q⟩:=q3
 obtain⟨t,rfl⟩:=r3
 cases r1
 have I4:Inv X pins σ H3 { s3 with heap:=s3.heap.push { cls:=.type "slice",data:=.fields #[.none,.none,.int (-1) t] } }:=I3.kept (t':=s3.toks) fun b ob q=>Heap.get?_push_of_some _ q
 obtain⟨its,r,ht,hz⟩:=I4.list hx
 have hlen:=r.length
 show wpAny (model X.prog X.w) X.A (subscriptTail e (.Slice none none (some st) p2) (.ref a) (.ref s3.heap.objs.size)) (EP X pins σ Q) X.xe { s3 with heap:=s3.heap.push { cls:=.type "slice",data:=.fields #[.none,.none,.int (-1) t] } }
 refine tail_any (ops := [.ref a,.ref s3.heap.objs.size]) ht.isList.typeIs slot_list_getitem.lookup ?_ (by with_unfolding_all rfl)
 refine wpAny_getItem_list_slice ht.isList (Heap.IsSliceOf.new ..) .none .none (.int (-1) t) (by decide) ?_ (by rw[List.size_toArray] <;> omega)
 rw[PySem.W.krv_pick]
 refine⟨.ref _,_,I4.laid (t':=s3.toks) (o:=.lst xs.reverse) (fun b ob q=>Heap.get?_push_of_some _ q) (Nat.le_refl _) ?_,rfl,q _ (I4.hok.fresh (Nat.le_refl _))⟩
 exact⟨by rw[List.length_reverse];exact hz,_,0,r.reverse,Heap.get?_push_size _ rfl⟩
end
structure Can (P:Program) (w:World) (K:PySem.W.Frag) (mg:Str→Option Value) (base:Heap) (k:Nat) (x:Str) (ps:List Str) (sp:Sp):Prop where
 ex:∃f fd,FnOk P w K mg base CX0 k f fd ps sp∧mg x=some (.ref f)∧PySem.W.keepIn K (.ref f)=true∧wT K fd ps []
theorem Can.of{P:Program}{w:World}{K:PySem.W.Frag}{mg:Str→Option Value}{base:Heap}{k:Nat}{x:Str}{ps:List Str}{sp:Sp}{f:Addr}{fd:FuncData}{qual:Str}{st:Stmt}
 (F:Fun K x qual st f fd) (G:FnOk P w K mg base CX0 k f fd ps sp) (hm:mg x=some (.ref f)) (b:wT K fd ps []):Can P w K mg base k x ps sp:=⟨f,fd,G,hm,F.kp,b⟩
section
variable {X:Cx} {k:Nat} {x:Str} {ps:List Str} {sp:Sp} {p pos:Pos} {e:Expr} {es:List Expr} {t:TA}
theorem zi(C:Can X.prog X.w X.K X.mg X.base k x ps sp)(hr:Room k X.A)(hg:Gl X x)(ha:PA X (e::es) t)(hdb:(x==("__debug__" : Str))=false:=by decide)(he:starEach (e::es) X.env=(false,eval e X.env)::starEach es X.env:=by rfl)
 (hpl:(backTo pos (starEach es X.env)).any (·.1)=false:=by rfl):PE X (.Call (.Name x p) (e::es) [] pos) (tCall sp [] E0 t):=by
 obtain⟨f,fd,F,hm,hk,hb⟩:=C.ex
 exact pe_call F hr hg hm hk hb .nil pass0 ha hdb he hpl
end
theorem wF{K:PySem.W.Frag}{a:Addr}{xs:List V}{c:St}{tc:TT}{te:TE}{H:Hp}{fin:List V→Hp→Prop}(Pv:Nat→List V→Hp→Prop)(h0:Pv 0 [] H)(hl:∀i ys H,i≤xs.length→Pv i ys H→SqL K H a xs∧ys.length≤i)(hz:xs.length≤sizeLine)
 (hs:∀i x ys H,xs[i]? = some x→Pv i ys H→tc (some x::c) H fun b H2=>if b=true then te (some x::c) H2 fun y H3=>Pv (i+1) (ys ++ [y]) H3 else Pv (i+1) ys H2)
 (hd:∀ys H,Pv xs.length ys H→fin ys H):za4 (Itl K a) c tc te H fin:=by
 refine⟨fun i m ys H=>m=xs.length - i∧i≤xs.length∧Pv i ys H,⟨xs.length,by simp,Nat.zero_le _,h0⟩,?_⟩
 rintro i m ys H ⟨rfl,hi,p⟩
 obtain⟨q,hy⟩:=hl i ys H hi p
 by_cases hlt:i<xs.length
 ·refine .inr ⟨⟨xs,xs[i],q,by simp[hlt]⟩,by omega,Pv (i+1),fun ys' H' p'=>⟨_,by omega,rfl,hlt,p'⟩,fun x H' y=>?_⟩
  obtain⟨e,y⟩:=y
  subst e
  exact hs i x ys _ (y xs q) p
 ·have e:i=xs.length:=by omega
  subst e
  exact .inl ⟨⟨xs,q,Nat.le_refl _⟩,by omega,hd ys H p⟩
theorem zcA{lo:Int}{n:Nat}{c:St}{tc:TT}{te:TE}{H:Hp}{fin:List V→Hp→Prop}(Pv:Nat→List V→Hp→Prop)(h0:Pv 0 [] H)(hl:∀i ys H,i≤n→Pv i ys H→ys.length≤i)(hz:n≤sizeLine)
 (hs:∀i ys H,i<n→Pv i ys H→tc (some (.int (lo+i))::c) H fun b H2=>if b=true then te (some (.int (lo+i))::c) H2 fun y H3=>Pv (i+1) (ys ++ [y]) H3 else Pv (i+1) ys H2)
 (hd:∀ys H,Pv n ys H→fin ys H):za4 (Itr lo n) c tc te H fin:=by
 refine⟨fun i m ys H=>m=n - i∧i≤n∧Pv i ys H,⟨n,by simp,Nat.zero_le _,h0⟩,?_⟩
 rintro i m ys H ⟨rfl,hi,p⟩
 have hy:=hl i ys H hi p
 by_cases hlt:i<n
 ·refine .inr ⟨hlt,by omega,Pv (i+1),fun ys' H' p'=>⟨_,by omega,rfl,hlt,p'⟩,fun x H' y=>?_⟩
  obtain⟨e,y⟩:=y
  subst e y
  exact hs i ys _ hlt p
 ·have e:i=n:=by omega
  subst e
  exact .inl ⟨Nat.le_refl _,by omega,hd ys H p⟩
theorem yq{K:PySem.W.Frag}{a:Addr}{xs:List V}{c:St}{te:TE}{H:Hp}{fin:List V→Hp→Prop}(Pv:Nat→List V→Hp→Prop)(h0:Pv 0 [] H)(hl:∀i ys H,i≤xs.length→Pv i ys H→SqL K H a xs∧ys.length≤i)(hz:xs.length≤sizeLine)
 (hs:∀i x ys H,xs[i]? = some x→Pv i ys H→te (some x::c) H fun y H3=>Pv (i+1) (ys ++ [y]) H3) (hd:∀ys H,Pv xs.length ys H→fin ys H):za4 (Itl K a) c zfS te H fin :=
 wF Pv h0 hl hz (fun i x ys H e p=>zfC (B:=Pv (i+1) ys H) (hs i x ys H e p)) hd
theorem zca{lo:Int}{n:Nat}{c:St}{te:TE}{H:Hp}{fin:List V→Hp→Prop}(Pv:Nat→List V→Hp→Prop)(h0:Pv 0 [] H)(hl:∀i ys H,i≤n→Pv i ys H→ys.length≤i)(hz:n≤sizeLine)
 (hs:∀i ys H,i<n→Pv i ys H→te (some (.int (lo+i))::c) H fun y H3=>Pv (i+1) (ys ++ [y]) H3) (hd:∀ys H,Pv n ys H→fin ys H):za4 (Itr lo n) c zfS te H fin :=
 zcA Pv h0 hl hz (fun i ys H e p=>zfC (B:=Pv (i+1) ys H) (hs i ys H e p)) hd
theorem zcf{X:Cx}{x:Str}{i:Int}{pos:Pos}(h:∃t,X.mg x=some (.int i t))(hg:Gl X x)(hd:(x==("__debug__" : Str))=false:=by decide):PE X (.Name x pos) (tC (.int i)):=by
 obtain⟨t,h⟩:=h
 exact pe_glob hg h ⟨t,rfl⟩ hd
theorem wS{c A B:Prop} [Decidable c](h1:c→A)(h2:¬c→B):if decide c=true then A else B:=by
 by_cases h:c
 ·rw[if_pos (decide_eq_true h)];exact h1 h
 ·rw[if_neg (by rw[decide_eq_false h];exact Bool.false_ne_true)];exact h2 h
theorem yH{c A B:Prop} [Decidable c](h1:¬c→A)(h2:c→B):if(!decide c)=true then A else B:=by
 by_cases h:c
 ·rw[decide_eq_true h];exact zaT (h2 h)
 ·rw[decide_eq_false h];exact zfC (h1 h)
theorem zgy{b:Bool}{A B:Prop}(h1:b=true→A)(h2:b=false→B):if b=true then A else B:=by
 cases b with
 | true=>exact zfC (h1 rfl)
 | false=>exact zaT (h2 rfl)
theorem zh.new{H:Hp}{l:Addr}{o:HO}(h:H l=Option.none):zh H (upd H l o):=fun b u e=>by rw[zj (zq e h)];exact e
theorem zh.newT{H H':Hp}{l:Addr}{o:HO}(s:zh H H')(h:H' l=Option.none):zh H (upd H' l o):=s.trans (zh.new h)
theorem zh.put{H H':Hp}{l:Addr}{o:HO}(s:zh H H')(h:H l=Option.none):zh H (upd H' l o):=fun b u e=>by rw[zj (zq e h)];exact s b u e
theorem zh.seqT{K:PySem.W.Frag}{H H':Hp}{a:Addr}{xs:List V}(e:zh H H')(h:SqT K H a xs):SqT K H' a xs:=by
 rcases h with(h | ⟨o,h⟩) | h
 ·exact .inl (.inl (e _ _ h))
 ·exact .inl (.inr ⟨o,e _ _ h⟩)
 ·exact .inr h
theorem SqL.new{K:PySem.W.Frag}{H:Hp}{l:Addr}{xs:List V}:SqL K (upd H l (.lst xs)) l xs:=SqL.of zf
theorem SqT.new{K:PySem.W.Frag}{H:Hp}{l:Addr}{xs:List V}:SqT K (upd H l (.tup xs)) l xs:=SqT.of zf
theorem zgb{xs:List V}{i:Int}{v:V}(h0:0≤i)(h:xs[i.toNat]? = some v):atI xs i=some v:=by
 have:=zW h
 rwa [Int.toNat_of_nonneg h0] at this
theorem zax{ns:List Int}{i:Nat}(h:i<ns.length):(ns.map V.int)[i]? = some (.int (ns.getD i 0)):=by
 rw[List.getElem?_map,List.getElem?_eq_getElem h,List.getD_eq_getElem?_getD,List.getElem?_eq_getElem h];rfl
theorem zbk{ns:List Int}{i:Int}(h0:0≤i)(h:i<ns.length):atI (ns.map V.int) i=some (.int (ns.getD i.toNat 0)):=zgb h0 (zax (by omega))
theorem zP(ns:List Int):(ns.map V.int).all wv=true:=by
 rw[List.all_map];exact List.all_eq_true.mpr fun _ _=>rfl
theorem yn(ns:List Int)(c:Int):ixV (ns.map V.int) (.int c)=ns.idxOf c:=by
 unfold ixV
 induction ns with
 | nil=>rfl
 | cons a ns ih =>
   rw[List.map_cons,List.findIdx_cons,List.idxOf_cons,ih]
   rfl
theorem zgJ(ns:List Int)(c:Int):inV (.int c) (ns.map V.int)=decide (c∈ns):=by
 unfold inV
 induction ns with
 | nil=>rfl
 | cons a ns ih =>
   rw[List.map_cons,List.any_cons,ih]
   show((a==c) || _)=_
   by_cases h:a=c
   ·subst h;simp
   ·have:¬c=a:=fun e=>h e.symm
    simp[h,this]
theorem zdY{xs:List V}{k:Int}(h:0≤k):zdS xs (some k) none=xs.drop k.toNat:=by
 obtain⟨n,rfl⟩:=Int.eq_ofNat_of_zero_le h
 unfold zdS
 rw[HT.sIx_none]
 show(xs.drop (HT.sIx xs.length 0 (some ((n:Nat):Int)))).take _=_
 rw[HT.sIx_nat,Int.toNat_natCast]
 by_cases h:n≤xs.length
 ·rw[Nat.min_eq_left h,List.take_of_length_le (by rw[List.length_drop];exact Nat.le_refl _)]
 ·rw[Nat.min_eq_right (by omega),List.drop_of_length_le (Nat.le_refl _),List.drop_of_length_le (by omega),List.take_nil]
theorem cut_upto{xs:List V}{k:Int}(h:0≤k):zdS xs none (some k)=xs.take k.toNat:=by
 obtain⟨n,rfl⟩:=Int.eq_ofNat_of_zero_le h
 unfold zdS
 rw[HT.sIx_none,List.drop_zero]
 show xs.take (HT.sIx xs.length xs.length (some ((n:Nat):Int)) - 0)=_
 rw[HT.sIx_nat,Int.toNat_natCast,Nat.sub_zero]
 by_cases h:n≤xs.length
 ·rw[Nat.min_eq_left h]
 ·rw[Nat.min_eq_right (by omega),List.take_of_length_le (Nat.le_refl _),List.take_of_length_le (by omega)]
theorem zdb{ns:List Int}{k:Int}(h:0≤k):zdS (ns.map V.int) (some k) none=(ns.drop k.toNat).map V.int:=by rw[zdY h,List.map_drop]
theorem zfm{ns:List Int}{k:Int}(h:0≤k):zdS (ns.map V.int) none (some k)=(ns.take k.toNat).map V.int:=by rw[cut_upto h,List.map_take]
theorem zw:1000000≤sizeLine:=by decide
theorem seqIx_ok{i:Int}{n:Nat}(h0:0≤i)(h1:i<n):seqIndex? i n=some i.toNat:=by
 have e:(if i<0 then i+(n:Int)else i)=i:=if_neg (by omega)
 unfold seqIndex?
 simp only[e]
 rw[if_pos (by simp only[Bool.and_eq_true,decide_eq_true_eq];exact⟨h0,h1⟩)]
theorem zfy{α β:Type}(f:α→β):∀(l:List α) (i:Nat),(l.map f).eraseIdx i=(l.eraseIdx i).map f
 | [],_=>rfl
 | _::_,0=>rfl
 | a::l,i+1=>by
   show f a::(l.map f).eraseIdx i=f a::(l.eraseIdx i).map f
   rw[zfy f l i]
theorem zd3{α:Type}:∀(l:List α) (i:Nat) (h:i<l.length),(l[i]::l.eraseIdx i).Perm l
 | a::l,0,_=>List.Perm.refl _
 | a::l,i+1,h=>(List.Perm.swap a (l[i]'(by simpa using h)) (l.eraseIdx i)).trans ((zd3 l i (by simpa using h)).cons a)
theorem wX{ns:List Int}{i:Nat}(hi:i<ns.length):ns.take (i+1)=ns.take i ++ [ns.getD i 0]:=by
 rw[List.take_succ,List.getElem?_eq_getElem hi,List.getD_eq_getElem?_getD,List.getElem?_eq_getElem hi];rfl
theorem zah{ns:List Int}{i:Nat}{x:V}(hx:(ns.map V.int)[i]? = some x):i<ns.length∧x=.int (ns.getD i 0):=by
 have hi:i<ns.length:=by have:=(List.getElem?_eq_some_iff.mp hx).1;rwa [List.length_map] at this
 refine⟨hi,?_⟩
 rw[zax hi] at hx
 exact(Option.some.inj hx).symm
theorem zc2{ns:List Int}{i:Nat}(hi:i<ns.length):ns.getD i 0=ns[i]:=by rw[List.getD_eq_getElem?_getD,List.getElem?_eq_getElem hi];rfl
theorem wk{ns:List Int}{i:Nat}(hi:i<ns.length):ns.getD i 0∈ns:=by rw[zc2 hi];exact List.getElem_mem hi
def eqL:List V→List V→Bool
 | [],[]=>true
 | x::xs,y::ys=>eqV x y && eqL xs ys
 | _,_=>false
def zik(xs ys:List V)(j:Nat):Bool:=match xs[j]?,ys[j]? with
 | some x,some y=>eqV x y
 | _,_=>false
theorem zcp:∀{xs ys:List V},xs.length=ys.length→(List.range xs.length).all (zik xs ys)=eqL xs ys
 | [],[],_=>rfl
 | x::xs,y::ys,h=>by
   have h':xs.length=ys.length:=by simpa using h
   show(List.range (xs.length+1)).all _=(eqV x y && eqL xs ys)
   rw[List.range_succ_eq_map,List.all_cons,List.all_map,← zcp h']
   rfl
theorem zdW:∀{xs ys:List V},xs.length≠ys.length→eqL xs ys=false
 | [],[],h=>absurd rfl h
 | [],_::_,_=>rfl
 | _::_,[],_=>rfl
 | x::xs,y::ys,h=>by
   show(eqV x y && eqL xs ys)=false
   rw[zdW (fun e=>h (by simp[e])),Bool.and_false]
theorem zbr:∀(ns ms:List Int),eqL (ns.map V.int) (ms.map V.int)=decide (ns=ms)
 | [],[]=>rfl
 | [],_::_=>rfl
 | _::_,[]=>rfl
 | a::ns,b::ms=>by
   show((a==b) && eqL (ns.map V.int) (ms.map V.int))=_
   rw[zbr ns ms]
   by_cases h:a=b
   ·subst h;simp
   ·simp[h]
theorem zh1{A:Around}{s:Shared}{xs ys:List V}{us vs:List Value}(ru:zA xs us)(rv:zA ys vs)(fx:xs.all wv=true)(fy:ys.all wv=true):
 ∀j (h1:j<us.toArray.size) (h2:j<vs.toArray.size),SeqAt.EqAt A s us.toArray[j] vs.toArray[j] (zik xs ys j):=fun j h1 h2=>by
 have l1:=ru.length
 have l2:=rv.length
 have h1':j<us.length:=by simpa using h1
 have h2':j<vs.length:=by simpa using h2
 obtain⟨u,eu,r1⟩:=ru.get (i:=j) (x:=xs[j]) (List.getElem?_eq_getElem (by omega))
 obtain⟨v,ev,r2⟩:=rv.get (i:=j) (x:=ys[j]) (List.getElem?_eq_getElem (by omega))
 have e1:us.toArray[j]=u:=by rw[List.getElem_toArray];rw[List.getElem?_eq_getElem h1'] at eu;exact Option.some.inj eu
 have e2:vs.toArray[j]=v:=by rw[List.getElem_toArray];rw[List.getElem?_eq_getElem h2'] at ev;exact Option.some.inj ev
 rw[e1,e2]
 have ej:zik xs ys j=eqV xs[j] ys[j]:=by unfold zik;rw[List.getElem?_eq_getElem (by omega),List.getElem?_eq_getElem (by omega)]
 rw[ej]
 exact eqAt_V r1 r2 (List.all_eq_true.mp fx _ (List.getElem_mem _)) (List.all_eq_true.mp fy _ (List.getElem_mem _))
section
variable {X:Cx}
def rEqL(K:PySem.W.Frag):R2:=fun x y H Q=>∃a b xs ys,x=.ref a∧y=.ref b∧SqL K H a xs∧SqL K H b ys∧xs.all wv=true∧ys.all wv=true∧Q (.bl (eqL xs ys)) H
theorem zhR(hu:X.A.units<cLine):OpR X (compareOp .Eq) (rEqL X.K):=by
 intro pins s σ H x y v u Q I rx ry h
 obtain⟨a,b,xs,ys,rfl,rfl,ha,hb,fx,fy,q⟩:=h
 cases rx
 cases ry
 obtain⟨its,r1,p1,z1⟩:=I.list ha
 obtain⟨its2,r2,p2,z2⟩:=I.list hb
 have l1:=r1.length
 have l2:=r2.length
 by_cases hl:xs.length=ys.length
 ·refine SeqAt.eq_listAt p1.isList p2.isList (by simp;omega) hu (zh1 r1 r2 fx fy) ⟨.bl (eqL xs ys),H,I,?_,q⟩
  rw[List.size_toArray,← l1,zcp hl]
  rfl
 ·refine SeqAt.eq_list_lengthsAt p1.isList p2.isList (by simp;omega) hu ⟨.bl (eqL xs ys),H,I,?_,q⟩
  rw[zdW hl]
  rfl
theorem zfX{ns:List Int}:∀{us:List Value},IntsAre us ns→zA (ns.map V.int) us:=by
 intro us h
 induction h with
 | nil=>exact .nil
 | cons n t _ ih=>exact .cons ⟨t,rfl⟩ ih
theorem zb7:zal X (.builtin "sorted") (fun xs H Q=>∃(a:Addr) (ns:List Int),xs = [.ref a]∧SqL X.K H a (ns.map V.int)∧ns.length<64∧∀(l:Addr) (ms:List Int),H l=none→ms.Perm ns→ms.Pairwise (·≤ ·)→Q (.ref l) (upd H l (.lst (ms.map V.int)))):=by
 intro pins s σ H xs us Q I r h
 obtain⟨a,ns,rfl,hS,hz,q⟩:=h
 obtain⟨u,rfl,ru⟩:=r.one
 cases ru
 obtain⟨its,r1,p1,z1⟩:=I.list hS
 have l1:=r1.length
 rw[List.length_map] at l1
 refine sorted_ints p1.isList (zbF r1) (by omega) fun out ns' hI hp hw=>?_
 obtain⟨e,he⟩:=sortedAll_at s.heap its out
 have hf:H (s.heap.objs.size+1)=none:=I.hok.fresh (Nat.le_succ _)
 have hv:=zfX hI
 have hlen:ns'.length<64:=by rw[hp.length_eq];exact hz
 refine⟨.ref (s.heap.objs.size+1),upd H (s.heap.objs.size+1) (.lst (ns'.map V.int)),I.laid (t':=s.toks) (fun b o e=>sortedAll_old e) (Nat.le_succ _) ⟨?_,out.toList,e,hv,?_⟩,rfl,q _ ns' hf hp hw⟩
 ·rw[List.length_map];have:=zw;omega
 ·exact he
end
section
variable {X:Cx}
theorem bools_at{bs:List Bool}{us:List Value}(r:zA (bs.map V.bl) us){i:Nat}{v:Value}(h:us[i]? = some v):v=.bool (bs.getD i false):=by
 have hl:=r.length
 rw[List.length_map] at hl
 have hi:i<bs.length:=by rw[hl];exact(List.getElem?_eq_some_iff.mp h).1
 obtain⟨u,e,ru⟩:=r.get (i:=i) (x:=.bl bs[i]) (by rw[List.getElem?_map,List.getElem?_eq_getElem hi];rfl)
 rw[e] at h
 cases h
 rw[List.getD_eq_getElem?_getD,List.getElem?_eq_getElem hi]
 exact ru
theorem range_all(bs:List Bool):(List.range bs.length).all (fun i=>bs.getD i false)=bs.all id:=by
 induction bs with
 | nil=>rfl
 | cons b bs ih =>
   rw[List.length_cons,List.range_succ_eq_map,List.all_cons,List.all_map,List.all_cons,← ih]
   rfl
theorem zes(hc:X.calm=true):zal X (.builtin "all") (fun xs H Q=>∃(a:Addr) (bs:List Bool),xs = [.ref a]∧SqL X.K H a (bs.map V.bl)∧Q (.bl (bs.all id)) H):=by
 intro pins s σ H xs us Q I r h
 obtain⟨a,bs,rfl,hS,q⟩:=h
 obtain⟨u,rfl,ru⟩:=r.one
 cases ru
 obtain⟨its,r1,p1,z1⟩:=I.list hS
 have l1:=r1.length
 rw[List.length_map] at l1
 have hlt:a<s.heap.objs.size:=by obtain⟨o,n,e,_⟩:=p1;exact Heap.lt_size e
 refine call_all_walk (wpAny_pyIter_list p1.isList ?_)
 have I1:Inv X pins σ H { s with heap:=s.heap.push { cls:=.type "list_iterator",data:=.fields #[.ref a,.int 0 0] } }:=I.kept (t':=s.toks) fun b o e=>Heap.get?_push_of_some _ e
 refine⟨s.heap.objs.size,_,_,its.toArray.size,_,_,fun i=>bs.getD i false,rfl,Walks.list (by simpa using I.ok.hd hc) s.heap.objs.size a (Nat.ne_of_lt hlt) its.toArray,⟨⟨_,Heap.get?_push_size _ rfl,rfl,rfl⟩,p1.isList.push _⟩,?_,fun h' tk hk=>?_⟩
 ·intro i v s' Q' E' hP hQ
  have:=bools_at r1 (i:=i) (v:=v) (by simpa using hP)
  subst this
  exact wpAny_truthy_bool hQ
 ·have f:=I.fpOk (H':=H) (Nat.le_refl _) (I.hok.fresh (Nat.le_refl _))
  refine⟨.bl (bs.all id),H,I1.turned (it:=s.heap.objs.size) (fun b o hb e=>hk b o (by simpa using hb) e) f.1 f.2.1 f.2.2.2.1 f.2.2.2.2.1 f.2.2.2.2.2,?_,q⟩
  rw[List.size_toArray,← l1,range_all]
  rfl
theorem zfT(hc:X.calm=true):zal X (.type "set") (fun xs H Q=>∃(a:Addr) (ns:List Int),xs = [.ref a]∧SqL X.K H a (ns.map V.int)∧ns.length<4000 ∧
 ∀l,H l=none→Q (.ref l) (upd H l (.set (fun k=>(firstMet (fun i=>ns.getD i 0) ns.length).any (·== k)) (firstMet (fun i=>ns.getD i 0) ns.length).length))):=by
 intro pins s σ H xs us Q I r h
 obtain⟨a,ns,rfl,hS,hz,q⟩:=h
 obtain⟨u,rfl,ru⟩:=r.one
 cases ru
 obtain⟨its,r1,p1,z1⟩:=I.list hS
 have l1:=r1.length
 rw[List.length_map] at l1
 have hsb:scanBound=4096:=rfl
 refine call_set_list (ns:=ns) (I.ok.hd hc) p1.isList (by simpa using zbF r1) (by rw[List.size_toArray];omega) fun h' tk hset hk=>?_
 have esz:its.toArray.size=ns.length:=by rw[List.size_toArray];omega
 rw[esz] at hset
 refine⟨.ref s.heap.objs.size,_,I.laid (t':=tk) (o:=.set _ _) (fun b o e=>hk b o (Heap.lt_size e) e) (Nat.le_refl _) hset,rfl,q _ (I.hok.fresh (Nat.le_refl _))⟩
theorem call_len_set:zal X (.builtin "len") (fun xs H Q=>∃a S n,xs = [.ref a]∧H a=some (.set S n)∧Q (.int n) H):=by
 intro pins s σ H xs us Q I r h
 obtain⟨a,S,n,rfl,hS,q⟩:=h
 obtain⟨u,rfl,ru⟩:=r.one
 cases ru
 obtain⟨o,es,ep,t,ho,hex,hd,_,_,hsz,hf,hn⟩:=I.hok a _ hS
 have hsb:scanBound=4096:=rfl
 refine PySem.call_len_set ho hex hd hf (by omega) ⟨.int n,H,I.tok _,⟨s.toks+1,?_⟩,q⟩
 rw[hn]
end
theorem ze1(ns:List Int):firstMet (fun i=>ns.getD i 0) ns.length=ns.foldl step_dedup []:=by
 unfold firstMet
 congr 1
 refine List.ext_getElem (by simp) fun i h1 h2=>?_
 rw[List.getElem_map,List.getElem_range,List.getD_eq_getElem?_getD,List.getElem?_eq_getElem h2]
 rfl
theorem dedup_le(acc ns:List Int):(ns.foldl step_dedup acc).length≤acc.length+ns.length:=by
 induction ns generalizing acc with
 | nil=>exact Nat.le_refl _
 | cons a ns ih =>
   rw[List.foldl_cons]
   refine Nat.le_trans (ih _) ?_
   rw[step_length,List.length_cons]
   split <;> omega
theorem zhp(acc ns:List Int)(hacc:acc.Nodup):(ns.foldl step_dedup acc).length=acc.length+ns.length↔(acc++ns).Nodup:=by
 induction ns generalizing acc with
 | nil=>simpa using hacc
 | cons a ns ih =>
   rw[List.foldl_cons]
   by_cases h:acc.any (·== a)=true
   ·have e:step_dedup acc a=acc:=by unfold step_dedup;rw[if_pos h]
    rw[e]
    have hm:a∈acc:=by
     obtain⟨x,hx,hb⟩:=List.any_eq_true.mp h
     have:x=a:=by simpa using hb
     rw[← this];exact hx
    constructor
    ·intro q
     have:=dedup_le acc ns
     rw[List.length_cons] at q
     omega
    ·intro q
     rw[List.nodup_append] at q
     exact absurd rfl (q.2.2 a hm a List.mem_cons_self)
   ·have e:step_dedup acc a=acc ++ [a]:=by unfold step_dedup;rw[if_neg h]
    have hm:a∉acc:=fun hm=>h (List.any_eq_true.mpr ⟨a,hm,by simp⟩)
    have hn:(acc ++ [a]).Nodup:=by
     rw[List.nodup_append]
     exact⟨hacc,by simp,fun x hx y hy z=>hm (by rw[List.mem_singleton.mp hy] at z;rw[← z];exact hx)⟩
    rw[e]
    have:=ih (acc ++ [a]) hn
    rw[List.append_assoc,List.singleton_append] at this
    rw[← this,List.length_append,List.length_singleton,List.length_cons]
    omega
theorem zg0(ns:List Int):(firstMet (fun i=>ns.getD i 0) ns.length).length=ns.length↔ns.Nodup:=by
 rw[ze1]
 have:=zhp [] ns List.nodup_nil
 simpa using this
def tMid(t:TS):TS:=fun D σ H=>∃P:St→Hp→Prop,t { D with nx:=P } σ H∧∀σ' H',P σ' H'→D.nx σ' H'
theorem zgf{X:Cx}{st:Stmt}{t:TS}(h:PS X st t):PS X st (tMid t):=by
 intro pins s σ H D I hw
 obtain⟨P,h1,h2⟩:=hw
 refine thn (h pins s σ H _ I h1) fun f s' q=>?_
 cases f with
 | next=>obtain⟨σ',H',I',q⟩:=q;exact⟨σ',H',I',h2 _ _ q⟩
 | brk=>exact q
 | cont=>exact q
 | ret u=>exact q
structure Fly (P:Program) (w:World) (outer:List Env) (H:Hp) (s:Shared) (x:Addr) (cls:Value) (H':Hp) (s':Shared):Prop where
 os:s'.os=s.os
 bare:AllBare s'.gens
 ex:∃B a0,Heap.FlyingW B outer x cls a0 s'.heap∧HOk P w H' B∧(∀b o,s.heap.get? b=some o→H b=none→b∉frs outer→B.get? b=some o)∧∀b o,s.heap.get? b=some o→b∉frs outer→∃o',B.get? b=some o'
 slot:∀b o,s.heap.get? b=some o→H b=none→b∈frs outer→∃sl,s'.heap.get? b=some { o with slots:=sl }
 free:∀b o,s.heap.get? b=some o→H b=none→H' b=none
 tups:∀b xs,H b=some (.tup xs)→H' b=some (.tup xs)
 frzs:∀b o u,H b=some (.frz o u)→H' b=some (.frz o u)
 tbls:∀b ps,H b=some (.tbl ps)→∃more,H' b=some (.tbl (ps++more))
 new:H' x=none
def CX1(P:Program)(w:World):CXT:=fun outer H s E e s'=>∃x cls H',e=.ref x∧Fly P w outer H s x cls H' s'∧E cls none H'
section
variable {P:Program} {w:World} {outer:List Env} {H H':Hp} {s s':Shared} {x:Addr} {cls:Value}
theorem yF.obj{H:Hp}{h:Heap}{a:Addr}{o:HO}(x:yF P w H h a o):∃ob,h.get? a=some ob:=by
 cases o with
 | lst xs=>obtain⟨_,_,_,_,e⟩:=x;exact⟨_,e⟩
 | tup xs=>obtain⟨_,_,_,ob,e,_⟩:=x;exact⟨ob,e⟩
 | dK kvs=>obtain⟨_,_,_,_,o,_,_,e,_⟩:=x;exact⟨o,e⟩
 | dT kvs=>obtain⟨_,_,_,_,o,_,_,e,_⟩:=x;exact⟨o,e⟩
 | set S n=>obtain⟨o,_,_,_,e,_⟩:=x;exact⟨o,e⟩
 | ins C dx fs=>obtain⟨_,_,_,e,_⟩:=x;exact⟨_,e⟩
 | own y=>obtain⟨o,e⟩:=x;exact⟨o,e⟩
 | xd fs=>obtain⟨_,⟨o,_,_,e,_⟩,_⟩:=x;exact⟨o,e⟩
 | rng lo hi=>obtain⟨_,_,_,e⟩:=x;exact⟨_,e⟩
 | frz ob u=>obtain⟨e,_⟩:=x;exact⟨_,e⟩
 | tbl ps=>exact⟨_,(show h.get? a=some _ from x)⟩
 | met f y=>exact⟨_,(show h.get? a=some _ from x)⟩
 | ext φ=>obtain⟨_,⟨o,e⟩,_⟩:=x;exact⟨o,e⟩
end
section
variable {X:Cx} {pins:List (Addr × Obj)} {σ:St} {H H':Hp} {s s':Shared} {x:Addr} {cls:Value}
def zaB(h:Heap)(l:List Env):Heap:=PySem.W.hideAll h (frs l)
theorem za9{h:Heap}{l:List Env}{b:Addr}{o:Obj}(e:h.get? b=some o)(n:b∉frs l):(zaB h l).get? b=some o:=PySem.W.hideAll_get _ e n
theorem zf3{h:Heap}{l:List Env}{b:Addr}{o:Obj}(e:(zaB h l).get? b=some o):h.get? b=some o:=PySem.W.of_hideAll _ e
theorem Inv.frameOk(I:Inv X pins σ H s):HOk X.prog X.w H (zaB s.heap X.stack):=fun a o e =>
 (I.hok a o e).stay (fun b u hb q=>za9 q fun z=>by
   have n:=I.stkFree b z
   rcases hb with hb | hb
   ·rw[hb,e] at n;cases n
   ·rw[n] at hb;cases hb) (fun _ q=>q) fun _ _ q=>q
end
abbrev XW:=St→Value→Hp→Prop
def Fl(X:Cx)(W:XW):Prop:=∀(pins:List (Addr × Obj)) (σ:St) (H:Hp) (s:Shared) (x:Addr) (cls:Value) (H':Hp) (s':Shared),Inv X pins σ H s→Fly X.prog X.w X.stack H s x cls H' s'→W σ cls H'→X.xe (.ref x) s'
def Md(X:Cx)(W:XW):Prop:=∀(pins:List (Addr × Obj)) (σ:St) (H:Hp) (s:Shared) (x:Addr) (cls:Value) (args:List Value) (h':Heap),Inv X pins σ H s→Heap.MadeExcOf s.heap h' x cls args→W σ cls H→X.xe (.ref x) { s with heap:=h' }
section
variable {P:Program} {w:World} {K:PySem.W.Frag} {mg:Str→Option Value} {base:Heap} {N:List Str} {qual:Str} {scope:Scope} {f:Addr} {cd:Value} {A:Around} {outer:List Env} {s0:Shared} {H0:Hp} {E:XK}
theorem fly_def:Fl (zaL (CX1 P w) P w K mg base N qual scope f cd A outer s0 H0 E) fun _ cls H'=>E cls none H':=by
 intro pins σ H s x cls H' s' I fl hE
 obtain⟨B,a0,hfl,hB,k1,k2⟩:=fl.ex
 have hst:frs (envOfC qual scope s0.heap.objs.size f cd::outer)=s0.heap.objs.size::frs outer:=rfl
 have old:∀b o,s0.heap.get? b=some o→b∉frs outer→b∉frs (envOfC qual scope s0.heap.objs.size f cd::outer):=fun b o e hb=>by
  rw[hst]
  exact fun z=>(List.mem_cons.mp z).elim (fun q=>absurd (Heap.lt_size e) (by rw[q];exact Nat.lt_irrefl _)) hb
 refine wpAny_leaves_onW (base:=B) (L:=s0.heap.objs.size) I.ok.frames rfl hfl fun h2 hfl2 up=>?_
 refine⟨x,cls,H',rfl,⟨fl.os.trans I.os,fl.bare,⟨B,a0,hfl2,hB,fun b o e n hb=>?_,fun b o e hb=>?_⟩,fun b o e n hb=>?_,fun b o e n=>?_,fun b xs e=>fl.tups b xs (I.base.tups b xs e),fun b o u e=>fl.frzs b o u (I.base.frzs b o u e),fun b ps e=>?_,fl.new⟩,hE⟩
 ·exact k1 b o (I.base.keep b o e n hb (by simp[zaL])) (I.base.free b o e n (by simp[zaL])) (old b o e hb)
 ·obtain⟨o1,e1⟩:=I.base.there b o e (by simp[zaL])
  exact k2 b o1 e1 (old b o e hb)
 ·obtain⟨sl,e1⟩:=I.base.slot b o e n hb (by simp[zaL])
  obtain⟨sl2,e2⟩:=fl.slot b _ e1 (I.base.free b o e n (by simp[zaL])) (List.mem_cons_of_mem _ hb)
  obtain⟨_,o',e',d⟩:=I.ok.funs.mem hb
  have eo:o'=o:=by
   have e'':s0.heap.get? b=some o':=e'
   rw[e] at e'';exact(Option.some.inj e'').symm
  subst eo
  obtain⟨sl3,e3⟩:=up b _ e2 d
  exact⟨sl3,e3⟩
 ·obtain⟨o1,e1⟩:=I.base.there b o e (by simp[zaL])
  exact fl.free b o1 e1 (I.base.free b o e n (by simp[zaL]))
 ·obtain⟨m1,e1⟩:=I.base.tbls b ps e
  obtain⟨m2,e2⟩:=fl.tbls b _ e1
  exact⟨m1++m2,by rw[e2,Array.append_assoc]⟩
theorem md_def:Md (zaL (CX1 P w) P w K mg base N qual scope f cd A outer s0 H0 E) fun _ cls H'=>E cls none H':=by
 intro pins σ H s x cls args h' I mk hE
 have hst:frs (envOfC qual scope s0.heap.objs.size f cd::outer)=s0.heap.objs.size::frs outer:=rfl
 have old:∀b o,s0.heap.get? b=some o→b∉frs outer→b∉frs (envOfC qual scope s0.heap.objs.size f cd::outer):=fun b o e hb=>by
  rw[hst]
  exact fun z=>(List.mem_cons.mp z).elim (fun q=>absurd (Heap.lt_size e) (by rw[q];exact Nat.lt_irrefl _)) hb
 have hl:s.heap.FunFrames (zaB s.heap (envOfC qual scope s0.heap.objs.size f cd::outer)) (envOfC qual scope s0.heap.objs.size f cd::outer) :=
  PySem.W.funFrames_hide I.stack fun env he b hb=>List.mem_filterMap.mpr ⟨env,he,hb⟩
 have hB:HOk P w H (zaB s.heap (envOfC qual scope s0.heap.objs.size f cd::outer)):=I.frameOk
 have hx:H x=none:=by
  cases q:H x with
  | none=>rfl
  | some o =>
    obtain⟨o',e⟩:=(I.hok x o q).obj
    rw[mk.new] at e;cases e
 refine wpAny_leaves_madeW (L:=s0.heap.objs.size) (h:=s.heap) (base:=zaB s.heap (envOfC qual scope s0.heap.objs.size f cd::outer)) I.ok.frames rfl (fun b o e=>zf3 e) hl mk fun h2 t hfl2 _ _ up=>?_
 refine⟨x,cls,H,rfl,⟨I.os,I.bare,⟨_,_,hfl2,hB,fun b o e n hb=>?_,fun b o e hb=>?_⟩,fun b o e n hb=>?_,fun b o e n=>I.base.free b o e n (by simp[zaL]),I.base.tups,I.base.frzs,I.base.tbls,hx⟩,hE⟩
 ·exact za9 (I.base.keep b o e n hb (by simp[zaL])) (old b o e hb)
 ·obtain⟨o1,e1⟩:=I.base.there b o e (by simp[zaL])
  exact⟨o1,za9 e1 (old b o e hb)⟩
 ·obtain⟨sl,e1⟩:=I.base.slot b o e n hb (by simp[zaL])
  obtain⟨_,o',e',d⟩:=I.ok.funs.mem hb
  have eo:o'=o:=by
   have e'':s0.heap.get? b=some o':=e'
   rw[e] at e'';exact(Option.some.inj e'').symm
  subst eo
  obtain⟨sl3,e3⟩:=up b _ (mk.keeps _ _ e1) d
  exact⟨sl3,e3⟩
end
abbrev TJ:=St→Hp→Str→(Str→Hp→Prop)→Prop
def PJ(X:Cx)(es:List Expr)(t:TJ):Prop :=
 ∀(pins:List (Addr × Obj)) (s:Shared) (σ:St) (H:Hp) (acc:Str) (Q:Str→Hp→Prop),Inv X pins σ H s→t σ H acc Q →
  wpAny (model X.prog X.w) X.A (joinParts acc (evalEach es X.env)) (EP X pins σ fun v H'=>∃y,v=.str y∧Q y H') X.xe s
def jNil:TJ:=fun _ H acc Q=>acc.length≤sizeLine∧Q acc H
def jCons(te:TE)(t:TJ):TJ:=fun σ H acc Q=>te σ H fun x H1=>∃y,x=.str y∧(acc++y).length≤sizeLine∧t σ H1 (acc++y) Q
def tFmt(te:TE):TE:=fun σ H Q=>te σ H fun x H1=>(∃i,x=.int i∧i.natAbs.log2<1920∧Q (.str (toString i)) H1)∨(∃y,x=.str y∧y.length≤sizeLine∧Q (.str y) H1)
def tJoin(t:TJ):TE:=fun σ H Q=>t σ H Str.empty fun y H1=>Q (.str y) H1
section
variable {X:Cx} {e v1 v2:Expr} {es:List Expr} {te:TE} {t:TJ} {pos:Pos}
theorem pj_nil:PJ X [] jNil:=fun pins s σ H acc Q I h=>joinParts_nil ⟨.str acc,H,I.tok _,⟨_,rfl⟩,acc,rfl,h.2⟩ h.1
theorem zfD(he:PE X e te)(hr:PJ X es t):PJ X (e::es) (jCons te t):=by
 intro pins s σ H acc Q I h
 show wpAny _ _ (joinParts acc (eval e X.env::evalEach es X.env)) _ _ s
 refine joinParts_cons (thn (he pins s σ H _ I h) fun u s1 ⟨x,H1,I1,r1,y,ey,hz,q⟩=>?_)
 subst ey
 obtain⟨t',rfl⟩:=r1
 exact⟨hz,hr pins s1 σ H1 _ Q I1 q⟩
theorem pe_fmt(he:PE X e te):PE X (.FormattedValue e (-1) none pos) (tFmt te):=by
 intro pins s σ H Q I h
 refine FormattedValue_plain (thn (he pins s σ H _ I h) fun u s1 ⟨x,H1,I1,r1,q⟩=>?_)
 rcases q with⟨i,ex,hd,q⟩ | ⟨y,ex,hz,q⟩
 ·subst ex
  obtain⟨t',rfl⟩:=r1
  exact formatField_int_small hd ⟨.str (toString i),H1,I1.tok _,⟨_,rfl⟩,q⟩
 ·subst ex
  obtain⟨t',rfl⟩:=r1
  exact formatField_str (fun t2 tk=>⟨.str y,H1,I1.tok _,⟨_,rfl⟩,q⟩) hz
theorem pe_fstr{zcJ:List Expr}(h:PJ X (v1::v2::zcJ) t):PE X (.JoinedStr (v1::v2::zcJ) pos) (tJoin t):=by
 intro pins s σ H Q I q
 exact JoinedStr_many (thn (h pins s σ H Str.empty _ I q) fun u s1 ⟨x,H1,I1,r1,y,ey,q1⟩=>⟨x,H1,I1,r1,by subst ey;exact q1⟩)
end
theorem zfO{x y:Str}{a b:Nat}(hx:x.length≤a)(hy:y.length≤b):(x++y).length≤a+b:=by rw[strLen_append];omega
def bmV:List Value := [.type "ValueError",.type "Exception",.type "BaseException",.type "object"]
abbrev ExC(K:PySem.W.Frag)(C:Addr):Prop:=PySem.W.excIn K C bmV "ValueError.__new__" = true
def subIn(K:PySem.W.Frag)(C D:Addr):Bool:=match K.lookup C with
 | some ⟨_,_,.cls cd,_⟩=>cd.mro.contains (.ref D)
 | _=>false
theorem exc_obj{K:PySem.W.Frag}{h:Heap}{C:Addr}(hk:K.In h)(q:ExC K C):∃tl N nm qn bs hd sn sb ab cl dd a0 a1 a2 a3 a5 mN,
 h.get? C=some (excClassObj nm qn C N bs tl hd sn sb ab cl dd a0 a1 a2 a3 a5 "ValueError.__new__")∧h.Ns N mN∧mN "__init__" = none∧OwnTail h bmV tl∧∀D,(Value.ref C::tl).contains (.ref D)=subIn K C D:=by
 unfold ExC PySem.W.excIn at q
 split at q
 next dd cd sl ho =>
  split at q
  next C' tl a0 a1 a2 a3 n a5 em es =>
   simp only[Bool.and_eq_true,beq_iff_eq,Bool.not_eq_true'] at q
   obtain⟨⟨⟨⟨⟨z1,z2⟩,z3⟩,z4⟩,z5⟩,z6⟩:=q
   subst z1 z2
   have sb:∀D,(Value.ref C'::tl).contains (.ref D)=subIn K C' D:=fun D=>by unfold subIn;rw[ho];show _=cd.mro.contains _;rw[em]
   obtain⟨nm,bs,mro,ns,qn,hd,sn,sub,ab,cl,del⟩:=cd
   dsimp only at em z3 z5 z6
   subst em z3
   obtain⟨l⟩:=sl
   have es':l = [a0,a1,a2,a3,some (.builtin "ValueError.__new__"),a5]:=es
   subst es'
   exact⟨tl,ns,nm,qn,bs,hd,sn,sub,ab,cl,dd,a0,a1,a2,a3,a5,_,hk _ _ ho,.of_isNs (PySem.W.isNs_of_in hk z5),PySem.W.nsMap_none_of_in hk z5 z6,PySem.W.tail_of_in hk z4,sb⟩
  next=>cases q
 next=>cases q
section
variable {X:Cx}
def tRaise(C:Addr)(W:XW)(ta:TA):TS:=fun _ σ H=>ta σ H fun vs H1=>vs.length≤sizeLine∧W σ (.ref C) H1
theorem zao{x:Str}{C:Addr}{W:XW}{np cpos pos:Pos}{e:Expr}{es:List Expr}{ta:TA}(hc:X.calm=true)(md:Md X W)(hg:Gl X x)(hm:X.mg x=some (.ref C))(hx:ExC X.K C)(ha:PA X (e::es) ta)
 (hdb:(x==("__debug__" : Str))=false:=by decide) (he:starEach (e::es) X.env=(false,eval e X.env)::starEach es X.env:=by rfl) (hpl:(backTo cpos (starEach es X.env)).any (·.1)=false:=by rfl) :
 PS X (.Raise (some (.Call (.Name x np) (e::es) [] cpos)) none pos) (tRaise C W ta):=by
 intro pins s σ H D I h
 obtain⟨tl,N,nm,qn,bs,hd,sn,sb,ab,cl,dd,a0,a1,a2,a3,a5,mN,hC,hN,hni,T,_⟩:=exc_obj I.mod.kin hx
 refine wpAny_Raise_call_subT (C:=C) (bm:=tl) (nm:=nm) (q:=qn) (N:=N) (bs:=bs) (hdct:=hd) (sn:=sn) (sub:=sb) (ab:=ab) (col:=cl) (dd:=dd) (k0:=a0) (k1:=a1) (k2:=a2) (k3:=a3) (k5:=a5) PySem.F.excBase_ValueError (mN:=mN) (T.hasType (by decide)) (I.ok.hd hc) (by rw[he];show(false || (backTo cpos (starEach es X.env)).any (·.1))=false;rw[hpl];rfl) hni (zcK I hg hm ⟨rfl,?_⟩ hdb)
 have hA:=ha cpos pins s σ H _ I h
 rw[he] at hA ⊢
 refine Calls.evalArgs_plain (thn hA fun us s1 ⟨vs,H1,I1,r1,hz,q⟩=>⟨rfl,by show us.length≤sizeLine;rw[← r1.length];exact hz,I1.bk _ _ hC,hN.keeps I1.bk,T.keeps I1.bk,fun h' x mk=>?_⟩)
 exact md pins σ H1 s1 x (.ref C) us h' I1 mk q
end
structure CanX (P:Program) (w:World) (K:PySem.W.Frag) (mg:Str→Option Value) (base:Heap) (k:Nat) (x:Str) (ps:List Str) (sp:Sp):Prop where
 ex:∃f fd,FnOk P w K mg base (CX1 P w) k f fd ps sp∧mg x=some (.ref f)∧PySem.W.keepIn K (.ref f)=true∧wT K fd ps []
theorem CanX.of{P:Program}{w:World}{K:PySem.W.Frag}{mg:Str→Option Value}{base:Heap}{k:Nat}{x:Str}{ps:List Str}{sp:Sp}{f:Addr}{fd:FuncData}{qual:Str}{st:Stmt}
 (F:Fun K x qual st f fd) (G:FnOk P w K mg base (CX1 P w) k f fd ps sp) (hm:mg x=some (.ref f)) (b:wT K fd ps []):CanX P w K mg base k x ps sp:=⟨f,fd,G,hm,F.kp,b⟩
theorem Fun.okX{P:Program}{w:World}{K:PySem.W.Frag}{mg:Str→Option Value}{base:Heap}{x qual:Str}{st:Stmt}{f:Addr}{fd:FuncData}{N ps:List Str}{k:Nat}{sp:Sp}(F:Fun K x qual st f fd)(S:FnScope N ps (zc st))(len:∀vs H Q E,sp vs H Q E→vs.length=ps.length)
 (hbody:∀(X:Cx) (W:XW) (cdv:Value) (A:Around) (outer:List Env) (s:Shared) (H:Hp) (vs:List V) (Q:VK) (E:XK),X=zaL (CX1 P w) P w K mg base N qual (zc st) f cdv A outer s H E→W=(fun _ cls H'=>E cls none H')→Fl X W→Md X W→Room k X.A→sp vs H Q E →
   ∃t,PSs X (zn st) t∧t { nx:=fun _ H'=>Q .non H',rt:=Q } (zav N vs) H):FnOk P w K mg base (CX1 P w) (k+1) f fd ps sp:=by
 obtain⟨oc,od,kV,doc,pm,an,cdv,ct,osl,rfl,lk,hcd⟩:=F.ex
 refine fn_of lk hcd S len fun A outer s H vs Q E hr hsp=>?_
 exact hbody _ _ cdv A outer s H vs Q E rfl rfl fly_def md_def hr hsp
def tCallX(W:XW)(sp:Sp)(t:TA):TE:=fun σ H Q=>t σ H fun vs H1=>sp vs H1 Q fun cls _ H'=>W σ cls H'
section
variable {X:Cx} {k:Nat} {x:Str} {ps:List Str} {sp:Sp} {p pos:Pos} {e:Expr} {es:List Expr} {t:TA} {W:XW}
theorem zf8{pins:List (Addr × Obj)}{σ:St}{H:Hp}{s:Shared}{Q:VK}{us:List Value}{vs:List V}{f:Addr}{fd:FuncData}(F:FnOk X.prog X.w X.K X.mg X.base (CX1 X.prog X.w) k f fd ps sp)(hr:Room k X.A)(hb:wT X.K fd ps [])(fl:Fl X W)
 (I:Inv X pins σ H s) (r:zA vs us) (h:sp vs H Q fun cls _ H'=>W σ cls H'):wpAny (model X.prog X.w) X.A (call (.ref f) us) (EP X pins σ Q) X.xe s:=by
 have hl:us.length=ps.length:=by rw[← r.length];exact F.len _ _ _ _ h
 have hb':=hb s us I.kIn (by rw[List.append_nil];exact hl)
 rw[List.append_nil] at hb'
 refine wpAny_call (codeAny_mono (F.run X.A X.stack s H ⟨us,[]⟩ us vs Q _ hr I.env0 hb' r h) fun r s' hq=>?_)
 cases r with
 | error e =>
   obtain⟨y,cls,H',rfl,fly,w⟩:=hq
   exact fl pins σ H s y cls H' s' I fly w
 | ok fl' =>
   cases fl' with
   | ret u=>exact I.after hq
   | next=>exact False.elim hq
   | brk=>exact False.elim hq
   | cont=>exact False.elim hq
theorem pe_ownX(C:CanX X.prog X.w X.K X.mg X.base k x ps sp)(fl:Fl X W)(hr:Room k X.A)(hg:Gl X x)(ha:PA X (e::es) t)(hdb:(x==("__debug__" : Str))=false:=by decide)(he:starEach (e::es) X.env=(false,eval e X.env)::starEach es X.env:=by rfl)
 (hpl:(backTo pos (starEach es X.env)).any (·.1)=false:=by rfl):PE X (.Call (.Name x p) (e::es) [] pos) (tCallX W sp t):=by
 obtain⟨f,fd,F,hm,hk,hb⟩:=C.ex
 intro pins s σ H Q I h
 refine wpAny_Call_Name_kw (zcK I hg hm ?_ hdb)
 refine PySem.W.callWith_K (h₀:=X.base) I.ok.mod.kin hk (thn (ha pos pins s σ H _ I h) fun us s1 ⟨vs,H1,I1,r,q⟩=>⟨I1.kIn,?_⟩) he hpl
 exact zf8 F hr hb fl I1 r q
end
section
variable {X:Cx} {pins:List (Addr × Obj)} {σ:St} {H H':Hp} {s s':Shared} {x:Addr} {cls:Value}
end
section
variable {X:Cx} {x n:Str} {Dx:Addr} {np hpos:Pos} {b0:Stmt} {suite:List Stmt} {zcJ:List ExceptHandler} {ts:TS} {tr:Value→TS} {i:Nat}
end
section
variable {X:Cx}
def rNeT(K:PySem.W.Frag):R2:=fun x y H Q=>∃a b xs ys,x=.ref a∧y=.ref b∧SqT K H a xs∧SqT K H b ys∧xs.all wv=true∧ys.all wv=true∧Q (.bl (!eqL xs ys)) H
theorem op_ne_tup(hu:X.A.units<cLine):OpR X (compareOp .NotEq) (rNeT X.K):=by
 intro pins s σ H x y v u Q I rx ry h
 obtain⟨a,b,xs,ys,rfl,rfl,ha,hb,fx,fy,q⟩:=h
 cases rx
 cases ry
 obtain⟨its,r1,p1,z1⟩:=I.tuple ha
 obtain⟨its2,r2,p2,z2⟩:=I.tuple hb
 have l1:=r1.length
 have l2:=r2.length
 refine SeqAt.RcNeAt.tuples (show s.heap.IsTuple a its.toArray from p1) (show s.heap.IsTuple b its2.toArray from p2) hu (zh1 r1 r2 fx fy) _ _ _ _ ⟨.bl (!eqL xs ys),H,I,?_,q⟩
 show Value.bool _=Value.bool _
 congr 1
 simp only[List.size_toArray]
 by_cases hl:xs.length=ys.length
 ·rw[show min its.length its2.length=xs.length by omega,zcp hl,show(its.length==its2.length)=true by simp;omega,Bool.and_true]
 ·rw[zdW hl,show(its.length==its2.length)=false by simp;omega,Bool.and_false]
end
theorem zdG{X:Cx}:Fl X fun _ _ _=>False:=fun _ _ _ _ _ _ _ _ _ _ h=>h.elim
abbrev zbA(K:PySem.W.Frag)(x:Str)(C:Addr):Prop:=PySem.W.nsIn K mainGlobals x=some (some (.ref C))
theorem zbA.inj{K:PySem.W.Frag}{x:Str}{C D:Addr}(a:zbA K x C)(b:zbA K x D):C=D:=by
 have:=a.symm.trans b
 cases this
 rfl
section
variable {X:Cx} {K:PySem.W.Frag}
theorem yD(h:X.K=K):IxR X (rIxL K):=by subst h;exact zy
theorem zeq(h:X.K=K):OpR X (compareOp .In) (rIn K false):=by subst h;exact zfe
theorem zfi(h:X.K=K):MtM X "list.index" (rIndex K):=by subst h;exact zbo
theorem pi_listK{tg l:Expr}{tl:TE}(h:X.K=K)(hl:PE X l tl):PI X tg l (iList K tl):=by subst h;exact zX hl
theorem pe_bmK{o e:Expr}{es:List Expr}{to:TE}{t:TA}{name:Str}{apos cpos:Pos}{T id:String}{r:V→List V→Hp→VK→Prop}(h:X.K=K)(pa:PlainAttrs T)(slot:Slot T name id)(hty:typeOf (.builtin id)=pure (.type "method_descriptor"))(hm:MtR X id r)(ho:PE X o to)(ha:PA X (e::es) t)
 (hbase:attributeBase o name X.env (eval o X.env)=eval o X.env:=by rfl)
 (hfew:((backTo cpos (starEach (e::es) X.env)).all (fun x => !x.1) && (backToKw cpos (keywordEach [] X.env)).all (fun x=>x.1.isSome)
   && decide ((e::es).length+([]:List Keyword).length+(if([]:List Keyword).isEmpty then 0 else 1)<30))=true:=by rfl)
 (hline:(apos.endLine==cpos.line)=true:=by rfl) (hs:starEach (e::es) X.env=(false,eval e X.env)::starEach es X.env:=by rfl) (hplain:(backTo cpos (starEach es X.env)).any (·.1)=false:=by rfl) :
 PE X (.Call (.Attribute o name apos) (e::es) [] cpos) (tBM K T r to t):=by subst h;exact zb4 pa slot hty hm ho ha hbase hfew hline hs hplain
end
theorem iteNo{b:Bool}{A B:Prop}(h:b=false)(k:B):if b=true then A else B:=by rw[h,if_neg Bool.false_ne_true];exact k
section
variable {α:Type} [DecidableEq α]
def zc7(acc:List α)(v:α):List α:=if v∈acc then acc else acc ++ [v]
def met(val:Nat→α)(i:Nat):List α:=((List.range i).map val).foldl zc7 []
theorem zd8(val:Nat→α)(i:Nat):met val (i+1)=zc7 (met val i) (val i):=by
 unfold met;rw[List.range_succ,List.map_append,List.foldl_append];rfl
theorem zem{acc:List α}{v k:α}:k∈zc7 acc v↔k∈acc∨k=v:=by
 unfold zc7
 split
 ·rename_i h
  exact⟨.inl,fun z=>z.elim id fun e=>by rw[e];exact h⟩
 ·rw[List.mem_append,List.mem_singleton]
theorem zel(acc:List α)(v:α):(zc7 acc v).length=if decide (v∈acc)=true then acc.length else acc.length+1:=by
 unfold zc7
 by_cases h:v∈acc
 ·rw[if_pos h,decide_eq_true h,if_pos rfl]
 ·rw[if_neg h,decide_eq_false h,if_neg (by decide),List.length_append];rfl
theorem zij(val:Nat→α):∀i,(met val i).length≤i
 | 0=>Nat.le_refl _
 | i+1=>by
   rw[zd8,zel]
   have:=zij val i
   split <;> omega
theorem met_list(ts:List α)(d:α):met (fun i=>ts.getD i d) ts.length=ts.foldl zc7 []:=by
 unfold met
 congr 1
 refine List.ext_getElem (by simp) fun i h1 h2=>?_
 rw[List.getElem_map,List.getElem_range,List.getD_eq_getElem?_getD,List.getElem?_eq_getElem h2]
 rfl
theorem zf7(acc ts:List α):(ts.foldl zc7 acc).length≤acc.length+ts.length:=by
 induction ts generalizing acc with
 | nil=>exact Nat.le_refl _
 | cons a ts ih =>
   rw[List.foldl_cons]
   refine Nat.le_trans (ih _) ?_
   rw[zel,List.length_cons]
   split <;> omega
theorem zev(acc ts:List α)(hacc:acc.Nodup):(ts.foldl zc7 acc).length=acc.length+ts.length↔(acc++ts).Nodup:=by
 induction ts generalizing acc with
 | nil=>simpa using hacc
 | cons a ts ih =>
   rw[List.foldl_cons]
   by_cases h:a∈acc
   ·have e:zc7 acc a=acc:=by unfold zc7;rw[if_pos h]
    rw[e]
    constructor
    ·intro q
     have:=zf7 acc ts
     rw[List.length_cons] at q
     omega
    ·intro q
     rw[List.nodup_append] at q
     exact absurd rfl (q.2.2 a h a List.mem_cons_self)
   ·have e:zc7 acc a=acc ++ [a]:=by unfold zc7;rw[if_neg h]
    have hn:(acc ++ [a]).Nodup:=by
     rw[List.nodup_append]
     exact⟨hacc,by simp,fun x hx y hy z=>h (by rw[List.mem_singleton.mp hy] at z;rw[← z];exact hx)⟩
    rw[e]
    have:=ih (acc ++ [a]) hn
    rw[List.append_assoc,List.singleton_append] at this
    rw[← this,List.length_append,List.length_singleton,List.length_cons]
    omega
theorem zgN(ts:List α)(d:α):(met (fun i=>ts.getD i d) ts.length).length=ts.length↔ts.Nodup:=by
 rw[met_list]
 have:=zev [] ts List.nodup_nil
 simpa using this
end
section
variable {prog:Program} {w:World} {A:Around} {R:Result→Shared→Prop} {it:Addr} {fp wr:List Addr} {G:Array GenState→Array GenState→Prop} {n:Nat} {P:Nat→Value→Prop} {St:Nat→Shared→Prop}
variable {α:Type} [DecidableEq α] {knd:KeyKind prog w α}
theorem zdw{h h':Heap}{a:Addr}{S:α→Bool}{m:Nat}(x:h.SetOf knd a S m)(k:∀o,h.get? a=some o→h'.get? a=some o):h'.SetOf knd a S m:=by
 obtain⟨o,es,ep,t,ho,r⟩:=x
 exact⟨o,es,ep,t,k _ ho,r⟩
theorem zg2{h:Heap}{a:Addr}{S S':α→Bool}{m m':Nat}(x:h.SetOf knd a S m)(e:S=S')(e':m=m'):h.SetOf knd a S' m':=by subst e;subst e';exact x
theorem set_fill(W:WalksS prog w A.in1 it fp wr G n P St)(S:Addr)(hS:S∉fp)(val:Nat→α)(hv:∀i v,P i v→knd.is (val i) v=true∧v.scannable=true)(hb:n+1<scanBound):
 ∀(k i:Nat) (s:Shared),k+i=n→St i s→s.heap.SetOf knd S (fun x=>decide (x∈met val i)) (met val i).length →
  (∀s',Moved (S::wr) G s s'→s'.heap.SetOf knd S (fun x=>decide (x∈met val n)) (met val n).length→R (.ok (.ret .none)) s') →
  codeAny (model prog w) A (.builtin "set.update.loop" ⟨[.ref S,.ref it],[]⟩) R s:=by
 have hw:S∉wr:=fun z=>hS (W.sub _ z)
 intro k
 induction k with
 | zero =>
   intro i s hk st hs hR
   rw[Nat.zero_add] at hk
   subst hk
   refine codeAny_builtin F.entry_set_update_loop ?_
   rw[Around.under_plainId F.plain_set_update_loop _]
   refine wpAny_bind (W.done s _ _ st fun s' hm=>?_)
   exact wpAny_pure (hR s' (hm.mono fun b z=>List.mem_cons_of_mem _ z) (zdw hs fun o e=>hm.heap S o hw e))
 | succ k ih =>
   intro i s hk st hs hR
   refine codeAny_builtin F.entry_set_update_loop ?_
   rw[Around.under_plainId F.plain_set_update_loop _]
   refine wpAny_bind (W.item i s _ _ (by omega) st fun v s' hP st' hm=>?_)
   obtain⟨kv,sv⟩:=hv i v hP
   have hs':=zdw hs fun o e=>hm.heap S o hw e
   refine wpAny_bind (m:=holding [v] (setAdd S v)) (wpAny_holding ?_)
   unfold setAdd
   refine wpAny_holding (wpAny_bind (knd.pyHash kv ?_))
   refine wpAny_setAddHashed_of (knd:=knd) (s:={ s' with toks:=s'.toks+1 }) kv sv hs' (by have:=zij val i;omega) fun h' hsb hs2=>?_
   have hs3:h'.SetOf knd S (fun x=>decide (x∈met val (i+1))) (met val (i+1)).length:=by
    refine zg2 hs2 (funext fun x=>?_) ?_
    ·rw[zd8]
     by_cases h1:x∈met val i
     ·rw[decide_eq_true h1,decide_eq_true (zem.mpr (.inl h1)),Bool.true_or]
     ·by_cases h2:x=val i
      ·rw[decide_eq_true h2,decide_eq_true (zem.mpr (.inr h2)),Bool.or_true]
      ·rw[decide_eq_false h1,decide_eq_false h2,decide_eq_false fun z=>(zem.mp z).elim h1 h2];rfl
    ·rw[zd8,zel]
   refine wpAny_pure ⟨plainId_quiet F.plain_set_update_loop _,ih (i+1) _ (by omega) (W.frame _ s' _ _ st' (Nat.le_succ _) fun b hb o e=>?_) hs3 fun s'' hm''=>hR s'' ?_⟩
   ·rw[hsb.2 b fun z=>hS (by rw[← z];exact hb)];exact e
   ·refine Moved.trans W.gtrans ((hm.mono fun b z=>List.mem_cons_of_mem _ z).then_heap (Nat.le_succ _) fun b o hb e=>?_) hm''
    rw[hsb.2 b fun z=>hb (by rw[z];exact List.mem_cons_self)];exact e
end
section
variable {prog:Program} {w:World} {A:Around} {E:Value→Shared→Prop} {s:Shared} {α:Type} [DecidableEq α] {knd:KeyKind prog w α}
def Filled(knd:KeyKind prog w α)(s:Shared)(ks:List α)(s2:Shared):Prop :=
 ∃(h':Heap) (tk:Nat),s2={ s with heap:=h',toks:=tk }∧h'.SetOf knd s.heap.objs.size (fun k=>decide (k∈ks)) ks.length∧∀b o,b<s.heap.objs.size→s.heap.get? b=some o→h'.get? b=some o
set_option maxHeartbeats 3200000 in
theorem zgP{l:Addr}{items:Array Value}{val:Nat→α}{Q:Value→Shared→Prop}(hh:A.handled=none)(hl:s.heap.IsList l items)(hv:∀i v,items[i]? = some v→knd.is (val i) v=true∧v.scannable=true)(hb:items.size+1<scanBound)
 (h:∀s2,Filled knd s (met val items.size) s2→Q (.ref s.heap.objs.size) s2):wpAny (model prog w) A (call (.type "set") [.ref l]) Q E s:=by
 have hlt:l<s.heap.objs.size:=by obtain⟨o,e,_⟩:=hl;exact Heap.lt_size e
 obtain⟨c,tl,hmro⟩:=F.called_set.mro
 have hmade:=F.called_set.made
 have hsub:=F.called_set.sub
 refine wpAny_call (codeAny_of_tree ?_)
 show wpAny _ _ (callAny (.type "set") _) _ _ _
 refine wpAny_pure ⟨Code.quiet_builtin _ (by decide +kernel),codeAny_builtin F.entry_type_call ?_⟩
 rw[Around.under_plain (weight_type_call_type "set" [.ref l] []) rfl]
 have h1:=F.called_set.notType
 have h2:=F.called_set.canCreate
 have h3:=F.typeCall_set_1 (.ref l)
 repeat (any_goals (first | assumption | wp_step))
 refine codeAny_mono (code_set_new_1 (.ref l) (E:=E) (Q₁:=fun v s₁=>∃led:Bool,v=.ref s.heap.objs.size∧s₁={ s with heap:=s.heap.push { cls:=.type "set",dict:=none,data:=.set #[] 0 (.fresh 0 0 led) } }) fun led=>⟨led,rfl,rfl⟩) fun r s₁ hr=>?_
 rcases r with e | fl
 ·exact hr
 cases fl with
 | ret v =>
   obtain⟨led,rfl,rfl⟩:=hr
   generalize hob:({ cls:=.type "set",dict:=none,data:=.set #[] 0 (.fresh 0 0 led) }:Obj)=ob
   have hS:(s.heap.push ob).get? s.heap.objs.size=some ob:=Heap.get?_push_size _ (by rw[← hob];rfl)
   have hT:Shared.TypeIs { s with heap:=s.heap.push ob } (.ref s.heap.objs.size) "set" := ⟨_,hS,by rw[← hob]⟩
   have h4:=F.called_set.init.lookup
   have h5:=F.called_set.init.bind (.ref s.heap.objs.size)
   repeat (any_goals (first | assumption | wp_step))
   refine codeAny_mono (codeAny_call_builtin (R:=wants (fun r s₂=>r=.none∧Filled knd s (met val items.size) s₂) E) F.called_set.init.plain F.entry_set_init (check_set_init_1 hT ?_)) fun r₂ s₂ hr₂=>?_
   ·have hl1:(s.heap.push ob).IsList l items:=hl.push _
    obtain⟨⟨ocls,odict,odata,oslots⟩,hol,hcl,nl,hdl⟩:=id hl1
    simp only at hcl hdl
    subst hcl hdl
    have h6:=F.sub_list_set
    have h7:=F.sub_list_frozenset
    have h8:(Value.type "list" == Value.type "dict")=false:=by decide
    subst hob
    unfold Builtin.«set.__init__» noKeywords Builtin.Frozenset.updateFrom
    generalize hPI:pyIter=PI
    wp_walk
    subst hPI
    refine wpAny_pyIter_list hl1 (wpAny_bind (wpAny_runValue ?_))
    have hsz:(s.heap.push { cls:=.type "set",dict:=none,data:=.set #[] 0 (.fresh 0 0 led) }).objs.size=s.heap.objs.size+1:=Heap.size_push ..
    refine set_fill (knd:=knd) ((Walks.list (by simp[hh]) _ l (by rw[hsz];exact Nat.ne_of_lt (Nat.lt_succ_of_lt hlt)) items).toS) s.heap.objs.size ?_ val hv hb items.size 0 _ rfl ⟨⟨_,Heap.get?_push_size _ rfl,rfl,rfl⟩,hl1.push _⟩ ?_ fun s' hm hS'=>?_
    ·rw[hsz]
     simp only[List.mem_cons,List.not_mem_nil,or_false,not_or]
     exact⟨Nat.ne_of_lt (Nat.lt_succ_self _),Nat.ne_of_gt hlt⟩
    ·exact zg2 ((setObjOf_fresh (knd:=knd) led).setOf (Heap.get?_push_of_some _ hS) (by unfold scanBound;omega)) rfl rfl
    ·obtain⟨h',g',d',tk',os'⟩:=s'
     have eg:g'=s.gens:=hm.gens
     have ed:d'=s.drawn:=hm.drawn
     have eo:os'=s.os:=hm.os
     subst eg ed eo
     refine wpAny_pure (show wpAny _ _ (ret Value.none) _ _ _ from wpAny_pure ⟨rfl,h',tk',rfl,hS',fun b o hb e=>?_⟩)
     refine hm.heap b o ?_ (Heap.get?_push_of_some _ (Heap.get?_push_of_some _ e))
     rw[hsz]
     simp only[List.mem_cons,List.not_mem_nil,or_false,not_or]
     exact⟨Nat.ne_of_lt hb,Nat.ne_of_lt (Nat.lt_succ_of_lt hb)⟩
   ·rcases r₂ with e | fl₂
    ·exact hr₂
    cases fl₂ with
    | ret r =>
      obtain⟨rfl,hf⟩:=hr₂
      repeat (any_goals (first | assumption | wp_step))
      exact h _ hf
    | _=>exact hr₂.elim
 | _=>exact hr.elim
end
section
variable {X:Cx}
theorem zfg:OpR X (compareOp .LtE) (fun x y H Q=>∃i j,x=.str i∧y=.str j∧Q (.bl (!decide (j.cps.toList<i.cps.toList))) H):=by
 intro pins s σ H x y v u Q I rx ry h
 obtain⟨i,j,rfl,rfl,q⟩:=h
 obtain⟨t,rfl⟩:=rx
 obtain⟨t',rfl⟩:=ry
 exact PySem.P.le_str (zI I q rfl)
def rSlS:V→Option Int→Option Int→Hp→VK→Prop:=fun x lo hi H Q=>∃z,x=.str z∧z.length≤sizeLine∧Q (.str (PySem.Txt.slice z lo hi)) H
theorem zia{v:Value}{o:Option Int}(h:IsPart v o):∃p:Option (Int × Tok),v=partValue p∧p.map (·.1)=o:=by
 cases h with
 | none=>exact⟨none,rfl,rfl⟩
 | int i t=>exact⟨some (i,t),rfl,rfl⟩
theorem sl_str:SlR X rSlS:=by
 intro pins s σ H x v vl vu lo hi sl Q I rx hs pl pu h
 obtain⟨z,rfl,hz,q⟩:=h
 obtain⟨t,rfl⟩:=rx
 obtain⟨l,rfl,rfl⟩:=zia pl
 obtain⟨u,rfl,rfl⟩:=zia pu
 refine⟨"str",_,PySem.F.slot_str_getitem.lookup,typeIs_str _ _ _,wpAny_getItem_str_slice (l:=l) (u:=u) (st:=none) hs rfl (post_val_or_str ⟨Nat.le_trans (PySem.Txt.slice_le z _ _) hz,fun t' k=>?_⟩)⟩
 exact⟨.str (PySem.Txt.slice z _ _),H,I.tok _,⟨t',rfl⟩,q⟩
def Its(z:Str):It:=⟨fun i _=>i<z.length,fun i H x H'=>H'=H∧∃c,z.cps[i]? = some c∧x=.str ⟨#[c]⟩,fun i _=>i=z.length⟩
theorem zgu{P:Program}{w:World}{K:PySem.W.Frag}{tg:Expr}(it:Addr)(T:String)(z:Str)(t:Tok)
 (hT : ["enumerate","zip","dict_itemiterator","dict_reverseitemiterator","odict_iterator","itertools.zip_longest","itertools.pairwise"].contains T=false)
 (W:∀A:Around,A.handled=none→Walks P w A it [it] [it] z.cps.size (SignAt z) (fun i h=>h.IsStrIter it T z t i))
 (slf:∀(A:Around) (i:Nat) (s:Shared) (Q:Value→Shared→Prop) (E:Value→Shared→Prop),s.heap.IsStrIter it T z t i→Q (.ref it) s→wpAny (model P w) A (pyIter (.ref it)) Q E s) :
 Turn P w K tg (Its z) [it] it (fun i h=>h.IsStrIter it T z t i) where
 mem:=by simp
 obj:=fun i h st b hb=>by
  have e:b=it:=by simpa using hb
  subst e
  obtain⟨o,e,c,d⟩:=st
  exact⟨o,e,fun v z=>by rw[d] at z;cases z⟩
 keep:=fun i h h' st k=>by obtain⟨o,e,r⟩:=st;exact⟨o,k it (by simp) o e,r⟩
 item:=by
  intro X hP hw hK hc i pins s σ H E I hf st hg
  subst hP hw hK
  obtain⟨f0,f1,f2,f3,f4,f5⟩:=hf it (by simp)
  refine(W X.A (I.ok.hd hc)).item i s _ _ hg st fun v h' tk hv st' kk=>?_
  obtain⟨c,u,ec,rfl⟩:=hv
  have I1:Inv X pins σ H { s with heap:=h',toks:=tk }:=I.turned (fun b o hb e=>kk b o (by simpa using hb) e) f0 f1 f3 f4 f5
  obtain⟨o,e,c1,d⟩:=id st'
  exact⟨_,rfl,go_of (s:={ s with heap:=h',toks:=tk }) (n:=T) e c1 d hT ⟨.str ⟨#[c]⟩,H,I1,⟨u,rfl⟩,⟨rfl,c,ec,rfl⟩,st',fun b hb=>(hf b hb).1⟩⟩
 done:=by
  intro X hP hw hK hc i pins s σ H E I hf st hg
  subst hP hw hK
  obtain⟨f0,f1,f2,f3,f4,f5⟩:=hf it (by simp)
  have hg:i=z.cps.size:=hg
  subst hg
  exact(W X.A (I.ok.hd hc)).done s _ _ st fun h' tk kk=>⟨rfl,I.turned (fun b o hb e=>kk b o (by simpa using hb) e) f0 f1 f3 f4 f5⟩
 self:=fun A i s Q E st h=>slf A i s Q E st h
def iStr(tl:TE):TI:=fun σ H R=>tl σ H fun x H1=>∃z,x=.str z∧R (Its z) H1
theorem pi_str{tg l:Expr}{tl:TE}(hl:PE X l tl):PI X tg l (iStr tl):=by
 intro pins s σ H R I h
 refine thn (hl pins s σ H _ I h) fun v s1 ⟨x,H1,I1,r1,q1⟩=>?_
 obtain⟨z,e,q⟩:=q1
 subst e
 obtain⟨t,rfl⟩:=r1
 have hf:∀b ∈ [s1.heap.objs.size],zai X pins H1 b:=fun b hb=>by
  have e:b=s1.heap.objs.size:=by simpa using hb
  subst e
  exact I1.fpOk (Nat.le_refl _) (I1.hok.fresh (Nat.le_refl _))
 have hk:∀o:Obj,Inv X pins σ H1 { s1 with heap:=s1.heap.push o }:=fun o=>I1.kept (t':=s1.toks) fun b u e=>Heap.get?_push_of_some _ e
 cases ha:z.cps.all (·< 128)
 ·refine wpAny_pyIter_wide ha ⟨s1.heap.objs.size,[s1.heap.objs.size],_,_,H1,rfl,hk _,zgu _ "str_iterator" z t (by decide) (fun A hA=>Walks.strWide hA _ z t) (fun A i s Q E st h=>wpAny_pyIter_striter_wide st h),⟨_,Heap.get?_push_size _ rfl,rfl,rfl⟩,hf,q⟩
 ·refine wpAny_pyIter_ascii ha ⟨s1.heap.objs.size,[s1.heap.objs.size],_,_,H1,rfl,hk _,zgu _ "str_ascii_iterator" z t (by decide) (fun A hA=>Walks.strAscii hA _ z t) (fun A i s Q E st h=>wpAny_pyIter_striter_ascii st h),⟨_,Heap.get?_push_size _ rfl,rfl,rfl⟩,hf,q⟩
theorem comp_str0{z:Str}{c:St}{te:TE}{H:Hp}{fin:List V→Hp→Prop}(Pv:Nat→List V→Hp→Prop)(h0:Pv 0 [] H)(hl:∀i ys H,i≤z.length→Pv i ys H→ys.length≤i)(hz:z.length≤sizeLine)
 (hs:∀i d ys H,z.cps.toList[i]? = some d→Pv i ys H→te (some (.str ⟨#[d]⟩)::c) H fun y H3=>Pv (i+1) (ys ++ [y]) H3) (hd:∀ys H,Pv z.length ys H→fin ys H):za4 (Its z) c zfS te H fin:=by
 refine⟨fun i m ys H=>m=z.length - i∧i≤z.length∧Pv i ys H,⟨z.length,by simp,Nat.zero_le _,h0⟩,?_⟩
 rintro i m ys H ⟨rfl,hi,p⟩
 have hy:=hl i ys H hi p
 by_cases hlt:i<z.length
 ·refine .inr ⟨hlt,by omega,Pv (i+1),fun ys' H' p'=>⟨_,by omega,rfl,hlt,p'⟩,fun x H' y=>?_⟩
  obtain⟨e,d,ed,ex⟩:=y
  subst e ex
  exact zfC (B:=Pv (i+1) ys H') (hs i d ys _ (by rw[Array.getElem?_toList];exact ed) p)
 ·have e:i=z.length:=by omega
  subst e
  exact .inl ⟨rfl,by omega,hd ys H p⟩
theorem strs_val{ts:List Str}{us:List Value}(r:zA (ts.map V.str) us){i:Nat}{v:Value}(h:us[i]? = some v)(d:Str):∃t,v=.str (ts.getD i d) t:=by
 have hl:=r.length
 rw[List.length_map] at hl
 have hi:i<ts.length:=by rw[hl];exact(List.getElem?_eq_some_iff.mp h).1
 obtain⟨u,e,ru⟩:=r.get (i:=i) (x:=.str ts[i]) (by rw[List.getElem?_map,List.getElem?_eq_getElem hi];rfl)
 rw[e] at h
 cases h
 obtain⟨t,rfl⟩:=ru
 exact⟨t,by rw[List.getD_eq_getElem?_getD,List.getElem?_eq_getElem hi];rfl⟩
def tLenSetS(K:PySem.W.Frag)(te:TE):TE:=fun σ H Q=>te σ H fun x H1=>∃(a:Addr) (ts:List Str),x=.ref a∧SqL K H1 a (ts.map V.str)∧ts.length<4000∧Q (.int (met (fun i=>ts.getD i "") ts.length).length) H1
theorem zhN{e:Expr}{te:TE}{p p2 pos pos2:Pos}(hc:X.calm=true)(hg:Gl X "len")(hm:X.mg "len" = none)(hg2:Gl X "set")(hm2:X.mg "set" = none)(he:PE X e te)
 (h1:starEach [.Call (.Name "set" p2) [e] [] pos2] X.env = [(false,eval (.Call (.Name "set" p2) [e] [] pos2) X.env)]:=by rfl) (h2:starEach [e] X.env = [(false,eval e X.env)]:=by rfl) :
 PE X (.Call (.Name "len" p) [.Call (.Name "set" p2) [e] [] pos2] [] pos) (tLenSetS X.K te):=by
 intro pins s σ H Q I h
 refine wpAny_Call_Name_kw (zat I hg hm PySem.boot_len ?_)
 refine PyProof.Rows.callWith_builtin1 ?_ h1 rfl
 rw[h1]
 show wpAny _ _ (spliced ((false,eval (.Call (.Name "set" p2) [e] [] pos2) X.env)::backTo pos [])) _ _ s
 refine Calls.spliced_cons ?_
 refine wpAny_Call_Name_kw (zat I hg2 hm2 PyProof.Rows.boot_set ?_)
 refine PyProof.Rows.callWith_type1 ?_ h2 rfl
 rw[h2]
 show wpAny _ _ (spliced ((false,eval e X.env)::backTo pos2 [])) _ _ s
 refine Calls.spliced_cons (thn (he pins s σ H _ I h) fun v s1 ⟨x,H1,I1,r1,q1⟩=>?_)
 obtain⟨a,ts,rfl,hS,hz,q⟩:=q1
 cases r1
 obtain⟨its,rv,pl,hz2⟩:=I1.list hS
 have hl:=rv.length
 rw[List.length_map] at hl
 have hsb:scanBound=4096:=rfl
 refine Calls.spliced_nil ?_
 refine zgP (knd:=strKind X.prog X.w) (val:=fun i=>ts.getD i "") (I1.ok.hd hc) pl.isList (fun i v hv=>?_) (by rw[List.size_toArray];omega) fun s2 ⟨h',tk,e2,hs,hk⟩=>?_
 ·obtain⟨t,rfl⟩:=strs_val rv (i:=i) (v:=v) (by simpa using hv) ""
  exact⟨beq_self_eq_true _,rfl⟩
 subst e2
 have I2:Inv X pins σ H1 { s1 with heap:=h',toks:=tk }:=I1.kept (t':=tk) fun b o e=>hk b o (Heap.lt_size e) e
 refine Calls.spliced_nil ?_
 have esz:its.toArray.size=ts.length:=by rw[List.size_toArray];omega
 rw[esz] at hs
 obtain⟨o,es,ep,t,ho,hex,hd,_,_,hsz,hf,hn⟩:=hs
 refine PySem.call_len_set ho hex hd hf (by omega) ⟨.int (met (fun i=>ts.getD i "") ts.length).length,H1,I2.tok _,⟨tk+1,?_⟩,q⟩
 rw[hn]
theorem zbO{ts:List Str}{i:Nat}(h:i<ts.length):(ts.map V.str)[i]? = some (.str (ts.getD i "")):=by
 rw[List.getElem?_map,List.getElem?_eq_getElem h,List.getD_eq_getElem?_getD,List.getElem?_eq_getElem h];rfl
theorem zc3{ts:List Str}{i:Int}(h0:0≤i)(h:i<ts.length):atI (ts.map V.str) i=some (.str (ts.getD i.toNat "")):=zgb h0 (zbO (by omega))
theorem zdc(ts:List Str):(ts.map V.str).all wv=true:=by
 rw[List.all_map];exact List.all_eq_true.mpr fun _ _=>rfl
theorem zeg(ts:List Str)(c:Str):inV (.str c) (ts.map V.str)=decide (c∈ts):=by
 unfold inV
 induction ts with
 | nil=>rfl
 | cons a ts ih =>
   rw[List.map_cons,List.any_cons,ih]
   show((a==c) || _)=_
   by_cases h:a=c
   ·subst h;simp
   ·have:¬c=a:=fun e=>h e.symm
    simp[h,this]
theorem zaK{ts:List Str}{i:Nat}{x:V}(hx:(ts.map V.str)[i]? = some x):i<ts.length∧x=.str (ts.getD i ""):=by
 have hi:i<ts.length:=by have:=(List.getElem?_eq_some_iff.mp hx).1;rwa [List.length_map] at this
 refine⟨hi,?_⟩
 rw[zbO hi] at hx
 exact(Option.some.inj hx).symm
theorem yf{ts:List Str}{i:Nat}(hi:i<ts.length):ts.take (i+1)=ts.take i ++ [ts.getD i ""]:=by
 rw[List.take_succ,List.getElem?_eq_getElem hi,List.getD_eq_getElem?_getD,List.getElem?_eq_getElem hi];rfl
theorem zaJ{ts:List Str}{i:Nat}(hi:i<ts.length):ts.getD i "" ∈ ts:=by
 rw[List.getD_eq_getElem?_getD,List.getElem?_eq_getElem hi];exact List.getElem_mem hi
theorem zge(x y:Str):(x++y).length=x.length+y.length:=by
 show(x.cps++y.cps).size=x.cps.size+y.cps.size
 exact Array.size_append
abbrev abc:Str:= "abcdefghijklmnopqrstuvwxyz"
def zb5(c:Nat):Bool:=decide (97≤c) && decide (c≤122)
end
section
variable {X:Cx}
theorem zdF(ns:List Int):∀i,i≤ns.length→preSum (fun i=>ns.getD i 0) i=(ns.take i).sum
 | 0,_=>by simp[preSum]
 | i+1,h=>by
   rw[wX (by omega),List.sum_append,← zdF ns i (by omega)]
   simp[preSum]
theorem call_sum(hc:X.calm=true):zal X (.builtin "sum") (fun xs H Q=>∃(a:Addr) (ns:List Int),xs = [.ref a]∧SqL X.K H a (ns.map V.int)∧Q (.int ns.sum) H):=by
 intro pins s σ H xs us Q I r h
 obtain⟨a,ns,rfl,hS,q⟩:=h
 obtain⟨u,rfl,ru⟩:=r.one
 cases ru
 obtain⟨its,r1,p1,z1⟩:=I.list hS
 have l1:=r1.length
 rw[List.length_map] at l1
 have hlt:a<s.heap.objs.size:=by obtain⟨o,n,e,_⟩:=p1;exact Heap.lt_size e
 refine call_sum_walkAnyS (wpAny_pyIter_list p1.isList ?_)
 have I1:Inv X pins σ H { s with heap:=s.heap.push { cls:=.type "list_iterator",data:=.fields #[.ref a,.int 0 0] } }:=I.kept (t':=s.toks) fun b o e=>Heap.get?_push_of_some _ e
 refine⟨s.heap.objs.size,_,_,_,its.toArray.size,_,_,fun i=>ns.getD i 0,rfl,(Walks.list (by simpa using I.ok.hd hc) s.heap.objs.size a (Nat.ne_of_lt hlt) its.toArray).toS,⟨⟨_,Heap.get?_push_size _ rfl,rfl,rfl⟩,p1.isList.push _⟩,?_,?_,fun s' t' hm=>?_⟩
 ·intro b hb
  rw[Heap.size_push]
  simp only[List.mem_cons,List.not_mem_nil,or_false] at hb
  rcases hb with rfl | rfl
  ·exact Nat.lt_succ_self _
  ·exact Nat.lt_succ_of_lt hlt
 ·intro i v hP
  exact IntsAre.int_at (zbF r1) i v (by simpa using hP)
 ·obtain⟨h',g',d',tk',os'⟩:=s'
  have eg:g'=s.gens:=hm.gens
  have ed:d'=s.drawn:=hm.drawn
  have eo:os'=s.os:=hm.os
  subst eg ed eo
  have f:=I.fpOk (H':=H) (Nat.le_refl _) (I.hok.fresh (Nat.le_refl _))
  have I2:=I1.turned (t':=tk') (h':=h') (it:=s.heap.objs.size) (fun b o hb e=>hm.heap b o (by simpa using hb) e) f.1 f.2.1 f.2.2.2.1 f.2.2.2.2.1 f.2.2.2.2.2
  refine⟨.int ns.sum,H,I2,⟨t',?_⟩,q⟩
  rw[List.size_toArray,← l1,zdF ns _ (Nat.le_refl _),List.take_length]
end
structure CompScopeC (sc:Scope) (N:List Str) (x:Str) (fr:List Str) (ix:List Nat) (scope:Scope):Prop where
 kind:scope.kind=.function
 one:∀a acc,cellsFrom a scope.names acc=(x,a)::acc
 push:∀h:Heap,pushCells h scope.names=h.push { cls:=.type "cell",data:=.cell none }
 cells:∀y∈scope.names,y.2=.cell→y.1=x
 lcl:∀y∈scope.names,y.2=.local→scope.names.lookup y.1=some .local
 lx:scope.names.lookup x=some .cell
 free:∀y∈scope.names,y.2=.free→sc.names.lookup y.1=some .cell∨sc.names.lookup y.1=some .free
 at':fr.map some=ix.map fun i=>N[i]?
 frk:∀y∈fr,scope.names.lookup y=some .free∧(sc.names.lookup y=some .cell∨sc.names.lookup y=some .free)
 nd:(x::fr).Nodup
theorem zdy{env:Env}{scope:Scope}{y:Str}(h:scope.names.lookup y=some .cell∨scope.names.lookup y=some .free):(relabel scope env).names.lookup y=some .cell∨(relabel scope env).names.lookup y=some .free:=by
 rcases h with h | h
 ·left
  rw[zbb,zaU (zhU env) h,rl_not env y .cell (by decide)]
 ·exact zbP h
theorem CompScope.under{env:Env}{sc:Scope}{N:List Str}{x:Str}{fr:List Str}{ix:List Nat}{scope:Scope}(S:CompScope sc N x fr ix scope):CompScope (relabel sc env) N x fr ix scope :=
 ⟨S.kind,S.nocell,S.lcl,S.lx,fun y hy hf=>zdy (S.free y hy hf),S.at',fun y hy=>⟨(S.frk y hy).1,zdy (S.frk y hy).2⟩,S.nd⟩
section
variable {X:Cx} {pins:List (Addr × Obj)} {σ:St} {H:Hp} {s:Shared} {x:Str} {fr:List Str} {ix:List Nat} {scope:Scope} {cl:List (Str × Addr)} {fp:List Addr} {C D cx:Addr}
theorem CompScopeC.len(S:CompScopeC X.env.scope X.N x fr ix scope):fr.length=ix.length:=by have:=congrArg List.length S.at';simpa using this
end
section
variable {X:Cx} {x:Str} {fr:List Str} {ix:List Nat} {scope:Scope} {elt iter:Expr} {ifs:List Expr} {px pos:Pos} {wi:TI} {tc:TT} {te:TE}
end
section
open PySem.SeqAt
open PySem.AutoSeq1 (wpAny_loadPart')
open PySem.MeetsSeq PySem.MeetsSeq2 PySem.MeetsSeq3
end
section
variable {X:Cx}
def rNeL(K:PySem.W.Frag):R2:=fun x y H Q=>∃a b xs ys,x=.ref a∧y=.ref b∧SqL K H a xs∧SqL K H b ys∧xs.all wv=true∧ys.all wv=true∧Q (.bl (!eqL xs ys)) H
theorem zd7(hu:X.A.units<cLine):OpR X (compareOp .NotEq) (rNeL X.K):=by
 intro pins s σ H x y v u Q I rx ry h
 obtain⟨a,b,xs,ys,rfl,rfl,ha,hb,fx,fy,q⟩:=h
 cases rx
 cases ry
 obtain⟨its,r1,p1,z1⟩:=I.list ha
 obtain⟨its2,r2,p2,z2⟩:=I.list hb
 have l1:=r1.length
 have l2:=r2.length
 by_cases hl:xs.length=ys.length
 ·refine SeqAt.RcNeAt.lists p1.isList p2.isList (by simp;omega) hu (zh1 r1 r2 fx fy) _ _ _ _ ⟨.bl (!eqL xs ys),H,I,?_,q⟩
  rw[List.size_toArray,← l1,zcp hl]
  rfl
 ·refine SeqAt.RcNeAt.lists_lengths p1.isList p2.isList (by simp;omega) hu _ _ _ _ ⟨.bl (!eqL xs ys),H,I,?_,q⟩
  rw[zdW hl]
  rfl
end
structure CanM (P:Program) (w:World) (K:PySem.W.Frag) (mg:Str→Option Value) (base:Heap) (k:Nat) (C:Addr) (m:Str) (ps:List Str) (sp:Sp):Prop where
 ex:∃f fd,FnOk P w K mg base CX0 k f fd ps sp∧Meth K C m f∧wT K fd ps []
structure CanMX (P:Program) (w:World) (K:PySem.W.Frag) (mg:Str→Option Value) (base:Heap) (k:Nat) (C:Addr) (m:Str) (ps:List Str) (sp:Sp):Prop where
 ex:∃f fd,FnOk P w K mg base (CX1 P w) k f fd ps sp∧Meth K C m f∧wT K fd ps []
def tMethX(C:Addr)(m:Str)(W:XW)(sp:Sp)(ta:TE)(t:TA):TE:=fun σ H Q=>ta σ H fun x H1=>∃a dx fs,x=.ref a∧H1 a=some (.ins C dx fs)∧fs.lookup m=none∧t σ H1 fun vs H2=>sp (.ref a::vs) H2 Q fun cls _ H'=>W σ cls H'
section
variable {X:Cx} {k:Nat} {C:Addr} {m:Str} {ps:List Str} {sp:Sp} {apos pos:Pos} {o e:Expr} {es:List Expr} {ta:TE} {t:TA} {W:XW} {pl:Sem Bool}
theorem zaj(M:CanMX X.prog X.w X.K X.mg X.base k C m ps sp)(c:Cls X.K C)(fl:Fl X W)(hr:Room k X.A)(he:PE X o ta)(ha:PA X (e::es) t)
 (hst:starEach (e::es) X.env=(false,eval e X.env)::starEach es X.env:=by rfl) (hpl:(backTo pos (starEach es X.env)).any (·.1)=false:=by rfl)
 (ht:eval (.Call (.Attribute o m apos) (e::es) [] pos) X.env=(do
   let ov ← eval o X.env
   standAt apos.atName
   let (f,first) ← holding [ov] (getMethod ov m pl)
   callWith pos f first (backTo pos (starEach (e::es) X.env)) (backToKw pos (keywordEach [] X.env))):=by rfl) :
 PE X (.Call (.Attribute o m apos) (e::es) [] pos) (tMethX C m W sp ta t):=by
 obtain⟨f,fd,F,hm,hb⟩:=M.ex
 intro pins s σ H Q I h
 refine PySem.W.methodCall_KW (pl:=pl) (thn (he pins s σ H _ I h) fun u s1 ⟨x,H1,I1,rx,a,dx,fs,ex,ea,l,q⟩=>?_) ht
 subst ex
 obtain rfl:u=Value.ref a:=rx
 refine zcE I1 ea c hm l ?_
 refine PySem.W.callWith_K (first := [.ref a]) (h₀:=X.base) I.ok.mod.kin hm.kp (thn (ha pos pins s1 σ H1 _ I1 q) fun us s2 ⟨vs,H2,I2,r,q2⟩=>⟨I2.kIn,?_⟩) hst hpl
 exact zf8 (us:=.ref a::us) (vs:=.ref a::vs) F hr hb fl I2 (.cons rfl r) q2
theorem pe_ownMX0(M:CanMX X.prog X.w X.K X.mg X.base k C m ps sp)(c:Cls X.K C)(fl:Fl X W)(hr:Room k X.A)(he:PE X o ta)
 (ht:eval (.Call (.Attribute o m apos) [] [] pos) X.env=(do
   let ov ← eval o X.env
   standAt apos.atName
   let (f,first) ← holding [ov] (getMethod ov m pl)
   callWith pos f first (backTo pos (starEach [] X.env)) (backToKw pos (keywordEach [] X.env))):=by rfl) :
 PE X (.Call (.Attribute o m apos) [] [] pos) (tMethX C m W sp ta tNil):=by
 obtain⟨f,fd,F,hm,hb⟩:=M.ex
 intro pins s σ H Q I h
 refine PySem.W.methodCall_KW (pl:=pl) (thn (he pins s σ H _ I h) fun u s1 ⟨x,H1,I1,rx,a,dx,fs,ex,ea,l,q⟩=>?_) ht
 subst ex
 obtain rfl:u=Value.ref a:=rx
 refine zcE I1 ea c hm l ?_
 exact PySem.W.callWith_K0 (first := [.ref a]) I1.kIn hm.kp (zf8 (us := [.ref a]) (vs := [.ref a]) F hr hb fl I1 (.cons rfl .nil) q)
theorem ye(M:CanM X.prog X.w X.K X.mg X.base k C m ps sp)(c:Cls X.K C)(hr:Room k X.A)(he:PE X o ta)
 (ht:eval (.Call (.Attribute o m apos) [] [] pos) X.env=(do
   let ov ← eval o X.env
   standAt apos.atName
   let (f,first) ← holding [ov] (getMethod ov m pl)
   callWith pos f first (backTo pos (starEach [] X.env)) (backToKw pos (keywordEach [] X.env))):=by rfl) :
 PE X (.Call (.Attribute o m apos) [] [] pos) (tMeth C m sp [] E0 ta tNil):=by
 obtain⟨f,fd,F,hm,hb⟩:=M.ex
 exact pe_meth0 (pl:=pl) he c hm F hr hb .nil pass0 ht
structure CanK (P:Program) (w:World) (K:PySem.W.Frag) (mg:Str→Option Value) (base:Heap) (k:Nat) (x:Str) (C:Addr) (ps:List Str) (sp:Sp):Prop where
 ex:∃f fd,FnOk P w K mg base (CX1 P w) k f fd ps sp∧mg x=some (.ref C)∧Mk K C f∧wT K fd ps []
def tMakeX(C:Addr)(W:XW)(sp:Sp)(t:TA):TE:=fun σ H Q=>t σ H fun vs H1=>∀x dx,H1 x=none→H1 dx=none→dx≠x→sp (.ref x::vs) (upd (upd H1 dx (.own x)) x (.ins C dx [])) (fun v H2=>v=.non∧Q (.ref x) H2) fun cls _ H'=>W σ cls H'
theorem run_makeX{pins:List (Addr × Obj)}{σ:St}{H:Hp}{s:Shared}{Q:VK}{us:List Value}{vs:List V}{f:Addr}{fd:FuncData}(M:Mk X.K C f)(F:FnOk X.prog X.w X.K X.mg X.base (CX1 X.prog X.w) k f fd ps sp)(hr:Room (k+1) X.A)(hb:wT X.K fd ps [])(fl:Fl X W)(I:Inv X pins σ H s)(r:zA vs us)
 (h:∀x dx,H x=none→H dx=none→dx≠x→sp (.ref x::vs) (upd (upd H dx (.own x)) x (.ins C dx [])) (fun v H2=>v=.non∧Q (.ref x) H2) fun cls _ H'=>W σ cls H') :
 wpAny (model X.prog X.w) X.A (call (.ref C) us) (EP X pins σ Q) X.xe s:=by
 have hq:=h (s.heap.objs.size+1) s.heap.objs.size (I.hok.fresh (Nat.le_succ _)) (I.hok.fresh (Nat.le_refl _)) (Nat.ne_of_lt (Nat.lt_succ_self _))
 have I2:=Inv.made (C:=C) I
 have r2:zA (V.ref (s.heap.objs.size+1)::vs) (Value.ref (s.heap.objs.size+1)::us):=.cons rfl r
 have hl:(Value.ref (s.heap.objs.size+1)::us).length=ps.length:=by
  have e:=r2.length
  rw[F.len _ _ _ _ hq] at e
  exact e.symm
 have hb':=hb { s with heap:=(s.heap.push PySem.W.emptyDict).push (PySem.W.instObj C s.heap.objs.size) } (Value.ref (s.heap.objs.size+1)::us) I2.kIn (by rw[List.append_nil];exact hl)
 rw[List.append_nil] at hb'
 refine wpAny_call (make_map (f:=f) I.kIn M.makes M.init (beq_iff_eq.mp M.fn) (codeAny_mono (F.run _ X.stack _ _ ⟨Value.ref (s.heap.objs.size+1)::us,[]⟩ (Value.ref (s.heap.objs.size+1)::us) _ _ _ (hr.make C us [])
  (I2.env0.make C us []) hb' r2 hq) fun r s' hq'=>?_))
 cases r with
 | error e =>
   obtain⟨y,cls,H',rfl,fly,w⟩:=hq'
   exact fl pins σ _ _ y cls H' s' I2 fly w
 | ok fl =>
   cases fl with
   | ret u =>
     obtain⟨v,H',I3,rv,ev,q3⟩:=I2.after hq'
     subst ev
     exact⟨rv,⟨V.ref (s.heap.objs.size+1),H',I3,rfl,q3⟩⟩
   | next=>exact False.elim hq'
   | brk=>exact False.elim hq'
   | cont=>exact False.elim hq'
theorem pe_makeX{x:Str}{p:Pos}(M:CanK X.prog X.w X.K X.mg X.base k x C ps sp)(fl:Fl X W)(hr:Room (k+1) X.A)(hg:Gl X x)(ha:PA X (e::es) t)(hdb:(x==("__debug__" : Str))=false:=by decide)
 (he:starEach (e::es) X.env=(false,eval e X.env)::starEach es X.env:=by rfl) (hpl:(backTo pos (starEach es X.env)).any (·.1)=false:=by rfl):PE X (.Call (.Name x p) (e::es) [] pos) (tMakeX C W sp t):=by
 obtain⟨f,fd,F,hm,hk,hb⟩:=M.ex
 intro pins s σ H Q I h
 refine wpAny_Call_Name_kw (zcK I hg hm ?_ hdb)
 refine PySem.W.callWith_K (h₀:=X.base) I.ok.mod.kin hk.kp (thn (ha pos pins s σ H _ I h) fun us s1 ⟨vs,H1,I1,r,q⟩=>⟨I1.kIn,?_⟩) he hpl
 exact run_makeX hk F hr hb fl I1 r q
theorem pe_fldK{K:PySem.W.Frag}{f:Str}(h:X.K=K)(he:PE X e ta)(hb:attributeBase e f X.env (eval e X.env)=eval e X.env):PE X (.Attribute e f pos) (tFld K ta f):=by subst h;exact zaO he hb
end
def zN(K:PySem.W.Frag)(x:Str):Addr:=match PySem.W.nsIn K mainGlobals x with
 | some (some (.ref C))=>C
 | _=>0
theorem clsA_of{K:PySem.W.Frag}{x:Str}{C:Addr}(h:PySem.W.nsIn K mainGlobals x=some (some (.ref C))):zN K x=C:=by unfold zN;rw[h]
theorem CanM.of{P:Program}{w:World}{K:PySem.W.Frag}{mg:Str→Option Value}{base:Heap}{k:Nat}{C:Addr}{x m:Str}{ps:List Str}{sp:Sp}{f:Addr}{fd:FuncData}(hC:zN K x=C)(G:FnOk P w K mg base CX0 k f fd ps sp)(hm:Meth K C m f)(b:wT K fd ps []):CanM P w K mg base k (zN K x) m ps sp:=by rw[hC];exact⟨f,fd,G,hm,b⟩
theorem CanMX.of{P:Program}{w:World}{K:PySem.W.Frag}{mg:Str→Option Value}{base:Heap}{k:Nat}{C:Addr}{x m:Str}{ps:List Str}{sp:Sp}{f:Addr}{fd:FuncData}(hC:zN K x=C)(G:FnOk P w K mg base (CX1 P w) k f fd ps sp)(hm:Meth K C m f)(b:wT K fd ps []):CanMX P w K mg base k (zN K x) m ps sp:=by rw[hC];exact⟨f,fd,G,hm,b⟩
theorem CanK.of{P:Program}{w:World}{K:PySem.W.Frag}{mg:Str→Option Value}{base:Heap}{k:Nat}{C:Addr}{x:Str}{ps:List Str}{sp:Sp}{f:Addr}{fd:FuncData}(hC:zN K x=C)(G:FnOk P w K mg base (CX1 P w) k f fd ps sp)(hg:mg x=some (.ref C))(hm:Mk K C f)(b:wT K fd ps []):CanK P w K mg base k x (zN K x) ps sp:=by rw[hC];exact⟨f,fd,G,hg,hm,b⟩
section
variable {X:Cx}
theorem zeS(hc:X.calm=true):zal X (.builtin "max") (fun xs H Q=>∃(a:Addr) (ns:List Int),xs = [.ref a]∧SqL X.K H a (ns.map V.int)∧0<ns.length∧∀M:Int,M∈ns→(∀x∈ns,x≤M)→Q (.int M) H):=by
 intro pins s σ H xs us Q I r h
 obtain⟨a,ns,rfl,hS,hne,q⟩:=h
 obtain⟨u,rfl,ru⟩:=r.one
 cases ru
 obtain⟨its,r1,p1,z1⟩:=I.list hS
 have hi:=zbF r1
 obtain⟨xs,e⟩:=hi.allInts.items
 have hns:ns=xs.toList.map (·.1):=by
  rw[← hi.numsOf,← nums_intItems,← e]
 have hsz:0<xs.size:=by
  have h3:=hne;rw[hns,List.length_map,Array.length_toList] at h3;exact h3
 have hl:=p1.isList
 rw[e] at hl
 refine max_intList (I.ok.hd hc) hl hsz fun v h' tk hv hk=>?_
 obtain⟨t,rfl⟩:=intItems_at hv
 obtain⟨h1,h2⟩:=argBest_gt (numAt xs) (xs.size - 1)
 refine⟨.int _,H,I.kept (t':=tk) hk,⟨t,rfl⟩,q _ ?_ fun a ha=>?_⟩
 ·rw[hns,numAt_eq];exact getD_mem (by rw[List.length_map,Array.length_toList];omega)
 ·rw[hns] at ha
  obtain⟨j,hj,rfl⟩:=mem_getD ha
  rw[List.length_map,Array.length_toList] at hj
  rw[← numAt_eq];exact h2 j (by omega)
def rCatS(K:PySem.W.Frag):R2:=fun x y H Q=>∃l b xs zs,x=.ref l∧y=.ref b∧SqL K H l xs∧SqL K H b zs∧xs.length+zs.length≤sizeLine∧∀p,H p=none→Q (.ref p) (upd H p (.lst (xs++zs)))
theorem op_catS:OpR X (binaryOp .Add) (rCatS X.K):=by
 intro pins s σ H x y v u Q I rx ry h
 obtain⟨l,b,xs,zs,rfl,rfl,hH,hB,hz,q⟩:=h
 cases rx
 cases ry
 obtain⟨its,r,p1,z1⟩:=I.list hH
 obtain⟨its2,r2,p2,z2⟩:=I.list hB
 have hl:=r.length
 have hl2:=r2.length
 obtain⟨⟨cls,dd,data,sl⟩,ho,hc,n,hd⟩:=p1.isList
 obtain⟨⟨cls2,dd2,data2,sl2⟩,ho2,hc2,n2,hd2⟩:=p2.isList
 cases hc;cases hd;cases hc2;cases hd2
 refine concat_meets ⟨_,ho,rfl⟩ ⟨_,ho2,rfl⟩ noFill_list_add seq_list_add F.slot_list_add F.entry_list_add (F.args_list_add_2 _ _) (list_addW l b its.toArray its2.toArray n n2 dd dd2 sl sl2 (by rw[List.size_toArray,List.size_toArray];omega)) ⟨ho,ho2,?_⟩
 have ea:its.toArray++its2.toArray=(its++its2).toArray:=by simp
 rw[ea]
 exact⟨.ref _,_,I.lnew (t':=s.toks) (r.append r2) (by rw[List.length_append];omega),rfl,q _ I.fresh⟩
theorem zbV{K:PySem.W.Frag}(h:X.K=K)(hu:X.A.units<cLine):OpR X (compareOp .NotEq) (rNeL K):=by subst h;exact zd7 hu
end
section
variable {X:Cx}
end
end L2
namespace L2
open PySem PySem.Spec PyProof.Rows PySem.W PySem.Calls Builtin Builtin.ObjectAttr Builtin.Getset_descriptor
section
variable {prog:Program} {w:World} {A:Around} {s:Shared} {K:PySem.W.Frag} {x C:Addr} {E:Value→Shared→Prop}
end
section
variable {X:Cx}
end
def ww(n:Nat):List Int:=(List.range n).map fun(k:Nat)=>(k:Int)
theorem zfj:∀(l:List Value) (k:Nat),(∀(j:Nat) (v:Value),l[j]? = some v→∃t,v=.int ((k+j:Nat):Int) t)→zA ((List.range' k l.length).map fun(i:Nat)=>V.int (i:Int)) l
 | [],_,_=>.nil
 | v::l,k,h=>by
   rw[List.length_cons,List.range'_succ,List.map_cons]
   refine .cons (h 0 v rfl) (zfj l (k+1) fun j u e=>?_)
   have:=h (j+1) u e
   rw[show k+(j+1)=k+1+j by omega] at this
   exact this
section
variable {X:Cx}
def tLR(ta:TA):TE:=fun σ H Q=>ta σ H fun vs H1=>∃n:Nat,vs = [.int n]∧n≤1000∧∀l,H1 l=none→Q (.ref l) (upd H1 l (.lst ((ww n).map V.int)))
theorem zc5{a:Expr}{ta:TA}{p p2 pos pos2:Pos}(hc:X.calm=true)(hg:Gl X "list")(hm:X.mg "list" = none)(hg2:Gl X "range")(hm2:X.mg "range" = none)(ha:PA X [a] ta)(hs:starEach [a] X.env = [(false,eval a X.env)]:=by rfl):
 PE X (.Call (.Name "list" p) [.Call (.Name "range" p2) [a] [] pos2] [] pos) (tLR ta):=by
 intro pins s σ H Q I h
 refine wpAny_Call_Name_kw (zat I hg hm boot_list ?_ (by decide) (by decide))
 refine PyProof.Rows.callWith_type1 ?_ rfl rfl
 refine Calls.spliced_cons ?_
 refine Call_ (zat I hg2 hm2 boot_range (PyProof.Rows.callWith_type1 (thn (ha pos2 pins s σ H _ I h) fun us s1 ⟨vs,H1,I1,r1,q1⟩=>?_) hs rfl))
 obtain⟨n,rfl,hn,q⟩:=q1
 cases r1 with
 | cons r rr =>
   cases rr
   obtain⟨t,rfl⟩:=r
   refine call_range_1 ?_
   refine Calls.spliced_nil ?_
   have I2:Inv X pins σ H1 { s1 with heap:=s1.heap.push { cls:=.type "range",data:=.fields #[.int 0 s1.toks,.int n t,.int 1 (s1.toks+1)] },toks:=s1.toks+1+1 }:=I1.kept fun b o e=>Heap.get?_push_of_some _ e
   refine call_list_range (n:=n) (I1.ok.hd hc) (IsRange.new ..) (small_one (by omega) (by omega) (by omega) (by omega)) (by rw[rangeSize_one];split <;> omega) (by omega) fun h' tk acc' c' hk e hacc=>?_
   refine⟨.ref _,upd H1 _ (.lst ((ww n).map V.int)),Inv.laid (s:={ s1 with heap:=s1.heap.push { cls:=.type "range",data:=.fields #[.int 0 s1.toks,.int n t,.int 1 (s1.toks+1)] },toks:=s1.toks+1+1 }) (t':=tk) I2 hk (Nat.le_refl _) ⟨?_,acc'.toList,c',?_,by simpa using e⟩,rfl,q _ (I2.hok.fresh (Nat.le_refl _))⟩
   ·have:=zw
    unfold ww
    rw[List.length_map,List.length_map,List.length_range]
    omega
   ·have hz:acc'.toList.length=n:=by rw[Array.length_toList];exact hacc.1
    have:=zfj acc'.toList 0 fun j v e=>by
     obtain⟨t,ht⟩:=hacc.2 j v (by simpa using e)
     exact⟨t,by rw[ht];congr 1;omega⟩
    rw[hz,← List.range_eq_range'] at this
    unfold ww
    rw[List.map_map]
    exact this
end
section
variable {X:Cx}
end
end L2
namespace M14
open PySem PySem.W PyProof.Rows
abbrev g(p:Array Nat)(i:Nat):Nat:=p.getD i 0
theorem g_of{p q:Array Nat}{i j:Nat}(h:p[i]? = q[j]?):g p i=g q j:=by
 show p.getD i 0=q.getD j 0
 rw[Array.getD_eq_getD_getElem?,Array.getD_eq_getD_getElem?,h]
theorem zbR{p:Array Nat}{i j:Nat}(hj:j≤p.size)(k:Nat):g (kas_rev p i j) k=if i≤k∧k<j then g p (i+j - 1 - k)else g p k:=by
 have e:=getElem?_mirror_all (xs:=p) (i:=i) hj k
 by_cases c:i≤k∧k<j
 ·rw[if_pos c] at e ⊢;exact g_of e
 ·rw[if_neg c] at e ⊢;exact g_of e
theorem g_bub{p:Array Nat}{s d:Nat}(hs:s<p.size)(hd:d≤s)(k:Nat):g (bubble p s d) k=if k=s - d then g p s else if s - d<k∧k≤s then g p (k - 1)else g p k:=by
 have e:=getElem?_bubble hs d hd k
 by_cases c:k=s - d
 ·rw[if_pos c] at e ⊢;exact g_of e
 ·rw[if_neg c] at e ⊢
  by_cases c2:s - d<k∧k≤s
  ·rw[if_pos c2] at e ⊢;exact g_of e
  ·rw[if_neg c2] at e ⊢;exact g_of e
section
variable (key:Nat→Int) (N:Nat)
def R(a b:Nat):Prop:=key a<key b∨key a=key b∧a<b
structure B (p:Array Nat) (m:Nat):Prop where
 pm:p.Perm (List.range N).toArray
 tl:∀i,m≤i→i<N→g p i=i
 lo:∀i,i<m→g p i<m
 le:m≤N
def I(p:Array Nat)(m:Nat):Prop:=B N p m∧∀i j,i<j→j<m→R key (g p i) (g p j)
def E(p:Array Nat)(m:Nat):Prop:=B N p m∧∀i j,i<j→j<m→R key (g p j) (g p i)
structure D (p:Array Nat) (m b:Nat):Prop where
 bs:B N p m
 lt:b<m
 ds:∀i j,i<j→j<b→R key (g p j) (g p i)
 sp:∀i j,i<b→b≤j→j<m→key (g p j)<key (g p i)
 bk:∀i j,b≤i→i<j→j<m→key (g p i)=key (g p j)∧g p i<g p j
def ck(i j:Nat)(C:Bool→Shared→Prop)(s:Shared):Prop:=i<N∧j<N∧C (decide (key i<key j)) s
variable {key N}
theorem B.size{p:Array Nat}{m:Nat}(b:B N p m):p.size=N:=by
 have:=b.pm.size_eq
 simpa using this
theorem B.lt{p:Array Nat}{m:Nat}(b:B N p m){i:Nat}(h:i<N):g p i<N:=by
 by_cases c:i<m
 ·have:=b.lo i c;have:=b.le;omega
 ·rw[b.tl i (by omega) h];exact h
theorem B.rev{p:Array Nat}{m i j:Nat}(b:B N p m)(hj:j≤m):B N (kas_rev p i j) m:=by
 have hs:j≤p.size:=by have:=b.size;have:=b.le;omega
 refine⟨(mirror_perm _ _ _ _).trans b.pm,fun k h1 h2=>?_,fun k h=>?_,b.le⟩
 ·rw[zbR hs,if_neg (by omega)];exact b.tl k h1 h2
 ·rw[zbR hs]
  split
  ·exact b.lo _ (by omega)
  ·exact b.lo _ h
theorem B.up{p:Array Nat}{m:Nat}(b:B N p m)(h:m<N):B N p (m+1):=by
 refine⟨b.pm,fun i h1 h2=>b.tl i (by omega) h2,fun i hi=>?_,h⟩
 by_cases c:i<m
 ·have:=b.lo i c;omega
 ·have e:i=m:=by omega
  rw[e,b.tl m (Nat.le_refl _) h]
  omega
theorem R.le{a b:Nat}(h:R key a b):key a≤key b:=by
 rcases h with h | h
 ·omega
 ·omega
theorem R.of{a b:Nat}(h:key a≤key b)(l:a<b):R key a b:=by
 by_cases c:key a<key b
 ·exact .inl c
 ·exact .inr ⟨by omega,l⟩
theorem I.turn{p:Array Nat}{m:Nat}(h:I key N p m):E key N (kas_rev p 0 m) m:=by
 have hs:m≤p.size:=by have:=h.1.size;have:=h.1.le;omega
 refine⟨h.1.rev (Nat.le_refl _),fun i j hij hj=>?_⟩
 rw[zbR hs,zbR hs,if_pos ⟨Nat.zero_le _,hj⟩,if_pos ⟨Nat.zero_le _,by omega⟩]
 exact h.2 _ _ (by omega) (by omega)
theorem E.turn{p:Array Nat}{m:Nat}(h:E key N p m):I key N (kas_rev p 0 m) m:=by
 have hs:m≤p.size:=by have:=h.1.size;have:=h.1.le;omega
 refine⟨h.1.rev (Nat.le_refl _),fun i j hij hj=>?_⟩
 rw[zbR hs,zbR hs,if_pos ⟨Nat.zero_le _,by omega⟩,if_pos ⟨Nat.zero_le _,hj⟩]
 exact h.2 _ _ (by omega) (by omega)
theorem D.one{p:Array Nat}{m:Nat}(h:D key N p (m+1) m):E key N p (m+1):=by
 refine⟨h.bs,fun i j hij hj=>?_⟩
 by_cases c:j<m
 ·exact h.ds i j hij c
 ·have e:j=m:=by omega
  subst e
  exact .inl (h.sp i j hij (Nat.le_refl _) (by omega))
theorem D.turn{p:Array Nat}{m b:Nat}(h:D key N p m b):E key N (kas_rev p b m) m:=by
 have hs:m≤p.size:=by have:=h.bs.size;have:=h.bs.le;omega
 have hl:=h.lt
 refine⟨h.bs.rev (Nat.le_refl _),fun i j hij hj=>?_⟩
 rw[zbR hs,zbR hs]
 by_cases c:j<b
 ·rw[if_neg (by omega),if_neg (by omega)]
  exact h.ds i j hij c
 ·rw[if_pos ⟨by omega,hj⟩]
  by_cases c2:i<b
  ·rw[if_neg (by omega)]
   exact .inl (h.sp i _ c2 (by omega) (by omega))
  ·rw[if_pos ⟨by omega,by omega⟩]
   have z:=h.bk (b+m - 1 - j) (b+m - 1 - i) (by omega) (by omega) (by omega)
   exact .inr z
theorem E.step{p:Array Nat}{m:Nat}(h:E key N p m)(h1:1≤m)(hm:m<N)(hk:key (g p m)<key (g p (m - 1))):D key N p (m+1) m:=by
 refine⟨h.1.up hm,by omega,h.2,fun i j hi h2 h3=>?_,fun i j h2 h3 h4=>by omega⟩
 have e:j=m:=by omega
 subst e
 by_cases c:i=j - 1
 ·subst c;exact hk
 ·have:=(h.2 i (j - 1) (by omega) (by omega)).le
  omega
theorem D.same{p:Array Nat}{m b:Nat}(h:D key N p m b)(hm:m<N)(hk:key (g p m)=key (g p (m - 1))):D key N p (m+1) b:=by
 have hl:=h.lt
 refine⟨h.bs.up hm,by omega,h.ds,fun i j hi h2 h3=>?_,fun i j h2 h3 h4=>?_⟩
 ·by_cases c:j<m
  ·exact h.sp i j hi h2 c
  ·have e:j=m:=by omega
   subst e
   rw[hk]
   exact h.sp i _ hi (by omega) (by omega)
 ·by_cases c:j<m
  ·exact h.bk i j h2 h3 c
  ·have e:j=m:=by omega
   subst e
   refine⟨?_,by rw[h.bs.tl j (Nat.le_refl _) hm];exact h.bs.lo i h3⟩
   rw[hk]
   by_cases c2:i=j - 1
   ·rw[c2]
   ·exact(h.bk i (j - 1) h2 (by omega) (by omega)).1
theorem I.up{p:Array Nat}{m:Nat}(h:I key N p m)(h1:1≤m)(hm:m<N)(hk:¬key (g p m)<key (g p (m - 1))):I key N p (m+1):=by
 refine⟨h.1.up hm,fun i j hij hj=>?_⟩
 by_cases c:j<m
 ·exact h.2 i j hij c
 ·have e:j=m:=by omega
  subst e
  refine R.of ?_ (by rw[h.1.tl j (Nat.le_refl _) hm];exact h.1.lo i hij)
  by_cases c2:i=j - 1
  ·rw[c2];omega
  ·have:=(h.2 i (j - 1) (by omega) (by omega)).le
   omega
theorem asc{p:Array Nat}{Q:Nat→Shared→Prop}{s:Shared}:∀(f m:Nat),m+f=N→1≤m→I key N p m→(∀m',m≤m'→m'≤N→I key N p m'→(m'<N→key (g p m')<key (g p (m' - 1)))→Q m' s)→(kas_asc p f m).kasWp (ck key N) Q s
 | 0,m,e,h1,h,q=>q m (Nat.le_refl _) (by omega) h (by omega)
 | f+1,m,e,h1,h,q=>by
   refine⟨h.1.lt (by omega),h.1.lt (by omega),?_⟩
   by_cases c:key (g p m)<key (g p (m - 1))
   ·rw[decide_eq_true c];dsimp only;rw[if_pos rfl]
    exact q m (Nat.le_refl _) (by omega) h fun _=>c
   ·rw[decide_eq_false c];dsimp only;rw[if_neg Bool.false_ne_true]
    exact asc f (m+1) (by omega) (by omega) (h.up h1 (by omega) c) fun m' l1 l2=>q m' (by omega) l2
theorem desc{Q:Array Nat × Nat × Nat→Shared→Prop}{s:Shared}:∀(f:Nat) (p:Array Nat) (m q:Nat),m+f=N→q+1≤m→D key N p m (m - (q+1)) →
 (∀p' m' q',m'≤N→q'+1≤m'→D key N p' m' (m' - (q'+1))→Q (p',m',q') s)→(kas_desc f p m q).kasWp (ck key N) Q s
 | 0,p,m,q,e,hq,h,k=>k p m q (by omega) hq h
 | f+1,p,m,q,e,hq,h,k=>by
   refine⟨h.bs.lt (by omega),h.bs.lt (by omega),?_⟩
   by_cases c:key (g p m)<key (g p (m - 1))
   ·rw[decide_eq_true c];dsimp only;rw[if_pos rfl]
    by_cases cq:q > 0
    ·rw[if_pos cq]
     refine desc f _ (m+1) 0 (by omega) (by omega) ?_ k
     have hs:m≤p.size:=by have:=h.bs.size;omega
     refine h.turn.step (by omega) (by omega) ?_
     rw[zbR hs,zbR hs,if_neg (by omega),if_pos ⟨by omega,by omega⟩]
     have z:=(h.bk (m - (q+1)) (m - 1) (Nat.le_refl _) (by omega) (by omega)).1
     rw[show m - (q+1)+m - 1 - (m - 1)=m - (q+1)by omega,z]
     exact c
    ·rw[if_neg cq]
     have e0:q=0:=by omega
     subst e0
     refine desc f _ (m+1) 0 (by omega) (by omega) ?_ k
     obtain⟨r,rfl⟩:∃r,m=r+1:=⟨m - 1,by omega⟩
     exact E.step (D.one h) (by omega) (by omega) c
   ·rw[decide_eq_false c];dsimp only;rw[if_neg Bool.false_ne_true]
    refine⟨h.bs.lt (by omega),h.bs.lt (by omega),?_⟩
    by_cases d:key (g p (m - 1))<key (g p m)
    ·rw[decide_eq_true d];dsimp only;rw[if_pos rfl]
     exact k p m q (by omega) hq h
    ·rw[decide_eq_false d];dsimp only;rw[if_neg Bool.false_ne_true]
     refine desc f p (m+1) (q+1) (by omega) (by omega) ?_ k
     rw[show m+1 - (q+1+1)=m - (q+1)by omega]
     exact h.same (by omega) (by omega)
theorem tail3{p:Array Nat}{m:Nat}{Q:Nat × Array Nat→Shared→Prop}{s:Shared}(h1:1≤m)(h:E key N p m)(q:∀m' p',1≤m'→m'≤N→I key N p' m'→Q (m',p') s):(kas_tail3 m N p).kasWp (ck key N) Q s:=by
 unfold kas_tail3
 rw[KasT.kasWp_bind]
 have:=h.1.le
 exact asc (N - m) m (by omega) h1 h.turn fun m' l1 l2 z _=>q m' _ (by omega) l2 z
theorem zgq{p:Array Nat}{m:Nat}{Q:Nat × Array Nat→Shared→Prop}{s:Shared}(h1:1≤m)(hm:m<N)(h:E key N p m)(hk:key (g p m)<key (g p (m - 1)))(q:∀m' p',1≤m'→m'≤N→I key N p' m'→Q (m',p') s):(kas_descPart m N p).kasWp (ck key N) Q s:=by
 unfold kas_descPart
 rw[KasT.kasWp_bind]
 refine desc (N - (m+1)) p (m+1) 0 (by omega) (by omega) (h.step h1 hm hk) fun p' m' q' l1 l2 d=>?_
 dsimp only
 by_cases c:q' > 0
 ·rw[if_pos c]
  exact tail3 (by omega) d.turn q
 ·rw[if_neg c]
  have e0:q'=0:=by omega
  subst e0
  obtain⟨r,rfl⟩:∃r,m'=r+1:=⟨m' - 1,by omega⟩
  exact tail3 (by omega) (D.one d) q
theorem count{p:Array Nat}{Q:Nat × Array Nat→Shared→Prop}{s:Shared}(h1:1≤N)(h:I key N p 1)(q:∀m' p',1≤m'→m'≤N→I key N p' m'→Q (m',p') s):(kas_count N p).kasWp (ck key N) Q s:=by
 unfold kas_count
 rw[KasT.kasWp_bind]
 refine asc (N - 1) 1 (by omega) (Nat.le_refl _) h fun m l1 l2 z hk=>?_
 by_cases c:m=N
 ·rw[if_pos (by rw[c];exact beq_self_eq_true N)]
  exact q m p l1 l2 z
 ·rw[if_neg (by intro b;exact c (eq_of_beq b))]
  have hm:m<N:=by omega
  have hk:=hk hm
  by_cases c1:m > 1
  ·rw[if_pos c1]
   refine⟨z.1.lt (by omega),z.1.lt (by omega),?_⟩
   by_cases d:key (g p 0)<key (g p (m - 1))
   ·rw[decide_eq_true d];dsimp only;rw[if_pos rfl]
    exact q m p l1 l2 z
   ·rw[decide_eq_false d];dsimp only;rw[if_neg Bool.false_ne_true]
    have hs:m≤p.size:=by have:=z.1.size;omega
    refine zgq l1 hm z.turn ?_ q
    rw[zbR hs,zbR hs,if_neg (by omega),if_pos ⟨by omega,by omega⟩,show 0+m - 1 - (m - 1)=0 by omega]
    omega
  ·rw[if_neg c1]
   have e:m=1:=by omega
   subst e
   exact zgq l1 hm ⟨z.1,fun i j a b=>by omega⟩ hk q
theorem place{p:Array Nat}{k:Nat}{Q:Nat→Shared→Prop}{s:Shared}(hk:k<N)(h:I key N p k):∀(f l r:Nat),r≤l+f→l≤r→r≤k→(∀i,i<l→key (g p i)≤key (g p k))→(∀i,r≤i→i<k→key (g p k)<key (g p i)) →
 (∀l',l'≤k→(∀i,i<l'→key (g p i)≤key (g p k))→(∀i,l'≤i→i<k→key (g p k)<key (g p i))→Q l' s)→(kas_place p k f l r).kasWp (ck key N) Q s
 | 0,l,r,e,h1,h2,a,b,q=>q l (by omega) a fun i x y=>b i (by omega) y
 | f+1,l,r,e,h1,h2,a,b,q=>by
   unfold kas_place
   by_cases c:l ≥ r
   ·rw[if_pos c]
    exact q l (by omega) a fun i x y=>b i (by omega) y
   ·rw[if_neg c]
    have h3:(l+r)/2<r:=by omega
    have h4:l≤(l+r)/2:=by omega
    generalize (l+r)/2=m at h3 h4
    refine⟨h.1.lt hk,h.1.lt (by omega),?_⟩
    by_cases d:key (g p k)<key (g p m)
    ·rw[decide_eq_true d];dsimp only;rw[if_pos rfl]
     refine place hk h f l m (by omega) h4 (by omega) a (fun i x y=>?_) q
     by_cases c2:i=m
     ·rw[c2];exact d
     ·have:=(h.2 m i (by omega) y).le
      omega
    ·rw[decide_eq_false d];dsimp only;rw[if_neg Bool.false_ne_true]
     refine place hk h f (m+1) r (by omega) (by omega) h2 (fun i x=>?_) b q
     by_cases c2:i=m
     ·rw[c2];omega
     ·have:=(h.2 i m (by omega) (by omega)).le
      omega
theorem I.put{p:Array Nat}{k l:Nat}(hk:k<N)(h:I key N p k)(hl:l≤k)(a:∀i,i<l→key (g p i)≤key (g p k))(b:∀i,l≤i→i<k→key (g p k)<key (g p i)):I key N (bubble p k (k - l)) (k+1):=by
 have hs:k<p.size:=by rw[h.1.size];exact hk
 have hg:=fun i=>g_bub hs (Nat.sub_le k l) i
 rw[show k - (k - l)=l by omega] at hg
 refine⟨⟨(bubble_perm _ _ _).trans h.1.pm,fun i h1 h2=>?_,fun i hi=>?_,hk⟩,fun i j hij hj=>?_⟩
 ·rw[hg,if_neg (by omega),if_neg (by omega)]
  exact h.1.tl i (by omega) h2
 ·rw[hg]
  by_cases c:i=l
  ·rw[if_pos c,h.1.tl k (Nat.le_refl _) hk];omega
  ·rw[if_neg c]
   by_cases c2:l<i∧i≤k
   ·rw[if_pos c2];have:=h.1.lo (i - 1) (by omega);omega
   ·rw[if_neg c2];have:=h.1.lo i (by omega);omega
 ·rw[hg i,hg j]
  by_cases c1:j<l
  ·rw[if_neg (by omega),if_neg (by omega),if_neg (by omega),if_neg (by omega)]
   exact h.2 i j hij (by omega)
  ·by_cases c2:j=l
   ·rw[if_pos c2,if_neg (by omega),if_neg (by omega)]
    exact R.of (a i (by omega)) (by rw[h.1.tl k (Nat.le_refl _) hk];exact h.1.lo i (by omega))
   ·rw[if_neg c2,if_pos (show l<j∧j≤k by omega)]
    by_cases c3:i=l
    ·rw[if_pos c3]
     exact .inl (b (j - 1) (by omega) (by omega))
    ·rw[if_neg c3]
     by_cases c4:i<l
     ·rw[if_neg (by omega)]
      exact h.2 i (j - 1) (by omega) (by omega)
     ·rw[if_pos (by omega)]
      exact h.2 (i - 1) (j - 1) (by omega) (by omega)
theorem bin{Q:Array Nat→Shared→Prop}{s:Shared}(q:∀p',I key N p' N→Q p' s):∀(f:Nat) (p:Array Nat) (k:Nat),k+f=N→I key N p k→(kas_bin f p k).kasWp (ck key N) Q s
 | 0,p,k,e,h=>q p (by rw[Nat.add_zero] at e;rw[← e];rw[e] at h ⊢;exact h)
 | f+1,p,k,e,h=>by
   unfold kas_bin
   rw[KasT.kasWp_bind]
   refine place (by omega) h k 0 k (by omega) (Nat.zero_le _) (Nat.le_refl _) (fun i x=>by omega) (fun i x y=>by omega) fun l l1 a b=>?_
   exact bin q f _ (k+1) (by omega) (h.put (by omega) l1 a b)
theorem zav(h1:1≤N):I key N (List.range N).toArray 1:=by
 have e:∀i,i<N→g (List.range N).toArray i=i:=fun i h=>by
  show(List.range N).toArray.getD i 0=i
  simp[Array.getD,h]
 exact⟨⟨Array.Perm.refl _,fun i _ h=>e i h,fun i h=>by rw[e i (by omega)];exact h,h1⟩,fun i j a b=>by omega⟩
theorem sort{Q:Array Nat→Shared→Prop}{s:Shared}(h1:1≤N)(q:∀p,I key N p N→Q p s):(kas_sort N).kasWp (ck key N) Q s:=by
 unfold kas_sort
 rw[KasT.kasWp_bind]
 refine count h1 (zav h1) fun m p l1 l2 h=>?_
 dsimp only
 by_cases c:m<N
 ·rw[if_pos c,show max m 1=m by omega]
  exact bin q (N - m) p m (by omega) h
 ·rw[if_neg c]
  have e:m=N:=by omega
  subst e
  exact q p h
end
end M14
namespace L2
open PySem PySem.W PySem.Calls PyProof.Rows
theorem wp_cmp{α:Type}{c c':Nat→Nat→(Bool→Shared→Prop)→Shared→Prop}{Q:α→Shared→Prop}(m:∀i j C C' s,(∀b s',C b s'→C' b s')→c i j C s→c' i j C' s):
 ∀(t:KasT α) (s:Shared),t.kasWp c Q s→t.kasWp c' Q s
 | .ret _,_,h=>h
 | .ask i j k,s,h=>m i j _ _ s (fun b s' z=>wp_cmp m (k b) s' z) h
section
variable {X:Cx} {pins:List (Addr × Obj)} {σ:St} {H:Hp} {s:Shared} {a kS:Addr} {A:Around} {E:Value→Shared→Prop}
structure Own (X:Cx) (pins:List (Addr × Obj)) (H:Hp) (a:Addr):Prop where
 free:H a=none
 loc:a≠X.env.locals
 new:X.s₀.heap.objs.size≤a
 cell:∀x c,X.env.cells.lookup x=some c→c≠a
 pin:∀p∈X.pn++pins,p.1≠a
 fs:a∉X.fs
theorem Inv.own(I:Inv X pins σ H s){b:Addr}(h:s.heap.objs.size≤b):Own X pins H b:=by
 refine⟨I.hok.fresh h,fun z=>?_,Nat.le_trans I.sz h,fun x c e z=>?_,fun p hp z=>?_,I.nofs h⟩
 ·have:=I.lt;rw[← z] at this;exact absurd this (Nat.not_lt.mpr h)
 ·obtain⟨v,hv⟩:=I.cell x c e
  obtain⟨o,ho,_⟩:=hv
  have:=Heap.lt_size ho
  rw[z] at this
  exact absurd this (Nat.not_lt.mpr h)
 ·have:=Heap.lt_size (I.pin p hp).1
  rw[z] at this
  exact absurd this (Nat.not_lt.mpr h)
theorem Inv.swap{f:Obj→Obj}(I:Inv X pins σ H s)(o:Own X pins H a):Inv X pins σ H { s with heap:=s.heap.update a f } :=
 I.turned (it:=a) (fun b u hb hu=>(Heap.get?_update_other s.heap f (Ne.symm hb)).trans hu) o.free o.loc (.inr o.new) o.cell o.pin
theorem Inv.hold{u:Obj}(I:Inv X pins σ H s)(o:Own X pins H a)(e:s.heap.get? a=some u)(hu:∀v,u.data ≠ .cell v):Inv X ((a,u)::pins) σ H s :=
 I.pins_of fun p hp=>by
  rcases List.mem_cons.mp hp with rfl | hp
  ·exact⟨e,o.free,o.loc,o.fs,hu⟩
  ·exact I.pin p (List.mem_append_right _ hp)
theorem Inv.drop{p:Addr × Obj}(I:Inv X (p::pins) σ H s):Inv X pins σ H s :=
 I.pins_of fun q hq=>I.pin q (List.mem_append_right _ (List.mem_cons_of_mem _ hq))
theorem Inv.held{u:Obj}(I:Inv X ((a,u)::pins) σ H s):s.heap.get? a=some u:=(I.pin (a,u) (List.mem_append_right _ (List.mem_cons_self ..))).1
theorem Own.more{u:Obj}(o:Own X pins H a)(h:kS≠a):Own X ((kS,u)::pins) H a :=
 ⟨o.free,o.loc,o.new,o.cell,fun p hp=>by
  rcases List.mem_append.mp hp with z | z
  ·exact o.pin p (List.mem_append_left _ z)
  ·rcases List.mem_cons.mp z with rfl | z
   ·exact h
   ·exact o.pin p (List.mem_append_right _ z),o.fs⟩
theorem nocell{vs:Array Value}{n:Nat}:∀v,(seqObj "list" vs n).data ≠ .cell v:=fun v z=>by cases z
theorem zdk:∀{ks:List Value} {kz:List Int},IntsAre ks kz→∀i,i<kz.length→∃t,ks.getD i Value.none=Value.int (kz.getD i 0) t
 | _,_,.cons n t r,0,_=>⟨t,rfl⟩
 | _,_,.cons n t r,i+1,h=>zdk r i (by simpa using h)
theorem zgU{vs:List Value}{kz:List Int}{e1:Nat}{body:Value→PUnit→Sem (ForInStep PUnit)}(hl:kz.length=vs.length)
 (hb:∀(v:Value) (ks:List Value) (e:Nat) (s:Shared),vs[ks.length]? = some v→Inv X ((kS,seqObj "list" ks.toArray e)::(a,seqObj "list" #[] e1)::pins) σ H s→IntsAre ks (kz.take ks.length) →
   wpAny (model X.prog X.w) A (body v ⟨⟩) (fun r s'=>r=.yield ⟨⟩∧∃(k:Value) (e':Nat),Inv X ((kS,seqObj "list" (ks ++ [k]).toArray e')::(a,seqObj "list" #[] e1)::pins) σ H s'∧IntsAre (ks ++ [k]) (kz.take (ks ++ [k]).length)) E s) :
 ∀(r:List Value) (ks:List Value) (e:Nat) (s:Shared),vs.drop ks.length=r→ks.length≤vs.length→Inv X ((kS,seqObj "list" ks.toArray e)::(a,seqObj "list" #[] e1)::pins) σ H s→IntsAre ks (kz.take ks.length) →
  wpAny (model X.prog X.w) A (forIn r PUnit.unit body) (fun _ s'=>∃(ks:List Value) (e:Nat),Inv X ((kS,seqObj "list" ks.toArray e)::(a,seqObj "list" #[] e1)::pins) σ H s'∧IntsAre ks kz) E s
 | [],ks,e,s,hd,hz,I,hi=>by
   rw[List.forIn_nil]
   have:vs.length≤ks.length:=by
    have:=congrArg List.length hd
    rw[List.length_drop,List.length_nil] at this
    omega
   refine wpAny_pure ⟨ks,e,I,?_⟩
   rw[List.take_of_length_le (by omega)] at hi
   exact hi
 | v::r,ks,e,s,hd,hz,I,hi=>by
   rw[List.forIn_cons]
   have hv:vs[ks.length]? = some v:=by
    have:=congrArg List.head? hd
    rw[List.head?_drop] at this
    exact this
   have hlt:ks.length<vs.length:=(List.getElem?_eq_some_iff.mp hv).1
   refine wpAny_bind (wpAny_mono (hb v ks e s hv I hi) (fun q s' hq=>?_) fun _ _ x=>x)
   obtain⟨rfl,k,e',I',hi'⟩:=hq
   show wpAny (model X.prog X.w) A (forIn r PUnit.unit body) _ E s'
   have hlen:(ks ++ [k]).length=ks.length+1:=by rw[List.length_append,List.length_singleton]
   refine zgU hl hb r (ks ++ [k]) e' s' ?_ (by omega) I' hi'
   rw[hlen,← List.drop_drop,hd]
   rfl
theorem key_tail{st:SortSt}{ks out:List Value}{e e1:Nat}(I:Inv X ((kS,seqObj "list" ks.toArray e)::(a,seqObj "list" #[] e1)::pins) σ H s)(o:Own X pins H a)(ok:Own X pins H kS)(hka:kS≠a)(hz:ks.length<64)(hz2:out.length<64)
 (ho:(arrOf st).map (·.2)=List.toArray out) (hf:failedOf st=none) :
 wpAny (model X.prog X.w) A (ksk_tail a false e1 (.ref kS) st) (fun r s'=>r=.done (.ret .none)∧Inv X pins σ H s'∧∃e,s'.heap.get? a=some (seqObj "list" out.toArray e)) E s:=by
 have hln:=zw
 have hk:=I.held
 have ha:=I.drop.held
 have I1:=I.drop.drop.swap (f:=Obj.mapSeq fun _=>(#[]:Array Value)) ok
 have ha1:(s.heap.update kS (Obj.mapSeq fun _=>(#[]:Array Value))).get? a=some (seqObj "list" #[] e1):=(Heap.get?_update_other s.heap _ hka).trans ha
 have I2:=I1.swap (f:=Obj.mapSeq fun _=>out.toArray) o
 obtain⟨c2,hc2⟩:∃c2,((s.heap.update kS (Obj.mapSeq fun _=>(#[]:Array Value))).update a (Obj.mapSeq fun _=>out.toArray)).get? a=some (seqObj "list" out.toArray c2):=⟨_,get?_update_seq ha1 fun _=>out.toArray⟩
 unfold ksk_tail
 try dsimp only
 rw[ho]
 refine wpAny_bind (listUpdate_at hk rfl ?_ (by rw[List.size_toArray];omega) (Nat.zero_le _))
 refine wpAny_bind (wpAny_letGo ?_)
 refine wpAny_bind (seqEpoch_at ha1 rfl ?_)
 simp only[Bool.false_eq_true,if_false]
 refine wpAny_bind (listUpdate_at ha1 rfl ?_ (Nat.zero_le _) (by rw[List.size_toArray];omega))
 rw[hf]
 simp only[bne_self_eq_false,Bool.false_eq_true,if_false]
 exact wpAny_pure ⟨rfl,I2,c2,hc2⟩
theorem keyed{f:Value}{vs:List Value}{n:Nat}{kz:List Int}(I:Inv X pins σ H s)(o:Own X pins H a)(ho:s.heap.get? a=some (seqObj "list" vs.toArray n))(h1:1≤vs.length)(h64:vs.length<64)(hl:kz.length=vs.length)
 (calls:∀(i:Nat) (v:Value) (pins':List (Addr × Obj)) (s':Shared),vs[i]? = some v→Inv X pins' σ H s'→wpAny (model X.prog X.w) A (call f [v]) (fun k s''=>Inv X pins' σ H s''∧∃t,k=Value.int (kz.getD i 0) t) (fun _ _=>False) s') :
 wpAny (model X.prog X.w) A (ksk_tree a f false) (fun r s'=>r=.done (.ret .none)∧∃(p:Array Nat) (e:Nat),M14.I (fun k=>kz.getD k 0) vs.length p vs.length∧Inv X pins σ H s'∧s'.heap.get? a=some (seqObj "list" (p.toList.map fun i=>vs.getD i Value.none).toArray e)) E s:=by
 have hln:=zw
 have ha:a<s.heap.objs.size:=Heap.lt_size ho
 have I1:=I.swap (f:=Obj.mapSeq fun _=>(#[]:Array Value)) o
 obtain⟨e1,ho1⟩:∃e1,(s.heap.update a (Obj.mapSeq fun _=>(#[]:Array Value))).get? a=some (seqObj "list" #[] e1):=⟨_,get?_update_seq ho fun _ => #[]⟩
 unfold ksk_tree
 refine wpAny_bind (listItems_at ho rfl ?_)
 refine wpAny_bind (listUpdate_at ho rfl ?_ (by rw[List.size_toArray];omega) (Nat.zero_le _))
 refine wpAny_bind (seqEpoch_at ho1 rfl ?_)
 refine wpAny_bind (wpAny_newTuple ?_ (by show vs.length≤_;omega))
 refine wpAny_bind (wpAny_newList ?_ (Nat.zero_le _))
 refine wpAny_holding ?_
 have I2:Inv X pins σ H { s with heap:=(s.heap.update a (Obj.mapSeq fun _=>(#[]:Array Value))).push (seqObj "tuple" vs.toArray 0) }:=I1.kept (t':=s.toks) fun b u q=>Heap.get?_push_of_some _ q
 have I3:Inv X pins σ H { s with heap:=((s.heap.update a (Obj.mapSeq fun _=>(#[]:Array Value))).push (seqObj "tuple" vs.toArray 0)).push (seqObj "list" #[] 0) }:=I2.kept (t':=s.toks) fun b u q=>Heap.get?_push_of_some _ q
 have ok:=I2.own (b:=((s.heap.update a (Obj.mapSeq fun _=>(#[]:Array Value))).push (seqObj "tuple" vs.toArray 0)).objs.size) (Nat.le_refl _)
 have hka:((s.heap.update a (Obj.mapSeq fun _=>(#[]:Array Value))).push (seqObj "tuple" vs.toArray 0)).objs.size≠a:=by
  rw[size_push',Heap.size_update]
  exact Nat.ne_of_gt (Nat.lt_succ_of_lt ha)
 have hk0:(((s.heap.update a (Obj.mapSeq fun _=>(#[]:Array Value))).push (seqObj "tuple" vs.toArray 0)).push (seqObj "list" #[] 0)).get? ((s.heap.update a (Obj.mapSeq fun _=>(#[]:Array Value))).push (seqObj "tuple" vs.toArray 0)).objs.size=some (seqObj "list" #[] 0):=Heap.get?_push_size _ rfl
 have ha0:(((s.heap.update a (Obj.mapSeq fun _=>(#[]:Array Value))).push (seqObj "tuple" vs.toArray 0)).push (seqObj "list" #[] 0)).get? a=some (seqObj "list" #[] e1):=Heap.get?_push_of_some _ (Heap.get?_push_of_some _ ho1)
 show wpAny _ _ (ksk_rest a f false vs.toArray e1 (.ref ((s.heap.update a (Obj.mapSeq fun _=>(#[]:Array Value))).push (seqObj "tuple" vs.toArray 0)).objs.size)) _ _ { s with heap:=((s.heap.update a (Obj.mapSeq fun _=>(#[]:Array Value))).push (seqObj "tuple" vs.toArray 0)).push (seqObj "list" #[] 0) }
 generalize ((s.heap.update a (Obj.mapSeq fun _=>(#[]:Array Value))).push (seqObj "tuple" vs.toArray 0)).objs.size=kS at ok hka hk0
 generalize ((s.heap.update a (Obj.mapSeq fun _=>(#[]:Array Value))).push (seqObj "tuple" vs.toArray 0)).push (seqObj "list" #[] 0)=h3 at I3 hk0 ha0
 clear I1 I2 ho1
 have ok':∀e,Own X ((a,seqObj "list" #[] e)::pins) H kS:=fun e=>ok.more (Ne.symm hka)
 have I4:=(I3.hold o ha0 nocell).hold (ok' e1) hk0 nocell
 unfold ksk_rest
 refine wpAny_bind (wpAny_rule ?_)
 rw[List.forIn_toArray]
 refine wpAny_bind (wpAny_mono (zgU (kz:=kz) (vs:=vs) hl (fun v ks e s' hv I5 hi=>?_) vs [] 0 _ rfl (Nat.zero_le _) I4 .nil) (fun _ s' hd=>?_) fun _ _ x=>x)
 ·refine wpAny_bind (wpAny_attempt (wpAny_mono (calls ks.length v _ s' hv I5) (fun k s'' hk=>?_) fun _ _ hF=>hF.elim))
  obtain⟨I6,t,rfl⟩:=hk
  dsimp only
  have hlt:ks.length<vs.length:=(List.getElem?_eq_some_iff.mp hv).1
  have hk6:=I6.held
  obtain⟨c2,hc2⟩:∃c2,(s''.heap.update kS (Obj.mapSeq (·.push (Value.int (kz.getD ks.length 0) t)))).get? kS=some (seqObj "list" (ks ++ [Value.int (kz.getD ks.length 0) t]).toArray c2) :=
   ⟨_,by rw[show(ks ++ [Value.int (kz.getD ks.length 0) t]).toArray=ks.toArray.push (Value.int (kz.getD ks.length 0) t)by simp];exact get?_update_seq hk6 (·.push _)⟩
  refine wpAny_bind (listUpdate_at hk6 rfl ?_ (by rw[List.size_toArray];omega) (by rw[Array.size_push,List.size_toArray];omega))
  exact wpAny_pure ⟨rfl,_,c2,(I6.drop.swap (ok' e1)).hold (ok' e1) hc2 nocell,by rw[List.length_append,List.length_singleton,List.take_add_one];exact hi.append (by rw[List.getElem?_eq_getElem (by omega),List.getD_eq_getElem?_getD,List.getElem?_eq_getElem (by omega)];exact .cons _ t .nil)⟩
 ·obtain⟨ks,e,I7,hi⟩:=hd
  have hk7:=I7.held
  have I8:=I7.drop
  have ha8:=I8.held
  have hkl:ks.length=vs.length:=by rw[hi.length,hl]
  refine wpAny_bind (listItems_at hk7 rfl ?_)
  have fin:∀(st:SortSt) (p:Array Nat),M14.I (fun k=>kz.getD k 0) vs.length p vs.length→arrOf st=p.map (kas_item (ks.toArray.zip vs.toArray))→failedOf st=none →
   wpAny (model X.prog X.w) A (ksk_tail a false e1 (.ref kS) st) (fun r s'=>r=.done (.ret .none)∧∃(p:Array Nat) (e:Nat),M14.I (fun k=>kz.getD k 0) vs.length p vs.length∧Inv X pins σ H s'∧s'.heap.get? a=some (seqObj "list" (p.toList.map fun i=>vs.getD i Value.none).toArray e)) E s':=fun st p hp har hf =>
   wpAny_mono (key_tail (out:=p.toList.map fun i=>vs.getD i Value.none) I7 o ok hka (by omega) (by rw[List.length_map,Array.length_toList,hp.1.size];exact h64) (kat_snds hkl har) hf) (fun r s2 z=>⟨z.1,p,_,hp,z.2.1,z.2.2.choose_spec⟩) fun _ _ x=>x
  unfold ksk_end
  simp only[Bool.false_eq_true,if_false]
  by_cases h2:vs.length<2
  ·have hs2:vs.toArray.size<2:=by rw[List.size_toArray];exact h2
   rw[if_pos hs2,if_pos hs2]
   refine wpAny_bind (wpAny_pure ?_)
   refine wpAny_bind (wpAny_pure ?_)
   have hN:vs.length=1:=by omega
   have z:∀m,m=1→M14.I (fun k=>kz.getD k 0) vs.length (List.range vs.length).toArray m:=fun m e=>by rw[e];exact M14.zav h1
   refine fin _ _ (z _ hN) ?_ rfl
   have e:=kas_range (ks.toArray.zip vs.toArray)
   rw[show(ks.toArray.zip vs.toArray).size=vs.length by simp[hkl]] at e
   exact e.symm
  ·have hs2:¬vs.toArray.size<2:=by rw[List.size_toArray];exact h2
   rw[if_neg hs2,if_neg hs2,ksk_kind (kz:=kz) (by simpa using hi) (by rw[List.size_toArray];omega)]
   refine wpAny_bind (wpAny_pure ?_)
   have ask:(kas_sort vs.length).kasWp (kas_ask X.prog X.w A oneType' ks) (fun p s2=>M14.I (fun k=>kz.getD k 0) vs.length p vs.length∧s2=s') s':=by
    refine wp_cmp (c:=M14.ck (fun k=>kz.getD k 0) vs.length) (fun i j C C' s0 m h=>?_) _ _ (M14.sort h1 fun p hp=>⟨hp,rfl⟩)
    obtain⟨hi1,hj1,hc⟩:=h
    obtain⟨t,et⟩:=zdk hi i (by omega)
    obtain⟨u,eu⟩:=zdk hi j (by omega)
    unfold kas_ask
    rw[et,eu]
    exact kat_lt_int (m _ _ hc)
   refine wpAny_bind (wpAny_mono (kat_run (Q:=fun st' s2=>∃p:Array Nat,M14.I (fun k=>kz.getD k 0) vs.length p vs.length∧arrOf st'=p.map (kas_item (ks.toArray.zip vs.toArray))∧failedOf st'=none∧s2=s') hkl (by omega) h64 (fun p' st' s2 a1 a2 a3 a4=>⟨p',a4.1,a2,a3,a4.2⟩) ask) ?_ fun _ _ x=>x)
   rintro ⟨⟨⟩,st'⟩ s2 ⟨p,hp,har,hf,rfl⟩
   exact fin _ _ hp har hf
end
end L2
namespace L2
open PySem PySem.W
abbrev zeY(h:Heap)(z TI TO T:Addr)(b:Bool):Prop :=
 h.get? z=some { cls:=.type "zip",dict:=none,data:=.fields #[rawInt T,.bool b,.bool false,.ref TI,.ref TO],slots := #[] }
section
variable {P:Program} {w:World} {A:Around} {E:Value→Shared→Prop} {s:Shared} {z TI TO T i1 i2 l1 l2:Addr} {b:Bool}
theorem zgT{Q:Bool→Shared→Prop}(hz:zeY s.heap z TI TO T b)(hT:∃o,s.heap.get? T=some o)(q:∀h',zeY h' z TI TO T true→Heap.SameBut z s.heap h'→Q false { s with heap:=h' }):
 wpAny (model P w) A (Builtin.SmallTypes.ownedTupleIsFree (.ref z)) Q E s:=by
 obtain⟨o,ho⟩:=hT
 unfold Builtin.SmallTypes.ownedTupleIsFree
 refine wpAny_bind (wpAny_field hz rfl (x:=rawInt T) rfl ?_)
 show wpAny _ _ (loadIfAlive ((T:Int).toNat) >>= _) _ _ _
 rw[Int.toNat_natCast]
 refine wpAny_bind (kdx_alive ho ?_)
 simp only[Option.isNone_some,if_false,Bool.false_eq_true]
 refine wpAny_bind (wpAny_field hz rfl (x:=.bool b) rfl ?_)
 cases b with
 | true =>
   rw[if_neg (show ¬((Value.bool true != Value.bool true)=true)by decide)]
   exact wpAny_pure (q _ hz (Heap.SameBut.refl _ _))
 | false =>
   rw[if_pos (show(Value.bool false != Value.bool true)=true by decide)]
   exact wpAny_bind (wpAny_setField_rec hz (by simp) fun h₃ e₃ s₃=>wpAny_pure (q h₃ e₃ s₃))
theorem zip_busy{k1 k2:Nat}{xs ys:Array Value}{x y:Value}{Q:Value→Shared→Prop}(D:ZipApart z TI TO i1 i2 l1 l2)(hz:zeY s.heap z TI TO T b)(hT:∃o,s.heap.get? T=some o)(hTI:IsPair s.heap TI (.ref i1) (.ref i2))
 (h1:s.heap.IsListIter i1 l1 k1) (h2:s.heap.IsListIter i2 l2 k2) (hl1:s.heap.IsList l1 xs) (hl2:s.heap.IsList l2 ys) (hx:xs[k1]? = some x) (hy:ys[k2]? = some y)
 (q:∀h',zeY h' z TI TO T true→h'.IsListIter i1 l1 (k1+1)→h'.IsListIter i2 l2 (k2+1)→IsPair h' s.heap.objs.size x y→h'.objs.size=s.heap.objs.size+1 →
   (∀c o,c≠z→c≠i1→c≠i2→s.heap.get? c=some o→h'.get? c=some o)→Q (.ref s.heap.objs.size) { s with heap:=h' }) :
 wpAny (model P w) A (Builtin.«zip.__next__» ⟨[.ref z],[]⟩) (fun r s'=>∃v,r=.done (.ret v)∧Q v s') E s:=by
 show wpAny (model P w) A (field (.ref z) 2 >>= _) _ _ _
 refine wpAny_bind (wpAny_field hz (x:=.bool false) rfl rfl ?_)
 show wpAny (model P w) A (field (.ref z) 3 >>= _) _ _ _
 refine wpAny_bind (wpAny_field hz (x:=.ref TI) rfl rfl ?_)
 refine wpAny_bind (wpAny_seqItems hTI rfl ?_)
 show wpAny (model P w) A (Builtin.SmallTypes.ownedTupleIsFree (.ref z) >>= _) _ _ _
 refine wpAny_bind (zgT hz hT fun h₁ z₁ s₁=>?_)
 simp only[if_false,Bool.false_eq_true]
 rw[show(#[Value.ref i1,Value.ref i2]:Array Value) = [Value.ref i1,Value.ref i2].toArray from rfl,List.forIn_toArray]
 simp only[List.forIn_cons,List.forIn_nil]
 refine wpAny_bind (wpAny_bind (wpAny_bind (wpAny_holding ?_)))
 show wpAny (model P w) A (Builtin.SmallTypes.nextOf (.ref i1) >>= _) _ _ _
 refine wpAny_bind (wpAny_nextOf_list_item (h1.extBut s₁.extBut D.i1z) (hl1.extBut s₁.extBut D.l1z) hx fun h₂ a₂ s₂=>wpAny_pure (wpAny_pure ?_))
 refine wpAny_bind (wpAny_bind (wpAny_holding ?_))
 show wpAny (model P w) A (Builtin.SmallTypes.nextOf (.ref i2) >>= _) _ _ _
 refine wpAny_bind (wpAny_nextOf_list_item ((h2.extBut s₁.extBut D.i2z).extBut s₂.extBut D.i12.symm) ((hl2.extBut s₁.extBut D.l2z).extBut s₂.extBut D.l2i1) hy fun h₃ a₃ s₃=>wpAny_pure (wpAny_pure (wpAny_pure ?_)))
 refine wpAny_bind (wpAny_newTuple (wpAny_pure ⟨_,rfl,?_⟩) (by show 2≤sizeLine;decide))
 have hsz:h₃.objs.size=s.heap.objs.size:=by rw[s₃.1,s₂.1,s₁.1]
 show Q (.ref h₃.objs.size) _
 rw[hsz]
 have up:∀c o,h₃.get? c=some o→(h₃.push { cls:=.type "tuple",data:=.seq #[x,y] }).get? c=some o:=fun c o e=>Heap.get?_push_of_some _ e
 refine q _ (up _ _ (s₃.extBut _ _ D.i2z.symm (s₂.extBut _ _ D.i1z.symm z₁))) ?_ ?_ ?_ ?_ fun c o c1 c2 c3 e=>up _ _ (s₃.extBut _ _ c3 (s₂.extBut _ _ c2 (s₁.extBut _ _ c1 e)))
 ·exact(a₂.extBut s₃.extBut D.i12).at fun o e=>up _ o e
 ·exact a₃.at fun o e=>up _ o e
 ·rw[← hsz];exact Heap.get?_push_size _ rfl
 ·exact(Heap.size_push ..).trans (by rw[hsz])
theorem zip_over{k1 k2:Nat}{xs ys:Array Value}{Q:Fin→Shared→Prop}(hh:A.handled=none)(D:ZipApart z TI TO i1 i2 l1 l2)(hz:zeY s.heap z TI TO T b)(hT:∃o,s.heap.get? T=some o)(hTI:IsPair s.heap TI (.ref i1) (.ref i2))
 (h1:s.heap.IsListIter i1 l1 k1) (hl1:s.heap.IsList l1 xs) (hx:xs[k1]? = none)
 (q:∀h' e,(∀c o,c≠z→c≠i1→c≠i2→s.heap.get? c=some o→h'.get? c=some o)→(∃o,h'.get? e=some o∧o.cls=.type "StopIteration")→E (.ref e) { s with heap:=h' }) :
 wpAny (model P w) A (Builtin.«zip.__next__» ⟨[.ref z],[]⟩) Q E s:=by
 show wpAny (model P w) A (field (.ref z) 2 >>= _) _ _ _
 refine wpAny_bind (wpAny_field hz (x:=.bool false) rfl rfl ?_)
 show wpAny (model P w) A (field (.ref z) 3 >>= _) _ _ _
 refine wpAny_bind (wpAny_field hz (x:=.ref TI) rfl rfl ?_)
 refine wpAny_bind (wpAny_seqItems hTI rfl ?_)
 show wpAny (model P w) A (Builtin.SmallTypes.ownedTupleIsFree (.ref z) >>= _) _ _ _
 refine wpAny_bind (zgT hz hT fun h₁ z₁ s₁=>?_)
 simp only[if_false,Bool.false_eq_true]
 rw[show(#[Value.ref i1,Value.ref i2]:Array Value) = [Value.ref i1,Value.ref i2].toArray from rfl,List.forIn_toArray]
 simp only[List.forIn_cons,List.forIn_nil]
 refine wpAny_bind (wpAny_bind (wpAny_bind (wpAny_holding ?_)))
 show wpAny (model P w) A (Builtin.SmallTypes.nextOf (.ref i1) >>= _) _ _ _
 refine wpAny_bind (wpAny_nextOf_list_end hh (h1.extBut s₁.extBut D.i1z) (hl1.extBut s₁.extBut D.l1z) hx fun h₂ e s₂ he=>?_)
 exact q h₂ e (fun c o c1 c2 _ x=>s₂ _ _ c2 (s₁.extBut _ _ c1 x)) he
theorem next_busy{k1 k2:Nat}{xs ys:Array Value}{x y:Value}{Q:Option Value→Shared→Prop}(D:ZipApart z TI TO i1 i2 l1 l2)(hz:zeY s.heap z TI TO T b)(hT:∃o,s.heap.get? T=some o)(hTI:IsPair s.heap TI (.ref i1) (.ref i2))
 (h1:s.heap.IsListIter i1 l1 k1) (h2:s.heap.IsListIter i2 l2 k2) (hl1:s.heap.IsList l1 xs) (hl2:s.heap.IsList l2 ys) (hx:xs[k1]? = some x) (hy:ys[k2]? = some y)
 (q:∀h',zeY h' z TI TO T true→h'.IsListIter i1 l1 (k1+1)→h'.IsListIter i2 l2 (k2+1)→IsPair h' s.heap.objs.size x y→h'.objs.size=s.heap.objs.size+1 →
   (∀c o,c≠z→c≠i1→c≠i2→s.heap.get? c=some o→h'.get? c=some o)→Q (some (.ref s.heap.objs.size)) { s with heap:=h' }) :
 wpAny (model P w) A (pyNext (.ref z)) Q E s:=by
 have t:s.TypeIs (.ref z) "zip" := ⟨_,hz,rfl⟩
 unfold pyNext
 exact wpAny_bind (wpAny_attempt (wpAny_callSpecial?_slot (name:=Str.ofString "__next__") t F.slot_zip_next (wpAny_call_entry F.slot_zip_next t F.entry_zip_next
  (zip_busy D hz hT hTI h1 h2 hl1 hl2 hx hy fun h' a1 a2 a3 a4 a5 a6=>wpAny_pure (q h' a1 a2 a3 a4 a5 a6)) (F.args_zip_next_1 _))))
theorem next_over{k1:Nat}{xs:Array Value}{Q:Option Value→Shared→Prop}(hh:A.handled=none)(D:ZipApart z TI TO i1 i2 l1 l2)(hz:zeY s.heap z TI TO T b)(hT:∃o,s.heap.get? T=some o)(hTI:IsPair s.heap TI (.ref i1) (.ref i2))
 (h1:s.heap.IsListIter i1 l1 k1) (hl1:s.heap.IsList l1 xs) (hx:xs[k1]? = none)
 (q:∀h',(∀c o,c≠z→c≠i1→c≠i2→s.heap.get? c=some o→h'.get? c=some o)→Q none { s with heap:=h' }):wpAny (model P w) A (pyNext (.ref z)) Q E s:=by
 have t:s.TypeIs (.ref z) "zip" := ⟨_,hz,rfl⟩
 unfold pyNext
 refine wpAny_bind (wpAny_attempt (wpAny_callSpecial?_slot (name:=Str.ofString "__next__") t F.slot_zip_next (wpAny_call_entry F.slot_zip_next t F.entry_zip_next
  (zip_over (k2:=0) (ys := #[]) hh D hz hT hTI h1 hl1 hx fun h' e k he=>?_) (F.args_zip_next_1 _))))
 obtain⟨o,ho,hc⟩:=he
 exact wpAny_bind (wpAny_isInstance (T:= "StopIteration") (b:=true) ⟨o,ho,hc⟩ isSubtype_stop (wpAny_pure (q _ k)))
def ZSt(z TI TO i1 i2 l1 l2:Addr)(xs ys:Array Value)(i:Nat)(s:Shared):Prop :=
 IsPair s.heap TI (.ref i1) (.ref i2)∧s.heap.IsListIter i1 l1 i∧s.heap.IsListIter i2 l2 i∧s.heap.IsList l1 xs∧s.heap.IsList l2 ys ∧
  ((i=0∧IsZip s.heap z TI TO .none∧∃a b,IsPair s.heap TO a b)∨(0<i∧∃(T:Addr) (b:Bool),zeY s.heap z TI TO T b∧∃o,s.heap.get? T=some o))
end
end L2
namespace L2
open PySem PySem.W PyProof.Rows
section
variable {X:Cx} {pins:List (Addr × Obj)} {σ:St} {H:Hp} {s:Shared} {h':Heap} {t':Nat} {ch:List Addr}
theorem Inv.moved(I:Inv X pins σ H s)(o:∀c∈ch,Own X pins H c)(k:∀b u,b∉ch→s.heap.get? b=some u→h'.get? b=some u):Inv X pins σ H { s with heap:=h',toks:=t' }:=by
 have nit:∀b u,H b=some u→b∉ch:=fun b u e z=>by rw[(o b z).free] at e;cases e
 have nL:X.env.locals∉ch:=fun z=>(o _ z).loc rfl
 refine I.step (g':=s.gens) (d':=s.drawn) (ch:=ch) (fun b hb=>⟨.inr (o b hb).new,(o b hb).loc,(o b hb).cell,(o b hb).pin⟩) (fun b u _ _ hc e _=>k b u hc e) (fun b u _ _ hc e _=>⟨u.slots,k b u hc e⟩)
  (fun _ _ _ _ n=>n) (fun b u hc e=>⟨u,k b u hc e⟩) (fun _ _ e=>e) (fun _ _ _ e=>e) (fun b ps e=>⟨#[],by rw[e];simp⟩) (fun m hm=>?_) (fun b u e=>?_) I.bare
 ·obtain⟨ob,es,ep,ho,r⟩:=hm
  exact⟨ob,es,ep,k _ ob nL ho,r⟩
 ·refine(I.hok b u e).stay (fun c v hc q=>k c v ?_ q) (fun _ q=>q) fun _ _ q=>q
  rcases hc with z | z
  ·rw[z];exact nit b u e
  ·exact nit c _ z
theorem Inv.movedT{T:Addr}{v:HO}(I:Inv X pins σ H s)(o:∀c∈ch,Own X pins H c)(k:∀b u,b∉ch→s.heap.get? b=some u→h'.get? b=some u)(hT:s.heap.objs.size≤T)(new:yF X.prog X.w (upd H T v) h' T v):
 Inv X pins σ (upd H T v) { s with heap:=h',toks:=t' }:=by
 have hf:H T=none:=I.hok.fresh hT
 have nit:∀b u,H b=some u→b∉ch:=fun b u e z=>by rw[(o b z).free] at e;cases e
 have nL:X.env.locals∉ch:=fun z=>(o _ z).loc rfl
 have up:∀b u,H b=some u→upd H T v b=some u:=fun b u e=>by rw[zj (zq e hf)];exact e
 refine I.step (g':=s.gens) (d':=s.drawn) (ch:=ch) (fun b hb=>⟨.inr (o b hb).new,(o b hb).loc,(o b hb).cell,(o b hb).pin⟩) (fun b u _ _ hc e _=>k b u hc e) (fun b u _ _ hc e _=>⟨u.slots,k b u hc e⟩)
  (fun b u _ e n=>?_) (fun b u hc e=>⟨u,k b u hc e⟩) (fun b _ e=>up b _ e) (fun b _ _ e=>up b _ e) (fun b ps e=>⟨#[],by rw[up b _ e];simp⟩) (fun m hm=>?_) (fun b u e=>?_) I.bare
 ·rw[zj (fun z=>by rw[z] at e;exact absurd (Heap.lt_size e) (Nat.not_lt.mpr hT))];exact n
 ·obtain⟨ob,es,ep,ho,r⟩:=hm
  exact⟨ob,es,ep,k _ ob nL ho,r⟩
 ·by_cases hb:b=T
  ·subst hb
   rw[zf] at e
   cases e
   exact new
  ·rw[zj hb] at e
   refine(I.hok b u e).stay (fun c w hc q=>k c w ?_ q) (fun c q=>up c _ q) fun c _ q=>up c _ q
   rcases hc with z | z
   ·rw[z];exact nit b u e
   ·exact nit c _ z
theorem Own.upd{c T:Addr}{v:HO}(o:Own X pins H c)(h:c≠T):Own X pins (upd H T v) c:=⟨by rw[zj h];exact o.free,o.loc,o.new,o.cell,o.pin,o.fs⟩
variable {A:Around} {E:Value→Shared→Prop} {z TI TO i1 i2 l1 l2 S:Addr} {xs ys:List Value} {xv yv:List V}
theorem zip_item{i:Nat}{x y:Value}{vx vy:V}{Q:Option Value→Shared→Prop}(I:Inv X pins σ H s)(o:∀c ∈ [z,TO,i1,i2],Own X pins H c)(D:ZipApart z TI TO i1 i2 l1 l2)(st:ZSt z TI TO i1 i2 l1 l2 xs.toArray ys.toArray i s)
 (hx:xs[i]? = some x) (hy:ys[i]? = some y) (rx:zH vx x) (ry:zH vy y)
 (q:∀s',Inv X pins σ (L2.upd H s.heap.objs.size (.tup [vx,vy])) s'→ZSt z TI TO i1 i2 l1 l2 xs.toArray ys.toArray (i+1) s'→(∀b u,b ∉ [z,TO,i1,i2]→s.heap.get? b=some u→s'.heap.get? b=some u)→s'.heap.objs.size=s.heap.objs.size+1→Q (some (.ref s.heap.objs.size)) s') :
 wpAny (model X.prog X.w) A (pyNext (.ref z)) Q E s:=by
 obtain⟨hTI,h1,h2,hl1,hl2,hz⟩:=st
 have hx':xs.toArray[i]? = some x:=by simpa using hx
 have hy':ys.toArray[i]? = some y:=by simpa using hy
 have nTI:TI ∉ [z,TO,i1,i2]:=by simp[D.TIz,D.TITO,D.TIi1,D.TIi2]
 have n1:l1 ∉ [z,TO,i1,i2]:=by simp[D.l1z,D.l1TO,D.l1i1,D.l1i2]
 have n2:l2 ∉ [z,TO,i1,i2]:=by simp[D.l2z,D.l2TO,D.l2i1,D.l2i2]
 have fin:∀(h':Heap) (b:Bool) (T:Addr),zeY h' z TI TO T b→(∃u,h'.get? T=some u)→h'.IsListIter i1 l1 (i+1)→h'.IsListIter i2 l2 (i+1)→IsPair h' s.heap.objs.size x y→h'.objs.size=s.heap.objs.size+1 →
  (∀c u,c ∉ [z,TO,i1,i2]→s.heap.get? c=some u→h'.get? c=some u)→Q (some (.ref s.heap.objs.size)) { s with heap:=h' }:=fun h' b T b1 b2 b3 b4 b5 b6 k=>by
  refine q _ (I.movedT (t':=s.toks) o k (Nat.le_refl _) ⟨by show 2≤sizeLine;decide,[x,y],.cons rx (.cons ry .nil),_,b5,rfl,_,rfl⟩) ⟨k _ _ nTI hTI,b3,b4,hl1.at fun u e=>k _ u n1 e,hl2.at fun u e=>k _ u n2 e,.inr ⟨Nat.succ_pos _,T,b,b1,b2⟩⟩ k b6
 rcases hz with⟨rfl,hz,a,b,hTO⟩ | ⟨hi,T,b,hz,hT⟩
 ·refine wpAny_pyNext_zip_item D hz hTI hTO h1 h2 hl1 hl2 hx' hy' fun h' a1 a2 a3 a4 a5 a6 k=>?_
  exact fin h' false _ a1 ⟨_,a5⟩ a3 a4 a5 a6 fun c u hc e=>k c u (fun w=>hc (by simp[w])) (fun w=>hc (by simp[w])) (fun w=>hc (by simp[w])) (fun w=>hc (by simp[w])) e
 ·refine next_busy D hz hT hTI h1 h2 hl1 hl2 hx' hy' fun h' a1 a2 a3 a4 a5 k=>?_
  have k':∀c u,c ∉ [z,TO,i1,i2]→s.heap.get? c=some u→h'.get? c=some u:=fun c u hc e=>k c u (fun w=>hc (by simp[w])) (fun w=>hc (by simp[w])) (fun w=>hc (by simp[w])) e
  obtain⟨u,hu⟩:=hT
  by_cases c1:T=z
  ·exact fin h' true T a1 ⟨_,by rw[c1];exact a1⟩ a2 a3 a4 a5 k'
  ·by_cases c2:T=i1
   ·obtain⟨w,hw,_⟩:=id a2
    exact fin h' true T a1 ⟨w,by rw[c2];exact hw⟩ a2 a3 a4 a5 k'
   ·by_cases c3:T=i2
    ·obtain⟨w,hw,_⟩:=id a3
     exact fin h' true T a1 ⟨w,by rw[c3];exact hw⟩ a2 a3 a4 a5 k'
    ·exact fin h' true T a1 ⟨u,k T u c1 c2 c3 hu⟩ a2 a3 a4 a5 k'
abbrev Prs(H:Hp)(ts:List Addr)(ps:List (V × V)):Prop:=Paired (fun t (p:V × V)=>H t=some (.tup [p.1,p.2])) ts ps
theorem Prs.upd{T:Addr}{v:HO}{ts:List Addr}{ps:List (V × V)}(h:Prs H ts ps)(hT:H T=none):Prs (L2.upd H T v) ts ps:=by
 induction h with
 | nil=>exact .nil
 | cons e _ ih=>exact .cons (by rw[zj (zq e hT)];exact e) ih
theorem Prs.snoc{t:Addr}{p:V × V}{ts:List Addr}{ps:List (V × V)}(h:Prs H ts ps)(e:H t=some (.tup [p.1,p.2])):Prs H (ts ++ [t]) (ps ++ [p]):=by
 induction h with
 | nil=>exact .cons e .nil
 | cons a _ ih=>exact .cons a ih
theorem zh8:∀{xv:List V} {xs:List Value},zA xv xs→∀(i:Nat) (h:i<xv.length),∃x,xs[i]? = some x∧zH xv[i] x:=by
 intro xv xs r
 induction r with
 | nil=>intro i h;exact absurd h (Nat.not_lt_zero _)
 | cons e _ ih =>
   intro i h
   cases i with
   | zero=>exact⟨_,rfl,e⟩
   | succ i=>exact ih i (by simpa using h)
theorem ZSt.keep{i:Nat}{h':Heap}(st:ZSt z TI TO i1 i2 l1 l2 xs.toArray ys.toArray i s)(h0:0<i)(k:∀b u,b≠S→s.heap.get? b=some u→h'.get? b=some u)(he:∃u,h'.get? S=some u)(hS:S ∉ [z,TO,i1,i2])(hSl:S≠TI∧S≠l1∧S≠l2):
 ZSt z TI TO i1 i2 l1 l2 xs.toArray ys.toArray i { s with heap:=h' }:=by
 obtain⟨a1,a2,a3,a4,a5,a6⟩:=st
 have n:∀c ∈ [z,TO,i1,i2],c≠S:=fun c hc e=>hS (e ▸ hc)
 refine⟨k _ _ (Ne.symm hSl.1) a1,a2.at fun u e=>k _ u (n _ (by simp)) e,a3.at fun u e=>k _ u (n _ (by simp)) e,a4.at fun u e=>k _ u (Ne.symm hSl.2.1) e,a5.at fun u e=>k _ u (Ne.symm hSl.2.2) e,?_⟩
 rcases a6 with⟨z0,_⟩ | ⟨_,T,b,hz,u,hu⟩
 ·omega
 ·refine .inr ⟨h0,T,b,k _ _ (n _ (by simp)) hz,?_⟩
  by_cases c:T=S
  ·rw[c];exact he
  ·exact⟨u,k T u c hu⟩
theorem zip_loop{res:Value}{R:Result→Shared→Prop}(hh:A.in1.handled=none)(D:ZipApart z TI TO i1 i2 l1 l2)(hS:S ∉ [z,TO,i1,i2])(hSl:S≠TI∧S≠l1∧S≠l2)(rx:zA xv xs)(ry:zA yv ys)(hl:xv.length=yv.length)(hn:xv.length<64):
 ∀(k i:Nat) (s:Shared) (H:Hp) (ts:List Addr) (c:Nat),xv.length - i=k→i≤xv.length→0<xv.length→Inv X pins σ H s→(∀c ∈ [z,TO,i1,i2],Own X pins H c∧c<s.heap.objs.size)→Own X pins H S→S<s.heap.objs.size →
  ZSt z TI TO i1 i2 l1 l2 xs.toArray ys.toArray i s→s.heap.get? S=some { cls:=.type "list",dict:=none,data:=.seq (ts.map Value.ref).toArray c,slots := #[] }→ts.length=i→Prs H ts ((xv.zip yv).take i) →
  (∀s' H' ts,Inv X pins σ H' s'→zh H H'→Prs H' ts (xv.zip yv)→Own X pins H' S→(∃c,s'.heap.get? S=some { cls:=.type "list",dict:=none,data:=.seq (ts.map Value.ref).toArray c,slots := #[] })→R (.ok (.ret res)) s') →
  codeAny (model X.prog X.w) A (.builtin "list.extend.loop" ⟨[.ref S,.ref z,res],[]⟩) R s:=by
 have lx:=rx.length
 have ly:=ry.length
 intro k
 induction k with
 | zero =>
   intro i s H ts c hk hi h0 I o oS lS st eS et pr q
   have e:i=xv.length:=by omega
   subst e
   refine codeAny_builtin F.entry_extend_loop ?_
   rw[Around.under_plainId F.plain_extend_loop _]
   show wpAny (model X.prog X.w) A.in1 (pyNext (.ref z) >>= _) _ _ s
   obtain⟨hTI,h1,h2,hl1,hl2,hz⟩:=st
   rcases hz with⟨z0,_⟩ | ⟨_,T,b,hz,hT⟩
   ·omega
   refine wpAny_bind (next_over hh D hz hT hTI h1 hl1 (by simp;omega) fun h' k'=>?_)
   have kk:∀b u,b ∉ [z,TO,i1,i2]→s.heap.get? b=some u→h'.get? b=some u:=fun b u hb e=>k' b u (fun w=>hb (by simp[w])) (fun w=>hb (by simp[w])) (fun w=>hb (by simp[w])) e
   rw[List.take_of_length_le (by rw[List.length_zip];omega)] at pr
   exact wpAny_pure (q _ H ts (I.moved (t':=s.toks) (fun c hc=>(o c hc).1) kk) (zh.refl _) pr oS ⟨c,kk S _ hS eS⟩)
 | succ k ih =>
   intro i s H ts c hk hi h0 I o oS lS st eS et pr q
   have hlt:i<xv.length:=by omega
   refine codeAny_builtin F.entry_extend_loop ?_
   rw[Around.under_plainId F.plain_extend_loop _]
   show wpAny (model X.prog X.w) A.in1 (pyNext (.ref z) >>= _) _ _ s
   obtain⟨x,hx,vx⟩:=zh8 rx i hlt
   obtain⟨y,hy,vy⟩:=zh8 ry i (by omega)
   refine wpAny_bind (zip_item I (fun c hc=>(o c hc).1) D st hx hy vx vy fun s' I' st' k' z'=>?_)
   have eS':=k' S _ hS eS
   have hf:H s.heap.objs.size=none:=I.hok.fresh (Nat.le_refl _)
   have oS':Own X pins (L2.upd H s.heap.objs.size (.tup [xv[i],yv[i]])) S:=oS.upd (Nat.ne_of_lt lS)
   obtain⟨c2,hc2⟩:∃c2,(s'.heap.update S (Obj.mapSeq (·.push (Value.ref s.heap.objs.size)))).get? S=some { cls:=.type "list",dict:=none,data:=.seq ((ts ++ [s.heap.objs.size]).map Value.ref).toArray c2,slots := #[] } :=
    ⟨_,by rw[show((ts ++ [s.heap.objs.size]).map Value.ref).toArray=(ts.map Value.ref).toArray.push (Value.ref s.heap.objs.size)by simp];exact get?_update_seq eS' (·.push _)⟩
   have ko:∀b u,b≠S→s'.heap.get? b=some u→(s'.heap.update S (Obj.mapSeq (·.push (Value.ref s.heap.objs.size)))).get? b=some u:=fun b u hb e=>(Heap.get?_update_other _ _ (Ne.symm hb)).trans e
   have hln:=zw
   show wpAny (model X.prog X.w) A.in1 (updateSeq S (·.push (Value.ref s.heap.objs.size)) >>= _) _ _ _
   refine wpAny_bind ?_
   refine wpAny_updateSeq eS' rfl (wpAny_pure ⟨plainId_quiet F.plain_extend_loop _,ih (i+1) _ _ (ts ++ [s.heap.objs.size]) c2 (by omega) (by omega) h0 (I'.swap oS') (fun c hc=>?_) oS' ?_ (st'.keep (Nat.succ_pos _) ko ⟨_,hc2⟩ hS hSl) hc2 (by rw[List.length_append,et];rfl) ?_ ?_⟩) ?_ ?_
   ·refine⟨((o c hc).1).upd (Nat.ne_of_lt (o c hc).2),?_⟩
    show c<(s'.heap.update S _).objs.size
    rw[Heap.size_update,z']
    exact Nat.lt_succ_of_lt (o c hc).2
   ·show S<(s'.heap.update S _).objs.size
    rw[Heap.size_update,z']
    exact Nat.lt_succ_of_lt lS
   ·have e:(xv.zip yv).take (i+1)=(xv.zip yv).take i ++ [(xv[i],yv[i])]:=by
     rw[List.take_add_one,List.getElem?_eq_getElem (by rw[List.length_zip];omega)]
     simp
    rw[e]
    exact(pr.upd hf).snoc zf
   ·intro s2 H2 ts2 J1 J2 J3 J4 J5
    exact q s2 H2 ts2 J1 ((zh.new hf).trans J2) J3 J4 J5
   ·rw[List.size_toArray,List.length_map,et];omega
   ·rw[Array.size_push,List.size_toArray,List.length_map,et];omega
end
end L2
namespace L2
open PySem PySem.W PyProof.Rows PySem.Calls
theorem zip_len:typeLookup (.type "zip") "__len__" = pure none:=by rw[typeLookup_type,builtinLookup_eq_fast];kernel_rfl
theorem zip_hint:typeLookup (.type "zip") "__length_hint__" = pure none:=by rw[typeLookup_type,builtinLookup_eq_fast];kernel_rfl
section
variable {X:Cx} {pins:List (Addr × Obj)} {σ:St} {H:Hp} {s:Shared} {A:Around} {E:Value→Shared→Prop} {z TI TO i1 i2 l1 l2:Addr} {xs ys:List Value} {xv yv:List V}
theorem zgg{Q:List Value→Shared→Prop}(hh:A.in1.handled=none)(D:ZipApart z TI TO i1 i2 l1 l2)(rx:zA xv xs)(ry:zA yv ys)(hl:xv.length=yv.length)(hn:xv.length<64)(h0:0<xv.length)
 (I:Inv X pins σ H s) (o:∀c ∈ [z,TO,i1,i2],Own X pins H c∧c<s.heap.objs.size) (st:ZSt z TI TO i1 i2 l1 l2 xs.toArray ys.toArray 0 s)
 (q:∀s' H' ts,Inv X pins σ H' s'→zh H H'→Prs H' ts (xv.zip yv)→Q (ts.map Value.ref) s'):wpAny (model X.prog X.w) A (collect (.ref z)) Q E s:=by
 have hz:IsZip s.heap z TI TO .none:=by
  rcases st.2.2.2.2.2 with⟨_,hz,_⟩ | ⟨w,_⟩
  ·exact hz
  ·omega
 have lt:∀{c u},s.heap.get? c=some u→c<s.heap.objs.size:=fun e=>Heap.lt_size e
 have lz:=(o z (by simp)).2
 have hSz:s.heap.objs.size≠z:=Nat.ne_of_gt lz
 have oS:=I.own (b:=s.heap.objs.size) (Nat.le_refl _)
 unfold collect
 refine wpAny_bind (wpAny_runValue (codeAny_builtin F.entry_proto_collect ?_))
 rw[Around.under_plainId F.plain_proto_collect _]
 show wpAny (model X.prog X.w) A.in1 (newList [] >>= fun l=>again (.builtin "list.__iadd__" ⟨[l,.ref z],[]⟩)) _ _ s
 refine wpAny_bind (wpAny_newList ?_ (Nat.zero_le _))
 have I1:Inv X pins σ H { s with heap:=s.heap.push { cls:=.type "list",data:=.seq ([]:List Value).toArray } }:=I.kept (t':=s.toks) fun b u e=>Heap.get?_push_of_some _ e
 have hS1:(s.heap.push { cls:=.type "list",data:=.seq ([]:List Value).toArray }).get? s.heap.objs.size=some { cls:=.type "list",data:=.seq ([]:List Value).toArray }:=Heap.get?_push_size _ rfl
 have k1:∀b u,s.heap.get? b=some u→(s.heap.push { cls:=.type "list",data:=.seq ([]:List Value).toArray }).get? b=some u:=fun b u e=>Heap.get?_push_of_some _ e
 have z1:(s.heap.push { cls:=.type "list",data:=.seq ([]:List Value).toArray }).objs.size=s.heap.objs.size+1:=Heap.size_push ..
 show wpAny (model X.prog X.w) A.in1 (again (.builtin "list.__iadd__" ⟨[.ref s.heap.objs.size,.ref z],[]⟩)) _ _ { s with heap:=s.heap.push { cls:=.type "list",data:=.seq ([]:List Value).toArray } }
 generalize s.heap.push { cls:=.type "list",data:=.seq ([]:List Value).toArray }=h1 at I1 hS1 k1 z1
 refine wpAny_pure ⟨plainId_quiet F.plain_list_iadd _,codeAny_builtin F.entry_list_iadd ?_⟩
 rw[Around.under_plainId F.plain_list_iadd _]
 show wpAny (model X.prog X.w) A.in1 (Builtin.List.listExtendWith (.ref s.heap.objs.size) (.ref z) (.ref s.heap.objs.size)) _ _ _
 unfold Builtin.List.listExtendWith
 have tz:Shared.TypeIs { s with heap:=h1 } (.ref z) "zip" := ⟨_,k1 _ _ hz,rfl⟩
 refine wpAny_bind (wpAny_typeOf tz ?_)
 have e1:Builtin.List.listSameRef (.ref s.heap.objs.size) (.ref z)=false:=by simp[Builtin.List.listSameRef,hSz]
 have e2:(Value.type "zip" == Value.type "list")=false:=by decide
 have e3:(Value.type "zip" == Value.type "tuple")=false:=by decide
 simp only[e1,e2,e3,Bool.or_false,if_false,Bool.false_eq_true]
 refine wpAny_bind (wpAny_pyIter_zip (k1 _ _ hz) ?_)
 refine wpAny_bind (wpAny_holding ?_)
 unfold Builtin.List.listLengthHint
 refine wpAny_bind (wpAny_specialOf tz zip_len ?_)
 show wpAny (model X.prog X.w) A.in1 (specialOf (Value.ref z) (Str.ofString "__length_hint__") >>= _) _ _ _
 refine wpAny_bind (wpAny_specialOf tz zip_hint (wpAny_pure ?_))
 show wpAny (model X.prog X.w) A.in1 (rule "list.extend.makes-room" >>= fun _=>Builtin.List.listTouch (.ref s.heap.objs.size) >>= fun _=>again (.builtin "list.extend.loop" ⟨[.ref s.heap.objs.size,.ref z,.ref s.heap.objs.size],[]⟩)) _ _ _
 refine wpAny_bind (wpAny_rule (wpAny_bind ?_))
 show wpAny (model X.prog X.w) A.in1 (updateSeq s.heap.objs.size (·.push .none) >>= fun _=>updateSeq s.heap.objs.size (·.pop)) _ _ _
 refine wpAny_bind (wpAny_updateSeq hS1 rfl ?_)
 have hS2:=Heap.get?_update_self (Obj.mapSeq (·.push Value.none)) hS1 rfl
 refine wpAny_updateSeq hS2 rfl ?_
 have hS3:=Heap.get?_update_self (Obj.mapSeq (·.pop)) hS2 rfl
 have I3:=(I1.swap (f:=Obj.mapSeq (·.push Value.none)) oS).swap (f:=Obj.mapSeq (·.pop)) oS
 have k3:∀b u,b≠s.heap.objs.size→s.heap.get? b=some u→((h1.update s.heap.objs.size (Obj.mapSeq (·.push Value.none))).update s.heap.objs.size (Obj.mapSeq (·.pop))).get? b=some u :=
  fun b u hb e=>(Heap.get?_update_other _ _ (Ne.symm hb)).trans ((Heap.get?_update_other _ _ (Ne.symm hb)).trans (k1 b u e))
 have z3:((h1.update s.heap.objs.size (Obj.mapSeq (·.push Value.none))).update s.heap.objs.size (Obj.mapSeq (·.pop))).objs.size=s.heap.objs.size+1:=by rw[Heap.size_update,Heap.size_update,z1]
 have kk:∀b u,s.heap.get? b=some u→((h1.update s.heap.objs.size (Obj.mapSeq (·.push Value.none))).update s.heap.objs.size (Obj.mapSeq (·.pop))).get? b=some u:=fun b u e=>k3 b u (Nat.ne_of_lt (lt e)) e
 obtain⟨a1,a2,a3,a4,a5,a6⟩:=st
 refine wpAny_pure ⟨plainId_quiet F.plain_extend_loop _,zip_loop (S:=s.heap.objs.size) (xs:=xs) (ys:=ys) (xv:=xv) (yv:=yv) hh D (fun m=>Nat.lt_irrefl _ (o _ m).2) ⟨Nat.ne_of_gt (lt a1),?_,?_⟩ rx ry hl hn _ 0 _ H [] _ rfl (Nat.zero_le _) h0 I3 (fun c hc=>⟨(o c hc).1,?_⟩) oS ?_ ⟨kk _ _ a1,a2.at fun u e=>kk _ u e,a3.at fun u e=>kk _ u e,a4.at fun u e=>kk _ u e,a5.at fun u e=>kk _ u e,?_⟩ hS3 rfl .nil fun s' H' ts J1 J2 J3 J4 J5=>?_⟩
 ·obtain⟨u,hu,_⟩:=a4;exact Nat.ne_of_gt (lt hu)
 ·obtain⟨u,hu,_⟩:=a5;exact Nat.ne_of_gt (lt hu)
 ·show c<Array.size _
  rw[z3];exact Nat.lt_succ_of_lt (o c hc).2
 ·show s.heap.objs.size<Array.size _
  rw[z3];exact Nat.lt_succ_self _
 ·rcases a6 with⟨_,b1,a,b,b2⟩ | ⟨w,_⟩
  ·exact .inl ⟨rfl,kk _ _ b1,a,b,kk _ _ b2⟩
  ·omega
 ·obtain⟨c,J5⟩:=J5
  show wpAny (model X.prog X.w) A (load s.heap.objs.size >>= _) _ _ s'
  refine wpAny_bind (wpAny_load J5 (wpAny_pure ?_))
  exact q s' H' ts J1 J2 J3
end
end L2
namespace L2
open PySem PySem.W PyProof.Rows PySem.Calls
section
variable {X:Cx} {pins:List (Addr × Obj)} {σ:St} {H:Hp} {s:Shared} {A:Around} {E:Value→Shared→Prop} {z TI TO i1 i2 l1 l2 q:Addr} {xs ys:List Value} {xv yv:List V} {kz:List Int}
theorem Inv.trackO{T:Addr}{v:HO}(I:Inv X pins σ H s)(o:Own X pins H T)(new:yF X.prog X.w (upd H T v) s.heap T v):Inv X pins σ (upd H T v) s:=by
 have hf:=o.free
 have up:∀b u,H b=some u→upd H T v b=some u:=fun b u e=>by rw[zj (zq e hf)];exact e
 refine I.step (h':=s.heap) (g':=s.gens) (d':=s.drawn) (t':=s.toks) (ch := [T]) (fun b hb=>?_) (fun b u _ _ hc e _=>e) (fun b u _ _ hc e _=>⟨u.slots,e⟩)
  (fun b u hc e n=>by rw[zj (fun w=>hc (by simp[w]))];exact n) (fun b u hc e=>⟨u,e⟩) (fun b _ e=>up b _ e) (fun b _ _ e=>up b _ e) (fun b ps e=>⟨#[],by rw[up b _ e];simp⟩) (fun m hm=>hm) (fun b u e=>?_) I.bare
 ·rw[List.mem_singleton.mp hb]
  exact⟨.inr o.new,o.loc,o.cell,o.pin⟩
 ·by_cases hb:b=T
  ·subst hb
   rw[zf] at e
   cases e
   exact new
  ·rw[zj hb] at e
   exact(I.hok b u e).stay (fun c w hc k=>k) (fun c k=>up c _ k) fun c _ k=>up c _ k
theorem Prs.length{ts:List Addr}{ps:List (V × V)}(h:Prs H ts ps):ts.length=ps.length:=by
 induction h with
 | nil=>rfl
 | cons _ _ ih=>rw[List.length_cons,List.length_cons,ih]
theorem zhV{Q:Value→Shared→Prop}(hh:A.in1.in1.handled=none)(D:ZipApart z TI TO i1 i2 l1 l2)(rx:zA xv xs)(ry:zA yv ys)(hl:xv.length=yv.length)(hn:xv.length<64)(h0:0<xv.length)(hk:kz.length=xv.length)
 (I:Inv X pins σ H s) (o:∀c ∈ [z,TO,i1,i2],Own X pins H c∧c<s.heap.objs.size) (st:ZSt z TI TO i1 i2 l1 l2 xs.toArray ys.toArray 0 s)
 (calls:∀(H':Hp) (ts:List Addr),zh H H'→Prs H' ts (xv.zip yv)→∀(i:Nat) (v:Value) (pins':List (Addr × Obj)) (s':Shared),(ts.map Value.ref)[i]? = some v→Inv X pins' σ H' s' →
   wpAny (model X.prog X.w) A.in1.in1 (call (.ref q) [v]) (fun k s''=>Inv X pins' σ H' s''∧∃t,k=Value.int (kz.getD i 0) t) (fun _ _=>False) s')
 (fin:∀(s':Shared) (H':Hp) (ts:List Addr) (l:Addr) (p:Array Nat),zh H H'→Prs H' ts (xv.zip yv)→H' l=none→M14.I (fun k=>kz.getD k 0) xv.length p xv.length→Inv X pins σ (upd H' l (.lst (p.toList.map fun i=>V.ref (ts.getD i 0)))) s'→Q (.ref l) s') :
 wpAny (model X.prog X.w) A (call (.builtin "sorted") [.ref z] [(Str.ofString "key",.ref q)]) Q E s:=by
 have hln:=zw
 refine call_function_entry_kw kind_sorted plain_sorted entry_sorted (ksk_s1 _ _) ?_
 unfold Builtin.«sorted»
 refine wpAny_bind (m:=checkCount "sorted" 1 1 _) (wpAny_pure ?_)
 refine wpAny_bind (zgg hh D rx ry hl hn h0 I o st fun s1 H1 ts I1 sm pr=>?_)
 have lt:ts.length=xv.length:=by rw[pr.length,List.length_zip];omega
 refine wpAny_bind (wpAny_newList ?_ (by rw[List.length_map];omega))
 have I2:Inv X pins σ H1 { s1 with heap:=s1.heap.push (seqObj "list" (ts.map Value.ref).toArray 0) }:=I1.kept (t':=s1.toks) fun b u e=>Heap.get?_push_of_some _ e
 have hD:(s1.heap.push (seqObj "list" (ts.map Value.ref).toArray 0)).get? s1.heap.objs.size=some (seqObj "list" (ts.map Value.ref).toArray 0):=Heap.get?_push_size _ rfl
 have oD:=I1.own (b:=s1.heap.objs.size) (Nat.le_refl _)
 refine wpAny_bind (wpAny_holding (wpAny_call_entry_kw slot_list_sort ⟨_,hD,rfl⟩ entry_list_sort ?body (ksk_l1 _ _)))
 case body =>
  show wpAny (model X.prog X.w) A.in1.in1 (Builtin.«list.sort» ⟨[.ref s1.heap.objs.size],[(Str.ofString "key",.ref q)]⟩) _ _ _
  rw[ksk_t1]
  refine wpAny_mono (keyed (f:=.ref q) (kz:=kz) (vs:=ts.map Value.ref) I2 oD hD (by rw[List.length_map];omega) (by rw[List.length_map];omega) (by rw[List.length_map];omega) (calls H1 ts sm pr)) (fun r s2 w=>?_) fun _ _ w=>w
  obtain⟨rfl,p,e,hp,I3,h3⟩:=w
  rw[List.length_map,lt] at hp
  refine⟨_,rfl,wpAny_pure ⟨_,rfl,?_⟩⟩
  refine fin s2 H1 ts _ p sm pr oD.free hp (I3.trackO oD ⟨?_,p.toList.map fun i=>(ts.map Value.ref).getD i Value.none,e,?_,h3⟩)
  ·rw[List.length_map,Array.length_toList,hp.1.size];omega
  ·have hm:∀i∈p.toList,i<ts.length:=fun i hi=>by
    have:=(hp.1.pm.toList.mem_iff (a:=i)).mp hi
    rw[lt]
    simpa using this
   revert hm
   generalize p.toList=l
   intro hm
   induction l with
   | nil=>exact .nil
   | cons a l ih =>
     have ha:=hm a (List.mem_cons_self ..)
     refine .cons ?_ (ih fun i hi=>hm i (List.mem_cons_of_mem _ hi))
     have e:(ts.map Value.ref).getD a Value.none=Value.ref (ts.getD a 0):=by simp[ha]
     show zH (V.ref (ts.getD a 0)) ((ts.map Value.ref).getD a Value.none)
     rw[e]
     rfl
end
end L2
namespace L2
open PySem PySem.W PyProof.Rows PySem.Calls
section
variable {X:Cx} {pins:List (Addr × Obj)} {σ:St} {H:Hp} {s:Shared} {A:Around} {E:Value→Shared→Prop} {l1 l2:Addr} {xv yv:List V}
theorem made_zip{Q:Value→Shared→Prop}(I:Inv X pins σ H s)(h1:SqL X.K H l1 xv)(h2:SqL X.K H l2 yv)
 (q:∀(s':Shared) (z TI TO i1 i2:Addr) (xs ys:List Value),zA xv xs→zA yv ys→Inv X pins σ H s'→ZipApart z TI TO i1 i2 l1 l2→(∀c ∈ [z,TO,i1,i2],Own X pins H c∧c<s'.heap.objs.size)→ZSt z TI TO i1 i2 l1 l2 xs.toArray ys.toArray 0 s'→Q (.ref z) s') :
 wpAny (model X.prog X.w) A (call (.type "zip") [.ref l1,.ref l2]) Q E s:=by
 obtain⟨xs,r1,p1,_⟩:=I.list h1
 obtain⟨ys,r2,p2,_⟩:=I.list h2
 have b1:=p1.isList
 have b2:=p2.isList
 have t1:l1<s.heap.objs.size:=by obtain⟨u,hu,_⟩:=b1;exact Heap.lt_size hu
 have t2:l2<s.heap.objs.size:=by obtain⟨u,hu,_⟩:=b2;exact Heap.lt_size hu
 refine call_zip_2 b1 b2 fun h' hz hTI hTO hi1 hi2 hsz hk=>?_
 have n:∀(l:Addr) (d:Nat),l<s.heap.objs.size→l≠s.heap.objs.size+d:=fun l d h=>Nat.ne_of_lt (Nat.lt_of_lt_of_le h (Nat.le_add_right _ _))
 have m:∀d e:Nat,d≠e→s.heap.objs.size+d≠s.heap.objs.size+e:=fun d e h w=>h (Nat.add_left_cancel w)
 refine q _ (s.heap.objs.size+4) (s.heap.objs.size+2) (s.heap.objs.size+3) (s.heap.objs.size+0) (s.heap.objs.size+1) xs ys r1 r2 (I.kept (t':=s.toks) hk)
  ⟨m 2 4 (by decide),m 3 4 (by decide),m 0 4 (by decide),m 1 4 (by decide),m 2 3 (by decide),m 2 0 (by decide),m 2 1 (by decide),m 3 0 (by decide),m 3 1 (by decide),m 0 1 (by decide),n _ 4 t1,n _ 3 t1,n _ 0 t1,n _ 1 t1,n _ 4 t2,n _ 3 t2,n _ 0 t2,n _ 1 t2⟩ (fun c hc=>?_)
  ⟨hTI,hi1,hi2,b1.at fun u e=>hk _ u e,b2.at fun u e=>hk _ u e,.inl ⟨rfl,hz,_,_,hTO⟩⟩
 have hb:∃d,d<5∧c=s.heap.objs.size+d:=by
  simp only[List.mem_cons,List.not_mem_nil,or_false] at hc
  rcases hc with w | w | w | w
  ·exact⟨4,by decide,w⟩
  ·exact⟨3,by decide,w⟩
  ·exact⟨0,by decide,w⟩
  ·exact⟨1,by decide,w⟩
 obtain⟨d,hd,rfl⟩:=hb
 refine⟨I.own (Nat.le_add_right _ _),?_⟩
 show s.heap.objs.size+d<Array.size _
 rw[hsz]
 exact Nat.add_lt_add_left hd _
end
end L2
namespace L2
open PySem PySem.W PySem.Spec PyProof.Rows PySem.Calls
def zcR(mg:Str→Option Value)(h:Heap):Prop:=∃bm ob,mg "__builtins__" = some (.ref bm)∧bm≠builtinsNs∧h.get? bm=some ob∧ob.cls=.type "module" ∧ ob.dict=some builtinsNs∧ob.data=.plain
abbrev fnO(f:Addr)(o:Obj):HO:=.ext fun h=>h.get? f=some o
abbrev zdL(c:Addr)(q:Str):HO:=.ext fun h=>h.CodeRec (.ref c) q
def yU(H H':Hp):Prop:=(∀b u,H b=some u→(∀ps,u ≠ .tbl ps)→H' b=some u)∧∀b ps,H b=some (.tbl ps)→∃qs,H' b=some (.tbl qs)
theorem zh.toN{H H':Hp}(s:zh H H'):yU H H':=⟨fun b u e _=>s b u e,fun b ps e=>⟨ps,s b _ e⟩⟩
theorem yU.trans{H H1 H2:Hp}(a:yU H H1)(b:yU H1 H2):yU H H2:=⟨fun c u e n=>b.1 c u (a.1 c u e n) n,fun c ps e=>let ⟨qs,e1⟩:=a.2 c ps e;b.2 c qs e1⟩
theorem yU.free{H H':Hp}{l:Addr}(s:yU H H')(h:H' l=none):H l=none:=by
 cases e:H l with
 | none=>rfl
 | some u =>
   by_cases hu:∃ps,u=.tbl ps
   ·obtain⟨ps,rfl⟩:=hu
    obtain⟨qs,e1⟩:=s.2 l ps e
    rw[h] at e1;cases e1
   ·have e1:=s.1 l u e fun ps z=>hu ⟨ps,z⟩
    rw[h] at e1;cases e1
def noT(H:Hp):Hp:=fun b=>match H b with
 | some (.tbl _)=>none
 | x=>x
theorem noT_of{H:Hp}{b:Addr}{u:HO}(e:H b=some u)(n:∀ps,u ≠ .tbl ps):noT H b=some u:=by
 unfold noT
 rw[e]
 cases u <;> first | rfl | exact absurd rfl (n _)
theorem of_noT{H:Hp}{b:Addr}{u:HO}(e:noT H b=some u):H b=some u∧∀ps,u ≠ .tbl ps:=by
 unfold noT at e
 split at e
 ·cases e
 ·rename_i z
  refine⟨e,fun ps w=>?_⟩
  subst w
  exact z ps e
theorem yU.same{H H':Hp}(s:yU H H'):zh (noT H) H':=fun b u e=>let ⟨h,n⟩:=of_noT e;s.1 b u h n
theorem SqL.noT{K:Frag}{H:Hp}{a:Addr}{xs:List V}(h:SqL K H a xs):SqL K (L2.noT H) a xs:=by
 rcases h with(h | ⟨o,h⟩) | h
 ·exact .inl (.inl (noT_of h fun _ z=>by cases z))
 ·exact .inl (.inr ⟨o,noT_of h fun _ z=>by cases z⟩)
 ·exact .inr h
section
variable {X:Cx} {pins:List (Addr × Obj)} {σ:St} {H:Hp} {s:Shared} {E:Value→Shared→Prop}
theorem Inv.lam{P c':Addr}{ps more:Array Value}{h':Heap}{fo:Obj}{q:Str}{tk:Nat}(I:Inv X pins σ H s)(hfo:fo.isFreed=false)(hP:H P=some (.tbl ps))(hx:Heap.ExtBut P s.heap h')(hc:s.heap.objs.size≤c')(hlt:c'<h'.objs.size)
 (hcd:h'.CodeRec (.ref c') q) (ht:h'.get? P=some (tabObj (ps++more))) :
 Inv X pins σ (upd (upd (upd H P (.tbl (ps++more))) c' (zdL c' q)) h'.objs.size (fnO h'.objs.size fo)) { s with heap:=h'.push fo,toks:=tk }:=by
 have hPs:P<s.heap.objs.size:=I.hok.lt hP
 have nPc:P≠c':=Nat.ne_of_lt (Nat.lt_of_lt_of_le hPs hc)
 have ncf:c'≠h'.objs.size:=Nat.ne_of_lt hlt
 have nPf:P≠h'.objs.size:=Nat.ne_of_lt (Nat.lt_trans (Nat.lt_of_lt_of_le hPs hc) hlt)
 have old:∀b,b<s.heap.objs.size→b≠P→upd (upd (upd H P (.tbl (ps++more))) c' (zdL c' q)) h'.objs.size (fnO h'.objs.size fo) b=H b:=fun b hb n=>by
  rw[zj (Nat.ne_of_lt (Nat.lt_trans (Nat.lt_of_lt_of_le hb hc) hlt)),zj (Nat.ne_of_lt (Nat.lt_of_lt_of_le hb hc)),zj n]
 have atP:upd (upd (upd H P (.tbl (ps++more))) c' (zdL c' q)) h'.objs.size (fnO h'.objs.size fo) P=some (.tbl (ps++more)):=by rw[zj nPf,zj nPc,zf]
 have k:∀b u,b≠P→s.heap.get? b=some u→(h'.push fo).get? b=some u:=fun b u n e=>Heap.get?_push_of_some _ (hx b u n e)
 have nP:∀b u,H b=some u→(∀w,u ≠ .tbl w)→b≠P:=fun b u e n z=>by rw[z,hP] at e;cases e;exact n _ rfl
 have keepH:∀b u,H b=some u→(∀w,u ≠ .tbl w)→upd (upd (upd H P (.tbl (ps++more))) c' (zdL c' q)) h'.objs.size (fnO h'.objs.size fo) b=some u:=fun b u e n=>by
  rw[old b (I.hok.lt e) (nP b u e n)];exact e
 refine I.step (g':=s.gens) (d':=s.drawn) (ch := []) (fun _ z=>nomatch z) (fun b o _ _ _ e n=>k b o (fun z=>by rw[z,hP] at n;cases n) e) (fun b o _ _ _ e n=>⟨o.slots,k b o (fun z=>by rw[z,hP] at n;cases n) e⟩)
  (fun b o _ e n=>by rw[old b (Heap.lt_size e) (fun z=>by rw[z,hP] at n;cases n)];exact n) (fun b o _ e=>?_) (fun b xs e=>keepH b _ e fun _ z=>by cases z) (fun b o u e=>keepH b _ e fun _ z=>by cases z) (fun b w e=>?_) (fun m hm=>?_) (fun b u e=>?_) I.bare
 ·by_cases hb:b=P
  ·subst hb;exact⟨_,Heap.get?_push_of_some _ ht⟩
  ·exact⟨o,k b o hb e⟩
 ·by_cases hb:b=P
  ·subst hb
   rw[hP] at e
   cases e
   exact⟨more,atP⟩
  ·exact⟨#[],by rw[old b (I.hok.lt e) hb,e];simp⟩
 ·have nL:X.env.locals≠P:=fun z=>by have:=I.free;rw[z,hP] at this;cases this
  obtain⟨o,es,ep,ho,r⟩:=hm
  exact⟨o,es,ep,k _ o nL ho,r⟩
 ·by_cases hf:b=h'.objs.size
  ·subst hf
   rw[zf] at e
   cases e
   exact⟨Heap.get?_push_size _ hfo,⟨fo,Heap.get?_push_size _ hfo⟩,fun h1 h2 a b=>b _ a⟩
  ·by_cases hc':b=c'
   ·subst hc'
    rw[zj ncf,zf] at e
    cases e
    obtain⟨c,oc,vs,t,e1,e2,e3,e4⟩:=hcd
    cases e1
    exact⟨⟨b,oc,vs,t,rfl,Heap.get?_push_of_some _ e2,e3,e4⟩,⟨oc,Heap.get?_push_of_some _ e2⟩,fun h1 h2 ⟨c,oc,vs,t,e1,e2,e3⟩ q=>by cases e1;exact⟨b,oc,vs,t,rfl,q _ e2,e3⟩⟩
   ·by_cases hb:b=P
    ·subst hb
     rw[atP] at e
     cases e
     exact Heap.get?_push_of_some _ ht
    ·rw[zj hf,zj hc',zj hb] at e
     refine(I.hok b u e).stay (fun c v hc q=>k c v ?_ q) (fun c w=>keepH c _ w fun _ z=>by cases z) fun c xs w=>keepH c _ w fun _ z=>by cases z
     rcases hc with rfl | hc
     ·exact hb
     ·exact nP c _ hc fun _ z=>by cases z
end
theorem lam_ok{P:Program}{w:World}{K:Frag}{mg:Str→Option Value}{base:Heap}{k:Nat}{f c':Addr}{name qual:Str}{params:Arguments}{body:Expr}{scope:Scope}{pm ctv:Value}{N ps:List Str}{sp:Sp}(S:FnScope N ps scope)
 (len:∀vs H Q E,sp vs H Q E→vs.length=ps.length)
 (has:∀vs H Q E,sp vs H Q E→H f=some (fnO f (kla_obj name qual params body scope [] pm c' ctv))∧H c'=some (zdL c' qual))
 (hbody:∀(A:Around) (outer:List Env) (s:Shared) (H:Hp) (vs:List V) (Q:VK) (E:XK),Room k (A.deeper (envOfC qual scope s.heap.objs.size f (.ref c')))→sp vs H Q E →
   ∃t,PE (zaL CX0 P w K mg base N qual scope f (.ref c') A outer s H E) body t∧t (zav N vs) H Q) :
 FnOk P w K mg base CX0 (k+1) f (kla_fn name qual params body scope [] pm (.ref c') ctv) ps sp:=by
 refine⟨len,fun A outer s H args us vs Q E hr e0 hb r hsp=>?_⟩
 have hl:=len _ _ _ _ hsp
 obtain⟨a1,a2⟩:=has _ _ _ _ hsp
 obtain⟨o1,_⟩:=e0.hok f _ a1
 obtain⟨o2,_⟩:=e0.hok c' _ a2
 have lim:s.heap.NoLimit:=e0.mod.nolimit.keeps fun b o e=>(e0.bs b o e).1
 have hkind:∀y∈ps.zip us,scope.names.lookup y.1=some .local∨(scope.names.lookup y.1=some .cell∧((cellsFrom (s.heap.objs.size+1) scope.names []).lookup y.1).isSome=true):=fun⟨n,v⟩ hy=>by
  rcases S.par n (List.of_mem_zip hy).1 with q | q
  ·exact .inl q
  ·exact .inr ⟨q,PySem.W.cellsFrom_some _ _ _ (.inl q)⟩
 refine kla_callFunE hr.depth o1 rfl S.co S.gen rfl o2 (hb _ _ _ _ ?_)
 refine wpAny_newFunctionEnv_cells S.kind hkind fun env he s1 x=>?_
 subst he
 refine⟨lim.keeps x.toInCall.keep,kla_codeExpr ?_⟩
 obtain⟨t,ht,hq⟩:=hbody A outer s H vs Q E (hr.deeper _) hsp
 have I:Inv (zaL CX0 P w K mg base N qual scope f (.ref c') A outer s H E) [] (zav N vs) H s1:=zfn S hr.hd e0 hl r x
 refine wpAny_mono (ht [] s1 (zav N vs) H _ I hq) (fun u s' hs=>?_) fun e s' hs=>hs
 obtain⟨v,H',J,rv,q⟩:=hs
 exact⟨v,H',J.os,J.bare,J.base,J.hok,rv,q⟩
end L2
namespace L2
open PySem PySem.W PySem.Spec PyProof.Rows PySem.Calls
def sp_fst(f c':Addr)(o:Obj)(q:Str):Sp:=fun vs H Q _=>H f=some (fnO f o)∧H c'=some (zdL c' q)∧∃(t:Addr) (x y:V),vs = [.ref t]∧H t=some (.tup [x,y])∧Q x H
theorem Prs.get{H:Hp}:∀{ts:List Addr} {ps:List (V × V)},Prs H ts ps→∀(i:Nat) (t:Addr),ts[i]? = some t→∃p,ps[i]? = some p∧H t=some (.tup [p.1,p.2])
 | _,_,.nil,i,t,e=>by simp at e
 | _,_,.cons h r,0,t,e=>by
   simp at e
   subst e
   exact⟨_,rfl,h⟩
 | _,_,.cons h r,i+1,t,e=>by
   obtain⟨p,e1,e2⟩:=Prs.get r i t (by simpa using e)
   exact⟨p,by simpa using e1,e2⟩
section
variable {X:Cx} {ex ey:Expr} {t:TA} {c P:Addr} {y:Str} {p1 p2 p3 p4 p5 pos pos2 lpos kp:Pos} {j:Nat} {params:Arguments} {scope:Scope}
end
end L2
namespace L2
open PySem PySem.W PySem.Spec PyProof.Rows PySem.Calls
def zcr(K:Frag)(x:Str):Addr:=match tabIn K x with
 | some (_,P)=>P
 | none=>0
structure Lam (K:Frag) (x:Str) (f:Addr):Prop where
 ex:∃c,codeHdIn K c (zcr K x)=true∧∃(oc:Value) (od:Option Addr) (fd:FuncData) (osl:Array (Option Value)),K.lookup f=some ⟨oc,od,.func fd,osl⟩∧fd.code=.ref c
def LamK(K:Frag)(x:Str):Prop:=(∃c,tabIn K x=some (c,zcr K x))∧K.lookup (zcr K x)=none
theorem lam_mk{K:Frag}{x:Str}{f c P:Addr}{oc o1:Value}{od d1:Option Addr}{fd:FuncData}{osl s1:Array (Option Value)}{vs:Array Value}(a:nsIn K mainGlobals x=some (some (.ref f)))(l:K.lookup f=some ⟨oc,od,.func fd,osl⟩)(e:fd.code=.ref c)
 (lk:K.lookup c=some ⟨o1,d1,.fields vs,s1⟩) (lv:vs[11]? = some (.ref P)) (lh:codeHdIn K c P=true) (ln:K.lookup P=none):Lam K x f∧LamK K x:=by
 have ht:tabIn K x=some (c,P):=by
  unfold tabIn
  rw[a]
  dsimp only
  rw[l]
  dsimp only
  rw[e]
  dsimp only
  rw[lk]
  dsimp only
  rw[lv]
 have hp:zcr K x=P:=by unfold zcr;rw[ht]
 exact⟨⟨c,by rw[hp];exact lh,oc,od,fd,osl,l,e⟩,⟨c,by rw[hp];exact ht⟩,by rw[hp];exact ln⟩
section
variable {P:Program} {w:World} {K:Frag} {mg:Str→Option Value} {base:Heap}
theorem Fun.okC{x qual y:Str}{st:Stmt}{f:Addr}{fd:FuncData}{N ps:List Str}{k:Nat}{sp:Sp}(F:Fun K x qual st f fd)(L:Lam K y f)(S:FnScope N ps (zc st))(len:∀vs H Q E,sp vs H Q E→vs.length=ps.length)
 (hbody:∀(c:Addr) (A:Around) (outer:List Env) (s:Shared) (H:Hp) (vs:List V) (Q:VK) (E:XK),codeHdIn K c (zcr K y)=true→Room k (A.deeper (envOfC qual (zc st) s.heap.objs.size f (.ref c)))→sp vs H Q E →
   ∃t,PSs (zaL CX0 P w K mg base N qual (zc st) f (.ref c) A outer s H E).nox (zn st) t∧t { nx:=fun _ H'=>Q .non H',rt:=Q } (zav N vs) H):FnOk P w K mg base CX0 (k+1) f fd ps sp:=by
 obtain⟨oc,od,kV,doc,pm,an,cdv,ct,osl,rfl,lk,hcd⟩:=F.ex
 obtain⟨c,hc,oc',od',fd',osl',lk',e⟩:=L.ex
 rw[lk] at lk'
 cases lk'
 have e:cdv=.ref c:=e
 subst e
 refine fn_of lk hcd S len fun A outer s H vs Q E hr hsp=>?_
 obtain⟨t,h,q⟩:=hbody c A outer s H vs Q E hc hr hsp
 exact⟨t,h.nox,q⟩
end
theorem zim{P:Program}{w:World}{K:Frag}{mg mb:Str→Option Value}{CX:CXT}{k:Nat}{fa a c T:Addr}{fd:FuncData}{x:Str}{sp:Sp}{s₁:Shared}{vs:List Value}{ns:List Int}
 (KX:K.In s₁.heap) (hns:s₁.heap.Ns mainGlobals mg) (hb:s₁.heap.Ns builtinsNs mb) (hbb:∀x:Str,x ≠ "__name__" → mb x=bootBuiltins x) (hlim:s₁.heap.NoLimit) (hbm:zcR mg s₁.heap) (hg:s₁.gens = #[])
 (hC:CodeHd s₁.heap c T) (hT:s₁.heap.get? T=some (tabObj #[])) (hTK:K.lookup T=none)
 (ha:s₁.heap.get? a=some { cls:=.type "list",data:=.seq vs.toArray }) (hi:IntsAre vs ns) (hl:ns.length≤sizeLine) (hr:Room k callerA)
 (F:∀base:Heap,K.In base→base.Ns mainGlobals mg→zcR mg base→FnOk P w K mg base CX k fa fd [x] sp) (hbind:∀(s:Shared) (u:Value),BindsTo s fd ⟨[u],[]⟩ [(x,u)])
 (hsp:∀H:Hp,H T=some (.tbl #[])→SqL K H a (ns.map V.int)→sp [.ref a] H (fun v _=>v=.bl true) fun _ _ _=>False)
 (hCX:∀H e s',CX [] H s₁ (fun _ _ _=>False) e s'→False) :
 codeAny (model P w) callerA (.call (.ref fa) ⟨[.ref a],[]⟩) (fun r s'=>r=.ok (.ret (.bool true))∧OldK s₁.heap s'.heap∧s'.os=s₁.os∧AllBare s'.gens) s₁:=by
 have rv:=zfx hi
 have lenV:=hi.length
 have naT:a≠T:=fun z=>by rw[z,hT] at ha;cases ha
 have core:∀H:Hp,(∀b,b≠T→H b=none∨∃o xs,H b=some (.frz o (.lst xs)))→H T=some (.tbl #[])→SqL K H a (ns.map V.int)→HOk P w H s₁.heap→(∀b,H b≠none→b=a∨b=T)→(H a≠none→K.lookup a=none) →
  codeAny (model P w) callerA (.call (.ref fa) ⟨[.ref a],[]⟩) (fun r s'=>r=.ok (.ret (.bool true))∧OldK s₁.heap s'.heap∧s'.os=s₁.os∧AllBare s'.gens) s₁:=by
  intro H hO hHT hS hok hA hK
  have base_of:∀{b:Addr} {o:Obj},s₁.heap.get? b=some o→H b=none→(ze3 s₁.heap H).get? b=some o:=fun e n=>hidT_get e n
  have noA:∀{b:Addr} {o:Obj},s₁.heap.get? b=some o→o.cls ≠ .type "list" → o.cls ≠ .none→H b=none:=fun {b o} e d d2=>by
   cases q:H b with
   | none=>rfl
   | some u =>
     rcases hA b (by rw[q];simp)with e' | e'
     ·subst e'
      rw[ha] at e;cases e
      exact absurd rfl d
     ·subst e'
      rw[hT] at e;cases e
      exact absurd rfl d2
  have noD:∀{b:Addr} {o:Obj} {es:Array DictEntry} {ep:Nat},s₁.heap.get? b=some o→o.data=.dict es ep→H b=none:=fun {b o es ep} e d=>by
   cases q:H b with
   | none=>rfl
   | some u =>
     rcases hA b (by rw[q];simp)with e' | e'
     ·subst e'
      rw[ha] at e;cases e
      have d':Data.seq vs.toArray _=Data.dict es ep:=d
      cases d'
     ·subst e'
      rw[hT] at e;cases e
      have d':Data.fields #[]=Data.dict es ep:=d
      cases d'
  have nsK:∀{b:Addr} {m:Str→Option Value},s₁.heap.Ns b m→(ze3 s₁.heap H).Ns b m:=fun {b m} ⟨o,es,ep,e,d,r⟩=>⟨o,es,ep,base_of e (noD e d),d,r⟩
  have hKb:K.In (ze3 s₁.heap H):=fun b o e=>base_of (KX b o e) (by
   cases q:H b with
   | none=>rfl
   | some u =>
     rcases hA b (by rw[q];simp)with e' | e'
     ·subst e'
      rw[hK (by rw[q];simp)] at e;cases e
     ·subst e'
      rw[hTK] at e;cases e)
  have hM:Mod K mg (ze3 s₁.heap H):=⟨hKb,nsK hns,⟨mb,nsK hb,hbb⟩,let ⟨mc,h1,h2⟩:=hlim;⟨mc,nsK h1,h2⟩⟩
  have hBM:zcR mg (ze3 s₁.heap H):=let ⟨bm,ob,b1,b2,b3,b4,r⟩:=hbm;⟨bm,ob,b1,b2,base_of b3 (noA b3 (by rw[b4];decide) (by rw[b4];intro z;cases z)),b4,r⟩
  have e0:Env0 P w K mg (ze3 s₁.heap H) callerA [] s₁ H:=⟨rfl,hM,fun b o e=>of_hidT e,Nat.le_of_eq (hidT_size _ _),trivial,fun b hb=>absurd (show b∈([]:List Addr)from hb) (by simp),hok,.of_eq hg⟩
  refine codeAny_mono ((F _ hKb (nsK hns) hBM).run callerA [] s₁ H ⟨[.ref a],[]⟩ [.ref a] [.ref a] _ _ hr e0 (hbind s₁ (.ref a)) (.cons rfl .nil) (hsp H hHT hS)) fun r s' h=>?_
  cases r with
  | error e=>exact(hCX H e s' h).elim
  | ok fl =>
    cases fl with
    | next=>exact False.elim h
    | brk=>exact False.elim h
    | cont=>exact False.elim h
    | ret u =>
      obtain⟨v,H',os,bare,un,hok',r',q⟩:=h
      have q':v=.bl true:=q
      subst q'
      obtain rfl:u=Value.bool true:=r'
      obtain⟨more,eT⟩:=un.tbls T #[] hHT
      have eT2:s'.heap.get? T=some (tabObj (#[]++more)):=hok' T _ eT
      have kept:∀b o,b≠T→s₁.heap.get? b=some o→s'.heap.get? b=some o:=fun b o n e=>by
       cases q:H b with
       | none=>exact un.keep b o e q (by intro z;exact absurd (show b∈([]:List Addr)from z) (by simp)) (by simp)
       | some u =>
         rcases hO b n with z | ⟨ob,xs,z⟩
         ·rw[q] at z;cases z
         ·have z2:=un.frzs b ob _ z
          obtain⟨e1,_⟩:=hok b _ z
          obtain⟨e2,_⟩:=hok' b _ z2
          rw[e] at e1;cases e1
          exact e2
      refine⟨rfl,⟨fun b o e=>?_,fun b o e=>?_⟩,os,bare⟩
      ·by_cases n:b=T
       ·subst n
        rw[hT] at e
        cases e
        exact .inr (.inl ⟨(hC.tab hT).isCodeTable,rfl,#[],more,rfl,eT2⟩)
       ·exact .inl (kept b o n e)
      ·by_cases n:b=T
       ·subst n;exact⟨_,eT2⟩
       ·exact⟨o,kept b o n e⟩
 cases hk:K.lookup a with
 | some o =>
   have e:=KX a o hk
   rw[ha] at e
   cases e
   refine core (fun b=>if b=T then some (.tbl #[])else none) (fun b n=>.inl (if_neg n)) (if_pos rfl) (.inr ⟨_,vs.toArray,_,hk,rfl,rfl,rfl,by rw[List.size_toArray,lenV];exact hl,by simpa using rv⟩) (fun b u z=>?_) (fun b z=>?_) fun z=>absurd (if_neg naT) z
   ·by_cases hb:b=T
    ·have z':=(if_pos hb).symm.trans z
     cases z'
     subst hb
     exact hT
    ·have z':=(if_neg hb).symm.trans z
     cases z'
   ·by_cases hb:b=T
    ·exact .inr hb
    ·exact absurd (if_neg hb) z
 | none =>
   refine core (fun b=>if b=a then some (.frz { cls:=.type "list",data:=.seq vs.toArray } (.lst (ns.map V.int)))else if b=T then some (.tbl #[])else none) (fun b n=>?_) ?_ (.inl (.inr ⟨{ cls:=.type "list",data:=.seq vs.toArray },if_pos rfl⟩)) (fun b u z=>?_) (fun b z=>?_) fun _=>hk
   ·by_cases hb:b=a
    ·exact .inr ⟨_,_,if_pos hb⟩
    ·exact .inl ((if_neg hb).trans (if_neg n))
   ·exact(if_neg (Ne.symm naT)).trans (if_pos rfl)
   ·by_cases hb:b=a
    ·have z':=(if_pos hb).symm.trans z
     cases z'
     subst hb
     exact⟨ha,by rw[List.length_map];exact hl,vs,_,rv,ha⟩
    ·have z':=(if_neg hb).symm.trans z
     by_cases hc:b=T
     ·have z2:=(if_pos hc).symm.trans z'
      cases z2
      subst hc
      exact hT
     ·have z2:=(if_neg hc).symm.trans z'
      cases z2
   ·by_cases hb:b=a
    ·exact .inl hb
    ·by_cases hc:b=T
     ·exact .inr hc
     ·exact absurd ((if_neg hb).trans (if_neg hc)) z
theorem walk_ofT{l:PySem.W.OpenLaw}{n k:Nat}{q:Program}{loose:List Str}{XP:(Str→Option Value)→Heap→Prop}{YP:World→Heap→Prop}{d:DefRec}{K:Params→PySem.W.Frag}{CX:World→CXT}{sp:World→Sp}{x y:Str}
 (hn:l.most=some n) (hn2:n≤sizeLine) (hdf:d.params.defaults = []) (hr:Room k callerA) (hrec:∃dd,(recsOf q).find? (fun e=>e.name==y)=some dd)
 (hY:∀(w:World) (h:Heap),YP w h→(K w.params).In h)
 (F:∀(w:World) (mg:Str→Option Value) (fa:Addr) (h:Heap),(K w.params).In h→h.Ns mainGlobals mg→mg d.name=some (.ref fa) →
   LamK (K w.params) y∧∃fd:FuncData,(∀(s:Shared) (u:Value),BindsTo s fd ⟨[u],[]⟩ [(x,u)]) ∧
    ∀base:Heap,(K w.params).In base→base.Ns mainGlobals mg→zcR mg base→FnOk l.prog w (K w.params) mg base (CX w) k fa fd [x] (sp w))
 (hsp:∀(w:World) (H:Hp) (a:Addr) (ns:List Int),ns.length≤n→H (zcr (K w.params) y)=some (.tbl #[])→SqL (K w.params) H a (ns.map V.int)→sp w [.ref a] H (fun v _=>v=.bl true) fun _ _ _=>False)
 (hCX:∀(w:World) (H:Hp) (s:Shared) (e:Value) (s':Shared),CX w [] H s (fun _ _ _=>False) e s'→False) :
 PySem.W.WalkO q loose XP YP l.row.toRowW d [] (fun f vs=>PySem.call f vs):=by
 refine Att.attach_call hn hdf fun w s₀ s₁ mg mb fa o pm cd doc a vs ns G Y ho hd hcd hmg hobj hints hlen hg=>?_
 have KX:=hY w _ Y
 obtain⟨⟨⟨c,ht⟩,hTK⟩,fd,hb,hF⟩:=F w mg fa _ KX G.T.g hmg
 obtain⟨dd,hrec⟩:=hrec
 obtain⟨hC,hT⟩:=tab_of G.T KX hrec ht
 exact zim KX G.T.g G.T.b G.T.builtins G.T.nolimit G.T.bmain hg hC hT hTK hobj hints (Nat.le_trans hlen hn2) hr hF hb (fun H hO hS=>hsp w H a ns hlen hO hS) fun H e s'=>hCX w H s₁ e s'
structure CompScope2 (sc:Scope) (N:List Str) (x x2:Str) (fr:List Str) (ix:List Nat) (scope:Scope):Prop where
 kind:scope.kind=.function
 nocell:∀y∈scope.names,y.2 ≠ .cell
 lcl:∀y∈scope.names,y.2=.local→scope.names.lookup y.1=some .local
 lx:scope.names.lookup x=some .local
 lx2:scope.names.lookup x2=some .local
 free:∀y∈scope.names,y.2=.free→sc.names.lookup y.1=some .cell∨sc.names.lookup y.1=some .free
 at':fr.map some=ix.map fun i=>N[i]?
 frk:∀y∈fr,scope.names.lookup y=some .free∧(sc.names.lookup y=some .cell∨sc.names.lookup y=some .free)
 nd:(x::x2::fr).Nodup
section
variable {X:Cx} {pins:List (Addr × Obj)} {σ:St} {H:Hp} {s:Shared} {x x2:Str} {fr:List Str} {ix:List Nat} {scope:Scope} {cl:List (Str × Addr)} {fp:List Addr} {C D:Addr}
theorem blk_ok2(S:CompScope2 X.env.scope X.N x x2 fr ix scope)(I:Inv X pins σ H s)(hf:∀b∈fp,zai X pins H b)(hfo:∀b∈fp,b<s.heap.objs.size)(hC:s.heap.objs.size≤C)
 (h1:∀y c,cl.lookup y=some c→X.env.cells.lookup y=some c) (h2:∀y,(y,NameKind.free)∈scope.names→∃c,cl.lookup y=some c):(blk X (x::x2::fr) scope cl C s H fp).Ok where
 mod:=I.ok.mod
 kind:=S.kind
 glob:=I.ok.glob
 blt:=I.ok.blt
 above:=hC
 inj:=fun y z c a b=>I.ok.inj y z c (h1 y c a) (h1 z c b)
 has:=fun y hy=>h2 y (zc4 (env:=X.env) (scope:=scope) S.nocell hy)
 cab:=fun y c h _=>Bool.noConfusion (show false=true from h)
 hd:=I.ok.hd
 frames:=I.ok.frames
 stk:=.inl rfl
 exf:=fun b hb=>⟨fun z=>absurd (hfo b hb) (by rw[z];exact Nat.not_lt.mpr hC),fun y c e=>(hf b hb).2.2.2.2.1 y c (h1 y c e)⟩
 bs:=I.bs
 bsz:=Nat.le_trans I.ok.bsz I.sz
 noex:=fun b o e hb=>by
  rcases (hf b hb).2.2.2.1 with z | z
  ·exact I.ok.noex b o e z
  ·exact absurd (Nat.lt_of_lt_of_le (Heap.lt_size e) (Nat.le_trans I.ok.bsz z)) (Nat.lt_irrefl _)
 exfs:=fun b hb z=>by
  rcases List.mem_cons.mp (I.stkSub b z)with e | e
  ·exact(hf b hb).2.1 e
  ·exact(hf b hb).2.2.1 e
 funs:=I.stack
 frf:=I.stkFree
theorem CompScope2.len(S:CompScope2 X.env.scope X.N x x2 fr ix scope):fr.length=ix.length:=by have:=congrArg List.length S.at';simpa using this
theorem blk_inv2{s':Shared}{pn:List (Addr × Obj)}{m:Str→Option Value}(S:CompScope2 X.env.scope X.N x x2 fr ix scope)(I:Inv X pins σ H s)(hf:∀b∈fp,zai X pins H b)(hfo:∀b∈fp,b<s.heap.objs.size)(hC:s.heap.objs.size≤C)
 (h1:∀y c,cl.lookup y=some c→X.env.cells.lookup y=some c) (h2:∀y,(y,NameKind.free)∈scope.names→∃c,cl.lookup y=some c)
 (ho:s'.os=s.os) (hg:s'.gens=s.gens) (k:∀b o,s.heap.get? b=some o→s'.heap.get? b=some o) (hn:s'.heap.Ns C m)
 (hp:∀p∈pn,s'.heap.get? p.1=some p.2∧s.heap.objs.size≤p.1∧p.1≠C∧∀v,p.2.data ≠ .cell v) :
 Inv (blk X (x::x2::fr) scope cl C s H fp) pn (none::none::cap ix σ) H s':=by
 obtain⟨mX,hnX,hlX⟩:=I.loc
 refine⟨blk_ok2 S I hf hfo hC h1 h2,ho,by rw[hg];exact I.bare,Un.kept k,⟨m,hn,fun i y v e1 e2 e3=>?_⟩,fun y c e=>?_,I.hok.fresh hC,fun y c e=>I.freeC y c (h1 y c e),fun p hp'=>?_,I.hok.kept k,by
  show(none::none::cap ix σ).length=(x::x2::fr).length
  simp[zic,S.len]⟩
 ·rcases i with _ | _ | j
  ·cases e2
  ·cases e2
  ·have e1':fr[j]? = some y:=e1
   have e2':(cap ix σ)[j]? = some (some v):=e2
   obtain⟨f1,f2⟩:=S.frk y (List.mem_of_getElem? e1')
   unfold cap at e2'
   rw[List.getElem?_map] at e2'
   cases ei:ix[j]? with
   | none=>rw[ei] at e2';cases e2'
   | some i =>
     rw[ei] at e2'
     have e3':(σ[i]?).join=some v:=Option.some.inj e2'
     have e4:σ[i]? = some (some v):=by
      cases q:σ[i]? with
      | none=>rw[q] at e3';cases e3'
      | some w=>rw[q] at e3';have:w=some v:=e3';rw[this]
     have e5:X.N[i]? = some y:=by
      have:=congrArg (fun l=>l[j]?) S.at'
      simp only[List.getElem?_map,e1',ei] at this
      simpa using this.symm
     have vis:Vis X.env.scope y:=by
      rcases f2 with z | z
      ·exact .inr (.inl z)
      ·exact .inr (.inr z)
     obtain⟨u,r,l⟩:=hlX i y v e5 e4 vis
     refine⟨u,r,.inr ⟨zbP f1,?_⟩⟩
     rcases l with⟨z,_⟩ | ⟨_,c,ec,hc⟩
     ·rcases f2 with q | q
      ·have q':=(show X.env.scope.names.lookup y=some .local from z).symm.trans q;cases q'
      ·have q':=(show X.env.scope.names.lookup y=some .local from z).symm.trans q;cases q'
     ·obtain⟨c',hc'⟩:=h2 y (PySem.mem_of_lookup f1)
      have:c'=c:=by have:=h1 y c' hc';rw[ec] at this;exact(Option.some.inj this).symm
      subst this
      refine⟨c',hc',?_⟩
      obtain⟨o,ho',hd⟩:=hc
      exact⟨o,k _ _ ho',hd⟩
 ·obtain⟨v,o,ho',hd⟩:=I.cell y c (h1 y c e)
  exact⟨v,o,k _ _ ho',hd⟩
 ·have hp'':p∈pn:=by simpa [blk] using hp'
  obtain⟨q1,q2,q3,q4⟩:=hp p hp''
  refine⟨q1,I.hok.fresh q2,q3,fun z=>?_,q4⟩
  obtain⟨_,o,ho',_⟩:=I.stack.mem z
  exact absurd (Nat.lt_of_lt_of_le (Heap.lt_size ho') q2) (Nat.lt_irrefl _)
end
def zeL(K:PySem.W.Frag)(J:It)(c:St)(tc:TT)(te:TE)(H1:Hp)(fin:List V→Hp→Prop):Prop :=
 ∃W:Nat→Nat→List V→Hp→Prop,(∃m,W 0 m [] H1)∧∀i m ys H,W i m ys H →
  (J.stop i H∧ys.length≤sizeLine∧fin ys H) ∨
  (J.go i H∧ys.length<sizeLine∧∃N:List V→Hp→Prop,(∀ys' H',N ys' H'→∃m',m'<m∧W (i+1) m' ys' H')∧∀x H',J.yld i H x H'→∃t a b,x=.ref t∧SqT K H' t [a,b]∧tc (some a::some b::c) H' fun d H2=>if d=true then te (some a::some b::c) H2 fun y H3=>N (ys ++ [y]) H3 else N ys H2)
def tComp2(K:PySem.W.Frag)(ix:List Nat)(wi:TI)(tc:TT)(te:TE):TE:=fun σ H Q=>wi σ H fun J H1=>zeL K J (cap ix σ) tc te H1 fun ys H2=>∀l,H2 l=none→Q (.ref l) (upd H2 l (.lst ys))
section
variable {X:Cx} {x x2:Str} {fr:List Str} {ix:List Nat} {scope:Scope} {elt iter:Expr} {ifs:List Expr} {px px2 tp pos:Pos} {tk:Nat} {wi:TI} {tc:TT} {te:TE}
theorem zfr{use:Option (Value→Sem Unit)}{Q:Value→Shared→Prop}{pins:List (Addr × Obj)}{s2:Shared}{σ:St}{H2:Hp}{it:Addr}{fp:List Addr}{tn:Nat→Heap→Prop}{J:It}{cl:List (Str × Addr)}(S:CompScope2 X.env.scope X.N x x2 fr ix scope)(hc:X.calm=true)
 (hif:∀cl C s2 H2 fp,PIf (blk X (x::x2::fr) scope cl C s2 H2 fp) ifs tc) (he:∀cl C s2 H2 fp,PE (blk X (x::x2::fr) scope cl C s2 H2 fp) elt te)
 (h1:∀y c,cl.lookup y=some c→X.env.cells.lookup y=some c) (h2:∀y,(y,NameKind.free)∈scope.names→∃c,cl.lookup y=some c)
 (I2:Inv X pins σ H2 s2) (T:Turn X.prog X.w X.K (.Tuple [.Name x px,.Name x2 px2] tk tp) J fp it tn) (st2:tn 0 s2.heap) (f2:∀b∈fp,zai X pins H2 b) {fin:List V→Hp→Prop} (wc:zeL X.K J (cap ix σ) tc te H2 fin)
 (hQ:∀(D C:Addr) (ys:List V) (H':Hp) (s':Shared) (m:Str→Option Value),Inv X pins σ (upd H' D (.lst ys)) s'→H' D=none→s'.heap.Ns C m→D≠C→s2.heap.objs.size≤C→H' C=none→fin ys H' →
   compPost (model X.prog X.w) X.A X.xe use Q (.ref D) C (.ok .next) s') :
 wpAny (model X.prog X.w) X.A (newList []) (fun acc s₃=>wpAny (model X.prog X.w) X.A (newFunctionEnv scope X.env.globals cl [] X.env.qual none .none (some X.env)) (fun cenv s₄ =>
  codeAny (model X.prog X.w) X.A (.compStart (.ListComp elt [⟨.Tuple [.Name x px,.Name x2 px2] tk tp,iter,ifs,0⟩] scope pos) 0 (.ref it) acc { cenv with scope:=relabel scope X.env }) (compPost (model X.prog X.w) X.A X.xe use Q acc cenv.locals) s₄) X.xe s₃) X.xe s2:=by
 have hfo:∀b∈fp,b<s2.heap.objs.size:=fun b hb=>by
  obtain⟨o,e,_⟩:=T.obj 0 _ st2 b hb
  exact Heap.lt_size e
 refine wpAny_newObj_type (wpAny_newFunctionEnv S.nocell (by intro y hy;simp at hy) (fun h₁ hns₁ hsb₁=>?_) S.kind)
 dsimp only at hns₁ hsb₁ ⊢
 generalize hHp:s2.heap.push { cls:=.type "list",dict:=none,data:=.seq ([]:List Value).toArray }=Hp2 at hns₁ hsb₁ ⊢
 have hCs:Hp2.objs.size=s2.heap.objs.size+1:=by rw[← hHp,Heap.size_push]
 have hDC:s2.heap.objs.size≠Hp2.objs.size:=by rw[hCs];exact Nat.ne_of_lt (Nat.lt_succ_self _)
 have hCle:s2.heap.objs.size≤Hp2.objs.size:=by rw[hCs];exact Nat.le_succ _
 have zhb:∀b,b<s2.heap.objs.size→b≠Hp2.objs.size:=fun b hb=>by rw[hCs];exact Nat.ne_of_lt (Nat.lt_succ_of_lt hb)
 have old:∀b o,s2.heap.get? b=some o→h₁.get? b=some o:=fun b o e=>hsb₁.extBut b o (zhb b (Heap.lt_size e)) (Heap.get?_push_of_some _ (hHp ▸ Heap.get?_push_of_some _ e))
 have hacc:h₁.get? s2.heap.objs.size=some { cls:=.type "list",data:=.seq ([]:List Value).toArray 0 }:=hsb₁.extBut _ _ hDC (Heap.get?_push_of_some _ (hHp ▸ Heap.get?_push_size _ rfl))
 have st1:tn 0 h₁:=T.keep 0 _ _ st2 fun b _ o e=>old b o e
 have fpD:∀b∈fp,b≠s2.heap.objs.size:=fun b hb=>Nat.ne_of_lt (hfo b hb)
 generalize hD:s2.heap.objs.size=D at hacc hDC fpD ⊢
 have hDle:s2.heap.objs.size≤D:=Nat.le_of_eq hD
 generalize hC:Hp2.objs.size=C at hns₁ hsb₁ hDC hCle ⊢
 have oldD:∀b o,s2.heap.get? b=some o→b≠D:=fun b o e z=>absurd (Heap.lt_size e) (by rw[z,← hD];exact Nat.lt_irrefl _)
 obtain⟨W,⟨m0,w0⟩,turn⟩:=wc
 have loop:∀s₃:Shared,s₃={ s2 with heap:=h₁,toks:=s2.toks+([]:List (Str × Value)).length } →
  codeAny (model X.prog X.w) X.A (.compLoop (.ListComp elt [⟨.Tuple [.Name x px,.Name x2 px2] tk tp,iter,ifs,0⟩] scope pos) 0 (.ref it) (.ref D) (compEnvC scope cl C X.env))
   (compPost (model X.prog X.w) X.A X.xe use Q (.ref D) C) s₃:=by
  rintro s₃ rfl
  have I0:Inv (blk X (x::x2::fr) scope cl C s2 H2 fp) [(D,{ cls:=.type "list",data:=.seq ([]:List Value).toArray 0 })] (none::none::cap ix σ) H2 { s2 with heap:=h₁,toks:=s2.toks+([]:List (Str × Value)).length } :=
   blk_inv2 S I2 f2 hfo hCle h1 h2 rfl rfl old hns₁ (fun p hp=>by
    have e:p=(D,{ cls:=.type "list",data:=.seq ([]:List Value).toArray 0 }):=by simpa using hp
    subst e
    exact⟨hacc,hDle,hDC,fun v z=>by cases z⟩)
  have stat:∀{its:Obj} {H':Hp},(∀b∈fp,H' b=none)→∀b∈fp,zai (blk X (x::x2::fr) scope cl C s2 H2 fp) [(D,its)] H' b:=fun {its H'} hn b hb=>by
   refine⟨hn b hb,fun z=>?_,fun z=>(I0.ok.exfs b hb z),.inl hb,fun y c e=>(I0.ok.exf b hb).2 y c e,fun p hp z=>?_⟩
   ·exact(I0.ok.exf b hb).1 z
   ·have e:p=(D,its):=by simpa [blk] using hp
    subst e
    exact fpD b hb (Eq.symm z)
  refine zcQ (env:=compEnvC scope cl C X.env)
   (fun n s'=>∃i ys its k v0 v1 H',zA ys its∧Inv (blk X (x::x2::fr) scope cl C s2 H2 fp) [(D,{ cls:=.type "list",data:=.seq its.toArray k })] (v0::v1::cap ix σ) H' s'∧tn i s'.heap∧(∀b∈fp,H' b=none)∧W i n ys H') ?_ m0
   ⟨0,[],[],0,none,none,H2,.nil,I0,st1,fun b hb=>(f2 b hb).1,w0⟩
  rintro n s3 ⟨i,ys,its,k,v0,v1,H3,rv,I3,st3,fr3,w3⟩
  rcases turn i n ys H3 w3 with⟨stop,hz,hfin⟩ | ⟨go,hz,N,hN,step⟩
  ·refine thn (T.done (blk X (x::x2::fr) scope cl C s2 H2 fp) rfl rfl rfl hc i _ s3 _ H3 _ I3 (stat fr3) st3 stop) fun r s4 ⟨hr,I4⟩=>?_
   subst hr
   have pD:=I4.pin (D,{ cls:=.type "list",data:=.seq its.toArray k }) (by simp[blk])
   obtain⟨mC,hnC,_⟩:=I4.loc
   have hH3D:H3 D=none:=pD.2.1
   have hok':HOk X.prog X.w (upd H3 D (.lst ys)) s4.heap:=fun b u e=>by
    by_cases hb:b=D
    ·subst hb
     rw[zf] at e;cases e
     exact⟨hz,its,k,rv,pD.1⟩
    ·rw[zj hb] at e
     exact(I4.hok b u e).stay (fun c v _ q=>q) (fun c q=>by rw[zj (zq q hH3D)];exact q) fun c xs q=>by rw[zj (zq q hH3D)];exact q
   have b4:Un (frs X.stack) fp H2 H3 s2.heap s4.heap:=I4.base
   have un:Un (frs X.stack) fp H2 (upd H3 D (.lst ys)) s2.heap s4.heap :=
    ⟨b4.keep,b4.slot,fun b o q n hx=>by
     rw[zj (oldD b o q)];exact b4.free b o q n hx,b4.there,fun b xs q=>by rw[zj (zq (b4.tups b xs q) hH3D)];exact b4.tups b xs q,
     fun b o u q=>by rw[zj (zq (b4.frzs b o u q) hH3D)];exact b4.frzs b o u q,fun b ps q=>by
      obtain⟨more,e⟩:=b4.tbls b ps q
      exact⟨more,by rw[zj (zq e hH3D)];exact e⟩⟩
   have I5:Inv X pins σ (upd H3 D (.lst ys)) s4:=I2.call' (ch:=fp) I4.os un hok' I4.bare fun b hb=>by
    obtain⟨g0,g1,g2,g3,g4,g5⟩:=f2 b hb
    exact⟨g3,g1,g4,g5⟩
   exact hQ D C ys H3 s4 mC I5 hH3D hnC hDC hCle I4.free hfin
  ·refine thn (T.item (blk X (x::x2::fr) scope cl C s2 H2 fp) rfl rfl rfl hc i _ s3 _ H3 _ I3 (stat fr3) st3 go) fun r s4 ⟨u,hr,h4⟩=>?_
   subst hr
   refine thn h4 fun _ s5 ⟨y,H5,I5,r5,y5,st5,fr5⟩=>?_
   have I5':=I5.pinned (stat fr5) (T.obj _ _ st5)
   have pg:PG (blk X (x::x2::fr) scope cl C s2 H2 fp) (.Tuple [.Name x px,.Name x2 px2] tk tp) (gTup X.K 2 (gCons (zej 0) (gCons (zej 1) gNil))) :=
    pg_tup hc (zcN (wb S.nd rfl (.inl (lookup_relabel_local S.lx)) (.inr (lookup_relabel_local S.lx))) (zcN (wb S.nd rfl (.inl (lookup_relabel_local S.lx2)) (.inr (lookup_relabel_local S.lx2))) zib))
   obtain⟨t5,y1,y2,ey,ht5,q5⟩:=step y _ y5
   refine thn (pg _ s5 _ H5 y u (fun σ6 H6=>σ6=some y1::some y2::cap ix σ∧H6=H5) I5' r5 ⟨t5,_,ey,ht5,rfl,_,_,rfl,_,_,rfl,rfl,rfl,rfl⟩) fun _ s6 ⟨σ6,H6,I6,e6,e6'⟩=>?_
   subst e6 e6'
   refine thn (hif cl C s2 H2 fp _ s6 _ _ _ I6 q5) fun b s7 ⟨H7,I7,q7⟩=>?_
   have again:∀{s8:Shared} {H8:Hp} {its':List Value} {k':Nat} {ys':List V},zA ys' its'→Inv (blk X (x::x2::fr) scope cl C s2 H2 fp) [(D,{ cls:=.type "list",data:=.seq its'.toArray k' })] (some y1::some y2::cap ix σ) H8 s8→(∀b∈fp,∀o,s5.heap.get? b=some o→s8.heap.get? b=some o)→(∀b∈fp,H8 b=none)→N ys' H8 →
    ∃m,m<n∧∃i ys its k v0 v1 H',zA ys its∧Inv (blk X (x::x2::fr) scope cl C s2 H2 fp) [(D,{ cls:=.type "list",data:=.seq its.toArray k })] (v0::v1::cap ix σ) H' s8∧tn i s8.heap∧(∀b∈fp,H' b=none)∧W i m ys H' :=
    fun {s8 H8 its' k' ys'} rv8 I8 kp fr8 nn=>let ⟨m',hm,w8⟩:=hN ys' H8 nn;⟨m',hm,i+1,ys',its',k',some y1,some y2,H8,rv8,I8,T.keep _ _ _ st5 kp,fr8,w8⟩
   cases b with
   | false =>
     rw[if_neg Bool.false_ne_true] at q7 ⊢
     refine again rv I7.unpinned (fun b hb o e=>(I7.pin (b,o) (by simp[blk];exact .inr (y8 hb e))).1) (fun b hb=>?_) q7
     obtain⟨o,e,d⟩:=T.obj _ _ st5 b hb
     exact(I7.pin (b,o) (by simp[blk];exact .inr (y8 hb e))).2.1
   | true =>
     rw[if_pos rfl] at q7 ⊢
     refine thn (he cl C s2 H2 fp _ s7 _ _ _ I7 q7) fun v s8 ⟨z,H8,I8,r8,q8⟩=>?_
     have pD:=I8.pin (D,{ cls:=.type "list",data:=.seq its.toArray k }) (by simp[blk])
     have hvl:ys.length=its.length:=rv.length
     refine append_at (hsz:=by show its.toArray.size≤sizeLine;rw[List.size_toArray];omega) pD.1 fun h₉ hs₉ hD₉=>?_
     have eo:({ cls:=.type "list",data:=.seq (its.toArray.push v) (k+1) }:Obj)={ cls:=.type "list",data:=.seq (its ++ [v]).toArray (k+1) }:=by rw[List.push_toArray]
     rw[eo] at hD₉
     have pn8:∀b∈fp,∀o,s5.heap.get? b=some o→s8.heap.get? b=some o∧H8 b=none:=fun b hb o e=>by
      have q:=I8.pin (b,o) (by simp[blk];exact .inr (y8 hb e))
      exact⟨q.1,q.2.1⟩
     have J8:=I8.unpinned.pins_of (pins' := []) (fun p hp=>by cases hp)
     have f2D:zai (blk X (x::x2::fr) scope cl C s2 H2 fp) [] H8 D:=⟨pD.2.1,pD.2.2.1,pD.2.2.2.1,.inr hDle,fun y c e z=>by
      obtain⟨v,o,ho,_⟩:=I2.cell y c (h1 y c e)
      exact oldD c o ho z,fun p hp=>by cases hp⟩
     have I9:Inv (blk X (x::x2::fr) scope cl C s2 H2 fp) [] (some y1::some y2::cap ix σ) H8 { s8 with heap:=h₉ }:=J8.turned (t':=s8.toks) (it:=D) (fun b o hb e=>(hs₉.2 b hb).trans e) f2D.1 f2D.2.1 f2D.2.2.2.1 f2D.2.2.2.2.1 f2D.2.2.2.2.2
     refine again (its':=its ++ [v]) (k':=k+1) (ys':=ys ++ [z]) (rv.append (.cons r8 .nil)) (I9.pins_of fun p hp=>?_) (fun b hb o e=>(hs₉.2 b (fpD b hb)).trans (pn8 b hb o e).1) (fun b hb=>?_) q8
     ·have e:p=(D,{ cls:=.type "list",data:=.seq (its ++ [v]).toArray (k+1) }):=by simpa using hp
      subst e
      exact⟨hD₉,f2D.1,f2D.2.1,f2D.2.2.1,fun v z=>by cases z⟩
     ·obtain⟨o,e,d⟩:=T.obj _ _ st5 b hb
      exact(pn8 b hb o e).2
 exact codeAny_compStart_list (loop _ rfl) (T.self X.A 0 _ _ _ st1 (loop _ rfl))
theorem pe_comp2(S:CompScope2 X.env.scope X.N x x2 fr ix scope)(hc:X.calm=true)(hi:PI X (.Tuple [.Name x px,.Name x2 px2] tk tp) iter wi)(hif:∀cl C s2 H2 fp,PIf (blk X (x::x2::fr) scope cl C s2 H2 fp) ifs tc)(he:∀cl C s2 H2 fp,PE (blk X (x::x2::fr) scope cl C s2 H2 fp) elt te)
 (hs:∀x,foldedSetIterable iter X.env x=pure x:=by intro _;rfl):PE X (.ListComp elt [⟨.Tuple [.Name x px,.Name x2 px2] tk tp,iter,ifs,0⟩] scope pos) (tComp2 X.K ix wi tc te):=by
 intro pins s σ H Q I h
 obtain⟨cl,ecl,h1,h2⟩:=zbB (env:=X.env) (scope:=scope) fun y hy hf=>I.ok.has y.1 (S.free y hy hf)
 rw[eval_ListComp]
 refine wpAny_comprehension_free (use:=none) rfl hs ecl S.kind S.lcl (thn (hi pins s σ H _ I h) fun xv s1 q1=>thn q1 fun itv s2 q2=>?_)
 obtain⟨it,fp,tn,J,H2,rfl,I2,T,st2,f2,wc⟩:=q2
 refine zfr S hc hif he h1 h2 I2 T st2 f2 wc fun D C ys H' s' m I' hD hn hDC hC hHC fin=>?_
 refine⟨m,hn,fun h' sb=>⟨.ref D,upd H' D (.lst ys),?_,rfl,fin D hD⟩⟩
 have hcf:zai X pins (upd H' D (.lst ys)) C:=by
  have z:=I2.fpOk (H':=upd H' D (.lst ys)) hC (by rw[zj (Ne.symm hDC)];exact hHC)
  exact z
 exact I'.turned (t':=s'.toks) (it:=C) (fun b o hb e=>(sb.2 b hb).trans e) hcf.1 hcf.2.1 hcf.2.2.2.1 hcf.2.2.2.2.1 hcf.2.2.2.2.2
theorem zgB{i:Nat}{y:Str}{py spos:Pos}(S:CompScope2 X.env.scope X.N x x2 fr ix scope)(hc:X.calm=true)(hN:X.N.Nodup)(hiy:X.N[i]? = some y)(hy:Loc X.env.scope y)(hi:PI X (.Tuple [.Name x px,.Name x2 px2] tk tp) iter wi)(hif:∀cl C s2 H2 fp,PIf (blk X (x::x2::fr) scope cl C s2 H2 fp) ifs tc)(he:∀cl C s2 H2 fp,PE (blk X (x::x2::fr) scope cl C s2 H2 fp) elt te)
 (hsw:swapsWith (.ListComp elt [⟨.Tuple [.Name x px,.Name x2 px2] tk tp,iter,ifs,0⟩] scope pos) (some (.Name y py)) spos.line X.env=pure true:=by rfl)
 (hf:X.fn y=true∨X.env.scope.names.lookup y=some .local:=by first | exact .inl rfl | exact .inr rfl | assumption)
 (hs:∀x,foldedSetIterable iter X.env x=pure x:=by intro _;rfl) :
 PS X (.Assign [.Name y py] (.ListComp elt [⟨.Tuple [.Name x px,.Name x2 px2] tk tp,iter,ifs,0⟩] scope pos) spos) (tAsg (tComp2 X.K ix wi tc te) (zej i)):=by
 intro pins s σ H Dn I h
 obtain⟨cl,ecl,h1,h2⟩:=zbB (env:=X.env) (scope:=scope) fun y hy hf=>I.ok.has y.1 (S.free y hy hf)
 rw[exec_Assign_Name_used _ _ _ _ hsw]
 refine wpAny_bind (wpAny_standAt (wpAny_bind ?_))
 show wpAny _ X.A (do let _ ← comprehension (.ListComp elt [⟨.Tuple [.Name x px,.Name x2 px2] tk tp,iter,ifs,0⟩] scope pos) scope X.env _ (newList []) false (eval iter X.env) (some (assign (.Name y py) X.env))) _ _ s
 refine wpAny_bind (thn (Q:=fun _ s'=>SP X pins Dn .next s') ?_ fun _ s' q=>wpAny_pure (wpAny_pure q))
 refine wpAny_comprehension_free (use:=some (assign (.Name y py) X.env)) rfl hs ecl S.kind S.lcl (thn (hi pins s σ H _ I h) fun xv s1 q1=>thn q1 fun itv s2 q2=>?_)
 obtain⟨it,fp,tn,J,H2,rfl,I2,T,st2,f2,wc⟩:=q2
 refine zfr S hc hif he h1 h2 I2 T st2 f2 wc fun D C ys H' s' m I' hD hn hDC hC hHC fin=>?_
 have hcf:zai X pins (upd H' D (.lst ys)) C:=I2.fpOk (H':=upd H' D (.lst ys)) hC (by rw[zj (Ne.symm hDC)];exact hHC)
 show wpAny _ X.A (assign (.Name y py) X.env (.ref D)) _ _ s'
 refine wpAny_assign_Name (zdp (v:=V.ref D) I' hN hiy hy rfl (fun s'' I'' hsb=>?_) hf)
 obtain⟨a,sb,ha⟩:=hsb
 have hCa:C≠a:=fun z=>by
  rcases ha with q | q
  ·exact hcf.2.1 (z.trans q)
  ·exact hcf.2.2.2.2.1 y a q z.symm
 refine⟨m,hn.sameBut sb hCa,fun h' sb'=>⟨_,_,I''.turned (t':=s''.toks) (it:=C) (fun b o hb e=>(sb'.2 b hb).trans e) hcf.1 hcf.2.1 hcf.2.2.2.1 hcf.2.2.2.2.1 hcf.2.2.2.2.2,fin D hD⟩⟩
end
end L2
namespace L2
open PySem PySem.W PySem.Spec PyProof.Rows PySem.Calls
section
variable {X:Cx} {pins:List (Addr × Obj)} {σ:St} {H:Hp} {s:Shared} {h':Heap} {t':Nat} {ch:List Addr}
theorem Inv.movedF(I:Inv X pins σ H s)(o:∀c∈ch,zai X pins H c)(k:∀b u,b∉ch→s.heap.get? b=some u→h'.get? b=some u):Inv X pins σ H { s with heap:=h',toks:=t' }:=by
 have nit:∀b u,H b=some u→b∉ch:=fun b u e z=>by rw[(o b z).1] at e;cases e
 have nL:X.env.locals∉ch:=fun z=>(o _ z).2.1 rfl
 refine I.step (g':=s.gens) (d':=s.drawn) (ch:=ch) (fun b hb=>⟨(o b hb).2.2.2.1,(o b hb).2.1,(o b hb).2.2.2.2.1,(o b hb).2.2.2.2.2⟩) (fun b u _ _ hc e _=>k b u hc e) (fun b u _ _ hc e _=>⟨u.slots,k b u hc e⟩)
  (fun _ _ _ _ n=>n) (fun b u hc e=>⟨u,k b u hc e⟩) (fun _ _ e=>e) (fun _ _ _ e=>e) (fun b ps e=>⟨#[],by rw[e];simp⟩) (fun m hm=>?_) (fun b u e=>?_) I.bare
 ·obtain⟨ob,es,ep,ho,r⟩:=hm
  exact⟨ob,es,ep,k _ ob nL ho,r⟩
 ·refine(I.hok b u e).stay (fun c v hc q=>k c v ?_ q) (fun _ q=>q) fun _ _ q=>q
  rcases hc with z | z
  ·rw[z];exact nit b u e
  ·exact nit c _ z
theorem Inv.movedFT{T:Addr}{v:HO}(I:Inv X pins σ H s)(o:∀c∈ch,zai X pins H c)(k:∀b u,b∉ch→s.heap.get? b=some u→h'.get? b=some u)(hT:s.heap.objs.size≤T)(new:yF X.prog X.w (upd H T v) h' T v):
 Inv X pins σ (upd H T v) { s with heap:=h',toks:=t' }:=by
 have hf:H T=none:=I.hok.fresh hT
 have nit:∀b u,H b=some u→b∉ch:=fun b u e z=>by rw[(o b z).1] at e;cases e
 have nL:X.env.locals∉ch:=fun z=>(o _ z).2.1 rfl
 have up:∀b u,H b=some u→upd H T v b=some u:=fun b u e=>by rw[zj (zq e hf)];exact e
 refine I.step (g':=s.gens) (d':=s.drawn) (ch:=ch) (fun b hb=>⟨(o b hb).2.2.2.1,(o b hb).2.1,(o b hb).2.2.2.2.1,(o b hb).2.2.2.2.2⟩) (fun b u _ _ hc e _=>k b u hc e) (fun b u _ _ hc e _=>⟨u.slots,k b u hc e⟩)
  (fun b u _ e n=>?_) (fun b u hc e=>⟨u,k b u hc e⟩) (fun b _ e=>up b _ e) (fun b _ _ e=>up b _ e) (fun b ps e=>⟨#[],by rw[up b _ e];simp⟩) (fun m hm=>?_) (fun b u e=>?_) I.bare
 ·rw[zj (fun z=>by rw[z] at e;exact absurd (Heap.lt_size e) (Nat.not_lt.mpr hT))];exact n
 ·obtain⟨ob,es,ep,ho,r⟩:=hm
  exact⟨ob,es,ep,k _ ob nL ho,r⟩
 ·by_cases hb:b=T
  ·subst hb
   rw[zf] at e
   cases e
   exact new
  ·rw[zj hb] at e
   refine(I.hok b u e).stay (fun c w hc q=>k c w ?_ q) (fun c q=>up c _ q) fun c _ q=>up c _ q
   rcases hc with z | z
   ·rw[z];exact nit b u e
   ·exact nit c _ z
end
def Itz(K:Frag)(l1 l2:Addr):It :=
 ⟨fun i H=>∃xs ys x y,SqL K H l1 xs∧SqL K H l2 ys∧xs[i]? = some x∧ys[i]? = some y,
  fun i H v H'=>∃t x y,v=.ref t∧H t=none∧H'=upd H t (.tup [x,y])∧(∀xs,SqL K H l1 xs→xs[i]? = some x)∧∀ys,SqL K H l2 ys→ys[i]? = some y,
  fun i H=>∃xs ys,SqL K H l1 xs∧SqL K H l2 ys∧(xs.length≤i∨ys.length≤i)⟩
theorem turn_zip{P:Program}{w:World}{K:Frag}{elts:List Expr}{k:Nat}{pos:Pos}{z TI TO i1 i2 l1 l2:Addr}(D:ZipApart z TI TO i1 i2 l1 l2):
 Turn P w K (.Tuple elts k pos) (Itz K l1 l2) [z,TI,TO,i1,i2] z (fun i h=>IsZip h z TI TO .none∧IsPair h TI (.ref i1) (.ref i2)∧(∃a b,IsPair h TO a b)∧h.IsListIter i1 l1 i∧h.IsListIter i2 l2 i) where
 mem:=by simp
 obj:=fun i h st b hb=>by
  obtain⟨a1,a2,⟨_,_,a3⟩,⟨o4,e4,c4,d4⟩,⟨o5,e5,c5,d5⟩⟩:=st
  simp only[List.mem_cons,List.not_mem_nil,or_false] at hb
  rcases hb with rfl | rfl | rfl | rfl | rfl
  ·exact⟨_,a1,fun v z=>by cases z⟩
  ·exact⟨_,a2,fun v z=>by cases z⟩
  ·exact⟨_,a3,fun v z=>by cases z⟩
  ·exact⟨_,e4,fun v z=>by rw[d4] at z;cases z⟩
  ·exact⟨_,e5,fun v z=>by rw[d5] at z;cases z⟩
 keep:=fun i h h' st k=>by
  obtain⟨a1,a2,⟨a,b,a3⟩,a4,a5⟩:=st
  exact⟨k _ (by simp) _ a1,k _ (by simp) _ a2,⟨a,b,k _ (by simp) _ a3⟩,a4.at fun o e=>k _ (by simp) o e,a5.at fun o e=>k _ (by simp) o e⟩
 item:=by
  intro X hP hw hK hc i pins s σ H E I hf st hg
  subst hP hw hK
  obtain⟨xs,ys,x,y,q1,q2,hx,hy⟩:=hg
  obtain⟨hz,hTI,⟨a,b,hTO⟩,h1,h2⟩:=st
  obtain⟨us,r1,p1,z1⟩:=I.list q1
  obtain⟨vs,r2,p2,z2⟩:=I.list q2
  obtain⟨u,hu,ru⟩:=r1.get hx
  obtain⟨v,hv,rv⟩:=r2.get hy
  have nTI:TI ∉ [z,TO,i1,i2]:=by simp[D.TIz,D.TITO,D.TIi1,D.TIi2]
  have ff:∀c ∈ [z,TO,i1,i2],zai X pins H c:=fun c hc=>hf c (by simp only[List.mem_cons,List.not_mem_nil,or_false] at hc ⊢;rcases hc with e | e | e | e <;> simp[e])
  refine wpAny_pyNext_zip_item D hz hTI hTO h1 h2 p1.isList p2.isList (by simpa using hu) (by simpa using hv) fun h' a1 a2 a3 a4 a5 a6 hk=>?_
  have kk:∀c o,c ∉ [z,TO,i1,i2]→s.heap.get? c=some o→h'.get? c=some o:=fun c o hc e=>hk c o (fun w=>hc (by simp[w])) (fun w=>hc (by simp[w])) (fun w=>hc (by simp[w])) (fun w=>hc (by simp[w])) e
  have I1:Inv X pins σ (upd H s.heap.objs.size (.tup [x,y])) { s with heap:=h' }:=I.movedFT (t':=s.toks) ff kk (Nat.le_refl _) ⟨by show 2≤sizeLine;decide,[u,v],.cons ru (.cons rv .nil),_,a5,rfl,_,rfl⟩
  refine⟨_,rfl,wpAny_letOwnedTupleGo_zip a1 fun h2' hz' hs'=>?_⟩
  have lt:∀c ∈ [z,TI,TO,i1,i2],c≠s.heap.objs.size:=fun c hc=>by
   have:∃o,s.heap.get? c=some o:=by
    simp only[List.mem_cons,List.not_mem_nil,or_false] at hc
    rcases hc with rfl | rfl | rfl | rfl | rfl
    ·exact⟨_,hz⟩
    ·exact⟨_,hTI⟩
    ·exact⟨_,hTO⟩
    ·obtain⟨o,e,_⟩:=h1;exact⟨o,e⟩
    ·obtain⟨o,e,_⟩:=h2;exact⟨o,e⟩
   obtain⟨o,e⟩:=this
   exact Nat.ne_of_lt (Heap.lt_size e)
  have fz:zai X pins (upd H s.heap.objs.size (.tup [x,y])) z:=by
   obtain⟨f0,f1⟩:=hf z (by simp)
   exact⟨by rw[zj (lt z (by simp))];exact f0,f1⟩
  have I2:Inv X pins σ (upd H s.heap.objs.size (.tup [x,y])) { s with heap:=h2' }:=Inv.movedF (s:={ s with heap:=h' }) (t':=s.toks) (ch := [z]) I1 (fun c hc=>by rw[List.mem_singleton.mp hc];exact fz) fun c o hc e=>hs'.extBut c o (fun w=>hc (by simp[w])) e
  refine⟨.ref s.heap.objs.size,_,I2,rfl,⟨_,x,y,rfl,I.hok.fresh (Nat.le_refl _),rfl,fun xs' q=>?_,fun ys' q=>?_⟩,⟨hz',hs'.extBut _ _ D.TIz (kk _ _ nTI hTI),⟨_,_,hs'.extBut _ _ D.TOz a2⟩,a3.extBut hs'.extBut D.i1z,a4.extBut hs'.extBut D.i2z⟩,fun c hc=>?_⟩
  ·rw[I.list_inj q q1];exact hx
  ·rw[I.list_inj q q2];exact hy
  ·rw[zj (lt c hc)];exact(hf c hc).1
 done:=by
  intro X hP hw hK hc i pins s σ H E I hf st hg
  subst hP hw hK
  obtain⟨xs,ys,q1,q2,hend⟩:=hg
  obtain⟨hz,hTI,⟨a,b,hTO⟩,h1,h2⟩:=st
  obtain⟨us,r1,p1,z1⟩:=I.list q1
  obtain⟨vs,r2,p2,z2⟩:=I.list q2
  have l1':=r1.length
  have l2':=r2.length
  have ff:∀c ∈ [z,TO,i1,i2],zai X pins H c:=fun c hc=>hf c (by simp only[List.mem_cons,List.not_mem_nil,or_false] at hc ⊢;rcases hc with e | e | e | e <;> simp[e])
  refine wpAny_pyNext_zip_end (I.ok.hd hc) D hz hTI hTO h1 h2 p1.isList p2.isList ?_ fun h' hk=>⟨rfl,I.movedF (t':=s.toks) ff fun c o hc e=>hk c o (fun w=>hc (by simp[w])) (fun w=>hc (by simp[w])) (fun w=>hc (by simp[w])) (fun w=>hc (by simp[w])) e⟩
  rcases hend with h | h
  ·exact .inl (by simp;omega)
  ·exact .inr (by simp;omega)
 self:=fun _ _ _ _ _ st h=>wpAny_pyIter_zip st.1 h
def iZip(K:Frag)(ta:TA):TI:=fun σ H R=>ta σ H fun vs H1=>∃l1 l2 xs ys,vs = [.ref l1,.ref l2]∧SqL K H1 l1 xs∧SqL K H1 l2 ys∧R (Itz K l1 l2) H1
section
variable {X:Cx} {ex ey:Expr} {t:TA} {p pos tp:Pos} {elts:List Expr} {tk:Nat}
theorem pi_zip(hg:Gl X "zip")(hm:X.mg "zip" = none)(ha:PA X [ex,ey] t)(he:starEach [ex,ey] X.env=(false,eval ex X.env)::starEach [ey] X.env:=by rfl)(hpl:(backTo pos (starEach [ey] X.env)).any (·.1)=false:=by rfl):
 PI X (.Tuple elts tk tp) (.Call (.Name "zip" p) [ex,ey] [] pos) (iZip X.K t):=by
 intro pins s σ H R I h
 refine wpAny_Call_Name_kw (zat I hg hm boot_zip ?_ (by decide) (by decide))
 refine PyProof.Rows.callWith_type1 (thn (ha pos pins s σ H _ I h) fun us s1 hh=>?_) he hpl
 obtain⟨vs,H1,I1,r1,l1,l2,xs,ys,rfl,q1,q2,q⟩:=hh
 cases r1 with
 | cons e1 r=>cases r with
   | cons e2 r =>
     cases r
     cases e1
     cases e2
     obtain⟨us,r1,p1,_⟩:=I1.list q1
     obtain⟨ws,r2,p2,_⟩:=I1.list q2
     have b1:=p1.isList
     have b2:=p2.isList
     have t1:l1<s1.heap.objs.size:=by obtain⟨u,hu,_⟩:=b1;exact Heap.lt_size hu
     have t2:l2<s1.heap.objs.size:=by obtain⟨u,hu,_⟩:=b2;exact Heap.lt_size hu
     refine call_zip_2 b1 b2 fun h' hz hTI hTO hi1 hi2 hsz hk=>?_
     have n:∀(l:Addr) (d:Nat),l<s1.heap.objs.size→l≠s1.heap.objs.size+d:=fun l d h=>Nat.ne_of_lt (Nat.lt_of_lt_of_le h (Nat.le_add_right _ _))
     have m:∀d e:Nat,d≠e→s1.heap.objs.size+d≠s1.heap.objs.size+e:=fun d e h w=>h (Nat.add_left_cancel w)
     refine wpAny_pyIter_zip hz ?_
     refine⟨s1.heap.objs.size+4,[s1.heap.objs.size+4,s1.heap.objs.size+2,s1.heap.objs.size+3,s1.heap.objs.size+0,s1.heap.objs.size+1],_,Itz X.K l1 l2,H1,rfl,I1.kept (t':=s1.toks) hk,
      turn_zip (i1:=s1.heap.objs.size+0) (i2:=s1.heap.objs.size+1) (TI:=s1.heap.objs.size+2) (TO:=s1.heap.objs.size+3) (l1:=l1) (l2:=l2) ⟨m 2 4 (by decide),m 3 4 (by decide),m 0 4 (by decide),m 1 4 (by decide),m 2 3 (by decide),m 2 0 (by decide),m 2 1 (by decide),m 3 0 (by decide),m 3 1 (by decide),m 0 1 (by decide),n _ 4 t1,n _ 3 t1,n _ 0 t1,n _ 1 t1,n _ 4 t2,n _ 3 t2,n _ 0 t2,n _ 1 t2⟩,
      ⟨hz,hTI,⟨_,_,hTO⟩,hi1,hi2⟩,fun b hb=>?_,q⟩
     have hb':∃d,b=s1.heap.objs.size+d:=by
      simp only[List.mem_cons,List.not_mem_nil,or_false] at hb
      rcases hb with w | w | w | w | w
      ·exact⟨4,w⟩
      ·exact⟨2,w⟩
      ·exact⟨3,w⟩
      ·exact⟨0,w⟩
      ·exact⟨1,w⟩
     obtain⟨d,rfl⟩:=hb'
     exact I1.fpOk (Nat.le_add_right _ _) (I1.hok.fresh (Nat.le_add_right _ _))
end
theorem for_zip{K:Frag}{l1 l2:Addr}{xs ys:List V}{g:TG}{tb:TS}{D:Ends}{σ:St}{H:Hp}(Pv:Nat→St→Hp→Prop)(h0:Pv 0 σ H)(hl:∀i σ H,i≤min xs.length ys.length→Pv i σ H→SqL K H l1 xs∧SqL K H l2 ys)
 (hs:∀i x y t σ H,xs[i]? = some x→ys[i]? = some y→H t=none→Pv i σ H→g (.ref t) σ (upd H t (.tup [x,y])) fun σ2 H2=>tb { D with nx:=Pv (i+1),ct:=Pv (i+1),bk:=D.nx } σ2 H2) (hd:∀σ H,Pv (min xs.length ys.length) σ H→D.nx σ H) :
 ∃W:Nat→Nat→St→Hp→Prop,(∃m,W 0 m σ H)∧∀i m σ H,W i m σ H →
  ((Itz K l1 l2).stop i H∧D.nx σ H)∨((Itz K l1 l2).go i H∧∃N:St→Hp→Prop,(∀σ' H',N σ' H'→∃m',m'<m∧W (i+1) m' σ' H')∧∀x H',(Itz K l1 l2).yld i H x H'→g x σ H' fun σ2 H2=>tb { D with nx:=N,ct:=N,bk:=D.nx } σ2 H2):=by
 refine⟨fun i m σ H=>m=min xs.length ys.length - i∧i≤min xs.length ys.length∧Pv i σ H,⟨min xs.length ys.length,by simp,Nat.zero_le _,h0⟩,?_⟩
 rintro i m σ H ⟨rfl,hi,p⟩
 obtain⟨q1,q2⟩:=hl i σ H hi p
 by_cases hlt:i<min xs.length ys.length
 ·have h1:i<xs.length:=by omega
  have h2:i<ys.length:=by omega
  refine .inr ⟨⟨xs,ys,xs[i],ys[i],q1,q2,by simp[h1],by simp[h2]⟩,Pv (i+1),fun σ' H' p'=>⟨min xs.length ys.length - (i+1),by omega,rfl,hlt,p'⟩,fun v H' y=>?_⟩
  obtain⟨t,x,y,rfl,hn,rfl,e1,e2⟩:=y
  exact hs i x y t σ _ (e1 xs q1) (e2 ys q2) hn p
 ·have e:i=min xs.length ys.length:=by omega
  subst e
  exact .inl ⟨⟨xs,ys,q1,q2,by omega⟩,hd σ H p⟩
end L2
namespace L2
open PySem PySem.W PySem.Spec PyProof.Rows
theorem zhy{K:Frag}{a:Addr}{xs:List V}{c:St}{tc:TT}{te:TE}{H:Hp}{fin:List V→Hp→Prop}(Pv:Nat→List V→Hp→Prop)(h0:Pv 0 [] H)(hl:∀i ys H,i≤xs.length→Pv i ys H→SqL K H a xs∧ys.length≤i)(hz:xs.length≤sizeLine)
 (hs:∀i x ys H,xs[i]? = some x→Pv i ys H→∃t u v,x=.ref t∧SqT K H t [u,v]∧tc (some u::some v::c) H fun b H2=>if b=true then te (some u::some v::c) H2 fun y H3=>Pv (i+1) (ys ++ [y]) H3 else Pv (i+1) ys H2) (hd:∀ys H,Pv xs.length ys H→fin ys H):zeL K (Itl K a) c tc te H fin:=by
 refine⟨fun i m ys H=>m=xs.length - i∧i≤xs.length∧Pv i ys H,⟨xs.length,by simp,Nat.zero_le _,h0⟩,?_⟩
 rintro i m ys H ⟨rfl,hi,p⟩
 obtain⟨q,hy⟩:=hl i ys H hi p
 by_cases hlt:i<xs.length
 ·refine .inr ⟨⟨xs,xs[i],q,by simp[hlt]⟩,by omega,fun ys' H'=>Pv (i+1) ys' H',fun ys' H' p'=>⟨xs.length - (i+1),by omega,rfl,hlt,p'⟩,fun x H' y=>?_⟩
  obtain⟨e,y⟩:=y
  subst e
  exact hs i x ys _ (y xs q) p
 ·have e:i=xs.length:=by omega
  subst e
  exact .inl ⟨⟨xs,q,Nat.le_refl _⟩,by omega,hd ys H p⟩
theorem zgC{K:Frag}{a:Addr}{xs:List V}{c:St}{te:TE}{H:Hp}{fin:List V→Hp→Prop}(Pv:Nat→List V→Hp→Prop)(h0:Pv 0 [] H)(hl:∀i ys H,i≤xs.length→Pv i ys H→SqL K H a xs∧ys.length≤i)(hz:xs.length≤sizeLine)
 (hs:∀i x ys H,xs[i]? = some x→Pv i ys H→∃t u v,x=.ref t∧SqT K H t [u,v]∧te (some u::some v::c) H fun y H3=>Pv (i+1) (ys ++ [y]) H3) (hd:∀ys H,Pv xs.length ys H→fin ys H):zeL K (Itl K a) c zfS te H fin :=
 zhy Pv h0 hl hz (fun i x ys H e p=>let ⟨t,u,v,e1,e2,h⟩:=hs i x ys H e p;⟨t,u,v,e1,e2,zfC (B:=Pv (i+1) ys H) h⟩) hd
end L2
namespace L2
open PySem PySem.W PySem.Spec PyProof.Rows PySem.Calls
def zbz(P:Addr)(q:Str)(H:Hp):Prop:=∃ps,H P=some (.tbl ps)∧TriplesOk ps.toList∧∀pos cv,codeAmong pos ps.toList=some cv→∃c',cv=.ref c'∧H c'=some (zdL c' q)
theorem zbz.new{P:Addr}{q:Str}{H:Hp}(h:H P=some (.tbl #[])):zbz P q H:=⟨#[],h,trivial,fun pos cv e=>by simp[codeAmong] at e⟩
theorem zbz.same{P:Addr}{q:Str}{H H':Hp}(h:zbz P q H)(s:zh H H'):zbz P q H':=by
 obtain⟨ps,h1,h2,h3⟩:=h
 exact⟨ps,s _ _ h1,h2,fun pos cv e=>let ⟨c',e1,e2⟩:=h3 pos cv e;⟨c',e1,s _ _ e2⟩⟩
def zfB:Str:=Str.ofString "by_place" ++ ".<locals>." ++ "<lambda>"
theorem zhJ{pos:Pos}{a b:Int}{c x:Value}:∀(l:List Value),TriplesOk l→codeAmong pos (l ++ [rawInt a,rawInt b,c])=some x→codeAmong pos l=some x∨x=c:=by
 intro l h e
 fun_induction TriplesOk l with
 | case1 =>
   simp only[List.nil_append,codeAmong,rawInt] at e
   split at e
   ·cases e;exact .inr rfl
   ·cases e
 | case2 a' t b' u y zcJ ih =>
   simp only[List.cons_append,codeAmong] at e ⊢
   split at e
   ·rename_i hc;rw[if_pos hc];exact .inl e
   ·rename_i hc;rw[if_neg hc];exact ih h e
 | case3=>exact h.elim
section
variable {X:Cx} {pins:List (Addr × Obj)} {σ:St} {H:Hp} {s:Shared} {E:Value→Shared→Prop}
theorem lam_eval2{params:Arguments}{body:Expr}{scope:Scope}{pos:Pos}{c P:Addr}{Q:Value→Shared→Prop}(I:Inv X pins σ H s)(hL:zbz P (X.env.qual ++ "<lambda>") H)(hcode:X.env.code=.ref c)(C:CodeHd X.base c P)(B:zcR X.mg X.base)
 (hdef:defaultsOf params X.env=([],[])) (hcl:closureFor scope X.env=pure [])
 (q:∀(f c':Addr) (pm ctv:Value) (H3:Hp) (s':Shared),(∀b u,b≠P→s.heap.get? b=some u→s'.heap.get? b=some u)→s.heap.objs.size≤s'.heap.objs.size →
   (∀a,a<s.heap.objs.size→a≠P→H3 a=H a)→H3 f=some (fnO f (kla_obj "<lambda>" (X.env.qual ++ "<lambda>") params body scope [] pm c' ctv))→H3 c'=some (zdL c' (X.env.qual ++ "<lambda>"))→yU H H3→zbz P (X.env.qual ++ "<lambda>") H3→Inv X pins σ H3 s'→Q (.ref f) s') :
 wpAny (model X.prog X.w) X.A (eval (.Lambda params body scope pos) X.env) Q E s:=by
 obtain⟨ps,hP,ht,hh⟩:=hL
 have hb:∀b o,X.base.get? b=some o→b≠P:=fun b o e z=>by have:=(I.bs b o e).2;rw[z,hP] at this;cases this
 have hPg:s.heap.get? P=some (tabObj ps):=I.hok P _ hP
 have hPs:P<s.heap.objs.size:=I.hok.lt hP
 obtain⟨bm,ob,b1,b2,b3,b4,b5,b6⟩:=B
 have hG:mainGlobals≠P:=by obtain⟨o,_,_,e,_⟩:=I.mod.glob;exact hb _ o e
 have hbG:bm≠mainGlobals:=fun z=>by
  obtain⟨o,es,ep,e,hd,_⟩:=I.mod.glob
  rw[z,e] at b3;cases b3;rw[hd] at b6;cases b6
 cases hA:codeAmong pos ps.toList with
 | none =>
   refine kla_eval hdef (kla_makeFunction (ps:=ps) (mg:=X.mg) hcl I.ok.glob (I.mod.glob.keeps I.bk) hcode (C.keeps I.bk) hPg ht hA hG ⟨bm,ob,b1,b2,hbG,hb _ _ b3,I.bk _ _ b3,b4,b5,b6⟩ fun c' ctv h' tk hx hge hlt hrec htb=>?_)
   have J:=I.lam (tk:=tk) (fo:=kla_obj "<lambda>" (X.env.qual ++ "<lambda>") params body scope [] ((X.mg "__name__").getD .none) c' ctv) rfl hP hx hge hlt hrec htb
   have nPc:P≠c':=Nat.ne_of_lt (Nat.lt_of_lt_of_le hPs hge)
   have ncf:c'≠h'.objs.size:=Nat.ne_of_lt hlt
   have nPf:P≠h'.objs.size:=Nat.ne_of_lt (Nat.lt_trans (Nat.lt_of_lt_of_le hPs hge) hlt)
   have old:∀a,a<s.heap.objs.size→a≠P→(upd (upd (upd H P (.tbl (ps ++ #[rawInt ↑pos.line,rawInt ↑pos.col,Value.ref c']))) c' (zdL c' (X.env.qual ++ "<lambda>"))) h'.objs.size (fnO h'.objs.size (kla_obj "<lambda>" (X.env.qual ++ "<lambda>") params body scope [] ((X.mg "__name__").getD .none) c' ctv))) a=H a:=fun a h1 h2=>by
    rw[zj (Nat.ne_of_lt (Nat.lt_trans (Nat.lt_of_lt_of_le h1 hge) hlt)),zj (Nat.ne_of_lt (Nat.lt_of_lt_of_le h1 hge)),zj h2]
   have atP:(upd (upd (upd H P (.tbl (ps ++ #[rawInt ↑pos.line,rawInt ↑pos.col,Value.ref c']))) c' (zdL c' (X.env.qual ++ "<lambda>"))) h'.objs.size (fnO h'.objs.size (kla_obj "<lambda>" (X.env.qual ++ "<lambda>") params body scope [] ((X.mg "__name__").getD .none) c' ctv))) P=some (.tbl (ps ++ #[rawInt ↑pos.line,rawInt ↑pos.col,Value.ref c'])):=by rw[zj nPf,zj nPc,zf]
   have hcc:(upd (upd (upd H P (.tbl (ps ++ #[rawInt ↑pos.line,rawInt ↑pos.col,Value.ref c']))) c' (zdL c' (X.env.qual ++ "<lambda>"))) h'.objs.size (fnO h'.objs.size (kla_obj "<lambda>" (X.env.qual ++ "<lambda>") params body scope [] ((X.mg "__name__").getD .none) c' ctv))) c'=some (zdL c' (X.env.qual ++ "<lambda>")):=by rw[zj ncf,zf]
   refine q h'.objs.size c' ((X.mg "__name__").getD .none) ctv _ _ (fun b u n e=>Heap.get?_push_of_some _ (hx b u n e)) ?_ old zf hcc ⟨fun b u e n=>?_,fun b qs e=>?_⟩ ⟨_,atP,?_,fun pos' cv e=>?_⟩ J
   ·show s.heap.objs.size≤(h'.push _).objs.size
    rw[Heap.size_push]
    exact Nat.le_of_lt (Nat.lt_of_le_of_lt hge (Nat.lt_succ_of_lt hlt))
   ·rw[old b (I.hok.lt e) (fun w=>by rw[w,hP] at e;cases e;exact n _ rfl)];exact e
   ·by_cases hb:b=P
    ·subst hb
     exact⟨_,atP⟩
    ·exact⟨qs,by rw[old b (I.hok.lt e) hb];exact e⟩
   ·rw[Array.toList_append]
    exact TriplesOk_snoc _ _ _ _ ht
   ·rw[Array.toList_append] at e
    rcases zhJ _ ht e with e | rfl
    ·obtain⟨c2,e1,e2⟩:=hh pos' cv e
     exact⟨c2,e1,by rw[old c2 (I.hok.lt e2) (fun w=>by rw[w,hP] at e2;cases e2)];exact e2⟩
    ·exact⟨c',rfl,hcc⟩
 | some cv =>
   obtain⟨c',rfl,hcc⟩:=hh pos cv hA
   refine kla_eval hdef (kla_makeFunctionHit (ps:=ps) (mg:=X.mg) hcl I.ok.glob (I.mod.glob.keeps I.bk) hcode (C.keeps I.bk) hPg ht hA ⟨bm,ob,b1,b2,hbG,hb _ _ b3,I.bk _ _ b3,b4,b5,b6⟩ fun ctv h' tk hk hsz=>?_)
   have hn:H h'.objs.size=none:=I.hok.fresh hsz
   have J:Inv X pins σ (upd H h'.objs.size (fnO h'.objs.size (kla_obj "<lambda>" (X.env.qual ++ "<lambda>") params body scope [] ((X.mg "__name__").getD .none) c' ctv))) { s with heap:=h'.push (kla_obj "<lambda>" (X.env.qual ++ "<lambda>") params body scope [] ((X.mg "__name__").getD .none) c' ctv),toks:=tk } :=
    I.laid (t':=tk) (fun b u e=>Heap.get?_push_of_some _ (hk b u e)) hsz ⟨Heap.get?_push_size _ rfl,⟨_,Heap.get?_push_size _ rfl⟩,fun h1 h2 a b=>b _ a⟩
   refine q h'.objs.size c' ((X.mg "__name__").getD .none) ctv _ _ (fun b u n e=>Heap.get?_push_of_some _ (hk b u e)) ?_ (fun a h1 h2=>zj (Nat.ne_of_lt (Nat.lt_of_lt_of_le h1 hsz))) zf ((zh.new hn) _ _ hcc) (zh.new hn).toN (zbz.same ⟨ps,hP,ht,hh⟩ (zh.new hn)) J
   show s.heap.objs.size≤(h'.push _).objs.size
   rw[Heap.size_push]
   exact Nat.le_succ_of_le hsz
end
def tSZ2(K:Frag)(P:Addr)(qq:Str)(t:TA):TE:=fun σ H Q=>t σ H fun vs H1=>∃(l1 l2:Addr) (xs:List Int) (yv:List V),vs = [.ref l1,.ref l2]∧SqL K H1 l1 (xs.map V.int)∧SqL K H1 l2 yv∧xs.length=yv.length∧0<xs.length∧xs.length<64∧zbz P qq H1 ∧
 ∀(H2:Hp) (ts:List Addr) (l:Addr) (p:Array Nat),yU H1 H2→zbz P qq H2→Prs H2 ts ((xs.map V.int).zip yv)→H2 l=none→M14.I (fun k=>xs.getD k 0) xs.length p xs.length→Q (.ref l) (upd H2 l (.lst (p.toList.map fun i=>V.ref (ts.getD i 0))))
section
variable {X:Cx} {ex ey:Expr} {t:TA} {c P:Addr} {y:Str} {p1 p2 p3 p4 p5 pos pos2 lpos kp:Pos} {j:Nat} {params:Arguments} {scope:Scope}
theorem pe_sortz2{qq:Str}(hqq:X.env.qual ++ "<lambda>" = qq)(hr:Room 3 X.A)(hg1:Gl X "sorted")(hm1:X.mg "sorted" = none)(hg2:Gl X "zip")(hm2:X.mg "zip" = none)(hcode:X.env.code=.ref c)(C:codeHdIn X.K c P=true)(B:zcR X.mg X.base)(S:FnScope [y] [y] scope)
 (hy:scope.names.lookup y=some .local) (hdb:(y==("__debug__" : Str))=false) (hdc:(y==("__classdict__" : Str))=false)
 (hdef:defaultsOf params X.env=([],[])) (hcl:closureFor scope X.env=pure [])
 (hbind:∀(q:Str) (pm cv ctv u:Value) (b:Expr),bindArgs (kla_fn "<lambda>" q params b scope [] pm cv ctv) ⟨[u],[]⟩=pure [(y,u)])
 (ha:PA X [ex,ey] t) (he:starEach [ex,ey] X.env=(false,eval ex X.env)::starEach [ey] X.env:=by rfl) (hpl:(backTo pos2 (starEach [ey] X.env)).any (·.1)=false:=by rfl) :
 PE X (.Call (.Name "sorted" p1) [.Call (.Name "zip" p2) [ex,ey] [] pos2] [⟨some "key",.Lambda params (.Subscript (.Name y p3) (.Constant (.int 0) j p4) p5) scope lpos,kp⟩] pos) (tSZ2 X.K P qq t):=by
 intro pins s σ H Q I h
 refine wpAny_Call_Name_kw (zat I hg1 hm1 boot_sorted ?_ (by decide) (by decide))
 refine callWith_kw ?_
 refine Calls.spliced_cons ?_
 refine wpAny_Call_Name_kw (zat I hg2 hm2 boot_zip ?_ (by decide) (by decide))
 refine PyProof.Rows.callWith_type1 (thn (ha pos2 pins s σ H _ I h) fun us s1 hh=>?_) he hpl
 obtain⟨vs,H1,I1,r1,l1,l2,xs,yv,rfl,q1,q2,hl,h0,h64,hP,q⟩:=hh
 obtain⟨u1,u2,rfl⟩:∃u1 u2,us = [u1,u2]:=by
  cases r1 with
  | cons _ r=>cases r with
    | cons _ r=>cases r with
      | nil=>exact⟨_,_,rfl⟩
 cases r1 with
 | cons e1 r=>cases r with
   | cons e2 r =>
     cases (show u1=Value.ref l1 from e1)
     cases (show u2=Value.ref l2 from e2)
     refine made_zip I1 q1 q2 fun s2 z TI TO i1 i2 xv' yv' rx ry I2 D o st=>?_
     refine Calls.spliced_nil ?_
     refine kws_cons ?_
     subst hqq
     refine lam_eval2 (c:=c) (P:=P) I2 hP hcode (codeHd_of_K I2.mod.kin C) B hdef hcl fun f c' pm ctv H3 s3 k hsz old hf hcc sn ls3 I3=>?_
     refine kws_nil ?_
     obtain⟨ps,hP,_⟩:=hP
     have hPg:s2.heap.get? P=some (tabObj ps):=I2.hok P _ hP
     have nO:∀a ∈ [z,TO,i1,i2],a≠P:=fun a ha w=>by have:=(o a ha).1.free;rw[w,hP] at this;cases this
     have nX:∀(a:Addr) (u:Obj),s2.heap.get? a=some u→u.cls ≠ .none→a≠P:=fun a u e n w=>by rw[w,hPg] at e;cases e;exact n rfl
     obtain⟨a1,a2,a3,a4,a5,a6⟩:=st
     obtain⟨b1,ba,bb,b2⟩:IsZip s2.heap z TI TO .none∧∃a b,IsPair s2.heap TO a b:=by
      rcases a6 with⟨_,w⟩ | ⟨w,_⟩
      ·exact w
      ·exact absurd w (Nat.lt_irrefl _)
     have st3:ZSt z TI TO i1 i2 l1 l2 xv'.toArray yv'.toArray 0 s3:=by
      refine⟨k _ _ (nX _ _ a1 (by intro w;cases w)) a1,a2.at fun u e=>k _ u (nO _ (by simp)) e,a3.at fun u e=>k _ u (nO _ (by simp)) e,a4.at fun u e=>k _ u ?_ e,a5.at fun u e=>k _ u ?_ e,.inl ⟨rfl,k _ _ (nO _ (by simp)) b1,ba,bb,k _ _ (nO _ (by simp)) b2⟩⟩
      ·obtain⟨u',e',hc,_⟩:=a4
       exact nX _ _ e' (by rw[hc];intro w;cases w)
      ·obtain⟨u',e',hc,_⟩:=a5
       exact nX _ _ e' (by rw[hc];intro w;cases w)
     have o3:∀a ∈ [z,TO,i1,i2],Own X pins H3 a∧a<s3.heap.objs.size:=fun a ha=>by
      obtain⟨oa,la⟩:=o a ha
      exact⟨⟨by rw[old a la (nO a ha)];exact oa.free,oa.loc,oa.new,oa.cell,oa.pin,oa.fs⟩,Nat.lt_of_lt_of_le la hsz⟩
     have lx:(xs.map V.int).length=xs.length:=List.length_map _
     have F:FnOk X.prog X.w X.K X.mg X.base CX0 1 f (kla_fn "<lambda>" (X.env.qual ++ "<lambda>") params (.Subscript (.Name y p3) (.Constant (.int 0) j p4) p5) scope [] pm (.ref c') ctv) [y] (sp_fst f c' (kla_obj "<lambda>" (X.env.qual ++ "<lambda>") params (.Subscript (.Name y p3) (.Constant (.int 0) j p4) p5) scope [] pm c' ctv) (X.env.qual ++ "<lambda>")):=by
      refine lam_ok S (fun vs H Q E h=>?_) (fun vs H Q E h=>⟨h.1,h.2.1⟩) fun A outer s H vs Q E hr h=>?_
      ·obtain⟨_,_,t,x,y',rfl,_⟩:=h
       rfl
      ·obtain⟨_,_,t,x,y',rfl,ht,hq⟩:=h
       exact⟨_,zB zaN (pe_var (i:=0) rfl (.inl hy) hdb hdc) zg (fun _ _=>rfl),⟨_,rfl,t,[x,y'],0,x,rfl,rfl,.inl (.inl ht),rfl,hq⟩⟩
     show wpAny (model X.prog X.w) X.A (call (.builtin "sorted") [.ref z] [(Str.ofString "key",.ref f)]) _ _ s3
     refine zhV (kz:=xs) (xv:=xs.map V.int) (yv:=yv) (q:=f) hr.hd D rx ry (by rw[lx];exact hl) (by rw[lx];exact h64) (by rw[lx];exact h0) lx.symm I3 o3 st3 (fun H4 ts s4 pr i v pins' s5 hv I5=>?_) fun s4 H4 ts l p sm pr hn hi I4=>?_
     ·rw[List.getElem?_map] at hv
      cases et:ts[i]? with
      | none=>rw[et] at hv;cases hv
      | some a =>
        rw[et] at hv
        cases hv
        obtain⟨⟨pa,pb⟩,ep,ha⟩:=pr.get i a et
        have epa:pa=.int (xs.getD i 0):=by
         rw[List.getElem?_zip_eq_some] at ep
         obtain⟨ep,_⟩:=ep
         rw[List.getElem?_map] at ep
         rw[List.getD_eq_getElem?_getD]
         cases ex:xs[i]? with
         | none=>rw[ex] at ep;cases ep
         | some x=>rw[ex] at ep;cases ep;rfl
        subst epa
        refine wpAny_call (codeAny_mono (F.run X.A.in1.in1 X.stack s5 H4 ⟨[.ref a],[]⟩ [.ref a] [.ref a] (fun x H'=>x=.int (xs.getD i 0)∧H'=H4) E0 hr.in1.in1 I5.env0.in1.in1 (.of_eq (hbind _ _ _ _ _ _)) (.cons rfl .nil) ⟨s4 _ _ hf,s4 _ _ hcc,a,_,_,rfl,ha,rfl,rfl⟩) fun r s6 hq=>?_)
        cases r with
        | error e=>exact hq
        | ok fl =>
          cases fl with
          | next=>exact False.elim hq
          | brk=>exact False.elim hq
          | cont=>exact False.elim hq
          | ret u =>
            obtain⟨v,H',I6,rv,rfl,rfl⟩:=I5.after hq
            obtain⟨tk,rfl⟩:=rv
            exact⟨I6,tk,rfl⟩
     ·rw[lx] at hi
      exact⟨.ref l,_,I4,rfl,q H4 ts l p (sn.trans sm.toN) (ls3.same sm) pr hn hi⟩
end
theorem comp2_zip{K:Frag}{l1 l2:Addr}{xs ys:List V}{c:St}{tc:TT}{te:TE}{H:Hp}{fin:List V→Hp→Prop}(Pv:Nat→List V→Hp→Prop)(h0:Pv 0 [] H)(hl:∀i zs H,i≤min xs.length ys.length→Pv i zs H→SqL K H l1 xs∧SqL K H l2 ys∧zs.length≤i)(hz:min xs.length ys.length≤sizeLine)
 (hs:∀i x y t zs H,xs[i]? = some x→ys[i]? = some y→H t=none→Pv i zs H→tc (some x::some y::c) (upd H t (.tup [x,y])) fun b H2=>if b=true then te (some x::some y::c) H2 fun z H3=>Pv (i+1) (zs ++ [z]) H3 else Pv (i+1) zs H2) (hd:∀zs H,Pv (min xs.length ys.length) zs H→fin zs H):zeL K (Itz K l1 l2) c tc te H fin:=by
 refine⟨fun i m zs H=>m=min xs.length ys.length - i∧i≤min xs.length ys.length∧Pv i zs H,⟨min xs.length ys.length,by simp,Nat.zero_le _,h0⟩,?_⟩
 rintro i m zs H ⟨rfl,hi,p⟩
 obtain⟨q1,q2,hy⟩:=hl i zs H hi p
 by_cases hlt:i<min xs.length ys.length
 ·have h1:i<xs.length:=by omega
  have h2:i<ys.length:=by omega
  refine .inr ⟨⟨xs,ys,xs[i],ys[i],q1,q2,by simp[h1],by simp[h2]⟩,by omega,Pv (i+1),fun zs' H' p'=>⟨min xs.length ys.length - (i+1),by omega,rfl,hlt,p'⟩,fun v H' y=>?_⟩
  obtain⟨t,x,y,rfl,hn,rfl,e1,e2⟩:=y
  exact⟨t,x,y,rfl,.inl (.inl zf),hs i x y t zs _ (e1 xs q1) (e2 ys q2) hn p⟩
 ·have e:i=min xs.length ys.length:=by omega
  subst e
  exact .inl ⟨⟨xs,ys,q1,q2,by omega⟩,by omega,hd zs H p⟩
section
variable {X:Cx}
end
section
variable {X:Cx}
end
section
variable {X:Cx} {tg:Expr}
end
end L2
namespace L2
open PySem PySem.Spec PyProof.Rows PySem.Builtin PySem.Builtin.Str
section
variable {X:Cx}
end
section
variable {X:Cx}
end
section
variable {κ:Type} [DecidableEq κ]
def zaP(kvs:List (κ × V))(k:κ):Option V:=(kvs.find? fun kv=>decide (kv.1=k)).map (·.2)
def zcc(kvs:List (κ × V))(k:κ)(v:V):List (κ × V) :=
 if(kvs.any fun kv=>decide (kv.1=k))=true then kvs.map (fun kv=>if kv.1=k then(kv.1,v)else kv)else kvs ++ [(k,v)]
theorem wa{p:κ × V}{r:List (κ × V)}{k:κ}(e:p.1=k):zaP (p::r) k=some p.2:=by simp[zaP,List.find?_cons,e]
theorem y7{p:κ × V}{r:List (κ × V)}{k:κ}(e:¬p.1=k):zaP (p::r) k=zaP r k:=by simp[zaP,List.find?_cons,e]
theorem zcU(k:κ):∀kvs:List (κ × V),(kvs.any fun kv=>decide (kv.1=k))=(zaP kvs k).isSome
 | []=>rfl
 | p::r=>by
   rw[List.any_cons]
   by_cases e:p.1=k
   ·simp only[wa e,decide_eq_true e,Bool.true_or,Option.isSome_some]
   ·rw[y7 e,decide_eq_false e,Bool.false_or];exact zcU k r
theorem zgS(k j:κ)(y:V):∀kvs:List (κ × V),zaP (kvs.map fun kv=>if kv.1=k then(kv.1,y)else kv) j=(zaP kvs j).map fun x=>if j=k then y else x
 | []=>rfl
 | p::r=>by
   have ih:=zgS k j y r
   rw[List.map_cons]
   by_cases h:p.1=k
   ·rw[if_pos h]
    by_cases e:p.1=j
    ·rw[wa (p:=(p.1,y)) e,wa e,Option.map_some,if_pos (e.symm.trans h)]
    ·rw[y7 (p:=(p.1,y)) e,y7 e,ih]
   ·rw[if_neg h]
    by_cases e:p.1=j
    ·rw[wa (p:=p) e,wa e,Option.map_some,if_neg (fun z=>h (e.trans z))]
    ·rw[y7 (p:=p) e,y7 e,ih]
theorem zfl(k j:κ)(y:V):∀kvs:List (κ × V),zaP kvs k=none→zaP (kvs ++ [(k,y)]) j=if j=k then some y else zaP kvs j
 | [],_=>by
   by_cases e:k=j
   ·rw[if_pos e.symm];exact wa (p:=(k,y)) e
   ·rw[if_neg (fun z=>e z.symm)];exact y7 (p:=(k,y)) e
 | p::r,hn=>by
   rw[List.cons_append]
   have hk:¬p.1=k:=fun z=>by rw[wa z] at hn;cases hn
   rw[y7 hk] at hn
   have ih:=zfl k j y r hn
   by_cases e:p.1=j
   ·rw[wa e,wa e,if_neg (fun z=>hk (e.trans z))]
   ·rw[y7 e,y7 e,ih]
theorem zhn(kvs:List (κ × V))(k j:κ)(y:V):zaP (zcc kvs k y) j=if j=k then some y else zaP kvs j:=by
 unfold zcc
 by_cases a:(kvs.any fun kv=>decide (kv.1=k))=true
 ·rw[if_pos a,zgS]
  rw[zcU] at a
  by_cases e:j=k
  ·obtain⟨x,hx⟩:=Option.isSome_iff_exists.mp a
   rw[if_pos e,e,hx,Option.map_some,if_pos rfl]
  ·rw[if_neg e]
   cases zaP kvs j with
   | none=>rfl
   | some x=>rw[Option.map_some,if_neg e]
 ·rw[if_neg a]
  refine zfl k j y kvs ?_
  rw[zcU] at a
  cases q:zaP kvs k with
  | none=>rfl
  | some x=>rw[q] at a;exact(a rfl).elim
theorem zch(kvs:List (κ × V))(k:κ)(v:V):(zcc kvs k v).length≤kvs.length+1:=by
 unfold zcc
 split
 ·rw[List.length_map];omega
 ·rw[List.length_append,List.length_cons,List.length_nil];omega
theorem zcs.isSome_eq{o:Option V}{u:Option Value}(r:zcs o u):o.isSome=u.isSome:=by
 cases o with
 | none=>cases u with
   | none=>rfl
   | some _=>exact(show False from r).elim
 | some _=>cases u with
   | none=>exact(show False from r).elim
   | some _=>rfl
theorem KV.val{kvs:List (κ × V)}{vs:List (κ × Value)}(r:KV kvs vs)(k:κ):zcs (zaP kvs k) (valueAt vs k):=by
 unfold KV at r
 induction r with
 | nil=>exact True.intro
 | @cons p q ps qs h t ih =>
   obtain⟨h1,h2⟩:=h
   by_cases e:p.1=k
   ·have e':q.1=k:=h1.symm.trans e
    have b:valueAt (q::qs) k=some q.2:=by simp[valueAt,List.find?_cons,e']
    rw[wa e,b];exact h2
   ·have e':¬q.1=k:=fun z=>e (h1.trans z)
    have b:valueAt (q::qs) k=valueAt qs k:=by simp[valueAt,List.find?_cons,e']
    rw[y7 e,b];exact ih
theorem KV.any{kvs:List (κ × V)}{vs:List (κ × Value)}(r:KV kvs vs)(k:κ):(kvs.any fun kv=>decide (kv.1=k))=vs.any fun kv=>decide (kv.1=k):=by
 unfold KV at r
 induction r with
 | nil=>rfl
 | cons h t ih=>rw[List.any_cons,List.any_cons,ih,h.1]
theorem KV.repl{kvs:List (κ × V)}{vs:List (κ × Value)}(r:KV kvs vs)(k:κ){y:V}{u:Value}(ry:zH y u):
 KV (kvs.map fun kv=>if kv.1=k then(kv.1,y)else kv) (vs.map fun kv=>if kv.1=k then(kv.1,u)else kv):=by
 unfold KV at r ⊢
 induction r with
 | nil=>exact .nil
 | @cons p q ps qs h t ih =>
   rw[List.map_cons,List.map_cons]
   refine .cons ?_ ih
   obtain⟨h1,h2⟩:=h
   by_cases e:p.1=k
   ·rw[if_pos e,if_pos (h1.symm.trans e)];exact⟨h1,ry⟩
   ·rw[if_neg e,if_neg (fun z=>e (h1.trans z))];exact⟨h1,h2⟩
theorem KV.put{kvs:List (κ × V)}{vs:List (κ × Value)}(r:KV kvs vs)(k:κ){y:V}{u:Value}(ry:zH y u):KV (zcc kvs k y) (stored vs k u):=by
 unfold zcc stored
 rw[r.any k]
 by_cases e:(vs.any fun kv=>decide (kv.1=k))=true
 ·rw[if_pos e,if_pos e];exact r.repl k ry
 ·rw[if_neg e,if_neg e];exact Paired.snoc r ⟨rfl,ry⟩
theorem KV.length{kvs:List (κ × V)}{vs:List (κ × Value)}(r:KV kvs vs):kvs.length=vs.length:=Paired.length r
end
theorem zgm{P:Program}{w:World}{k:Key}{u:Value}(r:zH (kV k) u):(wn P w).is k u=true:=by
 cases k with
 | inl i=>obtain⟨t,e⟩:=(show ∃t,u=Value.int i t from r);subst e;exact zha P w i t
 | inr x=>obtain⟨t,e⟩:=(show ∃t,u=Value.str x t from r);subst e;exact zgV P w x t
theorem zfu{P:Program}{w:World}:∀{ks:List Key} {us:List Value},zA (ks.map kV) us→ItemsAre (wn P w) ks us
 | [],_,r=>by rw[List.map_nil] at r;cases r;exact .nil
 | k::ks,_,r=>by
   rw[List.map_cons] at r
   cases r with
   | cons h t=>exact .cons (zgm h) (zfu t)
abbrev KT(H:Hp):List (List Key × V)→List (List Key × Addr × Value)→Prop:=Paired fun p q=>p.1=q.1∧H q.2.1=some (.tup (p.1.map kV))∧zH p.2 q.2.2
theorem KT.val{H:Hp}{kvs:List (List Key × V)}{xs:List (List Key × Addr × Value)}(r:KT H kvs xs)(k:List Key):zcs (zaP kvs k) ((atKey xs k).map (·.2)):=by
 induction r with
 | nil=>exact True.intro
 | @cons p q ps qs h t ih =>
   obtain⟨h1,_,h2⟩:=h
   by_cases e:p.1=k
   ·have e':q.1=k:=h1.symm.trans e
    have b:atKey (q::qs) k=some q.2:=by simp[atKey,List.find?_cons,e']
    rw[wa e,b];exact h2
   ·have e':¬q.1=k:=fun z=>e (h1.trans z)
    have b:atKey (q::qs) k=atKey qs k:=by simp[atKey,List.find?_cons,e']
    rw[y7 e,b];exact ih
theorem KT.repl{H:Hp}{kvs:List (List Key × V)}{xs:List (List Key × Addr × Value)}(r:KT H kvs xs)(k:List Key){y:V}{u:Value}(ry:zH y u):
 KT H (kvs.map fun kv=>if kv.1=k then(kv.1,y)else kv) (xs.map (putAt k u)):=by
 induction r with
 | nil=>exact .nil
 | @cons p q ps qs h t ih =>
   rw[List.map_cons,List.map_cons]
   refine .cons ?_ ih
   obtain⟨h1,h2,h3⟩:=h
   unfold putAt
   by_cases e:p.1=k
   ·rw[if_pos e,if_pos (h1.symm.trans e)];exact⟨h1,h2,ry⟩
   ·rw[if_neg e,if_neg (fun z=>e (h1.trans z))];exact⟨h1,h2,h3⟩
theorem KT.put{H:Hp}{kvs:List (List Key × V)}{xs:List (List Key × Addr × Value)}(r:KT H kvs xs)(k:List Key){b:Addr}{y:V}{u:Value}(hb:H b=some (.tup (k.map kV)))(ry:zH y u):
 KT H (zcc kvs k y) (storedH xs k b u):=by
 have e:(kvs.any fun kv=>decide (kv.1=k))=(atKey xs k).isSome:=by
  rw[zcU,(r.val k).isSome_eq,Option.isSome_map]
 unfold zcc storedH
 rw[e]
 by_cases q:(atKey xs k).isSome=true
 ·rw[if_pos q,if_pos q];exact r.repl k ry
 ·rw[if_neg q,if_neg q];exact Paired.snoc r ⟨rfl,hb,ry⟩
theorem KT.keeps{H H':Hp}{kvs:List (List Key × V)}{xs:List (List Key × Addr × Value)}(r:KT H kvs xs)(ht:∀b ys,H b=some (.tup ys)→H' b=some (.tup ys)):KT H' kvs xs :=
 Paired.mapP r fun _ _ z=>⟨z.1,ht _ _ z.2.1,z.2.2⟩
section
variable {P:Program} {w:World} {H:Hp} {h:Heap} {a:Addr}
theorem rd_of{u:HO}(ok:HOk P w H h)(e:Rd H a u):yF P w H h a u:=e.ok ok
theorem zgj{kvs:List (Key × V)}(ok:HOk P w H h)(e:Rd H a (.dK kvs)):kvs.length≤sizeLine∧(a==sysModules)=false∧∃vs,KV kvs vs∧h.DictOf (wn P w) a vs :=
 show yF P w H h a (.dK kvs)from rd_of ok e
theorem dk_of{kvs:List (Key × V)}(ok:HOk P w H h)(e:H a=some (.dK kvs)):kvs.length≤sizeLine∧(a==sysModules)=false∧∃vs,KV kvs vs∧h.DictOf (wn P w) a vs:=zgj ok (.inl e)
theorem zeQ{ks:List Key}(ok:HOk P w H h)(e:H a=some (.tup (ks.map kV))):(tupleKind (wn P w)).is h ks a:=by
 obtain⟨_,its,r,o,h1,h2,n,h3⟩:=(show yF P w H h a (.tup (ks.map kV))from ok a _ e)
 exact⟨o,its.toArray,n,h1,h2,h3,by simpa using zfu r⟩
theorem zg8{kvs:List (List Key × V)}(ok:HOk P w H h)(e:Rd H a (.dT kvs)):kvs.length≤sizeLine∧(a==sysModules)=false ∧
 ∃xs,KT H kvs xs∧h.DictOfH (tupleKind (wn P w)) a xs:=by
 obtain⟨z,y,xs,r,o,es,ep,h1,h2,h3,h4,h5⟩:=(show yF P w H h a (.dT kvs)from rd_of ok e)
 refine⟨z,y,xs,r,o,es,ep,h1,h2,h3,h4,fun x hx=>?_,h5⟩
 have all:∀{l:List (List Key × V)} {m:List (List Key × Addr × Value)},KT H l m→∀x∈m,(tupleKind (wn P w)).is h x.1 x.2.1:=by
  intro l m q
  induction q with
  | nil=>intro x hx;exact nomatch hx
  | @cons p q ps qs hq t ih =>
    intro x hx
    rcases List.mem_cons.mp hx with e | hx
    ·subst e
     exact zeQ ok (by rw[← hq.1];exact hq.2.1)
    ·exact ih x hx
 exact all r x hx
theorem dt_of{kvs:List (List Key × V)}(ok:HOk P w H h)(e:H a=some (.dT kvs)):kvs.length≤sizeLine∧(a==sysModules)=false ∧
 ∃xs,KT H kvs xs∧h.DictOfH (tupleKind (wn P w)) a xs:=zg8 ok (.inl e)
end
def zdP(H:Hp)(a:Addr)(y:V)(r:Option V):Prop :=
 (∃kvs k,Rd H a (.dK kvs)∧y=kV k∧r=zaP kvs k)∨∃kvs k b,Rd H a (.dT kvs)∧y=.ref b∧H b=some (.tup (k.map kV))∧r=zaP kvs k
def DPut(H:Hp)(a:Addr)(y v:V)(H':Hp):Prop :=
 (∃kvs k,H a=some (.dK kvs)∧y=kV k∧kvs.length<sizeLine∧H'=upd H a (.dK (zcc kvs k v))) ∨
 ∃kvs k b,H a=some (.dT kvs)∧y=.ref b∧H b=some (.tup (k.map kV))∧kvs.length<sizeLine∧H'=upd H a (.dT (zcc kvs k v))
theorem zdP.k{H:Hp}{a:Addr}{kvs:List (Key × V)}{k:Key}(e:H a=some (.dK kvs)):zdP H a (kV k) (zaP kvs k):=.inl ⟨kvs,k,.inl e,rfl,rfl⟩
theorem DPut.k{H:Hp}{a:Addr}{kvs:List (Key × V)}{k:Key}{v:V}(e:H a=some (.dK kvs))(hl:kvs.length<sizeLine):DPut H a (kV k) v (upd H a (.dK (zcc kvs k v))):=.inl ⟨kvs,k,e,rfl,hl,rfl⟩
section
variable {X:Cx} {pins:List (Addr × Obj)} {σ:St} {H:Hp} {s:Shared} {a:Addr} {y v:V} {u r:Value} {o:Option V} {A:Around} {E:Value→Shared→Prop}
theorem Inv.big(I:Inv X pins σ H s):sysModules<s.heap.objs.size:=by
 have h:mainGlobals<s.heap.objs.size:=(I.mod.glob.keeps I.bk).lt
 exact Nat.lt_trans (by decide) h
theorem d_getItem{Q:Value→Shared→Prop}(hu:A.units+1<cLine)(I:Inv X pins σ H s)(g:zdP H a y (some v))(ry:zH y u)(h:∀w' s',Inv X pins σ H s'→zH v w'→Q w' s'):
 wpAny (model X.prog X.w) A (getItem (.ref a) u) Q E s:=by
 rcases g with⟨kvs,k,e,ey,l⟩ | ⟨kvs,k,b,e,ey,eb,l⟩
 ·subst ey
  obtain⟨z,hd,vs,rel,dd⟩:=zgj I.hok e
  obtain⟨w',hw,rw'⟩:=zcs.some_of (v:=v) (o:=valueAt vs k) (by rw[l];exact rel.val k)
  exact wpAny_getItem_of (zgm ry) dd.mapOf hw (h w' _ (I.tok _) rw')
 ·subst ey
  cases (show u=Value.ref b from ry)
  obtain⟨z,hd,xs,rel,dd⟩:=zg8 I.hok e
  obtain⟨w',hw,rw'⟩:=zcs.some_of (v:=v) (o:=(atKey xs k).map (·.2)) (by rw[l];exact rel.val k)
  obtain⟨p,hp,hp2⟩:=Option.map_eq_some_iff.mp hw
  refine wpAny_getItem_heap (tupleKind_room_in1 hu) (zeQ I.hok eb) dd hp ?_
  rw[hp2]
  exact h w' _ (I.tok _) rw'
theorem d_in{Q:Value→Shared→Prop}(hu:A.units+1<cLine)(I:Inv X pins σ H s)(g:zdP H a y o)(ry:zH y u)(h:∀s',Inv X pins σ H s'→Q (.bool o.isSome) s'):
 wpAny (model X.prog X.w) A (compareOp .In u (.ref a)) Q E s:=by
 rcases g with⟨kvs,k,e,ey,l⟩ | ⟨kvs,k,b,e,ey,eb,l⟩
 ·subst ey
  obtain⟨z,hd,vs,rel,dd⟩:=zgj I.hok e
  refine wpAny_in_of (zgm ry) hd dd.mapOf ?_
  rw[← (rel.val k).isSome_eq,← l]
  exact h _ (I.tok _)
 ·subst ey
  cases (show u=Value.ref b from ry)
  obtain⟨z,hd,xs,rel,dd⟩:=zg8 I.hok e
  refine wpAny_in_heap (tupleKind_room_in1 hu) (zeQ I.hok eb) hd dd ?_
  have q:=(rel.val k).isSome_eq
  rw[Option.isSome_map] at q
  rw[← q,← l]
  exact h _ (I.tok _)
theorem d_notIn{Q:Value→Shared→Prop}(hu:A.units+1<cLine)(I:Inv X pins σ H s)(g:zdP H a y o)(ry:zH y u)(h:∀s',Inv X pins σ H s'→Q (.bool (!o.isSome)) s'):
 wpAny (model X.prog X.w) A (compareOp .NotIn u (.ref a)) Q E s:=by
 rcases g with⟨kvs,k,e,ey,l⟩ | ⟨kvs,k,b,e,ey,eb,l⟩
 ·subst ey
  obtain⟨z,hd,vs,rel,dd⟩:=zgj I.hok e
  refine wpAny_notIn_of (zgm ry) hd dd.mapOf ?_
  rw[← (rel.val k).isSome_eq,← l]
  exact h _ (I.tok _)
 ·subst ey
  cases (show u=Value.ref b from ry)
  obtain⟨z,hd,xs,rel,dd⟩:=zg8 I.hok e
  refine wpAny_notIn_heap (tupleKind_room_in1 hu) (zeQ I.hok eb) hd dd ?_
  have q:=(rel.val k).isSome_eq
  rw[Option.isSome_map] at q
  rw[← q,← l]
  exact h _ (I.tok _)
theorem zig{h':Heap}{t':Nat}{ob:HO}(I:Inv X pins σ H s)(mu:Mut (H a))(hs:Heap.SameBut a s.heap h')(he:∃q,h'.get? a=some q)(new:yF X.prog X.w (upd H a ob) h' a ob):
 Inv X pins σ (upd H a ob) { s with heap:=h',toks:=t' } :=
 I.write (x:=a) (e:=a) mu (.inl rfl) (fun b q hb z=>(hs.2 b hb).trans z) he new
theorem dk_new{P:Program}{w:World}{H':Hp}{h':Heap}{kvs:List (Key × V)}{vs:List (Key × Value)}(z:kvs.length≤sizeLine)(hd:(a==sysModules)=false)(rel:KV kvs vs)(dd:h'.DictOf (wn P w) a vs):
 yF P w H' h' a (.dK kvs):=⟨z,hd,vs,rel,dd⟩
theorem d_setItem{H':Hp}{Q:Unit→Shared→Prop}(hu:A.units+1<cLine)(I:Inv X pins σ H s)(g:DPut H a y v H')(ry:zH y u)(rv:zH v r)(h:∀s',Inv X pins σ H' s'→Q () s'):
 wpAny (model X.prog X.w) A (setItem (.ref a) u r) Q E s:=by
 rcases g with⟨kvs,k,e,ey,l,eH⟩ | ⟨kvs,k,b,e,ey,eb,l,eH⟩
 ·subst ey eH
  obtain⟨z,hd,vs,rel,dd⟩:=dk_of I.hok e
  have hz:vs.length≤sizeLine:=by rw[← rel.length];exact z
  have hl:(zcc kvs k v).length≤sizeLine:=by have:=zch kvs k v;omega
  refine wpAny_setItem_pairs (hsz:=hz) (zgm ry) dd fun h' dd' hs=>h _ ?_
  have he:∃q,h'.get? a=some q:=let ⟨q,_,_,hq,_⟩:=dd';⟨q,hq⟩
  exact zig I (by rw[e];exact True.intro) hs he (dk_new hl hd (rel.put k rv) dd')
 ·subst ey eH
  cases (show u=Value.ref b from ry)
  obtain⟨z,hd,xs,rel,dd⟩:=dt_of I.hok e
  have hz:xs.length≤sizeLine:=by rw[← Paired.length rel];exact z
  have hl:(zcc kvs k v).length≤sizeLine:=by have:=zch kvs k v;omega
  refine wpAny_setItem_heap (hsz:=hz) (tupleKind_room_in1 hu) (zeQ I.hok eb) dd fun h' dd' hs=>h _ ?_
  obtain⟨q,es,ep,hq,h2,h3,h4,_,h5⟩:=dd'
  refine zig I (by rw[e];exact True.intro) hs ⟨q,hq⟩ ⟨hl,hd,_,(rel.put k eb rv).keeps fun c ys ec=>?_,q,es,ep,hq,h2,h3,h4,h5⟩
  rw[zj (zaw ec e (fun z=>nomatch z))]
  exact ec
end
section
variable {X:Cx} {pins:List (Addr × Obj)} {σ:St} {H:Hp} {s:Shared} {a:Addr} {kvs:List (Key × V)} {k:Key} {u:Value} {A:Around} {E:Value→Shared→Prop}
end
def NoSl(i:Expr):Prop:=∀ov iv,subscripted i false ov iv=operate [ov,iv] (getItem ov iv)
theorem subD_of{prog:Program}{w:World}{A:Around}{E:Value→Shared→Prop}{s:Shared}{env:Env}{value slice:Expr}{pos:Pos}{T id:String}{Q:Value→Shared→Prop}
 (hl:typeLookup (.type T) "__getitem__" = pure (some (.builtin id))) (hs:NoSl slice)
 (h:wpAny (model prog w) A (eval value env) (fun o s₁=>wpAny (model prog w) A (eval slice env) (fun i s₂=>s₂.TypeIs o T∧wpAny (model prog w) A (getItem o i) Q E s₂) E s₁) E s) :
 wpAny (model prog w) A (eval (.Subscript value slice pos) env) Q E s:=by
 refine Subscript_ (wpAny_mono h (fun o s₁ h₁=>wpAny_mono h₁ (fun i s₂ h₂=>?_) fun _ _ x=>x) fun _ _ x=>x)
 obtain⟨hT,h₂⟩:=h₂
 unfold subscriptTail
 refine wpAny_bind ?_
 rw[getitemInPython_of_ne hT.not_modules]
 refine wpAny_bind (wpAny_specialOf hT hl ?_)
 have fin:wpAny (model prog w) A (subscripted slice false o i) (fun r s₃=>wpAny (model prog w) A (letTemporaryGo value o r >>= fun _=>pure r) Q E s₃) E s₂:=by
  rw[hs o i]
  exact wpAny_operating (wpAny_mono h₂ (fun r s₃ h₃=>wpAny_bind (wpAny_letTemporaryGo (wpAny_pure h₃))) fun _ _ x=>x)
 first
  | exact wpAny_pure (wpAny_bind fin)
  | exact wpAny_bind (wpAny_pure (wpAny_bind fin))
  | exact wpAny_bind fin
theorem zgE{X:Cx}{pins:List (Addr × Obj)}{σ:St}{H:Hp}{s:Shared}{a:Addr}{y:V}{o:Option V}(I:Inv X pins σ H s)(g:zdP H a y o):s.TypeIs (.ref a) "dict" := by
 rcases g with⟨kvs,k,e,_,_⟩ | ⟨kvs,k,b,e,_,_,_⟩
 ·obtain⟨_,_,vs,_,dd⟩:=zgj I.hok e
  exact dd.typeIs
 ·obtain⟨_,_,xs,_,dd⟩:=zg8 I.hok e
  exact dd.typeIs
def tDGet(td ty:TE):TE:=fun σ H Q=>td σ H fun x H1=>ty σ H1 fun y H2=>∃a v,x=.ref a∧zdP H2 a y (some v)∧Q v H2
def tDIn(ty td:TE):TE:=fun σ H Q=>ty σ H fun y H1=>td σ H1 fun x H2=>∃a o,x=.ref a∧zdP H2 a y o∧Q (.bl o.isSome) H2
def tDNotIn(ty td:TE):TE:=fun σ H Q=>ty σ H fun y H1=>td σ H1 fun x H2=>∃a o,x=.ref a∧zdP H2 a y o∧Q (.bl (!o.isSome)) H2
def sDPut(td ty tv:TE):TS:=fun D σ H=>tv σ H fun v H1=>td σ H1 fun x H2=>ty σ H2 fun y H3=>∃a H4,x=.ref a∧DPut H3 a y v H4∧D.nx σ H4
section
variable {X:Cx} {o i e value:Expr} {pos pos' tpos:Pos} {td ty tv:TE}
theorem pe_dget(hu:X.A.units+1<cLine)(ho:PE X o td)(hi:PE X i ty)(hs:NoSl i):PE X (.Subscript o i pos) (tDGet td ty):=by
 intro pins s σ H Q I h
 refine subD_of PySem.F.slot_dict_getitem.lookup hs (thn (ho pins s σ H _ I h) fun u s1 ⟨x,H1,I1,rx,q1⟩=>thn (hi pins s1 σ H1 _ I1 q1) fun iv s2 ⟨y,H2,I2,ry,a,v,ex,g,q2⟩=>?_)
 subst ex
 obtain rfl:u=Value.ref a:=rx
 exact⟨zgE I2 g,d_getItem hu I2 g ry fun w' s3 I3 rw'=>⟨v,H2,I3,rw',q2⟩⟩
theorem pc_din(hu:X.A.units+1<cLine)(hi:PE X i ty)(ho:PE X o td):PC X .In i o (tDIn ty td):=by
 intro pins s σ H Q I h
 refine thn (hi pins s σ H _ I h) fun iv s1 ⟨y,H1,I1,ry,q1⟩=>thn (ho pins s1 σ H1 _ I1 q1) fun u s2 ⟨x,H2,I2,rx,a,ov,ex,g,q2⟩=>?_
 subst ex
 obtain rfl:u=Value.ref a:=rx
 exact d_in hu I2 g ry fun s3 I3=>⟨.bl ov.isSome,H2,I3,rfl,q2⟩
theorem pc_dnotin(hu:X.A.units+1<cLine)(hi:PE X i ty)(ho:PE X o td):PC X .NotIn i o (tDNotIn ty td):=by
 intro pins s σ H Q I h
 refine thn (hi pins s σ H _ I h) fun iv s1 ⟨y,H1,I1,ry,q1⟩=>thn (ho pins s1 σ H1 _ I1 q1) fun u s2 ⟨x,H2,I2,rx,a,ov,ex,g,q2⟩=>?_
 subst ex
 obtain rfl:u=Value.ref a:=rx
 exact d_notIn hu I2 g ry fun s3 I3=>⟨.bl (!ov.isSome),H2,I3,rfl,q2⟩
theorem ps_dput(hu:X.A.units+1<cLine)(ho:PE X o td)(hi:PE X i ty)(hv:PE X value tv)(hs:swapsWith value (some (.Subscript o i pos')) pos.line X.env=pure false):
 PS X (.Assign [.Subscript o i pos'] value pos) (sDPut td ty tv):=by
 intro pins s σ H D I h
 refine wpAny_Assign_Subscript (thn (hv pins s σ H _ I h) fun r s1 ⟨v,H1,I1,rv,q1⟩=>thn (ho pins s1 σ H1 _ I1 q1) fun u s2 ⟨x,H2,I2,rx,q2⟩=>thn (hi pins s2 σ H2 _ I2 q2) fun iv s3 ⟨y,H3,I3,ry,a,H4,ex,g,q3⟩=>?_) hs
 subst ex
 obtain rfl:u=Value.ref a:=rx
 exact d_setItem hu I3 g ry rv fun s4 I4=>⟨σ,H4,I4,q3⟩
end
theorem dk_empty{P:Program}{w:World}{H:Hp}(h:Heap)(hb:sysModules<h.objs.size):yF P w H (h.push { cls:=.type "dict",data:=.dict #[] }) h.objs.size (.dK []) :=
 ⟨Nat.zero_le _,beq_eq_false_iff_ne.mpr (Ne.symm (Nat.ne_of_lt hb)),[],.nil,Heap.DictOf.new h⟩
def tDNewK:TE:=fun _ H Q=>∀p,H p=none→Q (.ref p) (upd H p (.dK []))
section
variable {X:Cx} {pos:Pos}
theorem pe_dnewK:PE X (.Dict [] [] pos) tDNewK:=fun pins s σ H Q I h =>
 wpAny_Dict_empty ⟨.ref s.heap.objs.size,_,I.laid (a:=s.heap.objs.size) (o:=.dK []) (t':=s.toks) (fun _ _ q=>Heap.get?_push_of_some _ q) (Nat.le_refl _) (dk_empty s.heap I.big),rfl,h _ (I.hok.fresh (Nat.le_refl _))⟩
end
structure M1 (X:Cx) (o:Expr) (m:Str) (apos:Pos) (e:Expr) (cpos:Pos):Prop where
 base:attributeBase o m X.env (eval o X.env)=eval o X.env
 few:((backTo cpos (starEach [e] X.env)).all (fun x => !x.1) && (backToKw cpos (keywordEach [] X.env)).all (fun x=>x.1.isSome)
  && decide (([e]:List Expr).length+([]:List Keyword).length+(if([]:List Keyword).isEmpty then 0 else 1)<30))=true
 line:(apos.endLine==cpos.line)=true
 trees:backTo cpos (starEach [e] X.env) = [(false,eval e X.env)]
structure M2 (X:Cx) (o:Expr) (m:Str) (apos:Pos) (e f:Expr) (cpos:Pos):Prop where
 base:attributeBase o m X.env (eval o X.env)=eval o X.env
 few:((backTo cpos (starEach [e,f] X.env)).all (fun x => !x.1) && (backToKw cpos (keywordEach [] X.env)).all (fun x=>x.1.isSome)
  && decide (([e,f]:List Expr).length+([]:List Keyword).length+(if([]:List Keyword).isEmpty then 0 else 1)<30))=true
 line:(apos.endLine==cpos.line)=true
 trees:backTo cpos (starEach [e,f] X.env) = [(false,eval e X.env),(false,eval f X.env)]
section
variable {X:Cx} {pins:List (Addr × Obj)} {σ:St} {H:Hp} {s:Shared} {a:Addr} {y d:V} {u r:Value} {o:Option V} {A:Around} {E:Value→Shared→Prop}
end
section
variable {X:Cx} {o e f:Expr} {apos cpos:Pos} {td ty tx:TE}
end
section
variable {X:Cx} {pins:List (Addr × Obj)} {σ:St} {H:Hp} {s:Shared} {a:Addr} {kvs:List (Key × V)} {A:Around} {E:Value→Shared→Prop}
end
section
variable {X:Cx} {pins:List (Addr × Obj)} {σ:St} {H:Hp} {s:Shared} {a:Addr} {y:V} {u:Value} {A:Around} {E:Value→Shared→Prop}
end
section
variable {X:Cx}
end
section
variable {κ:Type} [DecidableEq κ]
end
end L2
namespace M1
def gap(c:Int):Int := [1,7,500,998].getD (c%4).toNat 1
def couples(c:Int)(m:Nat):List Int:=(List.range m).map fun(k:Nat)=>(c/4+(k:Int)*gap c)%999+1
theorem zb2(c:Int)(m:Nat):(couples c m).length=m:=by unfold couples;simp
theorem zfJ(c:Int)(m:Nat):couples c (m+1)=couples c m ++ [(c/4+(m:Int)*gap c)%999+1]:=by unfold couples;rw[List.range_succ,List.map_append];rfl
theorem zcx{c:Int}{m:Nat}{x:Int}(h:x∈couples c m):1≤x∧x≤999:=by
 obtain⟨k,_,rfl⟩:=List.mem_map.mp h
 have h1:=Int.emod_nonneg (c/4+(k:Int)*gap c) (show(999:Int)≠0 by decide)
 have h2:=Int.emod_lt_of_pos (c/4+(k:Int)*gap c) (show(0:Int)<999 by decide)
 omega
theorem gap_cases(c:Int):gap c=1∨gap c=7∨gap c=500∨gap c=998:=by
 have h:c%4=0∨c%4=1∨c%4=2∨c%4=3:=by omega
 unfold gap
 rcases h with h | h | h | h <;> rw[h]
 ·exact .inl rfl
 ·exact .inr (.inl rfl)
 ·exact .inr (.inr (.inl rfl))
 ·exact .inr (.inr (.inr rfl))
theorem zcu{c:Int}{m:Nat}(hm:m≤999):(couples c m).Nodup:=by
 unfold couples
 refine List.pairwise_map.mpr (List.Pairwise.imp_of_mem (fun {i j} hi hj hlt e=>?_) (List.pairwise_lt_range (n:=m)))
 have hi:=List.mem_range.mp hi
 have hj:=List.mem_range.mp hj
 rcases gap_cases c with g | g | g | g <;> rw[g] at e <;> omega
def zbq(ns:List Int):Bool:=(decide (1≤(ns.length:Int)) && decide ((ns.length:Int)≤24)) && (decide ns.Nodup && (ns.map fun n=>decide (1≤n) && decide (n≤999)).all id)
theorem zc9(ns:List Int):zbq ns=true↔(1≤ns.length∧ns.length≤24)∧ns.Nodup∧∀n∈ns,1≤n∧n≤999:=by
 unfold zbq
 simp only[Bool.and_eq_true,decide_eq_true_eq,List.all_map,List.all_eq_true,Function.comp,id]
 constructor
 ·rintro ⟨⟨h1,h2⟩,h3,h4⟩
  exact⟨⟨by omega,by omega⟩,h3,h4⟩
 ·rintro ⟨⟨h1,h2⟩,h3,h4⟩
  exact⟨⟨by omega,by omega⟩,h3,h4⟩
end M1
namespace M2
open PySem L2
def zdE(z:Str):Bool:=(decide (1≤(z.length:Int)) && decide ((z.length:Int)≤8)) && (z.cps.toList.map zb5).all id
def zb9(ts:List Str):Bool:=(decide (1≤(ts.length:Int)) && decide ((ts.length:Int)≤15)) && (decide ts.Nodup && (ts.map zdE).all id)
theorem zck(z:Str):zdE z=true↔(1≤z.length∧z.length≤8)∧∀c∈z.cps.toList,zb5 c=true:=by
 unfold zdE
 simp only[Bool.and_eq_true,decide_eq_true_eq,List.all_map,List.all_eq_true,Function.comp,id]
 constructor
 ·rintro ⟨⟨h1,h2⟩,h3⟩
  exact⟨⟨by omega,by omega⟩,h3⟩
 ·rintro ⟨⟨h1,h2⟩,h3⟩
  exact⟨⟨by omega,by omega⟩,h3⟩
theorem zcn(ts:List Str):zb9 ts=true↔(1≤ts.length∧ts.length≤15)∧ts.Nodup∧∀z∈ts,(1≤z.length∧z.length≤8)∧∀c∈z.cps.toList,zb5 c=true:=by
 unfold zb9
 simp only[Bool.and_eq_true,decide_eq_true_eq,List.all_map,List.all_eq_true,Function.comp,id,zck]
 constructor
 ·rintro ⟨⟨h1,h2⟩,h3,h4⟩
  exact⟨⟨by omega,by omega⟩,h3,h4⟩
 ·rintro ⟨⟨h1,h2⟩,h3,h4⟩
  exact⟨⟨by omega,by omega⟩,h3,h4⟩
theorem le_a(c:Nat):(!decide ((⟨#[c]⟩:Str).cps.toList<("a" : Str).cps.toList))=decide (97≤c):=by
 have e:("a" : Str).cps.toList = [97]:=by decide +kernel
 rw[e]
 show(!decide ([c] < [97]))=_
 by_cases h:97≤c
 ·rw[decide_eq_true h,decide_eq_false];rfl
  simp[List.cons_lt_cons_iff];omega
 ·rw[decide_eq_false h,decide_eq_true];rfl
  simp[List.cons_lt_cons_iff];omega
theorem le_z(c:Nat):(!decide (("z" : Str).cps.toList<(⟨#[c]⟩:Str).cps.toList))=decide (c≤122):=by
 have e:("z" : Str).cps.toList = [122]:=by decide +kernel
 rw[e]
 show(!decide ([122] < [c]))=_
 by_cases h:c≤122
 ·rw[decide_eq_true h,decide_eq_false];rfl
  simp[List.cons_lt_cons_iff];omega
 ·rw[decide_eq_false h,decide_eq_true];rfl
  simp[List.cons_lt_cons_iff];omega
end M2
namespace M10
open PySem L2 M2
def zfa(e0 e1:Str)(c:Int)(k:Nat):Str:=e0++⟨#[97+((c+11*(k:Int))%26).toNat]⟩++e1
def zbD(e0 e1:Str)(c:Int)(m:Nat):List Str:=(List.range m).map fun(k:Nat)=>zfa e0 e1 c k
theorem zhm(e0 e1:Str)(c:Int)(m:Nat):zbD e0 e1 c (m+1)=zbD e0 e1 c m ++ [zfa e0 e1 c m]:=by unfold zbD;rw[List.range_succ,List.map_append];rfl
theorem zeH(e0 e1:Str)(c:Int)(m:Nat):(zbD e0 e1 c m).length=m:=by unfold zbD;simp
theorem zeP(e0 e1:Str)(c:Int)(k:Nat):(zfa e0 e1 c k).cps.toList=e0.cps.toList ++ [97+((c+11*(k:Int))%26).toNat]++e1.cps.toList:=by
 show(e0.cps ++ #[97+((c+11*(k:Int))%26).toNat]++e1.cps).toList=_
 rw[Array.toList_append,Array.toList_append]
theorem zf0(e0 e1:Str)(c:Int){m:Nat}(hm:m≤26):(zbD e0 e1 c m).Nodup:=by
 unfold zbD
 refine List.pairwise_map.mpr (List.Pairwise.imp_of_mem (fun {i j} hi hj hlt e=>?_) (List.pairwise_lt_range (n:=m)))
 have hi:=List.mem_range.mp hi
 have hj:=List.mem_range.mp hj
 have h:=congrArg (fun s:Str=>s.cps.toList) e
 simp only[zeP,List.append_assoc] at h
 have h2:=List.append_cancel_left h
 have h3:97+((c+11*(i:Int))%26).toNat=97+((c+11*(j:Int))%26).toNat:=by
  have:=List.cons.inj (show(97+((c+11*(i:Int))%26).toNat)::e1.cps.toList=(97+((c+11*(j:Int))%26).toNat)::e1.cps.toList from h2)
  exact this.1
 omega
theorem zhL{e0 e1:Str}(c:Int)(k:Nat)(hl:e0.length+e1.length≤7)(h0:∀x∈e0.cps.toList,zb5 x=true)(h1:∀x∈e1.cps.toList,zb5 x=true):zdE (zfa e0 e1 c k)=true:=by
 rw[zck]
 have hlen:(zfa e0 e1 c k).length=e0.length+1+e1.length:=by unfold zfa;rw[zge,zge];rfl
 refine⟨by omega,fun x hx=>?_⟩
 rw[zeP] at hx
 rcases List.mem_append.mp hx with hx | hx
 ·rcases List.mem_append.mp hx with hx | hx
  ·exact h0 x hx
  ·have e:x=97+((c+11*(k:Int))%26).toNat:=List.mem_singleton.mp hx
   have:=Int.emod_nonneg (c+11*(k:Int)) (show(26:Int)≠0 by decide)
   have:=Int.emod_lt_of_pos (c+11*(k:Int)) (show(0:Int)<26 by decide)
   unfold zb5
   rw[e,decide_eq_true (by omega),decide_eq_true (by omega)]
   rfl
 ·exact h1 x hx
theorem ends_ok(z p:Fin 8)(h:p.val≤z.val):(PySem.Txt.slice "vwxyzab" none (some (p.val:Int))).length+(PySem.Txt.slice "vwxyzab" (some (p.val:Int)) (some (z.val:Int))).length≤7 ∧
 (∀x∈(PySem.Txt.slice "vwxyzab" none (some (p.val:Int))).cps.toList,zb5 x=true)∧∀x∈(PySem.Txt.slice "vwxyzab" (some (p.val:Int)) (some (z.val:Int))).cps.toList,zb5 x=true:=by
 revert z p
 decide +kernel
end M10
namespace M3
open PySem L2
def got(ms:List Int)(n:Int):List Int:=ms.filter fun m=>decide (m≤n)
def cnt(ms:List Int)(n:Int):Nat:=(got ms n).length
def sm(ms:List Int)(n:Int):Int:=(got ms n).sum
def isF(ms:List Int)(f:Int):Prop:=ms.length<2*cnt ms f∧2*cnt ms (f - 1)≤ms.length
theorem zcV{ms:List Int}{a b:Int}(h:a≤b):cnt ms a≤cnt ms b:=by
 unfold cnt got
 induction ms with
 | nil=>exact Nat.le_refl _
 | cons x ms ih =>
   rw[List.filter_cons,List.filter_cons]
   by_cases h1:x≤a
   ·rw[if_pos (decide_eq_true h1),if_pos (decide_eq_true (by omega)),List.length_cons,List.length_cons];omega
   ·rw[if_neg (by simpa using h1)]
    split
    ·rw[List.length_cons];omega
    ·exact ih
theorem zaX{ms:List Int}{f g:Int}(h1:isF ms f)(h2:isF ms g):f=g:=by
 unfold isF at h1 h2
 rcases Int.lt_trichotomy f g with h | h | h
 ·have:=zcV (ms:=ms) (show f≤g - 1 by omega);omega
 ·exact h
 ·have:=zcV (ms:=ms) (show g≤f - 1 by omega);omega
theorem zif{ms:List Int}{n:Int}(h:∀x∈ms,n<x):cnt ms n=0:=by
 unfold cnt got
 rw[List.filter_eq_nil_iff.mpr]
 ·rfl
 ·intro x hx;have:=h x hx;simp;omega
theorem zgx{ms:List Int}{n:Int}(h:∀x∈ms,x≤n):cnt ms n=ms.length:=by
 unfold cnt got
 rw[List.filter_eq_self.mpr]
 intro x hx;have:=h x hx;simp;omega
theorem zhs(ms:List Int)(n:Int):cnt ms n≤ms.length:=List.length_filter_le _ _
theorem zbu{ms:List Int}{f:Int}(h:isF ms f)(lo hi:Int)(hl:∀x∈ms,lo≤x∧x≤hi):lo≤f∧f≤hi:=by
 unfold isF at h
 constructor
 ·by_cases c:lo≤f
  ·exact c
  ·have:=zif (ms:=ms) (n:=f) fun x hx=>by have:=(hl x hx).1;omega
   omega
 ·by_cases c:f≤hi
  ·exact c
  ·have:=zgx (ms:=ms) (n:=f - 1) fun x hx=>by have:=(hl x hx).2;omega
   have:=zhs ms f
   omega
theorem zhl{ms:List Int}{i:Nat}(n:Int)(hi:i<ms.length):got (ms.take (i+1)) n=if ms.getD i 0≤n then got (ms.take i) n ++ [ms.getD i 0] else got (ms.take i) n:=by
 unfold got
 rw[wX hi,List.filter_append,List.filter_cons]
 by_cases h:ms.getD i 0≤n
 ·rw[if_pos (decide_eq_true h),if_pos h];rfl
 ·rw[if_neg (by simpa using h),if_neg h];simp
end M3
namespace L2
open PySem
inductive All2 {α β:Type} (R:α→β→Prop):List α→List β→Prop
 | nil:All2 R [] []
 | cons {a:α} {b:β} {as:List α} {bs:List β}:R a b→All2 R as bs→All2 R (a::as) (b::bs)
namespace All2
variable {α β:Type} {R S:α→β→Prop} {as as':List α} {bs bs':List β}
theorem length(h:All2 R as bs):as.length=bs.length:=by
 induction h with
 | nil=>rfl
 | cons _ _ ih=>rw[List.length_cons,List.length_cons,ih]
theorem imp(f:∀a b,R a b→S a b)(h:All2 R as bs):All2 S as bs:=by
 induction h with
 | nil=>exact .nil
 | cons r _ ih=>exact .cons (f _ _ r) ih
theorem append(h:All2 R as bs)(h':All2 R as' bs'):All2 R (as++as') (bs++bs'):=by
 induction h with
 | nil=>exact h'
 | cons r _ ih=>exact .cons r ih
theorem snoc{a:α}{b:β}(h:All2 R as bs)(r:R a b):All2 R (as ++ [a]) (bs ++ [b]):=h.append (.cons r .nil)
theorem get(h:All2 R as bs):∀{i:Nat} {b:β},bs[i]? = some b→∃a,as[i]? = some a∧R a b:=by
 induction h with
 | nil=>intro i b e;simp at e
 | cons r _ ih =>
   intro i b e
   cases i with
   | zero=>simp only[List.getElem?_cons_zero] at e ⊢;cases e;exact⟨_,rfl,r⟩
   | succ i=>simp only[List.getElem?_cons_succ] at e ⊢;exact ih e
theorem getL(h:All2 R as bs):∀{i:Nat} {a:α},as[i]? = some a→∃b,bs[i]? = some b∧R a b:=by
 induction h with
 | nil=>intro i b e;simp at e
 | cons r _ ih =>
   intro i b e
   cases i with
   | zero=>simp only[List.getElem?_cons_zero] at e ⊢;cases e;exact⟨_,rfl,r⟩
   | succ i=>simp only[List.getElem?_cons_succ] at e ⊢;exact ih e
end All2
def zds{α:Type}(K:PySem.W.Frag)(R:Hp→Addr→α→Prop)(H:Hp)(a:Addr)(xs:List α):Prop:=∃ls:List Addr,SqL K H a (ls.map V.ref)∧All2 (R H) ls xs
def zgX{α:Type}(R:Hp→Addr→α→Prop):Prop:=∀H H' l x,zh H H'→R H l x→R H' l x
theorem zds.same{α:Type}{K:PySem.W.Frag}{R:Hp→Addr→α→Prop}(st:zgX R){H H':Hp}{a:Addr}{xs:List α}(s:zh H H')(h:zds K R H a xs):zds K R H' a xs:=by
 obtain⟨ls,q,r⟩:=h
 exact⟨ls,s.seq q,r.imp fun a b=>st _ _ _ _ s⟩
def IL(K:PySem.W.Frag)(H:Hp)(l:Addr)(c:List Int):Prop:=SqL K H l (c.map V.int)
def TPl(K:PySem.W.Frag)(H:Hp)(l:Addr)(p:Int × Int):Prop:=SqT K H l [.int p.1,.int p.2]
theorem IL.stays(K:PySem.W.Frag):zgX (IL K):=fun _ _ _ _ s h=>zh.seq s h
theorem TPl.stays(K:PySem.W.Frag):zgX (TPl K):=fun _ _ _ _ s h=>s.seqT h
theorem zaf{ls:List Addr}{i:Nat}{l:Addr}(h:ls[i]? = some l):(ls.map V.ref)[i]? = some (.ref l):=by rw[List.getElem?_map,h];rfl
theorem zby{ls:List Addr}{i:Nat}{x:V}(h:(ls.map V.ref)[i]? = some x):∃l,ls[i]? = some l∧x=.ref l:=by
 rw[List.getElem?_map] at h
 cases e:ls[i]? with
 | none=>rw[e] at h;cases h
 | some l=>rw[e] at h;cases h;exact⟨l,rfl,rfl⟩
theorem SqT.put{K:PySem.W.Frag}{H:Hp}{a p:Addr}{xs ys:List V}{o:HO}(h:SqT K H a xs)(hp:H p=some (.lst ys)):SqT K (upd H p o) a xs:=by
 rcases h with(h | ⟨u,h⟩) | h
 ·exact .inl (.inl (by rw[zj (fun e=>by rw[e,hp] at h;cases h)];exact h))
 ·exact .inl (.inr ⟨u,by rw[zj (fun e=>by rw[e,hp] at h;cases h)];exact h⟩)
 ·exact .inr h
theorem zg7{H:Hp}{l:Addr}(ls:List Addr)(x:Addr):upd H l (.lst (ls.map V.ref ++ [V.ref x])) l=some (.lst ((ls ++ [x]).map V.ref)):=zf.trans (congrArg (fun l=>some (HO.lst l)) (by rw[List.map_append];rfl))
theorem pe_both{X:Cx}{e:Expr}{t u:TE}(h1:PE X e t)(h2:PE X e u):PE X e (fun σ H Q=>t σ H Q∨u σ H Q):=by
 intro pins s σ H Q I h
 rcases h with h | h
 ·exact h1 pins s σ H Q I h
 ·exact h2 pins s σ H Q I h
structure Sh where
 couples:List Int
 struck:List Int
 panel:List Str
 card:Str→Option (List Int)
 taken:Nat
 shut:Bool
namespace Sh
structure Ok (S:Sh):Prop where
 c1:1≤S.couples.length
 c24:S.couples.length+S.struck.length≤24
 nd:S.couples.Nodup
 rng:∀c∈S.couples,1≤c∧c≤999
 p1:1≤S.panel.length
 p15:S.panel.length≤15
 pnd:S.panel.Nodup
 cd:∀j c,S.card j=some c→j∈S.panel∧c.Perm S.couples
 t200:S.taken≤200
def handed(S:Sh):List Str:=S.panel.filter fun j=>(S.card j).isSome
def cardsIn(S:Sh):List (List Int):=S.handed.map fun j=>(S.card j).getD []
def new(us:List Int)(ts:List Str):Sh:=⟨us,[],ts,fun _=>none,0,false⟩
def hand(S:Sh)(j:Str)(c:List Int):Sh:={ S with card:=fun k=>if k=j then some c else S.card k,taken:=S.taken+1 }
def refuse(S:Sh)(j:Str)(c:List Int):Option Str :=
 if S.shut=true then some "SheetSealed" else if j∈S.panel then(if c.Perm S.couples then(if 200≤S.taken then some "TooManyCards" else none)else some "BadCard")else some "UnknownJudge"
theorem Ok.new{us:List Int}{ts:List Str}(h1:M1.zbq us=true)(h2:M2.zb9 ts=true):(new us ts).Ok:=by
 have g1:=h1
 unfold M1.zbq at g1
 simp only[Bool.and_eq_true,decide_eq_true_eq,List.all_map,List.all_eq_true,Function.comp,id] at g1
 obtain⟨⟨a1,a2⟩,a3,a4⟩:=g1
 obtain⟨⟨b1,b2⟩,b3,_⟩:=(M2.zcn ts).mp h2
 exact⟨by show 1≤us.length;omega,by show us.length+0≤24;omega,a3,a4,b1,b2,b3,(fun _ _ h=>nomatch h),Nat.zero_le _⟩
theorem Ok.hand{S:Sh}(h:S.Ok){j:Str}{c:List Int}(hr:S.refuse j c=none):(S.hand j c).Ok∧j∈S.panel∧c.Perm S.couples∧S.taken<200∧S.shut=false:=by
 unfold refuse at hr
 split at hr
 ·cases hr
 rename_i h1
 split at hr
 rename_i h2
 split at hr
 rename_i h3
 split at hr
 ·cases hr
 rename_i h4
 ·refine⟨⟨h.c1,h.c24,h.nd,h.rng,h.p1,h.p15,h.pnd,fun k d e=>?_,by show S.taken+1≤200;omega⟩,h2,h3,by omega,by simpa using h1⟩
  have e:(if k=j then some c else S.card k)=some d:=e
  by_cases ek:k=j
  ·rw[if_pos ek] at e
   cases e
   subst ek
   exact⟨h2,h3⟩
  ·rw[if_neg ek] at e
   exact h.cd k d e
 ·cases hr
 ·cases hr
end Sh
def shF(a1 a2 a3 d:Addr)(S:Sh):List (Str × V) := [("standing",.ref a1),("struck_so_far",.ref a2),("panel",.ref a3),("card_by_judge",.ref d),("taken_so_far",.int S.taken),("sealed",.bl S.shut)]
structure Shape (K:PySem.W.Frag) (H:Hp) (p:Addr) (F:Addr→Prop) (S:Sh) (dx a1 a2 a3 d:Addr) (kvs:List (Key × V)):Prop where
 ip:H p=some (.ins (zN K "Sheet") dx (shF a1 a2 a3 d S))
 i1:H a1=some (.lst (S.couples.map V.int))
 i2:H a2=some (.lst (S.struck.map V.int))
 i3:H a3=some (.lst (S.panel.map V.str))
 i4:H d=some (.dK kvs)
 kl:kvs.length≤S.taken
 cn:∀j,S.card j=none→zaP kvs (Sum.inr j)=none
 cs:∀j c,S.card j=some c→∃l,zaP kvs (Sum.inr j)=some (.ref l)∧H l=some (.lst (c.map V.int))∧F l∧l≠a2
 fp:F p
 f1:F a1
 f2:F a2
 f3:F a3
 f4:F d
 n12:a1≠a2
 n32:a3≠a2
 fh:∀b,F b→H b≠none
structure SheetIn (K:PySem.W.Frag) (H:Hp) (p:Addr) (F:Addr→Prop) (S:Sh) (dx a1 a2 a3 d:Addr) (kvs:List (Key × V)):Prop extends Shape K H p F S dx a1 a2 a3 d kvs where
 ok:S.Ok
def zih(K:PySem.W.Frag)(H:Hp)(p:Addr)(F:Addr→Prop)(S:Sh):Prop:=∃dx a1 a2 a3 d kvs,Shape K H p F S dx a1 a2 a3 d kvs
def zx(K:PySem.W.Frag)(H:Hp)(p:Addr)(F:Addr→Prop)(S:Sh):Prop:=∃dx a1 a2 a3 d kvs,SheetIn K H p F S dx a1 a2 a3 d kvs
theorem SheetIn.off{K:PySem.W.Frag}{H H':Hp}{p:Addr}{F:Addr→Prop}{S:Sh}{dx a1 a2 a3 d:Addr}{kvs:List (Key × V)}(h:SheetIn K H p F S dx a1 a2 a3 d kvs)(e:∀b,F b→H' b=H b):SheetIn K H' p F S dx a1 a2 a3 d kvs :=
 ⟨⟨(e _ h.fp).trans h.ip,(e _ h.f1).trans h.i1,(e _ h.f2).trans h.i2,(e _ h.f3).trans h.i3,(e _ h.f4).trans h.i4,h.kl,h.cn,
  fun j c hc=>let ⟨l,x1,x2,x3,x4⟩:=h.cs j c hc;⟨l,x1,(e _ x3).trans x2,x3,x4⟩,h.fp,h.f1,h.f2,h.f3,h.f4,h.n12,h.n32,fun b hb=>by rw[e b hb];exact h.fh b hb⟩,h.ok⟩
theorem zx.off{K:PySem.W.Frag}{H H':Hp}{p:Addr}{F:Addr→Prop}{S:Sh}(h:zx K H p F S)(e:∀b,F b→H' b=H b):zx K H' p F S:=by
 obtain⟨dx,a1,a2,a3,d,kvs,h⟩:=h
 exact⟨dx,a1,a2,a3,d,kvs,h.off e⟩
theorem zx.fh{K:PySem.W.Frag}{H:Hp}{p:Addr}{F:Addr→Prop}{S:Sh}(h:zx K H p F S):∀b,F b→H b≠none:=by
 obtain⟨dx,a1,a2,a3,d,kvs,h⟩:=h
 exact h.fh
theorem zx.ok{K:PySem.W.Frag}{H:Hp}{p:Addr}{F:Addr→Prop}{S:Sh}(h:zx K H p F S):S.Ok:=by
 obtain⟨dx,a1,a2,a3,d,kvs,h⟩:=h
 exact h.ok
theorem zx.shape{K:PySem.W.Frag}{H:Hp}{p:Addr}{F:Addr→Prop}{S:Sh}(h:zx K H p F S):zih K H p F S:=by
 obtain⟨dx,a1,a2,a3,d,kvs,h⟩:=h
 exact⟨dx,a1,a2,a3,d,kvs,h.toShape⟩
theorem zx.same{K:PySem.W.Frag}{H H':Hp}{p:Addr}{F:Addr→Prop}{S:Sh}(h:zx K H p F S)(s:zh H H'):zx K H' p F S:=h.off fun b hb=>by
 have:=h.fh b hb
 cases e:H b with
 | none=>exact absurd e this
 | some o=>exact s b o e
def zdo(F:Addr→Prop)(H:Hp)(F':Addr→Prop)(H':Hp):Prop:=∀b o,H b=some o→¬F b→H' b=some o∧¬F' b
def LQ(K:PySem.W.Frag)(F:Addr→Prop)(H:Hp)(a:Addr)(xs:List V):Prop :=
 (Rd H a (.lst xs)∧¬F a)∨∃(o:Obj) (its:Array Value) (n:Nat),K.lookup a=some o∧o.cls=.type "list" ∧ o.dict=none∧o.data=.seq its n∧its.size≤sizeLine∧zA xs its.toList
theorem LQ.sq{K:PySem.W.Frag}{F:Addr→Prop}{H:Hp}{a:Addr}{xs:List V}(h:LQ K F H a xs):SqL K H a xs:=h.imp (fun z=>z.1) id
theorem LQ.deed{K:PySem.W.Frag}{F F':Addr→Prop}{H H':Hp}{a:Addr}{xs:List V}(h:LQ K F H a xs)(d:zdo F H F' H'):LQ K F' H' a xs:=by
 rcases h with⟨r | ⟨o,r⟩,n⟩ | h
 ·exact .inl ⟨.inl (d a _ r n).1,(d a _ r n).2⟩
 ·exact .inl ⟨.inr ⟨o,(d a _ r n).1⟩,(d a _ r n).2⟩
 ·exact .inr h
theorem LQ.of{K:PySem.W.Frag}{F:Addr→Prop}{H:Hp}{a:Addr}{xs:List V}(h:H a=some (.lst xs))(n:¬F a):LQ K F H a xs:=.inl ⟨.inl h,n⟩
theorem SqL.none{K:PySem.W.Frag}{H:Hp}{a:Addr}{xs:List V}(h:SqL K H a xs):LQ K (fun _=>False) H a xs:=h.imp (fun z=>⟨z,fun w=>w⟩) id
theorem zdo.same{F:Addr→Prop}{H H':Hp}(s:zh H H'):zdo F H F H':=fun b o e n=>⟨s b o e,n⟩
theorem zdo.trans{F F1 F2:Addr→Prop}{H H1 H2:Hp}(a:zdo F H F1 H1)(b:zdo F1 H1 F2 H2):zdo F H F2 H2:=fun c o e n=>b c o (a c o e n).1 (a c o e n).2
theorem zc6{H:Hp}{x l:Addr}{o u i:HO}(hx:H x=some i)(hl:H l=none):upd (upd H l o) x u x=some u∧upd (upd H l o) x u l=some o∧l≠x∧∀b v,H b=some v→b≠x→upd (upd H l o) x u b=some v:=by
 have n:l≠x:=fun e=>by rw[e,hx] at hl;cases hl
 exact⟨zf,by rw[zj n];exact zf,n,fun b v e nb=>by rw[zj nb,zj (zq e hl)];exact e⟩
theorem putF_hit(f:Str)(v x:V)(r:List (Str × V)):wR f v ((f,x)::r)=(f,v)::r:=by rw[wR,if_pos rfl]
theorem ya{f g:Str}(v x:V)(r:List (Str × V))(h:g≠f):wR f v ((g,x)::r)=(g,x)::wR f v r:=by rw[wR,if_neg h]
theorem pf1(v:V):wR "standing" v []=([("standing",v)]:List (Str × V)):=rfl
theorem pf2(u v:V):wR "struck_so_far" v [("standing",u)]=([("standing",u),("struck_so_far",v)]:List (Str × V)):=by rw[ya _ _ _ (by decide)];rfl
theorem pf3(u w v:V):wR "panel" v [("standing",u),("struck_so_far",w)]=([("standing",u),("struck_so_far",w),("panel",v)]:List (Str × V)):=by rw[ya _ _ _ (by decide),ya _ _ _ (by decide)];rfl
theorem pf4(u w y v:V):wR "card_by_judge" v [("standing",u),("struck_so_far",w),("panel",y)]=([("standing",u),("struck_so_far",w),("panel",y),("card_by_judge",v)]:List (Str × V)):=by rw[ya _ _ _ (by decide),ya _ _ _ (by decide),ya _ _ _ (by decide)];rfl
theorem pf5(u w y z v:V):wR "taken_so_far" v [("standing",u),("struck_so_far",w),("panel",y),("card_by_judge",z)]=([("standing",u),("struck_so_far",w),("panel",y),("card_by_judge",z),("taken_so_far",v)]:List (Str × V)):=by rw[ya _ _ _ (by decide),ya _ _ _ (by decide),ya _ _ _ (by decide),ya _ _ _ (by decide)];rfl
theorem pf6(u w y z t v:V):wR "sealed" v [("standing",u),("struck_so_far",w),("panel",y),("card_by_judge",z),("taken_so_far",t)]=([("standing",u),("struck_so_far",w),("panel",y),("card_by_judge",z),("taken_so_far",t),("sealed",v)]:List (Str × V)):=by rw[ya _ _ _ (by decide),ya _ _ _ (by decide),ya _ _ _ (by decide),ya _ _ _ (by decide),ya _ _ _ (by decide)];rfl
theorem pf_taken(a1 a2 a3 d:Addr)(S S':Sh)(h2:S'.shut=S.shut):wR "taken_so_far" (.int S'.taken) (shF a1 a2 a3 d S)=shF a1 a2 a3 d S':=by
 unfold shF
 rw[ya _ _ _ (by decide),ya _ _ _ (by decide),ya _ _ _ (by decide),ya _ _ _ (by decide),putF_hit,h2]
theorem zx.ins{K:PySem.W.Frag}{H:Hp}{p:Addr}{F:Addr→Prop}{S:Sh}(h:zx K H p F S):∃dx a1 a2 a3 d,H p=some (.ins (zN K "Sheet") dx (shF a1 a2 a3 d S)):=by
 obtain⟨dx,a1,a2,a3,d,kvs,h⟩:=h
 exact⟨dx,a1,a2,a3,d,h.ip⟩
def Sh.rows(S:Sh):List (List Int):=S.panel.map fun j=>(S.card j).getD []
def wu(cs:List (List Int)):List Int:=((List.range cs.length).filter fun k => !decide (cs.getD k [] = [])).map fun(k:Nat)=>(k:Int)
theorem zd1{α:Type}(l:List α)(d:α):(List.range l.length).map (fun k=>l.getD k d)=l:=by
 refine List.ext_getElem (by simp) fun i h1 h2=>?_
 simp[h2]
theorem zfd{cs:List (List Int)}{x:Int}(h:x∈wu cs):0≤x∧x.toNat<cs.length∧cs.getD x.toNat [] ≠ []:=by
 obtain⟨k,hk,rfl⟩:=List.mem_map.mp h
 obtain⟨h1,h2⟩:=List.mem_filter.mp hk
 have h1:=List.mem_range.mp h1
 refine⟨by omega,by simpa using h1,fun z=>?_⟩
 have e:((k:Int)).toNat=k:=by omega
 rw[e] at z
 rw[decide_eq_true z] at h2
 exact absurd h2 (by decide)
theorem intoK_len(cs:List (List Int)):(wu cs).length≤cs.length:=by
 unfold wu
 rw[List.length_map]
 exact Nat.le_trans (List.length_filter_le _ _) (by rw[List.length_range];exact Nat.le_refl _)
theorem Sh.rows_len(S:Sh):S.rows.length=S.panel.length:=by unfold rows;simp
theorem Sh.rows_at(S:Sh){k:Nat}(h:k<S.panel.length):S.rows.getD k []=(S.card (S.panel.getD k "")).getD []:=by
 unfold rows
 rw[List.getD_eq_getElem?_getD,List.getD_eq_getElem?_getD,List.getElem?_map,List.getElem?_eq_getElem h]
 rfl
theorem Sh.Ok.full{S:Sh}(h:S.Ok){j:Str}{c:List Int}(e:S.card j=some c):c ≠ []:=fun z=>by
 have:=(h.cd j c e).2.length_eq
 have h1:=h.c1
 rw[z] at this
 simp at this
 omega
theorem Sh.into_names{S:Sh}(h:S.Ok):(wu S.rows).map (fun x=>S.panel.getD x.toNat "")=S.handed:=by
 unfold wu Sh.handed
 rw[List.map_map]
 conv=>rhs;rw[← zd1 S.panel ""]
 rw[List.filter_map,Sh.rows_len]
 have e:(List.range S.panel.length).filter (fun k => !decide (S.rows.getD k [] = []))=(List.range S.panel.length).filter ((fun j=>(S.card j).isSome) ∘ fun k=>S.panel.getD k ""):=by
  refine List.filter_congr fun k hk=>?_
  have hk:=List.mem_range.mp hk
  rw[S.rows_at hk]
  show _=(S.card (S.panel.getD k "")).isSome
  cases e:S.card (S.panel.getD k "")with
  | none=>rfl
  | some c=>rw[show(some c).getD ([]:List Int)=c from rfl,decide_eq_false (h.full e)];rfl
 rw[e]
 refine List.map_congr_left fun k _=>?_
 show S.panel.getD ((k:Int)).toNat "" = _
 rw[show((k:Int)).toNat=k by omega]
theorem zeO(cs:List (List Int))(i:Nat):(((List.range (i+1)).filter fun k => !decide (cs.getD k [] = [])).map fun(k:Nat)=>(k:Int))=(((List.range i).filter fun k => !decide (cs.getD k [] = [])).map fun(k:Nat)=>(k:Int))++(if cs.getD i [] = [] then [] else [(i:Int)]):=by
 rw[List.range_succ,List.filter_append,List.map_append]
 congr 1
 by_cases h:cs.getD i [] = []
 ·rw[if_pos h,List.filter_cons,if_neg (by rw[decide_eq_true h];decide)];rfl
 ·rw[if_neg h,List.filter_cons,if_pos (by rw[decide_eq_false h];rfl)];rfl
theorem All2.at{α β:Type}{R:α→β→Prop}{as:List α}{bs:List β}(h:All2 R as bs){i:Nat}(hi:i<bs.length)(d:β):∃a,as[i]? = some a∧R a (bs.getD i d):=by
 have e:bs[i]? = some (bs.getD i d):=by rw[List.getD_eq_getElem?_getD,List.getElem?_eq_getElem hi];rfl
 exact h.get e
theorem All2.set{α β:Type}{R:α→β→Prop}{as:List α}{bs:List β}(h:All2 R as bs){a:α}{b:β}(r:R a b):∀k,All2 R (as.set k a) (bs.set k b):=by
 induction h with
 | nil=>intro k;exact .nil
 | cons r' h' ih =>
   intro k
   cases k with
   | zero=>exact .cons r h'
   | succ k=>exact .cons r' (ih k)
def Rows(F:Addr→Prop)(H:Hp)(lc:Addr)(ls:List Addr)(cs:List (List Int)):Prop:=H lc=some (.lst (ls.map V.ref))∧¬F lc∧All2 (fun l c=>H l=some (.lst (c.map V.int))∧¬F l) ls cs
theorem Rows.len{F:Addr→Prop}{H:Hp}{lc:Addr}{ls:List Addr}{cs:List (List Int)}(h:Rows F H lc ls cs):ls.length=cs.length:=h.2.2.length
theorem zdX{ls:List Addr}{c:List Int}(h:ls ≠ []):(HO.lst (c.map V.int)) ≠ .lst (ls.map V.ref):=fun z=>by
 injection z with z
 cases ls with
 | nil=>exact h rfl
 | cons l ls=>cases c with
   | nil=>cases z
   | cons x c=>simp at z
theorem Rows.set{F:Addr→Prop}{H:Hp}{lc:Addr}{ls:List Addr}{cs:List (List Int)}(h:Rows F H lc ls cs)(hne:ls ≠ []){m:Addr}{c:List Int}(hm:H m=some (.lst (c.map V.int)))(nm:¬F m)(k:Nat):
 Rows F (upd H lc (.lst ((ls.map V.ref).set k (.ref m)))) lc (ls.set k m) (cs.set k c):=by
 refine⟨by rw[zf,List.map_set],h.2.1,All2.set (h.2.2.imp fun l c z=>⟨?_,z.2⟩) ⟨?_,nm⟩ k⟩
 ·rw[zj (zaw z.1 h.1 (zdX hne))];exact z.1
 ·rw[zj (zaw hm h.1 (zdX hne))];exact hm
theorem Sh.rows_hand{S:Sh}(h:S.panel.Nodup){k:Nat}(hk:k<S.panel.length)(c:List Int):(S.hand (S.panel.getD k "") c).rows=S.rows.set k c:=by
 unfold Sh.rows
 refine List.ext_getElem (by simp;rfl) fun i h1 h2=>?_
 have hi:i<S.panel.length:=by simpa using h2
 rw[List.getElem_set]
 have e1:((S.hand (S.panel.getD k "") c).panel.map fun j=>((S.hand (S.panel.getD k "") c).card j).getD [])[i]=(if S.panel[i]=S.panel.getD k "" then some c else S.card S.panel[i]).getD []:=by
  rw[List.getElem_map]
  rfl
 rw[e1]
 have ek:S.panel.getD k "" = S.panel[k]:=by rw[List.getD_eq_getElem?_getD,List.getElem?_eq_getElem hk];rfl
 by_cases hki:k=i
 ·subst hki
  rw[if_pos ek.symm,if_pos rfl]
  rfl
 ·rw[if_neg hki,if_neg (fun z=>hki (List.getElem_inj h |>.mp (z.trans ek)).symm),List.getElem_map]
end L2
namespace M5
open PySem L2 M3
def key(ms:List Int):Nat→List Int
 | 0 => []
 | k+1=>(fun a:List Int=>if a = [] then [] else a ++ [-((got ms ((k:Int)+1)).length:Int),(got ms ((k:Int)+1)).sum])
    (if key ms k = []∧ms.length<2*(got ms ((k:Int)+1)).length then [(k:Int)+1] else key ms k)
def zm(cs:List (List Int))(c:Int):List Int:=cs.map fun card=>(card.idxOf c:Int)+1
def zhb(rs:List (List Int))(m:List Int):Nat:=(rs.filter fun r=>HT.lexLt r m).length
def rows(ps us:List Int):List (Int × Int):=(List.range us.length).flatMap fun(i:Nat)=>(ps.zip us).filter fun p=>decide (p.1=(i:Int)+1)
theorem wJ(cs:List (List Int))(c:Int):(zm cs c).length=cs.length:=by unfold zm;simp
theorem rows_len(ps us:List Int)(h:ps.length=us.length):(rows ps us).length≤us.length*us.length:=by
 unfold rows
 have go:∀n:Nat,((List.range n).flatMap fun(i:Nat)=>(ps.zip us).filter fun p=>decide (p.1=(i:Int)+1)).length≤n*us.length:=fun n=>by
  induction n with
  | zero=>simp
  | succ n ih =>
    rw[List.range_succ,List.flatMap_append,List.length_append,Nat.succ_mul]
    have h1:=List.length_filter_le (fun p=>decide (p.1=(n:Int)+1)) (ps.zip us)
    rw[List.length_zip,h,Nat.min_self] at h1
    have e:List.flatMap (fun(i:Nat)=>(ps.zip us).filter fun p=>decide (p.1=(i:Int)+1)) [n]=(ps.zip us).filter fun p=>decide (p.1=(n:Int)+1):=by simp
    rw[e]
    omega
 exact go us.length
end M5
namespace M6
open PySem L2 M3 M5
abbrev Sg:=Option (Int × Int)
def sg(a:List Int)(k:Int):Sg:=if a.length<2*cnt a k then some ((cnt a k:Int),sm a k)else none
def olt:Sg→Sg→Bool
 | some _,none=>true
 | none,_=>false
 | some p,some q=>decide (q.1<p.1) || (decide (p.1=q.1) && decide (p.2<q.2))
def zR:List Sg→List Sg→Bool
 | x::xs,y::ys=>if x=y then zR xs ys else olt x y
 | _,_=>false
def yI(a:List Int)(n:Nat):List Sg:=(List.range n).map fun(i:Nat)=>sg a ((i:Int)+1)
def zS(a b:List Int)(n:Nat):Bool:=zR (yI a n) (yI b n)
def tl(a:List Int)(f m:Nat):List Int:=(List.range m).flatMap fun(i:Nat) => [-(cnt a ((f:Int)+i):Int),sm a ((f:Int)+i)]
theorem sg_none{a:List Int}{k:Int}(h:2*cnt a k≤a.length):sg a k=none:=by unfold sg;rw[if_neg (by omega)]
theorem sg_some{a:List Int}{k:Int}(h:a.length<2*cnt a k):sg a k=some ((cnt a k:Int),sm a k):=by unfold sg;rw[if_pos h]
theorem zh4{a:List Int}{n k:Int}(h:∀x∈a,x≤n)(hk:n≤k):sg a k=sg a n:=by
 have e:got a k=got a n:=by
  unfold got
  exact List.filter_congr fun x hx=>by
   have:=h x hx
   rw[decide_eq_true (by omega),decide_eq_true this]
 unfold sg cnt sm
 rw[e]
theorem zfc(a:List Int)(n:Nat):yI a (n+1)=yI a n ++ [sg a ((n:Int)+1)]:=by unfold yI;rw[List.range_succ,List.map_append];rfl
theorem zan(a:List Int)(n:Nat):(yI a n).length=n:=by unfold yI;simp
theorem zcM:∀{xs ys:List Sg} {x y:Sg},xs.length=ys.length→(x=y∨xs≠ys)→zR (xs ++ [x]) (ys ++ [y])=zR xs ys
 | [],[],x,y,_,h=>by
   rcases h with h | h
   ·subst h;show(if x=x then false else olt x x)=false;rw[if_pos rfl]
   ·exact absurd rfl h
 | p::xs,q::ys,x,y,hl,h=>by
   rw[List.cons_append,List.cons_append,zR,zR]
   by_cases e:p=q
   ·subst e
    rw[if_pos rfl,if_pos rfl]
    exact zcM (by simpa using hl) (h.imp id fun z w=>z (by rw[w]))
   ·rw[if_neg e,if_neg e]
theorem zcG{a b:List Int}{n:Nat}(h1:1≤n)(ha:∀x∈a,x≤n)(hb:∀x∈b,x≤n):∀k,zS a b (n+k)=zS a b n
 | 0=>rfl
 | k+1=>by
   rw[← zcG h1 ha hb k]
   show zR (yI a ((n+k)+1)) (yI b ((n+k)+1))=_
   rw[zfc,zfc]
   refine zcM (by rw[zan,zan]) ?_
   by_cases e:yI a (n+k)=yI b (n+k)
   ·left
    have:(yI a (n+k))[n - 1]? = (yI b (n+k))[n - 1]? := by rw[e]
    unfold yI at this
    rw[List.getElem?_map,List.getElem?_map,List.getElem?_range (by omega)] at this
    have this:sg a (((n - 1:Nat):Int)+1)=sg b (((n - 1:Nat):Int)+1):=Option.some.inj this
    have en:((n - 1:Nat):Int)+1=(n:Int):=by omega
    rw[en] at this
    rw[zh4 ha (by omega),zh4 hb (by omega)]
    exact this
   ·exact .inr e
theorem ahead_any{a b:List Int}{n m:Nat}(h1:1≤n)(hm:1≤m)(ha:∀x∈a,x≤n∧x≤m)(hb:∀x∈b,x≤n∧x≤m):zS a b n=zS a b m:=by
 rcases Nat.le_total n m with h | h
 ·obtain⟨k,rfl⟩:=Nat.exists_eq_add_of_le h
  exact(zcG h1 (fun x hx=>(ha x hx).1) (fun x hx=>(hb x hx).1) k).symm
 ·obtain⟨k,rfl⟩:=Nat.exists_eq_add_of_le h
  exact zcG hm (fun x hx=>(ha x hx).2) (fun x hx=>(hb x hx).2) k
def word:Sg→Sg→Str
 | some p,some q=>if p.1=q.1 then "sum" else "count"
 | _,_=> "half"
def yS(a b:List Int)(n:Nat):Option (Nat × Str)→Prop
 | none=>∀k:Nat,1≤k→k≤n→sg a k=sg b k
 | some r=>1≤r.1∧r.1≤n∧(∀j:Nat,1≤j→j<r.1→sg a j=sg b j)∧sg a r.1≠sg b r.1∧r.2=word (sg a r.1) (sg b r.1)
theorem za8{a b:List Int}{n:Nat}{r r':Option (Nat × Str)}(h:yS a b n r)(h':yS a b n r'):r=r':=by
 cases r with
 | none =>
   cases r' with
   | none=>rfl
   | some q=>exact absurd (h q.1 h'.1 h'.2.1) h'.2.2.2.1
 | some p =>
   cases r' with
   | none=>exact absurd (h' p.1 h.1 h.2.1) h.2.2.2.1
   | some q =>
     obtain⟨k,w⟩:=p
     obtain⟨j,v⟩:=q
     obtain⟨a1,a2,a3,a4,a5⟩:=h
     obtain⟨b1,b2,b3,b4,b5⟩:=h'
     dsimp only at a1 a2 a3 a4 a5 b1 b2 b3 b4 b5
     have e:k=j:=by
      rcases Nat.lt_trichotomy k j with c | c | c
      ·exact absurd (b3 k a1 c) a4
      ·exact c
      ·exact absurd (a3 j b1 c) b4
     subst e
     rw[a5,b5]
theorem zed:∀{xs ys:List Sg} (k:Nat) (h1:k<xs.length) (h2:k<ys.length),(∀j,j<k→xs[j]? = ys[j]?)→xs[k]≠ys[k]→zR xs ys=olt xs[k] ys[k]
 | x::xs,y::ys,0,_,_,_,hne=>by rw[zR,if_neg (show ¬x=y from hne)];rfl
 | x::xs,y::ys,k+1,h1,h2,he,hne=>by
   have e:x=y:=by have:=he 0 (by omega);simpa using this
   rw[zR,if_pos e]
   exact zed k (by simpa using h1) (by simpa using h2) (fun j hj=>by have:=he (j+1) (by omega);simpa using this) (by simpa using hne)
theorem zc1:∀(xs:List Sg),zR xs xs=false
 | []=>rfl
 | x::xs=>by rw[zR,if_pos rfl];exact zc1 xs
theorem za7(a:List Int){n k:Nat}(h:k<n):(yI a n)[k]? = some (sg a ((k:Int)+1)):=by
 unfold yI
 rw[List.getElem?_map,List.getElem?_range h]
 rfl
theorem zhA{a b:List Int}{n:Nat}(h:yS a b n none):zS a b n=false:=by
 have e:yI a n=yI b n:=by
  unfold yI
  refine List.map_congr_left fun i hi=>?_
  have hi:=List.mem_range.mp hi
  have:=h (i+1) (by omega) (by omega)
  have ei:((i+1:Nat):Int)=(i:Int)+1:=by omega
  rw[ei] at this
  exact this
 unfold zS
 rw[e]
 exact zc1 _
theorem zcD{a b:List Int}{n:Nat}{r:Nat × Str}(h:yS a b n (some r)):zS a b n=olt (sg a r.1) (sg b r.1):=by
 obtain⟨k,w⟩:=r
 obtain⟨a1,a2,a3,a4,a5⟩:=h
 dsimp only at a1 a2 a3 a4 a5 ⊢
 obtain⟨j,rfl⟩:∃j,k=j+1:=⟨k - 1,by omega⟩
 have ej:((j+1:Nat):Int)=(j:Int)+1:=by omega
 have l1:j<(yI a n).length:=by rw[zan];omega
 have l2:j<(yI b n).length:=by rw[zan];omega
 have g1:(yI a n)[j]=sg a ((j+1:Nat):Int):=by
  have:=za7 a (n:=n) (k:=j) (by omega)
  rw[List.getElem?_eq_getElem l1] at this
  rw[ej];exact Option.some.inj this
 have g2:(yI b n)[j]=sg b ((j+1:Nat):Int):=by
  have:=za7 b (n:=n) (k:=j) (by omega)
  rw[List.getElem?_eq_getElem l2] at this
  rw[ej];exact Option.some.inj this
 unfold zS
 rw[zed j l1 l2 (fun i hi=>?_) (by rw[g1,g2];exact a4),g1,g2]
 rw[za7 a (by omega),za7 b (by omega)]
 have:=a3 (i+1) (by omega) (by omega)
 have ei:((i+1:Nat):Int)=(i:Int)+1:=by omega
 rw[ei] at this
 rw[this]
end M6
namespace L2
open PySem
end L2
namespace M6
open PySem L2 M3 M5
def places(cs:List (List Int))(us:List Int):List Int:=us.map fun c=>1+((us.filter fun d=>zS (zm cs d) (zm cs c) us.length).length:Int)
theorem wD{cs:List (List Int)}{us:List Int}{c:Int}(hp:∀d∈cs,d.Perm us)(hc:c∈us):∀x∈zm cs c,1≤x∧x≤us.length:=fun x hx=>by
 unfold zm at hx
 obtain⟨d,hd,rfl⟩:=List.mem_map.mp hx
 have h:=hp d hd
 have:d.idxOf c<d.length:=List.idxOf_lt_length_of_mem (h.mem_iff.mpr hc)
 have:=h.length_eq
 omega
theorem zT(cs:List (List Int))(us:List Int):(places cs us).length=us.length:=by unfold places;simp
theorem word_symm(p q:Sg):word p q=word q p:=by
 cases p with
 | none=>cases q <;> rfl
 | some p=>cases q with
   | none=>rfl
   | some q =>
     show(if p.1=q.1 then("sum" : Str)else("count" : Str))=if q.1=p.1 then("sum" : Str)else("count" : Str)
     by_cases h:p.1=q.1
     ·rw[if_pos h,if_pos h.symm]
     ·rw[if_neg h,if_neg fun z=>h z.symm]
theorem zhd{a b:List Int}{n:Nat}{r:Option (Nat × Str)}(h:yS a b n r):yS b a n r:=by
 cases r with
 | none=>exact fun k h1 h2=>(h k h1 h2).symm
 | some r=>exact⟨h.1,h.2.1,fun j h1 h2=>(h.2.2.1 j h1 h2).symm,fun z=>h.2.2.2.1 z.symm,by rw[word_symm];exact h.2.2.2.2⟩
end M6
namespace L2
open PySem
def Told(K:PySem.W.Frag)(H:Hp)(x:V):Option (Nat × Str)→Prop
 | none=>x=.non
 | some r=>∃l,x=.ref l∧SqT K H l [.int (r.1:Nat),.str r.2]
end L2
namespace M3
open PySem L2
theorem zeE{a b:List Int}(h:a.Perm b)(n:Int):cnt a n=cnt b n:=(h.filter _).length_eq
theorem zey(a b:List Int)(n:Int):cnt (a++b) n=cnt a n+cnt b n:=by
 unfold cnt got
 rw[List.filter_append,List.length_append]
theorem isF_perm{a b:List Int}(h:a.Perm b){f:Int}(hf:isF a f):isF b f:=by
 unfold isF at *
 rw[← zeE h,← zeE h,← h.length_eq]
 exact hf
theorem zhx{ns:List Int}(hs:ns.Pairwise (·≤ ·))(hne:ns ≠ []):isF ns (ns.getD (ns.length/2) 0):=by
 have hn:=List.length_pos_iff.mpr hne
 have hk:ns.length/2<ns.length:=by omega
 generalize hK:ns.length/2=k at hk ⊢
 have e:ns=ns.take k++ns.drop k:=(List.take_append_drop k ns).symm
 have ed:ns.drop k=ns.getD k 0::ns.drop (k+1):=by rw[zc2 hk];exact List.drop_eq_getElem_cons hk
 generalize ns.getD k 0=f at ed ⊢
 have lt:(ns.take k).length=k:=by rw[List.length_take];omega
 rw[e] at hs
 obtain⟨h1,h2,h3⟩:=List.pairwise_append.mp hs
 rw[ed] at h2 h3
 have h4:=List.pairwise_cons.mp h2
 unfold isF
 constructor
 ·have a1:cnt (ns.take k) f=k:=by rw[zgx fun x hx=>h3 x hx f (List.mem_cons_self ..),lt]
  have a2:1≤cnt (ns.drop k) f:=by
   rw[ed]
   unfold cnt got
   rw[List.filter_cons,if_pos (decide_eq_true (Int.le_refl f)),List.length_cons]
   omega
  have a3:cnt ns f=cnt (ns.take k) f+cnt (ns.drop k) f:=by rw[← zey,← e]
  omega
 ·have a1:=zhs (ns.take k) (f - 1)
  have a2:cnt (ns.drop k) (f - 1)=0:=by
   refine zif fun x hx=>?_
   rw[ed] at hx
   rcases List.mem_cons.mp hx with z | z
   ·omega
   ·have:=h4.1 x z;omega
  have a3:cnt ns (f - 1)=cnt (ns.take k) (f - 1)+cnt (ns.drop k) (f - 1):=by rw[← zey,← e]
  omega
end M3
namespace M6
open PySem L2 M3 M5
def zgp(a b:List Int)(f:Int):Option Int→Prop
 | none=>∀k,f≤k→cnt a k=cnt b k∧sm a k=sm b k
 | some n=>f≤n∧n≤24∧(∀j,f≤j→j<n→cnt a j=cnt b j∧sm a j=sm b j)∧¬(cnt a n=cnt b n∧sm a n=sm b n)
theorem zbf{a:List Int}{f j:Int}(hf:isF a f)(hj:j<f):sg a j=none:=by
 refine sg_none ?_
 have:=zcV (ms:=a) (show j≤f - 1 by omega)
 have:=hf.2
 omega
theorem zbx{a:List Int}{f j:Int}(hf:isF a f)(hj:f≤j):sg a j=some ((cnt a j:Int),sm a j):=by
 refine sg_some ?_
 have:=zcV (ms:=a) hj
 have:=hf.1
 omega
theorem zfG{a b:List Int}{f g:Int}(hf:isF a f)(hg:isF b g)(h:f<g)(h1:1≤f)(h2:f≤24):yS a b 24 (some (f.toNat,"half")):=by
 have e:((f.toNat:Nat):Int)=f:=by omega
 refine⟨by dsimp only;omega,by dsimp only;omega,fun j j1 j2=>?_,?_,?_⟩
 ·dsimp only at j2
  rw[zbf hf (by omega),zbf hg (by omega)]
 ·dsimp only
  rw[e,zbx hf (Int.le_refl _),zbf hg h]
  exact fun z=>nomatch z
 ·dsimp only
  rw[e,zbx hf (Int.le_refl _),zbf hg h]
  rfl
theorem zid{a b:List Int}{f g:Int}(hf:isF a f)(hg:isF b g)(h:g<f)(h1:1≤g)(h2:g≤24):yS a b 24 (some (g.toNat,"half")):=zhd (zfG hg hf h h1 h2)
theorem zfb{a b:List Int}{f:Int}(hf:isF a f)(hg:isF b f)(h:zgp a b f none):yS a b 24 none:=fun k k1 k2=>by
 by_cases c:(k:Int)<f
 ·rw[zbf hf c,zbf hg c]
 ·obtain⟨e1,e2⟩:=h k (by omega)
  rw[zbx hf (by omega),zbx hg (by omega),e1,e2]
theorem zfz{a b:List Int}{f n:Int}(hf:isF a f)(hg:isF b f)(h1:1≤f)(h:zgp a b f (some n)):yS a b 24 (some (n.toNat,if(cnt a n:Int)=cnt b n then "sum" else "count")):=by
 obtain⟨a1,a2,a3,a4⟩:=h
 have e:((n.toNat:Nat):Int)=n:=by omega
 refine⟨by dsimp only;omega,by dsimp only;omega,fun j j1 j2=>?_,?_,?_⟩
 ·dsimp only at j2
  by_cases c:(j:Int)<f
  ·rw[zbf hf c,zbf hg c]
  ·obtain⟨e1,e2⟩:=a3 j (by omega) (by omega)
   rw[zbx hf (by omega),zbx hg (by omega),e1,e2]
 ·dsimp only
  rw[e,zbx hf a1,zbx hg a1]
  intro z
  injection z with z
  injection z with z1 z2
  exact a4 ⟨by omega,z2⟩
 ·dsimp only
  rw[e,zbx hf a1,zbx hg a1]
  rfl
theorem ahead_lt{a b:List Int}{f g:Int}(hf:isF a f)(hg:isF b g)(h:f<g)(h1:1≤f)(h2:f≤24):zS a b 24=true:=by
 rw[zcD (zfG hf hg h h1 h2)]
 dsimp only
 have e:((f.toNat:Nat):Int)=f:=by omega
 rw[e,zbx hf (Int.le_refl _),zbf hg h]
 rfl
theorem ahead_gt{a b:List Int}{f g:Int}(hf:isF a f)(hg:isF b g)(h:g<f)(h1:1≤g)(h2:g≤24):zS a b 24=false:=by
 rw[zcD (zid hf hg h h1 h2)]
 dsimp only
 have e:((g.toNat:Nat):Int)=g:=by omega
 rw[e,zbf hf h]
 rfl
theorem ahead_at{a b:List Int}{f n:Int}(hf:isF a f)(hg:isF b f)(h1:1≤f)(h:zgp a b f (some n)):zS a b 24=if(cnt a n:Int)=cnt b n then decide (sm a n<sm b n)else decide ((cnt b n:Int)<cnt a n):=by
 rw[zcD (zfz hf hg h1 h)]
 dsimp only
 have e:((n.toNat:Nat):Int)=n:=by have:=h.1;omega
 rw[e,zbx hf h.1,zbx hg h.1]
 show(decide ((cnt b n:Int)<cnt a n) || (decide ((cnt a n:Int)=cnt b n) && decide (sm a n<sm b n)))=_
 by_cases c:(cnt a n:Int)=cnt b n
 ·rw[if_pos c,decide_eq_true c,decide_eq_false (show ¬(cnt b n:Int)<cnt a n by omega)]
  rfl
 ·rw[if_neg c,decide_eq_false c,Bool.false_and,Bool.or_false]
theorem zhI{a b:List Int}{f M:Int}(ha:∀x∈a,x≤M)(hb:∀x∈b,x≤M)(hM:f≤M)(h:∀j,f≤j→j≤M→cnt a j=cnt b j∧sm a j=sm b j):zgp a b f none:=fun k hk=>by
 by_cases c:k≤M
 ·exact h k hk c
 ·have ea:got a k=got a M:=by
   unfold got
   exact List.filter_congr fun x hx=>by have:=ha x hx;rw[decide_eq_true (by omega),decide_eq_true this]
  have eb:got b k=got b M:=by
   unfold got
   exact List.filter_congr fun x hx=>by have:=hb x hx;rw[decide_eq_true (by omega),decide_eq_true this]
  have:=h M hM (Int.le_refl _)
  unfold cnt sm at *
  rw[ea,eb]
  exact this
theorem places_24{cs:List (List Int)}{us:List Int}(hp:∀d∈cs,d.Perm us)(h1:1≤us.length)(h24:us.length≤24):places cs us=us.map fun c=>1+(((us.map (zm cs)).filter fun r=>zS r (zm cs c) 24).length:Int):=by
 unfold places
 refine List.map_congr_left fun c hc=>?_
 rw[List.filter_map,List.length_map]
 congr 3
 refine List.filter_congr fun d hd=>?_
 refine ahead_any h1 (by omega) (fun x hx=>?_) (fun x hx=>?_)
 ·have:=wD hp hd x hx;omega
 ·have:=wD hp hc x hx;omega
end M6
namespace L2
open PySem
theorem Sh.cardsIn_perm{S:Sh}(ok:S.Ok):∀d∈S.cardsIn,d.Perm S.couples:=fun d hd=>by
 obtain⟨j,hj,rfl⟩:=List.mem_map.mp hd
 have h2:=(List.mem_filter.mp hj).2
 cases e:S.card j with
 | none=>rw[e] at h2;cases h2
 | some c=>exact(ok.cd j c e).2
theorem Sh.cardsIn_len(S:Sh):S.cardsIn.length=S.handed.length:=by unfold Sh.cardsIn;simp
def Sh.cardsWo(S:Sh)(j:Str):List (List Int):=(S.handed.filter fun i => !decide (i=j)).map fun i=>(S.card i).getD []
theorem Sh.cardsWo_perm{S:Sh}(ok:S.Ok)(j:Str):∀d∈S.cardsWo j,d.Perm S.couples:=fun d hd=>by
 obtain⟨i,hi,rfl⟩:=List.mem_map.mp hd
 exact Sh.cardsIn_perm ok _ (List.mem_map_of_mem (List.mem_filter.mp hi).1)
theorem Sh.row_some{S:Sh}(ok:S.Ok)(j:Str):(!decide ((S.card j).getD [] = []))=(S.card j).isSome:=by
 cases e:S.card j with
 | none=>rfl
 | some c=>rw[show(some c).getD ([]:List Int)=c from rfl,decide_eq_false (ok.full e)];rfl
theorem Sh.cardsIn_rows{S:Sh}(ok:S.Ok):S.cardsIn=S.rows.filter fun d => !decide (d = []):=by
 unfold Sh.cardsIn Sh.handed Sh.rows
 rw[List.filter_map]
 congr 1
 exact List.filter_congr fun j _=>(Sh.row_some ok j).symm
theorem zer:∀{l:List Str},l.Nodup→∀{k:Nat} (hk:k<l.length),(l.filter fun i => !decide (i=l[k]))=l.take k++l.drop (k+1)
 | a::l,nd,0,_=>by
   have h:=List.nodup_cons.mp nd
   show((a::l).filter fun i => !decide (i=a))=l
   rw[List.filter_cons,if_neg (by rw[decide_eq_true rfl];decide),List.filter_eq_self]
   intro x hx
   have:¬x=a:=fun z=>h.1 (z ▸ hx)
   rw[decide_eq_false this]
   rfl
 | a::l,nd,k+1,hk=>by
   have h:=List.nodup_cons.mp nd
   have hk':k<l.length:=by simpa using hk
   show((a::l).filter fun i => !decide (i=l[k]))=a::(l.take k++l.drop (k+1))
   have:¬a=l[k]:=fun z=>h.1 (z ▸ List.getElem_mem hk')
   rw[List.filter_cons,if_pos (by rw[decide_eq_false this];rfl),zer h.2 hk']
theorem Sh.cardsWo_rows{S:Sh}(ok:S.Ok){k:Nat}(hk:k<S.panel.length):S.cardsWo (S.panel.getD k "")=(S.rows.take k++S.rows.drop (k+1)).filter fun d => !decide (d = []):=by
 have e:S.panel.getD k "" = S.panel[k]:=by rw[List.getD_eq_getElem?_getD,List.getElem?_eq_getElem hk];rfl
 unfold Sh.cardsWo Sh.handed Sh.rows
 rw[e,List.filter_filter,← List.map_take,← List.map_drop,← List.map_append,← zer ok.pnd hk,List.filter_map,List.filter_filter]
 congr 1
 refine List.filter_congr fun j _=>?_
 show((!decide (j=S.panel[k])) && (S.card j).isSome)=((!decide ((S.card j).getD [] = [])) && (!decide (j=S.panel[k])))
 rw[Sh.row_some ok j,Bool.and_comm]
theorem Sh.handed_len{S:Sh}(ok:S.Ok):S.handed.length=(S.rows.filter fun d => !decide (d = [])).length:=by rw[← Sh.cardsIn_rows ok,Sh.cardsIn_len]
theorem Sh.cardsWo_len{S:Sh}{j:Str}(nd:S.panel.Nodup)(hj:j∈S.handed):(S.cardsWo j).length+1=S.handed.length:=by
 unfold Sh.cardsWo
 rw[List.length_map]
 have hn:S.handed.Nodup:=nd.filter _
 have e:(S.handed.filter fun i => !decide (i=j))=S.handed.erase j:=by
  rw[hn.erase_eq_filter]
  refine List.filter_congr fun x _=>?_
  by_cases h:x=j
  ·simp[h]
  ·simp[h]
 rw[e,List.length_erase_of_mem hj]
 have:=List.length_pos_of_mem hj
 omega
theorem ints_last{ns:List Int}(h:ns ≠ []):∃x,x∈ns∧atI (ns.map V.int) (-1)=some (.int x):=by
 have e:=List.dropLast_concat_getLast h
 refine⟨ns.getLast h,List.getLast_mem h,?_⟩
 conv=>lhs;rw[← e,List.map_append]
 exact atI_last _ _
theorem zgl{ns:List Int}{i:Int}(h0:0≤i)(h:i<ns.length):∃x,x∈ns∧atI (ns.map V.int) i=some (.int x):=⟨_,wk (by omega),zbk h0 h⟩
theorem comp_some{K:PySem.W.Frag}{a:Addr}{ls:List Addr}{cs:List (List Int)}{c:St}{tc:TT}{te:TE}{H:Hp}{fin:List V→Hp→Prop}(hA:SqL K H a (ls.map V.ref))(hR:All2 (IL K H) ls cs)(hz:cs.length≤1000)
 (htc:∀(m:Addr) (d:List Int) (H':Hp) (Q:Bool→Hp→Prop),SqL K H' m (d.map V.int)→(∀H2,zh H' H2→Q (!decide (d = [])) H2)→tc (some (.ref m)::c) H' Q)
 (hte:∀(m:Addr) (H':Hp) (Q:VK),Q (.ref m) H'→te (some (.ref m)::c) H' Q)
 (hd:∀(ks:List Addr) (H':Hp),zh H H'→All2 (IL K H') ks (cs.filter fun d => !decide (d = []))→fin (ks.map V.ref) H'):za4 (Itl K a) c tc te H fin:=by
 have hln:=zw
 have hl:=hR.length
 refine wF (xs:=ls.map V.ref) (fun i ys H2=>∃ks:List Addr,ys=ks.map V.ref∧zh H H2∧All2 (IL K H2) ks ((cs.take i).filter fun d => !decide (d = []))) ⟨[],rfl,zh.refl _,.nil⟩ ?_ (by rw[List.length_map];omega) ?_ ?_
 ·rintro i ys H2 hi ⟨ks,rfl,s2,r2⟩
  refine⟨s2.seq hA,?_⟩
  have h3:=r2.length
  have h4:=List.length_filter_le (fun d:List Int => !decide (d = [])) (cs.take i)
  rw[List.length_take] at h4
  rw[List.length_map]
  omega
 ·rintro i x ys H2 hx ⟨ks,rfl,s2,r2⟩
  obtain⟨m,em,rfl⟩:=zby hx
  obtain⟨d,ed,rd⟩:=hR.getL em
  refine htc m d H2 _ (s2.seq rd) fun H3 s3=>?_
  have e:(cs.take (i+1)).filter (fun d => !decide (d = []))=(cs.take i).filter (fun d => !decide (d = []))++if(!decide (d = []))=true then [d] else []:=by
   rw[List.take_succ,ed,List.filter_append]
   congr 1
   show List.filter _ [d]=_
   rw[List.filter_cons]
   rfl
  refine zgy (fun hb=>?_) (fun hb=>?_)
  ·refine hte m H3 _ ⟨ks ++ [m],by rw[List.map_append];rfl,s2.trans s3,?_⟩
   rw[e,if_pos hb]
   exact(r2.imp fun _ _=>IL.stays K _ _ _ _ s3).snoc ((s2.trans s3).seq rd)
  ·refine⟨ks,rfl,s2.trans s3,?_⟩
   rw[e,if_neg (by rw[hb];exact Bool.false_ne_true),List.append_nil]
   exact r2.imp fun _ _=>IL.stays K _ _ _ _ s3
 ·rintro ys H2 ⟨ks,rfl,s2,r2⟩
  rw[List.length_map,hl,List.take_length] at r2
  exact hd ks H2 s2 r2
end L2
namespace M6
open PySem L2 M3 M5
def zcw(cs:List (List Int))(us:List Int)(c:Int):Nat:=(us.filter fun d=>zS (zm cs d) (zm cs c) us.length).length
end M6
namespace M6
open PySem L2 M3 M5
end M6
namespace L2
open PySem
theorem comp_refs{K:PySem.W.Frag}{a:Addr}{us:List Int}{f:Int→List Int}{c:St}{te:TE}{H:Hp}{fin:List V→Hp→Prop}(hA:SqL K H a (us.map V.int))(hz:us.length≤1000)
 (hte:∀(x:Int) (H':Hp) (Q:VK),x∈us→zh H H'→(∀(l:Addr) (H2:Hp),zh H' H2→IL K H2 l (f x)→Q (.ref l) H2)→te (some (.int x)::c) H' Q)
 (hd:∀(ks:List Addr) (H':Hp),zh H H'→All2 (IL K H') ks (us.map f)→fin (ks.map V.ref) H'):za4 (Itl K a) c zfS te H fin:=by
 have hln:=zw
 refine yq (xs:=us.map V.int) (fun k ys H5=>∃ks:List Addr,ys=ks.map V.ref∧zh H H5∧All2 (IL K H5) ks ((us.take k).map f)) ⟨[],rfl,zh.refl _,.nil⟩ ?_ (by rw[List.length_map];omega) ?_ ?_
 ·rintro k ys H5 hk ⟨ks,rfl,s5,r5⟩
  refine⟨s5.seq hA,?_⟩
  have:=r5.length
  rw[List.length_map,List.length_take] at this
  rw[List.length_map]
  omega
 ·rintro k x ys H5 hx ⟨ks,rfl,s5,r5⟩
  obtain⟨hk,rfl⟩:=zah hx
  refine hte _ H5 _ (wk hk) s5 fun l H2 s2 r2=>⟨ks ++ [l],by rw[List.map_append];rfl,s5.trans s2,?_⟩
  rw[wX hk,List.map_append]
  exact(r5.imp fun _ _=>IL.stays K _ _ _ _ s2).snoc r2
 ·rintro ys H5 ⟨ks,rfl,s5,r5⟩
  rw[List.length_map,List.take_length] at r5
  exact hd ks H5 s5 r5
end L2
namespace M6
open PySem L2 M3 M5
variable {cs:List (List Int)} {us:List Int} {c:Int}
end M6
namespace L2
open PySem
end L2
namespace M6
open PySem L2 M3 M5
theorem map_front{cs:List (List Int)}{us:List Int}:places cs us=us.map fun c=>1+(zcw cs us c:Int):=rfl
end M6
namespace L2
open PySem
theorem zfh{K:PySem.W.Frag}{a:Addr}{us:List Int}{f:Int→Int}{c:St}{te:TE}{H:Hp}{fin:List V→Hp→Prop}(hA:SqL K H a (us.map V.int))(hz:us.length≤1000)
 (hte:∀(x:Int) (H':Hp) (Q:VK),x∈us→zh H H'→(∀(H2:Hp),zh H' H2→Q (.int (f x)) H2)→te (some (.int x)::c) H' Q)
 (hd:∀(H':Hp),zh H H'→fin ((us.map f).map V.int) H'):za4 (Itl K a) c zfS te H fin:=by
 have hln:=zw
 refine yq (xs:=us.map V.int) (fun k ys H5=>ys=((us.take k).map f).map V.int∧zh H H5) ⟨rfl,zh.refl _⟩ ?_ (by rw[List.length_map];omega) ?_ ?_
 ·rintro k ys H5 hk ⟨rfl,s5⟩
  refine⟨s5.seq hA,?_⟩
  rw[List.length_map,List.length_map,List.length_take]
  omega
 ·rintro k x ys H5 hx ⟨rfl,s5⟩
  obtain⟨hk,rfl⟩:=zah hx
  refine hte _ H5 _ (wk hk) s5 fun H2 s2=>⟨?_,s5.trans s2⟩
  rw[wX hk,List.map_append,List.map_append]
  rfl
 ·rintro ys H5 ⟨rfl,s5⟩
  rw[List.length_map,List.take_length]
  exact hd H5 s5
end L2
namespace M6
open PySem L2 M3 M5
def zbn(a b:List Int)(n:Nat):Option (Nat × Str):=((List.range n).find? fun(i:Nat)=>decide (sg a ((i:Int)+1)≠sg b ((i:Int)+1))).map fun(i:Nat)=>(i+1,word (sg a ((i:Int)+1)) (sg b ((i:Int)+1)))
theorem zd6{p:Nat→Bool}:∀{n j i:Nat},(List.range' j n).find? p=some i→p i=true∧j≤i∧i<j+n∧∀k,j≤k→k<i→p k=false
 | 0,j,i,h=>by cases h
 | n+1,j,i,h=>by
   rw[List.range'_succ,List.find?_cons] at h
   cases hp:p j with
   | true =>
     rw[hp] at h
     have e:j=i:=Option.some.inj h
     subst e
     exact⟨hp,Nat.le_refl _,by omega,fun k h1 h2=>by omega⟩
   | false =>
     rw[hp] at h
     obtain⟨h1,h2,h3,h4⟩:=zd6 h
     refine⟨h1,by omega,by omega,fun k k1 k2=>?_⟩
     by_cases e:k=j
     ·subst e;exact hp
     ·exact h4 k (by omega) k2
theorem zci(a b:List Int)(n:Nat):yS a b n (zbn a b n):=by
 unfold zbn
 rw[List.range_eq_range']
 cases h:(List.range' 0 n).find? fun(i:Nat)=>decide (sg a ((i:Int)+1)≠sg b ((i:Int)+1))with
 | none =>
   rw[List.find?_eq_none] at h
   show yS a b n none
   intro k h1 h2
   have:=h (k - 1) (by rw[List.mem_range'_1];omega)
   have e:((k - 1:Nat):Int)+1=(k:Int):=by omega
   rw[e] at this
   by_cases c:sg a k=sg b k
   ·exact c
   ·exact absurd (decide_eq_true c) this
 | some i =>
   obtain⟨h1,h2,h3,h4⟩:=zd6 h
   have e:((i+1:Nat):Int)=(i:Int)+1:=by omega
   show yS a b n (some (i+1,word (sg a ((i:Int)+1)) (sg b ((i:Int)+1))))
   refine⟨by show 1≤i+1;omega,by show i+1≤n;omega,fun j j1 j2=>?_,?_,?_⟩
   ·have j2:j<i+1:=j2
    have:=h4 (j - 1) (by omega) (by omega)
    have ej:((j - 1:Nat):Int)+1=(j:Int):=by omega
    rw[ej] at this
    by_cases c:sg a j=sg b j
    ·exact c
    ·rw[decide_eq_true c] at this;cases this
   ·show sg a ((i+1:Nat):Int)≠sg b ((i+1:Nat):Int)
    rw[e]
    exact of_decide_eq_true h1
   ·show _=word (sg a ((i+1:Nat):Int)) (sg b ((i+1:Nat):Int))
    rw[e]
abbrev R4:=Int × Int × Int × Str
def nb(cs:List (List Int))(us:List Int)(p q:Int × Int):Option R4:=if p.1=q.1 then none else(zbn (zm cs p.2) (zm cs q.2) us.length).map fun r=>(p.2,q.2,(r.1:Int),r.2)
def wN(cs:List (List Int))(us:List Int):List R4:=((rows (places cs us) us).zip (rows (places cs us) us).tail).filterMap fun pq=>nb cs us pq.1 pq.2
def wx(cs:List (List Int))(us:List Int)(c:Int):Int:=1+((us.filter fun d=>zS (zm cs d) (zm cs c) us.length).length:Int)
theorem zcW{cs:List (List Int)}{us:List Int}{p:Int × Int}(h:p∈rows (places cs us) us):p.2∈us∧p.1=wx cs us p.2:=by
 unfold rows at h
 obtain⟨i,_,hi⟩:=List.mem_flatMap.mp h
 have hz:=(List.mem_filter.mp hi).1
 have e:(places cs us).zip us=us.map fun c=>(wx cs us c,c):=by
  show(us.map fun c=>wx cs us c).zip us=_
  rw[List.zip_map_left]
  have:us.zip us=us.map fun c=>(c,c):=by
   induction us with
   | nil=>rfl
   | cons a us ih=>rw[List.zip_cons_cons,List.map_cons];congr 1;rw[List.zip_eq_zipWith,List.zipWith_self]
  rw[this,List.map_map]
  rfl
 rw[e] at hz
 obtain⟨c,hc,rfl⟩:=List.mem_map.mp hz
 exact⟨hc,rfl⟩
end M6
namespace L2
open PySem
def F4(K:PySem.W.Frag)(H:Hp)(l:Addr)(p:M6.R4):Prop:=SqT K H l [.int p.1,.int p.2.1,.int p.2.2.1,.str p.2.2.2]
theorem F4.stays(K:PySem.W.Frag):zgX (F4 K):=fun _ _ _ _ s h=>s.seqT h
theorem F4.put{K:PySem.W.Frag}{H:Hp}{p:Addr}{ys:List V}{o:HO}{ls:List Addr}{ps:List M6.R4}(h:All2 (F4 K H) ls ps)(hp:H p=some (.lst ys)):All2 (F4 K (upd H p o)) ls ps:=h.imp fun _ _ r=>SqT.put r hp
end L2
namespace M9
open PySem L2 M3 M5
theorem sum_perm{l m:List Int}(h:l.Perm m):l.sum=m.sum:=by
 induction h with
 | nil=>rfl
 | cons x _ ih=>rw[List.sum_cons,List.sum_cons,ih]
 | swap x y l=>rw[List.sum_cons,List.sum_cons,List.sum_cons,List.sum_cons];omega
 | trans _ _ i1 i2=>exact i1.trans i2
end M9
namespace M6
open PySem L2 M3 M5 M9
variable {cs:List (List Int)} {us:List Int} {c d f:Int}
end M6
namespace L2
open PySem
def upC(d:List Int)(i:Nat):List Int:=d.take (i - 1) ++ [d.getD i 0,d.getD (i - 1) 0]++d.drop (i+1)
theorem upC_eq{d:List Int}{i:Nat}(h0:0<i)(hi:i<d.length):∃p q,p.length=i - 1∧d=p ++ [d.getD (i - 1) 0,d.getD i 0]++q∧upC d i=p ++ [d.getD i 0,d.getD (i - 1) 0]++q:=by
 refine⟨d.take (i - 1),d.drop (i+1),by rw[List.length_take];omega,?_,rfl⟩
 have h1:i - 1<d.length:=by omega
 have e1:d.getD (i - 1) 0=d[i - 1]:=by rw[List.getD_eq_getElem?_getD,List.getElem?_eq_getElem h1];rfl
 have e2:d.getD i 0=d[i]:=by rw[List.getD_eq_getElem?_getD,List.getElem?_eq_getElem hi];rfl
 rw[e1,e2,List.append_assoc]
 conv=>lhs;rw[← List.take_append_drop (i - 1) d]
 congr 1
 rw[List.drop_eq_getElem_cons h1]
 show d[i - 1]::d.drop (i - 1+1)=d[i - 1]::(d[i]::d.drop (i+1))
 congr 1
 have:i - 1+1=i:=by omega
 rw[this]
 exact List.drop_eq_getElem_cons hi
theorem zgO{d:List Int}{i:Nat}(h0:0<i)(hi:i<d.length):(upC d i).Perm d:=by
 obtain⟨p,q,_,e1,e2⟩:=upC_eq h0 hi
 rw[e2]
 conv=>rhs;rw[e1]
 refine List.Perm.append_right _ (List.Perm.append_left _ ?_)
 exact List.Perm.swap _ _ _
theorem upC_at{d:List Int}{i:Nat}(h0:0<i)(hi:i<d.length):(upC d i)[i]? = some (d.getD (i - 1) 0):=by
 obtain⟨p,q,hp,_,e2⟩:=upC_eq h0 hi
 rw[e2,List.append_assoc,List.getElem?_append_right (by omega),hp,show i - (i - 1)=1 by omega]
 rfl
def Sh.cardsUp(S:Sh)(j:Str)(d:List Int):List (List Int):=S.handed.map fun i=>if i=j then d else(S.card i).getD []
theorem Sh.cardsUp_perm{S:Sh}(ok:S.Ok){j:Str}{d:List Int}(h:d.Perm S.couples):∀e∈S.cardsUp j d,e.Perm S.couples:=fun e he=>by
 obtain⟨i,hi,rfl⟩:=List.mem_map.mp he
 by_cases c:i=j
 ·rw[if_pos c];exact h
 ·rw[if_neg c];exact Sh.cardsIn_perm ok _ (List.mem_map_of_mem hi)
theorem Sh.cardsUp_len(S:Sh)(j:Str)(d:List Int):(S.cardsUp j d).length=S.handed.length:=by unfold Sh.cardsUp;simp
theorem Sh.into_len{S:Sh}(ok:S.Ok):(wu S.rows).length=S.handed.length:=by rw[← Sh.into_names ok,List.length_map]
theorem comp_into{cs:List (List Int)}{n:Nat}(hn:n=cs.length){c:St}{tc:TT}{te:TE}{H:Hp}{fin:List V→Hp→Prop}(hz:cs.length≤1000)
 (htc:∀(k:Nat) (H':Hp) (Q:Bool→Hp→Prop),k<cs.length→zh H H'→(∀H2,zh H' H2→Q (!decide (cs.getD k [] = [])) H2)→tc (some (.int k)::c) H' Q)
 (hte:∀(k:Nat) (H':Hp) (Q:VK),Q (.int k) H'→te (some (.int k)::c) H' Q)
 (hd:∀(H':Hp),zh H H'→fin ((wu cs).map V.int) H'):za4 (Itr 0 n) c tc te H fin:=by
 have hln:=zw
 refine zcA (fun i ys H3=>zh H H3∧ys=(((List.range i).filter fun k => !decide (cs.getD k [] = [])).map fun(k:Nat)=>(k:Int)).map V.int) ⟨zh.refl _,rfl⟩ ?_ (by omega) ?_ ?_
 ·rintro i ys H3 hi ⟨s3,rfl⟩
  rw[List.length_map,List.length_map]
  exact Nat.le_trans (List.length_filter_le _ _) (by rw[List.length_range];exact Nat.le_refl _)
 ·rintro i ys H3 hi ⟨s3,rfl⟩
  rw[show(0:Int)+(i:Int)=(i:Int)by omega]
  refine htc i H3 _ (by omega) s3 fun H4 s4=>?_
  refine yH (fun hb=>?_) (fun hb=>?_)
  ·refine hte i H4 _ ⟨s3.trans s4,?_⟩
   rw[zeO,if_neg hb,List.map_append]
   rfl
  ·refine⟨s3.trans s4,?_⟩
   rw[zeO,if_pos hb,List.append_nil]
 ·rintro ys H3 ⟨s3,rfl⟩
  rw[show(((List.range n).filter fun k => !decide (cs.getD k [] = [])).map fun(k:Nat)=>(k:Int))=wu cs by unfold wu;rw[hn]]
  exact hd H3 s3
end L2
namespace M6
open PySem L2 M3 M5
def Rise1(c:Int)(d d':List Int):Prop:=d'.Perm d∧d'.idxOf c≤d.idxOf c∧∀e∈d,e≠c→d.idxOf e≤d'.idxOf e
theorem Rise1.nil{c:Int}{d d':List Int}(h:Rise1 c d d'):d = []↔d' = []:=by
 constructor
 ·intro e;rw[e] at h;exact List.Perm.eq_nil h.1
 ·intro e;rw[e] at h;exact List.Perm.eq_nil h.1.symm
variable {cs cs':List (List Int)} {us:List Int} {c:Int}
theorem zbv{d:List Int}{e:Int}(h:e∈d):d.getD (d.idxOf e) 0=e:=by
 rw[zc2 (List.idxOf_lt_length_of_mem h)];exact List.getElem_idxOf _
end M6
namespace L2
open PySem M6 M5
def Sh.more(S:Sh)(n:Nat):Sh:={ S with taken:=S.taken+n }
section
variable {S:Sh} {j:Str} {d:List Int} {k:Nat}
end
end L2
namespace M6
open PySem L2 M3 M5
section
variable {A B C:List Int} {c:Int}
end
end M6
namespace L2
open PySem
def zae(ps us:List Int)(n:Nat):List Int:=((List.range n).filter fun k=>decide (ps.getD k 0=1)).map fun k=>us.getD k 0
theorem zbK(ps us:List Int)(n:Nat):zae ps us (n+1)=zae ps us n++if ps.getD n 0=1 then [us.getD n 0] else []:=by
 unfold zae
 rw[List.range_succ,List.filter_append,List.map_append]
 congr 1
 by_cases h:ps.getD n 0=1
 ·rw[if_pos h,List.filter_cons,if_pos (by rw[decide_eq_true h])];rfl
 ·rw[if_neg h,List.filter_cons,if_neg (by rw[decide_eq_false h];decide)];rfl
theorem zgD(ps us:List Int)(n:Nat):(zae ps us n).length≤n:=by
 unfold zae
 rw[List.length_map]
 exact Nat.le_trans (List.length_filter_le _ _) (by rw[List.length_range];exact Nat.le_refl _)
def yz(cs:List (List Int))(us:List Int):List Int:=zae (M6.places cs us) us us.length
def Sh.decide(S:Sh):List Str:=S.handed.filter fun j => !Decidable.decide (yz (S.cardsWo j) S.couples=yz S.cardsIn S.couples)
theorem Sh.cardsWo_le(S:Sh)(j:Str):(S.cardsWo j).length≤S.handed.length:=by
 unfold Sh.cardsWo
 rw[List.length_map]
 exact List.length_filter_le _ _
theorem Sh.cardsWo_ge{S:Sh}(nd:S.panel.Nodup)(j:Str):S.handed.length≤(S.cardsWo j).length+1:=by
 by_cases hj:j∈S.handed
 ·exact Nat.le_of_eq (Sh.cardsWo_len nd hj).symm
 ·unfold Sh.cardsWo
  rw[List.length_map,List.filter_eq_self.mpr]
  ·exact Nat.le_succ _
  ·intro x hx
   have:¬x=j:=fun z=>hj (z ▸ hx)
   rw[decide_eq_false this]
   rfl
end L2
namespace M6
open PySem L2 M3 M5
variable {cs:List (List Int)} {us:List Int} {c:Int}
theorem zeR(f:Int→Int):∀us:List Int,zae (us.map f) us us.length=us.filter fun c=>decide (f c=1):=by
 intro us
 have go:∀n,n≤us.length→zae (us.map f) us n=(us.take n).filter fun c=>decide (f c=1):=by
  intro n
  induction n with
  | zero=>intro _;simp[zae]
  | succ n ih =>
    intro hn
    rw[zbK,ih (by omega),wX (by omega),List.filter_append]
    congr 1
    have e:(us.map f).getD n 0=f (us.getD n 0):=by
     rw[List.getD_eq_getElem?_getD,List.getElem?_map,List.getElem?_eq_getElem (by omega),zc2 (by omega)];rfl
    rw[e,List.filter_cons]
    by_cases h:f (us.getD n 0)=1
    ·rw[if_pos h,if_pos (decide_eq_true h)];rfl
    ·rw[if_neg h,if_neg (by rw[decide_eq_false h];decide)];rfl
 have:=go us.length (Nat.le_refl _)
 rwa [List.take_length] at this
theorem wM(cs:List (List Int))(us:List Int):yz cs us=us.filter fun c=>decide (zcw cs us c=0):=by
 unfold yz
 rw[map_front,zeR]
 refine List.filter_congr fun c _=>?_
 by_cases h:zcw cs us c=0
 ·rw[decide_eq_true h,decide_eq_true (by omega)]
 ·rw[decide_eq_false h,decide_eq_false (by omega)]
end M6
namespace L2
open PySem
theorem zhq{K:PySem.W.Frag}{a:Addr}{ts:List Str}{p:Str→Bool}{c:St}{tc:TT}{te:TE}{H:Hp}{fin:List V→Hp→Prop}(hA:SqL K H a (ts.map V.str))(hz:ts.length≤1000)
 (htc:∀(t:Str) (H':Hp) (Q:Bool→Hp→Prop),t∈ts→zh H H'→(∀H2,zh H' H2→Q (p t) H2)→tc (some (.str t)::c) H' Q)
 (hte:∀(t:Str) (H':Hp) (Q:VK),Q (.str t) H'→te (some (.str t)::c) H' Q)
 (hd:∀(H':Hp),zh H H'→fin ((ts.filter p).map V.str) H'):za4 (Itl K a) c tc te H fin:=by
 have hln:=zw
 refine wF (xs:=ts.map V.str) (fun i ys H3=>zh H H3∧ys=((ts.take i).filter p).map V.str) ⟨zh.refl _,rfl⟩ ?_ (by rw[List.length_map];omega) ?_ ?_
 ·rintro i ys H3 hi ⟨s3,rfl⟩
  refine⟨s3.seq hA,?_⟩
  rw[List.length_map]
  exact Nat.le_trans (List.length_filter_le _ _) (by rw[List.length_take];omega)
 ·rintro i x ys H3 hx ⟨s3,rfl⟩
  obtain⟨hi,rfl⟩:=zaK hx
  refine htc _ H3 _ (zaJ hi) s3 fun H4 s4=>?_
  have e:(ts.take (i+1)).filter p=(ts.take i).filter p++(if p (ts.getD i "")=true then [ts.getD i ""] else []):=by
   rw[yf hi,List.filter_append,List.filter_cons];rfl
  refine zgy (fun hb=>?_) (fun hb=>?_)
  ·refine hte _ H4 _ ⟨s3.trans s4,?_⟩
   rw[e,if_pos hb,List.map_append]
   rfl
  ·refine⟨s3.trans s4,?_⟩
   rw[e,if_neg (by rw[hb];decide),List.append_nil]
 ·rintro ys H3 ⟨s3,rfl⟩
  rw[List.length_map,List.take_length]
  exact hd H3 s3
end L2
namespace M6
open PySem L2 M3 M5
theorem zip_fn(f:Int→Int):∀us:List Int,(us.map f).zip us=us.map fun c=>(f c,c)
 | []=>rfl
 | c::us=>by rw[List.map_cons,List.zip_cons_cons,zip_fn f us];rfl
def blk(f:Int→Int)(us:List Int)(i:Nat):List (Int × Int):=(us.filter fun c=>decide (f c=(i:Int)+1)).map fun c=>(f c,c)
theorem rows_blk(f:Int→Int)(us:List Int):rows (us.map f) us=(List.range us.length).flatMap (blk f us):=by
 unfold rows blk
 congr 1
 funext i
 rw[zip_fn,List.filter_map]
 rfl
variable {cs:List (List Int)} {us:List Int} {c:Int}
def plc(cs:List (List Int))(us:List Int)(c:Int):Int:=1+(zcw cs us c:Int)
theorem zdC(cs:List (List Int))(us:List Int):rows (places cs us) us=(List.range us.length).flatMap (blk (plc cs us) us):=rows_blk _ _
end M6
namespace L2
open PySem
def zg1(cs:List (List Int))(us:List Int)(k:Nat):Bool := !decide (cs.getD k [] = []) && !decide (yz ((cs.take k++cs.drop (k+1)).filter fun d => !decide (d = [])) us=yz (cs.filter fun d => !decide (d = [])) us)
def decK(ts:List Str)(cs:List (List Int))(us:List Int)(n:Nat):List Str:=((List.range n).filter (zg1 cs us)).map fun k=>ts.getD k ""
theorem Sh.decide_rows{S:Sh}(ok:S.Ok):S.decide=decK S.panel S.rows S.couples S.panel.length:=by
 unfold Sh.decide Sh.handed decK
 rw[List.filter_filter]
 conv=>lhs;rw[← zd1 S.panel ""]
 rw[List.filter_map]
 congr 1
 refine List.filter_congr fun k hk=>?_
 have hk:=List.mem_range.mp hk
 show((!Decidable.decide (yz (S.cardsWo (S.panel.getD k "")) S.couples=yz S.cardsIn S.couples)) && (S.card (S.panel.getD k "")).isSome)=zg1 S.rows S.couples k
 unfold zg1
 rw[Sh.cardsWo_rows ok hk,Sh.cardsIn_rows ok,S.rows_at hk,Sh.row_some ok,Bool.and_comm]
theorem zx.sameN{K:PySem.W.Frag}{H H':Hp}{p:Addr}{F:Addr→Prop}{S:Sh}(h:zx K H p F S)(s:yU H H'):∃F':Addr→Prop,(∀b,F' b→F b)∧zx K H' p F' S:=by
 obtain⟨dx,a1,a2,a3,d,kvs,h⟩:=h
 refine⟨fun b=>F b∧∀ps,H b≠some (.tbl ps),fun b z=>z.1,dx,a1,a2,a3,d,kvs,⟨⟨s.1 _ _ h.ip (fun _ z=>by cases z),s.1 _ _ h.i1 (fun _ z=>by cases z),s.1 _ _ h.i2 (fun _ z=>by cases z),s.1 _ _ h.i3 (fun _ z=>by cases z),s.1 _ _ h.i4 (fun _ z=>by cases z),h.kl,h.cn,fun j c hc=>?_,⟨h.fp,fun ps z=>by rw[h.ip] at z;cases z⟩,⟨h.f1,fun ps z=>by rw[h.i1] at z;cases z⟩,⟨h.f2,fun ps z=>by rw[h.i2] at z;cases z⟩,⟨h.f3,fun ps z=>by rw[h.i3] at z;cases z⟩,⟨h.f4,fun ps z=>by rw[h.i4] at z;cases z⟩,h.n12,h.n32,fun b hb=>?_⟩,h.ok⟩⟩
 ·obtain⟨l,x1,x2,x3,x4⟩:=h.cs j c hc
  exact⟨l,x1,s.1 _ _ x2 (fun _ z=>by cases z),⟨x3,fun ps z=>by rw[x2] at z;cases z⟩,x4⟩
 ·cases e:H b with
  | none=>exact absurd e (h.fh b hb.1)
  | some u =>
    rw[s.1 b u e fun ps z=>hb.2 ps (by rw[e,z])]
    simp
theorem yU.lst{H H':Hp}(s:yU H H'){a:Addr}{xs:List V}(e:H a=some (.lst xs)):H' a=some (.lst xs):=s.1 _ _ e fun _ z=>by cases z
theorem yU.seq{K:PySem.W.Frag}{H H':Hp}(s:yU H H'){a:Addr}{xs:List V}(h:SqL K H a xs):SqL K H' a xs:=s.same.seq h.noT
theorem yU.seqT{K:PySem.W.Frag}{H H':Hp}(s:yU H H'){a:Addr}{xs:List V}(h:SqT K H a xs):SqT K H' a xs:=by
 rcases h with(r | ⟨o,r⟩) | h
 ·exact .inl (.inl (s.1 _ _ r fun _ z=>by cases z))
 ·exact .inl (.inr ⟨o,s.1 _ _ r fun _ z=>by cases z⟩)
 ·exact .inr h
theorem F4.sameN{K:PySem.W.Frag}{H H':Hp}(s:yU H H'){ls:List Addr}{rs:List M6.R4}(h:All2 (F4 K H) ls rs):All2 (F4 K H') ls rs:=h.imp fun _ _ z=>s.seqT z
end L2
namespace M6
open PySem L2 M3 M5 M9
section
variable {φ:Sg→Sg} {cs cs':List (List Int)} {us:List Int}
end
theorem sg_perm{a b:List Int}(h:a.Perm b)(k:Int):sg a k=sg b k:=by
 have e:sm a k=sm b k:=by unfold sm got;exact sum_perm (h.filter _)
 unfold sg
 rw[zeE h,h.length_eq,e]
theorem zh0{cs cs':List (List Int)}(h:cs'.Perm cs)(c:Int):(zm cs' c).Perm (zm cs c):=h.map _
theorem zf6(cs:List (List Int))(us:List Int):(wN cs us).length≤us.length*us.length:=by
 have h1:=rows_len (places cs us) us (zT cs us)
 have h2:=List.length_filterMap_le (fun pq=>nb cs us pq.1 pq.2) ((rows (places cs us) us).zip (rows (places cs us) us).tail)
 rw[List.length_zip] at h2
 unfold wN
 omega
end M6
namespace M6
open PySem L2 M3 M5
section
variable {cs:List (List Int)} {us d:List Int}
end
end M6
namespace L2
open PySem
theorem zgn{α:Type}{R:Hp→Addr→α→Prop}(st:zgX R){lo:Int}{n:Nat}{f:Nat→α}{c:St}{te:TE}{H:Hp}{fin:List V→Hp→Prop}(hz:n≤1000)
 (hte:∀(k:Nat) (H':Hp) (Q:VK),k<n→zh H H'→(∀(l:Addr) (H2:Hp),zh H' H2→R H2 l (f k)→Q (.ref l) H2)→te (some (.int (lo+k))::c) H' Q)
 (hd:∀(ks:List Addr) (H':Hp),zh H H'→All2 (R H') ks ((List.range n).map f)→fin (ks.map V.ref) H'):za4 (Itr lo n) c zfS te H fin:=by
 have hln:=zw
 refine zca (fun i ys H3=>∃ks:List Addr,ys=ks.map V.ref∧zh H H3∧All2 (R H3) ks ((List.range i).map f)) ⟨[],rfl,zh.refl _,.nil⟩ ?_ (by omega) ?_ ?_
 ·rintro i ys H3 hi ⟨ks,rfl,s3,r3⟩
  rw[List.length_map,r3.length,List.length_map,List.length_range]
  exact Nat.le_refl _
 ·rintro i ys H3 hi ⟨ks,rfl,s3,r3⟩
  refine hte i H3 _ hi s3 fun l H2 s2 r2=>⟨ks ++ [l],by rw[List.map_append];rfl,s3.trans s2,?_⟩
  rw[List.range_succ,List.map_append]
  exact(r3.imp fun _ _ z=>st _ _ _ _ s2 z).snoc r2
 ·rintro ys H3 ⟨ks,rfl,s3,r3⟩
  exact hd ks H3 s3 r3
end L2
namespace M6
open PySem L2 M3 M5
def sl:Str:=Str.ofString "/"
end M6
namespace L2
open PySem
end L2
namespace M15
open M14
def idx(key:Nat→Int)(n:Nat):List Nat:=(List.range n).flatMap fun(i:Nat)=>(List.range n).filter fun k=>decide (key k=(i:Int)+1)
theorem zhX(key:Nat→Int)(n:Nat):(idx key n).Pairwise (R key):=by
 unfold idx
 rw[List.pairwise_flatMap]
 refine⟨fun i _=>?_,?_⟩
 ·rw[List.pairwise_filter]
  refine List.Pairwise.imp ?_ (List.pairwise_lt_range (n:=n))
  intro a b l ha hb
  have ha:=of_decide_eq_true ha
  have hb:=of_decide_eq_true hb
  exact .inr ⟨by omega,l⟩
 ·refine List.Pairwise.imp ?_ (List.pairwise_lt_range (n:=n))
  intro i j l x hx y hy
  have hx:=of_decide_eq_true (List.mem_filter.mp hx).2
  have hy:=of_decide_eq_true (List.mem_filter.mp hy).2
  exact .inl (by omega)
theorem zh9(key:Nat→Int)(n:Nat)(h:∀k,k<n→1≤key k∧key k≤n)(x:Nat):x∈idx key n↔x∈List.range n:=by
 unfold idx
 rw[List.mem_flatMap]
 constructor
 ·rintro ⟨i,_,z⟩
  exact(List.mem_filter.mp z).1
 ·intro z
  have hx:=List.mem_range.mp z
  have:=h x hx
  exact⟨(key x - 1).toNat,List.mem_range.mpr (by omega),List.mem_filter.mpr ⟨z,decide_eq_true (by omega)⟩⟩
theorem R.asymm{key:Nat→Int}{a b:Nat}(h:R key a b)(k:R key b a):False:=by
 rcases h with h | h <;> rcases k with k | k <;> omega
theorem one{key:Nat→Int}:∀{l m:List Nat},l.Pairwise (R key)→m.Pairwise (R key)→(∀x,x∈l↔x∈m)→l=m
 | [],[],_,_,_=>rfl
 | [],b::m,_,_,h=>absurd ((h b).mpr (List.mem_cons_self ..)) (List.not_mem_nil)
 | a::l,[],_,_,h=>absurd ((h a).mp (List.mem_cons_self ..)) (List.not_mem_nil)
 | a::l,b::m,hl,hm,h=>by
   rw[List.pairwise_cons] at hl hm
   have e:a=b:=by
    rcases List.mem_cons.mp ((h a).mp (List.mem_cons_self ..))with e | z
    ·exact e
    ·rcases List.mem_cons.mp ((h b).mpr (List.mem_cons_self ..))with e | y
     ·exact e.symm
     ·exact(R.asymm (hm.1 a z) (hl.1 b y)).elim
   subst e
   refine congrArg _ (one hl.2 hm.2 fun x=>?_)
   have nl:∀{l:List Nat},(∀y,y∈l→R key a y)→a∉l:=fun q z=>R.asymm (q a z) (q a z)
   constructor
   ·intro z
    rcases List.mem_cons.mp ((h x).mp (List.mem_cons_of_mem _ z))with e | y
    ·subst e;exact(nl hl.1 z).elim
    ·exact y
   ·intro z
    rcases List.mem_cons.mp ((h x).mpr (List.mem_cons_of_mem _ z))with e | y
    ·subst e;exact(nl hm.1 z).elim
    ·exact y
theorem zhg{key:Nat→Int}{n:Nat}{p:Array Nat}(h:I key n p n):p.toList.Pairwise (R key):=by
 rw[List.pairwise_iff_getElem]
 intro i j hi hj l
 have hz:=h.1.size
 have e:∀(k:Nat) (hk:k<p.toList.length),p.toList[k]=g p k:=fun k hk=>by
  have hk':k<p.size:=by simpa using hk
  show _=p.getD k 0
  simp[Array.getD,hk']
 rw[e i hi,e j hj]
 refine h.2 i j l ?_
 rw[← hz]
 simpa using hj
theorem is_idx{key:Nat→Int}{n:Nat}{p:Array Nat}(h:I key n p n)(hk:∀k,k<n→1≤key k∧key k≤n):p.toList=idx key n:=by
 refine one (zhg h) (zhX key n) fun x=>?_
 rw[zh9 key n hk]
 have:=h.1.pm.toList.mem_iff (a:=x)
 simpa using this
theorem zip_get(ps us:List Int)(h:ps.length=us.length):(List.range us.length).map (fun k=>(ps.getD k 0,us.getD k 0))=ps.zip us:=by
 refine List.ext_getElem (by simp[h]) fun i h1 h2=>?_
 have hi:i<us.length:=by simpa using h1
 have hp:i<ps.length:=by omega
 simp[hi,hp]
theorem rows_of{ps us:List Int}{p:Array Nat}(hl:ps.length=us.length)(hk:∀k,k<us.length→1≤ps.getD k 0∧ps.getD k 0≤us.length)(h:I (fun k=>ps.getD k 0) us.length p us.length):
 p.toList.map (fun k=>(ps.getD k 0,us.getD k 0))=M5.rows ps us:=by
 rw[is_idx h hk]
 unfold idx M5.rows
 rw[List.map_flatMap]
 congr 1
 funext i
 rw[← zip_get ps us hl,List.filter_map]
 rfl
end M15
namespace L2
open PySem PySem.W
theorem zds.noT{K:Frag}{H:Hp}{a:Addr}{cs:List (List Int)}(h:zds K (IL K) H a cs):zds K (IL K) (L2.noT H) a cs:=by
 obtain⟨ls,h1,h2⟩:=h
 exact⟨ls,h1.noT,h2.imp fun _ _ r=>SqL.noT r⟩
theorem zgs{K:Frag}{H:Hp}{ts:List Addr}{ps us:List Int}(hl:ps.length=us.length)(pr:Prs H ts ((ps.map V.int).zip (us.map V.int))):∀(l:List Nat),(∀i∈l,i<us.length)→All2 (TPl K H) (l.map fun i=>ts.getD i 0) (l.map fun i=>(ps.getD i 0,us.getD i 0))
 | [],_=>.nil
 | i::l,h=>by
   have hi:=h i (List.mem_cons_self ..)
   have lt:ts.length=us.length:=by rw[pr.length,List.length_zip,List.length_map,List.length_map];omega
   refine .cons ?_ (zgs hl pr l fun j hj=>h j (List.mem_cons_of_mem _ hj))
   have ht:ts[i]? = some (ts.getD i 0):=by rw[List.getD_eq_getElem?_getD,List.getElem?_eq_getElem (by omega)];rfl
   obtain⟨⟨pa,pb⟩,ep,e⟩:=pr.get i _ ht
   rw[List.getElem?_zip_eq_some] at ep
   obtain⟨e1,e2⟩:=ep
   rw[List.getElem?_map,List.getElem?_eq_getElem (by omega)] at e1 e2
   cases e1
   cases e2
   have h1:ps.getD i 0=ps[i]:=by rw[List.getD_eq_getElem?_getD,List.getElem?_eq_getElem (by omega)];rfl
   have h2:us.getD i 0=us[i]:=by rw[List.getD_eq_getElem?_getD,List.getElem?_eq_getElem (by omega)];rfl
   show SqT K H (ts.getD i 0) [.int (ps.getD i 0),.int (us.getD i 0)]
   rw[h1,h2]
   exact .inl (.inl e)
end L2
namespace M6
open M5
theorem zfY(xs:List Sg):zR xs xs=false:=by
 induction xs with
 | nil=>rfl
 | cons x xs ih=>rw[zR,if_pos rfl];exact ih
theorem zeo(a:List Int)(n:Nat):zS a a n=false:=zfY _
theorem zfw{α:Type}{p:α→Bool}:∀{l:List α} {x:α},x∈l→p x=false→(l.filter p).length<l.length
 | y::l,x,h,hp=>by
   rcases List.mem_cons.mp h with e | h
   ·subst e
    rw[List.filter_cons_of_neg (by rw[hp];exact Bool.false_ne_true),List.length_cons]
    exact Nat.lt_succ_of_le (List.length_filter_le _ _)
   ·have:=zfw h hp
    rw[List.filter_cons]
    split
    ·rw[List.length_cons,List.length_cons];omega
    ·rw[List.length_cons];omega
theorem zeB(cs:List (List Int))(us:List Int):∀k,k<us.length→1≤(places cs us).getD k 0∧(places cs us).getD k 0≤us.length:=fun k hk=>by
 have e:(places cs us).getD k 0=1+((us.filter fun d=>zS (zm cs d) (zm cs us[k]) us.length).length:Int):=by
  unfold places
  rw[List.getD_eq_getElem?_getD,List.getElem?_map,List.getElem?_eq_getElem hk]
  rfl
 have:=zfw (p:=fun d=>zS (zm cs d) (zm cs us[k]) us.length) (List.getElem_mem hk) (zeo _ _)
 rw[e]
 omega
end M6
namespace M6
open PySem L2 M3 M5
theorem olt_trans{x y z:Sg}(h:olt x y=true)(k:olt y z=true):olt x z=true:=by
 cases x with
 | none=>cases h
 | some p =>
   cases y with
   | none=>cases k
   | some q =>
     cases z with
     | none=>rfl
     | some r =>
       simp only[olt,Bool.or_eq_true,Bool.and_eq_true,decide_eq_true_eq] at h k ⊢
       omega
theorem olt_ne{x y:Sg}(h:olt x y=true):x≠y:=fun e=>by
 subst e
 cases x with
 | none=>cases h
 | some p=>simp only[olt,Bool.or_eq_true,Bool.and_eq_true,decide_eq_true_eq] at h;omega
theorem olt_total{x y:Sg}(h:x≠y):olt x y=true∨olt y x=true:=by
 cases x with
 | none=>cases y with
   | none=>exact absurd rfl h
   | some q=>exact .inr rfl
 | some p=>cases y with
   | none=>exact .inl rfl
   | some q =>
     obtain⟨p1,p2⟩:=p
     obtain⟨q1,q2⟩:=q
     have:¬(p1=q1∧p2=q2):=fun z=>h (by rw[z.1,z.2])
     simp only[olt,Bool.or_eq_true,Bool.and_eq_true,decide_eq_true_eq]
     omega
theorem zcy:∀{xs ys zs:List Sg},zR xs ys=true→zR ys zs=true→zR xs zs=true
 | [],_,_,h,_=>by cases h
 | _::_,[],_,h,_=>by cases h
 | _::_,_::_,[],_,k=>by cases k
 | x::xs,y::ys,z::zs,h,k=>by
   rw[zR] at h k ⊢
   by_cases c:x=y
   ·rw[if_pos c] at h
    subst c
    by_cases d:x=z
    ·rw[if_pos d] at k ⊢
     exact zcy h k
    ·rw[if_neg d] at k ⊢
     exact k
   ·rw[if_neg c] at h
    by_cases d:y=z
    ·subst d
     rw[if_neg c]
     exact h
    ·rw[if_neg d] at k
     have:=olt_trans h k
     rw[if_neg (olt_ne this)]
     exact this
theorem zba:∀{xs ys:List Sg},xs.length=ys.length→xs≠ys→zR xs ys=true∨zR ys xs=true
 | [],[],_,h=>absurd rfl h
 | [],_::_,l,_=>by cases l
 | _::_,[],l,_=>by cases l
 | x::xs,y::ys,l,h=>by
   rw[zR,zR]
   by_cases c:x=y
   ·rw[if_pos c,if_pos c.symm]
    exact zba (by simpa using l) fun z=>h (by rw[c,z])
   ·rw[if_neg c,if_neg fun z=>c z.symm]
    exact olt_total c
theorem zew{α:Type}{p q:α→Bool}:∀{l:List α},(∀x∈l,p x=true→q x=true)→(l.filter p).length≤(l.filter q).length
 | [],_=>Nat.le_refl _
 | x::l,h=>by
   have ih:=zew (p:=p) (q:=q) fun y hy=>h y (List.mem_cons_of_mem _ hy)
   rw[List.filter_cons,List.filter_cons]
   cases hp:p x with
   | false =>
     cases hq:q x with
     | false=>exact ih
     | true=>exact Nat.le_succ_of_le ih
   | true =>
     rw[h x (List.mem_cons_self ..) hp]
     exact Nat.succ_le_succ ih
theorem zcZ{α:Type}{p q:α→Bool}:∀{l:List α} {x:α},x∈l→p x=false→q x=true→(∀x∈l,p x=true→q x=true)→(l.filter p).length<(l.filter q).length
 | y::l,x,hx,hp,hq,h=>by
   have le:=zew (p:=p) (q:=q) fun y hy=>h y (List.mem_cons_of_mem _ hy)
   rw[List.filter_cons,List.filter_cons]
   rcases List.mem_cons.mp hx with e | hx
   ·subst e
    rw[hp,hq]
    exact Nat.lt_succ_of_le le
   ·have ih:=zcZ hx hp hq fun y hy=>h y (List.mem_cons_of_mem _ hy)
    cases hp':p y with
    | false =>
      cases hq':q y with
      | false=>exact ih
      | true=>exact Nat.lt_succ_of_lt ih
    | true =>
      rw[h y (List.mem_cons_self ..) hp']
      exact Nat.succ_lt_succ ih
theorem zcS{cs:List (List Int)}{us:List Int}{c d:Int}(hc:c∈us)(h:zS (zm cs c) (zm cs d) us.length=true):wx cs us c<wx cs us d:=by
 unfold wx
 have:=zcZ (p:=fun e=>zS (zm cs e) (zm cs c) us.length) (q:=fun e=>zS (zm cs e) (zm cs d) us.length) hc (zeo _ _) h fun x _ hx=>zcy hx h
 omega
theorem zgo{cs:List (List Int)}{us:List Int}{c d:Int}(hc:c∈us)(hd:d∈us)(h:wx cs us c=wx cs us d):yI (zm cs c) us.length=yI (zm cs d) us.length:=by
 by_cases e:yI (zm cs c) us.length=yI (zm cs d) us.length
 ·exact e
 ·rcases zba (by rw[zan,zan]) e with z | z
  ·have:=zcS (d:=d) hc z;omega
  ·have:=zcS (d:=c) hd z;omega
theorem zft{a:List Int}{n:Nat}(ha:∀x∈a,x≤n){k:Nat}(h:n≤k):sg a k=sg a n:=by
 have e:got a k=got a n:=by
  unfold got
  exact List.filter_congr fun x hx=>by have:=ha x hx;rw[decide_eq_true (by omega),decide_eq_true this]
 unfold sg cnt sm
 rw[e]
theorem zgw{a b:List Int}{n m:Nat}{r:Option (Nat × Str)}(ha:∀x∈a,x≤n)(hb:∀x∈b,x≤n)(h1:1≤n)(hm:n≤m)(h:yS a b m r):yS a b n r:=by
 cases r with
 | none=>exact fun k k1 k2=>h k k1 (by omega)
 | some r =>
   refine⟨h.1,?_,h.2.2.1,h.2.2.2⟩
   by_cases c:r.1≤n
   ·exact c
   ·refine absurd ?_ h.2.2.2.1
    rw[zft ha (by omega),zft hb (by omega)]
    exact h.2.2.1 n h1 (by omega)
theorem nb_part{cs:List (List Int)}{us:List Int}{c d:Int}{r:Option (Nat × Str)}(hp:∀d∈cs,d.Perm us)(h1:1≤us.length)(h24:us.length≤24)(hc:c∈us)(hd:d∈us)(h:yS (zm cs c) (zm cs d) 24 r):
 nb cs us (wx cs us c,c) (wx cs us d,d)=r.map fun r=>(c,d,(r.1:Int),r.2):=by
 have h':=zgw (fun x hx=>(wD hp hc x hx).2) (fun x hx=>(wD hp hd x hx).2) h1 h24 h
 have e:=za8 h' (zci (zm cs c) (zm cs d) us.length)
 unfold nb
 dsimp only
 by_cases z:wx cs us c=wx cs us d
 ·rw[if_pos z]
  have es:=zgo hc hd z
  have:yS (zm cs c) (zm cs d) us.length none:=fun k k1 k2=>by
   have:=congrArg (fun l=>l[k - 1]?) es
   unfold yI at this
   simp only[List.getElem?_map] at this
   rw[List.getElem?_range (by omega)] at this
   have ek:((k - 1:Nat):Int)+1=(k:Int):=by omega
   simpa [ek] using this
  rw[za8 h' this]
  rfl
 ·rw[if_neg z,e]
end M6
namespace L2
open PySem
end L2
namespace M6
open PySem L2 M3 M5
end M6
namespace L2
open PySem
theorem zhu{K:PySem.W.Frag}{F:Addr→Prop}{a:Addr}{ls:List Addr}{cs:List (List Int)}{f:List Int→List Int}{c:St}{te:TE}{H:Hp}{fin:List V→Hp→Prop}(hA:SqL K H a (ls.map V.ref))(hR:All2 (fun l d=>H l=some (.lst (d.map V.int))) ls cs)(hz:cs.length≤1000)
 (hte:∀(m:Addr) (d:List Int) (H':Hp) (Q:VK),d∈cs→H' m=some (.lst (d.map V.int))→zh H H'→(∀(l:Addr) (H2:Hp),zh H' H2→H2 l=some (.lst ((f d).map V.int))→¬F l→Q (.ref l) H2)→te (some (.ref m)::c) H' Q)
 (hd:∀(ks:List Addr) (H':Hp),zh H H'→All2 (fun l d=>H' l=some (.lst (d.map V.int))∧¬F l) ks (cs.map f)→fin (ks.map V.ref) H'):za4 (Itl K a) c zfS te H fin:=by
 have hln:=zw
 have hl:=hR.length
 refine yq (xs:=ls.map V.ref) (fun k ys H5=>∃ks:List Addr,ys=ks.map V.ref∧zh H H5∧All2 (fun l d=>H5 l=some (.lst (d.map V.int))∧¬F l) ks ((cs.take k).map f)) ⟨[],rfl,zh.refl _,.nil⟩ ?_ (by rw[List.length_map];omega) ?_ ?_
 ·rintro k ys H5 hk ⟨ks,rfl,s5,r5⟩
  refine⟨s5.seq hA,?_⟩
  have:=r5.length
  rw[List.length_map,List.length_take] at this
  rw[List.length_map]
  omega
 ·rintro k x ys H5 hx ⟨ks,rfl,s5,r5⟩
  obtain⟨m,em,rfl⟩:=zby hx
  obtain⟨d,ed,rm⟩:=hR.getL em
  refine hte m d H5 _ (List.mem_of_getElem? ed) (s5 _ _ rm) s5 fun l H2 s2 r2 n2=>⟨ks ++ [l],by rw[List.map_append];rfl,s5.trans s2,?_⟩
  rw[List.take_succ,ed,List.map_append]
  exact(r5.imp fun _ _ z=>⟨s2 _ _ z.1,z.2⟩).snoc ⟨r2,n2⟩
 ·rintro ys H5 ⟨ks,rfl,s5,r5⟩
  rw[List.length_map,hl,List.take_length] at r5
  exact hd ks H5 s5 r5
end L2
namespace M6
open PySem L2 M3 M5
theorem zfo{α:Type}{g g':Nat→List α}:∀l:List Nat,(∀i∈l,g' i=g i)→l.flatMap g'=l.flatMap g
 | [],_=>rfl
 | j::l,h=>by rw[List.flatMap_cons,List.flatMap_cons,h j (by simp),zfo l fun i hi=>h i (List.mem_cons_of_mem _ hi)]
theorem zgz{α:Type}{x:α}{g g':Nat→List α}{i0:Nat}:∀l:List Nat,l.Nodup→i0∈l→g' i0=x::g i0→(∀i,i≠i0→g' i=g i)→(l.flatMap g').Perm (x::l.flatMap g)
 | [],_,h,_,_=>by cases h
 | j::l,nd,h,h1,h2=>by
   obtain⟨n1,n2⟩:=List.nodup_cons.mp nd
   rw[List.flatMap_cons,List.flatMap_cons]
   by_cases e:j=i0
   ·subst e
    rw[h1,zfo l fun i hi=>h2 i (fun z=>n1 (z ▸ hi))]
    exact List.Perm.refl _
   ·have hm:i0∈l:=by
     rcases List.mem_cons.mp h with z | z
     ·exact absurd z.symm e
     ·exact z
    rw[h2 j e]
    exact((zgz l n2 hm h1 h2).append_left (g j)).trans List.perm_middle
theorem zg6(f:Int→Int)(n:Nat):∀us:List Int,(∀u∈us,1≤f u∧f u≤n)→((List.range n).flatMap (blk f us)).Perm (us.map fun c=>(f c,c))
 | [],_=>by
   rw[show(List.range n).flatMap (blk f []) = [] from List.flatMap_eq_nil_iff.mpr fun i _=>rfl]
   exact List.Perm.refl _
 | u::us,h=>by
   have hu:=h u (by simp)
   have ih:=zg6 f n us fun v hv=>h v (List.mem_cons_of_mem _ hv)
   have e:=zgz (x:=(f u,u)) (g:=blk f us) (g':=blk f (u::us)) (i0:=(f u - 1).toNat) (List.range n) List.nodup_range (List.mem_range.mpr (by omega)) (by
    unfold blk
    rw[List.filter_cons,if_pos (by rw[decide_eq_true (by omega)])]
    rfl) (fun i hi=>by
    unfold blk
    rw[List.filter_cons,if_neg (by rw[decide_eq_false (by omega)];decide)])
   exact e.trans (ih.cons _)
theorem zhG(f:Int→Int)(us:List Int)(n:Nat):((List.range n).flatMap (blk f us)).Pairwise fun p q=>p.1≤q.1:=by
 have hb:∀{i:Nat} {p:Int × Int},p∈blk f us i→p.1=(i:Int)+1:=fun {i p} h=>by
  unfold blk at h
  obtain⟨c,hc,rfl⟩:=List.mem_map.mp h
  exact of_decide_eq_true (List.mem_filter.mp hc).2
 rw[List.pairwise_flatMap]
 refine⟨fun i _=>?_,?_⟩
 ·rw[List.pairwise_iff_forall_sublist]
  intro p q h
  have h1:=hb (h.subset (by simp):p∈blk f us i)
  have h2:=hb (h.subset (by simp):q∈blk f us i)
  omega
 ·refine List.Pairwise.imp ?_ (List.pairwise_lt_range (n:=n))
  intro i j h p hp q hq
  have h1:=hb hp
  have h2:=hb hq
  omega
theorem plc_rng{cs:List (List Int)}{us:List Int}{u:Int}(h:u∈us):1≤plc cs us u∧plc cs us u≤us.length:=by
 obtain⟨i,hi,rfl⟩:=List.getElem_of_mem h
 have:=zeB cs us i hi
 have e:(places cs us).getD i 0=plc cs us us[i]:=by
  unfold places
  rw[List.getD_eq_getElem?_getD,List.getElem?_map,List.getElem?_eq_getElem hi]
  rfl
 rw[e] at this
 exact this
theorem zcj(cs:List (List Int))(us:List Int):(rows (places cs us) us).Perm (us.map fun c=>(plc cs us c,c)):=by
 rw[zdC]
 exact zg6 _ _ _ fun u hu=>plc_rng hu
theorem zd4(cs:List (List Int))(us:List Int):(rows (places cs us) us).length=us.length:=by rw[(zcj cs us).length_eq,List.length_map]
theorem zfM(cs:List (List Int))(us:List Int):(rows (places cs us) us).Pairwise fun p q=>p.1≤q.1:=by
 rw[zdC]
 exact zhG _ _ _
theorem plc_ahead{cs:List (List Int)}{us:List Int}{c d:Int}(hc:c∈us)(hd:d∈us):zS (zm cs d) (zm cs c) us.length=decide (plc cs us d<plc cs us c):=by
 cases e:zS (zm cs d) (zm cs c) us.length with
 | true=>exact(decide_eq_true (zcS (cs:=cs) hd e)).symm
 | false =>
   refine(decide_eq_false fun z=>?_).symm
   by_cases q:yI (zm cs d) us.length=yI (zm cs c) us.length
   ·have:plc cs us d=plc cs us c:=by
     unfold plc zcw
     congr 2
     refine congrArg List.length (List.filter_congr fun x _=>?_)
     unfold zS
     rw[q]
    omega
   ·rcases zba (by rw[zan,zan]) q with w | w
    ·have w:zS (zm cs d) (zm cs c) us.length=true:=w
     rw[e] at w;cases w
    ·have:=zcS (cs:=cs) (us:=us) (c:=c) (d:=d) hc w
     have this:plc cs us c<plc cs us d:=this
     omega
theorem plc_count{cs:List (List Int)}{us:List Int}{c:Int}(hc:c∈us):plc cs us c=1+((us.filter fun d=>decide (plc cs us d<plc cs us c)).length:Int):=by
 have e:(us.filter fun d=>zS (zm cs d) (zm cs c) us.length)=us.filter fun d=>decide (plc cs us d<plc cs us c):=List.filter_congr fun d hd=>plc_ahead hc hd
 rw[← e]
 rfl
theorem zhv{cs:List (List Int)}{us:List Int}(h:0<(rows (places cs us) us).length):((rows (places cs us) us)[0]).1=1:=by
 have hp:=zcj cs us
 have hu:=List.pairwise_iff_getElem.mp (zfM cs us)
 have hm:=hp.mem_iff.mp (List.getElem_mem h)
 obtain⟨c,hc,e⟩:=List.mem_map.mp hm
 have e1:((rows (places cs us) us)[0]).1=plc cs us c:=by rw[← e]
 have hcn:=plc_count (cs:=cs) hc
 have h0:(us.filter fun d=>decide (plc cs us d<plc cs us c)) = []:=List.filter_eq_nil_iff.mpr fun d hd=>by
  have hq:=hp.mem_iff.mpr (List.mem_map.mpr ⟨d,hd,rfl⟩)
  obtain⟨i,hi,ei⟩:=List.getElem_of_mem hq
  have:((rows (places cs us) us)[0]).1≤((rows (places cs us) us)[i]).1:=by
   by_cases z:i=0
   ·subst z;exact Int.le_refl _
   ·exact hu 0 i h hi (by omega)
  rw[ei,e1] at this
  simp
  exact this
 rw[e1,hcn,h0]
 rfl
end M6
namespace M6
open PySem L2 M3 M5
theorem zh2{g:Int→Int}{c:Int}:∀{d:List Int},(∀x∈d,g x=g c→x=c)→(d.map g).idxOf (g c)=d.idxOf c
 | [],_=>rfl
 | x::d,h=>by
   rw[List.map_cons,List.idxOf_cons,List.idxOf_cons]
   by_cases e:x=c
   ·subst e;simp
   ·have e2:¬g x=g c:=fun z=>e (h x (by simp) z)
    rw[show(g x==g c)=false from by simp[e2],show(x==c)=false from by simp[e],zh2 fun y hy=>h y (List.mem_cons_of_mem _ hy)]
theorem marks_ren{cs:List (List Int)}{g:Int→Int}{c:Int}(h:∀d∈cs,∀x∈d,g x=g c→x=c):zm (cs.map (List.map g)) (g c)=zm cs c:=by
 unfold zm
 rw[List.map_map]
 refine List.map_congr_left fun d hd=>?_
 show(((d.map g).idxOf (g c):Nat):Int)+1=_
 rw[zh2 (h d hd)]
section
variable {cs cs':List (List Int)} {us us':List Int} {g:Int→Int}
theorem sg_ren(hcs:cs'.Perm (cs.map (List.map g)))(hinj:∀x∈us,∀y∈us,g x=g y→x=y)(hp:∀d∈cs,d.Perm us){c:Int}(hc:c∈us)(k:Int):sg (zm cs' (g c)) k=sg (zm cs c) k:=by
 rw[sg_perm (zh0 hcs (g c)) k,marks_ren fun d hd x hx e=>hinj x ((hp d hd).mem_iff.mp hx) c hc e]
theorem zef(hcs:cs'.Perm (cs.map (List.map g)))(hinj:∀x∈us,∀y∈us,g x=g y→x=y)(hp:∀d∈cs,d.Perm us){c:Int}(hc:c∈us)(n:Nat):yI (zm cs' (g c)) n=yI (zm cs c) n:=by
 unfold yI
 exact List.map_congr_left fun i _=>sg_ren hcs hinj hp hc _
theorem zcT(hcs:cs'.Perm (cs.map (List.map g)))(hus:us'.Perm (us.map g))(hinj:∀x∈us,∀y∈us,g x=g y→x=y)(hp:∀d∈cs,d.Perm us){c:Int}(hc:c∈us):plc cs' us' (g c)=plc cs us c:=by
 unfold plc zcw
 have hl:us'.length=us.length:=by rw[hus.length_eq,List.length_map]
 rw[hl,(hus.filter _).length_eq,List.filter_map,List.length_map]
 congr 3
 refine List.filter_congr fun d hd=>?_
 show zS (zm cs' (g d)) (zm cs' (g c)) us.length=_
 unfold zS
 rw[zef hcs hinj hp hd,zef hcs hinj hp hc]
theorem find_ren{a b a' b':List Int}{n:Nat}(ha:yI a' n=yI a n)(hb:yI b' n=yI b n):zbn a' b' n=zbn a b n:=by
 have ga:∀i,i<n→sg a' ((i:Int)+1)=sg a ((i:Int)+1):=fun i hi=>by
  have h1:=za7 a' hi
  have h2:=za7 a hi
  rw[ha,h2] at h1
  injection h1 with h1
  exact h1.symm
 have gb:∀i,i<n→sg b' ((i:Int)+1)=sg b ((i:Int)+1):=fun i hi=>by
  have h1:=za7 b' hi
  have h2:=za7 b hi
  rw[hb,h2] at h1
  injection h1 with h1
  exact h1.symm
 refine za8 (n:=n) (zci a' b' n) ?_
 have h:=zci a b n
 cases e:zbn a b n with
 | none =>
   rw[e] at h
   intro k h1 h2
   have:=h k h1 h2
   have w1:=ga (k - 1) (by omega)
   have w2:=gb (k - 1) (by omega)
   rw[show(((k - 1:Nat)):Int)+1=(k:Int)by omega] at w1 w2
   rw[w1,w2,this]
 | some r =>
   rw[e] at h
   obtain⟨h1,h2,h3,h4,h5⟩:=h
   have w1:=ga (r.1 - 1) (by omega)
   have w2:=gb (r.1 - 1) (by omega)
   rw[show(((r.1 - 1:Nat)):Int)+1=(r.1:Int)by omega] at w1 w2
   refine⟨h1,h2,fun j j1 j2=>?_,by rw[w1,w2];exact h4,by rw[w1,w2];exact h5⟩
   have v1:=ga (j - 1) (by omega)
   have v2:=gb (j - 1) (by omega)
   rw[show(((j - 1:Nat)):Int)+1=(j:Int)by omega] at v1 v2
   rw[v1,v2,h3 j j1 j2]
theorem zfL(hcs:cs'.Perm (cs.map (List.map g)))(hus:us'.Perm (us.map g))(hinj:∀x∈us,∀y∈us,g x=g y→x=y)(hp:∀d∈cs,d.Perm us):(rows (places cs' us') us').map Prod.fst=(rows (places cs us) us).map Prod.fst:=by
 have h1:((rows (places cs us) us).map Prod.fst).Perm (us.map (plc cs us)):=by
  have:=(zcj cs us).map Prod.fst
  rw[List.map_map] at this
  exact this
 have h2:((rows (places cs' us') us').map Prod.fst).Perm (us'.map (plc cs' us')):=by
  have:=(zcj cs' us').map Prod.fst
  rw[List.map_map] at this
  exact this
 have h3:(us'.map (plc cs' us')).Perm (us.map (plc cs us)):=by
  have:=hus.map (plc cs' us')
  rw[List.map_map] at this
  have e:us.map (plc cs' us' ∘ g)=us.map (plc cs us):=List.map_congr_left fun c hc=>zcT hcs hus hinj hp hc
  rw[e] at this
  exact this
 exact List.Perm.eq_of_pairwise (fun a b _ _ x y=>Int.le_antisymm x y) (List.pairwise_map.mpr (zfM cs' us')) (List.pairwise_map.mpr (zfM cs us)) ((h2.trans h3).trans h1.symm)
theorem ze4(hcs:cs'.Perm (cs.map (List.map g)))(hus:us'.Perm (us.map g))(hinj:∀x∈us,∀y∈us,g x=g y→x=y)(hp:∀d∈cs,d.Perm us){i:Nat}{p p':Int × Int}(h:(rows (places cs us) us)[i]? = some p)(h':(rows (places cs' us') us')[i]? = some p'):p'.1=p.1∧yI (zm cs' p'.2) us.length=yI (zm cs p.2) us.length:=by
 have e:=congrArg (fun l=>l[i]?) (zfL hcs hus hinj hp)
 simp only[List.getElem?_map,h,h',Option.map_some] at e
 injection e with e
 refine⟨e,?_⟩
 obtain⟨m1,m2⟩:=zcW (List.mem_of_getElem? h)
 obtain⟨m1',m2'⟩:=zcW (List.mem_of_getElem? h')
 obtain⟨d,hd,ed⟩:=List.mem_map.mp (hus.mem_iff.mp m1')
 have hd2:plc cs us d=plc cs us p.2:=by
  rw[← zcT hcs hus hinj hp hd,ed]
  exact m2'.symm.trans (e.trans m2)
 rw[← ed,zef hcs hinj hp hd]
 exact zgo hd m1 hd2
theorem zfH(hcs:cs'.Perm (cs.map (List.map g)))(hus:us'.Perm (us.map g))(hinj:∀x∈us,∀y∈us,g x=g y→x=y)(hp:∀d∈cs,d.Perm us):((wN cs' us').map fun p=>p.2.2)=((wN cs us).map fun p=>p.2.2):=by
 have hl:us'.length=us.length:=by rw[hus.length_eq,List.length_map]
 have hrl:(rows (places cs' us') us').length=(rows (places cs us) us).length:=by rw[zd4,zd4,hl]
 have hi:=fun {i:Nat} {p p':Int × Int}=>@ze4 cs cs' us us' g hcs hus hinj hp i p p'
 unfold wN
 rw[List.map_filterMap,List.map_filterMap]
 generalize rows (places cs' us') us'=rs' at hrl hi
 generalize rows (places cs us) us=rs at hrl hi
 have key:∀{α β:Type} (l l':List α) (f f':α→Option β),l'.map f'=l.map f→l'.filterMap f'=l.filterMap f:=fun l l' f f' h=>by
  have h1:l.filterMap f=(l.map f).filterMap id:=by rw[List.filterMap_map];rfl
  have h2:l'.filterMap f'=(l'.map f').filterMap id:=by rw[List.filterMap_map];rfl
  rw[h1,h2,h]
 refine key _ _ _ _ (List.ext_getElem (by simp[List.length_zip,List.length_tail,hrl]) fun i h1 h2=>?_)
 rw[List.length_map,List.length_zip,List.length_tail] at h1 h2
 rw[List.getElem_map,List.getElem_map,List.getElem_zip,List.getElem_zip,List.getElem_tail,List.getElem_tail]
 obtain⟨a1,a2⟩:=hi (List.getElem?_eq_getElem (show i<rs.length by omega)) (List.getElem?_eq_getElem (show i<rs'.length by omega))
 obtain⟨b1,b2⟩:=hi (List.getElem?_eq_getElem (show i+1<rs.length by omega)) (List.getElem?_eq_getElem (show i+1<rs'.length by omega))
 generalize rs'[i]'(by omega)=p1 at a1 a2 ⊢
 generalize rs'[i+1]'(by omega)=p2 at b1 b2 ⊢
 generalize rs[i]'(by omega)=q1 at a1 a2 ⊢
 generalize rs[i+1]'(by omega)=q2 at b1 b2 ⊢
 show(nb cs' us' p1 p2).map (fun p=>p.2.2)=(nb cs us q1 q2).map (fun p=>p.2.2)
 unfold nb
 rw[hl,a1,b1,find_ren a2 b2]
 split
 ·rfl
 ·rw[Option.map_map,Option.map_map]
  rfl
theorem zeh{p q:Int→Bool}{l:List Int}:l.filter p=l.filter q↔∀x∈l,p x=q x:=by
 refine⟨fun h x hx=>?_,fun h=>List.filter_congr h⟩
 have h1:x∈l.filter p↔x∈l.filter q:=by rw[h]
 rw[List.mem_filter,List.mem_filter] at h1
 cases a:p x with
 | true=>exact(h1.mp ⟨hx,a⟩).2.symm
 | false =>
   cases b:q x with
   | false=>rfl
   | true=>rw[(h1.mpr ⟨hx,b⟩).2] at a;cases a
theorem zhS{ds ds':List (List Int)}(hcs:cs'.Perm (cs.map (List.map g)))(hds:ds'.Perm (ds.map (List.map g)))(hus:us'.Perm (us.map g))(hinj:∀x∈us,∀y∈us,g x=g y→x=y)(hp:∀d∈cs,d.Perm us)(hq:∀d∈ds,d.Perm us):yz cs' us'=yz ds' us'↔yz cs us=yz ds us:=by
 rw[wM,wM,wM,wM,zeh,zeh]
 have f1:∀c∈us,zcw cs' us' (g c)=zcw cs us c:=fun c hc=>by
  have:=zcT hcs hus hinj hp hc
  unfold plc at this
  omega
 have f2:∀c∈us,zcw ds' us' (g c)=zcw ds us c:=fun c hc=>by
  have:=zcT hds hus hinj hq hc
  unfold plc at this
  omega
 refine⟨fun h c hc=>?_,fun h u hu=>?_⟩
 ·have:=h (g c) (hus.mem_iff.mpr (List.mem_map.mpr ⟨c,hc,rfl⟩))
  rw[f1 c hc,f2 c hc] at this
  exact this
 ·obtain⟨c,hc,rfl⟩:=List.mem_map.mp (hus.mem_iff.mp hu)
  rw[f1 c hc,f2 c hc]
  exact h c hc
end
end M6
namespace L2
open PySem
theorem zfp{α:Type}{l:List α}{k:Nat}(h:k<l.length):l.Perm (l[k]::(l.take k++l.drop (k+1))):=by
 have e:l.take k++l.drop k=l:=List.take_append_drop k l
 rw[List.drop_eq_getElem_cons h] at e
 have p:(l.take k++l[k]::l.drop (k+1)).Perm (l[k]::(l.take k++l.drop (k+1))):=List.perm_middle
 rw[e] at p
 exact p
theorem zbw{n:Nat}{k:Int}(h:k∈ww n):0≤k∧k<n∧k.toNat<n:=by
 unfold ww at h
 obtain⟨i,hi,rfl⟩:=List.mem_map.mp h
 have:=List.mem_range.mp hi
 exact⟨by omega,by omega,by omega⟩
theorem zei{α:Type}(n:Nat)(f:Nat→α):(ww n).map (fun k=>f k.toNat)=(List.range n).map f:=by
 unfold ww
 rw[List.map_map]
 exact List.map_congr_left fun i _=>by show f ((i:Int)).toNat=f i;rw[show((i:Int)).toNat=i by omega]
theorem zdf{α β:Type}(l:List α)(d:α)(g:α→β):(List.range l.length).map (fun k=>g (l.getD k d))=l.map g:=by
 conv=>rhs;rw[← zd1 l d]
 rw[List.map_map]
 rfl
theorem wq(n:Nat):(ww n).length=n:=by unfold ww;rw[List.length_map,List.length_range]
theorem ne_ren(g:Int→Int)(rs:List (List Int)):(rs.map (List.map g)).filter (fun d => !decide (d = []))=(rs.filter fun d => !decide (d = [])).map (List.map g):=by
 rw[List.filter_map]
 congr 1
 refine List.filter_congr fun d _=>?_
 show(!decide (d.map g = []))=_
 cases d with
 | nil=>rfl
 | cons a d=>rfl
structure Ren (S U:Sh) (g:Int→Int) (os ss:List Int):Prop where
 okS:S.Ok
 okU:U.Ok
 ho:os.Perm (ww S.couples.length)
 hs:ss.Perm (ww S.panel.length)
 hu:U.couples=os.map fun k=>g (S.couples.getD k.toNat 0)
 inj:∀x∈S.couples,∀y∈S.couples,g x=g y→x=y
 hr:U.rows=ss.map fun k=>(S.rows.getD k.toNat []).map g
 hp:U.panel.length=S.panel.length
namespace Ren
variable {S U:Sh} {g:Int→Int} {os ss:List Int}
theorem usP(R:Ren S U g os ss):U.couples.Perm (S.couples.map g):=by
 rw[R.hu]
 refine(R.ho.map _).trans (List.Perm.of_eq ?_)
 rw[zei S.couples.length (fun i=>g (S.couples.getD i 0)),zdf]
theorem osR(R:Ren S U g os ss):∀k∈os,0≤k∧k<S.couples.length:=fun k hk=>⟨(zbw (R.ho.mem_iff.mp hk)).1,(zbw (R.ho.mem_iff.mp hk)).2.1⟩
theorem osL(R:Ren S U g os ss):os.length=S.couples.length:=by rw[R.ho.length_eq,wq]
theorem ssR(R:Ren S U g os ss):∀k∈ss,0≤k∧k<S.panel.length:=fun k hk=>⟨(zbw (R.hs.mem_iff.mp hk)).1,(zbw (R.hs.mem_iff.mp hk)).2.1⟩
theorem ssL(R:Ren S U g os ss):ss.length=S.panel.length:=by rw[R.hs.length_eq,wq]
theorem places(R:Ren S U g os ss){cs cs':List (List Int)}(hcs:cs'.Perm (cs.map (List.map g)))(hp:∀d∈cs,d.Perm S.couples):M6.places cs' U.couples=os.map fun k=>(M6.places cs S.couples).getD k.toNat 0:=by
 have e:M6.places cs' U.couples=U.couples.map (M6.plc cs' U.couples):=rfl
 rw[e]
 conv=>lhs;rw[R.hu]
 rw[List.map_map]
 refine List.map_congr_left fun k hk=>?_
 have hk2:k.toNat<S.couples.length:=by have:=R.osR k hk;omega
 have hm:S.couples.getD k.toNat 0∈S.couples:=wk hk2
 have e2:(M6.places cs S.couples).getD k.toNat 0=M6.plc cs S.couples (S.couples.getD k.toNat 0):=by
  unfold M6.places
  rw[List.getD_eq_getElem?_getD,List.getD_eq_getElem?_getD,List.getElem?_map,List.getElem?_eq_getElem hk2]
  rfl
 rw[e2]
 have:=M6.zcT hcs R.usP R.inj hp hm
 rw[← R.hu]
 exact this
theorem rowsP(R:Ren S U g os ss):U.rows.Perm (S.rows.map (List.map g)):=by
 rw[R.hr]
 refine(R.hs.map _).trans (List.Perm.of_eq ?_)
 rw[zei S.panel.length (fun i=>(S.rows.getD i []).map g),← S.rows_len,zdf _ [] (List.map g)]
theorem inP(R:Ren S U g os ss):U.cardsIn.Perm (S.cardsIn.map (List.map g)):=by
 rw[Sh.cardsIn_rows R.okU,Sh.cardsIn_rows R.okS,← ne_ren]
 exact R.rowsP.filter _
theorem seat(R:Ren S U g os ss){k:Nat}(hk:k<S.panel.length):(ss.getD k 0).toNat<S.panel.length∧U.rows.getD k []=(S.rows.getD (ss.getD k 0).toNat []).map g:=by
 have hk2:k<ss.length:=by rw[R.ssL];exact hk
 refine⟨by have:=R.ssR _ (wk hk2);omega,?_⟩
 rw[R.hr,List.getD_eq_getElem?_getD,List.getElem?_map,List.getElem?_eq_getElem hk2]
 rw[show ss.getD k 0=ss[k] by rw[List.getD_eq_getElem?_getD,List.getElem?_eq_getElem hk2];rfl]
 rfl
theorem cutP(R:Ren S U g os ss){k:Nat}(hk:k<S.panel.length):((U.rows.take k++U.rows.drop (k+1)).filter fun d => !Decidable.decide (d = [])).Perm (((S.rows.take (ss.getD k 0).toNat++S.rows.drop ((ss.getD k 0).toNat+1)).filter fun d => !Decidable.decide (d = [])).map (List.map g)):=by
 obtain⟨h1,h2⟩:=R.seat hk
 generalize (ss.getD k 0).toNat=i at h1 h2 ⊢
 have hku:k<U.rows.length:=by rw[U.rows_len,R.hp];exact hk
 have his:i<S.rows.length:=by rw[S.rows_len];exact h1
 have p1:=zfp hku
 have p2:=(zfp his).map (List.map g)
 rw[List.map_cons] at p2
 have p3:=(p1.symm.trans R.rowsP).trans p2
 rw[show U.rows[k]=(S.rows[i]).map g by
  rw[List.getD_eq_getElem?_getD,List.getD_eq_getElem?_getD,List.getElem?_eq_getElem hku,List.getElem?_eq_getElem his] at h2
  exact h2] at p3
 have p4:=(p3.cons_inv).filter (fun d => !Decidable.decide (d = []))
 rw[ne_ren] at p4
 exact p4
theorem woP(R:Ren S U g os ss){k:Nat}(hk:k<S.panel.length):(U.cardsWo (U.panel.getD k "")).Perm ((S.cardsWo (S.panel.getD (ss.getD k 0).toNat "")).map (List.map g)):=by
 rw[Sh.cardsWo_rows R.okU (by rw[R.hp];exact hk),Sh.cardsWo_rows R.okS (R.seat hk).1]
 exact R.cutP hk
theorem dec(R:Ren S U g os ss):U.decide=((List.range S.panel.length).filter fun k=>Decidable.decide (S.panel.getD (ss.getD k 0).toNat "" ∈ S.decide)).map (fun k=>U.panel.getD k ""):=by
 rw[Sh.decide_rows R.okU,R.hp]
 unfold decK
 refine congrArg (List.map fun k=>U.panel.getD k "") (List.filter_congr fun k hk=>?_)
 have hk:=List.mem_range.mp hk
 obtain⟨h1,h2⟩:=R.seat hk
 have hc:=R.cutP hk
 have hi:=R.inP
 rw[Sh.cardsIn_rows R.okU,Sh.cardsIn_rows R.okS] at hi
 have hpi:=Sh.cardsIn_perm R.okS
 rw[Sh.cardsIn_rows R.okS] at hpi
 have hpw:=Sh.cardsWo_perm R.okS (S.panel.getD (ss.getD k 0).toNat "")
 rw[Sh.cardsWo_rows R.okS h1] at hpw
 have key:=M6.zhS hc hi R.usP R.inj hpw hpi
 generalize (ss.getD k 0).toNat=i at h1 h2 hc hpw key ⊢
 have e1:zg1 U.rows U.couples k=zg1 S.rows S.couples i:=by
  unfold zg1
  rw[h2]
  congr 1
  ·cases S.rows.getD i [] with
   | nil=>rfl
   | cons a d=>rfl
  ·rw[decide_eq_decide.mpr key]
 rw[e1]
 have hpk:S.panel.getD i "" = S.panel[i]:=by rw[List.getD_eq_getElem?_getD,List.getElem?_eq_getElem h1];rfl
 have e2:S.panel.getD i "" ∈ S.decide↔zg1 S.rows S.couples i=true:=by
  rw[Sh.decide_rows R.okS]
  unfold decK
  rw[List.mem_map]
  constructor
  ·rintro ⟨j,hj,ej⟩
   obtain⟨j1,j2⟩:=List.mem_filter.mp hj
   have j1:=List.mem_range.mp j1
   have ej:S.panel[j]=S.panel[i]:=by
    rw[← hpk,← ej,List.getD_eq_getElem?_getD,List.getElem?_eq_getElem j1];rfl
   have:=(List.getElem_inj R.okS.pnd).mp ej
   subst this
   exact j2
  ·intro h
   exact⟨i,List.mem_filter.mpr ⟨List.mem_range.mpr h1,h⟩,rfl⟩
 cases e:zg1 S.rows S.couples i with
 | true=>exact(decide_eq_true (e2.mpr e)).symm
 | false=>exact(decide_eq_false fun z=>by rw[e2.mp z] at e;cases e).symm
end Ren
theorem Sh.cardsUp_wo{S:Sh}(ok:S.Ok){j:Str}(hj:j∈S.handed)(d:List Int):(S.cardsUp j d).Perm (d::S.cardsWo j):=by
 unfold Sh.cardsUp Sh.cardsWo
 have nd:S.handed.Nodup:=ok.pnd.filter _
 have key:∀l:List Str,l.Nodup→j∈l→(l.map fun i=>if i=j then d else(S.card i).getD []).Perm (d::(l.filter fun i => !Decidable.decide (i=j)).map fun i=>(S.card i).getD []):=by
  intro l
  induction l with
  | nil=>intro _ h;cases h
  | cons x l ih =>
    intro nd hm
    obtain⟨n1,n2⟩:=List.nodup_cons.mp nd
    rw[List.map_cons,List.filter_cons]
    by_cases e:x=j
    ·subst e
     rw[if_pos rfl,if_neg (by rw[decide_eq_true rfl];decide)]
     have e1:(l.map fun i=>if i=x then d else(S.card i).getD [])=l.map fun i=>(S.card i).getD []:=List.map_congr_left fun i hi=>if_neg fun(z:i=x)=>n1 (z ▸ hi)
     have e2:(l.filter fun i => !Decidable.decide (i=x))=l:=List.filter_eq_self.mpr fun i hi=>by rw[decide_eq_false fun(z:i=x)=>n1 (z ▸ hi)];rfl
     rw[e1,e2]
    ·rw[if_neg e,if_pos (by rw[decide_eq_false e];rfl),List.map_cons]
     have hm:j∈l:=by
      rcases List.mem_cons.mp hm with z | z
      ·exact absurd z.symm e
      ·exact z
     exact((ih n2 hm).cons _).trans (List.Perm.swap ..)
 exact key _ nd hj
theorem upC_map(g:Int→Int){d:List Int}{i:Nat}(h0:0<i)(hi:i<d.length):upC (d.map g) i=(upC d i).map g:=by
 have gd:∀n,n<d.length→(d.map g).getD n 0=g (d.getD n 0):=fun n hn=>by
  rw[List.getD_eq_getElem?_getD,List.getD_eq_getElem?_getD,List.getElem?_map,List.getElem?_eq_getElem hn];rfl
 unfold upC
 rw[gd i hi,gd (i - 1) (by omega),List.map_append,List.map_append,List.map_take,List.map_drop]
 rfl
theorem Ren.upP{S U:Sh}{g:Int→Int}{os ss:List Int}(R:Ren S U g os ss){k:Nat}(hk:k<S.panel.length)(hS:S.panel.getD (ss.getD k 0).toNat "" ∈ S.handed)(hU:U.panel.getD k "" ∈ U.handed)(d:List Int):(U.cardsUp (U.panel.getD k "") (d.map g)).Perm ((S.cardsUp (S.panel.getD (ss.getD k 0).toNat "") d).map (List.map g)):=by
 have p1:=Sh.cardsUp_wo R.okU hU (d.map g)
 have p2:=(Sh.cardsUp_wo R.okS hS d).map (List.map g)
 rw[List.map_cons] at p2
 exact(p1.trans ((R.woP hk).cons _)).trans p2.symm
theorem zda{cs:List (List Int)}{us:List Int}(h:1≤us.length):(1:Int)∈M6.places cs us:=by
 have hl:0<(M5.rows (M6.places cs us) us).length:=by rw[M6.zd4];omega
 have h1:=M6.zhv hl
 obtain⟨m1,m2⟩:=M6.zcW (List.getElem_mem hl)
 have e:M6.places cs us=us.map (M6.plc cs us):=rfl
 rw[e]
 exact List.mem_map.mpr ⟨_,m1,m2.symm.trans h1⟩
theorem zhT(n:Nat):(ww n).Nodup:=by
 unfold ww
 exact List.pairwise_map.mpr (List.nodup_range.imp fun h z=>h (by omega))
theorem idx_at{l:List Int}(nd:l.Nodup){i:Nat}(hi:i<l.length):l.idxOf (l.getD i 0)=i:=by
 have h1:=M6.zbv (wk hi)
 have hl:=List.idxOf_lt_length_of_mem (wk hi)
 rw[List.getD_eq_getElem?_getD,List.getElem?_eq_getElem hl] at h1
 have e:l.getD i 0=l[i]:=by rw[List.getD_eq_getElem?_getD,List.getElem?_eq_getElem hi];rfl
 exact(List.getElem_inj nd).mp (h1.trans e)
def zK(us os nums:List Int)(c:Int):Int:=nums.getD (os.idxOf ((us.idxOf c:Nat):Int)) 0
theorem zhr{us os nums:List Int}(nd:us.Nodup)(ho:os.Perm (ww us.length))(hl:nums.length=us.length):nums=os.map fun k=>zK us os nums (us.getD k.toNat 0):=by
 have hol:os.length=us.length:=by rw[ho.length_eq,wq]
 have hnd:os.Nodup:=ho.nodup_iff.mpr (zhT _)
 refine List.ext_getElem (by rw[List.length_map];omega) fun i h1 h2=>?_
 have hi:i<os.length:=by omega
 rw[List.getElem_map]
 have hm:=zbw (ho.mem_iff.mp (List.getElem_mem hi))
 unfold zK
 rw[idx_at nd hm.2.2,show((os[i].toNat:Nat):Int)=os[i] by omega]
 have e:os[i]=os.getD i 0:=by rw[List.getD_eq_getElem?_getD,List.getElem?_eq_getElem hi];rfl
 rw[e,idx_at hnd hi,List.getD_eq_getElem?_getD,List.getElem?_eq_getElem h1]
 rfl
theorem zaG{us os:List Int}(ho:os.Perm (ww us.length)){c:Int}(hc:c∈us):((us.idxOf c:Nat):Int)∈os:=by
 refine ho.mem_iff.mpr ?_
 unfold ww
 exact List.mem_map.mpr ⟨_,List.mem_range.mpr (List.idxOf_lt_length_of_mem hc),rfl⟩
theorem zg3{us os nums:List Int}(ho:os.Perm (ww us.length))(hl:nums.length=us.length)(nn:nums.Nodup):∀x∈us,∀y∈us,zK us os nums x=zK us os nums y→x=y:=fun x hx y hy h=>by
 have hol:os.length=us.length:=by rw[ho.length_eq,wq]
 have ix:=List.idxOf_lt_length_of_mem (zaG ho hx)
 have iy:=List.idxOf_lt_length_of_mem (zaG ho hy)
 unfold zK at h
 rw[List.getD_eq_getElem?_getD,List.getD_eq_getElem?_getD,List.getElem?_eq_getElem (by omega),List.getElem?_eq_getElem (by omega)] at h
 have h:=(List.getElem_inj nn).mp h
 have h2:=M6.zbv (zaG ho hx)
 rw[h,M6.zbv (zaG ho hy)] at h2
 have h2:us.idxOf y=us.idxOf x:=by omega
 rw[← M6.zbv hx,← M6.zbv hy,h2]
theorem Sh.at_row{S:Sh}{k:Nat}(hk:k<S.panel.length)(hne:S.rows.getD k [] ≠ []):S.panel.getD k "" ∈ S.handed∧S.card (S.panel.getD k "")=some (S.rows.getD k []):=by
 have e:=S.rows_at hk
 cases q:S.card (S.panel.getD k "")with
 | none=>rw[q] at e;exact absurd e hne
 | some c =>
   rw[q] at e
   rw[e]
   exact⟨List.mem_filter.mpr ⟨zaJ hk,by rw[q];rfl⟩,rfl⟩
theorem Ren.both{S U:Sh}{g:Int→Int}{os ss:List Int}(R:Ren S U g os ss){k:Int}(hk:k∈wu S.rows):k∈ss∧ss.idxOf k<S.panel.length∧ss.getD (ss.idxOf k) 0=k∧S.panel.getD k.toNat "" ∈ S.handed∧S.card (S.panel.getD k.toNat "")=some (S.rows.getD k.toNat [])∧U.panel.getD (ss.idxOf k) "" ∈ U.handed∧U.card (U.panel.getD (ss.idxOf k) "")=some ((S.rows.getD k.toNat []).map g):=by
 obtain⟨h0,h1,h2⟩:=zfd hk
 rw[S.rows_len] at h1
 have hm:k∈ss:=R.hs.mem_iff.mpr (by
  unfold ww
  exact List.mem_map.mpr ⟨k.toNat,List.mem_range.mpr h1,by omega⟩)
 have hi:=List.idxOf_lt_length_of_mem hm
 rw[R.ssL] at hi
 have hg:=M6.zbv hm
 obtain⟨_,e⟩:=R.seat hi
 rw[hg] at e
 have a1:=Sh.at_row h1 h2
 have a2:=Sh.at_row (S:=U) (k:=ss.idxOf k) (by rw[R.hp];exact hi) (by rw[e];intro z;exact h2 (List.map_eq_nil_iff.mp z))
 rw[e] at a2
 exact⟨hm,hi,hg,a1.1,a1.2,a2.1,a2.2⟩
end L2
set_option maxHeartbeats 4000000
namespace Pp
open PySem L2
def top(i:Nat):Stmt:=PySem.Challenge.pw_panelplace_k43_whole_names_do_not_matter.main.body.getD i (.Pass ⟨0,0,0,0⟩)
structure Txt (K:PySem.W.Frag) (mg:Str→Option Value):Prop where
 b_all:mg "all" = none
 b_bool:mg "bool" = none
 b_int:mg "int" = none
 b_isinstance:mg "isinstance" = none
 b_len:mg "len" = none
 b_list:mg "list" = none
 b_max:mg "max" = none
 b_min:mg "min" = none
 b_range:mg "range" = none
 b_set:mg "set" = none
 b_sorted:mg "sorted" = none
 b_str:mg "str" = none
 b_sum:mg "sum" = none
 b_tuple:mg "tuple" = none
 b_zip:mg "zip" = none
 c_MOST_COUPLES:∃t,mg "MOST_COUPLES" = some (.int 24 t)
 c_MOST_JUDGES:∃t,mg "MOST_JUDGES" = some (.int 15 t)
 c_MOST_NUMBER:∃t,mg "MOST_NUMBER" = some (.int 999 t)
 c_MOST_SIGNS:∃t,mg "MOST_SIGNS" = some (.int 8 t)
 c_MOST_CARDS:∃t,mg "MOST_CARDS" = some (.int 200 t)
 x_BadCouples:∃C,zbA K "BadCouples" C∧mg "BadCouples" = some (.ref C)∧ExC K C
 x_BadJudges:∃C,zbA K "BadJudges" C∧mg "BadJudges" = some (.ref C)∧ExC K C
 x_SheetSealed:∃C,zbA K "SheetSealed" C∧mg "SheetSealed" = some (.ref C)∧ExC K C
 x_UnknownJudge:∃C,zbA K "UnknownJudge" C∧mg "UnknownJudge" = some (.ref C)∧ExC K C
 x_BadCard:∃C,zbA K "BadCard" C∧mg "BadCard" = some (.ref C)∧ExC K C
 x_TooManyCards:∃C,zbA K "TooManyCards" C∧mg "TooManyCards" = some (.ref C)∧ExC K C
 x_NoCard:∃C,zbA K "NoCard" C∧mg "NoCard" = some (.ref C)∧ExC K C
 x_AtTop:∃C,zbA K "AtTop" C∧mg "AtTop" = some (.ref C)∧ExC K C
 cl_Sheet:Cls K (zN K "Sheet")
 n_Sheet_standing:zas K (zN K "Sheet") "standing"
 n_Sheet_struck_so_far:zas K (zN K "Sheet") "struck_so_far"
 n_Sheet_panel:zas K (zN K "Sheet") "panel"
 n_Sheet_card_by_judge:zas K (zN K "Sheet") "card_by_judge"
 n_Sheet_taken_so_far:zas K (zN K "Sheet") "taken_so_far"
 n_Sheet_sealed:zas K (zN K "Sheet") "sealed"
abbrev zE:Stmt:=za0 (top 58) 12
theorem zaY:FnScope ["self"] ["self"] (zc zE):=⟨rfl,rfl,rfl,by decide +kernel,rfl,by decide +kernel,by decide +kernel⟩
abbrev zC:Stmt:=za0 (top 58) 13
theorem zak:FnScope ["self","judge"] ["self","judge"] (zc zC):=⟨rfl,rfl,rfl,by decide +kernel,rfl,by decide +kernel,by decide +kernel⟩
abbrev yi:Stmt:=za0 (top 58) 4
theorem zdd:FnScope ["self"] ["self"] (zc yi):=⟨rfl,rfl,rfl,by decide +kernel,rfl,by decide +kernel,by decide +kernel⟩
abbrev yg:Stmt:=za0 (top 58) 7
theorem zdR:FnScope ["self"] ["self"] (zc yg):=⟨rfl,rfl,rfl,by decide +kernel,rfl,by decide +kernel,by decide +kernel⟩
abbrev wd:Stmt:=top 14
theorem ze2:FnScope ["card","couples"] ["card","couples"] (zc wd):=⟨rfl,rfl,rfl,by decide +kernel,rfl,by decide +kernel,by decide +kernel⟩
abbrev zaD:Stmt:=top 15
theorem zhH:FnScope ["card","couple"] ["card","couple"] (zc zaD):=⟨rfl,rfl,rfl,by decide +kernel,rfl,by decide +kernel,by decide +kernel⟩
abbrev zbs:Stmt:=top 16
theorem zdj:FnScope ["card","couple","place","passed"] ["card","couple"] (zc zbs):=⟨rfl,rfl,rfl,by decide +kernel,rfl,by decide +kernel,by decide +kernel⟩
abbrev yO:Stmt:=top 18
theorem zeC:FnScope ["many"] ["many"] (zc yO):=⟨rfl,rfl,rfl,by decide +kernel,rfl,by decide +kernel,by decide +kernel⟩
abbrev wB:Stmt:=top 22
theorem zhe:FnScope ["marks","number"] ["marks","number"] (zc wB):=⟨rfl,rfl,rfl,by decide +kernel,rfl,by decide +kernel,by decide +kernel⟩
abbrev yP:Stmt:=top 51
theorem zeb:FnScope ["couple"] ["couple"] (zc yP):=⟨rfl,rfl,rfl,by decide +kernel,rfl,by decide +kernel,by decide +kernel⟩
abbrev yB:Stmt:=top 53
theorem zdQ:FnScope ["sign"] ["sign"] (zc yB):=⟨rfl,rfl,rfl,by decide +kernel,rfl,by decide +kernel,by decide +kernel⟩
abbrev yM:Stmt:=top 54
theorem zeu:FnScope ["things","most"] ["things","most"] (zc yM):=⟨rfl,rfl,rfl,by decide +kernel,rfl,by decide +kernel,by decide +kernel⟩
abbrev wj:Stmt:=top 55
theorem ze5:FnScope ["things"] ["things"] (zc wj):=⟨rfl,rfl,rfl,by decide +kernel,rfl,by decide +kernel,by decide +kernel⟩
abbrev wG:Stmt:=top 60
theorem zf1:FnScope ["_law_found"] ["_law_found"] (zc wG):=⟨rfl,rfl,rfl,by decide +kernel,rfl,by decide +kernel,by decide +kernel⟩
abbrev zbl:Stmt:=top 61
theorem sc_law_at:FnScope ["_law_script","_law_k"] ["_law_script","_law_k"] (zc zbl):=⟨rfl,rfl,rfl,by decide +kernel,rfl,by decide +kernel,by decide +kernel⟩
abbrev wK:Stmt:=top 63
theorem zcX:FnScope ["_law_found","_law_due","_law_k"] ["_law_found","_law_due"] (zc wK):=⟨rfl,rfl,rfl,by decide +kernel,rfl,by decide +kernel,by decide +kernel⟩
abbrev zaE:Stmt:=top 64
theorem zep:FnScope ["_law_cell","_law_place","_law_once"] ["_law_cell","_law_place"] (zc zaE):=⟨rfl,rfl,rfl,by decide +kernel,rfl,by decide +kernel,by decide +kernel⟩
abbrev w6:Stmt:=top 65
theorem zgA:FnScope ["_law_mode","_law_cell","_law_least","_law_few","_law_most"] ["_law_mode","_law_cell","_law_least","_law_few","_law_most"] (zc w6):=⟨rfl,rfl,rfl,by decide +kernel,rfl,by decide +kernel,by decide +kernel⟩
abbrev wU:Stmt:=top 66
theorem zgr:FnScope ["_law_row","_law_cell"] ["_law_row","_law_cell"] (zc wU):=⟨rfl,rfl,rfl,by decide +kernel,rfl,by decide +kernel,by decide +kernel⟩
abbrev yo:Stmt:=top 67
theorem zce:FnScope ["_law_cell","_law_many_here","_law_gap"] ["_law_cell","_law_many_here"] (zc yo):=⟨rfl,rfl,rfl,by decide +kernel,rfl,by decide +kernel,by decide +kernel⟩
abbrev yK:Stmt:=top 68
theorem wp:FnScope ["_law_cell","_law_many_here","_law_letters","_law_size","_law_spot","_law_ends"] ["_law_cell","_law_many_here"] (zc yK):=⟨rfl,rfl,rfl,by decide +kernel,rfl,by decide +kernel,by decide +kernel⟩
abbrev wf:Stmt:=top 73
theorem zct:FnScope ["_law_found","_law_beside","_law_k"] ["_law_found","_law_beside"] (zc wf):=⟨rfl,rfl,rfl,by decide +kernel,rfl,by decide +kernel,by decide +kernel⟩
abbrev yj:Stmt:=za0 (top 58) 1
theorem zdm:FnScope ["self","judge","card"] ["self","judge","card"] (zc yj):=⟨rfl,rfl,rfl,by decide +kernel,rfl,by decide +kernel,by decide +kernel⟩
abbrev yl:Stmt:=za0 (top 58) 9
theorem zdh:FnScope ["self","judge"] ["self","judge"] (zc yl):=⟨rfl,rfl,rfl,by decide +kernel,rfl,by decide +kernel,by decide +kernel⟩
abbrev wy:Stmt:=top 19
theorem zgM:FnScope ["cards","couple"] ["cards","couple"] (zc wy):=⟨rfl,rfl,rfl,by decide +kernel,rfl,by decide +kernel,by decide +kernel⟩
abbrev zaC:Stmt:=top 20
theorem zhY:FnScope ["marks","number"] ["marks","number"] (zc zaC):=⟨rfl,rfl,rfl,by decide +kernel,rfl,by decide +kernel,by decide +kernel⟩
abbrev yN:Stmt:=top 21
theorem zeD:FnScope ["marks","number"] ["marks","number"] (zc yN):=⟨rfl,rfl,rfl,by decide +kernel,rfl,by decide +kernel,by decide +kernel⟩
abbrev yE:Stmt:=top 23
theorem zdU:FnScope ["marks"] ["marks"] (zc yE):=⟨rfl,rfl,rfl,by decide +kernel,rfl,by decide +kernel,by decide +kernel⟩
abbrev zL:Stmt:=top 41
theorem zbT:FnScope ["sheet","least"] ["sheet","least"] (zc zL):=⟨rfl,rfl,rfl,by decide +kernel,rfl,by decide +kernel,by decide +kernel⟩
abbrev yd:Stmt:=top 49
theorem zdO:FnScope ["couples"] ["couples"] (zc yd):=⟨rfl,rfl,rfl,by decide +kernel,rfl,by decide +kernel,by decide +kernel⟩
abbrev yW:Stmt:=top 52
theorem zf2:FnScope ["judge"] ["judge"] (zc yW):=⟨rfl,rfl,rfl,by decide +kernel,rfl,by decide +kernel,by decide +kernel⟩
abbrev wZ:Stmt:=top 62
theorem zdH:FnScope ["_law_found","_law_due","_law_k"] ["_law_found","_law_due"] (zc wZ):=⟨rfl,rfl,rfl,by decide +kernel,rfl,by decide +kernel,by decide +kernel⟩
abbrev wV:Stmt:=top 69
theorem zQ:FnScope ["_law_cell","_law_couples_here","_law_style","_law_pool","_law_turn","_law_left","_law_made","_law_k","_law_spot"] ["_law_cell","_law_couples_here","_law_style"] (zc wV):=⟨rfl,rfl,rfl,by decide +kernel,rfl,by decide +kernel,by decide +kernel⟩
abbrev yy:Stmt:=za0 (top 58) 8
theorem zdZ:FnScope ["self"] ["self"] (zc yy):=⟨rfl,rfl,rfl,by decide +kernel,rfl,by decide +kernel,by decide +kernel⟩
abbrev wH:Stmt:=top 26
theorem zcO:FnScope ["one","other","number"] ["one","other"] (zc wH):=⟨rfl,rfl,rfl,by decide +kernel,rfl,by decide +kernel,by decide +kernel⟩
abbrev zZ:Stmt:=top 43
theorem zdu:FnScope ["sheet","judge"] ["sheet","judge"] (zc zZ):=⟨rfl,rfl,rfl,by decide +kernel,rfl,by decide +kernel,by decide +kernel⟩
abbrev yu:Stmt:=top 50
theorem zd5:FnScope ["judges"] ["judges"] (zc yu):=⟨rfl,rfl,rfl,by decide +kernel,rfl,by decide +kernel,by decide +kernel⟩
abbrev wE:Stmt:=top 70
theorem zaz:FnScope ["_law_script","_law_start","_law_couples_here","_law_many_here","_law_style","_law_mode","_law_made","_law_k","_law_cell"] ["_law_script","_law_start","_law_couples_here","_law_many_here","_law_style","_law_mode"] (zc wE):=⟨rfl,rfl,rfl,by decide +kernel,rfl,by decide +kernel,by decide +kernel⟩
abbrev yr:Stmt:=top 72
theorem zex:FnScope ["_law_found","_law_beside","_law_order"] ["_law_found","_law_beside","_law_order"] (zc yr):=⟨rfl,rfl,rfl,by decide +kernel,rfl,by decide +kernel,by decide +kernel⟩
abbrev wl:Stmt:=za0 (top 58) 0
theorem zeW:FnScope ["self","couples","judges"] ["self","couples","judges"] (zc wl):=⟨rfl,rfl,rfl,by decide +kernel,rfl,by decide +kernel,by decide +kernel⟩
abbrev w5:Stmt:=top 25
theorem zdI:FnScope ["one","other","number"] ["one","other"] (zc w5):=⟨rfl,rfl,rfl,by decide +kernel,rfl,by decide +kernel,by decide +kernel⟩
abbrev wg:Stmt:=top 32
theorem zcv:FnScope ["one","other","number"] ["one","other"] (zc wg):=⟨rfl,rfl,rfl,by decide +kernel,rfl,by decide +kernel,by decide +kernel⟩
abbrev yw:Stmt:=top 28
theorem zeA:FnScope ["rows","own"] ["rows","own"] (zc yw):=⟨rfl,rfl,rfl,by decide +kernel,rfl,by decide +kernel,by decide +kernel⟩
abbrev yG:Stmt:=top 27
theorem zc0:FnScope ["cards","couples","rows"] ["cards","couples"] (zc yG):=⟨rfl,rfl,rfl,by decide +kernel,rfl,by decide +kernel,by decide +kernel⟩
abbrev wI:Stmt:=top 71
theorem zbH:FnScope ["_law_couples_here","_law_names","_law_cards","_law_sheet_here","_law_k"] ["_law_couples_here","_law_names","_law_cards"] (zc wI):=⟨rfl,rfl,rfl,by decide +kernel,rfl,by decide +kernel,by decide +kernel⟩
abbrev zbm:Stmt:=top 35
theorem sc_places:FnScope ["sheet"] ["sheet"] (zc zbm):=⟨rfl,rfl,rfl,by decide +kernel,rfl,by decide +kernel,by decide +kernel⟩
abbrev zab:Stmt:=top 38
theorem zhh:FnScope ["sheet","judge"] ["sheet","judge"] (zc zab):=⟨rfl,rfl,rfl,by decide +kernel,rfl,by decide +kernel,by decide +kernel⟩
abbrev w4:Stmt:=top 40
theorem zaS:FnScope ["sheet","judge","couple","card","stepped","passed","cards"] ["sheet","judge","couple"] (zc w4):=⟨rfl,rfl,rfl,by decide +kernel,rfl,by decide +kernel,by decide +kernel⟩
abbrev yX:Stmt:=top 42
theorem zgd:FnScope ["cards","couples"] ["cards","couples"] (zc yX):=⟨rfl,rfl,rfl,by decide +kernel,rfl,by decide +kernel,by decide +kernel⟩
abbrev zbt:Stmt:=top 36
theorem sc_firsts:FnScope ["sheet"] ["sheet"] (zc zbt):=⟨rfl,rfl,rfl,by decide +kernel,rfl,by decide +kernel,by decide +kernel⟩
abbrev zaa:Stmt:=top 74
theorem zcb:FnScope ["_law_sheets","_law_judges_here","_law_card_here","_law_order","_law_found","_law_beside"] ["_law_sheets","_law_judges_here","_law_card_here","_law_order"] (zc zaa):=⟨rfl,rfl,rfl,by decide +kernel,rfl,by decide +kernel,by decide +kernel⟩
abbrev wA:Stmt:=top 39
theorem zdD:FnScope ["sheet","now"] ["sheet"] (zc wA):=⟨rfl,rfl,rfl,by decide +kernel,rfl,by decide +kernel,by decide +kernel⟩
abbrev zV:Stmt:=top 75
theorem zbQ:FnScope ["_law_sheets","_law_names","_law_others","_law_seats","_law_told"] ["_law_sheets","_law_names","_law_others","_law_seats"] (zc zV):=⟨rfl,rfl,rfl,by decide +kernel,rfl,by decide +kernel,by decide +kernel⟩
abbrev wW:Stmt:=top 30
theorem zhc:FnScope ["places","couples"] ["places","couples"] (zc wW):=⟨rfl,rfl,rfl,by decide +kernel,rfl,by decide +kernel,by decide +kernel⟩
abbrev wm:Stmt:=top 29
theorem ze9:FnScope ["cards","couples"] ["cards","couples"] (zc wm):=⟨rfl,rfl,rfl,by decide +kernel,rfl,by decide +kernel,by decide +kernel⟩
abbrev yp:Stmt:=top 33
theorem yA:FnScope ["cards","couples","ranked","rows","one","other","parting"] ["cards","couples"] (zc yp):=⟨rfl,rfl,rfl,by decide +kernel,rfl,by decide +kernel,by decide +kernel⟩
abbrev w9:Stmt:=top 37
theorem zgL:FnScope ["sheet"] ["sheet"] (zc w9):=⟨rfl,rfl,rfl,by decide +kernel,rfl,by decide +kernel,by decide +kernel⟩
abbrev za5:Stmt:=top 76
theorem yQ:FnScope ["_law_script","_law_mode","_law_couples_here","_law_names","_law_cards","_law_order","_law_seats","_law_numbers","_law_others","_law_fresh","_law_first","_law_second","_law_into","_law_k","_law_here","_law_there","_law_who","_law_pairs"] ["_law_script"] (zc za5):=⟨rfl,rfl,rfl,by decide +kernel,rfl,by decide +kernel,by decide +kernel⟩
def yh(K:PySem.W.Frag):Sp:=fun vs H Q E=>∃(p:Addr) (F:Addr→Prop) (S:Sh),vs = [.ref p]∧zx K H p F S∧(S.shut=true→∀C,zbA K "SheetSealed" C→E (.ref C) none H)∧(S.shut=false→Q .non H)
section
variable {P:Program} {w:World} {K:PySem.W.Frag} {mg:Str→Option Value} {base:Heap}
theorem zaZ{f:Addr}{fd:FuncData}(F:Fun K "refuse_if_sealed" "Sheet.refuse_if_sealed" zE f fd)(T:Txt K mg):FnOk P w K mg base (CX1 P w) 1 f fd ["self"] (yh K):=by
 obtain⟨c_SheetSealed,n_SheetSealed,m_SheetSealed,x_SheetSealed⟩:=T.x_SheetSealed
 refine F.okX zaY (fun vs H Q E h=>?_) (fun X W cdv A outer s H vs Q E hX hW fl md hr h=>?_)
 ·obtain⟨p,F,S,rfl,_⟩:=h
  rfl
 ·obtain⟨p,F,S,rfl,⟨dx,a1,a2,a3,d,kvs,h⟩,qE,q⟩:=h
  subst hX
  refine⟨_,(ze (zG (yc (zaO (pv 0) rfl)) (ze (zao rfl md rfl m_SheetSealed x_SheetSealed (za y9 zb))) zu)),?_⟩
  refine⟨_,rfl,p,_,dx,_,_,rfl,h.ip,T.cl_Sheet,T.n_Sheet_sealed,rfl,_,rfl,zgy (fun hs=>?_) (fun hs=>q hs)⟩
  exact⟨(by show 1≤sizeLine;decide),by rw[hW];exact qE hs _ n_SheetSealed⟩
end
def zJ(K:PySem.W.Frag):Sp:=fun vs H Q E=>∃(p:Addr) (F:Addr→Prop) (S:Sh) (j:Str),vs = [.ref p,.str j]∧zx K H p F S∧(j∉S.panel→∀C,zbA K "UnknownJudge" C→E (.ref C) none H)∧(j∈S.panel→Q .non H)
section
variable {P:Program} {w:World} {K:PySem.W.Frag} {mg:Str→Option Value} {base:Heap}
theorem zam{f:Addr}{fd:FuncData}(F:Fun K "refuse_unknown_judge" "Sheet.refuse_unknown_judge" zC f fd)(T:Txt K mg):FnOk P w K mg base (CX1 P w) 1 f fd ["self","judge"] (zJ K):=by
 obtain⟨c_UnknownJudge,n_UnknownJudge,m_UnknownJudge,x_UnknownJudge⟩:=T.x_UnknownJudge
 refine F.okX zak (fun vs H Q E h=>?_) (fun X W cdv A outer s H vs Q E hX hW fl md hr h=>?_)
 ·obtain⟨p,F,S,j,rfl,_⟩:=h
  rfl
 ·obtain⟨p,F,S,j,rfl,⟨dx,a1,a2,a3,d,kvs,h⟩,qE,q⟩:=h
  subst hX
  refine⟨_,(ze (zG (zr zcY (pv 1) (zaO (pv 0) rfl) (by first | exact zv _ | rfl)) (ze (zao rfl md rfl m_UnknownJudge x_UnknownJudge (za y9 zb))) zu)),?_⟩
  refine⟨_,rfl,_,rfl,p,_,dx,_,_,rfl,h.ip,T.cl_Sheet,T.n_Sheet_panel,rfl,_,_,rfl,.inl (SqL.of h.i3),rfl,zdc _,_,rfl,?_⟩
  rw[zeg]
  refine yH (fun hj=>?_) (fun hj=>q hj)
  exact⟨(by show 1≤sizeLine;decide),by rw[hW];exact qE hj _ n_UnknownJudge⟩
end
def zM(K:PySem.W.Frag):Sp:=fun vs H Q _=>∃(p:Addr) (F:Addr→Prop) (S:Sh),vs = [.ref p]∧zx K H p F S∧∀(l:Addr) (H':Hp),zh H H'→H l=none→H' l=some (.lst (S.couples.map V.int))→Q (.ref l) H'
section
variable {P:Program} {w:World} {K:PySem.W.Frag} {mg:Str→Option Value} {base:Heap}
theorem zdl{f:Addr}{fd:FuncData}(F:Fun K "couples" "Sheet.couples" yi f fd)(T:Txt K mg):FnOk P w K mg base CX0 1 f fd ["self"] (zM K):=by
 refine F.ok zdd (fun vs H Q E h=>?_) (fun cdv A outer s H vs Q E hr h=>?_)
 ·obtain⟨p,F,S,rfl,_⟩:=h
  rfl
 ·obtain⟨p,F,S,rfl,⟨dx,a1,a2,a3,d,kvs,h⟩,q⟩:=h
  refine⟨_,(ze (zo (yk zO (by rfl) T.b_list PyProof.Rows.boot_list (za (zaO (pv 0) rfl) zb)))),?_⟩
  exact⟨_,rfl,p,_,dx,_,_,rfl,h.ip,T.cl_Sheet,T.n_Sheet_standing,rfl,_,_,rfl,.inl (SqL.of h.i1),fun l hl=>q l _ (zh.new hl) hl zf⟩
end
def zY(K:PySem.W.Frag):Sp:=fun vs H Q _=>∃(p:Addr) (F:Addr→Prop) (S:Sh),vs = [.ref p]∧zih K H p F S∧S.panel.length≤15∧∀(l:Addr) (H':Hp),zh H H'→H l=none→H' l=some (.lst (S.handed.map V.str))→Q (.ref l) H'
section
variable {P:Program} {w:World} {K:PySem.W.Frag} {mg:Str→Option Value} {base:Heap}
theorem zdV{f:Addr}{fd:FuncData}(F:Fun K "handed" "Sheet.handed" yg f fd)(T:Txt K mg):FnOk P w K mg base CX0 1 f fd ["self"] (zY K):=by
 refine F.ok zdR (fun vs H Q E h=>?_) (fun cdv A outer s H vs Q E hr h=>?_)
 ·obtain⟨p,F,S,rfl,_⟩:=h
  rfl
 ·obtain⟨p,F,S,rfl,⟨dx,a1,a2,a3,d,kvs,h⟩,h15,q⟩:=h
  refine⟨_,(ze (zo (zU (show CompScope (zc yg) ["self"] "judge" ["self"] [0] _ from⟨rfl,by decide +kernel,by decide +kernel,rfl,by decide +kernel,rfl,by decide +kernel,by decide +kernel⟩) rfl (zX (zaO (pv 0) rfl)) (fun _ _ _ _ _=>(zbc (pt_cmp (pc_din (zh3 hr) (pv 0) (pe_fldK (K:=K) rfl (pv 1) rfl))))) (fun _ _ _ _ _=>(pv 0))))),?_⟩
  have hln:=zw
  refine⟨_,rfl,p,_,dx,_,_,rfl,h.ip,T.cl_Sheet,T.n_Sheet_panel,rfl,a3,rfl,⟨_,SqL.of h.i3⟩,?_⟩
  refine wF (xs:=S.panel.map V.str) (fun i ys H2=>H2=H∧ys=((S.panel.take i).filter fun j=>(S.card j).isSome).map V.str) ⟨rfl,rfl⟩ ?_ (by rw[List.length_map];omega) ?_ ?_
  ·rintro i ys H2 hi ⟨rfl,rfl⟩
   refine⟨SqL.of h.i3,?_⟩
   rw[List.length_map]
   exact Nat.le_trans (List.length_filter_le _ _) (by rw[List.length_take];omega)
  ·rintro i x ys H2 hx ⟨rfl,rfl⟩
   obtain⟨hi,rfl⟩:=zaK hx
   refine⟨_,rfl,_,rfl,p,_,dx,_,_,rfl,h.ip,T.cl_Sheet,T.n_Sheet_card_by_judge,rfl,d,_,rfl,zdP.k (k:=Sum.inr (S.panel.getD i "")) h.i4,_,rfl,?_⟩
   have hv:(zaP kvs (Sum.inr (S.panel.getD i ""))).isSome=(S.card (S.panel.getD i "")).isSome:=by
    cases e:S.card (S.panel.getD i "")with
    | none=>rw[h.cn _ e];rfl
    | some c=>obtain⟨l,e1,_⟩:=h.cs _ _ e;rw[e1];rfl
   rw[hv]
   refine zgy (fun hb=>?_) (fun hb=>?_)
   ·refine⟨_,rfl,rfl,?_⟩
    rw[yf hi,List.filter_append,List.filter_cons,if_pos hb,List.map_append]
    rfl
   ·refine⟨rfl,?_⟩
    rw[yf hi,List.filter_append,List.filter_cons,if_neg (by rw[hb];exact Bool.false_ne_true)]
    simp
  ·rintro ys H2 ⟨rfl,rfl⟩ l hl
   rw[List.length_map,List.take_length]
   exact q l _ (zh.new hl) hl zf
end
def zbg(K:PySem.W.Frag):Sp:=fun vs H Q _=>∃(a b:Addr) (ns ms:List Int),vs = [.ref a,.ref b]∧SqL K H a (ns.map V.int)∧SqL K H b (ms.map V.int)∧ns.length<64∧ms.length<64∧∀H',zh H H'→Q (.bl (decide (ns.Perm ms))) H'
theorem zhk{ns ms ns' ms':List Int}(h1:ns'.Perm ns)(h2:ns'.Pairwise (·≤ ·))(h3:ms'.Perm ms)(h4:ms'.Pairwise (·≤ ·)):decide (ns'=ms')=decide (ns.Perm ms):=by
 by_cases h:ns.Perm ms
 ·rw[decide_eq_true h]
  exact decide_eq_true (List.Perm.eq_of_pairwise (fun a b _ _ x y=>Int.le_antisymm x y) h2 h4 (h1.trans (h.trans h3.symm)))
 ·rw[decide_eq_false h]
  refine decide_eq_false fun e=>h ?_
  subst e
  exact h1.symm.trans h3
section
variable {P:Program} {w:World} {K:PySem.W.Frag} {mg:Str→Option Value} {base:Heap}
theorem zeT{f:Addr}{fd:FuncData}(F:Fun K "whole_card" "whole_card" wd f fd)(T:Txt K mg):FnOk P w K mg base CX0 1 f fd ["card","couples"] (zbg K):=by
 refine F.ok ze2 (fun vs H Q E h=>?_) (fun cdv A outer s H vs Q E hr h=>?_)
 ·obtain⟨a,b,ns,ms,rfl,_⟩:=h
  rfl
 ·obtain⟨a,b,ns,ms,rfl,hA,hB,hz1,hz2,q⟩:=h
  refine⟨_,(ze (zo (zcl (zhR hr.units0) (zl zb7 (by rfl) T.b_sorted PyProof.Rows.boot_sorted (za (pv 0) zb)) (zl zb7 (by rfl) T.b_sorted PyProof.Rows.boot_sorted (za (pv 1) zb)) (zv _)))),?_⟩
  refine⟨_,rfl,a,ns,rfl,hA,hz1,fun l1 ns' hl1 p1 w1=>?_⟩
  refine⟨_,rfl,b,ms,rfl,(zh.new hl1).seq hB,hz2,fun l2 ms' hl2 p2 w2=>?_⟩
  refine⟨l1,l2,_,_,rfl,rfl,(zh.new hl2).seq SqL.new,SqL.new,zP _,zP _,?_⟩
  rw[zbr,zhk p1 w1 p2 w2]
  exact q _ ((zh.new hl1).newT hl2)
end
def zcC(K:PySem.W.Frag):Sp:=fun vs H Q _=>∃(a:Addr) (ns:List Int) (c:Int),vs = [.ref a,.int c]∧SqL K H a (ns.map V.int)∧c∈ns∧Q (.int ((ns.idxOf c:Nat)+1)) H
section
variable {P:Program} {w:World} {K:PySem.W.Frag} {mg:Str→Option Value} {base:Heap}
theorem zhC{f:Addr}{fd:FuncData}(F:Fun K "mark_on" "mark_on" zaD f fd)(T:Txt K mg):FnOk P w K mg base CX0 1 f fd ["card","couple"] (zcC K):=by
 refine F.ok zhH (fun vs H Q E h=>?_) (fun cdv A outer s H vs Q E hr h=>?_)
 ·obtain⟨a,ns,c,rfl,_⟩:=h
  rfl
 ·obtain⟨a,ns,c,rfl,hS,hc,q⟩:=h
  refine⟨_,(ze (zo (zD yR (zb4 PySem.F.plainAttrs_list PySem.F.slot_list_index PySem.F.type_list_index zbo (pv 0) (za (pv 1) zb)) zg))),?_⟩
  refine⟨_,rfl,.inl ⟨rfl,_,hS⟩,_,rfl,a,_,_,rfl,rfl,hS,rfl,zP _,?_,_,_,rfl,rfl,?_⟩
  ·rw[yn,List.length_map];exact List.idxOf_lt_length_iff.mpr hc
  ·rw[yn];exact q
end
def zdg(K:PySem.W.Frag):Sp:=fun vs H Q E=>∃(a:Addr) (ns:List Int) (i:Nat),vs = [.ref a,.int (ns.getD i 0)]∧SqL K H a (ns.map V.int)∧ns.Nodup∧i<ns.length∧ns.length≤1000∧(∀n∈ns,1≤n∧n≤999) ∧
 (i=0→∀C,zbA K "AtTop" C→E (.ref C) none H)∧(0<i→∀l H',zh H H'→H l=none→H' l=some (.lst ((ns.take (i - 1) ++ [ns.getD i 0,ns.getD (i - 1) 0]++ns.drop (i+1)).map V.int))→Q (.ref l) H')
section
variable {P:Program} {w:World} {K:PySem.W.Frag} {mg:Str→Option Value} {base:Heap}
theorem ok_one_up{f:Addr}{fd:FuncData}(F:Fun K "one_up" "one_up" zbs f fd)(T:Txt K mg):FnOk P w K mg base (CX1 P w) 1 f fd ["card","couple"] (zdg K):=by
 obtain⟨c_AtTop,n_AtTop,m_AtTop,x_AtTop⟩:=T.x_AtTop
 refine F.okX zdj (fun vs H Q E h=>?_) (fun X W cdv A outer s H vs Q E hX hW fl md hr h=>?_)
 ·obtain⟨a,ns,i,rfl,_⟩:=h
  rfl
 ·obtain⟨a,ns,i,rfl,hS,hn,hi,hz,hrg,qE,qQ⟩:=h
  subst hX
  refine⟨_,(zd (zz (i:=2) zdj.nd rfl (Or.inl rfl) (zb4 PySem.F.plainAttrs_list PySem.F.slot_list_index PySem.F.type_list_index zbo (pv 0) (za (pv 1) zb)))
   (zd (zG (zr zb3 (pv 2) zg (zv _)) (ze (zao rfl md rfl m_AtTop x_AtTop (za (pe_fstr (zfD y9 (zfD (pe_fmt (pv 1)) (zfD y9 pj_nil)))) zb))) zu)
   (zd (zz (i:=3) zdj.nd rfl (Or.inl rfl) (zB zy (pv 0) (zD zeJ (pv 2) zg) (fun _ _=>rfl)))
   (ze (zo (zD zhz (zD zhz (wL zcL (pv 0) za2 (zag (zD zeJ (pv 2) zg))) (wz (za (pv 1) (za (pv 3) zb)))) (wL zcL (pv 0) (zag (zD yR (pv 2) zg)) za2))))))),?_⟩
  have hix:ns.idxOf (ns.getD i 0)=i:=by rw[zc2 hi];exact hn.idxOf_getElem i hi
  have hl:=zw
  have hlog:(ns.getD i 0).natAbs.log2<1920:=by
   have:=hrg _ (wk hi)
   exact(Nat.log2_lt (by omega)).mpr (Nat.lt_of_lt_of_le (show(ns.getD i 0).natAbs<2 ^ 10 by omega) (Nat.pow_le_pow_right (by decide) (by decide)))
  refine⟨_,rfl,.inl ⟨rfl,_,hS⟩,_,rfl,a,_,_,rfl,rfl,hS,rfl,zP _,by rw[yn,hix,List.length_map];exact hi,?_⟩
  rw[yn,hix]
  refine⟨_,rfl,rfl,_,rfl,wS (fun h0=>?_) (fun h0=>?_)⟩
  ·have h0:i=0:=by injection h0 with h0;omega
   have hL:=PyProof.Rows.int_text_len_1921 hlog
   have l1:(Str.empty++Str.ofString "couple ").length≤0+7:=zfO (by decide) (by decide)
   have l2:=zfO l1 hL
   have l3:=zfO l2 (show(Str.ofString " is the first one on the card").length≤29 by decide)
   exact⟨_,rfl,Nat.le_trans l1 (by decide),_,rfl,.inl ⟨_,rfl,hlog,_,rfl,Nat.le_trans l2 (by decide),_,rfl,Nat.le_trans l3 (by decide),Nat.le_trans l3 (by decide),(by show 1≤sizeLine;decide),by rw[hW];exact qE h0 _ n_AtTop⟩⟩
  ·have h0:0<i:=Nat.pos_of_ne_zero fun z=>h0 (by rw[z];rfl)
   refine⟨_,rfl,_,rfl,_,_,rfl,rfl,a,_,_,_,rfl,rfl,hS,zbk (by omega) (by omega),?_⟩
   refine⟨_,rfl,_,rfl,_,_,rfl,rfl,_,rfl,a,_,rfl,hS,fun l1 hl1=>?_⟩
   rw[zfm (by omega),show((i:Int) - 1).toNat=i - 1 by omega]
   refine⟨_,rfl,_,rfl,(by show 2≤sizeLine;decide),fun l2 hl2=>?_⟩
   have s1:=zh.new (o:=.lst ((ns.take (i - 1)).map V.int)) hl1
   have s2:=s1.newT (o:=.lst ([ns.getD i 0,ns.getD (i - 1) 0].map V.int)) hl2
   have n12:l1≠l2:=zq zf hl2
   refine⟨l1,l2,_,[ns.getD i 0,ns.getD (i - 1) 0].map V.int,rfl,rfl,by rw[zj n12];exact zf,zf,by simp only[List.length_map,List.length_take,List.length_cons,List.length_nil];omega,fun l3 hl3=>?_⟩
   rw[← List.map_append]
   have s3:=s2.newT (o:=.lst ((ns.take (i - 1) ++ [ns.getD i 0,ns.getD (i - 1) 0]).map V.int)) hl3
   refine⟨_,rfl,_,rfl,_,_,rfl,rfl,_,rfl,a,_,rfl,s3.seq hS,fun l4 hl4=>?_⟩
   rw[zdb (by omega),show((i:Int)+1).toNat=i+1 by omega]
   have s4:=s3.newT (o:=.lst ((ns.drop (i+1)).map V.int)) hl4
   have n34:l3≠l4:=zq zf hl4
   refine⟨l3,l4,_,_,rfl,rfl,by rw[zj n34];exact zf,zf,by simp only[List.length_map,List.length_append,List.length_take,List.length_drop,List.length_cons,List.length_nil];omega,fun l5 hl5=>?_⟩
   rw[← List.map_append]
   exact qQ h0 l5 _ (s4.newT hl5) (s4.free hl5) zf
end
def zaV(K:PySem.W.Frag):Sp:=fun vs H Q _=>∃(n:Int),vs = [.int n]∧Q (.int (n/2+1)) H
section
variable {P:Program} {w:World} {K:PySem.W.Frag} {mg:Str→Option Value} {base:Heap}
theorem zec{f:Addr}{fd:FuncData}(F:Fun K "majority_of" "majority_of" yO f fd)(T:Txt K mg):FnOk P w K mg base CX0 1 f fd ["many"] (zaV K):=by
 refine F.ok zeC (fun vs H Q E h=>?_) (fun cdv A outer s H vs Q E hr h=>?_)
 ·obtain⟨n,rfl,_⟩:=h
  rfl
 ·obtain⟨n,rfl,q⟩:=h
  refine⟨_,(ze (zo (zD yR (zD zbE (pv 0) zg) zg))),?_⟩
  exact⟨_,rfl,_,_,rfl,rfl,⟨by decide,by decide⟩,_,_,rfl,rfl,q⟩
end
def za1(K:PySem.W.Frag):Sp:=fun vs H Q _=>∃(a:Addr) (ms:List Int) (n:Int),vs = [.ref a,.int n]∧SqL K H a (ms.map V.int)∧ms.length≤1000∧∀(l:Addr) (H':Hp),zh H H'→H l=none→H' l=some (.lst ((M3.got ms n).map V.int))→Q (.ref l) H'
section
variable {P:Program} {w:World} {K:PySem.W.Frag} {mg:Str→Option Value} {base:Heap}
theorem zg4{f:Addr}{fd:FuncData}(F:Fun K "granting" "granting" wB f fd)(T:Txt K mg):FnOk P w K mg base CX0 1 f fd ["marks","number"] (za1 K):=by
 refine F.ok zhe (fun vs H Q E h=>?_) (fun cdv A outer s H vs Q E hr h=>?_)
 ·obtain⟨a,ms,n,rfl,_⟩:=h
  rfl
 ·obtain⟨a,ms,n,rfl,hS,hz,q⟩:=h
  refine⟨_,(ze (zo (zU (show CompScope (zc wB) ["marks","number"] "mark" ["number"] [1] _ from⟨rfl,by decide +kernel,by decide +kernel,rfl,by decide +kernel,rfl,by decide +kernel,by decide +kernel⟩) rfl (zX (pv 0)) (fun _ _ _ _ _=>(zbc (zr zgF (pv 0) (pv 1) (zv _)))) (fun _ _ _ _ _=>(pv 0))))),?_⟩
  refine⟨_,rfl,a,rfl,⟨_,hS⟩,?_⟩
  refine wF (xs:=ms.map V.int) (fun i ys H2=>H2=H∧ys=(M3.got (ms.take i) n).map V.int) ⟨rfl,rfl⟩ ?_ (by rw[List.length_map];have:=zw;omega) ?_ ?_
  ·rintro i ys H2 hi ⟨rfl,rfl⟩
   refine⟨hS,?_⟩
   rw[List.length_map]
   have:=M3.zhs (ms.take i) n
   unfold M3.cnt at this
   rw[List.length_take] at this
   omega
  ·rintro i x ys H2 hx ⟨rfl,rfl⟩
   obtain⟨hi,rfl⟩:=zah hx
   refine⟨_,rfl,_,rfl,_,_,rfl,rfl,_,rfl,wS (fun h=>?_) (fun h=>?_)⟩
   ·refine⟨_,rfl,rfl,?_⟩
    rw[M3.zhl n hi,if_pos h,List.map_append]
    rfl
   ·refine⟨rfl,?_⟩
    rw[M3.zhl n hi,if_neg h]
  ·rintro ys H2 ⟨rfl,rfl⟩ l hl
   rw[List.length_map,List.take_length]
   exact q l _ (zh.new hl) hl zf
end
def zaH(K:PySem.W.Frag):Sp:=fun vs H Q _=>∃(n:Int),vs = [.int n]∧Q (.bl (decide (1≤n) && decide (n≤999))) H
section
variable {P:Program} {w:World} {K:PySem.W.Frag} {mg:Str→Option Value} {base:Heap}
theorem zet{f:Addr}{fd:FuncData}(F:Fun K "good_number" "good_number" yP f fd)(T:Txt K mg):FnOk P w K mg base CX0 1 f fd ["couple"] (zaH K):=by
 refine F.ok zeb (fun vs H Q E h=>?_) (fun cdv A outer s H vs Q E hr h=>?_)
 ·obtain⟨n,rfl,_⟩:=h
  rfl
 ·obtain⟨n,rfl,q⟩:=h
  refine⟨_,(ze (zo (zeF zgF zgF zg (pv 0) (zcf T.c_MOST_NUMBER rfl)))),?_⟩
  refine⟨_,rfl,_,_,rfl,rfl,_,rfl,wS (fun h1=>?_) (fun h1=>?_)⟩
  ·rw[decide_eq_true h1,Bool.true_and] at q
   exact⟨_,_,rfl,rfl,q⟩
  ·rw[decide_eq_false h1,Bool.false_and] at q
   exact q
end
def zap(K:PySem.W.Frag):Sp:=fun vs H Q _=>∃(c:Nat),vs = [.str ⟨#[c]⟩]∧Q (.bl (zb5 c)) H
section
variable {P:Program} {w:World} {K:PySem.W.Frag} {mg:Str→Option Value} {base:Heap}
theorem zdK{f:Addr}{fd:FuncData}(F:Fun K "small_letter" "small_letter" yB f fd)(T:Txt K mg):FnOk P w K mg base CX0 1 f fd ["sign"] (zap K):=by
 refine F.ok zdQ (fun vs H Q E h=>?_) (fun cdv A outer s H vs Q E hr h=>?_)
 ·obtain⟨c,rfl,_⟩:=h
  rfl
 ·obtain⟨c,rfl,q⟩:=h
  refine⟨_,(ze (zo (zeF zfg zfg y9 (pv 0) y9))),?_⟩
  unfold zb5 at q
  refine⟨_,rfl,_,_,rfl,rfl,_,rfl,?_⟩
  rw[M2.le_a]
  refine wS (fun h1=>?_) (fun h1=>?_)
  ·rw[decide_eq_true h1,Bool.true_and] at q
   refine⟨_,_,rfl,rfl,?_⟩
   rw[M2.le_z]
   exact q
  ·rw[decide_eq_false h1,Bool.false_and] at q
   exact q
end
def yZ(K:PySem.W.Frag):Sp:=fun vs H Q _=>∃(x:V) (n:Nat) (m:Int),vs = [x,.int m]∧LenV K x H n∧Q (.bl (decide (1≤(n:Int)) && decide ((n:Int)≤m))) H
section
variable {P:Program} {w:World} {K:PySem.W.Frag} {mg:Str→Option Value} {base:Heap}
theorem zee{f:Addr}{fd:FuncData}(F:Fun K "good_length" "good_length" yM f fd)(T:Txt K mg):FnOk P w K mg base CX0 1 f fd ["things","most"] (yZ K):=by
 refine F.ok zeu (fun vs H Q E h=>?_) (fun cdv A outer s H vs Q E hr h=>?_)
 ·obtain⟨x,n,m,rfl,_⟩:=h
  rfl
 ·obtain⟨x,n,m,rfl,hx,q⟩:=h
  refine⟨_,(ze (zo (zeF zgF zgF zg (zl call_len (by rfl) T.b_len PySem.boot_len (za (pv 0) zb)) (pv 1)))),?_⟩
  refine⟨_,rfl,x,n,rfl,hx,_,_,rfl,rfl,_,rfl,wS (fun h1=>?_) (fun h1=>?_)⟩
  ·rw[decide_eq_true h1,Bool.true_and] at q
   exact⟨_,rfl,_,_,rfl,rfl,q⟩
  ·rw[decide_eq_false h1,Bool.false_and] at q
   exact q
end
def zad(K:PySem.W.Frag):Sp:=fun vs H Q _=>∃a:Addr,vs = [.ref a]∧((∃ns:List Int,SqL K H a (ns.map V.int)∧ns.length<4000∧∀H',zh H H'→Q (.bl (decide ns.Nodup)) H')∨∃ts:List Str,SqL K H a (ts.map V.str)∧ts.length<4000∧Q (.bl (decide ts.Nodup)) H)
section
variable {P:Program} {w:World} {K:PySem.W.Frag} {mg:Str→Option Value} {base:Heap}
theorem zeU{f:Addr}{fd:FuncData}(F:Fun K "all_unlike" "all_unlike" wj f fd)(T:Txt K mg):FnOk P w K mg base CX0 1 f fd ["things"] (zad K):=by
 refine F.ok ze5 (fun vs H Q E h=>?_) (fun cdv A outer s H vs Q E hr h=>?_)
 ·obtain⟨a,rfl,_⟩:=h
  rfl
 ·obtain⟨a,rfl,h⟩:=h
  refine⟨_,(ze (zo (zcl zb3 (pe_both (zl call_len_set (by rfl) T.b_len PySem.boot_len (za (yk (zfT rfl) (by rfl) T.b_set PyProof.Rows.boot_set (za (pv 0) zb)) zb)) (zhN rfl (by rfl) T.b_len (by rfl) T.b_set (pv 0))) (zl zk (by rfl) T.b_len PySem.boot_len (za (pv 0) zb)) (zv _)))),?_⟩
  rcases h with⟨ns,hS,hz,q⟩ | ⟨ts,hS,hz,q⟩
  ·refine .inl ⟨_,rfl,a,ns,rfl,hS,hz,fun l hl=>?_⟩
   refine⟨l,_,_,rfl,zf,_,rfl,a,_,rfl,.inl ((zh.new hl).seq hS),rfl,?_⟩
   have e:decide (V.int ((PyProof.Rows.firstMet (fun i=>ns.getD i 0) ns.length).length:Int)=V.int ((ns.map V.int).length:Int))=decide ns.Nodup:=by
    rw[List.length_map]
    by_cases h:ns.Nodup
    ·rw[decide_eq_true h,(zg0 ns).mpr h];exact decide_eq_true rfl
    ·rw[decide_eq_false h]
     refine decide_eq_false fun z=>h ((zg0 ns).mp ?_)
     injection z with z
     exact Int.ofNat.inj z
   rw[e]
   exact q _ (zh.new hl)
  ·refine .inr ⟨_,rfl,a,ts,rfl,hS,hz,?_⟩
   refine⟨_,rfl,a,_,rfl,.inl hS,rfl,?_⟩
   have e:decide (V.int ((met (fun i=>ts.getD i "") ts.length).length:Int)=V.int ((ts.map V.str).length:Int))=decide ts.Nodup:=by
    rw[List.length_map]
    by_cases h:ts.Nodup
    ·rw[decide_eq_true h,(zgN ts "").mpr h];exact decide_eq_true rfl
    ·rw[decide_eq_false h]
     refine decide_eq_false fun z=>h ((zgN ts "").mp ?_)
     injection z with z
     exact Int.ofNat.inj z
   rw[e]
   exact q
end
def zbI(K:PySem.W.Frag):Sp:=fun vs H Q _=>∃x b1 b2,vs = [x]∧isInt x=some b1∧isBool x=some b2∧Q (.bl (b1 && !b2)) H
section
variable {P:Program} {w:World} {K:PySem.W.Frag} {mg:Str→Option Value} {base:Heap}
theorem zfE{f:Addr}{fd:FuncData}(F:Fun K "_law_whole" "_law_whole" wG f fd)(T:Txt K mg):FnOk P w K mg base CX0 1 f fd ["_law_found"] (zbI K):=by
 refine F.ok zf1 (fun vs H Q E h=>?_) (fun cdv A outer s H vs Q E hr h=>?_)
 ·obtain⟨x,b1,b2,rfl,_⟩:=h
  rfl
 ·obtain⟨x,b1,b2,rfl,h1,h2,k⟩:=h
  refine⟨_,(ze (zo (zb6 (zl zf5 (by rfl) T.b_isinstance PyProof.Rows.boot_isinstance (za (pv 0) (za (yV (v:=V.ty "int") rfl T.b_int PyProof.Rows.boot_int rfl) zb))) (zd0 (pe_not (zl ze8 (by rfl) T.b_isinstance PyProof.Rows.boot_isinstance (za (pv 0) (za (yV (v:=V.ty "bool") rfl T.b_bool PyProof.Rows.boot_bool rfl) zb)))))))),?_⟩
  refine⟨_,rfl,x,b1,rfl,h1,_,rfl,?_⟩
  cases b1 with
  | false=>exact zaT k
  | true=>exact zfC ⟨_,rfl,x,b2,rfl,h2,_,rfl,k⟩
end
def zcm(K:PySem.W.Frag):Sp:=fun vs H Q _=>∃(a:Addr) (ns:List Int) (k:Int),vs = [.ref a,.int k]∧SqL K H a (ns.map V.int)∧0≤k∧Q (.int (ns.getD k.toNat 0)) H
section
variable {P:Program} {w:World} {K:PySem.W.Frag} {mg:Str→Option Value} {base:Heap}
theorem ok_law_at{f:Addr}{fd:FuncData}(F:Fun K "_law_at" "_law_at" zbl f fd)(T:Txt K mg):FnOk P w K mg base CX0 1 f fd ["_law_script","_law_k"] (zcm K):=by
 refine F.ok sc_law_at (fun vs H Q E h=>?_) (fun cdv A outer s H vs Q E hr h=>?_)
 ·obtain⟨a,ns,k,rfl,_⟩:=h
  rfl
 ·obtain⟨a,ns,k,rfl,hS,h0,q⟩:=h
  refine⟨_,(zd (zG (zr zdA (pv 1) (zl zk (by rfl) T.b_len PySem.boot_len (za (pv 0) zb)) (zv _)) (ze (zo (zB zy (pv 0) (pv 1) (fun _ _=>rfl)))) zu)
   (ze (zo zg))),?_⟩
  refine⟨_,rfl,_,rfl,a,_,rfl,.inl hS,_,_,rfl,rfl,_,rfl,wS (fun hk=>?_) (fun hk=>?_)⟩
  ·rw[List.length_map] at hk
   exact⟨_,rfl,_,rfl,a,_,k,_,rfl,rfl,hS,zbk h0 hk,q⟩
  ·rw[List.length_map] at hk
   show Q (.int 0) H
   rw[List.getD_eq_getElem?_getD,List.getElem?_eq_none (by omega)] at q
   exact q
end
def zbN(K:PySem.W.Frag):Sp:=fun vs H Q _=>∃(a b:Addr) (ts us:List Str),vs = [.ref a,.ref b]∧SqL K H a (ts.map V.str)∧SqL K H b (us.map V.str)∧us.length≤1000000∧Q (.bl (decide (ts=us))) H
theorem texts_all{ts us:List Str}(hl:ts.length=us.length)(h:∀j,j<us.length→ts.getD j "" = us.getD j ""):ts=us:=by
 refine List.ext_getElem hl fun j h1 h2=>?_
 have:=h j h2
 rwa [List.getD_eq_getElem?_getD,List.getD_eq_getElem?_getD,List.getElem?_eq_getElem h1,List.getElem?_eq_getElem h2] at this
section
variable {P:Program} {w:World} {K:PySem.W.Frag} {mg:Str→Option Value} {base:Heap}
theorem zfW{f:Addr}{fd:FuncData}(F:Fun K "_law_texts" "_law_texts" wK f fd)(T:Txt K mg):FnOk P w K mg base CX0 1 f fd ["_law_found","_law_due"] (zbN K):=by
 refine F.ok zcX (fun vs H Q E h=>?_) (fun cdv A outer s H vs Q E hr h=>?_)
 ·obtain⟨a,b,ts,us,rfl,_⟩:=h
  rfl
 ·obtain⟨a,b,ts,us,rfl,hA,hB,hz,q⟩:=h
  refine⟨_,(zd (zG (PW.pt (zau (yt (yc (zl yx (by rfl) T.b_isinstance PyProof.Rows.boot_isinstance (za (pv 0) (za (yV (v:=V.ty "list") rfl T.b_list PyProof.Rows.boot_list rfl) zb))))) (zaF (zr wC (zl zk (by rfl) T.b_len PySem.boot_len (za (pv 0) zb)) (zl zk (by rfl) T.b_len PySem.boot_len (za (pv 1) zb)) (zv _))))) (ze (zo wt)) zu)
   (zd (zbC PassesOwn.never rfl (yC rfl T.b_range (za (zl zk (by rfl) T.b_len PySem.boot_len (za (pv 1) zb)) zb)) (wb (i:=2) zcX.nd rfl (Or.inl rfl))
     (ze (zG (PW.pt (zau (yt (yc (zl zfI (by rfl) T.b_isinstance PyProof.Rows.boot_isinstance (za (zB zy (pv 0) (pv 2) (fun _ _=>rfl)) (za (yV (v:=V.ty "str") rfl T.b_str PyProof.Rows.boot_str rfl) zb))))) (zaF (zr wC (zB zy (pv 0) (pv 2) (fun _ _=>rfl)) (zB zy (pv 1) (pv 2) (fun _ _=>rfl)) (zv _))))) (ze (zo wt)) zu)))
   (ze (zo wt)))),?_⟩
  refine⟨_,rfl,_,_,rfl,.yes hA,_,rfl,zaT ?_⟩
  refine⟨_,rfl,a,_,rfl,.inl hA,_,rfl,b,_,rfl,.inl hB,rfl,_,rfl,?_⟩
  rw[List.length_map,List.length_map]
  refine yH (fun hne=>?_) (fun he=>?_)
  ·show Q (.bl false) H
   have:ts≠us:=fun e=>hne (by rw[e])
   rw[decide_eq_false this] at q
   exact q
  ·have hl:ts.length=us.length:=by injection he with he;exact Int.ofNat.inj he
   refine⟨_,rfl,b,_,rfl,.inl hB,_,rfl,by omega,by rw[List.length_map];omega,?_⟩
   rw[List.length_map]
   refine zac (fun i σ H2=>∃v,σ = [some (.ref a),some (.ref b),v]∧H2=H∧∀j,j<i→ts.getD j "" = us.getD j "") ⟨_,rfl,rfl,fun j hj=>by omega⟩ ?_ ?_
   ·rintro i σ H2 hi ⟨v,rfl,rfl,hj⟩
    have hi':i<us.length:=by simpa using hi
    have e1:atI (ts.map V.str) (0+(i:Int))=some (.str (ts.getD i "")):=by rw[Int.zero_add];exact zW (zbO (by omega))
    have e2:atI (us.map V.str) (0+(i:Int))=some (.str (us.getD i "")):=by rw[Int.zero_add];exact zW (zbO hi')
    refine⟨_,rfl,_,rfl,a,_,_,_,rfl,rfl,hA,e1,_,_,rfl,rfl,_,rfl,zaT ?_⟩
    refine⟨_,rfl,_,rfl,a,_,_,_,rfl,rfl,hA,e1,_,rfl,_,rfl,b,_,_,_,rfl,rfl,hB,e2,rfl,_,rfl,yH (fun hne=>?_) (fun he=>?_)⟩
    ·show Q (.bl false) _
     have:ts≠us:=fun e=>hne (by rw[e])
     rw[decide_eq_false this] at q
     exact q
    ·refine⟨_,rfl,rfl,fun j hj'=>?_⟩
     by_cases hji:j=i
     ·subst hji;injection he
     ·exact hj j (by omega)
   ·rintro σ H2 ⟨v,rfl,rfl,hj⟩
    show Q (.bl true) _
    have:ts=us:=texts_all hl fun j h=>hj j (by simpa using h)
    rw[decide_eq_true this] at q
    exact q
end
def mixZ(c p:Int):Int:=(c*48271%2147483647+p+1)*69621%2147483647
def zcz(K:PySem.W.Frag):Sp:=fun vs H Q _=>∃c p,vs = [.int c,.int p]∧Q (.int (mixZ c p)) H
section
variable {P:Program} {w:World} {K:PySem.W.Frag} {mg:Str→Option Value} {base:Heap}
theorem zhw{f:Addr}{fd:FuncData}(F:Fun K "_law_mix" "_law_mix" zaE f fd)(T:Txt K mg):FnOk P w K mg base CX0 1 f fd ["_law_cell","_law_place"] (zcz K):=by
 refine F.ok zep (fun vs H Q E h=>?_) (fun cdv A outer s H vs Q E hr h=>?_)
 ·obtain⟨c,p,rfl,_⟩:=h
  rfl
 ·obtain⟨c,p,rfl,q⟩:=h
  refine⟨_,(zd (zz (i:=2) zep.nd rfl (Or.inl rfl) (zD yY (zD zf9 (pv 0) zg) zg))
   (ze (zo (zD yY (zD zf9 (zD yR (zD yR (pv 2) (pv 1)) zg) zg) zg)))),?_⟩
  refine⟨_,rfl,_,_,rfl,rfl,.inr ⟨by decide,by decide⟩,_,_,rfl,rfl,(by show(0:Int)<2147483647;decide),?_⟩
  exact⟨_,rfl,_,rfl,_,_,rfl,rfl,_,_,rfl,rfl,_,_,rfl,rfl,.inr ⟨by decide,by decide⟩,_,_,rfl,rfl,(by show(0:Int)<2147483647;decide),q⟩
end
def zcd(K:PySem.W.Frag):Sp:=fun vs H Q _=>∃(md c a b d:Int),vs = [.int md,.int c,.int a,.int b,.int d]∧a≤b∧b≤d∧∀r:Int,a≤r→r≤d→Q (.int r) H
section
variable {P:Program} {w:World} {K:PySem.W.Frag} {mg:Str→Option Value} {base:Heap}
theorem zgI{f:Addr}{fd:FuncData}(F:Fun K "_law_many" "_law_many" w6 f fd)(T:Txt K mg):FnOk P w K mg base CX0 1 f fd ["_law_mode","_law_cell","_law_least","_law_few","_law_most"] (zcd K):=by
 refine F.ok zgA (fun vs H Q E h=>?_) (fun cdv A outer s H vs Q E hr h=>?_)
 ·obtain⟨md,c,a,b,d,rfl,_⟩:=h
  rfl
 ·obtain⟨md,c,a,b,d,rfl,h1,h2,q⟩:=h
  refine⟨_,(zd (zG (zr zb3 (pv 0) zg (zv _)) (ze (zo (pv 4))) zu)
   (zd (zG (zr zb3 (pv 0) zg (zv _)) (ze (zo (zD yR (pv 2) (zD yY (pv 1) (zD zeJ (zD yR (pv 4) zg) (pv 2)))))) zu)
   (ze (zo (zD yR (pv 2) (zD yY (pv 1) (zD zeJ (zD yR (pv 3) zg) (pv 2)))))))),?_⟩
  have e1:=Int.emod_nonneg c (show d+1 - a≠0 by omega)
  have e2:=Int.emod_lt_of_pos c (show 0<d+1 - a by omega)
  have e3:=Int.emod_nonneg c (show b+1 - a≠0 by omega)
  have e4:=Int.emod_lt_of_pos c (show 0<b+1 - a by omega)
  refine⟨_,rfl,rfl,_,rfl,wS (fun _=>⟨_,rfl,q d (by omega) (by omega)⟩) (fun _=>?_)⟩
  refine⟨_,rfl,rfl,_,rfl,wS (fun _=>?_) (fun _=>?_)⟩
  ·exact⟨_,rfl,_,rfl,_,rfl,_,_,rfl,rfl,_,rfl,_,_,rfl,rfl,_,_,rfl,rfl,(by show 0<d+1 - a;omega),_,_,rfl,rfl,q _ (by omega) (by omega)⟩
  ·exact⟨_,rfl,_,rfl,_,rfl,_,_,rfl,rfl,_,rfl,_,_,rfl,rfl,_,_,rfl,rfl,(by show 0<b+1 - a;omega),_,_,rfl,rfl,q _ (by omega) (by omega)⟩
end
def zbY(K:PySem.W.Frag):Sp:=fun vs H Q _=>∃(a:Addr) (ns:List Int) (c:Int),vs = [.ref a,.int c]∧SqL K H a (ns.map V.int)∧ns.length≤1000∧∀(r:Addr) (H':Hp) (ms:List Int),zh H H'→SqL K H' r (ms.map V.int)→(∀m∈ms,m∈ns)→ms.length≤7→Q (.ref r) H'
section
variable {P:Program} {w:World} {K:PySem.W.Frag} {mg:Str→Option Value} {base:Heap}
theorem zgi{f:Addr}{fd:FuncData}(F:Fun K "_law_some" "_law_some" wU f fd)(T:Txt K mg):FnOk P w K mg base CX0 1 f fd ["_law_row","_law_cell"] (zbY K):=by
 refine F.ok zgr (fun vs H Q E h=>?_) (fun cdv A outer s H vs Q E hr h=>?_)
 ·obtain⟨a,ns,c,rfl,_⟩:=h
  rfl
 ·obtain⟨a,ns,c,rfl,hA,hz,q⟩:=h
  refine⟨_,(zd (zG (zr zdA (zl zk (by rfl) T.b_len PySem.boot_len (za (pv 0) zb)) zg (zv _)) (ze (zo (pv 0))) zu)
   (ze (zo (wz (za (zB zy (pv 0) zg (fun _ _=>rfl)) (za (zB zy (pv 0) (zD yY (pv 1) (zl zk (by rfl) T.b_len PySem.boot_len (za (pv 0) zb))) (fun _ _=>rfl)) (za (zB zy (pv 0) (zen zcH zg) (fun _ _=>rfl)) zb))))))),?_⟩
  have hln:=zw
  refine⟨_,rfl,a,_,rfl,.inl hA,_,_,rfl,rfl,_,rfl,wS (fun h=>?_) (fun h=>?_)⟩
  ·rw[List.length_map] at h
   exact⟨_,rfl,q a H ns (zh.refl _) hA (fun m hm=>hm) (by omega)⟩
  ·rw[List.length_map] at h
   have hp:0<ns.length:=by omega
   obtain⟨x1,i1,e1⟩:=zgl (ns:=ns) (i:=0) (by decide) (by omega)
   obtain⟨x2,i2,e2⟩:=zgl (ns:=ns) (i:=c%((ns.map V.int).length:Int)) (Int.emod_nonneg _ (by rw[List.length_map];omega)) (by rw[List.length_map];exact Int.emod_lt_of_pos _ (by omega))
   obtain⟨x3,i3,e3⟩:=ints_last (ns:=ns) (by intro z;rw[z] at hp;simp at hp)
   refine⟨_,rfl,a,_,_,_,rfl,rfl,hA,e1,_,rfl,_,rfl,_,rfl,a,_,rfl,.inl hA,_,_,rfl,rfl,(by show(0:Int)<((ns.map V.int).length:Int);rw[List.length_map];omega),a,_,_,_,rfl,rfl,hA,e2,_,rfl,_,rfl,a,_,_,_,rfl,rfl,hA,e3,(by show 3≤sizeLine;decide),fun l hl=>?_⟩
   refine q l _ [x1,x2,x3] (zh.new hl) SqL.new (fun m hm=>?_) (by show 3≤7;decide)
   simp only[List.mem_cons,List.not_mem_nil,or_false] at hm
   rcases hm with rfl | rfl | rfl
   ·exact i1
   ·exact i2
   ·exact i3
end
def zaM(K:PySem.W.Frag):Sp:=fun vs H Q _=>∃c m,vs = [.int c,.int m]∧0≤m∧m≤1000∧∀l H',zh H H'→H l=none→H' l=some (.lst ((M1.couples c m.toNat).map V.int))→Q (.ref l) H'
section
variable {P:Program} {w:World} {K:PySem.W.Frag} {mg:Str→Option Value} {base:Heap}
theorem zea{f:Addr}{fd:FuncData}(F:Fun K "_law_couples" "_law_couples" yo f fd)(T:Txt K mg):FnOk P w K mg base CX0 1 f fd ["_law_cell","_law_many_here"] (zaM K):=by
 refine F.ok zce (fun vs H Q E h=>?_) (fun cdv A outer s H vs Q E hr h=>?_)
 ·obtain⟨c,m,rfl,_⟩:=h
  rfl
 ·obtain⟨c,m,rfl,h0,h1,q⟩:=h
  refine⟨_,(zd (zz (i:=2) zce.nd rfl (Or.inr rfl) (zB zy (wz (za zg (za zg (za zg (za zg zb))))) (zD yY (pv 0) zg) (fun _ _=>rfl)))
   (ze (zo (zU (show CompScope (zc yo) ["_law_cell","_law_many_here","_law_gap"] "_law_k" ["_law_cell","_law_gap"] [0,2] _ from⟨rfl,by decide +kernel,by decide +kernel,rfl,by decide +kernel,rfl,by decide +kernel,by decide +kernel⟩) rfl (yC rfl T.b_range (za (pv 1) zb)) (fun _ _ _ _ _=>wo) (fun _ _ _ _ _=>(zD yR (zD yY (zD yR (zD zbE (pv 1) zg) (zD zf9 (pv 0) (pv 2))) zg) zg)))))),?_⟩
  refine⟨by decide,fun p hp=>?_⟩
  have g4:0≤c%4∧c%4<4:=⟨Int.emod_nonneg _ (by decide),Int.emod_lt_of_pos _ (by decide)⟩
  have eg:atI [V.int 1,V.int 7,V.int 500,V.int 998] (c%4)=some (.int (M1.gap c)):=by
   have h:c%4=0∨c%4=1∨c%4=2∨c%4=3:=by omega
   unfold M1.gap
   rcases h with h | h | h | h <;> rw[h] <;> rfl
  refine⟨_,rfl,_,_,rfl,rfl,(by show(0:Int)<4;decide),p,_,_,_,rfl,rfl,SqL.new,eg,?_⟩
  refine⟨_,rfl,m,rfl,by omega,by omega,?_⟩
  refine zca (fun i ys H2=>H2=upd H p (.lst [V.int 1,V.int 7,V.int 500,V.int 998])∧ys=(M1.couples c i).map V.int) ⟨rfl,rfl⟩ ?_ (Nat.le_trans (by omega) zw) ?_ ?_
  ·rintro i ys H2 hi ⟨_,rfl⟩
   rw[List.length_map,M1.zb2]
   exact Nat.le_refl _
  ·rintro i ys H2 hi ⟨rfl,rfl⟩
   refine⟨_,rfl,_,_,rfl,rfl,⟨by decide,by decide⟩,_,rfl,_,rfl,_,_,rfl,rfl,.inl ⟨by omega,by omega⟩,_,_,rfl,rfl,_,_,rfl,rfl,(by show(0:Int)<999;decide),_,_,rfl,rfl,rfl,?_⟩
   rw[M1.zfJ,List.map_append,Int.zero_add]
   rfl
  ·rintro ys H2 ⟨rfl,rfl⟩ l hl
   exact q l _ ((zh.new hp).newT hl) (zh.free (zh.new hp) hl) zf
end
def zbe(K:PySem.W.Frag):Sp:=fun vs H Q _=>∃(c m:Int),vs = [.int c,.int m]∧0≤m∧m≤15∧∀(l:Addr) (H':Hp) (ts:List Str),zh H H'→H l=none→H' l=some (.lst (ts.map V.str))→ts.length=m.toNat→ts.Nodup→(∀z∈ts,M2.zdE z=true)→Q (.ref l) H'
theorem abc_at{i:Int}(h0:0≤i)(h1:i<26):atI abc.cps.toList i=some (97+i.toNat):=by
 have:∀k:Fin 26,abc.cps.toList[k.val]? = some (97+k.val):=by decide +kernel
 have:=zW (this ⟨i.toNat,by omega⟩)
 rwa [show((i.toNat:Nat):Int)=i by omega] at this
section
variable {P:Program} {w:World} {K:PySem.W.Frag} {mg:Str→Option Value} {base:Heap}
theorem ze7{f:Addr}{fd:FuncData}(F:Fun K "_law_judges" "_law_judges" yK f fd)(T:Txt K mg):FnOk P w K mg base CX0 1 f fd ["_law_cell","_law_many_here"] (zbe K):=by
 refine F.ok wp (fun vs H Q E h=>?_) (fun cdv A outer s H vs Q E hr h=>?_)
 ·obtain⟨c,m,rfl,_⟩:=h
  rfl
 ·obtain⟨c,m,rfl,m0,m1,q⟩:=h
  refine⟨_,(zd (zz (i:=2) wp.nd rfl (Or.inr rfl) y9)
   (zd (zz (i:=3) wp.nd rfl (Or.inl rfl) (zD yY (pv 0) zg))
   (zd (zz (i:=4) wp.nd rfl (Or.inl rfl) (zD yY (zD zbE (pv 0) zg) (zD yR (pv 3) zg)))
   (zd (zz (i:=5) wp.nd rfl (Or.inr rfl) (wz (za (wL sl_str y9 za2 (zag (pv 4))) (za (wL sl_str y9 (zag (pv 4)) (zag (pv 3))) zb))))
   (ze (zo (zU (show CompScope (zc yK) ["_law_cell","_law_many_here","_law_letters","_law_size","_law_spot","_law_ends"] "_law_k" ["_law_cell","_law_letters","_law_ends"] [0,2,5] _ from⟨rfl,by decide +kernel,by decide +kernel,rfl,by decide +kernel,rfl,by decide +kernel,by decide +kernel⟩) rfl (yC rfl T.b_range (za (pv 1) zb)) (fun _ _ _ _ _=>wo) (fun _ _ _ _ _=>(zD zeG (zD zeG (zB (yD (K:=K) rfl) (pv 3) zg (fun _ _=>rfl)) (zB ix_str (pv 2) (zD yY (zD yR (zD zbE (pv 1) zg) (zD zf9 zg (pv 0))) zg) (fun _ _=>rfl))) (zB (yD (K:=K) rfl) (pv 3) zg (fun _ _=>rfl))))))))))),?_⟩
  have hln:=zw
  have z0:0≤c%8:=Int.emod_nonneg _ (by decide)
  have z1:c%8<8:=Int.emod_lt_of_pos _ (by decide)
  refine⟨_,rfl,_,_,rfl,rfl,(by show(0:Int)<8;decide),?_⟩
  dsimp only
  generalize c%8=size at z0 z1 ⊢
  have p0:0≤c/8%(size+1):=Int.emod_nonneg _ (by omega)
  have p1:c/8%(size+1)<size+1:=Int.emod_lt_of_pos _ (by omega)
  refine⟨_,rfl,_,_,rfl,rfl,⟨by decide,by decide⟩,_,rfl,_,_,rfl,rfl,_,_,rfl,rfl,(by show 0<size+1;omega),?_⟩
  dsimp only
  generalize c/8%(size+1)=spot at p0 p1 ⊢
  have he:=M10.ends_ok ⟨size.toNat,by omega⟩ ⟨spot.toNat,by omega⟩ (by show spot.toNat≤size.toNat;omega)
  dsimp only at he
  rw[show((spot.toNat:Nat):Int)=spot by omega,show((size.toNat:Nat):Int)=size by omega] at he
  refine⟨_,rfl,_,rfl,_,rfl,(by show 7≤sizeLine;decide),_,rfl,_,rfl,_,rfl,_,rfl,_,rfl,(by show 7≤sizeLine;decide),(by show 2≤sizeLine;decide),fun p3 hp3=>?_⟩
  generalize PySem.Txt.slice "vwxyzab" none (some spot)=e0 at he ⊢
  generalize PySem.Txt.slice "vwxyzab" (some spot) (some size)=e1 at he ⊢
  obtain⟨hl,h0,h1⟩:=he
  have s3:=zh.new (o:=.lst [.str e0,.str e1]) hp3
  have q3:=SqL.new (K:=K) (H:=H) (l:=p3) (xs := [.str e0,.str e1])
  generalize hH3:upd H p3 _=H3 at s3 q3 ⊢
  refine⟨_,rfl,m,rfl,by omega,by omega,?_⟩
  refine zca (fun i ys H4=>H4=H3∧ys=(M10.zbD e0 e1 (c/64) i).map V.str) ⟨rfl,rfl⟩ ?_ (by omega) ?_ ?_
  ·rintro i ys H4 hi ⟨rfl,rfl⟩
   rw[List.length_map,M10.zeH]
   omega
  ·rintro i ys H4 hi ⟨rfl,rfl⟩
   have i0:=Int.emod_nonneg (c/64+11*(0+(i:Int))) (show(26:Int)≠0 by decide)
   have i1:=Int.emod_lt_of_pos (c/64+11*(0+(i:Int))) (show(0:Int)<26 by decide)
   refine⟨_,rfl,p3,_,_,_,rfl,rfl,q3,rfl,_,rfl,_,rfl,_,_,rfl,rfl,⟨by decide,by decide⟩,_,rfl,_,_,rfl,rfl,.inl ⟨by decide,by decide⟩,_,_,rfl,rfl,_,_,rfl,rfl,(by show(0:Int)<26;decide),abc,_,_,rfl,rfl,(by decide),abc_at i0 i1,_,_,rfl,rfl,(by show e0.length+1≤sizeLine;omega),_,rfl,p3,_,_,_,rfl,rfl,q3,rfl,_,_,rfl,rfl,(by rw[zge];show e0.length+1+e1.length≤sizeLine;omega),rfl,?_⟩
   rw[M10.zhm,List.map_append,Int.zero_add]
   rfl
  ·rintro ys H4 ⟨rfl,rfl⟩ l hl'
   refine q l _ _ (s3.newT hl') (s3.free hl') zf (M10.zeH _ _ _ _) (M10.zf0 _ _ _ (by omega)) fun z hz=>?_
   unfold M10.zbD at hz
   obtain⟨k,_,rfl⟩:=List.mem_map.mp hz
   exact M10.zhL _ _ hl h0 h1
end
def zbj(K:PySem.W.Frag):Sp:=fun vs H Q _=>∃(a b:Addr) (ls ks:List Addr) (ps qs:List M6.R4),vs = [.ref a,.ref b]∧SqL K H a (ls.map V.ref)∧All2 (F4 K H) ls ps∧SqL K H b (ks.map V.ref)∧All2 (F4 K H) ks qs∧(ps.map fun p=>p.2.2)=(qs.map fun p=>p.2.2)∧ps.length≤1000∧∀H',zh H H'→Q (.bl true) H'
section
variable {P:Program} {w:World} {K:PySem.W.Frag} {mg:Str→Option Value} {base:Heap}
theorem ze0{f:Addr}{fd:FuncData}(F:Fun K "_law_parted" "_law_parted" wf f fd)(T:Txt K mg):FnOk P w K mg base CX0 1 f fd ["_law_found","_law_beside"] (zbj K):=by
 refine F.ok zct (fun vs H Q E h=>?_) (fun cdv A outer s H vs Q E hr h=>?_)
 ·obtain⟨a,b,ls,ks,ps,qs,rfl,_⟩:=h
  rfl
 ·obtain⟨a,b,ls,ks,ps,qs,rfl,hA,rA,hB,rB,hpq,hz,q⟩:=h
  refine⟨_,(zd (zG (PW.pt (zau (yt (yc (zl yx (by rfl) T.b_isinstance PyProof.Rows.boot_isinstance (za (pv 0) (za (yV (v:=V.ty "list") rfl T.b_list PyProof.Rows.boot_list rfl) zb))))) (zau (yt (yc (zl yx (by rfl) T.b_isinstance PyProof.Rows.boot_isinstance (za (pv 1) (za (yV (v:=V.ty "list") rfl T.b_list PyProof.Rows.boot_list rfl) zb))))) (zaF (zr wC (zl zk (by rfl) T.b_len PySem.boot_len (za (pv 0) zb)) (zl zk (by rfl) T.b_len PySem.boot_len (za (pv 1) zb)) (zv _)))))) (ze (zo wt)) zu)
   (zd (zbC PassesOwn.never rfl (yC rfl T.b_range (za (zl zk (by rfl) T.b_len PySem.boot_len (za (pv 0) zb)) zb)) (wb (i:=2) zct.nd rfl (Or.inl rfl))
     (zd (zG (PW.pt (zau (yt (yc (zl wQ (by rfl) T.b_isinstance PyProof.Rows.boot_isinstance (za (zB zy (pv 0) (pv 2) (fun _ _=>rfl)) (za (yV (v:=V.ty "tuple") rfl T.b_tuple PyProof.Rows.boot_tuple rfl) zb))))) (zaF (yt (yc (zl wQ (by rfl) T.b_isinstance PyProof.Rows.boot_isinstance (za (zB zy (pv 1) (pv 2) (fun _ _=>rfl)) (za (yV (v:=V.ty "tuple") rfl T.b_tuple PyProof.Rows.boot_tuple rfl) zb)))))))) (ze (zo wt)) zu)
   (ze (zG (PW.pt (zau (zr wC (zl zk (by rfl) T.b_len PySem.boot_len (za (zB zy (pv 0) (pv 2) (fun _ _=>rfl)) zb)) zg (zv _)) (zau (zr wC (zl zk (by rfl) T.b_len PySem.boot_len (za (zB zy (pv 1) (pv 2) (fun _ _=>rfl)) zb)) zg (zv _)) (zaF (zr (op_ne_tup hr.units0) (wL sl_tup (zB zy (pv 0) (pv 2) (fun _ _=>rfl)) (zag zg) za2) (wL sl_tup (zB zy (pv 1) (pv 2) (fun _ _=>rfl)) (zag zg) za2) (zv _)))))) (ze (zo wt)) zu))))
   (ze (zo wt)))),?_⟩
  have hln:=zw
  have la:=rA.length
  have lb:=rB.length
  have hlen:ps.length=qs.length:=by
   have:=congrArg List.length hpq
   rw[List.length_map,List.length_map] at this
   exact this
  refine⟨_,rfl,_,_,rfl,.yes hA,_,rfl,zaT ?_⟩
  refine⟨_,rfl,_,_,rfl,.yes hB,_,rfl,zaT ?_⟩
  refine⟨_,rfl,a,_,rfl,.inl hA,_,rfl,b,_,rfl,.inl hB,rfl,_,rfl,?_⟩
  rw[List.length_map,List.length_map]
  refine yH (fun hne=>absurd (by rw[la,lb,hlen]) hne) (fun _=>?_)
  refine⟨_,rfl,a,_,rfl,.inl hA,_,rfl,by omega,by rw[List.length_map];omega,?_⟩
  rw[List.length_map]
  refine zac (fun i σ H2=>∃v,σ = [some (.ref a),some (.ref b),v]∧zh H H2) ⟨_,rfl,zh.refl _⟩ ?_ ?_
  ·rintro i σ H2 hi ⟨v,rfl,s2⟩
   have hi0:i<ls.length:=by simpa using hi
   have hi1:i<ps.length:=by omega
   have hi2:i<qs.length:=by omega
   obtain⟨l,el,rl⟩:=rA.get (List.getElem?_eq_getElem hi1)
   obtain⟨k,ek,rk⟩:=rB.get (List.getElem?_eq_getElem hi2)
   have hpe:(ps[i]).2.2=(qs[i]).2.2:=by
    have:=congrArg (fun z=>z[i]?) hpq
    simp only[List.getElem?_map,List.getElem?_eq_getElem hi1,List.getElem?_eq_getElem hi2,Option.map_some] at this
    injection this
   generalize ps[i]=p at rl hpe
   generalize qs[i]=r at rk hpe
   have rl:SqT K H l [.int p.1,.int p.2.1,.int p.2.2.1,.str p.2.2.2]:=rl
   have rk:SqT K H k [.int r.1,.int r.2.1,.int r.2.2.1,.str r.2.2.2]:=rk
   have e1:atI (ls.map V.ref) (0+(i:Int))=some (.ref l):=by rw[Int.zero_add];exact zW (zaf el)
   have e2:atI (ks.map V.ref) (0+(i:Int))=some (.ref k):=by rw[Int.zero_add];exact zW (zaf ek)
   have a2:=s2.seq hA
   have b2:=s2.seq hB
   have l2:=s2.seqT rl
   have k2:=s2.seqT rk
   refine⟨_,rfl,_,rfl,a,_,_,_,rfl,rfl,a2,e1,_,_,rfl,.yes l2,_,rfl,zaT ?_⟩
   refine⟨_,rfl,_,rfl,b,_,_,_,rfl,rfl,b2,e2,_,_,rfl,.yes k2,_,rfl,zaT ?_⟩
   refine⟨_,rfl,_,rfl,a,_,_,_,rfl,rfl,a2,e1,l,_,rfl,.inr l2,rfl,_,rfl,yH (fun h=>absurd rfl h) (fun _=>?_)⟩
   refine⟨_,rfl,_,rfl,b,_,_,_,rfl,rfl,b2,e2,k,_,rfl,.inr k2,rfl,_,rfl,yH (fun h=>absurd rfl h) (fun _=>?_)⟩
   refine⟨_,rfl,_,rfl,a,_,_,_,rfl,rfl,a2,e1,_,rfl,l,_,rfl,l2,(fun z=>absurd (show HT.sIx 4 0 (some 2)=0 from z.1) (by decide)),fun t1 ht1=>?_⟩
   rw[zdY (by decide)]
   have s3:=zh.new (o:=.tup ([V.int p.1,.int p.2.1,.int p.2.2.1,.str p.2.2.2].drop (2:Int).toNat)) ht1
   have e3:SqT K (upd H2 t1 (.tup ([V.int p.1,.int p.2.1,.int p.2.2.1,.str p.2.2.2].drop (2:Int).toNat))) t1 [.int p.2.2.1,.str p.2.2.2]:=.inl (.inl zf)
   generalize hH3:upd H2 t1 _=H3 at s3 e3 ⊢
   refine⟨_,rfl,_,rfl,b,_,_,_,rfl,rfl,s3.seq b2,e2,_,rfl,k,_,rfl,s3.seqT k2,(fun z=>absurd (show HT.sIx 4 0 (some 2)=0 from z.1) (by decide)),fun t2 ht2=>?_⟩
   rw[zdY (by decide)]
   have s4:=zh.new (o:=.tup ([V.int r.1,.int r.2.1,.int r.2.2.1,.str r.2.2.2].drop (2:Int).toNat)) ht2
   have e4:SqT K (upd H3 t2 (.tup ([V.int r.1,.int r.2.1,.int r.2.2.1,.str r.2.2.2].drop (2:Int).toNat))) t2 [.int r.2.2.1,.str r.2.2.2]:=.inl (.inl zf)
   generalize hH4:upd H3 t2 _=H4 at s4 e4 ⊢
   refine⟨t1,t2,_,_,rfl,rfl,s4.seqT e3,e4,rfl,rfl,_,rfl,?_⟩
   rw[hpe]
   refine iteNo ?_ ⟨_,rfl,(s2.trans s3).trans s4⟩
   simp[eqL,eqV]
  ·rintro σ H2 ⟨v,rfl,s2⟩
   exact q _ s2
end
def wY(K:PySem.W.Frag):Sp:=fun vs H Q E=>∃(p:Addr) (F:Addr→Prop) (S:Sh) (j:Str) (a:Addr) (ns:List Int),vs = [.ref p,.str j,.ref a]∧zx K H p F S∧SqL K H a (ns.map V.int)∧ns.length<64 ∧
 (∀c,S.refuse j ns=some c→∀C H',zbA K c C→zh H H'→E (.ref C) none H')∧(S.refuse j ns=none→∀H' F',zx K H' p F' (S.hand j ns)→zdo F H F' H'→Q .non H')
section
variable {P:Program} {w:World} {K:PySem.W.Frag} {mg:Str→Option Value} {base:Heap}
theorem zdn{f:Addr}{fd:FuncData}(F:Fun K "hand_in" "Sheet.hand_in" yj f fd)(T:Txt K mg)(C_whole_card:Can P w K mg base 1 "whole_card" ["card","couples"] (zbg K))(C_Sheet_refuse_if_sealed:CanMX P w K mg base 1 (zN K "Sheet") "refuse_if_sealed" ["self"] (yh K))(C_Sheet_refuse_unknown_judge:CanMX P w K mg base 1 (zN K "Sheet") "refuse_unknown_judge" ["self","judge"] (zJ K)):FnOk P w K mg base (CX1 P w) 2 f fd ["self","judge","card"] (wY K):=by
 obtain⟨c_BadCard,n_BadCard,m_BadCard,x_BadCard⟩:=T.x_BadCard
 obtain⟨c_TooManyCards,n_TooManyCards,m_TooManyCards,x_TooManyCards⟩:=T.x_TooManyCards
 refine F.okX zdm (fun vs H Q E h=>?_) (fun X W cdv A outer s H vs Q E hX hW fl md hr h=>?_)
 ·obtain⟨p,F,S,j,a,ns,rfl,_⟩:=h
  rfl
 ·obtain⟨p,F,S,j,a,ns,rfl,hSh,hA,hz,qE,q⟩:=h
  obtain⟨dx,a1,a2,a3,d,kvs,h⟩:=id hSh
  subst hX
  refine⟨_,(zd (yT (pe_ownMX0 C_Sheet_refuse_if_sealed T.cl_Sheet fl (hr.mono (by decide)) (pv 0)))
   (zd (yT (zaj C_Sheet_refuse_unknown_judge T.cl_Sheet fl (hr.mono (by decide)) (pv 0) (za (pv 1) zb)))
   (zd (zG (yt (yc (zi C_whole_card (hr.mono (by decide)) rfl (za (pv 2) (za (zaO (pv 0) rfl) zb))))) (ze (zao rfl md rfl m_BadCard x_BadCard (za y9 zb))) zu)
   (zd (zG (zr op_ge (zaO (pv 0) rfl) (zcf T.c_MOST_CARDS rfl) (zv _)) (ze (zao rfl md rfl m_TooManyCards x_TooManyCards (za y9 zb))) zu)
   (zd (ps_dput (zh3 hr) (zaO (pv 0) rfl) (pv 1) (yk zO (by rfl) T.b_list PyProof.Rows.boot_list (za (pv 2) zb)) rfl)
   (ze (zcF (pv 0) (zD yR (zaO (pv 0) rfl) zg) rfl))))))),?_⟩
  have hln:=zw
  have h24:=h.ok.c24
  refine⟨_,rfl,p,dx,_,rfl,h.ip,rfl,p,F,S,rfl,hSh,(fun hs C hC=>?_),fun hs=>?_⟩
  ·rw[hW]
   exact qE "SheetSealed" (by unfold Sh.refuse;rw[if_pos hs]) C _ hC (zh.refl _)
  refine⟨_,rfl,p,dx,_,rfl,h.ip,rfl,_,rfl,p,F,S,j,rfl,hSh,(fun hj C hC=>?_),fun hj=>?_⟩
  ·rw[hW]
   exact qE "UnknownJudge" (by unfold Sh.refuse;rw[if_neg (by rw[hs];exact Bool.false_ne_true),if_neg hj]) C _ hC (zh.refl _)
  refine⟨_,rfl,_,rfl,p,_,dx,_,_,rfl,h.ip,T.cl_Sheet,T.n_Sheet_standing,rfl,a,a1,ns,S.couples,rfl,hA,SqL.of h.i1,hz,by omega,fun H2 s2=>⟨_,rfl,?_⟩⟩
  refine yH (fun hp=>?_) (fun hp=>?_)
  ·refine⟨(by show 1≤sizeLine;decide),?_⟩
   rw[hW]
   exact qE "BadCard" (by unfold Sh.refuse;rw[if_neg (by rw[hs];exact Bool.false_ne_true),if_pos hj,if_neg hp]) _ _ n_BadCard s2
  have ip:=s2 _ _ h.ip
  have i1:=s2 _ _ h.i1
  have i2:=s2 _ _ h.i2
  have i3:=s2 _ _ h.i3
  have i4:=s2 _ _ h.i4
  refine⟨_,rfl,p,_,dx,_,_,rfl,ip,T.cl_Sheet,T.n_Sheet_taken_so_far,rfl,_,_,rfl,rfl,_,rfl,wS (fun ht=>?_) (fun ht=>?_)⟩
  ·refine⟨(by show 1≤sizeLine;decide),?_⟩
   rw[hW]
   exact qE "TooManyCards" (by unfold Sh.refuse;rw[if_neg (by rw[hs];exact Bool.false_ne_true),if_pos hj,if_pos hp,if_pos (by omega)]) _ _ n_TooManyCards s2
  have hn:S.refuse j ns=none:=by unfold Sh.refuse;rw[if_neg (by rw[hs];exact Bool.false_ne_true),if_pos hj,if_pos hp,if_neg (by omega)]
  have hk:=h.kl
  have ht2:=h.ok.t200
  refine⟨_,rfl,a,_,rfl,.inl (s2.seq hA),fun l hl=>?_⟩
  have kp:∀b o,H2 b=some o→upd H2 l (.lst (ns.map V.int)) b=some o:=fun b o e=>zh.new hl b o e
  refine⟨_,rfl,p,_,dx,_,_,rfl,kp _ _ ip,T.cl_Sheet,T.n_Sheet_card_by_judge,rfl,_,rfl,d,_,rfl,DPut.k (k:=Sum.inr j) (kp _ _ i4) (by omega),?_⟩
  have n1:a1≠p:=zaw i1 ip (by intro z;cases z)
  have n2:a2≠p:=zaw i2 ip (by intro z;cases z)
  have n3:a3≠p:=zaw i3 ip (by intro z;cases z)
  have n4:d≠p:=zaw i4 ip (by intro z;cases z)
  have m1:a1≠d:=zaw i1 i4 (by intro z;cases z)
  have m2:a2≠d:=zaw i2 i4 (by intro z;cases z)
  have m3:a3≠d:=zaw i3 i4 (by intro z;cases z)
  have lp:l≠p:=fun z=>by rw[z,ip] at hl;cases hl
  have ld:l≠d:=fun z=>by rw[z,i4] at hl;cases hl
  have l2:l≠a2:=fun z=>by rw[z,i2] at hl;cases hl
  have ip':upd (upd H2 l (.lst (ns.map V.int))) d (.dK (zcc kvs (Sum.inr j) (.ref l))) p=some (.ins (zN K "Sheet") dx (shF a1 a2 a3 d S)):=by rw[zj (Ne.symm n4)];exact kp _ _ ip
  refine⟨_,rfl,p,_,dx,_,_,rfl,ip',T.cl_Sheet,T.n_Sheet_taken_so_far,rfl,_,_,rfl,rfl,?_⟩
  refine⟨_,rfl,p,_,dx,_,rfl,ip',T.cl_Sheet,T.n_Sheet_taken_so_far,(by show 6<1000;decide),?_⟩
  have et:(V.int ((S.taken:Int)+1))=.int ((S.hand j ns).taken:Nat):=by show V.int _=V.int ((S.taken+1:Nat):Int);congr 1
  show _
  dsimp only
  rw[et,pf_taken a1 a2 a3 d S (S.hand j ns) rfl]
  obtain⟨ok',_⟩:=h.ok.hand hn
  have up:∀b o,H2 b=some o→b≠p→b≠d→upd (upd (upd H2 l (.lst (ns.map V.int))) d (.dK (zcc kvs (Sum.inr j) (.ref l)))) p (.ins (zN K "Sheet") dx (shF a1 a2 a3 d (S.hand j ns))) b=some o:=fun b o e nb nd=>by rw[zj nb,zj nd];exact kp b o e
  have el:upd (upd (upd H2 l (.lst (ns.map V.int))) d (.dK (zcc kvs (Sum.inr j) (.ref l)))) p (.ins (zN K "Sheet") dx (shF a1 a2 a3 d (S.hand j ns))) l=some (.lst (ns.map V.int)):=by rw[zj lp,zj ld];exact zf
  refine q hn _ (fun b=>F b∨b=l) ⟨dx,a1,a2,a3,d,zcc kvs (Sum.inr j) (.ref l),⟨⟨zf,up _ _ i1 n1 m1,up _ _ i2 n2 m2,up _ _ i3 n3 m3,by rw[zj n4];exact zf,?_,fun k hk'=>?_,fun k c hc=>?_,.inl h.fp,.inl h.f1,.inl h.f2,.inl h.f3,.inl h.f4,h.n12,h.n32,fun b hb=>?_⟩,ok'⟩⟩ fun b o e n=>⟨up b o (s2 _ _ e) (fun z=>n (z ▸ h.fp)) (fun z=>n (z ▸ h.f4)),?_⟩
  ·have:=zch kvs (Sum.inr j) (.ref l)
   show _≤S.taken+1
   omega
  ·have hk':(if k=j then some ns else S.card k)=none:=hk'
   rw[zhn]
   by_cases ek:k=j
   ·rw[if_pos ek] at hk';cases hk'
   ·rw[if_neg ek] at hk'
    rw[if_neg (fun z=>ek (by injection z))]
    exact h.cn k hk'
  ·have hc:(if k=j then some ns else S.card k)=some c:=hc
   rw[zhn]
   by_cases ek:k=j
   ·rw[if_pos ek] at hc
    cases hc
    rw[if_pos (by rw[ek])]
    exact⟨l,rfl,el,.inr rfl,l2⟩
   ·rw[if_neg ek] at hc
    rw[if_neg (fun z=>ek (by injection z))]
    obtain⟨l',x1,x2,x3,x4⟩:=h.cs k c hc
    exact⟨l',x1,up _ _ (s2 _ _ x2) (zaw x2 h.ip (by intro z;cases z)) (zaw x2 h.i4 (by intro z;cases z)),.inl x3,x4⟩
  ·by_cases hbp:b=p
   ·rw[hbp,zf];exact fun z=>nomatch z
   rw[zj hbp]
   by_cases hbd:b=d
   ·rw[hbd,zf];exact fun z=>nomatch z
   rw[zj hbd]
   rcases hb with hb | hb
   ·have:=h.fh b hb
    cases e:H b with
    | none=>exact absurd e this
    | some o=>rw[kp _ _ (s2 _ _ e)];exact fun z=>nomatch z
   ·rw[hb,zf];exact fun z=>nomatch z
  ·rintro (z | z)
   ·exact n z
   ·have:=s2 _ _ e
    rw[z,hl] at this
    cases this
end
def yb(K:PySem.W.Frag):Sp:=fun vs H Q E=>∃(p:Addr) (F:Addr→Prop) (S:Sh) (j:Str),vs = [.ref p,.str j]∧zx K H p F S∧(j∉S.panel→∀C,zbA K "UnknownJudge" C→E (.ref C) none H)∧(j∈S.panel→S.card j=none→∀C,zbA K "NoCard" C→E (.ref C) none H) ∧
 (∀c,S.card j=some c→∀(l:Addr) (H':Hp),zh H H'→H l=none→H' l=some (.lst (c.map V.int))→Q (.ref l) H')
section
variable {P:Program} {w:World} {K:PySem.W.Frag} {mg:Str→Option Value} {base:Heap}
theorem zdi{f:Addr}{fd:FuncData}(F:Fun K "card_of" "Sheet.card_of" yl f fd)(T:Txt K mg)(C_Sheet_refuse_unknown_judge:CanMX P w K mg base 1 (zN K "Sheet") "refuse_unknown_judge" ["self","judge"] (zJ K)):FnOk P w K mg base (CX1 P w) 2 f fd ["self","judge"] (yb K):=by
 obtain⟨c_NoCard,n_NoCard,m_NoCard,x_NoCard⟩:=T.x_NoCard
 refine F.okX zdh (fun vs H Q E h=>?_) (fun X W cdv A outer s H vs Q E hX hW fl md hr h=>?_)
 ·obtain⟨p,F,S,j,rfl,_⟩:=h
  rfl
 ·obtain⟨p,F,S,j,rfl,⟨dx,a1,a2,a3,d,kvs,h⟩,qU,qN,q⟩:=h
  subst hX
  refine⟨_,(zd (yT (zaj C_Sheet_refuse_unknown_judge T.cl_Sheet fl (hr.mono (by decide)) (pv 0) (za (pv 1) zb)))
   (zd (zG (pt_cmp (pc_dnotin (zh3 hr) (pv 1) (zaO (pv 0) rfl))) (ze (zao rfl md rfl m_NoCard x_NoCard (za y9 zb))) zu)
   (ze (zo (yk zO (by rfl) T.b_list PyProof.Rows.boot_list (za (pe_dget (zh3 hr) (zaO (pv 0) rfl) (pv 1) (fun _ _=>rfl)) zb)))))),?_⟩
  refine⟨_,rfl,p,dx,_,rfl,h.ip,rfl,_,rfl,p,F,S,j,rfl,⟨dx,a1,a2,a3,d,kvs,h⟩,fun hj C hC=>by rw[hW];exact qU hj C hC,fun hj=>?_⟩
  refine⟨_,rfl,_,rfl,p,_,dx,_,_,rfl,h.ip,T.cl_Sheet,T.n_Sheet_card_by_judge,rfl,d,_,rfl,zdP.k (k:=Sum.inr j) h.i4,_,rfl,?_⟩
  cases e:S.card j with
  | none =>
    rw[h.cn _ e]
    exact⟨(by show 1≤sizeLine;decide),by rw[hW];exact qN hj e _ n_NoCard⟩
  | some c =>
    obtain⟨l,e1,e2,_⟩:=h.cs _ _ e
    rw[e1]
    refine⟨_,rfl,p,_,dx,_,_,rfl,h.ip,T.cl_Sheet,T.n_Sheet_card_by_judge,rfl,_,rfl,d,.ref l,rfl,e1 ▸ zdP.k (k:=Sum.inr j) h.i4,l,_,rfl,.inl (SqL.of e2),fun l' hl'=>?_⟩
    exact q c e l' _ (zh.new hl') hl' zf
end
def za6(K:PySem.W.Frag):Sp:=fun vs H Q _=>∃(a:Addr) (cs:List (List Int)) (c:Int),vs = [.ref a,.int c]∧zds K (IL K) H a cs∧cs.length≤1000∧(∀d∈cs,c∈d)∧∀(l:Addr) (H':Hp),zh H H'→H l=none→H' l=some (.lst ((M5.zm cs c).map V.int))→Q (.ref l) H'
section
variable {P:Program} {w:World} {K:PySem.W.Frag} {mg:Str→Option Value} {base:Heap}
theorem zhf{f:Addr}{fd:FuncData}(F:Fun K "marks_of" "marks_of" wy f fd)(T:Txt K mg)(C_mark_on:Can P w K mg base 1 "mark_on" ["card","couple"] (zcC K)):FnOk P w K mg base CX0 2 f fd ["cards","couple"] (za6 K):=by
 refine F.ok zgM (fun vs H Q E h=>?_) (fun cdv A outer s H vs Q E hr h=>?_)
 ·obtain⟨a,cs,c,rfl,_⟩:=h
  rfl
 ·obtain⟨a,cs,c,rfl,⟨ls,hS,hR⟩,hz,hc,q⟩:=h
  refine⟨_,(ze (zo (zU (show CompScope (zc wy) ["cards","couple"] "card" ["couple"] [1] _ from⟨rfl,by decide +kernel,by decide +kernel,rfl,by decide +kernel,rfl,by decide +kernel,by decide +kernel⟩) rfl (zX (pv 0)) (fun _ _ _ _ _=>wo) (fun _ _ _ _ _=>(zi C_mark_on (hr.mono (by decide)) rfl (za (pv 0) (za (pv 1) zb))))))),?_⟩
  have hlen:=hR.length
  refine⟨_,rfl,a,rfl,⟨_,hS⟩,?_⟩
  refine yq (xs:=ls.map V.ref) (fun i ys H2=>H2=H∧ys=(M5.zm (cs.take i) c).map V.int) ⟨rfl,rfl⟩ ?_ (by rw[List.length_map];have:=zw;omega) ?_ ?_
  ·rintro i ys H2 hi ⟨rfl,rfl⟩
   refine⟨hS,?_⟩
   rw[List.length_map,M5.wJ,List.length_take]
   omega
  ·rintro i x ys H2 hx ⟨rfl,rfl⟩
   obtain⟨l,el,rfl⟩:=zby hx
   obtain⟨d,ed,rd⟩:=hR.getL el
   refine⟨_,rfl,_,rfl,l,d,c,rfl,rd,hc d (List.mem_of_getElem? ed),rfl,?_⟩
   rw[List.take_succ,ed]
   unfold M5.zm
   rw[List.map_append,List.map_append]
   rfl
  ·rintro ys H2 ⟨rfl,rfl⟩ l hl
   rw[List.length_map,hlen,List.take_length]
   exact q l _ (zh.new hl) hl zf
end
def zaQ(K:PySem.W.Frag):Sp:=fun vs H Q _=>∃(a:Addr) (ms:List Int) (n:Int),vs = [.ref a,.int n]∧SqL K H a (ms.map V.int)∧ms.length≤1000∧∀(H':Hp),zh H H'→Q (.int (M3.cnt ms n)) H'
section
variable {P:Program} {w:World} {K:PySem.W.Frag} {mg:Str→Option Value} {base:Heap}
theorem zhK{f:Addr}{fd:FuncData}(F:Fun K "granted" "granted" zaC f fd)(T:Txt K mg)(C_granting:Can P w K mg base 1 "granting" ["marks","number"] (za1 K)):FnOk P w K mg base CX0 2 f fd ["marks","number"] (zaQ K):=by
 refine F.ok zhY (fun vs H Q E h=>?_) (fun cdv A outer s H vs Q E hr h=>?_)
 ·obtain⟨a,ms,n,rfl,_⟩:=h
  rfl
 ·obtain⟨a,ms,n,rfl,hS,hz,q⟩:=h
  refine⟨_,(ze (zo (zl zk (by rfl) T.b_len PySem.boot_len (za (zi C_granting (hr.mono (by decide)) rfl (za (pv 0) (za (pv 1) zb))) zb)))),?_⟩
  refine⟨_,rfl,_,rfl,a,ms,n,rfl,hS,hz,fun l H1 s1 f1 e1=>?_⟩
  refine⟨l,_,rfl,.inl (SqL.of e1),?_⟩
  rw[List.length_map]
  exact q _ s1
end
def wP(K:PySem.W.Frag):Sp:=fun vs H Q _=>∃(a:Addr) (ms:List Int) (n:Int),vs = [.ref a,.int n]∧SqL K H a (ms.map V.int)∧ms.length≤1000∧∀(H':Hp),zh H H'→Q (.int (M3.sm ms n)) H'
section
variable {P:Program} {w:World} {K:PySem.W.Frag} {mg:Str→Option Value} {base:Heap}
theorem zeK{f:Addr}{fd:FuncData}(F:Fun K "granted_sum" "granted_sum" yN f fd)(T:Txt K mg)(C_granting:Can P w K mg base 1 "granting" ["marks","number"] (za1 K)):FnOk P w K mg base CX0 2 f fd ["marks","number"] (wP K):=by
 refine F.ok zeD (fun vs H Q E h=>?_) (fun cdv A outer s H vs Q E hr h=>?_)
 ·obtain⟨a,ms,n,rfl,_⟩:=h
  rfl
 ·obtain⟨a,ms,n,rfl,hS,hz,q⟩:=h
  refine⟨_,(ze (zo (zl (call_sum rfl) (by rfl) T.b_sum PyProof.Rows.boot_sum (za (zi C_granting (hr.mono (by decide)) rfl (za (pv 0) (za (pv 1) zb))) zb)))),?_⟩
  refine⟨_,rfl,_,rfl,a,ms,n,rfl,hS,hz,fun l H1 s1 f1 e1=>?_⟩
  exact⟨l,_,rfl,SqL.of e1,q _ s1⟩
end
def yL(K:PySem.W.Frag):Sp:=fun vs H Q _=>∃(a:Addr) (ms:List Int),vs = [.ref a]∧SqL K H a (ms.map V.int)∧ms ≠ []∧ms.length≤60∧(∀x∈ms,1≤x∧x≤24)∧∀(H':Hp) (f:Int),zh H H'→M3.isF ms f→Q (.int f) H'
section
variable {P:Program} {w:World} {K:PySem.W.Frag} {mg:Str→Option Value} {base:Heap}
theorem zdM{f:Addr}{fd:FuncData}(F:Fun K "first_number" "first_number" yE f fd)(T:Txt K mg)(C_majority_of:Can P w K mg base 1 "majority_of" ["many"] (zaV K)):FnOk P w K mg base CX0 2 f fd ["marks"] (yL K):=by
 refine F.ok zdU (fun vs H Q E h=>?_) (fun cdv A outer s H vs Q E hr h=>?_)
 ·obtain⟨a,ms,rfl,_⟩:=h
  rfl
 ·obtain⟨a,ms,rfl,hS,hne,hz,hx,q⟩:=h
  refine⟨_,(ze (zo (zB zy (zl zb7 (by rfl) T.b_sorted PyProof.Rows.boot_sorted (za (pv 0) zb)) (zD zeJ (zi C_majority_of (hr.mono (by decide)) rfl (za (zl zk (by rfl) T.b_len PySem.boot_len (za (pv 0) zb)) zb)) zg) (fun _ _=>rfl)))),?_⟩
  refine⟨_,rfl,a,ms,rfl,hS,by omega,fun l ns hl p w=>?_⟩
  refine⟨_,rfl,a,_,rfl,.inl ((zh.new hl).seq hS),_,rfl,_,_,rfl,rfl,?_⟩
  have hlen:=p.length_eq
  have hn:=List.length_pos_iff.mpr hne
  rw[List.length_map]
  refine⟨l,_,_,_,rfl,rfl,SqL.new,zbk (by omega) (by omega),?_⟩
  have e:(((ms.length:Nat):Int)/2+1 - 1).toNat=ns.length/2:=by omega
  rw[e]
  exact q _ _ (zh.new hl) (M3.isF_perm p (M3.zhx w fun z=>by rw[z] at hlen;simp at hlen;omega))
end
def zF(K:PySem.W.Frag):Sp:=fun vs H Q _=>∃(p:Addr) (F:Addr→Prop) (S:Sh) (n:Int),vs = [.ref p,.int n]∧zx K H p F S∧n≤S.handed.length∧∀H',zh H H'→Q .non H'
section
variable {P:Program} {w:World} {K:PySem.W.Frag} {mg:Str→Option Value} {base:Heap}
theorem zbU{f:Addr}{fd:FuncData}(F:Fun K "refuse_fewer_cards" "refuse_fewer_cards" zL f fd)(T:Txt K mg)(C_Sheet_handed:CanM P w K mg base 1 (zN K "Sheet") "handed" ["self"] (zY K)):FnOk P w K mg base CX0 2 f fd ["sheet","least"] (zF K):=by
 refine F.ok zbT (fun vs H Q E h=>?_) (fun cdv A outer s H vs Q E hr h=>?_)
 ·obtain⟨p,F,S,n,rfl,_⟩:=h
  rfl
 ·obtain⟨p,F,S,n,rfl,hSh,hn,q⟩:=h
  refine⟨_,(ze (zG (zr zdA (zl zk (by rfl) T.b_len PySem.boot_len (za (ye C_Sheet_handed T.cl_Sheet (hr.mono (by decide)) (pv 0)) zb)) (pv 1) (zv _)) (ze zhj) zu)),?_⟩
  obtain⟨dx,b1,b2,b3,d,hip⟩:=hSh.ins
  refine⟨_,rfl,p,dx,_,rfl,hip,rfl,p,F,S,rfl,hSh.shape,hSh.ok.p15,fun l1 H1 s1 f1 e1=>?_⟩
  refine⟨l1,_,rfl,.inl (SqL.of e1),_,rfl,_,_,rfl,rfl,_,rfl,wS (fun h=>?_) (fun _=>q H1 s1)⟩
  rw[List.length_map] at h
  exact absurd h (by omega)
end
def zar(K:PySem.W.Frag):Sp:=fun vs H Q _=>∃(a:Addr) (ns:List Int),vs = [.ref a]∧SqL K H a (ns.map V.int)∧ns.length<4000∧∀H',zh H H'→Q (.bl (M1.zbq ns)) H'
section
variable {P:Program} {w:World} {K:PySem.W.Frag} {mg:Str→Option Value} {base:Heap}
theorem zdN{f:Addr}{fd:FuncData}(F:Fun K "good_couples" "good_couples" yd f fd)(T:Txt K mg)(C_good_number:Can P w K mg base 1 "good_number" ["couple"] (zaH K))(C_good_length:Can P w K mg base 1 "good_length" ["things","most"] (yZ K))(C_all_unlike:Can P w K mg base 1 "all_unlike" ["things"] (zad K)):FnOk P w K mg base CX0 2 f fd ["couples"] (zar K):=by
 refine F.ok zdO (fun vs H Q E h=>?_) (fun cdv A outer s H vs Q E hr h=>?_)
 ·obtain⟨a,ns,rfl,_⟩:=h
  rfl
 ·obtain⟨a,ns,rfl,hS,hz,q⟩:=h
  refine⟨_,(ze (zo (zb6 (zi C_good_length (hr.mono (by decide)) rfl (za (pv 0) (za (zcf T.c_MOST_COUPLES rfl) zb))) (zb6 (zi C_all_unlike (hr.mono (by decide)) rfl (za (pv 0) zb)) (zd0 (zl (zes rfl) (by rfl) T.b_all PyProof.Rows.boot_all (za (zU (show CompScope (zc yd) ["couples"] "couple" [] [] _ from⟨rfl,by decide +kernel,by decide +kernel,rfl,by decide +kernel,rfl,by decide +kernel,by decide +kernel⟩) rfl (zX (pv 0)) (fun _ _ _ _ _=>wo) (fun _ _ _ _ _=>(zi C_good_number (hr.mono (by decide)) rfl (za (pv 0) zb)))) zb))))))),?_⟩
  refine⟨_,rfl,_,_,_,rfl,.inl ⟨_,hS,rfl⟩,_,rfl,?_⟩
  rw[List.length_map]
  unfold M1.zbq at q
  refine zgy (fun h1=>?_) (fun h1=>?_)
  ·rw[h1,Bool.true_and] at q
   refine⟨_,rfl,a,rfl,.inl ⟨ns,hS,hz,fun H1 s1=>⟨_,rfl,wS (fun h2=>?_) (fun h2=>?_)⟩⟩⟩
   ·rw[decide_eq_true h2,Bool.true_and] at q
    have hS1:=s1.seq hS
    refine⟨_,rfl,a,rfl,⟨_,hS1⟩,?_⟩
    refine yq (xs:=ns.map V.int) (fun i ys H2=>H2=H1∧ys=((ns.take i).map fun n=>decide (1≤n) && decide (n≤999)).map V.bl) ⟨rfl,rfl⟩ ?_ (by rw[List.length_map];have:=zw;omega) ?_ ?_
    ·rintro i ys H2 hi ⟨rfl,rfl⟩
     exact⟨hS1,by simp only[List.length_map,List.length_take];omega⟩
    ·rintro i x ys H2 hx ⟨rfl,rfl⟩
     obtain⟨hi,rfl⟩:=zah hx
     refine⟨_,rfl,_,rfl,rfl,?_⟩
     rw[wX hi,List.map_append,List.map_append]
     rfl
    ·rintro ys H2 ⟨rfl,rfl⟩ l hl
     rw[List.length_map,List.take_length]
     exact⟨l,_,rfl,SqL.new,q _ (s1.newT hl)⟩
   ·rw[decide_eq_false h2,Bool.false_and] at q
    exact q _ s1
  ·rw[h1,Bool.false_and] at q
   exact q _ (zh.refl _)
end
def zbJ(K:PySem.W.Frag):Sp:=fun vs H Q _=>∃(z:Str),vs = [.str z]∧z.length≤1000∧∀H',zh H H'→Q (.bl (M2.zdE z)) H'
section
variable {P:Program} {w:World} {K:PySem.W.Frag} {mg:Str→Option Value} {base:Heap}
theorem zfQ{f:Addr}{fd:FuncData}(F:Fun K "good_name" "good_name" yW f fd)(T:Txt K mg)(C_small_letter:Can P w K mg base 1 "small_letter" ["sign"] (zap K))(C_good_length:Can P w K mg base 1 "good_length" ["things","most"] (yZ K)):FnOk P w K mg base CX0 2 f fd ["judge"] (zbJ K):=by
 refine F.ok zf2 (fun vs H Q E h=>?_) (fun cdv A outer s H vs Q E hr h=>?_)
 ·obtain⟨z,rfl,_⟩:=h
  rfl
 ·obtain⟨z,rfl,hz,q⟩:=h
  refine⟨_,(ze (zo (zb6 (zi C_good_length (hr.mono (by decide)) rfl (za (pv 0) (za (zcf T.c_MOST_SIGNS rfl) zb))) (zd0 (zl (zes rfl) (by rfl) T.b_all PyProof.Rows.boot_all (za (zU (show CompScope (zc yW) ["judge"] "sign" [] [] _ from⟨rfl,by decide +kernel,by decide +kernel,rfl,by decide +kernel,rfl,by decide +kernel,by decide +kernel⟩) rfl (pi_str (pv 0)) (fun _ _ _ _ _=>wo) (fun _ _ _ _ _=>(zi C_small_letter (hr.mono (by decide)) rfl (za (pv 0) zb)))) zb)))))),?_⟩
  have hl:=zw
  refine⟨_,rfl,_,_,_,rfl,⟨by omega,rfl⟩,_,rfl,?_⟩
  unfold M2.zdE at q
  refine zgy (fun h1=>?_) (fun h1=>?_)
  ·rw[h1,Bool.true_and] at q
   refine⟨_,rfl,z,rfl,?_⟩
   refine comp_str0 (fun i ys H2=>H2=H∧ys=((z.cps.toList.take i).map zb5).map V.bl) ⟨rfl,rfl⟩ ?_ (by omega) ?_ ?_
   ·rintro i ys H2 hi ⟨rfl,rfl⟩
    simp only[List.length_map,List.length_take]
    omega
   ·rintro i d ys H2 hx ⟨rfl,rfl⟩
    refine⟨_,rfl,d,rfl,rfl,?_⟩
    rw[List.take_succ,hx,List.map_append,List.map_append]
    rfl
   ·rintro ys H2 ⟨rfl,rfl⟩ l hl
    have e:z.cps.toList.take z.length=z.cps.toList:=List.take_of_length_le (by show z.cps.toList.length≤z.cps.size;rw[Array.length_toList];exact Nat.le_refl _)
    rw[e]
    exact⟨l,_,rfl,SqL.new,q _ (zh.new hl)⟩
  ·rw[h1,Bool.false_and] at q
   exact q _ (zh.refl _)
end
def zb1(K:PySem.W.Frag):Sp:=fun vs H Q _=>∃(a b:Addr) (ns ms:List Int),vs = [.ref a,.ref b]∧SqL K H a (ns.map V.int)∧SqL K H b (ms.map V.int)∧ms.length≤1000000∧Q (.bl (decide (ns=ms))) H
theorem same_all{ns ms:List Int}(hl:ns.length=ms.length)(h:∀j,j<ms.length→ns.getD j 0=ms.getD j 0):ns=ms:=by
 refine List.ext_getElem hl fun j h1 h2=>?_
 have:=h j h2
 rwa [List.getD_eq_getElem?_getD,List.getD_eq_getElem?_getD,List.getElem?_eq_getElem h1,List.getElem?_eq_getElem h2] at this
section
variable {P:Program} {w:World} {K:PySem.W.Frag} {mg:Str→Option Value} {base:Heap}
theorem zgY{f:Addr}{fd:FuncData}(F:Fun K "_law_same" "_law_same" wZ f fd)(T:Txt K mg)(C_law_whole:Can P w K mg base 1 "_law_whole" ["_law_found"] (zbI K)):FnOk P w K mg base CX0 2 f fd ["_law_found","_law_due"] (zb1 K):=by
 refine F.ok zdH (fun vs H Q E h=>?_) (fun cdv A outer s H vs Q E hr h=>?_)
 ·obtain⟨a,b,ns,ms,rfl,_⟩:=h
  rfl
 ·obtain⟨a,b,ns,ms,rfl,hA,hB,hz,q⟩:=h
  refine⟨_,(zd (zG (PW.pt (zau (yt (yc (zl yx (by rfl) T.b_isinstance PyProof.Rows.boot_isinstance (za (pv 0) (za (yV (v:=V.ty "list") rfl T.b_list PyProof.Rows.boot_list rfl) zb))))) (zaF (zr wC (zl zk (by rfl) T.b_len PySem.boot_len (za (pv 0) zb)) (zl zk (by rfl) T.b_len PySem.boot_len (za (pv 1) zb)) (zv _))))) (ze (zo wt)) zu)
   (zd (zbC PassesOwn.never rfl (yC rfl T.b_range (za (zl zk (by rfl) T.b_len PySem.boot_len (za (pv 1) zb)) zb)) (wb (i:=2) zdH.nd rfl (Or.inl rfl))
     (ze (zG (PW.pt (zau (yt (yc (zi C_law_whole (hr.mono (by decide)) rfl (za (zB zy (pv 0) (pv 2) (fun _ _=>rfl)) zb)))) (zaF (zr wC (zB zy (pv 0) (pv 2) (fun _ _=>rfl)) (zB zy (pv 1) (pv 2) (fun _ _=>rfl)) (zv _))))) (ze (zo wt)) zu)))
   (ze (zo wt)))),?_⟩
  refine⟨_,rfl,_,_,rfl,.yes hA,_,rfl,zaT ?_⟩
  refine⟨_,rfl,a,_,rfl,.inl hA,_,rfl,b,_,rfl,.inl hB,rfl,_,rfl,?_⟩
  rw[List.length_map,List.length_map]
  refine yH (fun hne=>?_) (fun he=>?_)
  ·show Q (.bl false) H
   have:ns≠ms:=fun e=>hne (by rw[e])
   rw[decide_eq_false this] at q
   exact q
  ·have hl:ns.length=ms.length:=by injection he with he;exact Int.ofNat.inj he
   refine⟨_,rfl,b,_,rfl,.inl hB,_,rfl,by omega,by rw[List.length_map];omega,?_⟩
   rw[List.length_map]
   refine zac (fun i σ H2=>∃v,σ = [some (.ref a),some (.ref b),v]∧H2=H∧∀j,j<i→ns.getD j 0=ms.getD j 0) ⟨_,rfl,rfl,fun j hj=>by omega⟩ ?_ ?_
   ·rintro i σ H2 hi ⟨v,rfl,rfl,hj⟩
    have hi':i<ms.length:=by simpa using hi
    have e1:atI (ns.map V.int) (0+(i:Int))=some (.int (ns.getD i 0)):=by rw[Int.zero_add];exact zW (zax (by omega))
    have e2:atI (ms.map V.int) (0+(i:Int))=some (.int (ms.getD i 0)):=by rw[Int.zero_add];exact zW (zax hi')
    refine⟨_,rfl,_,rfl,a,_,_,_,rfl,rfl,hA,e1,_,true,false,rfl,rfl,rfl,_,rfl,zaT ?_⟩
    refine⟨_,rfl,_,rfl,a,_,_,_,rfl,rfl,hA,e1,_,rfl,_,rfl,b,_,_,_,rfl,rfl,hB,e2,rfl,_,rfl,yH (fun hne=>?_) (fun he=>?_)⟩
    ·show Q (.bl false) _
     have:ns≠ms:=fun e=>hne (by rw[e])
     rw[decide_eq_false this] at q
     exact q
    ·refine⟨_,rfl,rfl,fun j hj'=>?_⟩
     by_cases hji:j=i
     ·subst hji;injection he
     ·exact hj j (by omega)
   ·rintro σ H2 ⟨v,rfl,rfl,hj⟩
    show Q (.bl true) _
    have:ns=ms:=same_all hl fun j h=>hj j (by simpa using h)
    rw[decide_eq_true this] at q
    exact q
end
def za3(K:PySem.W.Frag):Sp:=fun vs H Q _=>∃(c:Int) (a:Addr) (ns:List Int) (y:Int),vs = [.int c,.ref a,.int y]∧SqL K H a (ns.map V.int)∧ns ≠ []∧ns.length≤1000∧∀(l:Addr) (H':Hp) (ms:List Int),zh H H'→H l=none→H' l=some (.lst (ms.map V.int))→ms.Perm ns→Q (.ref l) H'
section
variable {P:Program} {w:World} {K:PySem.W.Frag} {mg:Str→Option Value} {base:Heap}
theorem zgk{f:Addr}{fd:FuncData}(F:Fun K "_law_card" "_law_card" wV f fd)(T:Txt K mg)(C_law_mix:Can P w K mg base 1 "_law_mix" ["_law_cell","_law_place"] (zcz K)):FnOk P w K mg base CX0 2 f fd ["_law_cell","_law_couples_here","_law_style"] (za3 K):=by
 refine F.ok zQ (fun vs H Q E h=>?_) (fun cdv A outer s H vs Q E hr h=>?_)
 ·obtain⟨c,a,ns,y,rfl,_⟩:=h
  rfl
 ·obtain⟨c,a,ns,y,rfl,hS,hne,hz,q⟩:=h
  refine⟨_,(zd (zz (i:=3) zQ.nd rfl (Or.inl rfl) (yk zO (by rfl) T.b_list PyProof.Rows.boot_list (za (pv 1) zb)))
   (zd (zG (zr zb3 (pv 2) zg (zv _)) (zd (zz (i:=4) zQ.nd rfl (Or.inl rfl) (zD yY (pv 0) (zl zk (by rfl) T.b_len PySem.boot_len (za (pv 1) zb))))
   (zd (zz (i:=3) zQ.nd rfl (Or.inl rfl) (zD zhz (wL zcL (pv 3) (zag (pv 4)) za2) (wL zcL (pv 3) za2 (zag (pv 4)))))
   (zd (zG (zr zb3 (zD yY (zD zbE (pv 0) (zl zk (by rfl) T.b_len PySem.boot_len (za (pv 1) zb))) zg) zg (zv _)) (ze (zz (i:=3) zQ.nd rfl (Or.inl rfl) (pe_rev (pv 3) (zen zcH zg)))) zu)
   (ze (zo (pv 3)))))) zu)
   (zd (zz (i:=5) zQ.nd rfl (Or.inl rfl) (pv 0))
   (zd (zG (zr zb3 (pv 2) zg (zv _)) (ze (zz (i:=5) zQ.nd rfl (Or.inl rfl) (zi C_law_mix (hr.mono (by decide)) rfl (za (pv 0) (za (zl zk (by rfl) T.b_len PySem.boot_len (za (pv 1) zb)) zb))))) zu)
   (zd (zz (i:=6) zQ.nd rfl (Or.inl rfl) (wz zb))
   (zd (zbC PassesOwn.never rfl (yC rfl T.b_range (za (zl zk (by rfl) T.b_len PySem.boot_len (za (pv 1) zb)) zb)) (wb (i:=7) zQ.nd rfl (Or.inl rfl))
     (zd (zz (i:=8) zQ.nd rfl (Or.inl rfl) (zD yY (pv 5) (zl zk (by rfl) T.b_len PySem.boot_len (za (pv 3) zb))))
   (zd (zz (i:=5) zQ.nd rfl (Or.inl rfl) (zD zbE (pv 5) (zl zk (by rfl) T.b_len PySem.boot_len (za (pv 3) zb))))
   (zd (yT (zb4 PySem.F.plainAttrs_list PySem.F.slot_list_append PySem.F.type_list_append zco (pv 6) (za (zb4 PySem.F.plainAttrs_list PySem.F.slot_list_pop PySem.F.type_list_pop mt_popAt (pv 3) (za (pv 8) zb)) zb)))
   (ze (zG (zr zb3 (pv 2) zg (zv _)) (ze (zz (i:=5) zQ.nd rfl (Or.inl rfl) (zi C_law_mix (hr.mono (by decide)) rfl (za (zD yR (pv 5) (pv 8)) (za (pv 7) zb))))) zu))))))
   (ze (zo (pv 6))))))))),?_⟩
  have hpos:0<ns.length:=List.length_pos_iff.mpr hne
  -- pool=list(couples)
  refine⟨_,rfl,a,_,rfl,.inl hS,fun p0 hp0=>?_⟩
  have s0:zh H (upd H p0 (.lst (ns.map V.int))):=zh.new hp0
  refine⟨_,rfl,rfl,_,rfl,wS (fun _=>?_) (fun _=>?_)⟩
  ·-- a turn,maybe turned round
   have ht:0≤c%(ns.map V.int).length:=Int.emod_nonneg _ (by rw[List.length_map];omega)
   refine⟨_,rfl,_,rfl,a,_,rfl,.inl (s0.seq hS),_,_,rfl,rfl,(by show(0:Int)<(ns.map V.int).length;rw[List.length_map];omega),?_⟩
   refine⟨_,rfl,_,rfl,_,rfl,p0,_,rfl,SqL.new,fun p1 hp1=>?_⟩
   rw[zdb ht]
   refine⟨_,rfl,_,rfl,_,rfl,p0,_,rfl,(zh.new hp1).seq SqL.new,fun p2 hp2=>?_⟩
   rw[zfm ht]
   have n21:p1≠p2:=zq zf hp2
   refine⟨p1,p2,_,_,rfl,rfl,by rw[zj n21];exact zf,zf,?_,fun p3 hp3=>?_⟩
   ·simp only[List.length_map,List.length_take,List.length_drop];have:=zw;omega
   rw[← List.map_append]
   have f1:H p1=none:=s0.free hp1
   have s1:=s0.newT (o:=.lst ((ns.drop (c%(ns.map V.int).length).toNat).map V.int)) hp1
   have s2:=s1.newT (o:=.lst ((ns.take (c%(ns.map V.int).length).toNat).map V.int)) hp2
   have s3:=s2.newT (o:=.lst ((ns.drop (c%(ns.map V.int).length).toNat++ns.take (c%(ns.map V.int).length).toNat).map V.int)) hp3
   have pm:(ns.drop (c%(ns.map V.int).length).toNat++ns.take (c%(ns.map V.int).length).toNat).Perm ns:=by
    have:=List.perm_append_comm (l₁:=ns.drop (c%(ns.map V.int).length).toNat) (l₂:=ns.take (c%(ns.map V.int).length).toNat)
    rwa [List.take_append_drop] at this
   refine⟨_,rfl,_,rfl,a,_,rfl,.inl (s3.seq hS),_,_,rfl,rfl,⟨by rw[List.length_map];omega,by rw[List.length_map];omega⟩,_,_,rfl,rfl,(by show(0:Int)<2;decide),rfl,_,rfl,wS (fun _=>?_) (fun _=>?_)⟩
   ·refine⟨_,rfl,_,rfl,rfl,p3,_,rfl,SqL.new,fun p4 hp4=>?_⟩
    rw[← List.map_reverse]
    exact⟨_,rfl,q p4 _ _ (s3.newT hp4) (s3.free hp4) zf ((List.reverse_perm _).trans pm)⟩
   ·exact⟨_,rfl,q p3 _ _ s3 (s2.free hp3) zf pm⟩
  ·-- dealt out of the pool
   refine⟨_,rfl,?_⟩
   refine⟨_,rfl,rfl,_,rfl,wS (fun _=>?_) (fun _=>?_)⟩
   all_goals
    first
     | refine⟨by decide,fun m0 hm0=>?_⟩
     | refine⟨_,rfl,_,rfl,a,_,rfl,.inl (s0.seq hS),_,_,rfl,?_⟩
       refine⟨by decide,fun m0 hm0=>?_⟩
    have s1:=s0.newT (o:=.lst []) hm0
    have fm:H m0=none:=s0.free hm0
    have npm:p0≠m0:=zq zf hm0
    refine⟨_,rfl,a,_,rfl,.inl (s1.seq hS),_,rfl,by omega,by rw[List.length_map];omega,?_⟩
    rw[List.length_map]
    refine zac (fun i σ H2=>∃(pool made:List Int) (left:Int) (v4 v7 v8:Option V),σ = [some (.int c),some (.ref a),some (.int y),some (.ref p0),v4,some (.int left),some (.ref m0),v7,v8]∧zh H H2∧H2 p0=some (.lst (pool.map V.int))∧H2 m0=some (.lst (made.map V.int))∧pool.length+i=ns.length∧(made++pool).Perm ns)
     ⟨ns,[],_,_,_,_,rfl,s1,by rw[zj npm];exact zf,zf,rfl,List.Perm.refl _⟩ ?_ ?_
    ·rintro i σ H2 hi ⟨pool,made,left,v4,v7,v8,rfl,s2,e1,e2,hlen,pm⟩
     have hi':i<ns.length:=by simpa using hi
     have hpl:0<pool.length:=by omega
     have hr0:0≤left%((pool.map V.int).length:Int):=Int.emod_nonneg _ (by rw[List.length_map];omega)
     have hr1:left%((pool.map V.int).length:Int)<pool.length:=by
      have:=Int.emod_lt_of_pos left (b:=((pool.map V.int).length:Int)) (by rw[List.length_map];omega)
      rwa [List.length_map] at this ⊢
     have hsl:(left%((pool.map V.int).length:Int)).toNat<pool.length:=by omega
     have hix:seqIndex? (left%((pool.map V.int).length:Int)) (pool.map V.int).length=some (left%((pool.map V.int).length:Int)).toNat:=seqIx_ok hr0 (by rw[List.length_map] at hr1 ⊢;exact hr1)
     refine⟨_,rfl,_,rfl,p0,_,rfl,.inl (SqL.of e1),_,_,rfl,rfl,(by show(0:Int)<(pool.map V.int).length;rw[List.length_map];omega),?_⟩
     refine⟨_,rfl,_,rfl,p0,_,rfl,.inl (SqL.of e1),_,_,rfl,rfl,⟨by rw[List.length_map];omega,by rw[List.length_map];omega⟩,?_⟩
     refine⟨_,rfl,.inl ⟨rfl,_,SqL.of e2⟩,_,rfl,.inl ⟨rfl,_,SqL.of e1⟩,_,rfl,p0,_,_,_,_,rfl,rfl,e1,by omega,by omega,hix,zax hsl,?_⟩
     generalize (left%((pool.map V.int).length:Int)).toNat=j at hsl
     rw[zfy]
     have s3:zh H (upd H2 p0 (.lst ((pool.eraseIdx j).map V.int))):=s2.put hp0
     refine⟨m0,_,_,rfl,rfl,by rw[zj (Ne.symm npm)];exact e2,by rw[List.length_map];have:=pm.length_eq;rw[List.length_append] at this;have:=zw;omega,?_⟩
     have s4:zh H (upd (upd H2 p0 (.lst ((pool.eraseIdx j).map V.int))) m0 (.lst ((made ++ [pool.getD j 0]).map V.int))):=s3.put fm
     have pm2:(made ++ [pool.getD j 0]++pool.eraseIdx j).Perm ns:=by
      refine List.Perm.trans ?_ pm
      rw[List.append_assoc]
      refine List.Perm.append_left _ ?_
      have e:pool.getD j 0=pool[j]:=by rw[List.getD_eq_getElem?_getD,List.getElem?_eq_getElem hsl];rfl
      rw[e]
      exact zd3 pool j hsl
     have hl2:(pool.eraseIdx j).length+(i+1)=ns.length:=by rw[List.length_eraseIdx_of_lt hsl];omega
     have e1':upd (upd H2 p0 (.lst ((pool.eraseIdx j).map V.int))) m0 (.lst ((made ++ [pool.getD j 0]).map V.int)) p0=some (.lst ((pool.eraseIdx j).map V.int)):=by rw[zj npm];exact zf
     have eap:made.map V.int ++ [V.int (pool.getD j 0)]=(made ++ [pool.getD j 0]).map V.int:=by rw[List.map_append];rfl
     rw[eap]
     refine⟨_,rfl,rfl,_,rfl,wS (fun _=>?_) (fun _=>?_)⟩
     ·refine⟨_,rfl,_,rfl,_,_,rfl,rfl,_,rfl,_,_,rfl,?_⟩
      exact⟨_,_,_,_,_,_,rfl,s4,e1',zf,hl2,pm2⟩
     ·exact⟨_,_,_,_,_,_,rfl,s4,e1',zf,hl2,pm2⟩
    ·rintro σ H2 ⟨pool,made,left,v4,v7,v8,rfl,s2,e1,e2,hlen,pm⟩
     have hl0:(ns.length:Int).toNat=ns.length:=Int.toNat_natCast _
     have hp:pool = []:=List.eq_nil_of_length_eq_zero (by omega)
     subst hp
     rw[List.append_nil] at pm
     exact⟨_,rfl,q m0 _ _ s2 fm e2 pm⟩
end
def y6(K:PySem.W.Frag):Sp:=fun vs H Q _=>∃(p:Addr) (F:Addr→Prop) (S:Sh),vs = [.ref p]∧zx K H p F S∧∀(l:Addr) (H':Hp) (ks:List Addr),zh H H'→H l=none→H' l=some (.lst (ks.map V.ref))→All2 (fun k c=>H k=none∧H' k=some (.lst (c.map V.int))) ks S.cardsIn→Q (.ref l) H'
section
variable {P:Program} {w:World} {K:PySem.W.Frag} {mg:Str→Option Value} {base:Heap}
theorem zeM{f:Addr}{fd:FuncData}(F:Fun K "cards" "Sheet.cards" yy f fd)(T:Txt K mg)(C_Sheet_handed:CanM P w K mg base 1 (zN K "Sheet") "handed" ["self"] (zY K))(C_Sheet_card_of:CanMX P w K mg base 2 (zN K "Sheet") "card_of" ["self","judge"] (yb K)):FnOk P w K mg base CX0 3 f fd ["self"] (y6 K):=by
 refine F.ok zdZ (fun vs H Q E h=>?_) (fun cdv A outer s H vs Q E hr h=>?_)
 ·obtain⟨p,F,S,rfl,_⟩:=h
  rfl
 ·obtain⟨p,F,S,rfl,hSh,q⟩:=h
  refine⟨_,(ze (zo (zU (show CompScope (zc yy) ["self"] "judge" ["self"] [0] _ from⟨rfl,by decide +kernel,by decide +kernel,rfl,by decide +kernel,rfl,by decide +kernel,by decide +kernel⟩) rfl (zX (ye C_Sheet_handed T.cl_Sheet (hr.mono (by decide)) (pv 0))) (fun _ _ _ _ _=>wo) (fun _ _ _ _ _=>(zaj C_Sheet_card_of T.cl_Sheet zdG (hr.mono (by decide)) (pv 1) (za (pv 0) zb)))))),?_⟩
  have hln:=zw
  have h15:=hSh.ok.p15
  have hip:∃dx fs,H p=some (.ins (zN K "Sheet") dx fs)∧fs.lookup ("handed" : Str)=none∧fs.lookup ("card_of" : Str)=none:=by
   obtain⟨dx,a1,a2,a3,d,kvs,h⟩:=hSh
   exact⟨dx,_,h.ip,rfl,rfl⟩
  obtain⟨dx,fs,hip,fs1,fs2⟩:=hip
  refine⟨_,rfl,p,dx,_,rfl,hip,fs1,p,F,S,rfl,hSh.shape,h15,fun a H1 s1 f1 e1=>?_⟩
  have hl2:S.handed.length≤15:=Nat.le_trans (List.length_filter_le _ _) h15
  refine⟨a,rfl,⟨_,SqL.of e1⟩,?_⟩
  refine yq (xs:=S.handed.map V.str) (fun i ys H2=>∃ks:List Addr,ys=ks.map V.ref∧zh H1 H2∧All2 (fun k c=>H k=none∧H2 k=some (.lst (c.map V.int))) ks ((S.handed.take i).map fun j=>(S.card j).getD [])) ⟨[],rfl,zh.refl _,.nil⟩ ?_ (by rw[List.length_map];omega) ?_ ?_
  ·rintro i ys H2 hi ⟨ks,rfl,s2,r2⟩
   refine⟨s2.seq (SqL.of e1),?_⟩
   have:=r2.length
   rw[List.length_map,List.length_take] at this
   rw[List.length_map]
   omega
  ·rintro i x ys H2 hx ⟨ks,rfl,s2,r2⟩
   obtain⟨hi,rfl⟩:=zaK hx
   have hm:=List.mem_filter.mp (show S.handed.getD i "" ∈ S.panel.filter fun j=>(S.card j).isSome from zaJ hi)
   have s12:=s1.trans s2
   cases e:S.card (S.handed.getD i "")with
   | none=>rw[e] at hm;exact absurd hm.2 Bool.false_ne_true
   | some c =>
     refine⟨_,rfl,p,dx,_,rfl,s12 _ _ hip,fs2,_,rfl,p,F,S,_,rfl,hSh.same s12,fun hj=>absurd hm.1 hj,(fun _ z=>by rw[e] at z;cases z),fun c' e' l H3 s3 f3 e3=>?_⟩
     rw[e] at e'
     cases e'
     refine⟨ks ++ [l],by rw[List.map_append];rfl,s2.trans s3,?_⟩
     rw[yf hi,List.map_append]
     refine(r2.imp fun _ _ z=>⟨z.1,s3 _ _ z.2⟩).snoc ⟨s12.free f3,?_⟩
     dsimp only
     rw[e]
     exact e3
  ·rintro ys H2 ⟨ks,rfl,s2,r2⟩ l hl
   rw[List.length_map,List.take_length] at r2
   exact q l _ ks ((s1.trans s2).newT hl) ((s1.trans s2).free hl) zf (r2.imp fun _ _ z=>⟨z.1,zh.new hl _ _ z.2⟩)
end
def unlV:Option Int→V
 | none=>.non
 | some n=>.int n
def zaA(K:PySem.W.Frag):Sp:=fun vs H Q _=>∃(a b:Addr) (ms us:List Int) (f:Int),vs = [.ref a,.ref b]∧SqL K H a (ms.map V.int)∧SqL K H b (us.map V.int)∧1≤ms.length∧ms.length≤60∧us.length≤60∧(∀x∈ms,1≤x∧x≤24)∧(∀x∈us,1≤x∧x≤24)∧M3.isF ms f∧M3.isF us f∧∀(r:Option Int) (H':Hp),zh H H'→M6.zgp ms us f r→Q (unlV r) H'
section
variable {P:Program} {w:World} {K:PySem.W.Frag} {mg:Str→Option Value} {base:Heap}
theorem zf4{f:Addr}{fd:FuncData}(F:Fun K "unlike_at" "unlike_at" wH f fd)(T:Txt K mg)(C_granted:Can P w K mg base 2 "granted" ["marks","number"] (zaQ K))(C_granted_sum:Can P w K mg base 2 "granted_sum" ["marks","number"] (wP K))(C_first_number:Can P w K mg base 2 "first_number" ["marks"] (yL K)):FnOk P w K mg base CX0 3 f fd ["one","other"] (zaA K):=by
 refine F.ok zcO (fun vs H Q E h=>?_) (fun cdv A outer s H vs Q E hr h=>?_)
 ·obtain⟨a,b,ms,us,f,rfl,_⟩:=h
  rfl
 ·obtain⟨a,b,ms,us,f,rfl,hA,hB,h1,hz,hz2,hm,hu,fF,fG,q⟩:=h
  refine⟨_,(zd (zbC PassesOwn.never rfl (pi_range2 rfl T.b_range (za (zi C_first_number (hr.mono (by decide)) rfl (za (pv 0) zb)) (za (zD yR (zl (zeS rfl) (by rfl) T.b_max PyProof.Rows.boot_max (za (zD op_catS (pv 0) (pv 1)) zb)) zg) zb))) (wb (i:=2) zcO.nd rfl (Or.inl rfl))
   (zd (zgf (zG (zr wC (zi C_granted (hr.mono (by decide)) rfl (za (pv 0) (za (pv 2) zb))) (zi C_granted (hr.mono (by decide)) rfl (za (pv 1) (za (pv 2) zb))) (zv _)) (ze (zo (pv 2))) zu))
   (ze (zgf (zG (zr wC (zi C_granted_sum (hr.mono (by decide)) rfl (za (pv 0) (za (pv 2) zb))) (zi C_granted_sum (hr.mono (by decide)) rfl (za (pv 1) (za (pv 2) zb))) (zv _)) (ze (zo (pv 2))) zu)))))
   (ze (zo zd2))),?_⟩
  have hln:=zw
  have hne:ms ≠ []:=by intro z;rw[z] at h1;simp at h1
  refine⟨_,rfl,a,ms,rfl,hA,hne,hz,hm,fun H1 f' s1 hf'=>?_⟩
  have ef:=M3.zaX hf' fF
  subst ef
  refine⟨_,rfl,_,rfl,a,b,_,_,rfl,rfl,s1.seq hA,s1.seq hB,(by rw[List.length_map,List.length_map];omega),fun l hl=>?_⟩
  rw[← List.map_append]
  refine⟨l,ms++us,rfl,SqL.new,(by rw[List.length_append];omega),fun M hM hMx=>?_⟩
  have hMr:1≤M∧M≤24:=by
   rcases List.mem_append.mp hM with z | z
   ·exact hm M z
   ·exact hu M z
  have hma:∀x∈ms,x≤M:=fun x hx=>hMx x (List.mem_append_left _ hx)
  have hub:∀x∈us,x≤M:=fun x hx=>hMx x (List.mem_append_right _ hx)
  have hfr:=M3.zbu hf' 1 M fun x hx=>⟨(hm x hx).1,hma x hx⟩
  refine⟨_,_,rfl,rfl,_,_,rfl,⟨by omega,by omega,by omega,by omega⟩,?_⟩
  generalize hH2:upd H1 l _=H2
  have s2:zh H H2:=by rw[← hH2];exact s1.newT hl
  refine zac (fun i σ H3=>∃v,σ = [some (.ref a),some (.ref b),v]∧zh H H3∧∀j,f'≤j→j<f'+i→M3.cnt ms j=M3.cnt us j∧M3.sm ms j=M3.sm us j) ⟨_,rfl,s2,fun j j1 j2=>by omega⟩ ?_ ?_
  ·rintro i σ H3 hi ⟨v,rfl,s3,hj⟩
   refine⟨fun σ' H'=>σ' = [some (.ref a),some (.ref b),some (.int (f'+i))]∧zh H H'∧M3.cnt ms (f'+i)=M3.cnt us (f'+i),?_,?_⟩
   ·refine⟨_,rfl,_,rfl,a,ms,_,rfl,s3.seq hA,by omega,fun H4 s4=>?_⟩
    refine⟨_,rfl,_,rfl,b,us,_,rfl,(s3.trans s4).seq hB,by omega,fun H5 s5=>?_⟩
    refine⟨rfl,_,rfl,yH (fun hne=>?_) (fun he=>?_)⟩
    ·refine⟨_,rfl,q (some (f'+i)) _ ((s3.trans s4).trans s5) ⟨by omega,by omega,hj,fun z=>hne (by rw[z.1])⟩⟩
    ·refine⟨rfl,(s3.trans s4).trans s5,?_⟩
     injection he with he
     omega
   ·rintro σ' H' ⟨rfl,s4,hcnt⟩
    refine⟨fun σ' H'=>σ' = [some (.ref a),some (.ref b),some (.int (f'+i))]∧zh H H'∧M3.sm ms (f'+i)=M3.sm us (f'+i),?_,?_⟩
    ·refine⟨_,rfl,_,rfl,a,ms,_,rfl,s4.seq hA,by omega,fun H5 s5=>?_⟩
     refine⟨_,rfl,_,rfl,b,us,_,rfl,(s4.trans s5).seq hB,by omega,fun H6 s6=>?_⟩
     refine⟨rfl,_,rfl,yH (fun hne=>?_) (fun he=>?_)⟩
     ·refine⟨_,rfl,q (some (f'+i)) _ ((s4.trans s5).trans s6) ⟨by omega,by omega,hj,fun z=>hne (by rw[z.2])⟩⟩
     ·refine⟨rfl,(s4.trans s5).trans s6,?_⟩
      injection he with he
    ·rintro σ' H'' ⟨rfl,s5,hsm⟩
     refine⟨_,rfl,s5,fun j j1 j2=>?_⟩
     by_cases c:j<f'+i
     ·exact hj j j1 c
     ·have:j=f'+i:=by omega
      subst this
      exact⟨hcnt,hsm⟩
  ·rintro σ H3 ⟨v,rfl,s3,hj⟩
   exact q none _ s3 (M6.zhI hma hub hfr.2 fun j j1 j2=>hj j j1 (by omega))
end
def we(K:PySem.W.Frag):Sp:=fun vs H Q _=>∃(p:Addr) (F:Addr→Prop) (S:Sh) (j:Str),vs = [.ref p,.str j]∧zx K H p F S∧∀(l:Addr) (H':Hp) (ks:List Addr),zh H H'→H l=none→H' l=some (.lst (ks.map V.ref))→All2 (IL K H') ks (S.cardsWo j)→Q (.ref l) H'
section
variable {P:Program} {w:World} {K:PySem.W.Frag} {mg:Str→Option Value} {base:Heap}
theorem zdr{f:Addr}{fd:FuncData}(F:Fun K "cards_without" "cards_without" zZ f fd)(T:Txt K mg)(C_Sheet_handed:CanM P w K mg base 1 (zN K "Sheet") "handed" ["self"] (zY K))(C_Sheet_card_of:CanMX P w K mg base 2 (zN K "Sheet") "card_of" ["self","judge"] (yb K)):FnOk P w K mg base CX0 3 f fd ["sheet","judge"] (we K):=by
 refine F.ok zdu (fun vs H Q E h=>?_) (fun cdv A outer s H vs Q E hr h=>?_)
 ·obtain⟨p,F,S,j,rfl,_⟩:=h
  rfl
 ·obtain⟨p,F,S,j,rfl,hSh,q⟩:=h
  refine⟨_,(ze (zo (zU (show CompScope (zc zZ) ["sheet","judge"] "other" ["sheet","judge"] [0,1] _ from⟨rfl,by decide +kernel,by decide +kernel,rfl,by decide +kernel,rfl,by decide +kernel,by decide +kernel⟩) rfl (zX (ye C_Sheet_handed T.cl_Sheet (hr.mono (by decide)) (pv 0))) (fun _ _ _ _ _=>(zbc (zr wC (pv 0) (pv 2) (zv _)))) (fun _ _ _ _ _=>(zaj C_Sheet_card_of T.cl_Sheet zdG (hr.mono (by decide)) (pv 1) (za (pv 0) zb)))))),?_⟩
  have hln:=zw
  have h15:=hSh.ok.p15
  obtain⟨dx,b1,b2,b3,d,hip⟩:=hSh.ins
  refine⟨_,rfl,p,dx,_,rfl,hip,rfl,p,F,S,rfl,hSh.shape,h15,fun a H1 s1 f1 e1=>?_⟩
  have hl2:S.handed.length≤15:=Nat.le_trans (List.length_filter_le _ _) h15
  refine⟨a,rfl,⟨_,SqL.of e1⟩,?_⟩
  refine wF (xs:=S.handed.map V.str) (fun i ys H2=>∃ks:List Addr,ys=ks.map V.ref∧zh H1 H2∧All2 (IL K H2) ks (((S.handed.take i).filter fun i => !decide (i=j)).map fun i=>(S.card i).getD [])) ⟨[],rfl,zh.refl _,.nil⟩ ?_ (by rw[List.length_map];omega) ?_ ?_
  ·rintro i ys H2 hi ⟨ks,rfl,s2,r2⟩
   refine⟨s2.seq (SqL.of e1),?_⟩
   have h3:=r2.length
   have h4:=List.length_filter_le (fun i => !decide (i=j)) (S.handed.take i)
   rw[List.length_map] at h3
   rw[List.length_take] at h4
   rw[List.length_map]
   omega
  ·rintro i x ys H2 hx ⟨ks,rfl,s2,r2⟩
   obtain⟨hi,rfl⟩:=zaK hx
   have hm:=List.mem_filter.mp (show S.handed.getD i "" ∈ S.panel.filter fun j=>(S.card j).isSome from zaJ hi)
   have s12:=s1.trans s2
   refine⟨_,rfl,_,rfl,rfl,_,rfl,yH (fun hne=>?_) (fun he=>?_)⟩
   ·have hne:¬S.handed.getD i "" = j:=fun z=>hne (by rw[z])
    cases e:S.card (S.handed.getD i "")with
    | none=>rw[e] at hm;exact absurd hm.2 Bool.false_ne_true
    | some c =>
      refine⟨_,rfl,p,dx,_,rfl,s12 _ _ hip,rfl,_,rfl,p,F,S,_,rfl,hSh.same s12,fun hj=>absurd hm.1 hj,(fun _ z=>by rw[e] at z;cases z),fun c' e' l H3 s3 f3 e3=>?_⟩
      rw[e] at e'
      cases e'
      refine⟨ks ++ [l],by rw[List.map_append];rfl,s2.trans s3,?_⟩
      rw[yf hi,List.filter_append,List.filter_cons,if_pos (by rw[decide_eq_false hne];rfl),List.map_append]
      refine(r2.imp fun _ _=>IL.stays K _ _ _ _ s3).snoc ?_
      show IL K H3 l ((S.card (S.handed.getD i "")).getD [])
      rw[e]
      exact SqL.of e3
   ·have he:S.handed.getD i "" = j:=by injection he
    refine⟨ks,rfl,s2,?_⟩
    rw[yf hi,List.filter_append,List.filter_cons,if_neg (by rw[decide_eq_true he];decide),List.filter_nil,List.append_nil]
    exact r2
  ·rintro ys H2 ⟨ks,rfl,s2,r2⟩ l hl
   rw[List.length_map,List.take_length] at r2
   have s12:=s1.trans s2
   exact q l _ ks (s12.newT hl) (s12.free hl) zf (r2.imp fun _ _=>IL.stays K _ _ _ _ (zh.new hl))
end
def zaR(K:PySem.W.Frag):Sp:=fun vs H Q _=>∃(a:Addr) (ts:List Str),vs = [.ref a]∧SqL K H a (ts.map V.str)∧ts.length<4000∧(∀z∈ts,z.length≤1000)∧∀H',zh H H'→Q (.bl (M2.zb9 ts)) H'
section
variable {P:Program} {w:World} {K:PySem.W.Frag} {mg:Str→Option Value} {base:Heap}
theorem zeI{f:Addr}{fd:FuncData}(F:Fun K "good_judges" "good_judges" yu f fd)(T:Txt K mg)(C_good_name:Can P w K mg base 2 "good_name" ["judge"] (zbJ K))(C_good_length:Can P w K mg base 1 "good_length" ["things","most"] (yZ K))(C_all_unlike:Can P w K mg base 1 "all_unlike" ["things"] (zad K)):FnOk P w K mg base CX0 3 f fd ["judges"] (zaR K):=by
 refine F.ok zd5 (fun vs H Q E h=>?_) (fun cdv A outer s H vs Q E hr h=>?_)
 ·obtain⟨a,ts,rfl,_⟩:=h
  rfl
 ·obtain⟨a,ts,rfl,hS,hz,ht,q⟩:=h
  refine⟨_,(ze (zo (zb6 (zi C_good_length (hr.mono (by decide)) rfl (za (pv 0) (za (zcf T.c_MOST_JUDGES rfl) zb))) (zb6 (zi C_all_unlike (hr.mono (by decide)) rfl (za (pv 0) zb)) (zd0 (zl (zes rfl) (by rfl) T.b_all PyProof.Rows.boot_all (za (zU (show CompScope (zc yu) ["judges"] "judge" [] [] _ from⟨rfl,by decide +kernel,by decide +kernel,rfl,by decide +kernel,rfl,by decide +kernel,by decide +kernel⟩) rfl (zX (pv 0)) (fun _ _ _ _ _=>wo) (fun _ _ _ _ _=>(zi C_good_name (hr.mono (by decide)) rfl (za (pv 0) zb)))) zb))))))),?_⟩
  refine⟨_,rfl,_,_,_,rfl,.inl ⟨_,hS,rfl⟩,_,rfl,?_⟩
  rw[List.length_map]
  unfold M2.zb9 at q
  refine zgy (fun h1=>?_) (fun h1=>?_)
  ·rw[h1,Bool.true_and] at q
   refine⟨_,rfl,a,rfl,.inr ⟨ts,hS,hz,_,rfl,wS (fun h2=>?_) (fun h2=>?_)⟩⟩
   ·rw[decide_eq_true h2,Bool.true_and] at q
    refine⟨_,rfl,a,rfl,⟨_,hS⟩,?_⟩
    refine yq (xs:=ts.map V.str) (fun i ys H2=>zh H H2∧ys=((ts.take i).map M2.zdE).map V.bl) ⟨zh.refl _,rfl⟩ ?_ (by rw[List.length_map];have:=zw;omega) ?_ ?_
    ·rintro i ys H2 hi ⟨s2,rfl⟩
     exact⟨s2.seq hS,by simp only[List.length_map,List.length_take];omega⟩
    ·rintro i x ys H2 hx ⟨s2,rfl⟩
     obtain⟨hi,rfl⟩:=zaK hx
     refine⟨_,rfl,_,rfl,ht _ (zaJ hi),fun H3 s3=>⟨s2.trans s3,?_⟩⟩
     rw[yf hi,List.map_append,List.map_append]
     rfl
    ·rintro ys H2 ⟨s2,rfl⟩ l hl
     rw[List.length_map,List.take_length]
     exact⟨l,_,rfl,SqL.new,q _ (s2.newT hl)⟩
   ·rw[decide_eq_false h2,Bool.false_and] at q
    exact q _ (zh.refl _)
  ·rw[h1,Bool.false_and] at q
   exact q _ (zh.refl _)
end
def zbG(K:PySem.W.Frag):Sp:=fun vs H Q _=>∃(a b:Addr) (ns us:List Int) (st m y md:Int),vs = [.ref a,.int st,.ref b,.int m,.int y,.int md]∧SqL K H a (ns.map V.int)∧SqL K H b (us.map V.int)∧0≤st∧0≤m∧m≤1000∧us ≠ []∧us.length≤1000∧∀(l:Addr) (H':Hp) (ls:List Addr) (cs:List (List Int)),zh H H'→H l=none→H' l=some (.lst (ls.map V.ref))→All2 (fun l c=>H' l=some (.lst (c.map V.int))) ls cs→cs.length=m.toNat→(∀d∈cs,d = []∨d.Perm us)→Q (.ref l) H'
section
variable {P:Program} {w:World} {K:PySem.W.Frag} {mg:Str→Option Value} {base:Heap}
theorem zfP{f:Addr}{fd:FuncData}(F:Fun K "_law_panel" "_law_panel" wE f fd)(T:Txt K mg)(C_law_at:Can P w K mg base 1 "_law_at" ["_law_script","_law_k"] (zcm K))(C_law_card:Can P w K mg base 2 "_law_card" ["_law_cell","_law_couples_here","_law_style"] (za3 K)):FnOk P w K mg base CX0 3 f fd ["_law_script","_law_start","_law_couples_here","_law_many_here","_law_style","_law_mode"] (zbG K):=by
 refine F.ok zaz (fun vs H Q E h=>?_) (fun cdv A outer s H vs Q E hr h=>?_)
 ·obtain⟨a,b,ns,us,st,m,y,md,rfl,_⟩:=h
  rfl
 ·obtain⟨a,b,ns,us,st,m,y,md,rfl,hA,hB,h0,m0,m1,hne,hz,q⟩:=h
  refine⟨_,(zd (zz (i:=6) zaz.nd rfl (Or.inl rfl) (wz zb))
   (zd (zbC PassesOwn.never rfl (yC rfl T.b_range (za (pv 3) zb)) (wb (i:=7) zaz.nd rfl (Or.inl rfl))
     (zd (zz (i:=8) zaz.nd rfl (Or.inl rfl) (zi C_law_at (hr.mono (by decide)) rfl (za (pv 0) (za (zD yR (pv 1) (pv 7)) zb))))
   (ze (zG (PW.pt (pw_and (zr zb3 (zD yY (pv 8) zg) zg (zv _)) (zil (zr wC (pv 5) zg (zv _))))) (ze (yT (zb4 PySem.F.plainAttrs_list PySem.F.slot_list_append PySem.F.type_list_append zco (pv 6) (za (wz zb) zb)))) (ze (yT (zb4 PySem.F.plainAttrs_list PySem.F.slot_list_append PySem.F.type_list_append zco (pv 6) (za (zi C_law_card (hr.mono (by decide)) rfl (za (zD zbE (pv 8) zg) (za (pv 2) (za (pv 4) zb)))) zb))))))))
   (ze (zo (pv 6))))),?_⟩
  have hln:=zw
  refine⟨by decide,fun p0 hp0=>?_⟩
  refine⟨_,rfl,m,rfl,by omega,by omega,zac (fun i σ H2=>∃(v7 v8:Option V) (ls:List Addr) (cs:List (List Int)),σ = [some (.ref a),some (.int st),some (.ref b),some (.int m),some (.int y),some (.int md),some (.ref p0),v7,v8]∧zh H H2∧H2 p0=some (.lst (ls.map V.ref))∧All2 (fun l d=>H2 l=some (.lst (d.map V.int))∧l≠p0) ls cs∧cs.length=i∧∀d∈cs,d = []∨d.Perm us) ⟨_,_,[],[],rfl,zh.new hp0,zf,.nil,rfl,by simp⟩ ?_ ?_⟩
  ·rintro i σ H2 hi ⟨v7,v8,ls,cs,rfl,s2,e2,r2,hl,hd⟩
   have hi:i<1000:=by omega
   refine⟨_,rfl,_,rfl,_,rfl,_,_,rfl,rfl,a,ns,_,rfl,s2.seq hA,by omega,?_⟩
   dsimp only
   generalize ns.getD (st+(0+(i:Int))).toNat 0=cell
   have go:∀(H3:Hp) (l3:Addr) (d:List Int),zh H2 H3→H2 l3=none→H3 l3=some (.lst (d.map V.int))→(d = []∨d.Perm us)→(zh H (upd H3 p0 (.lst (ls.map V.ref ++ [.ref l3])))∧upd H3 p0 (.lst (ls.map V.ref ++ [.ref l3])) p0=some (.lst ((ls ++ [l3]).map V.ref))∧All2 (fun l d=>upd H3 p0 (.lst (ls.map V.ref ++ [.ref l3])) l=some (.lst (d.map V.int))∧l≠p0) (ls ++ [l3]) (cs ++ [d])∧(cs ++ [d]).length=i+1∧∀e∈cs ++ [d],e = []∨e.Perm us):=fun H3 l3 d s3 f3 e3 h3=>by
    have n3:l3≠p0:=fun z=>by rw[z,e2] at f3;cases f3
    refine⟨(s2.trans s3).put hp0,zg7 ls l3,?_,by rw[List.length_append,hl];rfl,fun e he=>?_⟩
    ·refine All2.snoc (r2.imp fun l d h=>⟨by rw[zj h.2];exact s3 _ _ h.1,h.2⟩) ⟨by rw[zj n3];exact e3,n3⟩
    ·rcases List.mem_append.mp he with h | h
     ·exact hd e h
     ·rw[List.mem_singleton.mp h];exact h3
   have hll:=r2.length
   refine⟨_,rfl,_,_,rfl,rfl,(by show(0:Int)<6;decide),rfl,_,rfl,wS (fun _=>?_) (fun _=>zaT ?_)⟩
   ·refine⟨_,rfl,rfl,_,rfl,yH (fun _=>?_) (fun _=>?_)⟩
    ·refine⟨_,rfl,.inl ⟨rfl,_,SqL.of e2⟩,by decide,fun p3 hp3=>?_⟩
     have s3:=zh.new (o:=.lst []) hp3
     refine⟨p0,_,_,rfl,rfl,s3 _ _ e2,by rw[List.length_map];omega,?_⟩
     obtain⟨g1,g2,g3,g4,g5⟩:=go _ p3 [] s3 hp3 zf (.inl rfl)
     exact⟨_,_,_,_,rfl,g1,g2,g3,g4,g5⟩
    ·refine⟨_,rfl,.inl ⟨rfl,_,SqL.of e2⟩,_,rfl,_,_,rfl,rfl,⟨by decide,by decide⟩,_,rfl,_,rfl,_,b,us,_,rfl,s2.seq hB,hne,hz,fun l3 H3 d s3 f3 e3 pd=>?_⟩
     refine⟨p0,_,_,rfl,rfl,s3 _ _ e2,by rw[List.length_map];omega,?_⟩
     obtain⟨g1,g2,g3,g4,g5⟩:=go H3 l3 d s3 f3 e3 (.inr pd)
     exact⟨_,_,_,_,rfl,g1,g2,g3,g4,g5⟩
   ·refine⟨_,rfl,.inl ⟨rfl,_,SqL.of e2⟩,_,rfl,_,_,rfl,rfl,⟨by decide,by decide⟩,_,rfl,_,rfl,_,b,us,_,rfl,s2.seq hB,hne,hz,fun l3 H3 d s3 f3 e3 pd=>?_⟩
    refine⟨p0,_,_,rfl,rfl,s3 _ _ e2,by rw[List.length_map];omega,?_⟩
    obtain⟨g1,g2,g3,g4,g5⟩:=go H3 l3 d s3 f3 e3 (.inr pd)
    exact⟨_,_,_,_,rfl,g1,g2,g3,g4,g5⟩
  ·rintro σ H2 ⟨v7,v8,ls,cs,rfl,s2,e2,r2,hl,hd⟩
   exact⟨_,rfl,q p0 _ ls cs s2 hp0 e2 (r2.imp fun _ _ h=>h.1) hl hd⟩
end
def wO(K:PySem.W.Frag):Sp:=fun vs H Q _=>∃(a b c:Addr) (ps os:List Int),vs = [.ref a,.ref b,.ref c]∧SqL K H a (ps.map V.int)∧SqL K H b ((os.map fun k=>ps.getD k.toNat 0).map V.int)∧SqL K H c (os.map V.int)∧(∀k∈os,0≤k∧k<ps.length)∧ps.length=os.length∧ps.length≤1000∧(1:Int)∈ps∧∀H',zh H H'→Q (.bl true) H'
section
variable {P:Program} {w:World} {K:PySem.W.Frag} {mg:Str→Option Value} {base:Heap}
theorem zez{f:Addr}{fd:FuncData}(F:Fun K "_law_follows" "_law_follows" yr f fd)(T:Txt K mg)(C_law_same:Can P w K mg base 2 "_law_same" ["_law_found","_law_due"] (zb1 K)):FnOk P w K mg base CX0 3 f fd ["_law_found","_law_beside","_law_order"] (wO K):=by
 refine F.ok zex (fun vs H Q E h=>?_) (fun cdv A outer s H vs Q E hr h=>?_)
 ·obtain⟨a,b,c,ps,os,rfl,_⟩:=h
  rfl
 ·obtain⟨a,b,c,ps,os,rfl,hA,hB,hC,ho,hl,hz,h1,q⟩:=h
  refine⟨_,(zd (zG (PW.pt (zau (yt (yc (zl yx (by rfl) T.b_isinstance PyProof.Rows.boot_isinstance (za (pv 0) (za (yV (v:=V.ty "list") rfl T.b_list PyProof.Rows.boot_list rfl) zb))))) (zau (yt (yc (zl yx (by rfl) T.b_isinstance PyProof.Rows.boot_isinstance (za (pv 1) (za (yV (v:=V.ty "list") rfl T.b_list PyProof.Rows.boot_list rfl) zb))))) (zaF (zr wC (zl zk (by rfl) T.b_len PySem.boot_len (za (pv 0) zb)) (zl zk (by rfl) T.b_len PySem.boot_len (za (pv 2) zb)) (zv _)))))) (ze (zo wt)) zu)
   (ze (zo (zb6 (zi C_law_same (hr.mono (by decide)) rfl (za (pv 1) (za (zU (show CompScope (zc yr) ["_law_found","_law_beside","_law_order"] "_law_k" ["_law_found"] [0] _ from⟨rfl,by decide +kernel,by decide +kernel,rfl,by decide +kernel,rfl,by decide +kernel,by decide +kernel⟩) rfl (zX (pv 2)) (fun _ _ _ _ _=>wo) (fun _ _ _ _ _=>(zB (yD (K:=K) rfl) (pv 1) (pv 0) (fun _ _=>rfl)))) zb))) (zb6 (zi C_law_same (hr.mono (by decide)) rfl (za (pv 0) (za (yk zO (by rfl) T.b_list PyProof.Rows.boot_list (za (pv 0) zb)) zb))) (zd0 (zcl zfe zg (pv 0) (by first | exact zv _ | rfl)))))))),?_⟩
  have hln:=zw
  refine⟨_,rfl,_,_,rfl,.yes hA,_,rfl,zaT ?_⟩
  refine⟨_,rfl,_,_,rfl,.yes hB,_,rfl,zaT ?_⟩
  refine⟨_,rfl,a,_,rfl,.inl hA,_,rfl,c,_,rfl,.inl hC,rfl,_,rfl,?_⟩
  rw[List.length_map,List.length_map]
  refine yH (fun hne=>absurd (by rw[hl]) hne) (fun _=>?_)
  refine⟨_,rfl,_,rfl,c,rfl,⟨_,hC⟩,?_⟩
  refine zfh (f:=fun k=>ps.getD k.toNat 0) hC (by omega) (fun x H' R hx s' h=>?_) fun H1 s1=>?_
  ·exact⟨_,rfl,_,rfl,a,_,_,_,rfl,rfl,s'.seq hA,zbk (ho x hx).1 (ho x hx).2,h H' (zh.refl _)⟩
  intro l2 hl2
  have s2:=s1.newT (o:=.lst ((os.map fun k=>ps.getD k.toNat 0).map V.int)) hl2
  refine⟨b,l2,_,_,rfl,s2.seq hB,SqL.new,by rw[List.length_map];omega,?_⟩
  rw[decide_eq_true rfl]
  generalize hH2:upd H1 l2 _=H2 at s2 ⊢
  refine⟨_,rfl,zfC ?_⟩
  refine⟨_,rfl,_,rfl,a,_,rfl,.inl (s2.seq hA),fun l3 hl3=>?_⟩
  have s3:=s2.newT (o:=.lst (ps.map V.int)) hl3
  refine⟨a,l3,_,_,rfl,s3.seq hA,SqL.new,by omega,?_⟩
  rw[decide_eq_true rfl]
  refine⟨_,rfl,zfC ?_⟩
  refine⟨_,rfl,a,_,rfl,.inl (s3.seq hA),rfl,zP _,?_⟩
  rw[show(inV (V.int 1) (ps.map V.int))=decide ((1:Int)∈ps)from zgJ ..,decide_eq_true h1]
  exact q _ s3
end
def zbh(K:PySem.W.Frag):Sp:=fun vs H Q E=>∃(x dx a b:Addr) (us:List Int) (ts:List Str),vs = [.ref x,.ref a,.ref b]∧H x=some (.ins (zN K "Sheet") dx [])∧SqL K H a (us.map V.int)∧us.length<4000∧SqL K H b (ts.map V.str)∧ts.length<4000∧(∀z∈ts,z.length≤1000) ∧
 (M1.zbq us=false→∀C H',zbA K "BadCouples" C→zh H H'→E (.ref C) none H')∧(M1.zbq us=true→M2.zb9 ts=false→∀C H',zbA K "BadJudges" C→zh H H'→E (.ref C) none H') ∧
 (M1.zbq us=true→M2.zb9 ts=true→∀H' F,zx K H' x F (Sh.new us ts)→(∀b o,H b=some o→b≠x→H' b=some o∧¬F b)→Q .non H')
section
variable {P:Program} {w:World} {K:PySem.W.Frag} {mg:Str→Option Value} {base:Heap}
theorem zeX{f:Addr}{fd:FuncData}(F:Fun K "__init__" "Sheet.__init__" wl f fd)(T:Txt K mg)(C_good_couples:Can P w K mg base 2 "good_couples" ["couples"] (zar K))(C_good_judges:Can P w K mg base 3 "good_judges" ["judges"] (zaR K)):FnOk P w K mg base (CX1 P w) 4 f fd ["self","couples","judges"] (zbh K):=by
 obtain⟨c_BadCouples,n_BadCouples,m_BadCouples,x_BadCouples⟩:=T.x_BadCouples
 obtain⟨c_BadJudges,n_BadJudges,m_BadJudges,x_BadJudges⟩:=T.x_BadJudges
 refine F.okX zeW (fun vs H Q E h=>?_) (fun X W cdv A outer s H vs Q E hX hW fl md hr h=>?_)
 ·obtain⟨x,dx,a,b,us,ts,rfl,_⟩:=h
  rfl
 ·obtain⟨x,dx,a,b,us,ts,rfl,hx,hA,hzA,hB,hzB,hzz,qC,qJ,q⟩:=h
  subst hX
  refine⟨_,(zd (zG (yt (yc (zi C_good_couples (hr.mono (by decide)) rfl (za (pv 1) zb)))) (ze (zao rfl md rfl m_BadCouples x_BadCouples (za y9 zb))) zu)
   (zd (zG (yt (yc (zi C_good_judges (hr.mono (by decide)) rfl (za (pv 2) zb)))) (ze (zao rfl md rfl m_BadJudges x_BadJudges (za y9 zb))) zu)
   (zd (zcF (pv 0) (yk zO (by rfl) T.b_list PyProof.Rows.boot_list (za (pv 1) zb)) rfl)
   (zd (zcF (pv 0) (wz zb) rfl)
   (zd (zcF (pv 0) (yk zO (by rfl) T.b_list PyProof.Rows.boot_list (za (pv 2) zb)) rfl)
   (zd (zcF (pv 0) pe_dnewK rfl)
   (zd (zcF (pv 0) zg rfl)
   (ze (zcF (pv 0) wt rfl))))))))),?_⟩
  refine⟨_,rfl,a,us,rfl,hA,hzA,fun H1 s1=>⟨_,rfl,?_⟩⟩
  cases hg:M1.zbq us with
  | false=>exact⟨(by show 1≤sizeLine;decide),by rw[hW];exact qC hg _ _ n_BadCouples s1⟩
  | true =>
    refine⟨_,rfl,b,ts,rfl,s1.seq hB,hzB,hzz,fun H2 s2=>⟨_,rfl,?_⟩⟩
    have s12:=s1.trans s2
    cases hj:M2.zb9 ts with
    | false=>exact⟨(by show 1≤sizeLine;decide),by rw[hW];exact qJ hg hj _ _ n_BadJudges s12⟩
    | true =>
      have x2:=s12 _ _ hx
      have k2:∀c o,H c=some o→c≠x→H2 c=some o:=fun c o e _=>s12 c o e
      refine⟨_,rfl,a,_,rfl,.inl (s12.seq hA),fun l1 hl1=>?_⟩
      have f1:=s12.free hl1
      obtain⟨x3,e1,n1,k3⟩:=zc6 (o:=.lst (us.map V.int)) (u:=.ins (zN K "Sheet") dx [("standing",.ref l1)]) x2 hl1
      refine⟨_,rfl,x,_,dx,_,rfl,(by rw[zj (zq x2 hl1)];exact x2),T.cl_Sheet,T.n_Sheet_standing,(by decide),?_⟩
      rw[pf1]
      generalize hH3:upd (upd H2 l1 _) x _=H3 at x3 e1 k3 ⊢
      refine⟨(by show 0≤sizeLine;decide),fun l2 hl2=>?_⟩
      obtain⟨x4,e2,n2,k4⟩:=zc6 (o:=.lst []) (u:=.ins (zN K "Sheet") dx [("standing",.ref l1),("struck_so_far",.ref l2)]) x3 hl2
      refine⟨_,rfl,x,_,dx,_,rfl,(by rw[zj (zq x3 hl2)];exact x3),T.cl_Sheet,T.n_Sheet_struck_so_far,(by show 1<1000;decide),?_⟩
      rw[pf2]
      generalize hH4:upd (upd H3 l2 _) x _=H4 at x4 e2 k4 ⊢
      have k24:∀c o,H c=some o→c≠x→H4 c=some o:=fun c o e n=>k4 c o (k3 c o (k2 c o e n) n) n
      have hB4:SqL K H4 b (ts.map V.str):=by
       rcases hB with(e | ⟨o,e⟩) | e
       ·exact .inl (.inl (k24 _ _ e (zaw e hx (by intro z;cases z))))
       ·exact .inl (.inr ⟨o,k24 _ _ e (zaw e hx (by intro z;cases z))⟩)
       ·exact .inr e
      refine⟨_,rfl,b,_,rfl,.inl hB4,fun l3 hl3=>?_⟩
      obtain⟨x5,e3,n3,k5⟩:=zc6 (o:=.lst (ts.map V.str)) (u:=.ins (zN K "Sheet") dx [("standing",.ref l1),("struck_so_far",.ref l2),("panel",.ref l3)]) x4 hl3
      refine⟨_,rfl,x,_,dx,_,rfl,(by rw[zj (zq x4 hl3)];exact x4),T.cl_Sheet,T.n_Sheet_panel,(by show 2<1000;decide),?_⟩
      rw[pf3]
      generalize hH5:upd (upd H4 l3 _) x _=H5 at x5 e3 k5 ⊢
      intro d hd
      obtain⟨x6,e4,n4,k6⟩:=zc6 (o:=.dK []) (u:=.ins (zN K "Sheet") dx [("standing",.ref l1),("struck_so_far",.ref l2),("panel",.ref l3),("card_by_judge",.ref d)]) x5 hd
      refine⟨_,rfl,x,_,dx,_,rfl,(by rw[zj (zq x5 hd)];exact x5),T.cl_Sheet,T.n_Sheet_card_by_judge,(by show 3<1000;decide),?_⟩
      rw[pf4]
      generalize hH6:upd (upd H5 d _) x _=H6 at x6 e4 k6 ⊢
      refine⟨_,rfl,x,_,dx,_,rfl,x6,T.cl_Sheet,T.n_Sheet_taken_so_far,(by show 4<1000;decide),?_⟩
      rw[pf5]
      refine⟨_,rfl,x,_,dx,_,rfl,zf,T.cl_Sheet,T.n_Sheet_sealed,(by show 5<1000;decide),?_⟩
      rw[pf6,upd_upd]
      have keep:∀c o,H6 c=some o→c≠x→upd H6 x (.ins (zN K "Sheet") dx (shF l1 l2 l3 d (Sh.new us ts))) c=some o:=fun c o e n=>by rw[zj n];exact e
      have g1:H6 l1=some (.lst (us.map V.int)):=k6 _ _ (k5 _ _ (k4 _ _ e1 n1) n1) n1
      have g2:H6 l2=some (.lst []):=k6 _ _ (k5 _ _ e2 n2) n2
      have g3:H6 l3=some (.lst (ts.map V.str)):=k6 _ _ e3 n3
      refine q hg hj (upd H6 x (.ins (zN K "Sheet") dx (shF l1 l2 l3 d (Sh.new us ts)))) (fun c=>c=x∨c=l1∨c=l2∨c=l3∨c=d) ⟨dx,l1,l2,l3,d,[],?_⟩ fun c o e n=>⟨?_,?_⟩
      ·refine⟨⟨zf,keep _ _ g1 n1,keep _ _ g2 n2,keep _ _ g3 n3,keep _ _ e4 n4,Nat.zero_le _,fun _ _=>rfl,(fun _ _ z=>nomatch z),.inl rfl,.inr (.inl rfl),.inr (.inr (.inl rfl)),.inr (.inr (.inr (.inl rfl))),.inr (.inr (.inr (.inr rfl))),?_,?_,?_⟩,Sh.Ok.new hg hj⟩
       ·exact zq e1 hl2
       ·exact fun z=>zq (k4 _ _ (show H3 l1=_ from e1) n1) hl3 (by rw[z] at hl3;rw[e2] at hl3;cases hl3)
       ·rintro c (rfl | rfl | rfl | rfl | rfl)
        ·rw[zf];exact fun z=>nomatch z
        ·rw[keep _ _ g1 n1];exact fun z=>nomatch z
        ·rw[keep _ _ g2 n2];exact fun z=>nomatch z
        ·rw[keep _ _ g3 n3];exact fun z=>nomatch z
        ·rw[keep _ _ e4 n4];exact fun z=>nomatch z
      ·exact keep _ _ (k6 _ _ (k5 _ _ (k24 _ _ e n) n) n) n
      ·have e2':=k2 _ _ e n
       have e3':=k3 _ _ e2' n
       have e4':=k4 _ _ e3' n
       have e5':=k5 _ _ e4' n
       rintro (z | z | z | z | z)
       ·exact n z
       ·rw[z,hl1] at e2';cases e2'
       ·rw[z,hl2] at e3';cases e3'
       ·rw[z,hl3] at e4';cases e4'
       ·rw[z,hd] at e5';cases e5'
end
def zb8(K:PySem.W.Frag):Sp:=fun vs H Q _=>∃(a b:Addr) (ms us:List Int),vs = [.ref a,.ref b]∧SqL K H a (ms.map V.int)∧SqL K H b (us.map V.int)∧ms.length=us.length∧1≤ms.length∧ms.length≤60∧(∀x∈ms,1≤x∧x≤24)∧(∀x∈us,1≤x∧x≤24)∧∀H',zh H H'→Q (.bl (M6.zS ms us 24)) H'
section
variable {P:Program} {w:World} {K:PySem.W.Frag} {mg:Str→Option Value} {base:Heap}
theorem zgH{f:Addr}{fd:FuncData}(F:Fun K "is_ahead" "is_ahead" w5 f fd)(T:Txt K mg)(C_granted:Can P w K mg base 2 "granted" ["marks","number"] (zaQ K))(C_granted_sum:Can P w K mg base 2 "granted_sum" ["marks","number"] (wP K))(C_first_number:Can P w K mg base 2 "first_number" ["marks"] (yL K))(C_unlike_at:Can P w K mg base 3 "unlike_at" ["one","other"] (zaA K)):FnOk P w K mg base CX0 4 f fd ["one","other"] (zb8 K):=by
 refine F.ok zdI (fun vs H Q E h=>?_) (fun cdv A outer s H vs Q E hr h=>?_)
 ·obtain⟨a,b,ms,us,rfl,_⟩:=h
  rfl
 ·obtain⟨a,b,ms,us,rfl,hA,hB,hl,h1,hz,hm,hu,q⟩:=h
  refine⟨_,(zd (zG (zr wC (zi C_first_number (hr.mono (by decide)) rfl (za (pv 0) zb)) (zi C_first_number (hr.mono (by decide)) rfl (za (pv 1) zb)) (zv _)) (ze (zo (zcl zdA (zi C_first_number (hr.mono (by decide)) rfl (za (pv 0) zb)) (zi C_first_number (hr.mono (by decide)) rfl (za (pv 1) zb)) (zv _)))) zu)
   (zd (zz (i:=2) zdI.nd rfl (Or.inl rfl) (zi C_unlike_at (hr.mono (by decide)) rfl (za (pv 0) (za (pv 1) zb))))
   (zd (zG (zr op_isN (pv 2) zd2 (zv _)) (ze (zo wt)) zu)
   (zd (zG (zr wC (zi C_granted (hr.mono (by decide)) rfl (za (pv 0) (za (pv 2) zb))) (zi C_granted (hr.mono (by decide)) rfl (za (pv 1) (za (pv 2) zb))) (zv _)) (ze (zo (zcl op_gt (zi C_granted (hr.mono (by decide)) rfl (za (pv 0) (za (pv 2) zb))) (zi C_granted (hr.mono (by decide)) rfl (za (pv 1) (za (pv 2) zb))) (zv _)))) zu)
   (ze (zo (zcl zdA (zi C_granted_sum (hr.mono (by decide)) rfl (za (pv 0) (za (pv 2) zb))) (zi C_granted_sum (hr.mono (by decide)) rfl (za (pv 1) (za (pv 2) zb))) (zv _)))))))),?_⟩
  have hne:ms ≠ []:=by intro z;rw[z] at h1;simp at h1
  have hne2:us ≠ []:=by intro z;rw[z] at hl;have:ms.length=0:=hl;omega
  refine⟨_,rfl,a,ms,rfl,hA,hne,hz,hm,fun H1 f s1 hf=>?_⟩
  refine⟨_,rfl,b,us,rfl,s1.seq hB,hne2,by omega,hu,fun H2 g s2 hg=>?_⟩
  have fr:=M3.zbu hf 1 24 hm
  have gr:=M3.zbu hg 1 24 hu
  have t2:=s1.trans s2
  refine⟨rfl,_,rfl,yH (fun hfg=>?_) (fun hfg=>?_)⟩
  ·refine⟨_,rfl,a,ms,rfl,t2.seq hA,hne,hz,hm,fun H3 f' s3 hf'=>?_⟩
   have t3:=t2.trans s3
   refine⟨_,rfl,b,us,rfl,t3.seq hB,hne2,by omega,hu,fun H4 g' s4 hg'=>?_⟩
   have ef:=M3.zaX hf' hf
   have eg:=M3.zaX hg' hg
   subst ef eg
   refine⟨_,_,rfl,rfl,?_⟩
   have hfg:f'≠g':=fun z=>hfg (by rw[z])
   have e:decide (f'<g')=M6.zS ms us 24:=by
    by_cases c:f'<g'
    ·rw[decide_eq_true c,M6.ahead_lt hf' hg' c fr.1 fr.2]
    ·rw[decide_eq_false c,M6.ahead_gt hf' hg' (by omega) gr.1 gr.2]
   show Q (.bl (decide (f'<g'))) H4
   rw[e]
   exact q _ (t3.trans s4)
  ·injection hfg with hfg
   subst hfg
   refine⟨_,rfl,_,rfl,a,b,ms,us,f,rfl,t2.seq hA,t2.seq hB,h1,hz,by omega,hm,hu,hf,hg,fun r H3 s3 hr'=>?_⟩
   have t3:=t2.trans s3
   cases r with
   | none =>
     refine⟨_,rfl,rfl,_,rfl,wS (fun _=>?_) (fun z=>absurd rfl z)⟩
     rw[M6.zhA (M6.zfb hf hg hr')] at q
     exact q _ t3
   | some n =>
     refine⟨_,rfl,rfl,_,rfl,wS (fun z=>nomatch z) (fun _=>?_)⟩
     rw[M6.ahead_at hf hg fr.1 hr'] at q
     refine⟨_,rfl,_,rfl,a,ms,_,rfl,t3.seq hA,by omega,fun H4 s4=>?_⟩
     refine⟨_,rfl,_,rfl,b,us,_,rfl,(t3.trans s4).seq hB,by omega,fun H5 s5=>?_⟩
     have t5:=(t3.trans s4).trans s5
     refine⟨rfl,_,rfl,yH (fun hc=>?_) (fun hc=>?_)⟩
     ·rw[if_neg fun z=>hc (by rw[z])] at q
      refine⟨_,rfl,_,rfl,a,ms,_,rfl,t5.seq hA,by omega,fun H6 s6=>?_⟩
      refine⟨_,rfl,_,rfl,b,us,_,rfl,(t5.trans s6).seq hB,by omega,fun H7 s7=>?_⟩
      exact⟨_,_,rfl,rfl,q _ ((t5.trans s6).trans s7)⟩
     ·injection hc with hc
      rw[if_pos hc] at q
      refine⟨_,rfl,_,rfl,a,ms,_,rfl,t5.seq hA,by omega,fun H6 s6=>?_⟩
      refine⟨_,rfl,_,rfl,b,us,_,rfl,(t5.trans s6).seq hB,by omega,fun H7 s7=>?_⟩
      exact⟨_,_,rfl,rfl,q _ ((t5.trans s6).trans s7)⟩
end
def zbi(K:PySem.W.Frag):Sp:=fun vs H Q _=>∃(a b:Addr) (ms us:List Int),vs = [.ref a,.ref b]∧SqL K H a (ms.map V.int)∧SqL K H b (us.map V.int)∧ms.length=us.length∧1≤ms.length∧ms.length≤60∧(∀x∈ms,1≤x∧x≤24)∧(∀x∈us,1≤x∧x≤24)∧∀r,M6.yS ms us 24 r→∀(x:V) (H':Hp),zh H H'→Told K H' x r→Q x H'
section
variable {P:Program} {w:World} {K:PySem.W.Frag} {mg:Str→Option Value} {base:Heap}
theorem zeZ{f:Addr}{fd:FuncData}(F:Fun K "parting_of" "parting_of" wg f fd)(T:Txt K mg)(C_granted:Can P w K mg base 2 "granted" ["marks","number"] (zaQ K))(C_first_number:Can P w K mg base 2 "first_number" ["marks"] (yL K))(C_unlike_at:Can P w K mg base 3 "unlike_at" ["one","other"] (zaA K)):FnOk P w K mg base CX0 4 f fd ["one","other"] (zbi K):=by
 refine F.ok zcv (fun vs H Q E h=>?_) (fun cdv A outer s H vs Q E hr h=>?_)
 ·obtain⟨a,b,ms,us,rfl,_⟩:=h
  rfl
 ·obtain⟨a,b,ms,us,rfl,hA,hB,hl,h1,hz,hm,hu,q⟩:=h
  refine⟨_,(zd (zG (zr wC (zi C_first_number (hr.mono (by decide)) rfl (za (pv 0) zb)) (zi C_first_number (hr.mono (by decide)) rfl (za (pv 1) zb)) (zv _)) (ze (zo (zdt (za (zl (call_min2 rfl) (by rfl) T.b_min PyProof.Rows.boot_min (za (zi C_first_number (hr.mono (by decide)) rfl (za (pv 0) zb)) (za (zi C_first_number (hr.mono (by decide)) rfl (za (pv 1) zb)) zb))) (za y9 zb))))) zu)
   (zd (zz (i:=2) zcv.nd rfl (Or.inl rfl) (zi C_unlike_at (hr.mono (by decide)) rfl (za (pv 0) (za (pv 1) zb))))
   (zd (zG (zr op_isN (pv 2) zd2 (zv _)) (ze (zo zd2)) zu)
   (zd (zG (zr wC (zi C_granted (hr.mono (by decide)) rfl (za (pv 0) (za (pv 2) zb))) (zi C_granted (hr.mono (by decide)) rfl (za (pv 1) (za (pv 2) zb))) (zv _)) (ze (zo (zdt (za (pv 2) (za y9 zb))))) zu)
   (ze (zo (zdt (za (pv 2) (za y9 zb))))))))),?_⟩
  have hne:ms ≠ []:=by intro z;rw[z] at h1;simp at h1
  have hne2:us ≠ []:=by intro z;rw[z] at hl;have:ms.length=0:=hl;omega
  refine⟨_,rfl,a,ms,rfl,hA,hne,hz,hm,fun H1 f s1 hf=>?_⟩
  refine⟨_,rfl,b,us,rfl,s1.seq hB,hne2,by omega,hu,fun H2 g s2 hg=>?_⟩
  have fr:=M3.zbu hf 1 24 hm
  have gr:=M3.zbu hg 1 24 hu
  have t2:=s1.trans s2
  refine⟨rfl,_,rfl,yH (fun hfg=>?_) (fun hfg=>?_)⟩
  ·refine⟨_,rfl,a,ms,rfl,t2.seq hA,hne,hz,hm,fun H3 f' s3 hf'=>?_⟩
   have t3:=t2.trans s3
   refine⟨_,rfl,b,us,rfl,t3.seq hB,hne2,by omega,hu,fun H4 g' s4 hg'=>?_⟩
   have ef:=M3.zaX hf' hf
   have eg:=M3.zaX hg' hg
   subst ef eg
   refine⟨_,_,rfl,(by show 2≤sizeLine;decide),fun t ht=>?_⟩
   have hfg:f'≠g':=fun z=>hfg (by rw[z])
   by_cases c:g'<f'
   ·rw[if_pos c]
    refine q (some (g'.toNat,"half")) (M6.zid hf' hg' c gr.1 gr.2) _ _ ((t3.trans s4).newT ht) ⟨t,rfl,?_⟩
    have e:((g'.toNat:Nat):Int)=g':=by omega
    dsimp only
    rw[e]
    exact SqT.new
   ·rw[if_neg c]
    refine q (some (f'.toNat,"half")) (M6.zfG hf' hg' (by omega) fr.1 fr.2) _ _ ((t3.trans s4).newT ht) ⟨t,rfl,?_⟩
    have e:((f'.toNat:Nat):Int)=f':=by omega
    dsimp only
    rw[e]
    exact SqT.new
  ·injection hfg with hfg
   subst hfg
   refine⟨_,rfl,_,rfl,a,b,ms,us,f,rfl,t2.seq hA,t2.seq hB,h1,hz,by omega,hm,hu,hf,hg,fun r H3 s3 hr'=>?_⟩
   have t3:=t2.trans s3
   cases r with
   | none =>
     refine⟨_,rfl,rfl,_,rfl,wS (fun _=>?_) (fun z=>absurd rfl z)⟩
     exact q none (M6.zfb hf hg hr') _ _ t3 rfl
   | some n =>
     refine⟨_,rfl,rfl,_,rfl,wS (fun z=>nomatch z) (fun _=>?_)⟩
     have hp:=M6.zfz hf hg fr.1 hr'
     have e:((n.toNat:Nat):Int)=n:=by have:=hr'.1;omega
     refine⟨_,rfl,_,rfl,a,ms,_,rfl,t3.seq hA,by omega,fun H4 s4=>?_⟩
     refine⟨_,rfl,_,rfl,b,us,_,rfl,(t3.trans s4).seq hB,by omega,fun H5 s5=>?_⟩
     have t5:=(t3.trans s4).trans s5
     refine⟨rfl,_,rfl,yH (fun hc=>?_) (fun hc=>?_)⟩
     ·rw[if_neg fun z=>hc (by rw[z])] at hp
      refine⟨_,rfl,(by show 2≤sizeLine;decide),fun t ht=>?_⟩
      refine q _ hp _ _ (t5.newT ht) ⟨t,rfl,?_⟩
      dsimp only
      rw[e]
      exact SqT.new
     ·injection hc with hc
      rw[if_pos hc] at hp
      refine⟨_,rfl,(by show 2≤sizeLine;decide),fun t ht=>?_⟩
      refine q _ hp _ _ (t5.newT ht) ⟨t,rfl,?_⟩
      dsimp only
      rw[e]
      exact SqT.new
end
def zaW(K:PySem.W.Frag):Sp:=fun vs H Q _=>∃(a b:Addr) (rs:List (List Int)) (ms:List Int),vs = [.ref a,.ref b]∧zds K (IL K) H a rs∧SqL K H b (ms.map V.int)∧(∀r∈rs,r.length=ms.length∧∀x∈r,1≤x∧x≤24)∧(∀x∈ms,1≤x∧x≤24)∧1≤ms.length∧ms.length≤60∧rs.length≤1000∧∀H',zh H H'→Q (.int (1+((rs.filter fun r=>M6.zS r ms 24).length:Int))) H'
section
variable {P:Program} {w:World} {K:PySem.W.Frag} {mg:Str→Option Value} {base:Heap}
theorem zek{f:Addr}{fd:FuncData}(F:Fun K "place_among" "place_among" yw f fd)(T:Txt K mg)(C_is_ahead:Can P w K mg base 4 "is_ahead" ["one","other"] (zb8 K)):FnOk P w K mg base CX0 5 f fd ["rows","own"] (zaW K):=by
 refine F.ok zeA (fun vs H Q E h=>?_) (fun cdv A outer s H vs Q E hr h=>?_)
 ·obtain⟨a,b,rs,ms,rfl,_⟩:=h
  rfl
 ·obtain⟨a,b,rs,ms,rfl,⟨ls,hS,hR⟩,hB,hrs,hm,h1,hz,hzr,q⟩:=h
  refine⟨_,(ze (zo (zD yR zg (zl zk (by rfl) T.b_len PySem.boot_len (za (zU (show CompScope (zc yw) ["rows","own"] "marks" ["own"] [1] _ from⟨rfl,by decide +kernel,by decide +kernel,rfl,by decide +kernel,rfl,by decide +kernel,by decide +kernel⟩) rfl (zX (pv 0)) (fun _ _ _ _ _=>(zbc (yc (zi C_is_ahead (hr.mono (by decide)) rfl (za (pv 0) (za (pv 1) zb)))))) (fun _ _ _ _ _=>(pv 0))) zb))))),?_⟩
  have hlen:=hR.length
  refine⟨_,rfl,a,rfl,⟨_,hS⟩,?_⟩
  refine wF (xs:=ls.map V.ref) (fun i ys H2=>zh H H2∧ys.length=((rs.take i).filter fun r=>M6.zS r ms 24).length) ⟨zh.refl _,rfl⟩ ?_ (by rw[List.length_map];have:=zw;omega) ?_ ?_
  ·rintro i ys H2 hi ⟨s2,e2⟩
   refine⟨s2.seq hS,?_⟩
   rw[e2]
   have:=List.length_filter_le (fun r=>M6.zS r ms 24) (rs.take i)
   rw[List.length_take] at this
   omega
  ·rintro i x ys H2 hx ⟨s2,e2⟩
   obtain⟨l,el,rfl⟩:=zby hx
   obtain⟨d,ed,rd⟩:=hR.getL el
   have hd:=hrs d (List.mem_of_getElem? ed)
   refine⟨_,rfl,_,rfl,l,b,d,ms,rfl,s2.seq rd,s2.seq hB,hd.1,by omega,by omega,hd.2,hm,fun H3 s3=>⟨_,rfl,zgy (fun hb=>?_) (fun hb=>?_)⟩⟩
   ·refine⟨_,rfl,s2.trans s3,?_⟩
    rw[List.take_succ,ed,List.filter_append,List.length_append,List.length_append,e2]
    show _=_+(List.filter (fun r=>M6.zS r ms 24) [d]).length
    rw[List.filter_cons,if_pos hb]
    rfl
   ·refine⟨s2.trans s3,?_⟩
    rw[List.take_succ,ed,List.filter_append,List.length_append,e2]
    show _=_+(List.filter (fun r=>M6.zS r ms 24) [d]).length
    rw[List.filter_cons,if_neg (by rw[hb];exact Bool.false_ne_true)]
    rfl
  ·rintro ys H2 ⟨s2,e2⟩ l hl
   rw[List.length_map,hlen,List.take_length] at e2
   refine⟨l,_,rfl,.inl SqL.new,_,_,rfl,rfl,?_⟩
   rw[e2]
   exact q _ (s2.newT hl)
end
def yJ(K:PySem.W.Frag):Sp:=fun vs H Q _=>∃(a b:Addr) (cs:List (List Int)) (us:List Int),vs = [.ref a,.ref b]∧zds K (IL K) H a cs∧SqL K H b (us.map V.int)∧us.Nodup∧(∀d∈cs,d.Perm us)∧1≤cs.length∧cs.length≤15∧1≤us.length∧us.length≤24∧∀(l:Addr) (H':Hp),zh H H'→H l=none→H' l=some (.lst ((M6.places cs us).map V.int))→Q (.ref l) H'
section
variable {P:Program} {w:World} {K:PySem.W.Frag} {mg:Str→Option Value} {base:Heap}
theorem zfV{f:Addr}{fd:FuncData}(F:Fun K "places_of" "places_of" yG f fd)(T:Txt K mg)(C_marks_of:Can P w K mg base 2 "marks_of" ["cards","couple"] (za6 K))(C_place_among:Can P w K mg base 5 "place_among" ["rows","own"] (zaW K)):FnOk P w K mg base CX0 6 f fd ["cards","couples"] (yJ K):=by
 refine F.ok zc0 (fun vs H Q E h=>?_) (fun cdv A outer s H vs Q E hr h=>?_)
 ·obtain⟨a,b,cs,us,rfl,_⟩:=h
  rfl
 ·obtain⟨a,b,cs,us,rfl,hC,hU,hnd,hp,c1,c2,u1,u2,q⟩:=h
  refine⟨_,(zd (zz (i:=2) zc0.nd rfl (Or.inr rfl) (zU (show CompScope (zc yG) ["cards","couples","rows"] "couple" ["cards"] [0] _ from⟨rfl,by decide +kernel,by decide +kernel,rfl,by decide +kernel,rfl,by decide +kernel,by decide +kernel⟩) rfl (zX (pv 1)) (fun _ _ _ _ _=>wo) (fun _ _ _ _ _=>(zi C_marks_of (hr.mono (by decide)) rfl (za (pv 1) (za (pv 0) zb))))))
   (ze (zo (zU (show CompScope (zc yG) ["cards","couples","rows"] "own" ["rows"] [2] _ from⟨rfl,by decide +kernel,by decide +kernel,rfl,by decide +kernel,rfl,by decide +kernel,by decide +kernel⟩) rfl (zX (pv 2)) (fun _ _ _ _ _=>wo) (fun _ _ _ _ _=>(zi C_place_among (hr.mono (by decide)) rfl (za (pv 1) (za (pv 0) zb)))))))),?_⟩
  have hln:=zw
  refine⟨_,rfl,b,rfl,⟨_,hU⟩,?_⟩
  refine yq (xs:=us.map V.int) (fun i ys H2=>∃ks:List Addr,ys=ks.map V.ref∧zh H H2∧All2 (IL K H2) ks ((us.take i).map (M5.zm cs))) ⟨[],rfl,zh.refl _,.nil⟩ ?_ (by rw[List.length_map];omega) ?_ ?_
  ·rintro i ys H2 hi ⟨ks,rfl,s2,r2⟩
   refine⟨s2.seq hU,?_⟩
   have:=r2.length
   rw[List.length_map,List.length_take] at this
   rw[List.length_map]
   omega
  ·rintro i x ys H2 hx ⟨ks,rfl,s2,r2⟩
   obtain⟨hi,rfl⟩:=zah hx
   refine⟨_,rfl,_,rfl,a,cs,_,rfl,hC.same (IL.stays K) s2,by omega,fun d hd=>(hp d hd).mem_iff.mpr (wk hi),fun l H3 s3 f3 e3=>?_⟩
   refine⟨ks ++ [l],by rw[List.map_append];rfl,s2.trans s3,?_⟩
   rw[wX hi,List.map_append]
   exact(r2.imp fun _ _=>IL.stays K _ _ _ _ s3).snoc (show IL K _ l _ from SqL.of e3)
  ·rintro ys H2 ⟨ks,rfl,s2,r2⟩ l hl
   rw[List.length_map,List.take_length] at r2
   generalize hH3:upd H2 l _=H3
   have s23:zh H2 H3:=by rw[← hH3];exact zh.new hl
   have e3:H3 l=some (.lst (ks.map V.ref)):=by rw[← hH3];exact zf
   have r3:=r2.imp fun _ _=>IL.stays K _ _ _ _ s23
   have s3:=s2.trans s23
   have hk:=r3.length
   rw[List.length_map] at hk
   refine⟨_,rfl,l,rfl,⟨_,SqL.of e3⟩,?_⟩
   refine yq (xs:=ks.map V.ref) (fun i ys H4=>zh H3 H4∧ys=((us.take i).map fun c=>1+(((us.map (M5.zm cs)).filter fun r=>M6.zS r (M5.zm cs c) 24).length:Int)).map V.int) ⟨zh.refl _,rfl⟩ ?_ (by rw[List.length_map];omega) ?_ ?_
   ·rintro i ys H4 hi ⟨s4,rfl⟩
    refine⟨s4.seq (SqL.of e3),?_⟩
    rw[List.length_map,List.length_map,List.length_take]
    omega
   ·rintro i x ys H4 hx ⟨s4,rfl⟩
    obtain⟨p,ep,rfl⟩:=zby hx
    obtain⟨m,em,rm⟩:=r3.getL ep
    rw[List.getElem?_map] at em
    cases eu:us[i]? with
    | none=>rw[eu] at em;cases em
    | some c =>
      rw[eu] at em
      cases em
      have hc:=List.mem_of_getElem? eu
      have rng:∀d∈us,(M5.zm cs d).length=cs.length∧∀x∈M5.zm cs d,1≤x∧x≤24:=fun d hd=>⟨M5.wJ cs d,fun x hx=>by have:=M6.wD hp hd x hx;omega⟩
      refine⟨_,rfl,_,rfl,l,p,us.map (M5.zm cs),M5.zm cs c,rfl,⟨ks,s4.seq (SqL.of e3),r3.imp fun _ _=>IL.stays K _ _ _ _ s4⟩,s4.seq rm,fun r hr=>?_,(rng c hc).2,by rw[(rng c hc).1];exact c1,by rw[(rng c hc).1];omega,by rw[List.length_map];omega,fun H5 s5=>⟨s4.trans s5,?_⟩⟩
      ·obtain⟨d,hd,rfl⟩:=List.mem_map.mp hr
       exact⟨by rw[(rng d hd).1,(rng c hc).1],(rng d hd).2⟩
      ·rw[List.take_succ,eu,List.map_append,List.map_append]
       rfl
   ·rintro ys H4 ⟨s4,rfl⟩ p hp'
    rw[List.length_map,hk,List.take_length]
    have st:=s3.trans s4
    refine q p _ (st.newT hp') ?_ ?_
    ·cases e:H p with
     | none=>rfl
     | some u=>have:=st p u e;rw[hp'] at this;cases this
    ·rw[M6.places_24 hp u1 u2]
     exact zf
end
def zbL(K:PySem.W.Frag):Sp:=fun vs H Q _=>∃(a b c:Addr) (us:List Int) (ts:List Str) (cs:List (List Int)),vs = [.ref a,.ref b,.ref c]∧SqL K H a (us.map V.int)∧SqL K H b (ts.map V.str)∧zds K (IL K) H c cs∧M1.zbq us=true∧M2.zb9 ts=true∧cs.length=ts.length∧(∀d∈cs,d = []∨d.Perm us) ∧
 ∀(x:Addr) (H':Hp) (F:Addr→Prop) (S:Sh),zx K H' x F S→zdo (fun _=>False) H F H'→S.couples=us→S.struck = []→S.panel=ts→S.rows=cs→S.taken=(cs.filter fun d => !decide (d = [])).length→S.shut=false→Q (.ref x) H'
section
variable {P:Program} {w:World} {K:PySem.W.Frag} {mg:Str→Option Value} {base:Heap}
theorem zga{f:Addr}{fd:FuncData}(F:Fun K "_law_sheet" "_law_sheet" wI f fd)(T:Txt K mg)(C_Sheet_init:CanK P w K mg base 4 "Sheet" (zN K "Sheet") ["self","couples","judges"] (zbh K))(C_Sheet_hand_in:CanMX P w K mg base 2 (zN K "Sheet") "hand_in" ["self","judge","card"] (wY K)):FnOk P w K mg base CX0 6 f fd ["_law_couples_here","_law_names","_law_cards"] (zbL K):=by
 refine F.ok zbH (fun vs H Q E h=>?_) (fun cdv A outer s H vs Q E hr h=>?_)
 ·obtain⟨a,b,c,us,ts,cs,rfl,_⟩:=h
  rfl
 ·obtain⟨a,b,c,us,ts,cs,rfl,hA,hB,⟨ls,hC,hR⟩,hgc,hgj,hlen,hds,q⟩:=h
  refine⟨_,(zd (zz (i:=3) zbH.nd rfl (Or.inl rfl) (pe_makeX C_Sheet_init zdG (hr.mono (by decide)) rfl (za (yk zO (by rfl) T.b_list PyProof.Rows.boot_list (za (pv 0) zb)) (za (yk zO (by rfl) T.b_list PyProof.Rows.boot_list (za (pv 1) zb)) zb))))
   (zd (zbC PassesOwn.never rfl (yC rfl T.b_range (za (zl zk (by rfl) T.b_len PySem.boot_len (za (pv 1) zb)) zb)) (wb (i:=4) zbH.nd rfl (Or.inl rfl))
     (ze (zG (zr (zd7 hr.units0) (zB zy (pv 2) (pv 4) (fun _ _=>rfl)) (wz zb) (zv _)) (ze (yT (zaj C_Sheet_hand_in T.cl_Sheet zdG (hr.mono (by decide)) (pv 3) (za (zB zy (pv 1) (pv 4) (fun _ _=>rfl)) (za (yk zO (by rfl) T.b_list PyProof.Rows.boot_list (za (zB zy (pv 2) (pv 4) (fun _ _=>rfl)) zb)) zb))))) zu)))
   (ze (zo (pv 3))))),?_⟩
  have hln:=zw
  obtain⟨⟨u1,u24⟩,hun,hur⟩:=(M1.zc9 us).mp hgc
  obtain⟨⟨p1,p15⟩,htn,htg⟩:=(M2.zcn ts).mp hgj
  refine⟨_,rfl,a,_,rfl,.inl hA,fun l3 hl3=>?_⟩
  have s3:=zh.new (o:=.lst (us.map V.int)) hl3
  refine⟨_,rfl,b,_,rfl,.inl (s3.seq hB),fun l4 hl4=>?_⟩
  have s4:=zh.new (o:=.lst (ts.map V.str)) hl4
  intro x dx hx hdx hxd
  have s5:=(zh.new (o:=.own x) hdx).newT (o:=.ins (zN K "Sheet") dx []) (l:=x) (by rw[zj (Ne.symm hxd)];exact hx)
  refine⟨x,dx,l3,l4,us,ts,rfl,zf,SqL.of (s5 _ _ (s4 _ _ zf)),by omega,SqL.of (s5 _ _ zf),by omega,fun z hz=>?_,fun z=>?_,fun _ z=>?_,fun _ _ H5 F hSh hkeep=>⟨rfl,?_⟩⟩
  ·have:=(htg z hz).1;omega
  ·rw[hgc] at z;cases z
  ·rw[hgj] at z;cases z
  have s25:=(s3.trans s4).trans s5
  have hx2:H x=none:=(s3.trans s4).free hx
  have kp:zdo (fun _=>False) H F H5:=fun b o e _=>hkeep b o (s25 _ _ e) (zq e hx2)
  have hB5:=(SqL.none hB).deed kp
  refine⟨_,rfl,b,_,rfl,.inl hB5.sq,_,rfl,by omega,by rw[List.length_map];omega,?_⟩
  rw[List.length_map,show((ts.length:Nat):Int).toNat=ts.length by omega]
  refine zac (fun i σ H6=>∃(v:Option V) (F:Addr→Prop) (S:Sh),σ = [some (.ref a),some (.ref b),some (.ref c),some (.ref x),v]∧zx K H6 x F S∧zdo (fun _=>False) H F H6∧S.couples=us∧S.struck = []∧S.panel=ts∧S.shut=false∧S.taken=((cs.take i).filter fun d => !decide (d = [])).length∧S.rows=cs.take i++(List.range (ts.length - i)).map fun _=>([]:List Int)) ⟨_,F,Sh.new us ts,rfl,hSh,kp,rfl,rfl,rfl,rfl,rfl,?_⟩ ?_ ?_
  ·show ts.map (fun _=>([]:List Int))=_
   rw[List.take_zero,List.nil_append,Nat.sub_zero]
   refine List.ext_getElem (by simp) fun i h1 h2=>?_
   simp
  ·rintro i σ H6 hi ⟨v,F,S,rfl,g1,g2,g3,g4,g5,g6,g7,g8⟩
   obtain⟨m,em,rm⟩:=hR.at (i:=i) (by omega) []
   have hic:i<cs.length:=by omega
   have hC6:=(SqL.none hC).deed g2
   have hB6:=(SqL.none hB).deed g2
   have rm6:=(SqL.none rm).deed g2
   have ei:((0:Int)+(i:Int)).toNat=i:=by omega
   refine⟨_,rfl,_,rfl,c,_,_,_,rfl,rfl,hC6.sq,zgb (by omega) (by rw[ei];exact zaf em),(by show 0≤sizeLine;decide),fun l7 hl7=>?_⟩
   have s7:=zh.new (o:=.lst []) hl7
   refine⟨m,l7,_,[],rfl,rfl,s7.seq rm6.sq,SqL.new,zP _,rfl,_,rfl,?_⟩
   rw[show eqL ((cs.getD i []).map V.int) []=decide (cs.getD i [] = [])from zbr _ []]
   have htk:cs.take (i+1)=cs.take i ++ [cs.getD i []]:=by
    rw[List.take_succ,List.getElem?_eq_getElem hic,List.getD_eq_getElem?_getD,List.getElem?_eq_getElem hic];rfl
   have hrest:(List.range (ts.length - i)).map (fun _=>([]:List Int)) = []::(List.range (ts.length - (i+1))).map fun _=>([]:List Int):=by
    rw[show ts.length - i=(ts.length - (i+1))+1 by omega,List.range_succ_eq_map,List.map_cons,List.map_map];rfl
   refine yH (fun hb=>?_) (fun hb=>?_)
   ·have hpm:(cs.getD i []).Perm us:=(hds _ (by rw[List.getD_eq_getElem?_getD,List.getElem?_eq_getElem hic];exact List.getElem_mem hic)).resolve_left hb
    have hpl:=hpm.length_eq
    obtain⟨dx',b1,b2,b3,d',hip⟩:=(g1.same s7).ins
    refine⟨_,rfl,x,dx',_,rfl,hip,rfl,_,rfl,_,rfl,b,_,_,_,rfl,rfl,s7.seq hB6.sq,zc3 (by omega) (by omega),_,rfl,_,rfl,c,_,_,_,rfl,rfl,s7.seq hC6.sq,zgb (by omega) (by rw[ei];exact zaf em),m,_,rfl,.inl (s7.seq rm6.sq),fun l8 hl8=>?_⟩
    have s8:=zh.new (o:=.lst ((cs.getD i []).map V.int)) hl8
    have hjn:ts.getD i "" ∈ S.panel:=by rw[g5];exact zaJ (by omega)
    have htk2:S.taken<200:=by
     rw[g7]
     have:=List.length_filter_le (fun d => !decide (d = [])) (cs.take i)
     rw[List.length_take] at this
     omega
    have hnr:S.refuse (ts.getD i "") (cs.getD i [])=none:=by
     unfold Sh.refuse
     rw[if_neg (by rw[g6];exact Bool.false_ne_true),if_pos hjn,if_pos (by rw[g3];exact hpm),if_neg (by omega)]
    rw[ei]
    refine⟨x,F,S,_,l8,cs.getD i [],rfl,(g1.same s7).same s8,SqL.new,by omega,(fun e he=>by rw[hnr] at he;cases he),fun _ H9 F' h9 d9=>?_⟩
    refine⟨_,F',S.hand (ts.getD i "") (cs.getD i []),rfl,h9,(g2.trans (zdo.same (s7.trans s8))).trans d9,g3,g4,g5,g6,?_,?_⟩
    ·show S.taken+1=_
     rw[htk,List.filter_append,List.length_append,g7,List.filter_cons,if_pos (by rw[decide_eq_false hb];rfl)]
     rfl
    ·have:=Sh.rows_hand (S:=S) g1.ok.pnd (k:=i) (by rw[g5];omega) (cs.getD i [])
     rw[g5] at this
     rw[this,g8,hrest,htk,List.set_append,if_neg (by rw[List.length_take];omega)]
     rw[show i - (cs.take i).length=0 by rw[List.length_take];omega,List.set_cons_zero,List.append_assoc]
     rfl
   ·refine⟨_,F,S,rfl,g1.same s7,g2.trans (zdo.same s7),g3,g4,g5,g6,?_,?_⟩
    ·rw[htk,List.filter_append,List.length_append,g7,List.filter_cons,if_neg (by rw[decide_eq_true hb];decide)]
     rfl
    ·rw[g8,hrest,htk,hb,List.append_assoc]
     rfl
  ·rintro σ H6 ⟨v,F,S,rfl,g1,g2,g3,g4,g5,g6,g7,g8⟩
   refine⟨_,rfl,q x H6 F S g1 g2 g3 g4 g5 ?_ ?_ g6⟩
   ·rw[g8,Nat.sub_self,← hlen,List.take_length];exact List.append_nil _
   ·rw[g7,← hlen,List.take_length]
end
def zcq(K:PySem.W.Frag):Sp:=fun vs H Q _=>∃(p:Addr) (F:Addr→Prop) (S:Sh),vs = [.ref p]∧zx K H p F S∧1≤S.handed.length∧∀(l:Addr) (H':Hp),zh H H'→H l=none→H' l=some (.lst ((M6.places S.cardsIn S.couples).map V.int))→Q (.ref l) H'
section
variable {P:Program} {w:World} {K:PySem.W.Frag} {mg:Str→Option Value} {base:Heap}
theorem ok_places{f:Addr}{fd:FuncData}(F:Fun K "places" "places" zbm f fd)(T:Txt K mg)(C_places_of:Can P w K mg base 6 "places_of" ["cards","couples"] (yJ K))(C_refuse_fewer_cards:Can P w K mg base 2 "refuse_fewer_cards" ["sheet","least"] (zF K))(C_Sheet_couples:CanM P w K mg base 1 (zN K "Sheet") "couples" ["self"] (zM K))(C_Sheet_cards:CanM P w K mg base 3 (zN K "Sheet") "cards" ["self"] (y6 K)):FnOk P w K mg base CX0 7 f fd ["sheet"] (zcq K):=by
 refine F.ok sc_places (fun vs H Q E h=>?_) (fun cdv A outer s H vs Q E hr h=>?_)
 ·obtain⟨p,F,S,rfl,_⟩:=h
  rfl
 ·obtain⟨p,F,S,rfl,hSh,h1,q⟩:=h
  refine⟨_,(zd (yT (zi C_refuse_fewer_cards (hr.mono (by decide)) rfl (za (pv 0) (za zg zb))))
   (ze (zo (zi C_places_of (hr.mono (by decide)) rfl (za (ye C_Sheet_cards T.cl_Sheet (hr.mono (by decide)) (pv 0)) (za (ye C_Sheet_couples T.cl_Sheet (hr.mono (by decide)) (pv 0)) zb)))))),?_⟩
  have ok:=hSh.ok
  have h15:S.handed.length≤15:=Nat.le_trans (List.length_filter_le _ _) ok.p15
  have c24:=ok.c24
  obtain⟨dx,b1,b2,b3,d,hip⟩:=hSh.ins
  refine⟨_,rfl,p,F,S,1,rfl,hSh,by omega,fun H1 s1=>?_⟩
  refine⟨_,rfl,p,dx,_,rfl,s1 _ _ hip,rfl,p,F,S,rfl,hSh.same s1,fun l2 H2 ls s2 f2 e2 r2=>?_⟩
  have t2:=s1.trans s2
  refine⟨_,rfl,p,dx,_,rfl,t2 _ _ hip,rfl,p,F,S,rfl,hSh.same t2,fun l3 H3 s3 f3 e3=>?_⟩
  have t3:=t2.trans s3
  refine⟨l2,l3,S.cardsIn,S.couples,rfl,⟨ls,SqL.of (s3 _ _ e2),r2.imp fun _ _ z=>SqL.of (s3 _ _ z.2)⟩,SqL.of e3,ok.nd,Sh.cardsIn_perm ok,by rw[Sh.cardsIn_len];exact h1,by rw[Sh.cardsIn_len];exact h15,ok.c1,by omega,fun l4 H4 s4 f4 e4=>?_⟩
  exact q l4 H4 (t3.trans s4) (t3.free f4) e4
end
def zbZ(K:PySem.W.Frag):Sp:=fun vs H Q _=>∃(p:Addr) (F:Addr→Prop) (S:Sh) (j:Str),vs = [.ref p,.str j]∧zx K H p F S∧j∈S.handed∧2≤S.handed.length∧∀(l:Addr) (H':Hp),zh H H'→H l=none→H' l=some (.lst ((M6.places (S.cardsWo j) S.couples).map V.int))→Q (.ref l) H'
section
variable {P:Program} {w:World} {K:PySem.W.Frag} {mg:Str→Option Value} {base:Heap}
theorem zgQ{f:Addr}{fd:FuncData}(F:Fun K "left_out" "left_out" zab f fd)(T:Txt K mg)(C_places_of:Can P w K mg base 6 "places_of" ["cards","couples"] (yJ K))(C_refuse_fewer_cards:Can P w K mg base 2 "refuse_fewer_cards" ["sheet","least"] (zF K))(C_cards_without:Can P w K mg base 3 "cards_without" ["sheet","judge"] (we K))(C_Sheet_couples:CanM P w K mg base 1 (zN K "Sheet") "couples" ["self"] (zM K))(C_Sheet_card_of:CanMX P w K mg base 2 (zN K "Sheet") "card_of" ["self","judge"] (yb K)):FnOk P w K mg base CX0 7 f fd ["sheet","judge"] (zbZ K):=by
 refine F.ok zhh (fun vs H Q E h=>?_) (fun cdv A outer s H vs Q E hr h=>?_)
 ·obtain⟨p,F,S,j,rfl,_⟩:=h
  rfl
 ·obtain⟨p,F,S,j,rfl,hSh,hj,h2,q⟩:=h
  refine⟨_,(zd (yT (zaj C_Sheet_card_of T.cl_Sheet zdG (hr.mono (by decide)) (pv 0) (za (pv 1) zb)))
   (zd (yT (zi C_refuse_fewer_cards (hr.mono (by decide)) rfl (za (pv 0) (za zg zb))))
   (ze (zo (zi C_places_of (hr.mono (by decide)) rfl (za (zi C_cards_without (hr.mono (by decide)) rfl (za (pv 0) (za (pv 1) zb))) (za (ye C_Sheet_couples T.cl_Sheet (hr.mono (by decide)) (pv 0)) zb))))))),?_⟩
  have hln:=zw
  have ok:=hSh.ok
  have h15:=ok.p15
  have c24:=ok.c24
  obtain⟨dx,b1,b2,b3,d,hip⟩:=hSh.ins
  have hm:=List.mem_filter.mp hj
  cases e:S.card j with
  | none=>rw[e] at hm;exact absurd hm.2 Bool.false_ne_true
  | some c =>
    refine⟨_,rfl,p,dx,_,rfl,hip,rfl,_,rfl,p,F,S,j,rfl,hSh,fun hn=>absurd hm.1 hn,(fun _ z=>by rw[e] at z;cases z),fun c' e' l1 H1 s1 f1 e1=>?_⟩
    refine⟨_,rfl,p,F,S,2,rfl,hSh.same s1,by omega,fun H2 s2=>?_⟩
    have t2:=s1.trans s2
    refine⟨_,rfl,_,rfl,p,F,S,j,rfl,hSh.same t2,fun l3 H3 ks s3 f3 e3 r3=>?_⟩
    have t3:=t2.trans s3
    refine⟨_,rfl,p,dx,_,rfl,t3 _ _ hip,rfl,p,F,S,rfl,hSh.same t3,fun l4 H4 s4 f4 e4=>?_⟩
    have t4:=t3.trans s4
    have hwl:=Sh.cardsWo_len ok.pnd hj
    have hl2:S.handed.length≤15:=Nat.le_trans (List.length_filter_le _ _) h15
    refine⟨l3,l4,S.cardsWo j,S.couples,rfl,⟨ks,SqL.of (s4 _ _ e3),r3.imp fun _ _=>IL.stays K _ _ _ _ s4⟩,SqL.of e4,ok.nd,Sh.cardsWo_perm ok j,by omega,by omega,ok.c1,by omega,fun l5 H5 s5 f5 e5=>?_⟩
    exact q l5 H5 (t4.trans s5) (t4.free f5) e5
end
def zcB(K:PySem.W.Frag):Sp:=fun vs H Q _=>∃(p:Addr) (F:Addr→Prop) (S:Sh) (j:Str) (d:List Int) (i:Nat),vs = [.ref p,.str j,.int (d.getD i 0)]∧zx K H p F S∧S.card j=some d∧0<i∧i<d.length∧∀(t l:Addr) (H':Hp),zh H H'→H t=none→H l=none→H' t=some (.tup [.int (d.getD (i - 1) 0),.ref l])→H' l=some (.lst ((M6.places (S.cardsUp j (upC d i)) S.couples).map V.int))→Q (.ref t) H'
section
variable {P:Program} {w:World} {K:PySem.W.Frag} {mg:Str→Option Value} {base:Heap}
theorem zhE{f:Addr}{fd:FuncData}(F:Fun K "step_up" "step_up" w4 f fd)(T:Txt K mg)(C_one_up:CanX P w K mg base 1 "one_up" ["card","couple"] (zdg K))(C_places_of:Can P w K mg base 6 "places_of" ["cards","couples"] (yJ K))(C_Sheet_couples:CanM P w K mg base 1 (zN K "Sheet") "couples" ["self"] (zM K))(C_Sheet_handed:CanM P w K mg base 1 (zN K "Sheet") "handed" ["self"] (zY K))(C_Sheet_card_of:CanMX P w K mg base 2 (zN K "Sheet") "card_of" ["self","judge"] (yb K)):FnOk P w K mg base CX0 7 f fd ["sheet","judge","couple"] (zcB K):=by
 refine F.ok zaS (fun vs H Q E h=>?_) (fun cdv A outer s H vs Q E hr h=>?_)
 ·obtain⟨p,F,S,j,d,i,rfl,_⟩:=h
  rfl
 ·obtain⟨p,F,S,j,d,i,rfl,hSh,hd,h0,hi,q⟩:=h
  refine⟨_,(zd (zz (i:=3) zaS.nd rfl (Or.inl rfl) (zaj C_Sheet_card_of T.cl_Sheet zdG (hr.mono (by decide)) (pv 0) (za (pv 1) zb)))
   (zd (zG (zr zcY (pv 2) (ye C_Sheet_couples T.cl_Sheet (hr.mono (by decide)) (pv 0)) (by first | exact zv _ | rfl)) (ze zhj) zu)
   (zd (zz (i:=4) zaS.nd rfl (Or.inr rfl) (pe_ownX C_one_up zdG (hr.mono (by decide)) rfl (za (pv 3) (za (pv 2) zb))))
   (zd (zz (i:=5) zaS.nd rfl (Or.inl rfl) (zB zy (pv 4) (zb4 PySem.F.plainAttrs_list PySem.F.slot_list_index PySem.F.type_list_index zbo (pv 3) (za (pv 2) zb)) (fun _ _=>rfl)))
   (zd (zcI (i:=6) (show CompScope (zc w4) ["sheet","judge","couple","card","stepped","passed","cards"] "other" ["sheet","judge","stepped"] [0,1,4] _ from⟨rfl,by decide +kernel,by decide +kernel,rfl,by decide +kernel,rfl,by decide +kernel,by decide +kernel⟩) rfl zaS.nd rfl (Or.inl rfl) (zX (ye C_Sheet_handed T.cl_Sheet (hr.mono (by decide)) (pv 0))) (fun _ _ _ _ _=>wo) (fun _ _ _ _ _=>(pe_ifExp (zr zb3 (pv 0) (pv 2) (zv _)) (pv 3) (zaj C_Sheet_card_of T.cl_Sheet zdG (hr.mono (by decide)) (pv 1) (za (pv 0) zb)))))
   (ze (zo (zdt (za (pv 5) (za (zi C_places_of (hr.mono (by decide)) rfl (za (pv 6) (za (ye C_Sheet_couples T.cl_Sheet (hr.mono (by decide)) (pv 0)) zb))) zb)))))))))),?_⟩
  have hln:=zw
  have ok:=hSh.ok
  have h15:=ok.p15
  have c24:=ok.c24
  obtain⟨hjp,hdp⟩:=ok.cd j d hd
  have hdl:=hdp.length_eq
  have hdn:d.Nodup:=hdp.nodup_iff.mpr ok.nd
  obtain⟨dx,b1,b2,b3,dd,hip⟩:=hSh.ins
  refine⟨_,rfl,p,dx,_,rfl,hip,rfl,_,rfl,p,F,S,j,rfl,hSh,fun hn=>absurd hjp hn,(fun _ z=>by rw[hd] at z;cases z),fun d' e' l1 H1 s1 f1 e1=>?_⟩
  rw[hd] at e'
  cases e'
  refine⟨_,rfl,_,rfl,p,dx,_,rfl,s1 _ _ hip,rfl,p,F,S,rfl,hSh.same s1,fun l2 H2 s2 f2 e2=>?_⟩
  have hcm:d.getD i 0∈S.couples:=hdp.mem_iff.mp (wk hi)
  refine⟨l2,_,rfl,.inl (SqL.of e2),rfl,zP _,_,rfl,iteNo ?_ ?_⟩
  ·show(!inV (.int (d.getD i 0)) (S.couples.map V.int))=false
   rw[zgJ,decide_eq_true hcm]
   rfl
  have t2:=s1.trans s2
  refine⟨_,rfl,_,rfl,l1,d,i,rfl,SqL.of (s2 _ _ e1),hdn,hi,by omega,fun n hn=>ok.rng n (hdp.mem_iff.mp hn),fun z=>absurd z (by omega),fun _ l3 H3 s3 f3 e3=>?_⟩
  have t3:=t2.trans s3
  have e1':=s3 _ _ (s2 _ _ e1)
  have hix:d.idxOf (d.getD i 0)=i:=by
   have:d.getD i 0=d[i]:=by rw[List.getD_eq_getElem?_getD,List.getElem?_eq_getElem hi];rfl
   rw[this]
   exact hdn.idxOf_getElem i hi
  refine⟨_,rfl,_,rfl,.inl ⟨rfl,_,SqL.of e1'⟩,_,rfl,l1,_,_,rfl,rfl,SqL.of e1',rfl,zP _,?_,l3,_,_,.int (d.getD (i - 1) 0),rfl,rfl,SqL.of e3,?_,?_⟩
  ·rw[yn,List.length_map,hix];exact hi
  ·rw[yn,hix]
   refine zW ?_
   rw[List.getElem?_map,show d.take (i - 1) ++ [d.getD i 0,d.getD (i - 1) 0]++d.drop (i+1)=upC d i from rfl,upC_at h0 hi]
   rfl
  refine⟨_,rfl,p,dx,_,rfl,t3 _ _ hip,rfl,p,F,S,rfl,(hSh.same t3).shape,h15,fun l4 H4 s4 f4 e4=>?_⟩
  have hl2:S.handed.length≤15:=Nat.le_trans (List.length_filter_le _ _) h15
  have e3':H4 l3=some (.lst ((upC d i).map V.int)):=s4 _ _ e3
  have t4:=t3.trans s4
  refine⟨l4,rfl,⟨_,SqL.of e4⟩,?_⟩
  refine yq (xs:=S.handed.map V.str) (fun k ys H5=>∃ks:List Addr,ys=ks.map V.ref∧zh H4 H5∧All2 (IL K H5) ks ((S.handed.take k).map fun i'=>if i'=j then upC d i else(S.card i').getD [])) ⟨[],rfl,zh.refl _,.nil⟩ ?_ (by rw[List.length_map];omega) ?_ ?_
  ·rintro k ys H5 hk ⟨ks,rfl,s5,r5⟩
   refine⟨s5.seq (SqL.of e4),?_⟩
   have:=r5.length
   rw[List.length_map,List.length_take] at this
   rw[List.length_map]
   omega
  ·rintro k x ys H5 hx ⟨ks,rfl,s5,r5⟩
   obtain⟨hk,rfl⟩:=zaK hx
   have hm:=List.mem_filter.mp (show S.handed.getD k "" ∈ S.panel.filter fun j=>(S.card j).isSome from zaJ hk)
   have t5:=t4.trans s5
   refine⟨_,rfl,_,rfl,rfl,_,rfl,wS (fun he=>?_) (fun hne=>?_)⟩
   ·have he:S.handed.getD k "" = j:=by injection he
    refine⟨_,rfl,ks ++ [l3],by rw[List.map_append];rfl,s5,?_⟩
    rw[yf hk,List.map_append]
    refine r5.snoc ?_
    show IL K H5 l3 (if S.handed.getD k "" = j then upC d i else _)
    rw[if_pos he]
    exact SqL.of (s5 _ _ e3')
   ·have hne:¬S.handed.getD k "" = j:=fun z=>hne (by rw[z])
    cases e:S.card (S.handed.getD k "")with
    | none=>rw[e] at hm;exact absurd hm.2 Bool.false_ne_true
    | some c =>
      refine⟨_,rfl,p,dx,_,rfl,t5 _ _ hip,rfl,_,rfl,p,F,S,_,rfl,hSh.same t5,fun hj=>absurd hm.1 hj,(fun _ z=>by rw[e] at z;cases z),fun c' e' l6 H6 s6 f6 e6=>?_⟩
      rw[e] at e'
      cases e'
      refine⟨ks ++ [l6],by rw[List.map_append];rfl,s5.trans s6,?_⟩
      rw[yf hk,List.map_append]
      refine(r5.imp fun _ _=>IL.stays K _ _ _ _ s6).snoc ?_
      show IL K H6 l6 (if S.handed.getD k "" = j then upC d i else(S.card (S.handed.getD k "")).getD [])
      rw[if_neg hne,e]
      exact SqL.of e6
  ·rintro ys H5 ⟨ks,rfl,s5,r5⟩ l7 hl7
   rw[List.length_map,List.take_length] at r5
   have s7:=s5.newT (o:=.lst (ks.map V.ref)) hl7
   have e7:upd H5 l7 (.lst (ks.map V.ref)) l7=some (.lst (ks.map V.ref)):=zf
   have r7:=r5.imp fun _ _=>IL.stays K _ _ _ _ (zh.new (o:=.lst (ks.map V.ref)) hl7)
   generalize hH7:upd H5 l7 _=H7 at s7 e7 r7 ⊢
   have t7:=t4.trans s7
   refine⟨_,rfl,_,rfl,_,rfl,p,dx,_,rfl,t7 _ _ hip,rfl,p,F,S,rfl,hSh.same t7,fun l8 H8 s8 f8 e8=>?_⟩
   have t8:=t7.trans s8
   have hjh:1≤S.handed.length:=List.length_pos_of_mem (List.mem_filter.mpr ⟨hjp,by rw[hd];rfl⟩)
   refine⟨l7,l8,S.cardsUp j (upC d i),S.couples,rfl,⟨ks,SqL.of (s8 _ _ e7),r7.imp fun _ _=>IL.stays K _ _ _ _ s8⟩,SqL.of e8,ok.nd,Sh.cardsUp_perm ok ((zgO h0 hi).trans hdp),by rw[Sh.cardsUp_len];exact hjh,by rw[Sh.cardsUp_len];exact hl2,ok.c1,by omega,fun l9 H9 s9 f9 e9=>⟨(by show 2≤sizeLine;decide),fun t hT=>?_⟩⟩
   have t9:=t8.trans s9
   exact q t l9 _ (t9.newT hT) (t9.free hT) (t8.free f9) zf ((zh.new hT) _ _ e9)
end
def zay(K:PySem.W.Frag):Sp:=fun vs H Q _=>∃(a b:Addr) (cs:List (List Int)) (us:List Int),vs = [.ref a,.ref b]∧zds K (IL K) H a cs∧SqL K H b (us.map V.int)∧us.Nodup∧(∀d∈cs,d.Perm us)∧1≤cs.length∧cs.length≤15∧1≤us.length∧us.length≤24∧∀(l:Addr) (H':Hp),zh H H'→H l=none→H' l=some (.lst ((yz cs us).map V.int))→Q (.ref l) H'
section
variable {P:Program} {w:World} {K:PySem.W.Frag} {mg:Str→Option Value} {base:Heap}
theorem zfZ{f:Addr}{fd:FuncData}(F:Fun K "firsts_of" "firsts_of" yX f fd)(T:Txt K mg)(C_places_of:Can P w K mg base 6 "places_of" ["cards","couples"] (yJ K)):FnOk P w K mg base CX0 7 f fd ["cards","couples"] (zay K):=by
 refine F.ok zgd (fun vs H Q E h=>?_) (fun cdv A outer s H vs Q E hr h=>?_)
 ·obtain⟨a,b,cs,us,rfl,_⟩:=h
  rfl
 ·obtain⟨a,b,cs,us,rfl,hA,hB,nd,hp,c1,c15,u1,u24,q⟩:=h
  refine⟨_,(ze (zo (pe_comp2 (show CompScope2 (zc yX) ["cards","couples"] "place" "couple" [] [] _ from⟨rfl,by decide +kernel,by decide +kernel,rfl,rfl,by decide +kernel,rfl,by decide +kernel,by decide +kernel⟩) rfl (pi_zip rfl T.b_zip (za (zi C_places_of (hr.mono (by decide)) rfl (za (pv 0) (za (pv 1) zb))) (za (pv 1) zb))) (fun _ _ _ _ _=>(zbc (zr zb3 (pv 0) zg (zv _)))) (fun _ _ _ _ _=>(pv 1))))),?_⟩
  have hln:=zw
  refine⟨_,rfl,_,rfl,a,b,cs,us,rfl,hA,hB,nd,hp,c1,c15,u1,u24,fun l1 H1 s1 f1 e1=>?_⟩
  have hpl:=M6.zT cs us
  refine⟨_,rfl,l1,b,_,_,rfl,SqL.of e1,s1.seq hB,?_⟩
  refine comp2_zip (xs:=(M6.places cs us).map V.int) (ys:=us.map V.int) (fun i zs H2=>zh H1 H2∧zs=(zae (M6.places cs us) us i).map V.int) ⟨zh.refl _,rfl⟩ ?_ (by rw[List.length_map,List.length_map];omega) ?_ ?_
  ·rintro i zs H2 hi ⟨s2,rfl⟩
   refine⟨SqL.of (s2 _ _ e1),(s1.trans s2).seq hB,?_⟩
   rw[List.length_map]
   exact zgD _ _ _
  ·rintro i x y t zs H2 hx hy ht ⟨s2,rfl⟩
   obtain⟨hi,rfl⟩:=zah hx
   obtain⟨hi2,rfl⟩:=zah hy
   refine⟨_,rfl,rfl,_,rfl,wS (fun he=>?_) (fun hne=>?_)⟩
   ·have he:(M6.places cs us).getD i 0=1:=by injection he
    refine⟨_,rfl,s2.newT ht,?_⟩
    rw[zbK,if_pos he,List.map_append]
    rfl
   ·have hne:¬(M6.places cs us).getD i 0=1:=fun z=>hne (by rw[z])
    refine⟨s2.newT ht,?_⟩
    rw[zbK,if_neg hne,List.append_nil]
  ·rintro zs H2 ⟨s2,rfl⟩ l hl
   rw[List.length_map,List.length_map,hpl,Nat.min_self] at *
   have t2:=s1.trans s2
   exact q l _ (t2.newT hl) (t2.free hl) zf
end
def zdq(K:PySem.W.Frag):Sp:=fun vs H Q _=>∃(p:Addr) (F:Addr→Prop) (S:Sh),vs = [.ref p]∧zx K H p F S∧1≤S.handed.length∧∀(l:Addr) (H':Hp),zh H H'→H l=none→H' l=some (.lst ((yz S.cardsIn S.couples).map V.int))→Q (.ref l) H'
section
variable {P:Program} {w:World} {K:PySem.W.Frag} {mg:Str→Option Value} {base:Heap}
theorem ok_firsts{f:Addr}{fd:FuncData}(F:Fun K "firsts" "firsts" zbt f fd)(T:Txt K mg)(C_refuse_fewer_cards:Can P w K mg base 2 "refuse_fewer_cards" ["sheet","least"] (zF K))(C_firsts_of:Can P w K mg base 7 "firsts_of" ["cards","couples"] (zay K))(C_Sheet_couples:CanM P w K mg base 1 (zN K "Sheet") "couples" ["self"] (zM K))(C_Sheet_cards:CanM P w K mg base 3 (zN K "Sheet") "cards" ["self"] (y6 K)):FnOk P w K mg base CX0 8 f fd ["sheet"] (zdq K):=by
 refine F.ok sc_firsts (fun vs H Q E h=>?_) (fun cdv A outer s H vs Q E hr h=>?_)
 ·obtain⟨p,F,S,rfl,_⟩:=h
  rfl
 ·obtain⟨p,F,S,rfl,hSh,h1,q⟩:=h
  refine⟨_,(zd (yT (zi C_refuse_fewer_cards (hr.mono (by decide)) rfl (za (pv 0) (za zg zb))))
   (ze (zo (zi C_firsts_of (hr.mono (by decide)) rfl (za (ye C_Sheet_cards T.cl_Sheet (hr.mono (by decide)) (pv 0)) (za (ye C_Sheet_couples T.cl_Sheet (hr.mono (by decide)) (pv 0)) zb)))))),?_⟩
  have ok:=hSh.ok
  have h15:S.handed.length≤15:=Nat.le_trans (List.length_filter_le _ _) ok.p15
  have c24:=ok.c24
  obtain⟨dx,b1,b2,b3,d,hip⟩:=hSh.ins
  refine⟨_,rfl,p,F,S,1,rfl,hSh,by omega,fun H1 s1=>?_⟩
  refine⟨_,rfl,p,dx,_,rfl,s1 _ _ hip,rfl,p,F,S,rfl,hSh.same s1,fun l2 H2 ls s2 f2 e2 r2=>?_⟩
  have t2:=s1.trans s2
  refine⟨_,rfl,p,dx,_,rfl,t2 _ _ hip,rfl,p,F,S,rfl,hSh.same t2,fun l3 H3 s3 f3 e3=>?_⟩
  have t3:=t2.trans s3
  refine⟨l2,l3,S.cardsIn,S.couples,rfl,⟨ls,SqL.of (s3 _ _ e2),r2.imp fun _ _ z=>SqL.of (s3 _ _ z.2)⟩,SqL.of e3,ok.nd,Sh.cardsIn_perm ok,by rw[Sh.cardsIn_len];exact h1,by rw[Sh.cardsIn_len];exact h15,ok.c1,by omega,fun l4 H4 s4 f4 e4=>?_⟩
  exact q l4 H4 (t3.trans s4) (t3.free f4) e4
end
def zbW(K:PySem.W.Frag):Sp:=fun vs H Q _=>∃(a b c o x y:Addr) (F G:Addr→Prop) (S U:Sh) (ja jb:Str) (pl:List Addr) (d e os:List Int),vs = [.ref a,.ref b,.ref c,.ref o]∧SqL K H a [.ref x,.ref y]∧SqL K H b [.str ja,.str jb]∧SqL K H c (pl.map V.ref)∧All2 (TPl K H) pl (d.zip e)∧SqL K H o (os.map V.int)∧zx K H x F S∧zx K H y G U∧S.card ja=some d∧U.card jb=some e∧d.length=e.length∧(2≤d.length→(M6.places (U.cardsUp jb (upC e (e.length - 1))) U.couples=os.map fun k=>(M6.places (S.cardsUp ja (upC d (d.length - 1))) S.couples).getD k.toNat 0)∧(1:Int)∈M6.places (S.cardsUp ja (upC d (d.length - 1))) S.couples)∧(∀k∈os,0≤k∧k<S.couples.length)∧os.length=S.couples.length∧∀H',zh H H'→Q (.bl true) H'
theorem zho{xs:List V}{k:Nat}{v:V}(hk:1≤k)(hl:k≤xs.length)(h:xs[xs.length - k]? = some v):atI xs (-(k:Int))=some v:=by
 unfold atI ixN
 rw[if_neg (by omega),if_pos (by omega),show(-(k:Int)+(xs.length:Int)).toNat=xs.length - k by omega]
 exact h
section
variable {P:Program} {w:World} {K:PySem.W.Frag} {mg:Str→Option Value} {base:Heap}
theorem zg9{f:Addr}{fd:FuncData}(F:Fun K "_law_step" "_law_step" zaa f fd)(T:Txt K mg)(C_step_up:Can P w K mg base 7 "step_up" ["sheet","judge","couple"] (zcB K))(C_law_follows:Can P w K mg base 3 "_law_follows" ["_law_found","_law_beside","_law_order"] (wO K)):FnOk P w K mg base CX0 8 f fd ["_law_sheets","_law_judges_here","_law_card_here","_law_order"] (zbW K):=by
 refine F.ok zcb (fun vs H Q E h=>?_) (fun cdv A outer s H vs Q E hr h=>?_)
 ·obtain⟨a,b,c,o,x,y,F,G,S,U,ja,jb,pl,d,e,os,rfl,_⟩:=h
  rfl
 ·obtain⟨a,b,c,o,x,y,F,G,S,U,ja,jb,pl,d,e,os,rfl,hA,hB,hC,rC,hO,hS,hU,hd,he,hde,hfol,hos,hol,q⟩:=h
  refine⟨_,(zd (zG (zr zdA (zl zk (by rfl) T.b_len PySem.boot_len (za (pv 2) zb)) zg (zv _)) (ze (zo wt)) zu)
   (zd (zz (i:=4) zcb.nd rfl (Or.inl rfl) (zi C_step_up (hr.mono (by decide)) rfl (za (zB zy (pv 0) zg (fun _ _=>rfl)) (za (zB zy (pv 1) zg (fun _ _=>rfl)) (za (zB zaN (zB zy (pv 2) (zen zcH zg) (fun _ _=>rfl)) zg (fun _ _=>rfl)) zb)))))
   (zd (zz (i:=5) zcb.nd rfl (Or.inl rfl) (zi C_step_up (hr.mono (by decide)) rfl (za (zB zy (pv 0) zg (fun _ _=>rfl)) (za (zB zy (pv 1) zg (fun _ _=>rfl)) (za (zB zaN (zB zy (pv 2) (zen zcH zg) (fun _ _=>rfl)) zg (fun _ _=>rfl)) zb)))))
   (zd (zG (PW.pt (zau (yt (yc (zl wQ (by rfl) T.b_isinstance PyProof.Rows.boot_isinstance (za (pv 4) (za (yV (v:=V.ty "tuple") rfl T.b_tuple PyProof.Rows.boot_tuple rfl) zb))))) (zau (yt (yc (zl wQ (by rfl) T.b_isinstance PyProof.Rows.boot_isinstance (za (pv 5) (za (yV (v:=V.ty "tuple") rfl T.b_tuple PyProof.Rows.boot_tuple rfl) zb))))) (zau (zr wC (zl zk (by rfl) T.b_len PySem.boot_len (za (pv 4) zb)) zg (zv _)) (zaF (zr wC (zl zk (by rfl) T.b_len PySem.boot_len (za (pv 5) zb)) zg (zv _))))))) (ze (zo wt)) zu)
   (zd (zG (PW.pt (zau (zr wC (zB zaN (pv 4) zg (fun _ _=>rfl)) (zB zaN (zB zy (pv 2) (zen zcH zg) (fun _ _=>rfl)) zg (fun _ _=>rfl)) (zv _)) (zaF (zr wC (zB zaN (pv 5) zg (fun _ _=>rfl)) (zB zaN (zB zy (pv 2) (zen zcH zg) (fun _ _=>rfl)) zg (fun _ _=>rfl)) (zv _))))) (ze (zo wt)) zu)
   (ze (zo (zi C_law_follows (hr.mono (by decide)) rfl (za (zB zaN (pv 4) zg (fun _ _=>rfl)) (za (zB zaN (pv 5) zg (fun _ _=>rfl)) (za (pv 3) zb))))))))))),?_⟩
  have hln:=zw
  have okS:=hS.ok
  have okU:=hU.ok
  have c24:=okS.c24
  have hdl:=(okS.cd _ _ hd).2.length_eq
  have hel:=(okU.cd _ _ he).2.length_eq
  have hpl:=rC.length
  rw[List.length_zip,← hde,Nat.min_self] at hpl
  refine⟨_,rfl,c,_,rfl,.inl hC,_,_,rfl,rfl,_,rfl,?_⟩
  rw[List.length_map]
  refine wS (fun _=>q _ (zh.refl _)) (fun h2=>?_)
  have h2:2≤d.length:=by omega
  obtain⟨hf1,hf2⟩:=hfol h2
  have hz:∀(n:Nat) (h1:n<d.length) (h2:n<e.length),(d.zip e)[n]? = some (d[n],e[n]):=fun n h1 h2=>by
   rw[List.getElem?_zip_eq_some]
   exact⟨List.getElem?_eq_getElem h1,List.getElem?_eq_getElem h2⟩
  obtain⟨l1,el1,r1⟩:=rC.get (hz (d.length - 1) (by omega) (by omega))
  obtain⟨l2,el2,r2⟩:=rC.get (hz (d.length - 2) (by omega) (by omega))
  have r1:SqT K H l1 [.int (d[d.length - 1]'(by omega)),.int (e[d.length - 1]'(by omega))]:=r1
  have r2:SqT K H l2 [.int (d[d.length - 2]'(by omega)),.int (e[d.length - 2]'(by omega))]:=r2
  have at1:atI (pl.map V.ref) (-1)=some (.ref l1):=zho (k:=1) (by omega) (by rw[List.length_map];omega) (by rw[List.length_map,hpl];exact zaf el1)
  have at2:atI (pl.map V.ref) (-2)=some (.ref l2):=zho (k:=2) (by omega) (by rw[List.length_map];omega) (by rw[List.length_map,hpl];exact zaf el2)
  have gd:∀(l:List Int) (n:Nat) (h:n<l.length),l.getD n 0=l[n]:=fun l n h=>by rw[List.getD_eq_getElem?_getD,List.getElem?_eq_getElem h];rfl
  refine⟨_,rfl,a,_,_,_,rfl,rfl,hA,rfl,_,rfl,b,_,_,_,rfl,rfl,hB,rfl,_,rfl,_,rfl,c,_,_,_,rfl,rfl,hC,at1,l1,_,_,_,rfl,rfl,r1,rfl,x,F,S,ja,d,d.length - 1,by rw[gd d _ (by omega)];rfl,hS,hd,by omega,by omega,fun t1 m1 H1 s1 f1 g1 e1 w1=>?_⟩
  refine⟨_,rfl,a,_,_,_,rfl,rfl,s1.seq hA,rfl,_,rfl,b,_,_,_,rfl,rfl,s1.seq hB,rfl,_,rfl,_,rfl,c,_,_,_,rfl,rfl,s1.seq hC,at1,l1,_,_,_,rfl,rfl,s1.seqT r1,rfl,y,G,U,jb,e,e.length - 1,by rw[gd e _ (by omega)];simp only[hde];rfl,hU.same s1,he,by omega,by omega,fun t2 m2 H2 s2 f2 g2 e2 w2=>?_⟩
  have e1:=s2 _ _ e1
  have w1:=s2 _ _ w1
  have t12:=s1.trans s2
  have q1:SqT K H2 t1 [.int (d.getD (d.length - 1 - 1) 0),.ref m1]:=.inl (.inl e1)
  have q2:SqT K H2 t2 [.int (e.getD (e.length - 1 - 1) 0),.ref m2]:=.inl (.inl e2)
  refine⟨_,rfl,_,_,rfl,.yes q1,_,rfl,zaT ?_⟩
  refine⟨_,rfl,_,_,rfl,.yes q2,_,rfl,zaT ?_⟩
  refine⟨_,rfl,t1,_,rfl,.inr q1,rfl,_,rfl,yH (fun h=>absurd rfl h) (fun _=>?_)⟩
  refine⟨_,rfl,t2,_,rfl,.inr q2,rfl,_,rfl,yH (fun h=>absurd rfl h) (fun _=>?_)⟩
  refine⟨_,rfl,t1,_,_,_,rfl,rfl,q1,rfl,_,rfl,_,rfl,c,_,_,_,rfl,rfl,t12.seq hC,at2,l2,_,_,_,rfl,rfl,t12.seqT r2,rfl,rfl,_,rfl,yH (fun h=>absurd (by rw[show d.length - 1 - 1=d.length - 2 by omega,gd d _ (by omega)]) h) (fun _=>?_)⟩
  refine⟨_,rfl,t2,_,_,_,rfl,rfl,q2,rfl,_,rfl,_,rfl,c,_,_,_,rfl,rfl,t12.seq hC,at2,l2,_,_,_,rfl,rfl,t12.seqT r2,rfl,rfl,_,rfl,yH (fun h=>absurd (by rw[gd e _ (by omega)];simp only[hde];rfl) h) (fun _=>?_)⟩
  rw[hf1] at w2
  exact⟨_,rfl,t1,_,_,_,rfl,rfl,q1,rfl,_,rfl,t2,_,_,_,rfl,rfl,q2,rfl,_,rfl,m1,m2,o,_,os,rfl,SqL.of w1,SqL.of w2,t12.seq hO,(fun k hk=>by rw[M6.zT];exact hos k hk),by rw[M6.zT,hol],by rw[M6.zT];omega,hf2,fun H3 s3=>q _ (t12.trans s3)⟩
end
def zb0(K:PySem.W.Frag):Sp:=fun vs H Q _=>∃(p:Addr) (F:Addr→Prop) (S:Sh),vs = [.ref p]∧zx K H p F S∧2≤S.handed.length∧∀(l:Addr) (H':Hp),zh H H'→H l=none→H' l=some (.lst (S.decide.map V.str))→Q (.ref l) H'
section
variable {P:Program} {w:World} {K:PySem.W.Frag} {mg:Str→Option Value} {base:Heap}
theorem zgh{f:Addr}{fd:FuncData}(F:Fun K "deciders" "deciders" wA f fd)(T:Txt K mg)(C_firsts:Can P w K mg base 8 "firsts" ["sheet"] (zdq K))(C_refuse_fewer_cards:Can P w K mg base 2 "refuse_fewer_cards" ["sheet","least"] (zF K))(C_firsts_of:Can P w K mg base 7 "firsts_of" ["cards","couples"] (zay K))(C_cards_without:Can P w K mg base 3 "cards_without" ["sheet","judge"] (we K))(C_Sheet_couples:CanM P w K mg base 1 (zN K "Sheet") "couples" ["self"] (zM K))(C_Sheet_handed:CanM P w K mg base 1 (zN K "Sheet") "handed" ["self"] (zY K)):FnOk P w K mg base CX0 9 f fd ["sheet"] (zb0 K):=by
 refine F.ok zdD (fun vs H Q E h=>?_) (fun cdv A outer s H vs Q E hr h=>?_)
 ·obtain⟨p,F,S,rfl,_⟩:=h
  rfl
 ·obtain⟨p,F,S,rfl,hSh,h2,q⟩:=h
  refine⟨_,(zd (yT (zi C_refuse_fewer_cards (hr.mono (by decide)) rfl (za (pv 0) (za zg zb))))
   (zd (zz (i:=1) zdD.nd rfl (Or.inr rfl) (zi C_firsts (hr.mono (by decide)) rfl (za (pv 0) zb)))
   (ze (zo (zU (show CompScope (zc wA) ["sheet","now"] "judge" ["sheet","now"] [0,1] _ from⟨rfl,by decide +kernel,by decide +kernel,rfl,by decide +kernel,rfl,by decide +kernel,by decide +kernel⟩) rfl (zX (ye C_Sheet_handed T.cl_Sheet (hr.mono (by decide)) (pv 0))) (fun _ _ _ _ _=>(zbc (zr (zbV (K:=K) rfl hr.units0) (zi C_firsts_of (hr.mono (by decide)) rfl (za (zi C_cards_without (hr.mono (by decide)) rfl (za (pv 1) (za (pv 0) zb))) (za (ye C_Sheet_couples T.cl_Sheet (hr.mono (by decide)) (pv 1)) zb))) (pv 2) (zv _)))) (fun _ _ _ _ _=>(pv 0))))))),?_⟩
  have hln:=zw
  have ok:=hSh.ok
  have h15:S.handed.length≤15:=Nat.le_trans (List.length_filter_le _ _) ok.p15
  have c24:=ok.c24
  obtain⟨dx,b1,b2,b3,d,hip⟩:=hSh.ins
  refine⟨_,rfl,p,F,S,2,rfl,hSh,by omega,fun H1 s1=>?_⟩
  refine⟨_,rfl,p,F,S,rfl,hSh.same s1,by omega,fun l2 H2 s2 f2 e2=>?_⟩
  have t2:=s1.trans s2
  refine⟨_,rfl,p,dx,_,rfl,t2 _ _ hip,rfl,p,F,S,rfl,(hSh.same t2).shape,ok.p15,fun l3 H3 s3 f3 e3=>?_⟩
  have t3:=t2.trans s3
  refine⟨l3,rfl,⟨_,SqL.of e3⟩,?_⟩
  refine wF (xs:=S.handed.map V.str) (fun i ys H4=>zh H3 H4∧ys=((S.handed.take i).filter fun j => !Decidable.decide (yz (S.cardsWo j) S.couples=yz S.cardsIn S.couples)).map V.str) ⟨zh.refl _,rfl⟩ ?_ (by rw[List.length_map];omega) ?_ ?_
  ·rintro i ys H4 hi ⟨s4,rfl⟩
   refine⟨s4.seq (SqL.of e3),?_⟩
   rw[List.length_map]
   exact Nat.le_trans (List.length_filter_le _ _) (by rw[List.length_take];omega)
  ·rintro i x ys H4 hx ⟨s4,rfl⟩
   obtain⟨hi,rfl⟩:=zaK hx
   have t4:=t3.trans s4
   refine⟨_,rfl,_,rfl,p,F,S,_,rfl,hSh.same t4,fun l5 H5 ks s5 f5 e5 r5=>?_⟩
   have t5:=t4.trans s5
   refine⟨_,rfl,p,dx,_,rfl,t5 _ _ hip,rfl,p,F,S,rfl,hSh.same t5,fun l6 H6 s6 f6 e6=>?_⟩
   have g1:=Sh.cardsWo_ge ok.pnd (S.handed.getD i "")
   have g2:=Sh.cardsWo_le S (S.handed.getD i "")
   refine⟨l5,l6,_,S.couples,rfl,⟨ks,SqL.of (s6 _ _ e5),r5.imp fun _ _=>IL.stays K _ _ _ _ s6⟩,SqL.of e6,ok.nd,Sh.cardsWo_perm ok _,by omega,by omega,ok.c1,by omega,fun l7 H7 s7 f7 e7=>?_⟩
   have u7:=((s4.trans s5).trans s6).trans s7
   refine⟨_,rfl,l7,l2,_,_,rfl,rfl,SqL.of e7,SqL.of ((s3.trans u7) _ _ e2),zP _,zP _,_,rfl,?_⟩
   rw[zbr]
   refine yH (fun hne=>?_) (fun he=>?_)
   ·refine⟨_,rfl,u7,?_⟩
    rw[yf hi,List.filter_append,List.filter_cons,if_pos (by rw[decide_eq_false hne];rfl),List.map_append]
    rfl
   ·refine⟨u7,?_⟩
    rw[yf hi,List.filter_append,List.filter_cons,if_neg (by rw[decide_eq_true he];decide),List.filter_nil,List.append_nil]
  ·rintro ys H4 ⟨s4,rfl⟩ l hl
   rw[List.length_map,List.take_length] at *
   have t4:=t3.trans s4
   exact q l _ (t4.newT hl) (t4.free hl) zf
end
def zaq(K:PySem.W.Frag):Sp:=fun vs H Q _=>∃(a n o t x y:Addr) (F G:Addr→Prop) (S U:Sh) (seats:List Int),vs = [.ref a,.ref n,.ref o,.ref t]∧SqL K H a [.ref x,.ref y]∧SqL K H n (S.panel.map V.str)∧SqL K H o (U.panel.map V.str)∧SqL K H t (seats.map V.int)∧zx K H x F S∧zx K H y G U∧2≤S.handed.length∧2≤U.handed.length∧seats.length=S.panel.length∧U.panel.length=S.panel.length∧(∀k∈seats,0≤k∧k<S.panel.length)∧U.decide=((List.range S.panel.length).filter fun k=>decide (S.panel.getD (seats.getD k 0).toNat "" ∈ S.decide)).map (fun k=>U.panel.getD k "")∧∀H',zh H H'→Q (.bl true) H'
theorem decide_in(S:Sh):S.panel.filter (fun j=>decide (j∈S.decide))=S.decide:=by
 unfold Sh.decide Sh.handed
 rw[List.filter_filter]
 have key:∀(l:List Str) (p:Str→Bool),l.filter (fun j=>decide (j∈l.filter p))=l.filter p:=fun l p=>List.filter_congr fun j hj=>by
  cases e:p j with
  | false=>exact decide_eq_false (fun h=>by rw[(List.mem_filter.mp h).2] at e;cases e)
  | true=>exact decide_eq_true (List.mem_filter.mpr ⟨hj,e⟩)
 exact key _ _
section
variable {P:Program} {w:World} {K:PySem.W.Frag} {mg:Str→Option Value} {base:Heap}
theorem zdT{f:Addr}{fd:FuncData}(F:Fun K "_law_deciders" "_law_deciders" zV f fd)(T:Txt K mg)(C_deciders:Can P w K mg base 9 "deciders" ["sheet"] (zb0 K))(C_law_texts:Can P w K mg base 1 "_law_texts" ["_law_found","_law_due"] (zbN K)):FnOk P w K mg base CX0 10 f fd ["_law_sheets","_law_names","_law_others","_law_seats"] (zaq K):=by
 refine F.ok zbQ (fun vs H Q E h=>?_) (fun cdv A outer s H vs Q E hr h=>?_)
 ·obtain⟨a,n,o,t,x,y,F,G,S,U,seats,rfl,_⟩:=h
  rfl
 ·obtain⟨a,n,o,t,x,y,F,G,S,U,seats,rfl,hA,hN,hO,hT,hS,hU,h2,h3,hsl,hul,hsr,hdec,q⟩:=h
  refine⟨_,(zd (zz (i:=4) zbQ.nd rfl (Or.inr rfl) (zi C_deciders (hr.mono (by decide)) rfl (za (zB zy (pv 0) zg (fun _ _=>rfl)) zb)))
   (zd (zG (PW.pt (zau (yt (yc (zl yx (by rfl) T.b_isinstance PyProof.Rows.boot_isinstance (za (pv 4) (za (yV (v:=V.ty "list") rfl T.b_list PyProof.Rows.boot_list rfl) zb))))) (zaF (yt (yc (zi C_law_texts (hr.mono (by decide)) rfl (za (pv 4) (za (zU (show CompScope (zc zV) ["_law_sheets","_law_names","_law_others","_law_seats","_law_told"] "_law_name" ["_law_told"] [4] _ from⟨rfl,by decide +kernel,by decide +kernel,rfl,by decide +kernel,rfl,by decide +kernel,by decide +kernel⟩) rfl (zX (pv 1)) (fun _ _ _ _ _=>(zbc (zr (zeq (K:=K) rfl) (pv 0) (pv 1) (by first | exact zv _ | rfl)))) (fun _ _ _ _ _=>(pv 0))) zb)))))))) (ze (zo wt)) zu)
   (ze (zo (zi C_law_texts (hr.mono (by decide)) rfl (za (zi C_deciders (hr.mono (by decide)) rfl (za (zB zy (pv 0) zg (fun _ _=>rfl)) zb)) (za (zU (show CompScope (zc zV) ["_law_sheets","_law_names","_law_others","_law_seats","_law_told"] "_law_k" ["_law_names","_law_others","_law_seats","_law_told"] [1,2,3,4] _ from⟨rfl,by decide +kernel,by decide +kernel,rfl,by decide +kernel,rfl,by decide +kernel,by decide +kernel⟩) rfl (yC rfl T.b_range (za (zl zk (by rfl) T.b_len PySem.boot_len (za (pv 1) zb)) zb)) (fun _ _ _ _ _=>(zbc (zr (zeq (K:=K) rfl) (zB (yD (K:=K) rfl) (pv 1) (zB (yD (K:=K) rfl) (pv 3) (pv 0) (fun _ _=>rfl)) (fun _ _=>rfl)) (pv 4) (by first | exact zv _ | rfl)))) (fun _ _ _ _ _=>(zB (yD (K:=K) rfl) (pv 2) (pv 0) (fun _ _=>rfl)))) zb))))))),?_⟩
  have hln:=zw
  have p15:=hS.ok.p15
  have hdl:S.decide.length≤15:=by
   unfold Sh.decide Sh.handed
   exact Nat.le_trans (List.length_filter_le _ _) (Nat.le_trans (List.length_filter_le _ _) p15)
  refine⟨_,rfl,a,_,_,_,rfl,rfl,hA,rfl,x,F,S,rfl,hS,h2,fun l1 H1 s1 f1 e1=>?_⟩
  refine⟨_,rfl,_,_,rfl,.yes (SqL.of e1),_,rfl,zaT ?_⟩
  refine⟨_,rfl,_,rfl,n,rfl,⟨_,s1.seq hN⟩,?_⟩
  refine zhq (ts:=S.panel) (p:=fun j=>decide (j∈S.decide)) (s1.seq hN) (by omega) (fun j H' R hj s' h=>?_) (fun j H' R h=>⟨_,rfl,h⟩) fun H2 s2=>?_
  ·refine⟨_,rfl,_,rfl,l1,_,rfl,.inl (SqL.of (s' _ _ e1)),rfl,zdc _,_,rfl,?_⟩
   rw[zeg]
   exact h H' (zh.refl _)
  rw[decide_in]
  intro l2 hl2
  have s3:=s2.newT (o:=.lst (S.decide.map V.str)) hl2
  refine⟨l1,l2,S.decide,S.decide,rfl,SqL.of (s3 _ _ e1),SqL.new,by omega,?_⟩
  rw[decide_eq_true rfl]
  refine⟨_,rfl,zaT ?_⟩
  generalize hH3:upd H2 l2 _=H3 at s3 ⊢
  have t3:=s1.trans s3
  refine⟨_,rfl,a,_,_,_,rfl,rfl,t3.seq hA,rfl,y,G,U,rfl,hU.same t3,h3,fun l4 H4 s4 f4 e4=>?_⟩
  have t4:=t3.trans s4
  refine⟨_,rfl,n,_,rfl,.inl (t4.seq hN),_,rfl,by omega,by rw[List.length_map];omega,?_⟩
  rw[List.length_map]
  rw[show((S.panel.length:Nat):Int).toNat=S.panel.length by omega]
  refine zcA (fun i ys H5=>H5=H4∧ys=(((List.range i).filter fun k=>decide (S.panel.getD (seats.getD k 0).toNat "" ∈ S.decide)).map (fun k=>U.panel.getD k "")).map V.str) ⟨rfl,rfl⟩ ?_ (by omega) ?_ ?_
  ·rintro i ys H5 hi ⟨rfl,rfl⟩
   rw[List.length_map,List.length_map]
   exact Nat.le_trans (List.length_filter_le _ _) (by rw[List.length_range];exact Nat.le_refl _)
  ·rintro i ys H5 hi ⟨rfl,rfl⟩
   have hsm:=hsr _ (wk (ns:=seats) (i:=i) (by omega))
   have ei:(0+(i:Int)).toNat=i:=by omega
   refine⟨_,rfl,_,rfl,_,rfl,t,_,_,_,rfl,rfl,t4.seq hT,(by rw[Int.zero_add];exact zW (zax (by omega))),n,_,_,_,rfl,rfl,t4.seq hN,zc3 hsm.1 (by omega),_,rfl,l1,_,rfl,.inl (SqL.of ((s3.trans s4) _ _ e1)),rfl,zdc _,_,rfl,?_⟩
   rw[zeg]
   have e1':(List.range (i+1)).filter (fun k=>decide (S.panel.getD (seats.getD k 0).toNat "" ∈ S.decide))=(List.range i).filter (fun k=>decide (S.panel.getD (seats.getD k 0).toNat "" ∈ S.decide))++(if S.panel.getD (seats.getD i 0).toNat "" ∈ S.decide then [i] else []):=by
    rw[List.range_succ,List.filter_append,List.filter_cons]
    by_cases h:S.panel.getD (seats.getD i 0).toNat "" ∈ S.decide
    ·rw[if_pos (decide_eq_true h),if_pos h];rfl
    ·rw[if_neg (by rw[decide_eq_false h];decide),if_neg h];rfl
   refine wS (fun h=>?_) (fun h=>?_)
   ·refine⟨_,rfl,_,rfl,o,_,_,_,rfl,rfl,t4.seq hO,(by rw[Int.zero_add];exact zW (zbO (by omega))),rfl,?_⟩
    rw[e1',if_pos h,List.map_append,List.map_append]
    rfl
   ·refine⟨rfl,?_⟩
    rw[e1',if_neg h,List.append_nil]
  rintro ys H5 ⟨rfl,rfl⟩ l6 hl6
  rw[← hdec]
  have s6:=zh.new (o:=.lst (U.decide.map V.str)) hl6
  have hdl2:U.decide.length≤15:=by
   rw[hdec,List.length_map]
   exact Nat.le_trans (List.length_filter_le _ _) (by rw[List.length_range];exact p15)
  refine⟨l4,l6,U.decide,U.decide,rfl,SqL.of (s6 _ _ e4),SqL.new,by omega,?_⟩
  rw[decide_eq_true rfl]
  exact q _ (t4.trans s6)
end
def zcg(K:PySem.W.Frag):Sp:=fun vs H Q _=>∃(a b:Addr) (ps us:List Int),vs = [.ref a,.ref b]∧SqL K H a (ps.map V.int)∧SqL K H b (us.map V.int)∧ps.length=us.length∧(∀k,k<us.length→1≤ps.getD k 0∧ps.getD k 0≤us.length)∧1≤us.length∧us.length≤24∧zbz (zcr K "by_place") zfB H∧∀(l:Addr) (H':Hp) (ls:List Addr),yU H H'→zbz (zcr K "by_place") zfB H'→H l=none→H' l=some (.lst (ls.map V.ref))→All2 (TPl K H') ls (M5.rows ps us)→Q (.ref l) H'
section
variable {P:Program} {w:World} {K:PySem.W.Frag} {mg:Str→Option Value} {base:Heap}
theorem zgK{f:Addr}{fd:FuncData}(F:Fun K "by_place" "by_place" wW f fd)(T:Txt K mg)(L:Lam K "by_place" f)(B:zcR mg base)(C_places:Can P w K mg base 7 "places" ["sheet"] (zcq K)):FnOk P w K mg base CX0 11 f fd ["places","couples"] (zcg K):=by
 refine F.okC L zhc (fun vs H Q E h=>?_) (fun c A outer s H vs Q E hC hr h=>?_)
 ·obtain⟨a,b,ps,us,rfl,_⟩:=h
  rfl
 ·obtain⟨a,b,ps,us,rfl,hA,hB,hl,hk,u1,u2,hT,q⟩:=h
  refine⟨_,(ze (zo (pe_sortz2 rfl (hr.mono (by decide)) (by rfl) T.b_sorted (by rfl) T.b_zip rfl hC B ⟨rfl,rfl,rfl,by decide,rfl,by decide +kernel,by decide +kernel⟩ rfl (by decide) (by decide) rfl rfl (fun _ _ _ _ _ _=>rfl) (za (pv 0) (za (pv 1) zb))))),?_⟩
  refine⟨_,rfl,_,rfl,a,b,ps,us.map V.int,rfl,hA,hB,by rw[List.length_map];exact hl,by omega,by omega,hT,fun H2 ts l p sn ls pr hn hi=>?_⟩
  rw[hl] at hi
  have hm:∀i∈p.toList,i<us.length:=fun i h=>by
   rw[M15.is_idx hi hk] at h
   exact List.mem_range.mp ((M15.zh9 _ _ hk i).mp h)
  have rr:=zgs (K:=K) hl pr p.toList hm
  rw[M15.rows_of hl hk hi] at rr
  refine q l _ (p.toList.map fun i=>ts.getD i 0) (sn.trans (zh.new hn).toN) (ls.same (zh.new hn)) (sn.free hn) ?_ (rr.imp fun _ _=>TPl.stays K _ _ _ _ (zh.new hn))
  rw[List.map_map]
  exact zf
end
def zbd(K:PySem.W.Frag):Sp:=fun vs H Q _=>∃(a b:Addr) (cs:List (List Int)) (us:List Int),vs = [.ref a,.ref b]∧zds K (IL K) H a cs∧SqL K H b (us.map V.int)∧us.Nodup∧(∀d∈cs,d.Perm us)∧1≤cs.length∧cs.length≤15∧1≤us.length∧us.length≤24∧zbz (zcr K "by_place") zfB H∧∀(l:Addr) (H':Hp) (ls:List Addr),yU H H'→zbz (zcr K "by_place") zfB H'→H l=none→H' l=some (.lst (ls.map V.ref))→All2 (TPl K H') ls (M5.rows (M6.places cs us) us)→Q (.ref l) H'
section
variable {P:Program} {w:World} {K:PySem.W.Frag} {mg:Str→Option Value} {base:Heap}
theorem zeV{f:Addr}{fd:FuncData}(F:Fun K "ranking_of" "ranking_of" wm f fd)(T:Txt K mg)(C_places_of:Can P w K mg base 6 "places_of" ["cards","couples"] (yJ K))(C_by_place:Can P w K mg base 11 "by_place" ["places","couples"] (zcg K)):FnOk P w K mg base CX0 12 f fd ["cards","couples"] (zbd K):=by
 refine F.ok ze9 (fun vs H Q E h=>?_) (fun cdv A outer s H vs Q E hr h=>?_)
 ·obtain⟨a,b,cs,us,rfl,_⟩:=h
  rfl
 ·obtain⟨a,b,cs,us,rfl,hC,hU,hnd,hp,c1,c2,u1,u2,hT,q⟩:=h
  refine⟨_,(ze (zo (zi C_by_place (hr.mono (by decide)) rfl (za (zi C_places_of (hr.mono (by decide)) rfl (za (pv 0) (za (pv 1) zb))) (za (pv 1) zb))))),?_⟩
  refine⟨_,rfl,_,rfl,a,b,cs,us,rfl,hC,hU,hnd,hp,c1,c2,u1,u2,fun l1 H1 s1 f1 e1=>?_⟩
  refine⟨_,rfl,l1,b,M6.places cs us,us,rfl,SqL.of e1,s1.seq hU,M6.zT cs us,M6.zeB cs us,u1,u2,hT.same s1,fun l H' ls s2 z2 f2 e2 r2=>?_⟩
  exact q l H' ls (s1.toN.trans s2) z2 (s1.toN.free f2) e2 r2
end
def zaI(K:PySem.W.Frag):Sp:=fun vs H Q _=>∃(a b:Addr) (cs:List (List Int)) (us:List Int),vs = [.ref a,.ref b]∧zds K (IL K) H a cs∧SqL K H b (us.map V.int)∧us.Nodup∧(∀d∈cs,d.Perm us)∧1≤cs.length∧cs.length≤15∧1≤us.length∧us.length≤24∧zbz (zcr K "by_place") zfB H∧∀(l:Addr) (H':Hp) (ls:List Addr),yU H H'→zbz (zcr K "by_place") zfB H'→H l=none→H' l=some (.lst (ls.map V.ref))→All2 (F4 K H') ls (M6.wN cs us)→Q (.ref l) H'
section
variable {P:Program} {w:World} {K:PySem.W.Frag} {mg:Str→Option Value} {base:Heap}
theorem zd9{f:Addr}{fd:FuncData}(F:Fun K "partings_of" "partings_of" yp f fd)(T:Txt K mg)(C_marks_of:Can P w K mg base 2 "marks_of" ["cards","couple"] (za6 K))(C_ranking_of:Can P w K mg base 12 "ranking_of" ["cards","couples"] (zbd K))(C_parting_of:Can P w K mg base 4 "parting_of" ["one","other"] (zbi K)):FnOk P w K mg base CX0 13 f fd ["cards","couples"] (zaI K):=by
 refine F.ok yA (fun vs H Q E h=>?_) (fun cdv A outer s H vs Q E hr h=>?_)
 ·obtain⟨a,b,cs,us,rfl,_⟩:=h
  rfl
 ·obtain⟨a,b,cs,us,rfl,hC,hU,hnd,hp,c1,c2,u1,u2,hT,q⟩:=h
  refine⟨_,(zd (zgB (i:=2) (show CompScope2 (zc yp) ["cards","couples","ranked","rows","one","other","parting"] "place" "couple" [] [] _ from⟨rfl,by decide +kernel,by decide +kernel,rfl,rfl,by decide +kernel,rfl,by decide +kernel,by decide +kernel⟩) rfl yA.nd rfl (Or.inl rfl) (zX (zi C_ranking_of (hr.mono (by decide)) rfl (za (pv 0) (za (pv 1) zb)))) (fun _ _ _ _ _=>wo) (fun _ _ _ _ _=>(pv 1)))
   (zd (zz (i:=3) yA.nd rfl (Or.inl rfl) (wz zb))
   (zd (zbC PassesOwn.never rfl (pi_zip rfl T.b_zip (za (pv 2) (za (wL zcL (pv 2) (zag zg) za2) zb))) (pg_tup rfl (zcN (wb (i:=4) yA.nd rfl (Or.inl rfl)) (zcN (wb (i:=5) yA.nd rfl (Or.inl rfl)) zib)))
     (zd (zz (i:=6) yA.nd rfl (Or.inl rfl) (zi C_parting_of (hr.mono (by decide)) rfl (za (zi C_marks_of (hr.mono (by decide)) rfl (za (pv 0) (za (pv 4) zb))) (za (zi C_marks_of (hr.mono (by decide)) rfl (za (pv 0) (za (pv 5) zb))) zb))))
   (ze (zG (zr op_notN (pv 6) zd2 (zv _)) (ze (yT (zb4 PySem.F.plainAttrs_list PySem.F.slot_list_append PySem.F.type_list_append zco (pv 3) (za (zdt (za (pv 4) (za (pv 5) (za (zB zaN (pv 6) zg (fun _ _=>rfl)) (za (zB zaN (pv 6) zg (fun _ _=>rfl)) zb))))) zb)))) zu))))
   (ze (zo (pv 3)))))),?_⟩
  have hln:=zw
  refine⟨_,rfl,_,rfl,a,b,cs,us,rfl,hC,hU,hnd,hp,c1,c2,u1,u2,hT,fun l1 H1 ls s1 z1 f1 e1 r1=>?_⟩
  refine⟨l1,rfl,⟨_,SqL.of e1⟩,?_⟩
  have t1:=s1.same
  have hC1:=hC.noT
  have hmem:=fun p (hp:p∈M5.rows (M6.places cs us) us)=>M6.zcW hp
  have hrl:=M5.rows_len (M6.places cs us) us (M6.zT cs us)
  have hmul:us.length*us.length≤24*24:=Nat.mul_le_mul u2 u2
  unfold M6.wN at q
  generalize M5.rows (M6.places cs us) us=rs at r1 hrl hmem q
  have hl1:=r1.length
  refine zgC (xs:=ls.map V.ref) (fun i ys H2=>zh H1 H2∧ys=((rs.take i).map fun p=>p.2).map V.int) ⟨zh.refl _,rfl⟩ ?_ (by rw[List.length_map];omega) ?_ ?_
  ·rintro i ys H2 hi ⟨s2,rfl⟩
   refine⟨s2.seq (SqL.of e1),?_⟩
   rw[List.length_map,List.length_map,List.length_take]
   omega
  ·rintro i x ys H2 hx ⟨s2,rfl⟩
   obtain⟨p,ep,rfl⟩:=zby hx
   obtain⟨m,em,rm⟩:=r1.getL ep
   refine⟨p,_,_,rfl,s2.seqT rm,_,rfl,s2,?_⟩
   rw[List.take_succ,em,List.map_append,List.map_append]
   rfl
  ·rintro ys H2 ⟨s2,rfl⟩ l2 hl2
   rw[List.length_map,hl1,List.take_length]
   generalize hH3:upd H2 l2 _=H3
   have s23:zh H2 H3:=by rw[← hH3];exact zh.new hl2
   have e3:H3 l2=some (.lst ((rs.map fun p=>p.2).map V.int)):=by rw[← hH3];exact zf
   have s13:=s2.trans s23
   refine⟨by decide,fun p4 hp4=>?_⟩
   have e4:(upd H3 p4 (.lst [])) l2=some (.lst ((rs.map fun p=>p.2).map V.int)):=(zh.new hp4) _ _ e3
   refine⟨_,rfl,_,rfl,_,rfl,l2,_,rfl,SqL.of e4,fun l5 hl5=>?_⟩
   rw[zdb (by decide)]
   have s4:=zh.new (o:=.lst []) hp4
   have s5:=zh.new (o:=.lst (((rs.map fun p=>p.2).drop (1:Int).toNat).map V.int)) hl5
   have n45:p4≠l5:=zq zf hl5
   have e6:upd (upd H3 p4 (.lst [])) l5 (.lst (((rs.map fun p=>p.2).drop (1:Int).toNat).map V.int)) p4=some (.lst (([]:List Addr).map V.ref)):=by rw[zj n45];exact zf
   have e5:upd (upd H3 p4 (.lst [])) l5 (.lst (((rs.map fun p=>p.2).drop (1:Int).toNat).map V.int)) l5=some (.lst (((rs.map fun p=>p.2).drop 1).map V.int)):=zf
   have s36:=s4.trans s5
   generalize hH6:upd (upd H3 p4 (.lst [])) l5 _=H6 at e6 e5 s36 ⊢
   have hf5:H3 l5=none:=s4.free hl5
   refine⟨l2,l5,_,_,rfl,SqL.of (s36 _ _ e3),SqL.of e5,?_⟩
   refine for_zip (xs:=(rs.map fun p=>p.2).map V.int) (ys:=((rs.map fun p=>p.2).drop 1).map V.int) (fun i σ H7=>∃(v4 v5 v6:Option V) (ms:List Addr),σ = [some (.ref a),some (.ref b),some (.ref l2),some (.ref p4),v4,v5,v6]∧zh H3 H7∧H7 l5=some (.lst (((rs.map fun p=>p.2).drop 1).map V.int))∧H7 p4=some (.lst (ms.map V.ref))∧All2 (F4 K H7) ms (((rs.zip rs.tail).take i).filterMap fun pq=>M6.nb cs us pq.1 pq.2)) ⟨_,_,_,[],rfl,s36,e5,e6,.nil⟩ ?_ ?_ ?_
   ·rintro i σ H7 hi ⟨v4,v5,v6,ms,rfl,s7,f5,f4,r7⟩
    exact⟨SqL.of (s7 _ _ e3),SqL.of f5⟩
   ·rintro i x y t σ H7 hx hy hn ⟨v4,v5,v6,ms,rfl,s7,f5,f4,r7⟩
    rw[List.getElem?_map,List.getElem?_map] at hx
    rw[List.getElem?_map,List.getElem?_drop,List.getElem?_map,Nat.add_comm] at hy
    cases ea:rs[i]? with
    | none=>rw[ea] at hx;cases hx
    | some pa =>
      cases eb:rs[i+1]? with
      | none=>rw[eb] at hy;cases hy
      | some pb =>
        rw[ea] at hx
        rw[eb] at hy
        cases hx
        cases hy
        have ez:(rs.zip rs.tail)[i]? = some (pa,pb):=by rw[List.getElem?_zip_eq_some];exact⟨ea,by rw[List.getElem?_tail];exact eb⟩
        obtain⟨ma1,ma2⟩:=hmem _ (List.mem_of_getElem? ea)
        obtain⟨mb1,mb2⟩:=hmem _ (List.mem_of_getElem? eb)
        have s8:=zh.new (o:=.tup [.int pa.2,.int pb.2]) hn
        refine⟨t,_,rfl,SqT.new,rfl,_,_,rfl,_,_,rfl,rfl,?_⟩
        have t8:=((t1.trans (s2.trans s23)).trans s7).trans s8
        have f48:=s8 _ _ f4
        have f58:=s8 _ _ f5
        have r8:=r7.imp fun _ _=>F4.stays K _ _ _ _ s8
        have s38:=s7.trans s8
        generalize hH8:upd H7 t _=H8 at s8 t8 f48 f58 r8 s38 ⊢
        refine⟨_,rfl,_,rfl,a,cs,_,rfl,hC1.same (IL.stays K) t8,by omega,fun d hd=>(hp d hd).mem_iff.mpr ma1,fun l9 H9 s9 f9 e9=>?_⟩
        refine⟨_,rfl,_,rfl,a,cs,_,rfl,hC1.same (IL.stays K) (t8.trans s9),by omega,fun d hd=>(hp d hd).mem_iff.mpr mb1,fun l10 H10 s10 f10 e10=>?_⟩
        have rng:∀d∈us,∀x∈M5.zm cs d,1≤x∧x≤24:=fun d hd x hx=>by have:=M6.wD hp hd x hx;omega
        refine⟨l9,l10,_,_,rfl,SqL.of (s10 _ _ e9),SqL.of e10,by rw[M5.wJ,M5.wJ],by rw[M5.wJ];omega,by rw[M5.wJ];omega,rng _ ma1,rng _ mb1,fun r hr v H11 s11 told=>?_⟩
        have hnb:=M6.nb_part hp u1 u2 ma1 mb1 hr
        rw[← ma2,← mb2] at hnb
        have s811:=s9.trans (s10.trans s11)
        have f4':=s811 _ _ f48
        have f5':=s811 _ _ f58
        have r11:=r8.imp fun _ _=>F4.stays K _ _ _ _ s811
        have s311:=s38.trans s811
        cases r with
        | none =>
          have told:v=.non:=told
          subst told
          have ef:List.filterMap (fun pq:(Int × Int) × (Int × Int)=>M6.nb cs us pq.1 pq.2) (some (pa,pb)).toList = []:=by
           show List.filterMap _ [(pa,pb)]=_
           rw[List.filterMap_cons_none (f:=fun pq:(Int × Int) × (Int × Int)=>M6.nb cs us pq.1 pq.2) (a:=(pa,pb)) hnb,List.filterMap_nil]
          refine⟨_,rfl,rfl,_,rfl,iteNS rfl ?_⟩
          refine⟨_,_,_,ms,rfl,s311,f5',f4',?_⟩
          rw[List.take_succ,ez,List.filterMap_append,ef,List.append_nil]
          exact r11
        | some r =>
          obtain⟨l12,rfl,hT12⟩:=told
          have ef:List.filterMap (fun pq:(Int × Int) × (Int × Int)=>M6.nb cs us pq.1 pq.2) (some (pa,pb)).toList = [(pa.2,pb.2,(r.1:Int),r.2)]:=by
           show List.filterMap _ [(pa,pb)]=_
           rw[List.filterMap_cons_some (f:=fun pq:(Int × Int) × (Int × Int)=>M6.nb cs us pq.1 pq.2) (a:=(pa,pb)) hnb,List.filterMap_nil]
          refine⟨_,rfl,rfl,_,rfl,yH (fun _=>?_) (fun z=>by cases z)⟩
          refine⟨_,rfl,.inl ⟨rfl,_,SqL.of f4'⟩,_,rfl,_,rfl,_,rfl,l12,_,_,_,rfl,rfl,hT12,rfl,_,rfl,l12,_,_,_,rfl,rfl,hT12,rfl,(by show 4≤sizeLine;decide),fun p13 hp13=>?_⟩
          have s13:=zh.new (o:=.tup [.int pa.2,.int pb.2,.int (r.1:Nat),.str r.2]) hp13
          have hl2:=r7.length
          have hfl:=List.length_filterMap_le (fun pq:(Int × Int) × (Int × Int)=>M6.nb cs us pq.1 pq.2) ((rs.zip rs.tail).take i)
          rw[List.length_take,List.length_zip] at hfl
          refine⟨p4,_,_,rfl,rfl,s13 _ _ f4',by rw[List.length_map];omega,?_⟩
          refine⟨_,_,_,ms ++ [p13],rfl,(s311.trans s13).put hp4,by rw[zj (Ne.symm n45)];exact s13 _ _ f5',zg7 ms p13,?_⟩
          rw[List.take_succ,ez,List.filterMap_append,ef]
          refine All2.snoc (F4.put (r11.imp fun _ _=>F4.stays K _ _ _ _ s13) (s13 _ _ f4')) ?_
          exact SqT.put (ys:=ms.map V.ref) SqT.new (s13 _ _ f4')
   ·rintro σ H7 ⟨v4,v5,v6,ms,rfl,s7,f5,f4,r7⟩
    rw[List.length_map,List.length_map,List.length_map,List.length_drop,List.length_map,List.take_of_length_le (by rw[List.length_zip,List.length_tail];omega)] at r7
    refine⟨_,rfl,q p4 H7 ms ?_ (z1.same (s13.trans s7)) ?_ f4 r7⟩
    ·exact s1.trans (zh.toN (s13.trans s7))
    ·exact s1.free (s13.free hp4)
end
def zbX(K:PySem.W.Frag):Sp:=fun vs H Q _=>∃(p:Addr) (F:Addr→Prop) (S:Sh),vs = [.ref p]∧zx K H p F S∧1≤S.handed.length∧zbz (zcr K "by_place") zfB H∧∀(l:Addr) (H':Hp) (ls:List Addr),yU H H'→zbz (zcr K "by_place") zfB H'→H l=none→H' l=some (.lst (ls.map V.ref))→All2 (F4 K H') ls (M6.wN S.cardsIn S.couples)→Q (.ref l) H'
section
variable {P:Program} {w:World} {K:PySem.W.Frag} {mg:Str→Option Value} {base:Heap}
theorem zhi{f:Addr}{fd:FuncData}(F:Fun K "partings" "partings" w9 f fd)(T:Txt K mg)(C_partings_of:Can P w K mg base 13 "partings_of" ["cards","couples"] (zaI K))(C_refuse_fewer_cards:Can P w K mg base 2 "refuse_fewer_cards" ["sheet","least"] (zF K))(C_Sheet_couples:CanM P w K mg base 1 (zN K "Sheet") "couples" ["self"] (zM K))(C_Sheet_cards:CanM P w K mg base 3 (zN K "Sheet") "cards" ["self"] (y6 K)):FnOk P w K mg base CX0 14 f fd ["sheet"] (zbX K):=by
 refine F.ok zgL (fun vs H Q E h=>?_) (fun cdv A outer s H vs Q E hr h=>?_)
 ·obtain⟨p,F,S,rfl,_⟩:=h
  rfl
 ·obtain⟨p,F,S,rfl,hSh,h1,hT,q⟩:=h
  refine⟨_,(zd (yT (zi C_refuse_fewer_cards (hr.mono (by decide)) rfl (za (pv 0) (za zg zb))))
   (ze (zo (zi C_partings_of (hr.mono (by decide)) rfl (za (ye C_Sheet_cards T.cl_Sheet (hr.mono (by decide)) (pv 0)) (za (ye C_Sheet_couples T.cl_Sheet (hr.mono (by decide)) (pv 0)) zb)))))),?_⟩
  have ok:=hSh.ok
  have h15:S.handed.length≤15:=Nat.le_trans (List.length_filter_le _ _) ok.p15
  have c24:=ok.c24
  obtain⟨dx,b1,b2,b3,d,hip⟩:=hSh.ins
  refine⟨_,rfl,p,F,S,1,rfl,hSh,by omega,fun H1 s1=>?_⟩
  refine⟨_,rfl,p,dx,_,rfl,s1 _ _ hip,rfl,p,F,S,rfl,hSh.same s1,fun l2 H2 ls s2 f2 e2 r2=>?_⟩
  have t2:=s1.trans s2
  refine⟨_,rfl,p,dx,_,rfl,t2 _ _ hip,rfl,p,F,S,rfl,hSh.same t2,fun l3 H3 s3 f3 e3=>?_⟩
  have t3:=t2.trans s3
  refine⟨l2,l3,S.cardsIn,S.couples,rfl,⟨ls,SqL.of (s3 _ _ e2),r2.imp fun _ _ z=>SqL.of (s3 _ _ z.2)⟩,SqL.of e3,ok.nd,Sh.cardsIn_perm ok,by rw[Sh.cardsIn_len];exact h1,by rw[Sh.cardsIn_len];exact h15,ok.c1,by omega,hT.same t3,fun l4 H4 ls4 s4 z4 f4 e4 r4=>?_⟩
  exact q l4 H4 ls4 (t3.toN.trans s4) z4 (t3.free f4) e4 r4
end
def zfR(K:PySem.W.Frag):Sp:=fun vs H Q _=>∃(a:Addr) (ns:List Int),vs = [.ref a]∧SqL K H a (ns.map V.int)∧ns.length≤63∧H (zcr K "by_place")=some (.tbl #[])∧∀H',Q (.bl true) H'
section
variable {P:Program} {w:World} {K:PySem.W.Frag} {mg:Str→Option Value} {base:Heap}
theorem ok_law{f:Addr}{fd:FuncData}(F:Fun K "law" "law" za5 f fd)(T:Txt K mg)(C_places:Can P w K mg base 7 "places" ["sheet"] (zcq K))(C_partings:Can P w K mg base 14 "partings" ["sheet"] (zbX K))(C_left_out:Can P w K mg base 7 "left_out" ["sheet","judge"] (zbZ K))(C_law_at:Can P w K mg base 1 "_law_at" ["_law_script","_law_k"] (zcm K))(C_law_many:Can P w K mg base 1 "_law_many" ["_law_mode","_law_cell","_law_least","_law_few","_law_most"] (zcd K))(C_law_some:Can P w K mg base 1 "_law_some" ["_law_row","_law_cell"] (zbY K))(C_law_couples:Can P w K mg base 1 "_law_couples" ["_law_cell","_law_many_here"] (zaM K))(C_law_judges:Can P w K mg base 1 "_law_judges" ["_law_cell","_law_many_here"] (zbe K))(C_law_card:Can P w K mg base 2 "_law_card" ["_law_cell","_law_couples_here","_law_style"] (za3 K))(C_law_panel:Can P w K mg base 3 "_law_panel" ["_law_script","_law_start","_law_couples_here","_law_many_here","_law_style","_law_mode"] (zbG K))(C_law_sheet:Can P w K mg base 6 "_law_sheet" ["_law_couples_here","_law_names","_law_cards"] (zbL K))(C_law_follows:Can P w K mg base 3 "_law_follows" ["_law_found","_law_beside","_law_order"] (wO K))(C_law_parted:Can P w K mg base 1 "_law_parted" ["_law_found","_law_beside"] (zbj K))(C_law_step:Can P w K mg base 8 "_law_step" ["_law_sheets","_law_judges_here","_law_card_here","_law_order"] (zbW K))(C_law_deciders:Can P w K mg base 10 "_law_deciders" ["_law_sheets","_law_names","_law_others","_law_seats"] (zaq K)):FnOk P w K mg base CX0 15 f fd ["_law_script"] (zfR K):=by
 refine F.ok yQ (fun vs H Q E h=>?_) (fun cdv A outer s H vs Q E hr h=>?_)
 ·obtain⟨a,ns,rfl,_⟩:=h
  rfl
 ·obtain⟨a,ns,rfl,hS,hz,hT,q⟩:=h
  refine⟨_,(zd (zz (i:=1) yQ.nd rfl (Or.inl rfl) (zD yY (zi C_law_at (hr.mono (by decide)) rfl (za (pv 0) (za zg zb))) zg))
   (zd (zz (i:=2) yQ.nd rfl (Or.inr rfl) (zi C_law_couples (hr.mono (by decide)) rfl (za (zi C_law_at (hr.mono (by decide)) rfl (za (pv 0) (za zg zb))) (za (zi C_law_many (hr.mono (by decide)) rfl (za (pv 1) (za (zi C_law_at (hr.mono (by decide)) rfl (za (pv 0) (za zg zb))) (za zg (za zg (za zg zb)))))) zb))))
   (zd (zz (i:=3) yQ.nd rfl (Or.inl rfl) (zi C_law_judges (hr.mono (by decide)) rfl (za (zi C_law_at (hr.mono (by decide)) rfl (za (pv 0) (za zg zb))) (za (zi C_law_many (hr.mono (by decide)) rfl (za (pv 1) (za (zi C_law_at (hr.mono (by decide)) rfl (za (pv 0) (za zg zb))) (za zg (za zg (za zg zb)))))) zb))))
   (zd (zz (i:=4) yQ.nd rfl (Or.inr rfl) (zi C_law_panel (hr.mono (by decide)) rfl (za (pv 0) (za zg (za (pv 2) (za (zl zk (by rfl) T.b_len PySem.boot_len (za (pv 3) zb)) (za (zD yY (zi C_law_at (hr.mono (by decide)) rfl (za (pv 0) (za zg zb))) zg) (za (pv 1) zb))))))))
   (zd (zgf (zG (zr zdA (zl zk (by rfl) T.b_len PySem.boot_len (za (zU (show CompScope (zc za5) ["_law_script","_law_mode","_law_couples_here","_law_names","_law_cards","_law_order","_law_seats","_law_numbers","_law_others","_law_fresh","_law_first","_law_second","_law_into","_law_k","_law_here","_law_there","_law_who","_law_pairs"] "_law_card_here" [] [] _ from⟨rfl,by decide +kernel,by decide +kernel,rfl,by decide +kernel,rfl,by decide +kernel,by decide +kernel⟩) rfl (zX (pv 4)) (fun _ _ _ _ _=>(zbc (zr (zbV (K:=K) rfl hr.units0) (pv 0) (wz zb) (zv _)))) (fun _ _ _ _ _=>(pv 0))) zb)) zg (zv _)) (zd (ps_asg (yk zO (by rfl) T.b_list PyProof.Rows.boot_list (za (pv 2) zb)) (pg_sub (pv 4) zg zgv))
   (ze (ps_asg (pe_rev (pv 2) (zen zcH zg)) (pg_sub (pv 4) zg zgv)))) zu))
   (zd (zz (i:=5) yQ.nd rfl (Or.inr rfl) (zi C_law_card (hr.mono (by decide)) rfl (za (zi C_law_at (hr.mono (by decide)) rfl (za (pv 0) (za zg zb))) (za (zc5 rfl rfl T.b_list rfl T.b_range (za (zl zk (by rfl) T.b_len PySem.boot_len (za (pv 2) zb)) zb)) (za zg zb)))))
   (zd (zz (i:=6) yQ.nd rfl (Or.inl rfl) (zi C_law_card (hr.mono (by decide)) rfl (za (zi C_law_at (hr.mono (by decide)) rfl (za (pv 0) (za zg zb))) (za (zc5 rfl rfl T.b_list rfl T.b_range (za (zl zk (by rfl) T.b_len PySem.boot_len (za (pv 3) zb)) zb)) (za zg zb)))))
   (zd (zz (i:=7) yQ.nd rfl (Or.inr rfl) (zi C_law_couples (hr.mono (by decide)) rfl (za (zi C_law_at (hr.mono (by decide)) rfl (za (pv 0) (za zg zb))) (za (zl zk (by rfl) T.b_len PySem.boot_len (za (pv 2) zb)) zb))))
   (zd (zz (i:=8) yQ.nd rfl (Or.inl rfl) (zi C_law_judges (hr.mono (by decide)) rfl (za (zi C_law_at (hr.mono (by decide)) rfl (za (pv 0) (za zg zb))) (za (zl zk (by rfl) T.b_len PySem.boot_len (za (pv 3) zb)) zb))))
   (zd (zz (i:=9) yQ.nd rfl (Or.inr rfl) (zU (show CompScope (zc za5) ["_law_script","_law_mode","_law_couples_here","_law_names","_law_cards","_law_order","_law_seats","_law_numbers","_law_others","_law_fresh","_law_first","_law_second","_law_into","_law_k","_law_here","_law_there","_law_who","_law_pairs"] "_law_card_here" ["_law_couples_here","_law_order","_law_numbers"] [2,5,7] _ from⟨rfl,by decide +kernel,by decide +kernel,rfl,by decide +kernel,rfl,by decide +kernel,by decide +kernel⟩) rfl (zX (pv 4)) (fun _ _ _ _ _=>wo) (fun _ _ _ _ _=>(zU (CompScope.under (show CompScope _ ["_law_card_here","_law_couples_here","_law_order","_law_numbers"] "_law_couple" ["_law_couples_here","_law_order","_law_numbers"] [1,2,3] _ from⟨rfl,by decide +kernel,by decide +kernel,rfl,by decide +kernel,rfl,by decide +kernel,by decide +kernel⟩)) rfl (pi_listK (K:=K) rfl (pv 0)) (fun _ _ _ _ _=>wo) (fun _ _ _ _ _=>(zB (yD (K:=K) rfl) (pv 3) (pe_bmK (K:=K) rfl PySem.F.plainAttrs_list PySem.F.slot_list_index PySem.F.type_list_index (zfi (K:=K) rfl) (pv 2) (za (pe_bmK (K:=K) rfl PySem.F.plainAttrs_list PySem.F.slot_list_index PySem.F.type_list_index (zfi (K:=K) rfl) (pv 1) (za (pv 0) zb)) zb)) (fun _ _=>rfl)))))))
   (zd (zz (i:=10) yQ.nd rfl (Or.inl rfl) (zi C_law_sheet (hr.mono (by decide)) rfl (za (pv 2) (za (pv 3) (za (pv 4) zb)))))
   (zd (zz (i:=11) yQ.nd rfl (Or.inl rfl) (zi C_law_sheet (hr.mono (by decide)) rfl (za (pv 7) (za (pv 8) (za (zU (show CompScope (zc za5) ["_law_script","_law_mode","_law_couples_here","_law_names","_law_cards","_law_order","_law_seats","_law_numbers","_law_others","_law_fresh","_law_first","_law_second","_law_into","_law_k","_law_here","_law_there","_law_who","_law_pairs"] "_law_k" ["_law_fresh"] [9] _ from⟨rfl,by decide +kernel,by decide +kernel,rfl,by decide +kernel,rfl,by decide +kernel,by decide +kernel⟩) rfl (zX (pv 6)) (fun _ _ _ _ _=>wo) (fun _ _ _ _ _=>(zB (yD (K:=K) rfl) (pv 1) (pv 0) (fun _ _=>rfl)))) zb)))))
   (zd (zG (yt (yc (zi C_law_follows (hr.mono (by decide)) rfl (za (zi C_places (hr.mono (by decide)) rfl (za (pv 10) zb)) (za (zi C_places (hr.mono (by decide)) rfl (za (pv 11) zb)) (za (pv 5) zb)))))) (ze (zo wt)) zu)
   (zd (zG (yt (yc (zi C_law_parted (hr.mono (by decide)) rfl (za (zi C_partings (hr.mono (by decide)) rfl (za (pv 10) zb)) (za (zi C_partings (hr.mono (by decide)) rfl (za (pv 11) zb)) zb))))) (ze (zo wt)) zu)
   (zd (zcI (i:=12) (show CompScope (zc za5) ["_law_script","_law_mode","_law_couples_here","_law_names","_law_cards","_law_order","_law_seats","_law_numbers","_law_others","_law_fresh","_law_first","_law_second","_law_into","_law_k","_law_here","_law_there","_law_who","_law_pairs"] "_law_k" ["_law_cards"] [4] _ from⟨rfl,by decide +kernel,by decide +kernel,rfl,by decide +kernel,rfl,by decide +kernel,by decide +kernel⟩) rfl yQ.nd rfl (Or.inl rfl) (yC rfl T.b_range (za (zl zk (by rfl) T.b_len PySem.boot_len (za (pv 3) zb)) zb)) (fun _ _ _ _ _=>(zbc (zr (zbV (K:=K) rfl hr.units0) (zB (yD (K:=K) rfl) (pv 1) (pv 0) (fun _ _=>rfl)) (wz zb) (zv _)))) (fun _ _ _ _ _=>(pv 0)))
   (zd (zbC PassesOwn.never rfl (zX (zi C_law_some (hr.mono (by decide)) rfl (za (pv 12) (za (zi C_law_at (hr.mono (by decide)) rfl (za (pv 0) (za zg zb))) zb)))) (wb (i:=13) yQ.nd rfl (Or.inl rfl))
     (zd (zz (i:=14) yQ.nd rfl (Or.inl rfl) (zi C_left_out (hr.mono (by decide)) rfl (za (pv 10) (za (zB zy (pv 3) (pv 13) (fun _ _=>rfl)) zb))))
   (zd (zz (i:=15) yQ.nd rfl (Or.inl rfl) (zi C_left_out (hr.mono (by decide)) rfl (za (pv 11) (za (zB zy (pv 8) (zb4 PySem.F.plainAttrs_list PySem.F.slot_list_index PySem.F.type_list_index zbo (pv 6) (za (pv 13) zb)) (fun _ _=>rfl)) zb))))
   (ze (zG (yt (yc (zi C_law_follows (hr.mono (by decide)) rfl (za (pv 14) (za (pv 15) (za (pv 5) zb)))))) (ze (zo wt)) zu)))))
   (zd (zgf (zG (PW.pt (pw_and (zr zdA (zl zk (by rfl) T.b_len PySem.boot_len (za (pv 12) zb)) zg (zv _)) (zil (yt (yc (zi C_law_deciders (hr.mono (by decide)) rfl (za (wz (za (pv 10) (za (pv 11) zb))) (za (pv 3) (za (pv 8) (za (pv 6) zb)))))))))) (ze (zo wt)) zu))
   (zd (zz (i:=16) yQ.nd rfl (Or.inr rfl) (zB zy (pv 12) (zD yY (zi C_law_at (hr.mono (by decide)) rfl (za (pv 0) (za zg zb))) (zl zk (by rfl) T.b_len PySem.boot_len (za (pv 12) zb))) (fun _ _=>rfl)))
   (zd (zcI (i:=17) (show CompScope (zc za5) ["_law_script","_law_mode","_law_couples_here","_law_names","_law_cards","_law_order","_law_seats","_law_numbers","_law_others","_law_fresh","_law_first","_law_second","_law_into","_law_k","_law_here","_law_there","_law_who","_law_pairs"] "_law_k" ["_law_cards","_law_fresh","_law_who"] [4,9,16] _ from⟨rfl,by decide +kernel,by decide +kernel,rfl,by decide +kernel,rfl,by decide +kernel,by decide +kernel⟩) rfl yQ.nd rfl (Or.inl rfl) (yC rfl T.b_range (za (zl zk (by rfl) T.b_len PySem.boot_len (za (pv 2) zb)) zb)) (fun _ _ _ _ _=>wo) (fun _ _ _ _ _=>(zdt (za (zB (yD (K:=K) rfl) (zB (yD (K:=K) rfl) (pv 1) (pv 3) (fun _ _=>rfl)) (pv 0) (fun _ _=>rfl)) (za (zB (yD (K:=K) rfl) (zB (yD (K:=K) rfl) (pv 2) (pv 3) (fun _ _=>rfl)) (pv 0) (fun _ _=>rfl)) zb)))))
   (ze (zo (zi C_law_step (hr.mono (by decide)) rfl (za (wz (za (pv 10) (za (pv 11) zb))) (za (wz (za (zB zy (pv 3) (pv 16) (fun _ _=>rfl)) (za (zB zy (pv 8) (zb4 PySem.F.plainAttrs_list PySem.F.slot_list_index PySem.F.type_list_index zbo (pv 6) (za (pv 16) zb)) (fun _ _=>rfl)) zb))) (za (pv 17) (za (pv 5) zb)))))))))))))))))))))))))),?_⟩
  have hln:=zw
  refine⟨_,rfl,a,ns,2,rfl,hS,by decide,_,_,rfl,rfl,(by show(0:Int)<16;decide),?_⟩
  dsimp only
  generalize ns.getD (2:Int).toNat 0%16=md
  refine⟨_,rfl,a,ns,4,rfl,hS,by decide,_,rfl,_,rfl,a,ns,0,rfl,hS,by decide,_,_,_,_,_,rfl,by decide,by decide,fun many m1 m2=>?_⟩
  refine⟨_,_,rfl,by omega,by omega,fun l1 H1 s1 f1 e1=>?_⟩
  generalize hus:M1.couples _ _=us at e1
  have hul:us.length=many.toNat:=by rw[← hus,M1.zb2]
  have hun:us.Nodup:=by rw[← hus];exact M1.zcu (by omega)
  have hur:∀x∈us,1≤x∧x≤999:=fun x hx=>by rw[← hus] at hx;exact M1.zcx hx
  have hgc:M1.zbq us=true:=(M1.zc9 us).mpr ⟨by omega,hun,hur⟩
  refine⟨_,rfl,a,ns,5,rfl,s1.seq hS,by decide,_,rfl,_,rfl,a,ns,1,rfl,s1.seq hS,by decide,_,_,_,_,_,rfl,by decide,by decide,fun panel p1 p2=>?_⟩
  refine⟨_,_,rfl,by omega,by omega,fun l2 H2 ts s2 f2 e2 htl htn htg=>?_⟩
  have hgj:M2.zb9 ts=true:=(M2.zcn ts).mpr ⟨by omega,htn,fun z hz=>(M2.zck z).mp (htg z hz)⟩
  have t2:=s1.trans s2
  have hune:us ≠ []:=by intro z;rw[z] at hul;simp at hul;omega
  have htne:ts ≠ []:=by intro z;rw[z] at htl;simp at htl;omega
  refine⟨_,rfl,_,rfl,_,rfl,l2,_,rfl,.inl (SqL.of e2),_,rfl,a,ns,3,rfl,t2.seq hS,by decide,_,_,rfl,rfl,(by show(0:Int)<4;decide),_,rfl,a,l1,ns,us,6,_,_,md,rfl,t2.seq hS,SqL.of (s2 _ _ e1),by decide,by omega,by rw[List.length_map];omega,hune,by omega,fun lc H3 ls cs s3 f3 e3 r3 hcl hcd=>?_⟩
  rw[List.length_map] at hcl
  have hcl:cs.length=ts.length:=by omega
  have hll:=r3.length
  have htl2:2≤ts.length:=by omega
  have u3:=s3 _ _ (s2 _ _ e1)
  -- two cards at least
  refine⟨fun σ' H'=>∃(ls:List Addr) (cs:List (List Int)),σ' = [some (.ref a),some (.int md),some (.ref l1),some (.ref l2),some (.ref lc),none,none,none,none,none,none,none,none,none,none,none,none,none]∧zh H2 H'∧H' lc=some (.lst (ls.map V.ref))∧All2 (fun l c=>H' l=some (.lst (c.map V.int))) ls cs∧cs.length=ts.length∧(∀d∈cs,d = []∨d.Perm us)∧2≤(cs.filter fun d => !decide (d = [])).length,?_,?_⟩
  ·refine⟨_,rfl,lc,rfl,⟨_,SqL.of e3⟩,?_⟩
   refine comp_some (SqL.of e3) (r3.imp fun _ _ z=>SqL.of z) (by omega) (fun m d H' Q hm h=>?_) (fun m H' Q h=>⟨_,rfl,h⟩) fun ks H4 s4 r4=>?_
   ·refine⟨_,rfl,(by show 0≤sizeLine;decide),fun l6 hl6=>?_⟩
    have s6:=zh.new (o:=.lst []) hl6
    refine⟨m,l6,_,[],rfl,rfl,s6.seq hm,SqL.new,zP _,rfl,_,rfl,?_⟩
    rw[show eqL (d.map V.int) []=decide (d = [])from zbr _ []]
    exact h _ s6
   intro l5 hl5
   have s5:=s4.newT (o:=.lst (ks.map V.ref)) hl5
   refine⟨l5,_,rfl,.inl SqL.new,_,_,rfl,rfl,_,rfl,?_⟩
   rw[List.length_map,r4.length]
   generalize hH5:upd H4 l5 _=H5 at s5 ⊢
   refine wS (fun hlt=>?_) (fun hge=>?_)
   ·refine⟨_,rfl,l1,_,rfl,.inl (SqL.of (s5 _ _ u3)),fun l6 hl6=>?_⟩
    have s6:=s5.newT (o:=.lst (us.map V.int)) hl6
    have e6:upd H5 l6 (.lst (us.map V.int)) l6=some (.lst (us.map V.int)):=zf
    have c6:=s6 _ _ e3
    have r6:All2 (fun(l:Addr) (c:List Int)=>upd H5 l6 (.lst (us.map V.int)) l=some (.lst (c.map V.int))) ls cs:=r3.imp fun l c z=>s6 l _ z
    have v6:=s6 _ _ u3
    have t6:=s3.trans s6
    generalize hH6:upd H5 l6 _=H6 at e6 c6 r6 v6 t6 ⊢
    have hlne:ls ≠ []:=by intro z;rw[z] at hll;simp at hll;omega
    refine⟨_,rfl,lc,_,_,0,rfl,rfl,c6,(by unfold ixN;rw[if_pos (by decide),if_pos (by rw[List.length_map];omega)];rfl),?_⟩
    have hne:∀{l:Addr} {c:List Int},H6 l=some (.lst (c.map V.int))→l≠lc:=fun {l c} z=>zaw z c6 (zdX hlne)
    have g1:upd H6 lc (.lst ((ls.map V.ref).set 0 (.ref l6))) l1=some (.lst (us.map V.int)):=by rw[zj (hne v6)];exact v6
    refine⟨_,rfl,_,rfl,rfl,l1,_,rfl,SqL.of g1,fun l7 hl7=>?_⟩
    rw[← List.map_reverse]
    have s7:=zh.new (o:=.lst (us.reverse.map V.int)) hl7
    have n7:lc≠l7:=zq zf hl7
    have c7:upd (upd H6 lc (.lst ((ls.map V.ref).set 0 (.ref l6)))) l7 (.lst (us.reverse.map V.int)) lc=some (.lst ((ls.map V.ref).set 0 (.ref l6))):=by rw[zj n7];exact zf
    refine⟨_,rfl,lc,_,_,1,rfl,rfl,c7,(by unfold ixN;rw[if_pos (by decide),if_pos (by rw[List.length_set,List.length_map];omega)];rfl),?_⟩
    have n67:l6≠l7:=zq (by rw[zj (hne e6)];exact e6) hl7
    have hA7:All2 (fun(l:Addr) (c:List Int)=>upd (upd H6 lc (.lst ((ls.map V.ref).set 0 (.ref l6)))) l7 (.lst (us.reverse.map V.int)) l=some (.lst (c.map V.int))) (ls.set 0 l6) (cs.set 0 us):=by
     refine All2.set (r6.imp fun l c z=>?_) ?_ 0
     ·have z1:upd H6 lc (.lst ((ls.map V.ref).set 0 (.ref l6))) l=some (.lst (c.map V.int)):=by rw[zj (hne z)];exact z
      exact s7 _ _ z1
     ·rw[zj n67,zj (hne e6)];exact e6
    have e7:upd (upd H6 lc (.lst ((ls.map V.ref).set 0 (.ref l6)))) l7 (.lst (us.reverse.map V.int)) l7=some (.lst (us.reverse.map V.int)):=zf
    have t7:∀b o,H2 b=some o→upd (upd H6 lc (.lst ((ls.map V.ref).set 0 (.ref l6)))) l7 (.lst (us.reverse.map V.int)) b=some o:=fun b o z=>s7 _ _ (by rw[zj (zq z f3)];exact t6 _ _ z)
    generalize hH7:upd (upd H6 lc _) l7 _=H7 at c7 hA7 e7 t7 ⊢
    have hlne7:ls.set 0 l6 ≠ []:=by intro z;have:=congrArg List.length z;simp at this;exact hlne this
    have c7':H7 lc=some (.lst ((ls.set 0 l6).map V.ref)):=by rw[c7,List.map_set]
    have hne7:∀{l:Addr} {c:List Int},H7 l=some (.lst (c.map V.int))→l≠lc:=fun {l c} z=>zaw z c7' (zdX hlne7)
    refine⟨(ls.set 0 l6).set 1 l7,(cs.set 0 us).set 1 us.reverse,rfl,fun b o z=>?_,?_,?_,by rw[List.length_set,List.length_set];exact hcl,fun d hd=>?_,?_⟩
    ·rw[zj (zq z f3)];exact t7 b o z
    ·rw[zf,List.map_set,List.map_set]
    ·refine All2.set (hA7.imp fun l c z=>?_) ?_ 1
     ·rw[zj (hne7 z)];exact z
     ·rw[zj (hne7 e7)];exact e7
    ·rcases List.mem_or_eq_of_mem_set hd with hd | rfl
     ·rcases List.mem_or_eq_of_mem_set hd with hd | rfl
      ·exact hcd d hd
      ·exact .inr (List.Perm.refl _)
     ·exact .inr (List.reverse_perm _)
    ·match cs,hcl with
     | c0::c1::r,_ =>
       show 2≤(List.filter (fun d => !decide (d = [])) (us::us.reverse::r)).length
       rw[List.filter_cons,if_pos (by rw[decide_eq_false hune];rfl),List.filter_cons,if_pos (by rw[decide_eq_false (by intro z;exact hune (List.reverse_eq_nil_iff.mp z))];rfl)]
       simp
     | [c0],h=>simp at h;omega
     | [],h=>simp at h;omega
   ·exact⟨ls,cs,rfl,s3.trans s5,s5 _ _ e3,r3.imp fun l c z=>s5 l _ z,hcl,hcd,by omega⟩
  rintro σ' H4 ⟨ls,cs,rfl,s4,e4,r4,hcl,hcd,hc2⟩
  clear r3 e3 u3 f3
  have hll:=r4.length
  have t4:=t2.trans s4
  have u4:=s4 _ _ (s2 _ _ e1)
  have j4:=s4 _ _ e2
  have a4:=t4.seq hS
  -- another order
  refine⟨_,rfl,a,ns,21,rfl,a4,by decide,_,rfl,l1,_,rfl,.inl (SqL.of u4),_,rfl,by rw[List.length_map];omega,fun l5 hl5=>?_⟩
  have s5:=zh.new (o:=.lst ((ww (us.map V.int).length).map V.int)) hl5
  refine⟨_,l5,_,_,rfl,SqL.new,(fun z=>by have:=congrArg List.length z;rw[wq,List.length_map,List.length_nil] at this;omega),by rw[wq,List.length_map];omega,fun lo H6 os s6 f6 e6 po=>?_⟩
  rw[List.length_map] at po
  have t6:=s5.trans s6
  refine⟨_,rfl,a,ns,22,rfl,t6.seq a4,by decide,_,rfl,l2,_,rfl,.inl (SqL.of (t6 _ _ j4)),_,rfl,by rw[List.length_map];omega,fun l7 hl7=>?_⟩
  have s7:=zh.new (o:=.lst ((ww (ts.map V.str).length).map V.int)) hl7
  refine⟨_,l7,_,_,rfl,SqL.new,(fun z=>by have:=congrArg List.length z;rw[wq,List.length_map,List.length_nil] at this;omega),by rw[wq,List.length_map];omega,fun lt H8 ss s8 f8 e8 pt=>?_⟩
  rw[List.length_map] at pt
  have t8:=t6.trans (s7.trans s8)
  have o8:=(s7.trans s8) _ _ e6
  refine⟨_,rfl,a,ns,23,rfl,t8.seq a4,by decide,_,rfl,l1,_,rfl,.inl (SqL.of (t8 _ _ u4)),?_⟩
  rw[List.length_map]
  refine⟨_,_,rfl,by omega,by omega,fun ln H9 s9 f9 e9=>?_⟩
  rw[show((us.length:Nat):Int).toNat=us.length by omega] at e9
  generalize hnu:M1.couples _ _=nums at e9
  have hnl:nums.length=us.length:=by rw[← hnu,M1.zb2]
  have hnn:nums.Nodup:=by rw[← hnu];exact M1.zcu (by omega)
  have hnr:∀x∈nums,1≤x∧x≤999:=fun x hx=>by rw[← hnu] at hx;exact M1.zcx hx
  have hgn:M1.zbq nums=true:=(M1.zc9 nums).mpr ⟨by omega,hnn,hnr⟩
  have t9:=t8.trans s9
  refine⟨_,rfl,a,ns,24,rfl,t9.seq a4,by decide,_,rfl,l2,_,rfl,.inl (SqL.of (t9 _ _ j4)),?_⟩
  rw[List.length_map]
  refine⟨_,_,rfl,by omega,by omega,fun lj H10 ots s10 f10 e10 hol hon hog=>?_⟩
  have hol:ots.length=ts.length:=by omega
  have hgo:M2.zb9 ots=true:=(M2.zcn ots).mpr ⟨by omega,hon,fun z hz=>(M2.zck z).mp (hog z hz)⟩
  have t10:=t9.trans s10
  have u10:=t10 _ _ u4
  have j10:=t10 _ _ j4
  have c10:=t10 _ _ e4
  have r10:All2 (fun l c=>H10 l=some (.lst (c.map V.int))) ls cs:=r4.imp fun l c z=>t10 l _ z
  have o10:=(s9.trans s10) _ _ o8
  have v10:=(s9.trans s10) _ _ e8
  have n10:=s10 _ _ e9
  have hosl:os.length=us.length:=by rw[po.length_eq,wq]
  have hssl:ss.length=ts.length:=by rw[pt.length_eq,wq]
  have hnum:=zhr hun po hnl
  have hinj:=zg3 po hnl hnn
  -- the cards written anew
  refine⟨_,rfl,lc,rfl,⟨_,SqL.of c10⟩,?_⟩
  refine zhu (F:=fun _=>False) (f:=List.map (zK us os nums)) (SqL.of c10) r10 (by omega) (fun m d H' R hd hm s' h=>?_) fun kl H11 s11 r11=>?_
  ·have hdm:∀c∈d,c∈us:=fun c hc=>by
    rcases hcd d hd with z | z
    ·rw[z] at hc;cases hc
    ·exact z.mem_iff.mp hc
   have hdl:d.length≤24:=by
    rcases hcd d hd with z | z
    ·rw[z];exact Nat.zero_le _
    ·rw[z.length_eq];omega
   refine⟨_,rfl,m,rfl,⟨_,SqL.of hm⟩,?_⟩
   refine zfh (us:=d) (f:=zK us os nums) (SqL.of hm) (by omega) (fun c H2 R2 hc s2' h2=>?_) fun H3 s3'=>?_
   ·have w:=s'.trans s2'
    have hci:=List.idxOf_lt_length_of_mem (zaG po (hdm c hc))
    refine⟨_,rfl,_,rfl,.inl ⟨rfl,_,SqL.of (w _ _ o10)⟩,_,rfl,.inl ⟨rfl,_,SqL.of (w _ _ u10)⟩,_,rfl,l1,_,_,rfl,rfl,SqL.of (w _ _ u10),rfl,zP _,(by rw[yn,List.length_map];exact List.idxOf_lt_length_of_mem (hdm c hc)),?_⟩
    rw[yn]
    refine⟨lo,_,_,rfl,rfl,SqL.of (w _ _ o10),rfl,zP _,(by rw[yn,List.length_map];exact hci),?_⟩
    rw[yn]
    exact⟨ln,_,_,_,rfl,rfl,SqL.of (w _ _ n10),zW (zax (by omega)),h2 _ (zh.refl _)⟩
   intro l3 hl3
   exact h l3 _ (s3'.newT hl3) zf (fun z=>z)
  intro lf hlf
  have s12:=s11.newT (o:=.lst (kl.map V.ref)) hlf
  have fr12:upd H11 lf (.lst (kl.map V.ref)) lf=some (.lst (kl.map V.ref)):=zf
  have r12:All2 (fun(l:Addr) (d:List Int)=>upd H11 lf (.lst (kl.map V.ref)) l=some (.lst (d.map V.int))) kl (cs.map (List.map (zK us os nums))):=r11.imp fun l d z=>(zh.new hlf) _ _ z.1
  generalize hH12:upd H11 lf _=H12 at s12 fr12 r12 ⊢
  clear r11 s11 hlf hH12
  have t12:=t10.trans s12
  have a12:=t12.seq a4
  have c12:=s12 _ _ c10
  have rc12:All2 (fun l c=>H12 l=some (.lst (c.map V.int))) ls cs:=r10.imp fun l c z=>s12 l _ z
  -- the first sheet
  refine⟨_,rfl,_,rfl,_,rfl,l1,l2,lc,us,ts,cs,rfl,SqL.of (s12 _ _ u10),SqL.of (s12 _ _ j10),⟨ls,SqL.of c12,rc12.imp fun _ _ z=>SqL.of z⟩,hgc,hgj,hcl,hcd,fun x H13 F S h13 d13 g1 g2 g3 g4 g5 g6=>?_⟩
  have s13:zh H12 H13:=fun b o e=>(d13 b o e (fun z=>z)).1
  have w13:=s12.trans s13
  have hrl:(cs.map (List.map (zK us os nums))).length=ts.length:=by rw[List.length_map];exact hcl
  have kll:=r12.length
  have hssr:∀k∈ss,0≤k∧k<ts.length∧k.toNat<ts.length:=fun k hk=>zbw (pt.mem_iff.mp hk)
  -- the second one
  refine⟨_,rfl,_,rfl,_,rfl,lt,rfl,⟨_,SqL.of (w13 _ _ v10)⟩,?_⟩
  refine comp_refs (K:=K) (us:=ss) (f:=fun k=>(cs.getD k.toNat []).map (zK us os nums)) (SqL.of (w13 _ _ v10)) (by omega) (fun k H' R hk s' h=>?_) fun k2 H14 s14 r14=>?_
  ·have hk2:=hssr k hk
   obtain⟨m,em,rm⟩:=r12.at (i:=k.toNat) (by omega) []
   have am:atI (kl.map V.ref) k=some (.ref m):=by
    have:=zW (zaf em)
    rwa [show((k.toNat:Nat):Int)=k by omega] at this
   refine⟨_,rfl,_,rfl,lf,_,_,_,rfl,rfl,SqL.of (s' _ _ (s13 _ _ fr12)),am,h m _ (zh.refl _) (SqL.of ?_)⟩
   have e:(cs.map (List.map (zK us os nums))).getD k.toNat []=(cs.getD k.toNat []).map (zK us os nums):=by
    rw[List.getD_eq_getElem?_getD,List.getD_eq_getElem?_getD,List.getElem?_map,List.getElem?_eq_getElem (by omega)]
    rfl
   rw[e] at rm
   exact s' _ _ (s13 _ _ rm)
  intro l15 hl15
  have s15:=s14.newT (o:=.lst (k2.map V.ref)) hl15
  have e15:SqL K (upd H14 l15 (.lst (k2.map V.ref))) l15 (k2.map V.ref):=SqL.new
  have r15:All2 (IL K (upd H14 l15 (.lst (k2.map V.ref)))) k2 (ss.map fun k=>(cs.getD k.toNat []).map (zK us os nums)):=r14.imp fun _ _=>IL.stays K _ _ _ _ (zh.new hl15)
  generalize hH15:upd H14 l15 _=H15 at s15 e15 r15 ⊢
  have w15:=w13.trans s15
  have hup:nums.Perm (us.map (zK us os nums)):=by
   conv=>lhs;rw[hnum]
   refine(po.map _).trans (List.Perm.of_eq ?_)
   rw[zei us.length (fun i=>zK us os nums (us.getD i 0)),zdf]
  refine⟨ln,lj,l15,nums,ots,_,rfl,SqL.of (w15 _ _ n10),SqL.of ((s12.trans (s13.trans s15)) _ _ e10),⟨k2,e15,r15⟩,hgn,hgo,by rw[List.length_map];omega,fun d hd=>?_,fun y H16 G U h16 d16 k1 k2' k3 k4 k5 k6=>?_⟩
  ·obtain⟨k,hk,rfl⟩:=List.mem_map.mp hd
   have hk2:=hssr k hk
   have hm:cs.getD k.toNat []∈cs:=by
    rw[List.getD_eq_getElem?_getD,List.getElem?_eq_getElem (by omega)]
    exact List.getElem_mem _
   rcases hcd _ hm with z | z
   ·exact .inl (by rw[z];rfl)
   ·exact .inr ((z.map _).trans hup.symm)
  have s16:zh H15 H16:=fun b o e=>(d16 b o e (fun z=>z)).1
  have w16:=w15.trans s16
  have v16:=s13.trans (s15.trans s16)
  have hx:=h13.same (s15.trans s16)
  have hy:=h16
  have okS:=hx.ok
  have okU:=hy.ok
  have R:Ren S U (zK us os nums) os ss:=⟨okS,okU,by rw[g1];exact po,by rw[g3];exact pt,by rw[k1,g1];exact hnum,by rw[g1];exact hinj,by rw[k4,g4],by rw[k3,g3];exact hol⟩
  have hhl:=Sh.handed_len okS
  have hhu:=Sh.handed_len okU
  rw[g4] at hhl
  have hil:=Sh.into_len okS
  have hinl:=R.inP.length_eq
  rw[List.length_map,Sh.cardsIn_len,Sh.cardsIn_len] at hinl
  have hS2:2≤S.handed.length:=by omega
  have hU2:2≤U.handed.length:=by omega
  have c1:=okS.c1
  have c24:=okS.c24
  have hpi:=Sh.cardsIn_perm okS
  have a16:=v16.seq a12
  have o16:=w16 _ _ o10
  have tb:=v16 _ _ (t12 _ _ (t4 _ _ hT))
  -- places
  refine⟨_,rfl,x,F,S,rfl,hx,by omega,fun l17 H17 s17 f17 e17=>?_⟩
  refine⟨_,rfl,y,G,U,rfl,hy.same s17,by omega,fun l18 H18 s18 f18 e18=>?_⟩
  have t18:=s17.trans s18
  rw[R.places R.inP hpi] at e18
  refine⟨_,rfl,l17,l18,lo,_,os,rfl,SqL.of (s18 _ _ e17),SqL.of e18,SqL.of (t18 _ _ o16),(fun k hk=>by rw[M6.zT];exact R.osR k hk),by rw[M6.zT,R.osL],by rw[M6.zT];omega,zda c1,fun H19 s19=>⟨_,rfl,zaT ?_⟩⟩
  have t19:=t18.trans s19
  -- wN
  refine⟨_,rfl,x,F,S,rfl,hx.same t19,by omega,zbz.new (q:=zfB) (t19 _ _ tb),fun l20 H20 p20 s20 z20 f20 e20 r20=>?_⟩
  obtain⟨F20,_,hx20⟩:=(hx.same t19).sameN s20
  obtain⟨G20,_,hy20⟩:=(hy.same t19).sameN s20
  refine⟨_,rfl,y,G20,U,rfl,hy20,by omega,z20,fun l21 H21 p21 s21 z21 f21 e21 r21=>?_⟩
  obtain⟨F21,_,hx21⟩:=hx20.sameN s21
  obtain⟨G21,_,hy21⟩:=hy20.sameN s21
  refine⟨l20,l21,p20,p21,_,_,rfl,SqL.of (s21.lst e20),F4.sameN s21 r20,SqL.of e21,r21,(M6.zfH R.inP R.usP R.inj hpi).symm,(by
   have:=M6.zf6 S.cardsIn S.couples
   have h3:S.couples.length*S.couples.length≤24*24:=Nat.mul_le_mul (by omega) (by omega)
   omega),fun H22 s22=>⟨_,rfl,zaT ?_⟩⟩
  have n22:yU H16 H22:=(t19.toN.trans (s20.trans s21)).trans s22.toN
  have x22:=hx21.same s22
  have y22:=hy21.same s22
  have a22:=n22.seq a16
  have j22:=n22.seq (SqL.of (K:=K) (v16 _ _ (s12 _ _ j10)))
  have u22:=n22.seq (SqL.of (K:=K) (v16 _ _ (s12 _ _ u10)))
  have o22:=n22.seq (SqL.of (K:=K) o16)
  have q22:=n22.seq (SqL.of (K:=K) (w16 _ _ v10))
  have jo22:=n22.seq (SqL.of (K:=K) ((s12.trans v16) _ _ e10))
  have c22:=n22.seq (SqL.of (K:=K) (v16 _ _ c12))
  have f22:=n22.seq (SqL.of (K:=K) (v16 _ _ fr12))
  have rc22:All2 (IL K H22) ls cs:=rc12.imp fun l c z=>n22.seq (SqL.of (K:=K) (v16 _ _ z))
  have rf22:All2 (IL K H22) kl (cs.map (List.map (zK us os nums))):=r12.imp fun l c z=>n22.seq (SqL.of (K:=K) (v16 _ _ z))
  -- whose cards are in
  refine⟨_,rfl,l2,_,rfl,.inl j22,_,rfl,by omega,by rw[List.length_map];omega,?_⟩
  refine comp_into (cs:=cs) (by rw[List.length_map];omega) (by omega) (fun k H' R hk s' h=>?_) (fun k H' R h=>⟨_,rfl,h⟩) fun H23 s23=>?_
  ·obtain⟨m,em,rm⟩:=rc22.at (i:=k) hk []
   have rm:SqL K H22 m ((cs.getD k []).map V.int):=rm
   refine⟨_,rfl,_,rfl,lc,_,_,_,rfl,rfl,s'.seq c22,zW (zaf em),(by show 0≤sizeLine;decide),fun l13 hl13=>?_⟩
   have s13:=zh.new (o:=.lst []) hl13
   refine⟨m,l13,_,[],rfl,rfl,s13.seq (s'.seq rm),SqL.new,zP _,rfl,_,rfl,?_⟩
   rw[show eqL ((cs.getD k []).map V.int) []=decide (cs.getD k [] = [])from zbr _ []]
   exact h _ s13
  intro l24 hl24
  have s24:=s23.newT (o:=.lst ((wu cs).map V.int)) hl24
  have e24:upd H23 l24 (.lst ((wu cs).map V.int)) l24=some (.lst ((wu cs).map V.int)):=zf
  generalize hH24:upd H23 l24 _=H24 at s24 e24 ⊢
  have hboth:=@Ren.both S U _ os ss R
  have hwo:=@Ren.woP S U _ os ss R
  have hup2:=@Ren.upP S U _ os ss R
  rw[g4] at hboth hil
  have hin:=@zfd cs
  have hkl:=intoK_len cs
  refine⟨_,rfl,_,rfl,a,ns,26,rfl,s24.seq a22,by decide,l24,_,_,rfl,SqL.of e24,by omega,fun r25 H25 ms s25 q25 hm25 hl25=>?_⟩
  refine⟨r25,rfl,⟨_,q25⟩,?_⟩
  have t25:=s24.trans s25
  refine for_list (xs:=ms.map V.int) (fun i σ H8=>∃(v13 v14 v15:Option V),σ = [some (.ref a),some (.int md),some (.ref l1),some (.ref l2),some (.ref lc),some (.ref lo),some (.ref lt),some (.ref ln),some (.ref lj),some (.ref lf),some (.ref x),some (.ref y),some (.ref l24),v13,v14,v15,none,none]∧zh H25 H8) ⟨_,_,_,rfl,zh.refl _⟩ ?_ ?_ ?_
  ·rintro i σ H8 hi ⟨v13,v14,v15,rfl,s8⟩
   exact s8.seq q25
  ·rintro i z σ H8 hy' ⟨v13,v14,v15,rfl,s8⟩
   obtain⟨hi,rfl⟩:=zah hy'
   have hk:=hm25 _ (wk hi)
   generalize ms.getD i 0=k at hk ⊢
   obtain⟨b1,b2,b3,b4,b5,b6,b7⟩:=hboth hk
   obtain⟨i0,i1,i2⟩:=hin hk
   have t8:=t25.trans s8
   have hU:=hwo b2
   rw[b3] at hU
   have b2':ss.idxOf k<ots.length:=by rw[hol,← g3];exact b2
   rw[g3] at b4 hU
   rw[k3] at b6 hU
   refine⟨_,rfl,_,rfl,_,rfl,l2,_,_,_,rfl,rfl,t8.seq j22,zc3 i0 (by omega),x,F21,S,_,rfl,x22.same t8,b4,hS2,fun l26 H26 s26 f26 e26=>?_⟩
   have t26:=t8.trans s26
   refine⟨_,rfl,_,rfl,_,rfl,.inl ⟨rfl,_,t26.seq q22⟩,_,rfl,lt,_,_,rfl,rfl,t26.seq q22,rfl,zP _,(by rw[yn,List.length_map];exact List.idxOf_lt_length_of_mem b1),?_⟩
   rw[yn]
   refine⟨lj,_,_,_,rfl,rfl,t26.seq jo22,zW (zbO b2'),y,G21,U,_,rfl,y22.same t26,b6,hU2,fun l27 H27 s27 f27 e27=>?_⟩
   have t27:=t26.trans s27
   rw[R.places hU (Sh.cardsWo_perm okS _)] at e27
   refine⟨_,rfl,_,rfl,_,rfl,l26,l27,lo,_,os,rfl,SqL.of (s27 _ _ e26),SqL.of e27,t27.seq o22,(fun k hk=>by rw[M6.zT];exact R.osR k hk),by rw[M6.zT,R.osL],by rw[M6.zT];omega,zda c1,fun H28 s28=>⟨_,rfl,zaT ⟨_,_,_,rfl,?_⟩⟩⟩
   exact s8.trans ((s26.trans s27).trans s28)
  rintro σ H29 ⟨v13,v14,v15,rfl,s29⟩
  have t29:=t25.trans s29
  -- who decides
  refine⟨fun σ' H'=>σ' = [some (.ref a),some (.int md),some (.ref l1),some (.ref l2),some (.ref lc),some (.ref lo),some (.ref lt),some (.ref ln),some (.ref lj),some (.ref lf),some (.ref x),some (.ref y),some (.ref l24),v13,v14,v15,none,none]∧zh H29 H',?_,?_⟩
  ·refine⟨_,rfl,l24,_,rfl,.inl (SqL.of ((s25.trans s29) _ _ e24)),_,_,rfl,rfl,_,rfl,wS (fun _=>?_) (fun _=>?_)⟩
   ·refine⟨_,rfl,_,rfl,(by show 2≤sizeLine;decide),fun l30 hl30=>?_⟩
    have s30:=zh.new (o:=.lst [V.ref x,V.ref y]) hl30
    have t30:=t29.trans s30
    exact⟨_,rfl,_,rfl,_,rfl,l30,l2,lj,lt,x,y,F21,G21,S,U,ss,rfl,SqL.new,by rw[g3];exact t30.seq j22,by rw[k3];exact t30.seq jo22,t30.seq q22,x22.same t30,y22.same t30,hS2,hU2,by rw[R.ssL],R.hp,R.ssR,R.dec,fun H31 s31=>⟨_,rfl,zaT ⟨rfl,s30.trans s31⟩⟩⟩
   ·exact⟨rfl,zh.refl _⟩
  rintro σ' H32 ⟨rfl,s32⟩
  have t32:=t29.trans s32
  have e32:=(s25.trans (s29.trans s32)) _ _ e24
  refine⟨_,rfl,_,rfl,a,ns,25,rfl,t32.seq a22,by decide,_,rfl,l24,_,rfl,.inl (SqL.of e32),?_⟩
  rw[List.length_map]
  have hik:0<(wu cs).length:=by omega
  have q0:=Int.emod_nonneg (ns.getD (25:Int).toNat 0) (b:=((wu cs).length:Int)) (by omega)
  have q1:=Int.emod_lt_of_pos (ns.getD (25:Int).toNat 0) (b:=((wu cs).length:Int)) (by omega)
  refine⟨_,_,rfl,rfl,(by show(0:Int)<(wu cs).length;omega),l24,_,_,_,rfl,rfl,SqL.of e32,zbk q0 q1,?_⟩
  have hk:=wk (ns:=wu cs) (i:=(ns.getD (25:Int).toNat 0%((wu cs).length:Int)).toNat) (by omega)
  generalize (wu cs).getD (ns.getD (25:Int).toNat 0%((wu cs).length:Int)).toNat 0=k at hk ⊢
  obtain⟨b1,b2,b3,b4,b5,b6,b7⟩:=hboth hk
  obtain⟨i0,i1,i2⟩:=hin hk
  have b2':ss.idxOf k<ots.length:=by rw[hol,← g3];exact b2
  have hcp:(cs.getD k.toNat []).Perm us:=by
   have hm:cs.getD k.toNat []∈cs:=by
    rw[List.getD_eq_getElem?_getD,List.getElem?_eq_getElem i1]
    exact List.getElem_mem _
   rcases hcd _ hm with z | z
   ·exact absurd z i2
   ·exact z
  have hup3:=hup2 b2
  rw[b3] at hup3
  have hfe:(cs.map (List.map (zK us os nums))).getD k.toNat []=(cs.getD k.toNat []).map (zK us os nums):=by
   rw[List.getD_eq_getElem?_getD,List.getD_eq_getElem?_getD,List.getElem?_map,List.getElem?_eq_getElem i1]
   rfl
  obtain⟨m1,em1,rm1⟩:=rc22.at (i:=k.toNat) i1 []
  obtain⟨m2',em2,rm2⟩:=rf22.at (i:=k.toNat) (by rw[List.length_map];exact i1) []
  rw[hfe] at rm2
  generalize cs.getD k.toNat []=d at hcp b5 b7 rm1 rm2
  have hdl:=hcp.length_eq
  have rm1:SqL K H22 m1 (d.map V.int):=rm1
  have rm2:SqL K H22 m2' ((d.map (zK us os nums)).map V.int):=rm2
  have am1:atI (ls.map V.ref) k=some (.ref m1):=by
   have:=zW (zaf em1)
   rwa [show((k.toNat:Nat):Int)=k by omega] at this
  have am2:atI (kl.map V.ref) k=some (.ref m2'):=by
   have:=zW (zaf em2)
   rwa [show((k.toNat:Nat):Int)=k by omega] at this
  refine⟨_,rfl,l1,_,rfl,.inl (t32.seq u22),_,rfl,by omega,by rw[List.length_map];omega,?_⟩
  rw[List.length_map,show((us.length:Nat):Int).toNat=us.length by omega]
  refine zgn (TPl.stays K) (f:=fun(i:Nat)=>(d.getD i 0,(d.map (zK us os nums)).getD i 0)) (by omega) (fun n H' R hn s' h=>?_) fun ks H33 s33 r33=>?_
  ·have w:=t32.trans s'
   refine⟨_,rfl,_,rfl,lc,_,_,_,rfl,rfl,w.seq c22,am1,_,rfl,m1,_,_,_,rfl,rfl,w.seq rm1,(by rw[Int.zero_add];exact zW (zax (by omega))),_,rfl,_,rfl,lf,_,_,_,rfl,rfl,w.seq f22,am2,_,rfl,m2',_,_,_,rfl,rfl,w.seq rm2,(by rw[Int.zero_add];exact zW (zax (by rw[List.length_map];omega))),(by show 2≤sizeLine;decide),fun l hl=>?_⟩
   exact h l _ (zh.new hl) (show SqT K _ l [.int (d.getD n 0),.int ((d.map (zK us os nums)).getD n 0)] from SqT.new)
  intro l34 hl34
  have s34:=s33.newT (o:=.lst (ks.map V.ref)) hl34
  have e34:upd H33 l34 (.lst (ks.map V.ref)) l34=some (.lst (ks.map V.ref)):=zf
  have hzip:(List.range us.length).map (fun(i:Nat)=>(d.getD i 0,(d.map (zK us os nums)).getD i 0))=d.zip (d.map (zK us os nums)):=by
   refine List.ext_getElem (by rw[List.length_map,List.length_range,List.length_zip,List.length_map];omega) fun i h1 h2=>?_
   rw[List.length_map,List.length_range] at h1
   rw[List.getElem_map,List.getElem_range,List.getElem_zip,List.getD_eq_getElem?_getD,List.getD_eq_getElem?_getD,List.getElem?_eq_getElem (by omega),List.getElem?_eq_getElem (by rw[List.length_map];omega)]
   rfl
  rw[hzip] at r33
  have r34:All2 (TPl K (upd H33 l34 (.lst (ks.map V.ref)))) ks (d.zip (d.map (zK us os nums))):=r33.imp fun _ _=>TPl.stays K _ _ _ _ (zh.new hl34)
  generalize hH34:upd H33 l34 _=H34 at s34 e34 r34 ⊢
  have t34:=t32.trans s34
  refine⟨_,rfl,_,rfl,(by show 2≤sizeLine;decide),fun l35 hl35=>?_⟩
  have s35:=zh.new (o:=.lst [V.ref x,V.ref y]) hl35
  have e35:upd H34 l35 (.lst [V.ref x,V.ref y]) l35=some (.lst [V.ref x,V.ref y]):=zf
  generalize hH35:upd H34 l35 _=H35 at s35 e35 ⊢
  have t35:=t34.trans s35
  refine⟨_,rfl,_,rfl,l2,_,_,_,rfl,rfl,t35.seq j22,zc3 i0 (by omega),_,rfl,_,rfl,.inl ⟨rfl,_,t35.seq q22⟩,_,rfl,lt,_,_,rfl,rfl,t35.seq q22,rfl,zP _,(by rw[yn,List.length_map];exact List.idxOf_lt_length_of_mem b1),?_⟩
  rw[yn]
  refine⟨lj,_,_,_,rfl,rfl,t35.seq jo22,zW (zbO b2'),(by show 2≤sizeLine;decide),fun l36 hl36=>?_⟩
  have s36:=zh.new (o:=.lst [V.str (ts.getD k.toNat ""),V.str (ots.getD (ss.idxOf k) "")]) hl36
  have e36:upd H35 l36 (.lst [V.str (ts.getD k.toNat ""),V.str (ots.getD (ss.idxOf k) "")]) l36=some (.lst [V.str (ts.getD k.toNat ""),V.str (ots.getD (ss.idxOf k) "")]):=zf
  generalize hH36:upd H35 l36 _=H36 at s36 e36 ⊢
  have t36:=t35.trans s36
  have w36:=s35.trans s36
  rw[g3] at b4 b5 hup3
  rw[k3] at b6 b7 hup3
  refine⟨_,rfl,_,rfl,l35,l36,l34,lo,x,y,F21,G21,S,U,_,_,ks,d,d.map (zK us os nums),os,rfl,SqL.of (s36 _ _ e35),SqL.of e36,SqL.of (w36 _ _ e34),r34.imp fun _ _=>TPl.stays K _ _ _ _ w36,t36.seq o22,x22.same t36,y22.same t36,b5,b7,by rw[List.length_map],fun h2=>⟨?_,zda c1⟩,R.osR,R.osL,fun H37 _=>q H37⟩
  rw[List.length_map,upC_map _ (by omega) (by omega)]
  exact R.places (hup3 b4 b6 _) (Sh.cardsUp_perm okS ((zgO (by omega) (by omega)).trans (by rw[g1];exact hcp)))
end
theorem on0{α:Type}{P:List α→Prop}(p:P []):∀us:List α,us.length=0→P us:=by
 intro us e
 cases us with
 | nil=>exact p
 | cons _ _=>cases e
theorem onS{α:Type}{n:Nat}{P:List α→Prop}(p:∀(a:α) (us:List α),us.length=n→P (a::us)):∀us:List α,us.length=n+1→P us:=by
 intro us e
 cases us with
 | nil=>cases e
 | cons a r=>exact p a r (Nat.succ.inj e)
theorem all_mk{l:PySem.W.OpenLaw}{w:World}{K:PySem.W.Frag}{h:Heap}{mg:Str→Option Value}{fa f0 f1 f2 f3 f4 f5 f6 f7 f8 f9 f10 f11 f12 f13 f14 f15 f16 f17 f18 f19 f20 f21 f22 f23 f24 f25 f26 f27 f28 f29 f30 f31 f32 f33 f34 f35 f36 f37 f38 f39 f40 f41 f42 f43 f44 f45 f46 f47 f48 f49 f50 f51 f52 f53 f54 f55 f56 f57 oC_Sheet:Addr}(X:K.In h)(G:h.Ns mainGlobals mg)(hfa:mg "law" = some (.ref fa))
 (oa_Sheet:PySem.W.nsIn K mainGlobals "Sheet" = some (some (.ref oC_Sheet)))
 {oc0 kV0 dc0 pm0 cd0 ct0:Value} {od0 an0:Option Addr} {sl0:Array (Option Value)}
 (a0:PySem.W.findIn K (.ref oC_Sheet) "refuse_if_sealed" = some (some (.ref f0))) (i0:PySem.W.isFn K (.ref f0)=true) (l0:K.lookup f0=some ⟨oc0,od0,.func (PySem.W.fnOf "refuse_if_sealed" "Sheet.refuse_if_sealed" (zp zE) (zn zE) (zc zE) .none kV0 dc0 pm0 an0 cd0 ct0),sl0⟩) (c0:PySem.W.codeIn K cd0 "Sheet.refuse_if_sealed" = true) (k0:PySem.W.keepIn K (.ref f0)=true)
 {oc1 kV1 dc1 pm1 cd1 ct1:Value} {od1 an1:Option Addr} {sl1:Array (Option Value)}
 (a1:PySem.W.findIn K (.ref oC_Sheet) "refuse_unknown_judge" = some (some (.ref f1))) (i1:PySem.W.isFn K (.ref f1)=true) (l1:K.lookup f1=some ⟨oc1,od1,.func (PySem.W.fnOf "refuse_unknown_judge" "Sheet.refuse_unknown_judge" (zp zC) (zn zC) (zc zC) .none kV1 dc1 pm1 an1 cd1 ct1),sl1⟩) (c1:PySem.W.codeIn K cd1 "Sheet.refuse_unknown_judge" = true) (k1:PySem.W.keepIn K (.ref f1)=true)
 {oc2 kV2 dc2 pm2 cd2 ct2:Value} {od2 an2:Option Addr} {sl2:Array (Option Value)}
 (a2:PySem.W.findIn K (.ref oC_Sheet) "couples" = some (some (.ref f2))) (i2:PySem.W.isFn K (.ref f2)=true) (l2:K.lookup f2=some ⟨oc2,od2,.func (PySem.W.fnOf "couples" "Sheet.couples" (zp yi) (zn yi) (zc yi) .none kV2 dc2 pm2 an2 cd2 ct2),sl2⟩) (c2:PySem.W.codeIn K cd2 "Sheet.couples" = true) (k2:PySem.W.keepIn K (.ref f2)=true)
 {oc3 kV3 dc3 pm3 cd3 ct3:Value} {od3 an3:Option Addr} {sl3:Array (Option Value)}
 (a3:PySem.W.findIn K (.ref oC_Sheet) "handed" = some (some (.ref f3))) (i3:PySem.W.isFn K (.ref f3)=true) (l3:K.lookup f3=some ⟨oc3,od3,.func (PySem.W.fnOf "handed" "Sheet.handed" (zp yg) (zn yg) (zc yg) .none kV3 dc3 pm3 an3 cd3 ct3),sl3⟩) (c3:PySem.W.codeIn K cd3 "Sheet.handed" = true) (k3:PySem.W.keepIn K (.ref f3)=true)
 {oc4 kV4 dc4 pm4 cd4 ct4:Value} {od4 an4:Option Addr} {sl4:Array (Option Value)}
 (a4:PySem.W.nsIn K mainGlobals "whole_card" = some (some (.ref f4))) (l4:K.lookup f4=some ⟨oc4,od4,.func (PySem.W.fnOf "whole_card" "whole_card" (zp wd) (zn wd) (zc wd) .none kV4 dc4 pm4 an4 cd4 ct4),sl4⟩) (c4:PySem.W.codeIn K cd4 "whole_card" = true) (k4:PySem.W.keepIn K (.ref f4)=true)
 {oc5 kV5 dc5 pm5 cd5 ct5:Value} {od5 an5:Option Addr} {sl5:Array (Option Value)}
 (a5:PySem.W.nsIn K mainGlobals "mark_on" = some (some (.ref f5))) (l5:K.lookup f5=some ⟨oc5,od5,.func (PySem.W.fnOf "mark_on" "mark_on" (zp zaD) (zn zaD) (zc zaD) .none kV5 dc5 pm5 an5 cd5 ct5),sl5⟩) (c5:PySem.W.codeIn K cd5 "mark_on" = true) (k5:PySem.W.keepIn K (.ref f5)=true)
 {oc6 kV6 dc6 pm6 cd6 ct6:Value} {od6 an6:Option Addr} {sl6:Array (Option Value)}
 (a6:PySem.W.nsIn K mainGlobals "one_up" = some (some (.ref f6))) (l6:K.lookup f6=some ⟨oc6,od6,.func (PySem.W.fnOf "one_up" "one_up" (zp zbs) (zn zbs) (zc zbs) .none kV6 dc6 pm6 an6 cd6 ct6),sl6⟩) (c6:PySem.W.codeIn K cd6 "one_up" = true) (k6:PySem.W.keepIn K (.ref f6)=true)
 {oc7 kV7 dc7 pm7 cd7 ct7:Value} {od7 an7:Option Addr} {sl7:Array (Option Value)}
 (a7:PySem.W.nsIn K mainGlobals "majority_of" = some (some (.ref f7))) (l7:K.lookup f7=some ⟨oc7,od7,.func (PySem.W.fnOf "majority_of" "majority_of" (zp yO) (zn yO) (zc yO) .none kV7 dc7 pm7 an7 cd7 ct7),sl7⟩) (c7:PySem.W.codeIn K cd7 "majority_of" = true) (k7:PySem.W.keepIn K (.ref f7)=true)
 {oc8 kV8 dc8 pm8 cd8 ct8:Value} {od8 an8:Option Addr} {sl8:Array (Option Value)}
 (a8:PySem.W.nsIn K mainGlobals "granting" = some (some (.ref f8))) (l8:K.lookup f8=some ⟨oc8,od8,.func (PySem.W.fnOf "granting" "granting" (zp wB) (zn wB) (zc wB) .none kV8 dc8 pm8 an8 cd8 ct8),sl8⟩) (c8:PySem.W.codeIn K cd8 "granting" = true) (k8:PySem.W.keepIn K (.ref f8)=true)
 {oc9 kV9 dc9 pm9 cd9 ct9:Value} {od9 an9:Option Addr} {sl9:Array (Option Value)}
 (a9:PySem.W.nsIn K mainGlobals "good_number" = some (some (.ref f9))) (l9:K.lookup f9=some ⟨oc9,od9,.func (PySem.W.fnOf "good_number" "good_number" (zp yP) (zn yP) (zc yP) .none kV9 dc9 pm9 an9 cd9 ct9),sl9⟩) (c9:PySem.W.codeIn K cd9 "good_number" = true) (k9:PySem.W.keepIn K (.ref f9)=true)
 {oc10 kV10 dc10 pm10 cd10 ct10:Value} {od10 an10:Option Addr} {sl10:Array (Option Value)}
 (a10:PySem.W.nsIn K mainGlobals "small_letter" = some (some (.ref f10))) (l10:K.lookup f10=some ⟨oc10,od10,.func (PySem.W.fnOf "small_letter" "small_letter" (zp yB) (zn yB) (zc yB) .none kV10 dc10 pm10 an10 cd10 ct10),sl10⟩) (c10:PySem.W.codeIn K cd10 "small_letter" = true) (k10:PySem.W.keepIn K (.ref f10)=true)
 {oc11 kV11 dc11 pm11 cd11 ct11:Value} {od11 an11:Option Addr} {sl11:Array (Option Value)}
 (a11:PySem.W.nsIn K mainGlobals "good_length" = some (some (.ref f11))) (l11:K.lookup f11=some ⟨oc11,od11,.func (PySem.W.fnOf "good_length" "good_length" (zp yM) (zn yM) (zc yM) .none kV11 dc11 pm11 an11 cd11 ct11),sl11⟩) (c11:PySem.W.codeIn K cd11 "good_length" = true) (k11:PySem.W.keepIn K (.ref f11)=true)
 {oc12 kV12 dc12 pm12 cd12 ct12:Value} {od12 an12:Option Addr} {sl12:Array (Option Value)}
 (a12:PySem.W.nsIn K mainGlobals "all_unlike" = some (some (.ref f12))) (l12:K.lookup f12=some ⟨oc12,od12,.func (PySem.W.fnOf "all_unlike" "all_unlike" (zp wj) (zn wj) (zc wj) .none kV12 dc12 pm12 an12 cd12 ct12),sl12⟩) (c12:PySem.W.codeIn K cd12 "all_unlike" = true) (k12:PySem.W.keepIn K (.ref f12)=true)
 {oc13 kV13 dc13 pm13 cd13 ct13:Value} {od13 an13:Option Addr} {sl13:Array (Option Value)}
 (a13:PySem.W.nsIn K mainGlobals "_law_whole" = some (some (.ref f13))) (l13:K.lookup f13=some ⟨oc13,od13,.func (PySem.W.fnOf "_law_whole" "_law_whole" (zp wG) (zn wG) (zc wG) .none kV13 dc13 pm13 an13 cd13 ct13),sl13⟩) (c13:PySem.W.codeIn K cd13 "_law_whole" = true) (k13:PySem.W.keepIn K (.ref f13)=true)
 {oc14 kV14 dc14 pm14 cd14 ct14:Value} {od14 an14:Option Addr} {sl14:Array (Option Value)}
 (a14:PySem.W.nsIn K mainGlobals "_law_at" = some (some (.ref f14))) (l14:K.lookup f14=some ⟨oc14,od14,.func (PySem.W.fnOf "_law_at" "_law_at" (zp zbl) (zn zbl) (zc zbl) .none kV14 dc14 pm14 an14 cd14 ct14),sl14⟩) (c14:PySem.W.codeIn K cd14 "_law_at" = true) (k14:PySem.W.keepIn K (.ref f14)=true)
 {oc15 kV15 dc15 pm15 cd15 ct15:Value} {od15 an15:Option Addr} {sl15:Array (Option Value)}
 (a15:PySem.W.nsIn K mainGlobals "_law_texts" = some (some (.ref f15))) (l15:K.lookup f15=some ⟨oc15,od15,.func (PySem.W.fnOf "_law_texts" "_law_texts" (zp wK) (zn wK) (zc wK) .none kV15 dc15 pm15 an15 cd15 ct15),sl15⟩) (c15:PySem.W.codeIn K cd15 "_law_texts" = true) (k15:PySem.W.keepIn K (.ref f15)=true)
 {oc16 kV16 dc16 pm16 cd16 ct16:Value} {od16 an16:Option Addr} {sl16:Array (Option Value)}
 (a16:PySem.W.nsIn K mainGlobals "_law_mix" = some (some (.ref f16))) (l16:K.lookup f16=some ⟨oc16,od16,.func (PySem.W.fnOf "_law_mix" "_law_mix" (zp zaE) (zn zaE) (zc zaE) .none kV16 dc16 pm16 an16 cd16 ct16),sl16⟩) (c16:PySem.W.codeIn K cd16 "_law_mix" = true) (k16:PySem.W.keepIn K (.ref f16)=true)
 {oc17 kV17 dc17 pm17 cd17 ct17:Value} {od17 an17:Option Addr} {sl17:Array (Option Value)}
 (a17:PySem.W.nsIn K mainGlobals "_law_many" = some (some (.ref f17))) (l17:K.lookup f17=some ⟨oc17,od17,.func (PySem.W.fnOf "_law_many" "_law_many" (zp w6) (zn w6) (zc w6) .none kV17 dc17 pm17 an17 cd17 ct17),sl17⟩) (c17:PySem.W.codeIn K cd17 "_law_many" = true) (k17:PySem.W.keepIn K (.ref f17)=true)
 {oc18 kV18 dc18 pm18 cd18 ct18:Value} {od18 an18:Option Addr} {sl18:Array (Option Value)}
 (a18:PySem.W.nsIn K mainGlobals "_law_some" = some (some (.ref f18))) (l18:K.lookup f18=some ⟨oc18,od18,.func (PySem.W.fnOf "_law_some" "_law_some" (zp wU) (zn wU) (zc wU) .none kV18 dc18 pm18 an18 cd18 ct18),sl18⟩) (c18:PySem.W.codeIn K cd18 "_law_some" = true) (k18:PySem.W.keepIn K (.ref f18)=true)
 {oc19 kV19 dc19 pm19 cd19 ct19:Value} {od19 an19:Option Addr} {sl19:Array (Option Value)}
 (a19:PySem.W.nsIn K mainGlobals "_law_couples" = some (some (.ref f19))) (l19:K.lookup f19=some ⟨oc19,od19,.func (PySem.W.fnOf "_law_couples" "_law_couples" (zp yo) (zn yo) (zc yo) .none kV19 dc19 pm19 an19 cd19 ct19),sl19⟩) (c19:PySem.W.codeIn K cd19 "_law_couples" = true) (k19:PySem.W.keepIn K (.ref f19)=true)
 {oc20 kV20 dc20 pm20 cd20 ct20:Value} {od20 an20:Option Addr} {sl20:Array (Option Value)}
 (a20:PySem.W.nsIn K mainGlobals "_law_judges" = some (some (.ref f20))) (l20:K.lookup f20=some ⟨oc20,od20,.func (PySem.W.fnOf "_law_judges" "_law_judges" (zp yK) (zn yK) (zc yK) .none kV20 dc20 pm20 an20 cd20 ct20),sl20⟩) (c20:PySem.W.codeIn K cd20 "_law_judges" = true) (k20:PySem.W.keepIn K (.ref f20)=true)
 {oc21 kV21 dc21 pm21 cd21 ct21:Value} {od21 an21:Option Addr} {sl21:Array (Option Value)}
 (a21:PySem.W.nsIn K mainGlobals "_law_parted" = some (some (.ref f21))) (l21:K.lookup f21=some ⟨oc21,od21,.func (PySem.W.fnOf "_law_parted" "_law_parted" (zp wf) (zn wf) (zc wf) .none kV21 dc21 pm21 an21 cd21 ct21),sl21⟩) (c21:PySem.W.codeIn K cd21 "_law_parted" = true) (k21:PySem.W.keepIn K (.ref f21)=true)
 {oc22 kV22 dc22 pm22 cd22 ct22:Value} {od22 an22:Option Addr} {sl22:Array (Option Value)}
 (a22:PySem.W.findIn K (.ref oC_Sheet) "hand_in" = some (some (.ref f22))) (i22:PySem.W.isFn K (.ref f22)=true) (l22:K.lookup f22=some ⟨oc22,od22,.func (PySem.W.fnOf "hand_in" "Sheet.hand_in" (zp yj) (zn yj) (zc yj) .none kV22 dc22 pm22 an22 cd22 ct22),sl22⟩) (c22:PySem.W.codeIn K cd22 "Sheet.hand_in" = true) (k22:PySem.W.keepIn K (.ref f22)=true)
 {oc23 kV23 dc23 pm23 cd23 ct23:Value} {od23 an23:Option Addr} {sl23:Array (Option Value)}
 (a23:PySem.W.findIn K (.ref oC_Sheet) "card_of" = some (some (.ref f23))) (i23:PySem.W.isFn K (.ref f23)=true) (l23:K.lookup f23=some ⟨oc23,od23,.func (PySem.W.fnOf "card_of" "Sheet.card_of" (zp yl) (zn yl) (zc yl) .none kV23 dc23 pm23 an23 cd23 ct23),sl23⟩) (c23:PySem.W.codeIn K cd23 "Sheet.card_of" = true) (k23:PySem.W.keepIn K (.ref f23)=true)
 {oc24 kV24 dc24 pm24 cd24 ct24:Value} {od24 an24:Option Addr} {sl24:Array (Option Value)}
 (a24:PySem.W.nsIn K mainGlobals "marks_of" = some (some (.ref f24))) (l24:K.lookup f24=some ⟨oc24,od24,.func (PySem.W.fnOf "marks_of" "marks_of" (zp wy) (zn wy) (zc wy) .none kV24 dc24 pm24 an24 cd24 ct24),sl24⟩) (c24:PySem.W.codeIn K cd24 "marks_of" = true) (k24:PySem.W.keepIn K (.ref f24)=true)
 {oc25 kV25 dc25 pm25 cd25 ct25:Value} {od25 an25:Option Addr} {sl25:Array (Option Value)}
 (a25:PySem.W.nsIn K mainGlobals "granted" = some (some (.ref f25))) (l25:K.lookup f25=some ⟨oc25,od25,.func (PySem.W.fnOf "granted" "granted" (zp zaC) (zn zaC) (zc zaC) .none kV25 dc25 pm25 an25 cd25 ct25),sl25⟩) (c25:PySem.W.codeIn K cd25 "granted" = true) (k25:PySem.W.keepIn K (.ref f25)=true)
 {oc26 kV26 dc26 pm26 cd26 ct26:Value} {od26 an26:Option Addr} {sl26:Array (Option Value)}
 (a26:PySem.W.nsIn K mainGlobals "granted_sum" = some (some (.ref f26))) (l26:K.lookup f26=some ⟨oc26,od26,.func (PySem.W.fnOf "granted_sum" "granted_sum" (zp yN) (zn yN) (zc yN) .none kV26 dc26 pm26 an26 cd26 ct26),sl26⟩) (c26:PySem.W.codeIn K cd26 "granted_sum" = true) (k26:PySem.W.keepIn K (.ref f26)=true)
 {oc27 kV27 dc27 pm27 cd27 ct27:Value} {od27 an27:Option Addr} {sl27:Array (Option Value)}
 (a27:PySem.W.nsIn K mainGlobals "first_number" = some (some (.ref f27))) (l27:K.lookup f27=some ⟨oc27,od27,.func (PySem.W.fnOf "first_number" "first_number" (zp yE) (zn yE) (zc yE) .none kV27 dc27 pm27 an27 cd27 ct27),sl27⟩) (c27:PySem.W.codeIn K cd27 "first_number" = true) (k27:PySem.W.keepIn K (.ref f27)=true)
 {oc28 kV28 dc28 pm28 cd28 ct28:Value} {od28 an28:Option Addr} {sl28:Array (Option Value)}
 (a28:PySem.W.nsIn K mainGlobals "refuse_fewer_cards" = some (some (.ref f28))) (l28:K.lookup f28=some ⟨oc28,od28,.func (PySem.W.fnOf "refuse_fewer_cards" "refuse_fewer_cards" (zp zL) (zn zL) (zc zL) .none kV28 dc28 pm28 an28 cd28 ct28),sl28⟩) (c28:PySem.W.codeIn K cd28 "refuse_fewer_cards" = true) (k28:PySem.W.keepIn K (.ref f28)=true)
 {oc29 kV29 dc29 pm29 cd29 ct29:Value} {od29 an29:Option Addr} {sl29:Array (Option Value)}
 (a29:PySem.W.nsIn K mainGlobals "good_couples" = some (some (.ref f29))) (l29:K.lookup f29=some ⟨oc29,od29,.func (PySem.W.fnOf "good_couples" "good_couples" (zp yd) (zn yd) (zc yd) .none kV29 dc29 pm29 an29 cd29 ct29),sl29⟩) (c29:PySem.W.codeIn K cd29 "good_couples" = true) (k29:PySem.W.keepIn K (.ref f29)=true)
 {oc30 kV30 dc30 pm30 cd30 ct30:Value} {od30 an30:Option Addr} {sl30:Array (Option Value)}
 (a30:PySem.W.nsIn K mainGlobals "good_name" = some (some (.ref f30))) (l30:K.lookup f30=some ⟨oc30,od30,.func (PySem.W.fnOf "good_name" "good_name" (zp yW) (zn yW) (zc yW) .none kV30 dc30 pm30 an30 cd30 ct30),sl30⟩) (c30:PySem.W.codeIn K cd30 "good_name" = true) (k30:PySem.W.keepIn K (.ref f30)=true)
 {oc31 kV31 dc31 pm31 cd31 ct31:Value} {od31 an31:Option Addr} {sl31:Array (Option Value)}
 (a31:PySem.W.nsIn K mainGlobals "_law_same" = some (some (.ref f31))) (l31:K.lookup f31=some ⟨oc31,od31,.func (PySem.W.fnOf "_law_same" "_law_same" (zp wZ) (zn wZ) (zc wZ) .none kV31 dc31 pm31 an31 cd31 ct31),sl31⟩) (c31:PySem.W.codeIn K cd31 "_law_same" = true) (k31:PySem.W.keepIn K (.ref f31)=true)
 {oc32 kV32 dc32 pm32 cd32 ct32:Value} {od32 an32:Option Addr} {sl32:Array (Option Value)}
 (a32:PySem.W.nsIn K mainGlobals "_law_card" = some (some (.ref f32))) (l32:K.lookup f32=some ⟨oc32,od32,.func (PySem.W.fnOf "_law_card" "_law_card" (zp wV) (zn wV) (zc wV) .none kV32 dc32 pm32 an32 cd32 ct32),sl32⟩) (c32:PySem.W.codeIn K cd32 "_law_card" = true) (k32:PySem.W.keepIn K (.ref f32)=true)
 {oc33 kV33 dc33 pm33 cd33 ct33:Value} {od33 an33:Option Addr} {sl33:Array (Option Value)}
 (a33:PySem.W.findIn K (.ref oC_Sheet) "cards" = some (some (.ref f33))) (i33:PySem.W.isFn K (.ref f33)=true) (l33:K.lookup f33=some ⟨oc33,od33,.func (PySem.W.fnOf "cards" "Sheet.cards" (zp yy) (zn yy) (zc yy) .none kV33 dc33 pm33 an33 cd33 ct33),sl33⟩) (c33:PySem.W.codeIn K cd33 "Sheet.cards" = true) (k33:PySem.W.keepIn K (.ref f33)=true)
 {oc34 kV34 dc34 pm34 cd34 ct34:Value} {od34 an34:Option Addr} {sl34:Array (Option Value)}
 (a34:PySem.W.nsIn K mainGlobals "unlike_at" = some (some (.ref f34))) (l34:K.lookup f34=some ⟨oc34,od34,.func (PySem.W.fnOf "unlike_at" "unlike_at" (zp wH) (zn wH) (zc wH) .none kV34 dc34 pm34 an34 cd34 ct34),sl34⟩) (c34:PySem.W.codeIn K cd34 "unlike_at" = true) (k34:PySem.W.keepIn K (.ref f34)=true)
 {oc35 kV35 dc35 pm35 cd35 ct35:Value} {od35 an35:Option Addr} {sl35:Array (Option Value)}
 (a35:PySem.W.nsIn K mainGlobals "cards_without" = some (some (.ref f35))) (l35:K.lookup f35=some ⟨oc35,od35,.func (PySem.W.fnOf "cards_without" "cards_without" (zp zZ) (zn zZ) (zc zZ) .none kV35 dc35 pm35 an35 cd35 ct35),sl35⟩) (c35:PySem.W.codeIn K cd35 "cards_without" = true) (k35:PySem.W.keepIn K (.ref f35)=true)
 {oc36 kV36 dc36 pm36 cd36 ct36:Value} {od36 an36:Option Addr} {sl36:Array (Option Value)}
 (a36:PySem.W.nsIn K mainGlobals "good_judges" = some (some (.ref f36))) (l36:K.lookup f36=some ⟨oc36,od36,.func (PySem.W.fnOf "good_judges" "good_judges" (zp yu) (zn yu) (zc yu) .none kV36 dc36 pm36 an36 cd36 ct36),sl36⟩) (c36:PySem.W.codeIn K cd36 "good_judges" = true) (k36:PySem.W.keepIn K (.ref f36)=true)
 {oc37 kV37 dc37 pm37 cd37 ct37:Value} {od37 an37:Option Addr} {sl37:Array (Option Value)}
 (a37:PySem.W.nsIn K mainGlobals "_law_panel" = some (some (.ref f37))) (l37:K.lookup f37=some ⟨oc37,od37,.func (PySem.W.fnOf "_law_panel" "_law_panel" (zp wE) (zn wE) (zc wE) .none kV37 dc37 pm37 an37 cd37 ct37),sl37⟩) (c37:PySem.W.codeIn K cd37 "_law_panel" = true) (k37:PySem.W.keepIn K (.ref f37)=true)
 {oc38 kV38 dc38 pm38 cd38 ct38:Value} {od38 an38:Option Addr} {sl38:Array (Option Value)}
 (a38:PySem.W.nsIn K mainGlobals "_law_follows" = some (some (.ref f38))) (l38:K.lookup f38=some ⟨oc38,od38,.func (PySem.W.fnOf "_law_follows" "_law_follows" (zp yr) (zn yr) (zc yr) .none kV38 dc38 pm38 an38 cd38 ct38),sl38⟩) (c38:PySem.W.codeIn K cd38 "_law_follows" = true) (k38:PySem.W.keepIn K (.ref f38)=true)
 {oc39 kV39 dc39 pm39 cd39 ct39:Value} {od39 an39:Option Addr} {sl39:Array (Option Value)}
 (a39:PySem.W.findIn K (.ref oC_Sheet) "__init__" = some (some (.ref f39))) (i39:PySem.W.isFn K (.ref f39)=true) (l39:K.lookup f39=some ⟨oc39,od39,.func (PySem.W.fnOf "__init__" "Sheet.__init__" (zp wl) (zn wl) (zc wl) .none kV39 dc39 pm39 an39 cd39 ct39),sl39⟩) (c39:PySem.W.codeIn K cd39 "Sheet.__init__" = true) (k39:PySem.W.keepIn K (.ref f39)=true)
 {oc40 kV40 dc40 pm40 cd40 ct40:Value} {od40 an40:Option Addr} {sl40:Array (Option Value)}
 (a40:PySem.W.nsIn K mainGlobals "is_ahead" = some (some (.ref f40))) (l40:K.lookup f40=some ⟨oc40,od40,.func (PySem.W.fnOf "is_ahead" "is_ahead" (zp w5) (zn w5) (zc w5) .none kV40 dc40 pm40 an40 cd40 ct40),sl40⟩) (c40:PySem.W.codeIn K cd40 "is_ahead" = true) (k40:PySem.W.keepIn K (.ref f40)=true)
 {oc41 kV41 dc41 pm41 cd41 ct41:Value} {od41 an41:Option Addr} {sl41:Array (Option Value)}
 (a41:PySem.W.nsIn K mainGlobals "parting_of" = some (some (.ref f41))) (l41:K.lookup f41=some ⟨oc41,od41,.func (PySem.W.fnOf "parting_of" "parting_of" (zp wg) (zn wg) (zc wg) .none kV41 dc41 pm41 an41 cd41 ct41),sl41⟩) (c41:PySem.W.codeIn K cd41 "parting_of" = true) (k41:PySem.W.keepIn K (.ref f41)=true)
 {oc42 kV42 dc42 pm42 cd42 ct42:Value} {od42 an42:Option Addr} {sl42:Array (Option Value)}
 (a42:PySem.W.nsIn K mainGlobals "place_among" = some (some (.ref f42))) (l42:K.lookup f42=some ⟨oc42,od42,.func (PySem.W.fnOf "place_among" "place_among" (zp yw) (zn yw) (zc yw) .none kV42 dc42 pm42 an42 cd42 ct42),sl42⟩) (c42:PySem.W.codeIn K cd42 "place_among" = true) (k42:PySem.W.keepIn K (.ref f42)=true)
 {oc43 kV43 dc43 pm43 cd43 ct43:Value} {od43 an43:Option Addr} {sl43:Array (Option Value)}
 (a43:PySem.W.nsIn K mainGlobals "places_of" = some (some (.ref f43))) (l43:K.lookup f43=some ⟨oc43,od43,.func (PySem.W.fnOf "places_of" "places_of" (zp yG) (zn yG) (zc yG) .none kV43 dc43 pm43 an43 cd43 ct43),sl43⟩) (c43:PySem.W.codeIn K cd43 "places_of" = true) (k43:PySem.W.keepIn K (.ref f43)=true)
 {oc44 kV44 dc44 pm44 cd44 ct44:Value} {od44 an44:Option Addr} {sl44:Array (Option Value)}
 (a44:PySem.W.nsIn K mainGlobals "_law_sheet" = some (some (.ref f44))) (l44:K.lookup f44=some ⟨oc44,od44,.func (PySem.W.fnOf "_law_sheet" "_law_sheet" (zp wI) (zn wI) (zc wI) .none kV44 dc44 pm44 an44 cd44 ct44),sl44⟩) (c44:PySem.W.codeIn K cd44 "_law_sheet" = true) (k44:PySem.W.keepIn K (.ref f44)=true)
 {oc45 kV45 dc45 pm45 cd45 ct45:Value} {od45 an45:Option Addr} {sl45:Array (Option Value)}
 (a45:PySem.W.nsIn K mainGlobals "places" = some (some (.ref f45))) (l45:K.lookup f45=some ⟨oc45,od45,.func (PySem.W.fnOf "places" "places" (zp zbm) (zn zbm) (zc zbm) .none kV45 dc45 pm45 an45 cd45 ct45),sl45⟩) (c45:PySem.W.codeIn K cd45 "places" = true) (k45:PySem.W.keepIn K (.ref f45)=true)
 {oc46 kV46 dc46 pm46 cd46 ct46:Value} {od46 an46:Option Addr} {sl46:Array (Option Value)}
 (a46:PySem.W.nsIn K mainGlobals "left_out" = some (some (.ref f46))) (l46:K.lookup f46=some ⟨oc46,od46,.func (PySem.W.fnOf "left_out" "left_out" (zp zab) (zn zab) (zc zab) .none kV46 dc46 pm46 an46 cd46 ct46),sl46⟩) (c46:PySem.W.codeIn K cd46 "left_out" = true) (k46:PySem.W.keepIn K (.ref f46)=true)
 {oc47 kV47 dc47 pm47 cd47 ct47:Value} {od47 an47:Option Addr} {sl47:Array (Option Value)}
 (a47:PySem.W.nsIn K mainGlobals "step_up" = some (some (.ref f47))) (l47:K.lookup f47=some ⟨oc47,od47,.func (PySem.W.fnOf "step_up" "step_up" (zp w4) (zn w4) (zc w4) .none kV47 dc47 pm47 an47 cd47 ct47),sl47⟩) (c47:PySem.W.codeIn K cd47 "step_up" = true) (k47:PySem.W.keepIn K (.ref f47)=true)
 {oc48 kV48 dc48 pm48 cd48 ct48:Value} {od48 an48:Option Addr} {sl48:Array (Option Value)}
 (a48:PySem.W.nsIn K mainGlobals "firsts_of" = some (some (.ref f48))) (l48:K.lookup f48=some ⟨oc48,od48,.func (PySem.W.fnOf "firsts_of" "firsts_of" (zp yX) (zn yX) (zc yX) .none kV48 dc48 pm48 an48 cd48 ct48),sl48⟩) (c48:PySem.W.codeIn K cd48 "firsts_of" = true) (k48:PySem.W.keepIn K (.ref f48)=true)
 {oc49 kV49 dc49 pm49 cd49 ct49:Value} {od49 an49:Option Addr} {sl49:Array (Option Value)}
 (a49:PySem.W.nsIn K mainGlobals "firsts" = some (some (.ref f49))) (l49:K.lookup f49=some ⟨oc49,od49,.func (PySem.W.fnOf "firsts" "firsts" (zp zbt) (zn zbt) (zc zbt) .none kV49 dc49 pm49 an49 cd49 ct49),sl49⟩) (c49:PySem.W.codeIn K cd49 "firsts" = true) (k49:PySem.W.keepIn K (.ref f49)=true)
 {oc50 kV50 dc50 pm50 cd50 ct50:Value} {od50 an50:Option Addr} {sl50:Array (Option Value)}
 (a50:PySem.W.nsIn K mainGlobals "_law_step" = some (some (.ref f50))) (l50:K.lookup f50=some ⟨oc50,od50,.func (PySem.W.fnOf "_law_step" "_law_step" (zp zaa) (zn zaa) (zc zaa) .none kV50 dc50 pm50 an50 cd50 ct50),sl50⟩) (c50:PySem.W.codeIn K cd50 "_law_step" = true) (k50:PySem.W.keepIn K (.ref f50)=true)
 {oc51 kV51 dc51 pm51 cd51 ct51:Value} {od51 an51:Option Addr} {sl51:Array (Option Value)}
 (a51:PySem.W.nsIn K mainGlobals "deciders" = some (some (.ref f51))) (l51:K.lookup f51=some ⟨oc51,od51,.func (PySem.W.fnOf "deciders" "deciders" (zp wA) (zn wA) (zc wA) .none kV51 dc51 pm51 an51 cd51 ct51),sl51⟩) (c51:PySem.W.codeIn K cd51 "deciders" = true) (k51:PySem.W.keepIn K (.ref f51)=true)
 {oc52 kV52 dc52 pm52 cd52 ct52:Value} {od52 an52:Option Addr} {sl52:Array (Option Value)}
 (a52:PySem.W.nsIn K mainGlobals "_law_deciders" = some (some (.ref f52))) (l52:K.lookup f52=some ⟨oc52,od52,.func (PySem.W.fnOf "_law_deciders" "_law_deciders" (zp zV) (zn zV) (zc zV) .none kV52 dc52 pm52 an52 cd52 ct52),sl52⟩) (c52:PySem.W.codeIn K cd52 "_law_deciders" = true) (k52:PySem.W.keepIn K (.ref f52)=true)
 {oc53 kV53 dc53 pm53 cd53 ct53:Value} {od53 an53:Option Addr} {sl53:Array (Option Value)}
 (a53:PySem.W.nsIn K mainGlobals "by_place" = some (some (.ref f53))) (l53:K.lookup f53=some ⟨oc53,od53,.func (PySem.W.fnOf "by_place" "by_place" (zp wW) (zn wW) (zc wW) .none kV53 dc53 pm53 an53 cd53 ct53),sl53⟩) (c53:PySem.W.codeIn K cd53 "by_place" = true) (k53:PySem.W.keepIn K (.ref f53)=true)
 {lc lP:Addr} {lo:Value} {ld:Option Addr} {ls:Array (Option Value)} {lvs:Array Value} (qe:cd53=.ref lc) (qk:K.lookup lc=some ⟨lo,ld,.fields lvs,ls⟩) (qv:lvs[11]? = some (.ref lP)) (qh:PySem.W.codeHdIn K lc lP=true) (qn:K.lookup lP=none)
 {oc54 kV54 dc54 pm54 cd54 ct54:Value} {od54 an54:Option Addr} {sl54:Array (Option Value)}
 (a54:PySem.W.nsIn K mainGlobals "ranking_of" = some (some (.ref f54))) (l54:K.lookup f54=some ⟨oc54,od54,.func (PySem.W.fnOf "ranking_of" "ranking_of" (zp wm) (zn wm) (zc wm) .none kV54 dc54 pm54 an54 cd54 ct54),sl54⟩) (c54:PySem.W.codeIn K cd54 "ranking_of" = true) (k54:PySem.W.keepIn K (.ref f54)=true)
 {oc55 kV55 dc55 pm55 cd55 ct55:Value} {od55 an55:Option Addr} {sl55:Array (Option Value)}
 (a55:PySem.W.nsIn K mainGlobals "partings_of" = some (some (.ref f55))) (l55:K.lookup f55=some ⟨oc55,od55,.func (PySem.W.fnOf "partings_of" "partings_of" (zp yp) (zn yp) (zc yp) .none kV55 dc55 pm55 an55 cd55 ct55),sl55⟩) (c55:PySem.W.codeIn K cd55 "partings_of" = true) (k55:PySem.W.keepIn K (.ref f55)=true)
 {oc56 kV56 dc56 pm56 cd56 ct56:Value} {od56 an56:Option Addr} {sl56:Array (Option Value)}
 (a56:PySem.W.nsIn K mainGlobals "partings" = some (some (.ref f56))) (l56:K.lookup f56=some ⟨oc56,od56,.func (PySem.W.fnOf "partings" "partings" (zp w9) (zn w9) (zc w9) .none kV56 dc56 pm56 an56 cd56 ct56),sl56⟩) (c56:PySem.W.codeIn K cd56 "partings" = true) (k56:PySem.W.keepIn K (.ref f56)=true)
 {oc57 kV57 dc57 pm57 cd57 ct57:Value} {od57 an57:Option Addr} {sl57:Array (Option Value)}
 (a57:PySem.W.nsIn K mainGlobals "law" = some (some (.ref f57))) (l57:K.lookup f57=some ⟨oc57,od57,.func (PySem.W.fnOf "law" "law" (zp za5) (zn za5) (zc za5) .none kV57 dc57 pm57 an57 cd57 ct57),sl57⟩) (c57:PySem.W.codeIn K cd57 "law" = true) (k57:PySem.W.keepIn K (.ref f57)=true)
 (z0:PySem.W.nsIn K mainGlobals "all" = some none)
 (z1:PySem.W.nsIn K mainGlobals "bool" = some none)
 (z2:PySem.W.nsIn K mainGlobals "int" = some none)
 (z3:PySem.W.nsIn K mainGlobals "isinstance" = some none)
 (z4:PySem.W.nsIn K mainGlobals "len" = some none)
 (z5:PySem.W.nsIn K mainGlobals "list" = some none)
 (z6:PySem.W.nsIn K mainGlobals "max" = some none)
 (z7:PySem.W.nsIn K mainGlobals "min" = some none)
 (z8:PySem.W.nsIn K mainGlobals "range" = some none)
 (z9:PySem.W.nsIn K mainGlobals "set" = some none)
 (z10:PySem.W.nsIn K mainGlobals "sorted" = some none)
 (z11:PySem.W.nsIn K mainGlobals "str" = some none)
 (z12:PySem.W.nsIn K mainGlobals "sum" = some none)
 (z13:PySem.W.nsIn K mainGlobals "tuple" = some none)
 (z14:PySem.W.nsIn K mainGlobals "zip" = some none)
 {t0:Tok} (y0:PySem.W.nsIn K mainGlobals "MOST_COUPLES" = some (some (.int 24 t0)))
 {t1:Tok} (y1:PySem.W.nsIn K mainGlobals "MOST_JUDGES" = some (some (.int 15 t1)))
 {t2:Tok} (y2:PySem.W.nsIn K mainGlobals "MOST_NUMBER" = some (some (.int 999 t2)))
 {t3:Tok} (y3:PySem.W.nsIn K mainGlobals "MOST_SIGNS" = some (some (.int 8 t3)))
 {t4:Tok} (y4:PySem.W.nsIn K mainGlobals "MOST_CARDS" = some (some (.int 200 t4)))
 {xc1:Addr} (xa1:PySem.W.nsIn K mainGlobals "BadCouples" = some (some (.ref xc1)))
 {xc2:Addr} (xa2:PySem.W.nsIn K mainGlobals "BadJudges" = some (some (.ref xc2)))
 {xc3:Addr} (xa3:PySem.W.nsIn K mainGlobals "SheetSealed" = some (some (.ref xc3)))
 {xc4:Addr} (xa4:PySem.W.nsIn K mainGlobals "UnknownJudge" = some (some (.ref xc4)))
 {xc5:Addr} (xa5:PySem.W.nsIn K mainGlobals "BadCard" = some (some (.ref xc5)))
 {xc6:Addr} (xa6:PySem.W.nsIn K mainGlobals "TooManyCards" = some (some (.ref xc6)))
 {xc8:Addr} (xa8:PySem.W.nsIn K mainGlobals "NoCard" = some (some (.ref xc8)))
 {xc10:Addr} (xa10:PySem.W.nsIn K mainGlobals "AtTop" = some (some (.ref xc10)))
 (xe1:PySem.W.excIn K xc1 bmV "ValueError.__new__" = true)
 (xe2:PySem.W.excIn K xc2 bmV "ValueError.__new__" = true)
 (xe3:PySem.W.excIn K xc3 bmV "ValueError.__new__" = true)
 (xe4:PySem.W.excIn K xc4 bmV "ValueError.__new__" = true)
 (xe5:PySem.W.excIn K xc5 bmV "ValueError.__new__" = true)
 (xe6:PySem.W.excIn K xc6 bmV "ValueError.__new__" = true)
 (xe8:PySem.W.excIn K xc8 bmV "ValueError.__new__" = true)
 (xe10:PySem.W.excIn K xc10 bmV "ValueError.__new__" = true)
 (opg_Sheet:PySem.W.plainGet K oC_Sheet Str.empty=true)
 (ohd_Sheet:PySem.W.hasDictIn K oC_Sheet=true)
 (opo_Sheet:PySem.W.plainOver K oC_Sheet=true)
 (osa_Sheet:PySem.W.findIn K (.ref oC_Sheet) "__setattr__" = some (some (.builtin "object.__setattr__")))
 (omk_Sheet:PySem.W.makesIn K oC_Sheet=true)
 (okc_Sheet:PySem.W.keepIn K (.ref oC_Sheet)=true)
 (on_Sheet_standing:PySem.W.findIn K (.ref oC_Sheet) "standing" = some none)
 (on_Sheet_struck_so_far:PySem.W.findIn K (.ref oC_Sheet) "struck_so_far" = some none)
 (on_Sheet_panel:PySem.W.findIn K (.ref oC_Sheet) "panel" = some none)
 (on_Sheet_card_by_judge:PySem.W.findIn K (.ref oC_Sheet) "card_by_judge" = some none)
 (on_Sheet_taken_so_far:PySem.W.findIn K (.ref oC_Sheet) "taken_so_far" = some none)
 (on_Sheet_sealed:PySem.W.findIn K (.ref oC_Sheet) "sealed" = some none)
 : LamK K "by_place" ∧ ∃fd:FuncData,(∀(s:Shared) (v:Value),BindsTo s fd ⟨[v],[]⟩ [("_law_script",v)])∧∀base:Heap,K.In base→base.Ns mainGlobals mg→zcR mg base→FnOk l.prog w K mg base CX0 15 fa fd ["_law_script"] (zfR K):=by
 obtain⟨L53,LK⟩:=lam_mk a53 l53 qe qk qv qh qn
 have e:=hfa.symm.trans (PySem.W.mg_of X G a57)
 cases e
 have oc_Sheet:=clsA_of oa_Sheet
 have T:Txt K mg:=⟨PySem.W.mg_none_of X G z0,PySem.W.mg_none_of X G z1,PySem.W.mg_none_of X G z2,PySem.W.mg_none_of X G z3,PySem.W.mg_none_of X G z4,PySem.W.mg_none_of X G z5,PySem.W.mg_none_of X G z6,PySem.W.mg_none_of X G z7,PySem.W.mg_none_of X G z8,PySem.W.mg_none_of X G z9,PySem.W.mg_none_of X G z10,PySem.W.mg_none_of X G z11,PySem.W.mg_none_of X G z12,PySem.W.mg_none_of X G z13,PySem.W.mg_none_of X G z14,⟨_,PySem.W.mg_of X G y0⟩,⟨_,PySem.W.mg_of X G y1⟩,⟨_,PySem.W.mg_of X G y2⟩,⟨_,PySem.W.mg_of X G y3⟩,⟨_,PySem.W.mg_of X G y4⟩,⟨xc1,xa1,PySem.W.mg_of X G xa1,xe1⟩,⟨xc2,xa2,PySem.W.mg_of X G xa2,xe2⟩,⟨xc3,xa3,PySem.W.mg_of X G xa3,xe3⟩,⟨xc4,xa4,PySem.W.mg_of X G xa4,xe4⟩,⟨xc5,xa5,PySem.W.mg_of X G xa5,xe5⟩,⟨xc6,xa6,PySem.W.mg_of X G xa6,xe6⟩,⟨xc8,xa8,PySem.W.mg_of X G xa8,xe8⟩,⟨xc10,xa10,PySem.W.mg_of X G xa10,xe10⟩,oc_Sheet ▸ ⟨opg_Sheet,ohd_Sheet,opo_Sheet,osa_Sheet⟩,oc_Sheet ▸ on_Sheet_standing,oc_Sheet ▸ on_Sheet_struck_so_far,oc_Sheet ▸ on_Sheet_panel,oc_Sheet ▸ on_Sheet_card_by_judge,oc_Sheet ▸ on_Sheet_taken_so_far,oc_Sheet ▸ on_Sheet_sealed⟩
 have F0:=zt (st:=zE) l0 c0 k0
 have b0:=F0.binds (ps := ["self"]) fun _ _ _ _ _ _=>onS fun _=>on0 rfl
 have F1:=zt (st:=zC) l1 c1 k1
 have b1:=F1.binds (ps := ["self","judge"]) fun _ _ _ _ _ _=>onS fun _=>onS fun _=>on0 rfl
 have F2:=zt (st:=yi) l2 c2 k2
 have b2:=F2.binds (ps := ["self"]) fun _ _ _ _ _ _=>onS fun _=>on0 rfl
 have F3:=zt (st:=yg) l3 c3 k3
 have b3:=F3.binds (ps := ["self"]) fun _ _ _ _ _ _=>onS fun _=>on0 rfl
 have F4:=zt (st:=wd) l4 c4 k4
 have b4:=F4.binds (ps := ["card","couples"]) fun _ _ _ _ _ _=>onS fun _=>onS fun _=>on0 rfl
 have F5:=zt (st:=zaD) l5 c5 k5
 have b5:=F5.binds (ps := ["card","couple"]) fun _ _ _ _ _ _=>onS fun _=>onS fun _=>on0 rfl
 have F6:=zt (st:=zbs) l6 c6 k6
 have b6:=F6.binds (ps := ["card","couple"]) fun _ _ _ _ _ _=>onS fun _=>onS fun _=>on0 rfl
 have F7:=zt (st:=yO) l7 c7 k7
 have b7:=F7.binds (ps := ["many"]) fun _ _ _ _ _ _=>onS fun _=>on0 rfl
 have F8:=zt (st:=wB) l8 c8 k8
 have b8:=F8.binds (ps := ["marks","number"]) fun _ _ _ _ _ _=>onS fun _=>onS fun _=>on0 rfl
 have F9:=zt (st:=yP) l9 c9 k9
 have b9:=F9.binds (ps := ["couple"]) fun _ _ _ _ _ _=>onS fun _=>on0 rfl
 have F10:=zt (st:=yB) l10 c10 k10
 have b10:=F10.binds (ps := ["sign"]) fun _ _ _ _ _ _=>onS fun _=>on0 rfl
 have F11:=zt (st:=yM) l11 c11 k11
 have b11:=F11.binds (ps := ["things","most"]) fun _ _ _ _ _ _=>onS fun _=>onS fun _=>on0 rfl
 have F12:=zt (st:=wj) l12 c12 k12
 have b12:=F12.binds (ps := ["things"]) fun _ _ _ _ _ _=>onS fun _=>on0 rfl
 have F13:=zt (st:=wG) l13 c13 k13
 have b13:=F13.binds (ps := ["_law_found"]) fun _ _ _ _ _ _=>onS fun _=>on0 rfl
 have F14:=zt (st:=zbl) l14 c14 k14
 have b14:=F14.binds (ps := ["_law_script","_law_k"]) fun _ _ _ _ _ _=>onS fun _=>onS fun _=>on0 rfl
 have F15:=zt (st:=wK) l15 c15 k15
 have b15:=F15.binds (ps := ["_law_found","_law_due"]) fun _ _ _ _ _ _=>onS fun _=>onS fun _=>on0 rfl
 have F16:=zt (st:=zaE) l16 c16 k16
 have b16:=F16.binds (ps := ["_law_cell","_law_place"]) fun _ _ _ _ _ _=>onS fun _=>onS fun _=>on0 rfl
 have F17:=zt (st:=w6) l17 c17 k17
 have b17:=F17.binds (ps := ["_law_mode","_law_cell","_law_least","_law_few","_law_most"]) fun _ _ _ _ _ _=>onS fun _=>onS fun _=>onS fun _=>onS fun _=>onS fun _=>on0 rfl
 have F18:=zt (st:=wU) l18 c18 k18
 have b18:=F18.binds (ps := ["_law_row","_law_cell"]) fun _ _ _ _ _ _=>onS fun _=>onS fun _=>on0 rfl
 have F19:=zt (st:=yo) l19 c19 k19
 have b19:=F19.binds (ps := ["_law_cell","_law_many_here"]) fun _ _ _ _ _ _=>onS fun _=>onS fun _=>on0 rfl
 have F20:=zt (st:=yK) l20 c20 k20
 have b20:=F20.binds (ps := ["_law_cell","_law_many_here"]) fun _ _ _ _ _ _=>onS fun _=>onS fun _=>on0 rfl
 have F21:=zt (st:=wf) l21 c21 k21
 have b21:=F21.binds (ps := ["_law_found","_law_beside"]) fun _ _ _ _ _ _=>onS fun _=>onS fun _=>on0 rfl
 have F22:=zt (st:=yj) l22 c22 k22
 have b22:=F22.binds (ps := ["self","judge","card"]) fun _ _ _ _ _ _=>onS fun _=>onS fun _=>onS fun _=>on0 rfl
 have F23:=zt (st:=yl) l23 c23 k23
 have b23:=F23.binds (ps := ["self","judge"]) fun _ _ _ _ _ _=>onS fun _=>onS fun _=>on0 rfl
 have F24:=zt (st:=wy) l24 c24 k24
 have b24:=F24.binds (ps := ["cards","couple"]) fun _ _ _ _ _ _=>onS fun _=>onS fun _=>on0 rfl
 have F25:=zt (st:=zaC) l25 c25 k25
 have b25:=F25.binds (ps := ["marks","number"]) fun _ _ _ _ _ _=>onS fun _=>onS fun _=>on0 rfl
 have F26:=zt (st:=yN) l26 c26 k26
 have b26:=F26.binds (ps := ["marks","number"]) fun _ _ _ _ _ _=>onS fun _=>onS fun _=>on0 rfl
 have F27:=zt (st:=yE) l27 c27 k27
 have b27:=F27.binds (ps := ["marks"]) fun _ _ _ _ _ _=>onS fun _=>on0 rfl
 have F28:=zt (st:=zL) l28 c28 k28
 have b28:=F28.binds (ps := ["sheet","least"]) fun _ _ _ _ _ _=>onS fun _=>onS fun _=>on0 rfl
 have F29:=zt (st:=yd) l29 c29 k29
 have b29:=F29.binds (ps := ["couples"]) fun _ _ _ _ _ _=>onS fun _=>on0 rfl
 have F30:=zt (st:=yW) l30 c30 k30
 have b30:=F30.binds (ps := ["judge"]) fun _ _ _ _ _ _=>onS fun _=>on0 rfl
 have F31:=zt (st:=wZ) l31 c31 k31
 have b31:=F31.binds (ps := ["_law_found","_law_due"]) fun _ _ _ _ _ _=>onS fun _=>onS fun _=>on0 rfl
 have F32:=zt (st:=wV) l32 c32 k32
 have b32:=F32.binds (ps := ["_law_cell","_law_couples_here","_law_style"]) fun _ _ _ _ _ _=>onS fun _=>onS fun _=>onS fun _=>on0 rfl
 have F33:=zt (st:=yy) l33 c33 k33
 have b33:=F33.binds (ps := ["self"]) fun _ _ _ _ _ _=>onS fun _=>on0 rfl
 have F34:=zt (st:=wH) l34 c34 k34
 have b34:=F34.binds (ps := ["one","other"]) fun _ _ _ _ _ _=>onS fun _=>onS fun _=>on0 rfl
 have F35:=zt (st:=zZ) l35 c35 k35
 have b35:=F35.binds (ps := ["sheet","judge"]) fun _ _ _ _ _ _=>onS fun _=>onS fun _=>on0 rfl
 have F36:=zt (st:=yu) l36 c36 k36
 have b36:=F36.binds (ps := ["judges"]) fun _ _ _ _ _ _=>onS fun _=>on0 rfl
 have F37:=zt (st:=wE) l37 c37 k37
 have b37:=F37.binds (ps := ["_law_script","_law_start","_law_couples_here","_law_many_here","_law_style","_law_mode"]) fun _ _ _ _ _ _=>onS fun _=>onS fun _=>onS fun _=>onS fun _=>onS fun _=>onS fun _=>on0 rfl
 have F38:=zt (st:=yr) l38 c38 k38
 have b38:=F38.binds (ps := ["_law_found","_law_beside","_law_order"]) fun _ _ _ _ _ _=>onS fun _=>onS fun _=>onS fun _=>on0 rfl
 have F39:=zt (st:=wl) l39 c39 k39
 have b39:=F39.binds (ps := ["self","couples","judges"]) fun _ _ _ _ _ _=>onS fun _=>onS fun _=>onS fun _=>on0 rfl
 have F40:=zt (st:=w5) l40 c40 k40
 have b40:=F40.binds (ps := ["one","other"]) fun _ _ _ _ _ _=>onS fun _=>onS fun _=>on0 rfl
 have F41:=zt (st:=wg) l41 c41 k41
 have b41:=F41.binds (ps := ["one","other"]) fun _ _ _ _ _ _=>onS fun _=>onS fun _=>on0 rfl
 have F42:=zt (st:=yw) l42 c42 k42
 have b42:=F42.binds (ps := ["rows","own"]) fun _ _ _ _ _ _=>onS fun _=>onS fun _=>on0 rfl
 have F43:=zt (st:=yG) l43 c43 k43
 have b43:=F43.binds (ps := ["cards","couples"]) fun _ _ _ _ _ _=>onS fun _=>onS fun _=>on0 rfl
 have F44:=zt (st:=wI) l44 c44 k44
 have b44:=F44.binds (ps := ["_law_couples_here","_law_names","_law_cards"]) fun _ _ _ _ _ _=>onS fun _=>onS fun _=>onS fun _=>on0 rfl
 have F45:=zt (st:=zbm) l45 c45 k45
 have b45:=F45.binds (ps := ["sheet"]) fun _ _ _ _ _ _=>onS fun _=>on0 rfl
 have F46:=zt (st:=zab) l46 c46 k46
 have b46:=F46.binds (ps := ["sheet","judge"]) fun _ _ _ _ _ _=>onS fun _=>onS fun _=>on0 rfl
 have F47:=zt (st:=w4) l47 c47 k47
 have b47:=F47.binds (ps := ["sheet","judge","couple"]) fun _ _ _ _ _ _=>onS fun _=>onS fun _=>onS fun _=>on0 rfl
 have F48:=zt (st:=yX) l48 c48 k48
 have b48:=F48.binds (ps := ["cards","couples"]) fun _ _ _ _ _ _=>onS fun _=>onS fun _=>on0 rfl
 have F49:=zt (st:=zbt) l49 c49 k49
 have b49:=F49.binds (ps := ["sheet"]) fun _ _ _ _ _ _=>onS fun _=>on0 rfl
 have F50:=zt (st:=zaa) l50 c50 k50
 have b50:=F50.binds (ps := ["_law_sheets","_law_judges_here","_law_card_here","_law_order"]) fun _ _ _ _ _ _=>onS fun _=>onS fun _=>onS fun _=>onS fun _=>on0 rfl
 have F51:=zt (st:=wA) l51 c51 k51
 have b51:=F51.binds (ps := ["sheet"]) fun _ _ _ _ _ _=>onS fun _=>on0 rfl
 have F52:=zt (st:=zV) l52 c52 k52
 have b52:=F52.binds (ps := ["_law_sheets","_law_names","_law_others","_law_seats"]) fun _ _ _ _ _ _=>onS fun _=>onS fun _=>onS fun _=>onS fun _=>on0 rfl
 have F53:=zt (st:=wW) l53 c53 k53
 have b53:=F53.binds (ps := ["places","couples"]) fun _ _ _ _ _ _=>onS fun _=>onS fun _=>on0 rfl
 have F54:=zt (st:=wm) l54 c54 k54
 have b54:=F54.binds (ps := ["cards","couples"]) fun _ _ _ _ _ _=>onS fun _=>onS fun _=>on0 rfl
 have F55:=zt (st:=yp) l55 c55 k55
 have b55:=F55.binds (ps := ["cards","couples"]) fun _ _ _ _ _ _=>onS fun _=>onS fun _=>on0 rfl
 have F56:=zt (st:=w9) l56 c56 k56
 have b56:=F56.binds (ps := ["sheet"]) fun _ _ _ _ _ _=>onS fun _=>on0 rfl
 have F57:=zt (st:=za5) l57 c57 k57
 have b57:=F57.binds (ps := ["_law_script"]) fun _ _ _ _ _ _=>onS fun _=>on0 rfl
 refine⟨LK,PySem.W.fnOf "law" "law" (zp za5) (zn za5) (zc za5) .none kV57 dc57 pm57 an57 cd57 ct57,fun s v=>.of_eq rfl,fun base _ _ B=>?_⟩
 have C0:CanMX l.prog w K mg base 1 (zN K "Sheet") "refuse_if_sealed" ["self"] (yh K):=CanMX.of oc_Sheet (zaZ F0 T) ⟨a0,i0,k0⟩ b0
 have C1:CanMX l.prog w K mg base 1 (zN K "Sheet") "refuse_unknown_judge" ["self","judge"] (zJ K):=CanMX.of oc_Sheet (zam F1 T) ⟨a1,i1,k1⟩ b1
 have C2:CanM l.prog w K mg base 1 (zN K "Sheet") "couples" ["self"] (zM K):=CanM.of oc_Sheet (zdl F2 T) ⟨a2,i2,k2⟩ b2
 have C3:CanM l.prog w K mg base 1 (zN K "Sheet") "handed" ["self"] (zY K):=CanM.of oc_Sheet (zdV F3 T) ⟨a3,i3,k3⟩ b3
 have C4:Can l.prog w K mg base 1 "whole_card" ["card","couples"] (zbg K):=Can.of F4 (zeT F4 T) (PySem.W.mg_of X G a4) b4
 have C5:Can l.prog w K mg base 1 "mark_on" ["card","couple"] (zcC K):=Can.of F5 (zhC F5 T) (PySem.W.mg_of X G a5) b5
 have C6:CanX l.prog w K mg base 1 "one_up" ["card","couple"] (zdg K):=CanX.of F6 (ok_one_up F6 T) (PySem.W.mg_of X G a6) b6
 have C7:Can l.prog w K mg base 1 "majority_of" ["many"] (zaV K):=Can.of F7 (zec F7 T) (PySem.W.mg_of X G a7) b7
 have C8:Can l.prog w K mg base 1 "granting" ["marks","number"] (za1 K):=Can.of F8 (zg4 F8 T) (PySem.W.mg_of X G a8) b8
 have C9:Can l.prog w K mg base 1 "good_number" ["couple"] (zaH K):=Can.of F9 (zet F9 T) (PySem.W.mg_of X G a9) b9
 have C10:Can l.prog w K mg base 1 "small_letter" ["sign"] (zap K):=Can.of F10 (zdK F10 T) (PySem.W.mg_of X G a10) b10
 have C11:Can l.prog w K mg base 1 "good_length" ["things","most"] (yZ K):=Can.of F11 (zee F11 T) (PySem.W.mg_of X G a11) b11
 have C12:Can l.prog w K mg base 1 "all_unlike" ["things"] (zad K):=Can.of F12 (zeU F12 T) (PySem.W.mg_of X G a12) b12
 have C13:Can l.prog w K mg base 1 "_law_whole" ["_law_found"] (zbI K):=Can.of F13 (zfE F13 T) (PySem.W.mg_of X G a13) b13
 have C14:Can l.prog w K mg base 1 "_law_at" ["_law_script","_law_k"] (zcm K):=Can.of F14 (ok_law_at F14 T) (PySem.W.mg_of X G a14) b14
 have C15:Can l.prog w K mg base 1 "_law_texts" ["_law_found","_law_due"] (zbN K):=Can.of F15 (zfW F15 T) (PySem.W.mg_of X G a15) b15
 have C16:Can l.prog w K mg base 1 "_law_mix" ["_law_cell","_law_place"] (zcz K):=Can.of F16 (zhw F16 T) (PySem.W.mg_of X G a16) b16
 have C17:Can l.prog w K mg base 1 "_law_many" ["_law_mode","_law_cell","_law_least","_law_few","_law_most"] (zcd K):=Can.of F17 (zgI F17 T) (PySem.W.mg_of X G a17) b17
 have C18:Can l.prog w K mg base 1 "_law_some" ["_law_row","_law_cell"] (zbY K):=Can.of F18 (zgi F18 T) (PySem.W.mg_of X G a18) b18
 have C19:Can l.prog w K mg base 1 "_law_couples" ["_law_cell","_law_many_here"] (zaM K):=Can.of F19 (zea F19 T) (PySem.W.mg_of X G a19) b19
 have C20:Can l.prog w K mg base 1 "_law_judges" ["_law_cell","_law_many_here"] (zbe K):=Can.of F20 (ze7 F20 T) (PySem.W.mg_of X G a20) b20
 have C21:Can l.prog w K mg base 1 "_law_parted" ["_law_found","_law_beside"] (zbj K):=Can.of F21 (ze0 F21 T) (PySem.W.mg_of X G a21) b21
 have C22:CanMX l.prog w K mg base 2 (zN K "Sheet") "hand_in" ["self","judge","card"] (wY K):=CanMX.of oc_Sheet (zdn F22 T C4 C0 C1) ⟨a22,i22,k22⟩ b22
 have C23:CanMX l.prog w K mg base 2 (zN K "Sheet") "card_of" ["self","judge"] (yb K):=CanMX.of oc_Sheet (zdi F23 T C1) ⟨a23,i23,k23⟩ b23
 have C24:Can l.prog w K mg base 2 "marks_of" ["cards","couple"] (za6 K):=Can.of F24 (zhf F24 T C5) (PySem.W.mg_of X G a24) b24
 have C25:Can l.prog w K mg base 2 "granted" ["marks","number"] (zaQ K):=Can.of F25 (zhK F25 T C8) (PySem.W.mg_of X G a25) b25
 have C26:Can l.prog w K mg base 2 "granted_sum" ["marks","number"] (wP K):=Can.of F26 (zeK F26 T C8) (PySem.W.mg_of X G a26) b26
 have C27:Can l.prog w K mg base 2 "first_number" ["marks"] (yL K):=Can.of F27 (zdM F27 T C7) (PySem.W.mg_of X G a27) b27
 have C28:Can l.prog w K mg base 2 "refuse_fewer_cards" ["sheet","least"] (zF K):=Can.of F28 (zbU F28 T C3) (PySem.W.mg_of X G a28) b28
 have C29:Can l.prog w K mg base 2 "good_couples" ["couples"] (zar K):=Can.of F29 (zdN F29 T C9 C11 C12) (PySem.W.mg_of X G a29) b29
 have C30:Can l.prog w K mg base 2 "good_name" ["judge"] (zbJ K):=Can.of F30 (zfQ F30 T C10 C11) (PySem.W.mg_of X G a30) b30
 have C31:Can l.prog w K mg base 2 "_law_same" ["_law_found","_law_due"] (zb1 K):=Can.of F31 (zgY F31 T C13) (PySem.W.mg_of X G a31) b31
 have C32:Can l.prog w K mg base 2 "_law_card" ["_law_cell","_law_couples_here","_law_style"] (za3 K):=Can.of F32 (zgk F32 T C16) (PySem.W.mg_of X G a32) b32
 have C33:CanM l.prog w K mg base 3 (zN K "Sheet") "cards" ["self"] (y6 K):=CanM.of oc_Sheet (zeM F33 T C3 C23) ⟨a33,i33,k33⟩ b33
 have C34:Can l.prog w K mg base 3 "unlike_at" ["one","other"] (zaA K):=Can.of F34 (zf4 F34 T C25 C26 C27) (PySem.W.mg_of X G a34) b34
 have C35:Can l.prog w K mg base 3 "cards_without" ["sheet","judge"] (we K):=Can.of F35 (zdr F35 T C3 C23) (PySem.W.mg_of X G a35) b35
 have C36:Can l.prog w K mg base 3 "good_judges" ["judges"] (zaR K):=Can.of F36 (zeI F36 T C30 C11 C12) (PySem.W.mg_of X G a36) b36
 have C37:Can l.prog w K mg base 3 "_law_panel" ["_law_script","_law_start","_law_couples_here","_law_many_here","_law_style","_law_mode"] (zbG K):=Can.of F37 (zfP F37 T C14 C32) (PySem.W.mg_of X G a37) b37
 have C38:Can l.prog w K mg base 3 "_law_follows" ["_law_found","_law_beside","_law_order"] (wO K):=Can.of F38 (zez F38 T C31) (PySem.W.mg_of X G a38) b38
 have C39:CanK l.prog w K mg base 4 "Sheet" (zN K "Sheet") ["self","couples","judges"] (zbh K):=CanK.of oc_Sheet (zeX F39 T C29 C36) (PySem.W.mg_of X G oa_Sheet) ⟨omk_Sheet,a39,i39,okc_Sheet⟩ b39
 have C40:Can l.prog w K mg base 4 "is_ahead" ["one","other"] (zb8 K):=Can.of F40 (zgH F40 T C25 C26 C27 C34) (PySem.W.mg_of X G a40) b40
 have C41:Can l.prog w K mg base 4 "parting_of" ["one","other"] (zbi K):=Can.of F41 (zeZ F41 T C25 C27 C34) (PySem.W.mg_of X G a41) b41
 have C42:Can l.prog w K mg base 5 "place_among" ["rows","own"] (zaW K):=Can.of F42 (zek F42 T C40) (PySem.W.mg_of X G a42) b42
 have C43:Can l.prog w K mg base 6 "places_of" ["cards","couples"] (yJ K):=Can.of F43 (zfV F43 T C24 C42) (PySem.W.mg_of X G a43) b43
 have C44:Can l.prog w K mg base 6 "_law_sheet" ["_law_couples_here","_law_names","_law_cards"] (zbL K):=Can.of F44 (zga F44 T C39 C22) (PySem.W.mg_of X G a44) b44
 have C45:Can l.prog w K mg base 7 "places" ["sheet"] (zcq K):=Can.of F45 (ok_places F45 T C43 C28 C2 C33) (PySem.W.mg_of X G a45) b45
 have C46:Can l.prog w K mg base 7 "left_out" ["sheet","judge"] (zbZ K):=Can.of F46 (zgQ F46 T C43 C28 C35 C2 C23) (PySem.W.mg_of X G a46) b46
 have C47:Can l.prog w K mg base 7 "step_up" ["sheet","judge","couple"] (zcB K):=Can.of F47 (zhE F47 T C6 C43 C2 C3 C23) (PySem.W.mg_of X G a47) b47
 have C48:Can l.prog w K mg base 7 "firsts_of" ["cards","couples"] (zay K):=Can.of F48 (zfZ F48 T C43) (PySem.W.mg_of X G a48) b48
 have C49:Can l.prog w K mg base 8 "firsts" ["sheet"] (zdq K):=Can.of F49 (ok_firsts F49 T C28 C48 C2 C33) (PySem.W.mg_of X G a49) b49
 have C50:Can l.prog w K mg base 8 "_law_step" ["_law_sheets","_law_judges_here","_law_card_here","_law_order"] (zbW K):=Can.of F50 (zg9 F50 T C47 C38) (PySem.W.mg_of X G a50) b50
 have C51:Can l.prog w K mg base 9 "deciders" ["sheet"] (zb0 K):=Can.of F51 (zgh F51 T C49 C28 C48 C35 C2 C3) (PySem.W.mg_of X G a51) b51
 have C52:Can l.prog w K mg base 10 "_law_deciders" ["_law_sheets","_law_names","_law_others","_law_seats"] (zaq K):=Can.of F52 (zdT F52 T C51 C15) (PySem.W.mg_of X G a52) b52
 have C53:Can l.prog w K mg base 11 "by_place" ["places","couples"] (zcg K):=Can.of F53 (zgK F53 T L53 B C45) (PySem.W.mg_of X G a53) b53
 have C54:Can l.prog w K mg base 12 "ranking_of" ["cards","couples"] (zbd K):=Can.of F54 (zeV F54 T C43 C53) (PySem.W.mg_of X G a54) b54
 have C55:Can l.prog w K mg base 13 "partings_of" ["cards","couples"] (zaI K):=Can.of F55 (zd9 F55 T C24 C54 C41) (PySem.W.mg_of X G a55) b55
 have C56:Can l.prog w K mg base 14 "partings" ["sheet"] (zbX K):=Can.of F56 (zhi F56 T C55 C28 C2 C33) (PySem.W.mg_of X G a56) b56
 exact ok_law F57 T C45 C56 C46 C14 C17 C18 C19 C20 C32 C37 C44 C38 C21 C50 C52
theorem walk{l:PySem.W.OpenLaw}{q:Program}{loose:List Str}{XP:(Str→Option Value)→Heap→Prop}{YP:World→Heap→Prop}{d:DefRec}{K:Params→PySem.W.Frag}(hn:l.most=some 63)(hdf:d.params.defaults = [])
 (hY:∀(w:World) (h:Heap),YP w h→(K w.params).In h)
 (hrec:∃dd,(PyProof.Rows.recsOf q).find? (fun e=>e.name==("by_place" : Str))=some dd)
 (F:∀(w:World) (mg:Str→Option Value) (fa:Addr) (h:Heap),(K w.params).In h→h.Ns mainGlobals mg→mg d.name=some (.ref fa) →
   LamK (K w.params) "by_place" ∧ ∃fd:FuncData,(∀(s:Shared) (u:Value),BindsTo s fd ⟨[u],[]⟩ [("_law_script",u)])∧∀base:Heap,(K w.params).In base→base.Ns mainGlobals mg→zcR mg base→FnOk l.prog w (K w.params) mg base CX0 15 fa fd ["_law_script"] (zfR (K w.params))) :
 PySem.W.WalkO q loose XP YP l.row.toRowW d [] (fun f vs=>PySem.call f vs) :=
 L2.walk_ofT (n:=63) (k:=15) (x:= "_law_script") (y:= "by_place") (CX:=fun _=>CX0) (sp:=fun w=>zfR (K w.params)) hn (by decide) hdf ⟨rfl,by decide,by decide⟩ hrec hY F (fun _ _ a ns hl hT hS=>⟨a,ns,rfl,hS,hl,hT,fun _=>rfl⟩) fun _ _ _ _ _ z=>z
end Pp
def PySem.W.Fast.tw6861612875127052467:Nat:=0
def PySem.W.Fast.tw16095585030989923641:Nat:=0
def PySem.W.Fast.tw1114935942740407802:Nat:=0
def PySem.W.Fast.tw7455044949176847691:Nat:=0
def PySem.W.Fast.tw8446612088494511570:Nat:=0
def PySem.W.Fast.tw13186702757485222189:Nat:=0
def PySem.W.Fast.tw1376528465497210868:Nat:=0
def PySem.W.Fast.tw3753935486389211160:Nat:=0
def PySem.W.Fast.tw2311024020975699771:Nat:=0
def PySem.W.Fast.tw13427691272107254941:Nat:=0
def PySem.W.Fast.tw579314905499176787:Nat:=0
def PySem.W.Fast.tw13572113270606726203:Nat:=0
def PySem.W.Fast.tw3133851561398856982:Nat:=0
def PySem.W.Fast.tw4260064519691746297:Nat:=0
def PySem.W.Fast.tw1123547351981520085:Nat:=0
def PySem.W.Fast.tw6149686485471857831:Nat:=0
def PySem.W.Fast.tw14274660922337219054:Nat:=0
def PySem.W.Fast.tw1085172821894667581:Nat:=0
def PySem.W.Fast.tw10902636137811489784:Nat:=0
def PySem.W.Fast.tw14283038390204600171:Nat:=0
def PySem.W.Fast.tw12296664240351675063:Nat:=0
def PySem.W.Fast.tw14098516925673950247:Nat:=0
def PySem.W.Fast.tw4145837276965261079:Nat:=0
def PySem.W.Fast.tw14389807019859132206:Nat:=0
def PySem.W.Fast.tw7683330198872773707:Nat:=0
def PySem.W.Fast.tw16081118332961335600:Nat:=0
def PySem.W.Fast.tw9651497698680493056:Nat:=0
def PySem.W.Fast.tw5334313104930023542:Nat:=0
def PySem.W.Fast.tw7614484963629609700:Nat:=0
def PySem.W.Fast.tw11759922188699971625:Nat:=0
def PySem.W.Fast.tw12325167059282517633:Nat:=0
def PySem.W.Fast.tw922769957748167272:Nat:=0
def PySem.W.Fast.tw17691957751369383466:Nat:=0
def PySem.W.Fast.tw14519435996477207672:Nat:=0
def PySem.W.Fast.tw5553527632772008967:Nat:=0
def PySem.W.Fast.tw18277208512334609309:Nat:=0
def PySem.W.Fast.tw5661630601411685838:Nat:=0
def PySem.W.Fast.tw1225302361504154716:Nat:=0
def PySem.W.Fast.tw15874544564606915984:Nat:=0
def PySem.W.Fast.tw18130187469285910886:Nat:=0
def PySem.W.Fast.tw596191555957111159:Nat:=0
def PySem.W.Fast.tw14451428034227427923:Nat:=0
def PySem.W.Fast.tw14752190192451863088:Nat:=0
def PySem.W.Fast.tw6493798213683821799:Nat:=0
def PySem.W.Fast.tw11802464217313565145:Nat:=0
def PySem.W.Fast.tw8654148286906146653:Nat:=0
def PySem.W.Fast.tw14255099602376955684:Nat:=0
def PySem.W.Fast.tw14069896206262698612:Nat:=0
def PySem.W.Fast.tw5049577554035016125:Nat:=0
def PySem.W.Fast.tw4261438309186655802:Nat:=0
def PySem.W.Fast.tw8304455291805572835:Nat:=0
def PySem.W.Fast.tw10816858597921264923:Nat:=0
def PySem.W.Fast.tw4569398553228277026:Nat:=0
def PySem.W.Fast.tw6300149047762337903:Nat:=0
def PySem.W.Fast.tw12892391449839487586:Nat:=0
def PySem.W.Fast.tw11848676929028360085:Nat:=0
def PySem.W.Fast.tw7024269330528089475:Nat:=0
def PySem.W.Fast.tw7348928765832986399:Nat:=0
def PySem.W.Fast.tw17071401690756819889:Nat:=0
def PySem.W.Fast.tw8618066452449271981:Nat:=0
def PySem.W.Fast.tw8483526145545887823:Nat:=0
def PySem.W.Fast.tw6484164245665127726:Nat:=0
def PySem.W.Fast.tw8105776775122991168:Nat:=0
def PySem.W.Fast.tw9142816892474486901:Nat:=0
def PySem.W.Fast.tw15139198491449842593:Nat:=0
def PySem.W.Fast.tw16368502439129328956:Nat:=0
def PySem.W.Fast.tw12841487123122399845:Nat:=0
def PySem.W.Fast.tw471576077054334029:Nat:=0
def PySem.W.Fast.tw2617994748691569381:Nat:=0
def PySem.W.Fast.tw16373341783729112186:Nat:=0
def PySem.W.Fast.tw5960588757712503722:Nat:=0
def PySem.W.Fast.tw3647654918439030455:Nat:=0
def PySem.W.Fast.tw12121885394589052304:Nat:=0
def PySem.W.Fast.tw4314201706720667192:Nat:=0
def PySem.W.Fast.tw5302580442528987268:Nat:=0
def PySem.W.Fast.tw3580450578950957185:Nat:=0
def PySem.W.Fast.tw12995282394164531611:Nat:=0
def PySem.W.Fast.tw10887632761456088654:Nat:=0
def PySem.W.Fast.tw6903510924616016193:Nat:=0
def PySem.W.Fast.tw12487216076688868470:Nat:=0
def PySem.W.Fast.tw13537360450736249430:Nat:=0
def PySem.W.Fast.tw12568560773113775965:Nat:=0
def PySem.W.Fast.tw12840225283221550263:Nat:=0
def PySem.W.Fast.tw13731550661106823080:Nat:=0
def PySem.W.Fast.tw10949996997325383558:Nat:=0
def PySem.W.Fast.tw11983915896471976333:Nat:=0
def PySem.W.Fast.tw16143893222563357299:Nat:=0
def PySem.W.Fast.tw10294438862775976212:Nat:=0
def PySem.W.Fast.tw2191829488315484531:Nat:=0
def PySem.W.Fast.tw4388707447746906360:Nat:=0
def PySem.W.Fast.tw7999948800828750724:Nat:=0
def PySem.W.Fast.tw15727703077292072439:Nat:=0
def PySem.W.Fast.tw8412561700638433953:Nat:=0
def PySem.W.Fast.tw6721848939480957617:Nat:=0
def PySem.W.Fast.tw13900655121961229219:Nat:=0
def PySem.W.Fast.tw1114766170520404975:Nat:=0
def PySem.W.Fast.tw5047243964626118005:Nat:=0
def PySem.W.Fast.tw2061958607295103298:Nat:=0
def PySem.W.Fast.tw15382434855740865054:Nat:=0
def PySem.W.Fast.tw13022848060974211072:Nat:=0
def PySem.W.Fast.tw997386512913874085:Nat:=0
def PySem.W.Fast.tw6664712511540082952:Nat:=0
def PySem.W.Fast.tw17285697249061991625:Nat:=0
def PySem.W.Fast.tw8780860019440441984:Nat:=0
def PySem.W.Fast.tw10342647995444311423:Nat:=0
def PySem.W.Fast.tw15156718556106348558:Nat:=0
def PySem.W.Fast.tw18102157584266255524:Nat:=0
def PySem.W.Fast.tw18221186694484510074:Nat:=0
def PySem.W.Fast.tw4448977249885394798:Nat:=0
def PySem.W.Fast.tw12769518674927773497:Nat:=0
def PySem.W.Fast.tw12362710519709520531:Nat:=0
def PySem.W.Fast.tw13007650470257533205:Nat:=0
def PySem.W.Fast.tw3650612022169434768:Nat:=0
def PySem.W.Fast.tw12659134803298801459:Nat:=0
def PySem.W.Fast.tw9634244250202331559:Nat:=0
def PySem.W.Fast.tw9604405482741678456:Nat:=0
def PySem.W.Fast.tw9473694643501185632:Nat:=0
def PySem.W.Fast.tw751728948479765981:Nat:=0
def PySem.W.Fast.tw2681326288929833479:Nat:=0
def PySem.W.Fast.tw6823505983267959871:Nat:=0
def PySem.W.Fast.tw7438115510627677214:Nat:=0
def PySem.W.Fast.tw18375870562494546713:Nat:=0
def PySem.W.Fast.tw16486840860311534213:Nat:=0
def PySem.W.Fast.tw15202265575160342479:Nat:=0
def PySem.W.Fast.tw10417182395003986524:Nat:=0
def PySem.W.Fast.tw1870298553802214667:Nat:=0
def PySem.W.Fast.tw5612718571341773552:Nat:=0
def PySem.W.Fast.tw6195468209822647526:Nat:=0
def PySem.W.Fast.tw5626804637730518134:Nat:=0
def PySem.W.Fast.tw4011628691074066488:Nat:=0
def PySem.W.Fast.tw2381530512259147625:Nat:=0
def PySem.W.Fast.tw6787069143218765140:Nat:=0
def PySem.W.Fast.tw11751849907998168080:Nat:=0
def PySem.W.Fast.tw6982186961505887017:Nat:=0
def PySem.W.Fast.tw17395621014584767864:Nat:=0
def PySem.W.Fast.tw7707769717063874948:Nat:=0
def PySem.W.Fast.tw6893823019215528797:Nat:=0
def PySem.W.Fast.tw14629759493600015609:Nat:=0
def PySem.W.Fast.tw2376776505175946339:Nat:=0
def PySem.W.Fast.tw5342745599763067953:Nat:=0
def PySem.W.Fast.tw9071145270064349801:Nat:=0
def PySem.W.Fast.tw11809236540890995592:Nat:=0
def PySem.W.Fast.tw9836955898075028242:Nat:=0
def PySem.W.Fast.tw8355543893601786531:Nat:=0
def PySem.W.Fast.tw14150009794881234779:Nat:=0
def PySem.W.Fast.tw9455733203343609927:Nat:=0
def PySem.W.Fast.tw6012124192888264445:Nat:=0
def PySem.W.Fast.tw15539126329141595095:Nat:=0
def PySem.W.Fast.tw2507215285449017997:Nat:=0
def PySem.W.Fast.tw5390111789742653817:Nat:=0
def PySem.W.Fast.tw10524840087747348154:Nat:=0
def PySem.W.Fast.tw13775204386765347659:Nat:=0
def PySem.W.Fast.tw5459681700378233918:Nat:=0
def PySem.W.Fast.tw17637150458665683399:Nat:=0
def PySem.W.Fast.tw5214090944683756042:Nat:=0
def PySem.W.Fast.tw10607693056634728208:Nat:=0
def PySem.W.Fast.tw17407458497754210711:Nat:=0
def PySem.W.Fast.tw2096552294298094473:Nat:=0
def PySem.W.Fast.tw10876502365371194900:Nat:=0
def PySem.W.Fast.tw10357029287072301191:Nat:=0
def PySem.W.Fast.tw1809145135179564758:Nat:=0
def PySem.W.Fast.tw15689815313787657508:Nat:=0
def PySem.W.Fast.tw17819754952893413138:Nat:=0
def PySem.W.Fast.tw13059999007289534884:Nat:=0
def PySem.W.Fast.tw1023478241805691620:Nat:=0
def PySem.W.Fast.tw14516406926791641241:Nat:=0
def PySem.W.Fast.tw15993204100252012680:Nat:=0
def PySem.W.Fast.tw1629089408405254479:Nat:=0
def PySem.W.Fast.tw4208365154437923068:Nat:=0
def PySem.W.Fast.tw4383036911912917510:Nat:=0
def PySem.W.Fast.tw7487125623830953554:Nat:=0
def PySem.W.Fast.tw13229267946829008813:Nat:=0
def PySem.W.Fast.tw12890101248540669626:Nat:=0
def PySem.W.Fast.tw5051259561523117955:Nat:=0
def PySem.W.Fast.tw11116904841807272915:Nat:=0
def PySem.W.Fast.tw9023755412540849651:Nat:=0
def PySem.W.Fast.tw11873544174402376785:Nat:=0
def PySem.W.Fast.tw5291788033546783776:Nat:=0
def PySem.W.Fast.tw3283609772103304290:Nat:=0
def PySem.W.Fast.tw17908337650633805392:Nat:=0
def PySem.W.Fast.tw16173407089615960132:Nat:=0
def PySem.W.Fast.tw6125830279924070889:Nat:=0
def PySem.W.Fast.tw1907648924976662790:Nat:=0
def PySem.W.Fast.tw710409399032458420:Nat:=0
def PySem.W.Fast.tw3934956284883278211:Nat:=0
def PySem.W.Fast.tw7610115379459802901:Nat:=0
def PySem.W.Fast.tw12802079000291992564:Nat:=0
def PySem.W.Fast.tw11587750091022930516:Nat:=0
def PySem.W.Fast.tw6030323194127866138:Nat:=0
def PySem.W.Fast.tw16122797503477108244:Nat:=0
def PySem.W.Fast.tw13271181905967431553:Nat:=0
def PySem.W.Fast.tw14206467017890899933:Nat:=0
def PySem.W.Fast.tw12169859742865823593:Nat:=0
def PySem.W.Fast.tw12482357826814254413:Nat:=0
def PySem.W.Fast.tw6006096486216652986:Nat:=0
def PySem.W.Fast.tw15906620695366612736:Nat:=0
open PySem PySem.W PyProof.Rows
set_option maxRecDepth 100000 in
set_option maxHeartbeats 0 in
theorem PySem.Challenge.cw_panelplace_k43_whole_names_do_not_matter_holds : PySem.Challenge.rw_panelplace_k43_whole_names_do_not_matter.Holds := by
 w_on;o_law;k_head;(case hw=>w_witness2)
 k_fill
 refine Pp.walk (l:=PySem.Challenge.rw_panelplace_k43_whole_names_do_not_matter) rfl rfl (fun w h Y=>PySem.W.km_in_of Y) ⟨_,rfl⟩ ?F
 case F =>
  intro w mg fa h KX G hmg
  refine' Pp.all_mk KX G hmg ?oa_Sheet ?a0 ?i0 ?l0 ?c0 ?k0 ?a1 ?i1 ?l1 ?c1 ?k1 ?a2 ?i2 ?l2 ?c2 ?k2 ?a3 ?i3 ?l3 ?c3 ?k3 ?a4 ?l4 ?c4 ?k4 ?a5 ?l5 ?c5 ?k5 ?a6 ?l6 ?c6 ?k6 ?a7 ?l7 ?c7 ?k7 ?a8 ?l8 ?c8 ?k8 ?a9 ?l9 ?c9 ?k9 ?a10 ?l10 ?c10 ?k10 ?a11 ?l11 ?c11 ?k11 ?a12 ?l12 ?c12 ?k12 ?a13 ?l13 ?c13 ?k13 ?a14 ?l14 ?c14 ?k14 ?a15 ?l15 ?c15 ?k15 ?a16 ?l16 ?c16 ?k16 ?a17 ?l17 ?c17 ?k17 ?a18 ?l18 ?c18 ?k18 ?a19 ?l19 ?c19 ?k19 ?a20 ?l20 ?c20 ?k20 ?a21 ?l21 ?c21 ?k21 ?a22 ?i22 ?l22 ?c22 ?k22 ?a23 ?i23 ?l23 ?c23 ?k23 ?a24 ?l24 ?c24 ?k24 ?a25 ?l25 ?c25 ?k25 ?a26 ?l26 ?c26 ?k26 ?a27 ?l27 ?c27 ?k27 ?a28 ?l28 ?c28 ?k28 ?a29 ?l29 ?c29 ?k29 ?a30 ?l30 ?c30 ?k30 ?a31 ?l31 ?c31 ?k31 ?a32 ?l32 ?c32 ?k32 ?a33 ?i33 ?l33 ?c33 ?k33 ?a34 ?l34 ?c34 ?k34 ?a35 ?l35 ?c35 ?k35 ?a36 ?l36 ?c36 ?k36 ?a37 ?l37 ?c37 ?k37 ?a38 ?l38 ?c38 ?k38 ?a39 ?i39 ?l39 ?c39 ?k39 ?a40 ?l40 ?c40 ?k40 ?a41 ?l41 ?c41 ?k41 ?a42 ?l42 ?c42 ?k42 ?a43 ?l43 ?c43 ?k43 ?a44 ?l44 ?c44 ?k44 ?a45 ?l45 ?c45 ?k45 ?a46 ?l46 ?c46 ?k46 ?a47 ?l47 ?c47 ?k47 ?a48 ?l48 ?c48 ?k48 ?a49 ?l49 ?c49 ?k49 ?a50 ?l50 ?c50 ?k50 ?a51 ?l51 ?c51 ?k51 ?a52 ?l52 ?c52 ?k52 ?a53 ?l53 ?c53 ?k53 ?qe ?qk ?qv ?qh ?qn ?a54 ?l54 ?c54 ?k54 ?a55 ?l55 ?c55 ?k55 ?a56 ?l56 ?c56 ?k56 ?a57 ?l57 ?c57 ?k57 ?z0 ?z1 ?z2 ?z3 ?z4 ?z5 ?z6 ?z7 ?z8 ?z9 ?z10 ?z11 ?z12 ?z13 ?z14 ?y0 ?y1 ?y2 ?y3 ?y4 ?xa1 ?xa2 ?xa3 ?xa4 ?xa5 ?xa6 ?xa8 ?xa10 ?xe1 ?xe2 ?xe3 ?xe4 ?xe5 ?xe6 ?xe8 ?xe10 ?opg_Sheet ?ohd_Sheet ?opo_Sheet ?osa_Sheet ?omk_Sheet ?okc_Sheet ?on_Sheet_standing ?on_Sheet_struck_so_far ?on_Sheet_panel ?on_Sheet_card_by_judge ?on_Sheet_taken_so_far ?on_Sheet_sealed
  (case oa_Sheet=>k_is)
  (case a0=>k_is)
  (case i0=>k_is)
  (case l0=>k_is)
  (case c0=>k_is)
  (case k0=>k_is)
  (case a1=>k_is)
  (case i1=>k_is)
  (case l1=>k_is)
  (case c1=>k_is)
  (case k1=>k_is)
  (case a2=>k_is)
  (case i2=>k_is)
  (case l2=>k_is)
  (case c2=>k_is)
  (case k2=>k_is)
  (case a3=>k_is)
  (case i3=>k_is)
  (case l3=>k_is)
  (case c3=>k_is)
  (case k3=>k_is)
  (case a4=>k_is)
  (case l4=>k_is)
  (case c4=>k_is)
  (case k4=>k_is)
  (case a5=>k_is)
  (case l5=>k_is)
  (case c5=>k_is)
  (case k5=>k_is)
  (case a6=>k_is)
  (case l6=>k_is)
  (case c6=>k_is)
  (case k6=>k_is)
  (case a7=>k_is)
  (case l7=>k_is)
  (case c7=>k_is)
  (case k7=>k_is)
  (case a8=>k_is)
  (case l8=>k_is)
  (case c8=>k_is)
  (case k8=>k_is)
  (case a9=>k_is)
  (case l9=>k_is)
  (case c9=>k_is)
  (case k9=>k_is)
  (case a10=>k_is)
  (case l10=>k_is)
  (case c10=>k_is)
  (case k10=>k_is)
  (case a11=>k_is)
  (case l11=>k_is)
  (case c11=>k_is)
  (case k11=>k_is)
  (case a12=>k_is)
  (case l12=>k_is)
  (case c12=>k_is)
  (case k12=>k_is)
  (case a13=>k_is)
  (case l13=>k_is)
  (case c13=>k_is)
  (case k13=>k_is)
  (case a14=>k_is)
  (case l14=>k_is)
  (case c14=>k_is)
  (case k14=>k_is)
  (case a15=>k_is)
  (case l15=>k_is)
  (case c15=>k_is)
  (case k15=>k_is)
  (case a16=>k_is)
  (case l16=>k_is)
  (case c16=>k_is)
  (case k16=>k_is)
  (case a17=>k_is)
  (case l17=>k_is)
  (case c17=>k_is)
  (case k17=>k_is)
  (case a18=>k_is)
  (case l18=>k_is)
  (case c18=>k_is)
  (case k18=>k_is)
  (case a19=>k_is)
  (case l19=>k_is)
  (case c19=>k_is)
  (case k19=>k_is)
  (case a20=>k_is)
  (case l20=>k_is)
  (case c20=>k_is)
  (case k20=>k_is)
  (case a21=>k_is)
  (case l21=>k_is)
  (case c21=>k_is)
  (case k21=>k_is)
  (case a22=>k_is)
  (case i22=>k_is)
  (case l22=>k_is)
  (case c22=>k_is)
  (case k22=>k_is)
  (case a23=>k_is)
  (case i23=>k_is)
  (case l23=>k_is)
  (case c23=>k_is)
  (case k23=>k_is)
  (case a24=>k_is)
  (case l24=>k_is)
  (case c24=>k_is)
  (case k24=>k_is)
  (case a25=>k_is)
  (case l25=>k_is)
  (case c25=>k_is)
  (case k25=>k_is)
  (case a26=>k_is)
  (case l26=>k_is)
  (case c26=>k_is)
  (case k26=>k_is)
  (case a27=>k_is)
  (case l27=>k_is)
  (case c27=>k_is)
  (case k27=>k_is)
  (case a28=>k_is)
  (case l28=>k_is)
  (case c28=>k_is)
  (case k28=>k_is)
  (case a29=>k_is)
  (case l29=>k_is)
  (case c29=>k_is)
  (case k29=>k_is)
  (case a30=>k_is)
  (case l30=>k_is)
  (case c30=>k_is)
  (case k30=>k_is)
  (case a31=>k_is)
  (case l31=>k_is)
  (case c31=>k_is)
  (case k31=>k_is)
  (case a32=>k_is)
  (case l32=>k_is)
  (case c32=>k_is)
  (case k32=>k_is)
  (case a33=>k_is)
  (case i33=>k_is)
  (case l33=>k_is)
  (case c33=>k_is)
  (case k33=>k_is)
  (case a34=>k_is)
  (case l34=>k_is)
  (case c34=>k_is)
  (case k34=>k_is)
  (case a35=>k_is)
  (case l35=>k_is)
  (case c35=>k_is)
  (case k35=>k_is)
  (case a36=>k_is)
  (case l36=>k_is)
  (case c36=>k_is)
  (case k36=>k_is)
  (case a37=>k_is)
  (case l37=>k_is)
  (case c37=>k_is)
  (case k37=>k_is)
  (case a38=>k_is)
  (case l38=>k_is)
  (case c38=>k_is)
  (case k38=>k_is)
  (case a39=>k_is)
  (case i39=>k_is)
  (case l39=>k_is)
  (case c39=>k_is)
  (case k39=>k_is)
  (case a40=>k_is)
  (case l40=>k_is)
  (case c40=>k_is)
  (case k40=>k_is)
  (case a41=>k_is)
  (case l41=>k_is)
  (case c41=>k_is)
  (case k41=>k_is)
  (case a42=>k_is)
  (case l42=>k_is)
  (case c42=>k_is)
  (case k42=>k_is)
  (case a43=>k_is)
  (case l43=>k_is)
  (case c43=>k_is)
  (case k43=>k_is)
  (case a44=>k_is)
  (case l44=>k_is)
  (case c44=>k_is)
  (case k44=>k_is)
  (case a45=>k_is)
  (case l45=>k_is)
  (case c45=>k_is)
  (case k45=>k_is)
  (case a46=>k_is)
  (case l46=>k_is)
  (case c46=>k_is)
  (case k46=>k_is)
  (case a47=>k_is)
  (case l47=>k_is)
  (case c47=>k_is)
  (case k47=>k_is)
  (case a48=>k_is)
  (case l48=>k_is)
  (case c48=>k_is)
  (case k48=>k_is)
  (case a49=>k_is)
  (case l49=>k_is)
  (case c49=>k_is)
  (case k49=>k_is)
  (case a50=>k_is)
  (case l50=>k_is)
  (case c50=>k_is)
  (case k50=>k_is)
  (case a51=>k_is)
  (case l51=>k_is)
  (case c51=>k_is)
  (case k51=>k_is)
  (case a52=>k_is)
  (case l52=>k_is)
  (case c52=>k_is)
  (case k52=>k_is)
  (case a53=>k_is)
  (case l53=>k_is)
  (case c53=>k_is)
  (case k53=>k_is)
  (case qe=>exact rfl)
  (case qk=>k_is)
  (case qv=>exact rfl)
  (case qh=>kernel_rfl)
  (case qn=>kernel_rfl)
  (case a54=>k_is)
  (case l54=>k_is)
  (case c54=>k_is)
  (case k54=>k_is)
  (case a55=>k_is)
  (case l55=>k_is)
  (case c55=>k_is)
  (case k55=>k_is)
  (case a56=>k_is)
  (case l56=>k_is)
  (case c56=>k_is)
  (case k56=>k_is)
  (case a57=>k_is)
  (case l57=>k_is)
  (case c57=>k_is)
  (case k57=>k_is)
  (case z0=>k_is)
  (case z1=>k_is)
  (case z2=>k_is)
  (case z3=>k_is)
  (case z4=>k_is)
  (case z5=>k_is)
  (case z6=>k_is)
  (case z7=>k_is)
  (case z8=>k_is)
  (case z9=>k_is)
  (case z10=>k_is)
  (case z11=>k_is)
  (case z12=>k_is)
  (case z13=>k_is)
  (case z14=>k_is)
  (case y0=>k_is)
  (case y1=>k_is)
  (case y2=>k_is)
  (case y3=>k_is)
  (case y4=>k_is)
  (case xa1=>k_is)
  (case xa2=>k_is)
  (case xa3=>k_is)
  (case xa4=>k_is)
  (case xa5=>k_is)
  (case xa6=>k_is)
  (case xa8=>k_is)
  (case xa10=>k_is)
  (case xe1=>kernel_rfl)
  (case xe2=>kernel_rfl)
  (case xe3=>kernel_rfl)
  (case xe4=>kernel_rfl)
  (case xe5=>kernel_rfl)
  (case xe6=>kernel_rfl)
  (case xe8=>kernel_rfl)
  (case xe10=>kernel_rfl)
  (case opg_Sheet=>k_is)
  (case ohd_Sheet=>k_is)
  (case opo_Sheet=>k_is)
  (case osa_Sheet=>k_is)
  (case omk_Sheet=>k_is)
  (case okc_Sheet=>k_is)
  (case on_Sheet_standing=>k_is)
  (case on_Sheet_struck_so_far=>k_is)
  (case on_Sheet_panel=>k_is)
  (case on_Sheet_card_by_judge=>k_is)
  (case on_Sheet_taken_so_far=>k_is)
  (case on_Sheet_sealed=>k_is)

import PyProof.Rows.All
import Wide.All
import OpenK.AllK
import Wide.FinOn
import Lean
import PyProof.EqAt
import PyProof.EqKinds
import PyProof.TupleCall
import PyProof.ListRange
import KE.KSortAsk
import KE.KSortKey
import KE.KSortTup
import KE.KItemsList
import KE.KLam
import KE.KNestM
import PyProof.Rows.StrLen
import PyProof.Rows.Range3
import PyProof.CallStr
import PyProof.StrBlockL
import PyProof.MeetsStr
import PyProof.Rows.StrDigits
import PySem.Challenge.RW_panelplace_k24_questions_refused
noncomputable section
set_option Elab.async false
set_option linter.all false
set_option maxRecDepth 100000
namespace L2
open PySem PySem.Spec PyProof.Rows
abbrev Key:=Sum Int Str
def zgG:Key→Value→Bool
 | .inl k,v=>Value.isInt k v
 | .inr x,v=>Value.isStrOf x v
def keyH(w:World):Key→Int
 | .inl k=>hashInt k
 | .inr x=>hashStr w x
theorem yH:∀{k:Key} {v:Value},zgG k v=true→(∃i t,k=Sum.inl i∧v=Value.int i t)∨(∃x t,k=Sum.inr x∧v=Value.str x t)
 | .inl i,v,h=>by
   obtain⟨t,e⟩:=Value.isInt_shape (k:=i) (v:=v) h
   exact .inl ⟨i,t,rfl,e⟩
 | .inr x,v,h=>by
   obtain⟨t,e⟩:=Value.isStrOf_shape (x:=x) (v:=v) h
   exact .inr ⟨x,t,rfl,e⟩
theorem keyIs_int(i:Int)(t:Tok):zgG (.inl i) (.int i t)=true:=by simp[zgG,Value.isInt]
theorem keyIs_str(x:Str)(t:Tok):zgG (.inr x) (.str x t)=true:=by simp[zgG,Value.isStrOf]
theorem key_ll(a b:Int):decide ((Sum.inl a:Key)=Sum.inl b)=(a==b):=by
 by_cases e:a=b
 ·subst e;simp
 ·have h:¬(Sum.inl a:Key)=Sum.inl b:=fun q=>e (Sum.inl.inj q)
  rw[decide_eq_false h]
  exact(beq_eq_false_iff_ne.mpr e).symm
theorem key_rr(a b:Str):decide ((Sum.inr a:Key)=Sum.inr b)=decide (a=b):=by
 by_cases e:a=b
 ·subst e;simp
 ·have h:¬(Sum.inr a:Key)=Sum.inr b:=fun q=>e (Sum.inr.inj q)
  rw[decide_eq_false h,decide_eq_false e]
theorem key_lr(a:Int)(b:Str):decide ((Sum.inl a:Key)=Sum.inr b)=false:=decide_eq_false (fun q=>nomatch q)
theorem key_rl(a:Str)(b:Int):decide ((Sum.inr a:Key)=Sum.inl b)=false:=decide_eq_false (fun q=>nomatch q)
def wQ(prog:Program)(w:World):PySem.KeyKind prog w Key where
 is:=zgG
 hash:=keyH w
 inj:=fun v a b ha hb=>by
  rcases yH ha with⟨i,t,rfl,rfl⟩ | ⟨x,t,rfl,rfl⟩
  ·rcases yH hb with⟨j,u,rfl,e⟩ | ⟨y,u,rfl,e⟩
   ·injection e with e1 _;rw[e1]
   ·exact nomatch e
  ·rcases yH hb with⟨j,u,rfl,e⟩ | ⟨y,u,rfl,e⟩
   ·exact nomatch e
   ·injection e with e1 _;rw[e1]
 byValue:=fun k v h=>by
  rcases yH h with⟨i,t,rfl,rfl⟩ | ⟨x,t,rfl,rfl⟩ <;> rfl
 pyHash:=fun hv h=>by
  rcases yH hv with⟨i,t,rfl,rfl⟩ | ⟨x,t,rfl,rfl⟩
  ·exact wpAny_pyHash_int h
  ·exact wpAny_pyHash_str h
 eqBool:=fun hu hv h=>by
  rcases yH hu with⟨i,t,rfl,rfl⟩ | ⟨x,t,rfl,rfl⟩
  ·rcases yH hv with⟨j,u,rfl,rfl⟩ | ⟨y,u,rfl,rfl⟩
   ·rw[key_ll] at h;exact wpAny_eqBool_int h
   ·rw[key_lr] at h;exact SeqAt.EqAt.int_str i t y u _ _ _ _ h
  ·rcases yH hv with⟨j,u,rfl,rfl⟩ | ⟨y,u,rfl,rfl⟩
   ·rw[key_rl] at h;exact SeqAt.EqAt.str_int x t j u _ _ _ _ h
   ·rw[key_rr] at h;exact wpAny_eqBool_str h
 «strs» := fun k x t v h=>by
  rcases yH h with⟨i,u,rfl,e⟩ | ⟨y,u,rfl,e⟩
  ·exact nomatch e
  ·injection e with e1 _
   subst e1
   cases v <;> rfl
theorem zhM(prog:Program)(w:World)(i:Int)(t:Tok):(wQ prog w).is (.inl i) (.int i t)=true:=keyIs_int i t
theorem zh8(prog:Program)(w:World)(x:Str)(t:Tok):(wQ prog w).is (.inr x) (.str x t)=true:=keyIs_str x t
inductive V where
 | non | bl (b:Bool) | int (i:Int) | str (x:Str) | byt (b:Array UInt8) | flt (b:UInt64) | ref (a:Addr) | ty (n:String)
 deriving DecidableEq
def zR:V→Value→Prop
 | .non,u=>u=Value.none
 | .bl b,u=>u=Value.bool b
 | .int i,u=>∃t,u=Value.int i t
 | .str x,u=>∃t,u=Value.str x t
 | .byt b,u=>∃t,u=Value.bytes b t
 | .flt b,u=>∃t,u=Value.float b t
 | .ref a,u=>u=Value.ref a
 | .ty n,u=>u=Value.type n
abbrev zG:List V→List Value→Prop:=Paired zR
theorem zG.length{xs:List V}{us:List Value}(r:zG xs us):xs.length=us.length:=Paired.length r
theorem zG.get:∀{xs:List V} {us:List Value} {i:Nat} {x:V},zG xs us→xs[i]? = some x→∃u,us[i]? = some u∧zR x u
 | _,_,_,_,.nil,e=>by simp at e
 | _,_,0,_,.cons r _,e=>by simp at e;subst e;exact⟨_,rfl,r⟩
 | _,_,i+1,x,.cons _ t,e=>by
   obtain⟨u,h1,h2⟩:=zG.get (i:=i) (x:=x) t (by simpa using e)
   exact⟨u,by simpa using h1,h2⟩
theorem zG.set{x:V}{u:Value}(r:zR x u):∀{xs:List V} {us:List Value} (i:Nat),zG xs us→zG (xs.set i x) (us.set i u)
 | _,_,_,.nil=>.nil
 | _,_,0,.cons _ t=>.cons r t
 | _,_,i+1,.cons q t=>.cons q (zG.set r i t)
theorem zG.append:∀{xs ys:List V} {us ws:List Value},zG xs us→zG ys ws→zG (xs++ys) (us++ws)
 | _,_,_,_,.nil,s=>s
 | _,_,_,_,.cons r t,s=>.cons r (zG.append t s)
theorem zG.take:∀{xs:List V} {us:List Value} (n:Nat),zG xs us→zG (xs.take n) (us.take n)
 | _,_,0,_=>.nil
 | _,_,_+1,.nil=>.nil
 | _,_,n+1,.cons r t=>.cons r (zG.take n t)
theorem zG.drop:∀{xs:List V} {us:List Value} (n:Nat),zG xs us→zG (xs.drop n) (us.drop n)
 | _,_,0,r=>r
 | _,_,_+1,.nil=>.nil
 | _,_,n+1,.cons _ t=>zG.drop n t
def zdf:Option V→Option Value→Prop
 | some v,some u=>zR v u
 | none,none=>True
 | _,_=>False
def KV{κ:Type}:List (κ × V)→List (κ × Value)→Prop:=Paired fun(p:κ × V) (q:κ × Value)=>p.1=q.1∧zR p.2 q.2
def kV:Key→V
 | .inl i=>.int i
 | .inr x=>.str x
inductive HO where
 /-- a list -/
 | lst (xs:List V)
 /-- a tuple (never changes) -/
 | tup (xs:List V)
 /-- a dict whose keys are ints and texts;one whose keys are tuples of ints and texts (the empty one is both) -/
 | dK (kvs:List (Key × V)) | dT (kvs:List (List Key × V))
 /-- a set of ints: its members,its size -/
 | set (S:Int→Bool) (n:Nat)
 /-- an instance of the class at C,its dict at dx,its attributes -/
 | ins (C dx:Addr) (fs:List (Str × V))
 /-- the dict of the instance at x -/
 | own (x:Addr)
 /-- the dict of an exception -/
 | xd (fs:List (Str × V))
 /-- a bound method,f of x -/
 | met (f x:Addr)
 /-- a range object lo,lo+1,.. zhy hi -/
 | rng (lo hi:Int)
 /-- a thing that is known to the object (the script;a dict while a loop walks it): read,never written while it is so -/
 | frz (o:Obj) (u:HO)
 /-- a code object's table -/
 | tbl (ps:Array Value)
 /-- any other thing,by what is true of its one object (a def of one's own: SetO a S n:=HO.ext fun h => ..) -/
 | ext (φ:Heap→Prop)
abbrev Hp:=Addr→Option HO
def upd(H:Hp)(a:Addr)(o:HO):Hp:=fun b=>if b=a then some o else H b
theorem zg{H:Hp}{a:Addr}{o:HO}:upd H a o a=some o:=by unfold upd;rw[if_pos rfl]
theorem zj{H:Hp}{a b:Addr}{o:HO}(h:b≠a):upd H a o b=H b:=by unfold upd;rw[if_neg h]
theorem upd_upd{H:Hp}{a:Addr}{o u:HO}:upd (upd H a o) a u=upd H a u:=by
 funext b;unfold upd;split <;> rfl
theorem y6{H:Hp}{a b:Addr}{o u:HO}(h:H a=some o)(h':H b=some u)(d:o≠u):a≠b:=by
 intro e;subst e;rw[h] at h';exact d (Option.some.inj h')
theorem zu{H:Hp}{a b:Addr}{o:HO}(h:H a=some o)(h':H b=none):a≠b:=by
 intro e;subst e;rw[h] at h';cases h'
section
variable (P:Program) (w:World)
def y9(H:Hp)(h:Heap)(a:Addr):HO→Prop
 | .lst xs=>xs.length≤sizeLine∧∃(its:List Value) (n:Nat),zG xs its∧h.get? a=some { cls:=.type "list",data:=.seq its.toArray n }
 | .tup xs=>xs.length≤sizeLine∧∃its:List Value,zG xs its∧IsTup h a its.toArray
 | .dK kvs=>kvs.length≤sizeLine∧(a==sysModules)=false∧∃vs,KV kvs vs∧h.DictOf (wQ P w) a vs
 | .dT kvs=>kvs.length≤sizeLine∧(a==sysModules)=false∧∃xs:List (List Key × Addr × Value),
    Paired (fun(p:List Key × V) (q:List Key × Addr × Value)=>p.1=q.1∧H q.2.1=some (.tup (p.1.map kV))∧zR p.2 q.2.2) kvs xs ∧
    ∃o es ep,h.get? a=some o∧o.ExactDict∧o.data=.dict es ep∧es.toList=xs.map (entryOfKey (tupleKind (wQ P w)))∧(xs.map (·.1)).Nodup
 | .set S n=>h.SetOf (intKind P w) a S n
 | .ins C dx fs=>H dx=some (.own a)∧fs.length≤1000∧dx≠a∧h.get? a=some (PySem.W.instObj C dx) ∧
    ∃mA,h.Ns1 dx mA∧(∀f,zdf (fs.lookup f) (mA f))∧PySem.Within mA (fs.map (·.1))
 | .own _=>∃o,h.get? a=some o
 | .xd fs=>∃mA,h.Ns1 a mA∧∀f,zdf (fs.lookup f) (mA f)
 | .rng lo hi=>∃t u v,h.get? a=some { cls:=.type "range",data:=.fields #[.int lo t,.int hi u,.int 1 v] }
 | .frz o u=>h.get? a=some o∧y9 H h a u
 | .tbl ps=>h.get? a=some { cls:=.none,data:=.fields ps }
 | .met f x=>h.get? a=some (PySem.W.methodObj (.ref f) (.ref x))
 | .ext φ=>φ h∧(∃o,h.get? a=some o)∧∀h1 h2:Heap,φ h1→(∀o,h1.get? a=some o→h2.get? a=some o)→φ h2
def HOk(H:Hp)(h:Heap):Prop:=∀a o,H a=some o→y9 P w H h a o
end
section
variable {P:Program} {w:World} {H H':Hp} {h h':Heap} {a:Addr} {o:HO}
theorem y9.lt(x:y9 P w H h a o):a<h.objs.size:=by
 cases o with
 | lst xs=>obtain⟨_,_,_,_,e⟩:=x;exact Heap.lt_size e
 | tup xs=>obtain⟨_,_,_,p⟩:=x;exact p.lt
 | dK kvs=>obtain⟨_,_,_,_,o,_,_,e,_⟩:=x;exact Heap.lt_size e
 | dT kvs=>obtain⟨_,_,_,_,o,_,_,e,_⟩:=x;exact Heap.lt_size e
 | set S n=>obtain⟨o,_,_,_,e,_⟩:=x;exact Heap.lt_size e
 | ins C dx fs=>obtain⟨_,_,_,e,_⟩:=x;exact Heap.lt_size e
 | own y=>obtain⟨_,e⟩:=x;exact Heap.lt_size e
 | xd fs=>obtain⟨_,⟨_,_,_,e,_⟩,_⟩:=x;exact Heap.lt_size e
 | rng lo hi=>obtain⟨_,_,_,e⟩:=x;exact Heap.lt_size e
 | frz ob u=>obtain⟨e,_⟩:=x;exact Heap.lt_size e
 | tbl ps=>exact Heap.lt_size (show h.get? a=some _ from x)
 | met f y=>exact Heap.lt_size (show h.get? a=some _ from x)
 | ext φ=>obtain⟨_,⟨_,e⟩,_⟩:=x;exact Heap.lt_size e
theorem Paired.mapP{α β:Type}{F G:α→β→Prop}:∀{l₁:List α} {l₂:List β},Paired F l₁ l₂→(∀a b,F a b→G a b)→Paired G l₁ l₂
 | _,_,.nil,_=>.nil
 | _,_,.cons r t,f=>.cons (f _ _ r) (Paired.mapP t f)
theorem y9.stay(x:y9 P w H h a o)(k:∀b u,(b=a∨H b=some (.own a))→h.get? b=some u→h'.get? b=some u)
 (ho:∀b,H b=some (.own a)→H' b=some (.own a)) (ht:∀b xs,H b=some (.tup xs)→H' b=some (.tup xs)):y9 P w H' h' a o:=by
 induction o with
 | lst xs=>obtain⟨z,its,n,r,e⟩:=x;exact⟨z,its,n,r,k _ _ (.inl rfl) e⟩
 | tup xs=>obtain⟨z,its,r,ob,e,c⟩:=x;exact⟨z,its,r,ob,k _ _ (.inl rfl) e,c⟩
 | dK kvs=>obtain⟨z,y,vs,r,ob,es,ep,e,c⟩:=x;exact⟨z,y,vs,r,ob,es,ep,k _ _ (.inl rfl) e,c⟩
 | dT kvs =>
   obtain⟨z,y,xs,r,ob,es,ep,e,c⟩:=x
   exact⟨z,y,xs,Paired.mapP r fun p q z=>⟨z.1,ht _ _ z.2.1,z.2.2⟩,ob,es,ep,k _ _ (.inl rfl) e,c⟩
 | set S n=>obtain⟨ob,es,ep,t,e,c⟩:=x;exact⟨ob,es,ep,t,k _ _ (.inl rfl) e,c⟩
 | ins C dx fs =>
   obtain⟨d,z,ne,e,mA,⟨od,es,ep,e2,c⟩,r⟩:=x
   exact⟨ho _ d,z,ne,k _ _ (.inl rfl) e,mA,⟨od,es,ep,k _ _ (.inr d) e2,c⟩,r⟩
 | own y=>obtain⟨ob,e⟩:=x;exact⟨ob,k _ _ (.inl rfl) e⟩
 | xd fs=>obtain⟨mA,⟨od,es,ep,e,c⟩,r⟩:=x;exact⟨mA,⟨od,es,ep,k _ _ (.inl rfl) e,c⟩,r⟩
 | rng lo hi=>obtain⟨t,u,v,e⟩:=x;exact⟨t,u,v,k _ _ (.inl rfl) e⟩
 | frz ob u ih=>obtain⟨e,q⟩:=x;exact⟨k _ _ (.inl rfl) e,ih q⟩
 | tbl ps =>
   have e:h.get? a=some { cls:=.none,data:=.fields ps }:=x
   show h'.get? a=some { cls:=.none,data:=.fields ps }
   exact k a _ (.inl rfl) e
 | met f y =>
   have e:h.get? a=some (PySem.W.methodObj (.ref f) (.ref y)):=x
   show h'.get? a=some (PySem.W.methodObj (.ref f) (.ref y))
   exact k a _ (.inl rfl) e
 | ext φ=>obtain⟨p,⟨o,e⟩,st⟩:=x;exact⟨st _ _ p fun o q=>k _ _ (.inl rfl) q,⟨o,k _ _ (.inl rfl) e⟩,st⟩
theorem HOk.lt(x:HOk P w H h)(e:H a=some o):a<h.objs.size:=(x a o e).lt
theorem HOk.fresh(x:HOk P w H h)(e:h.objs.size≤a):H a=none:=by
 cases q:H a with
 | none=>rfl
 | some u=>exact absurd (Nat.lt_of_lt_of_le (x.lt q) e) (Nat.lt_irrefl _)
theorem HOk.kept(x:HOk P w H h)(k:∀b u,h.get? b=some u→h'.get? b=some u):HOk P w H h':=fun a o e =>
 (x a o e).stay (fun b u _ q=>k b u q) (fun _ q=>q) fun _ _ q=>q
theorem HOk.laid(x:HOk P w H h)(k:∀b u,h.get? b=some u→h'.get? b=some u)(hp:h.objs.size≤a)(new:y9 P w (upd H a o) h' a o):HOk P w (upd H a o) h':=fun b u e=>by
 have hn:=x.fresh hp
 by_cases hb:b=a
 ·subst hb;rw[zg] at e;cases e;exact new
 ·rw[zj hb] at e
  exact(x b u e).stay (fun c v _ q=>k c v q) (fun c q=>by rw[zj (zu q hn)];exact q) fun c xs q=>by rw[zj (zu q hn)];exact q
end
def Rd(H:Hp)(a:Addr)(u:HO):Prop:=H a=some u∨∃o,H a=some (.frz o u)
theorem Rd.of{H:Hp}{a:Addr}{u:HO}(h:H a=some u):Rd H a u:=.inl h
theorem Rd.ok{P:Program}{w:World}{H:Hp}{h:Heap}{a:Addr}{u:HO}(r:Rd H a u)(x:HOk P w H h):y9 P w H h a u:=by
 rcases r with r | ⟨o,r⟩
 ·exact x a u r
 ·obtain⟨_,q⟩:=x a _ r
  exact q
def Mut:Option HO→Prop
 | some (.lst _)=>True
 | some (.dK _)=>True
 | some (.dT _)=>True
 | some (.set _ _)=>True
 | some (.ins _ _ _)=>True
 | some (.ext _)=>True
 | _=>False
section
variable {P:Program} {w:World} {H:Hp} {h h':Heap} {x e:Addr} {o':HO}
theorem HOk.write(ok:HOk P w H h)(mu:Mut (H x))(he:e=x∨H e=some (.own x))(k:∀b u,b≠e→h.get? b=some u→h'.get? b=some u)(heo:∃u,h'.get? e=some u)
 (new:y9 P w (upd H x o') h' x o'):HOk P w (upd H x o') h':=fun b u q=>by
 have nown:∀c y,H c=some (.own y)→c≠x:=fun c y r z=>by subst z;rw[r] at mu;exact mu
 have ntup:∀c xs,H c=some (.tup xs)→c≠x:=fun c xs r z=>by subst z;rw[r] at mu;exact mu
 by_cases hb:b=x
 ·subst hb;rw[zg] at q;cases q;exact new
 ·rw[zj hb] at q
  by_cases hbe:b=e
  ·have q':H b=some (.own x):=by
    rcases he with z | z
    ·exact absurd (hbe.trans z) hb
    ·rw[hbe];exact z
   rw[q] at q';cases q'
   obtain⟨v,hv⟩:=heo
   exact⟨v,by rw[hbe];exact hv⟩
  ·refine(ok b u q).stay (fun c v hc r=>k c v ?_ r) (fun c r=>by rw[zj (nown c b r)];exact r) fun c xs r=>by rw[zj (ntup c xs r)];exact r
   rcases hc with rfl | hc
   ·exact hbe
   ·rintro rfl
    rcases he with z | z
    ·exact nown c b hc z
    ·rw[hc] at z;cases z;exact hb rfl
end
structure Un (fs ex:List Addr) (H H':Hp) (h h':Heap):Prop where
 keep:∀b o,h.get? b=some o→H b=none→b∉fs→b∉ex→h'.get? b=some o
 slot:∀b o,h.get? b=some o→H b=none→b∈fs→b∉ex→∃sl,h'.get? b=some { o with slots:=sl }
 free:∀b o,h.get? b=some o→H b=none→b∉ex→H' b=none
 there:∀b o,h.get? b=some o→b∉ex→∃o',h'.get? b=some o'
 tups:∀b xs,H b=some (.tup xs)→H' b=some (.tup xs)
 frzs:∀b o u,H b=some (.frz o u)→H' b=some (.frz o u)
 tbls:∀b ps,H b=some (.tbl ps)→∃more,H' b=some (.tbl (ps++more))
section
variable {fs fs' ex ex':List Addr} {H H1 H2:Hp} {h h1 h2 h':Heap} {a x e:Addr} {o:HO}
theorem Un.any(u:Un fs ex H H1 h h1){b:Addr}{ob:Obj}(q:h.get? b=some ob)(n:H b=none)(hx:b∉ex):∃sl,h1.get? b=some { ob with slots:=sl }:=by
 by_cases hb:b∈fs
 ·exact u.slot b ob q n hb hx
 ·exact⟨ob.slots,u.keep b ob q n hb hx⟩
theorem Un.trans(a:Un fs ex H H1 h h1)(b:Un fs ex H1 H2 h1 h2):Un fs ex H H2 h h2 where
 keep:=fun c ob q n hc hx=>b.keep c ob (a.keep c ob q n hc hx) (a.free c ob q n hx) hc hx
 slot:=fun c ob q n hc hx=>by
  obtain⟨sl,e1⟩:=a.slot c ob q n hc hx
  obtain⟨sl',e2⟩:=b.slot c _ e1 (a.free c ob q n hx) hc hx
  exact⟨sl',e2⟩
 free:=fun c ob q n hx=>by
  obtain⟨o',e1⟩:=a.there c ob q hx
  exact b.free c o' e1 (a.free c ob q n hx) hx
 there:=fun c ob q hx=>by
  obtain⟨o',e1⟩:=a.there c ob q hx
  exact b.there c o' e1 hx
 tups:=fun c xs q=>b.tups c xs (a.tups c xs q)
 frzs:=fun c ob xs q=>b.frzs c ob xs (a.frzs c ob xs q)
 tbls:=fun c ps q=>by
  obtain⟨m1,e1⟩:=a.tbls c ps q
  obtain⟨m2,e2⟩:=b.tbls c _ e1
  exact⟨m1++m2,by rw[e2,Array.append_assoc]⟩
theorem Un.kept(k:∀b u,h.get? b=some u→h'.get? b=some u):Un fs ex H H h h' :=
 ⟨fun b ob q _ _ _=>k b ob q,fun b ob q _ _ _=>⟨ob.slots,k b ob q⟩,fun _ _ _ n _=>n,fun b ob q _=>⟨ob,k b ob q⟩,fun _ _ q=>q,fun _ _ _ q=>q,fun _ ps q=>⟨#[],by rw[q];simp⟩⟩
theorem Un.refl:Un fs ex H H h h:=Un.kept fun _ _ q=>q
theorem Un.laid(k:∀b u,h.get? b=some u→h'.get? b=some u)(hp:h.objs.size≤a)(hn:H a=none):Un fs ex H (upd H a o) h h' where
 keep:=fun b u q _ _ _=>k b u q
 slot:=fun b u q _ _ _=>⟨u.slots,k b u q⟩
 free:=fun b u q n _=>by rw[zj (Nat.ne_of_lt (Nat.lt_of_lt_of_le (Heap.lt_size q) hp))];exact n
 there:=fun b u q _=>⟨u,k b u q⟩
 tups:=fun b xs q=>by rw[zj (zu q hn)];exact q
 frzs:=fun b u xs q=>by rw[zj (zu q hn)];exact q
 tbls:=fun b ps q=>⟨#[],by rw[zj (zu q hn),q];simp⟩
theorem Un.write(mu:Mut (H x))(he:e=x∨H e=some (.own x))(k:∀b u,b≠e→h.get? b=some u→h'.get? b=some u)(heo:∃u,h'.get? e=some u):Un fs ex H (upd H x o) h h':=by
 have hx:∀b,H b=none→b≠x:=fun b n z=>by subst z;rw[n] at mu;exact mu
 have hb:∀b,H b=none→b≠e:=fun b n z=>by
  subst z
  rcases he with r | r
  ·exact hx b n r
  ·rw[n] at r;cases r
 have hm:∀b u,H b=some u→¬Mut (some u)→b≠x:=fun b u q nm z=>by subst z;rw[q] at mu;exact nm mu
 refine⟨fun b u q n _ _=>k b u (hb b n) q,fun b u q n _ _=>⟨u.slots,k b u (hb b n) q⟩,fun b u q n _=>by rw[zj (hx b n)];exact n,fun b u q _=>?_,
  fun b xs q=>by rw[zj (hm b _ q fun z=>z)];exact q,fun b u xs q=>by rw[zj (hm b _ q fun z=>z)];exact q,fun b ps q=>⟨#[],by rw[zj (hm b _ q fun z=>z),q];simp⟩⟩
 by_cases hbe:b=e
 ·subst hbe;exact heo
 ·exact⟨u,k b u hbe q⟩
end
def trk(h:Heap)(H:Hp):List Addr:=(List.range h.objs.size).filter fun a=>(H a).isSome
def zf9(h:Heap)(H:Hp):Heap:=PySem.W.hideAll h (trk h H)
theorem zjB(h:Heap)(H:Hp):(zf9 h H).objs.size=h.objs.size:=PySem.W.hideAll_size _ _
theorem hidT_get{h:Heap}{H:Hp}{b:Addr}{o:Obj}(e:h.get? b=some o)(n:H b=none):(zf9 h H).get? b=some o :=
 PySem.W.hideAll_get _ e fun hm=>by
  have q:(H b).isSome=true:=(List.mem_filter.mp hm).2
  rw[n] at q;simp at q
theorem of_hidT{h:Heap}{H:Hp}{b:Addr}{o:Obj}(e:(zf9 h H).get? b=some o):h.get? b=some o∧H b=none:=by
 have e':h.get? b=some o:=PySem.W.of_hideAll (trk h H) e
 refine⟨e',?_⟩
 cases q:H b with
 | none=>rfl
 | some x =>
   have hm:b∈trk h H:=List.mem_filter.mpr ⟨List.mem_range.mpr (Heap.lt_size e'),by simp[q]⟩
   have z:(zf9 h H).get? b=none:=PySem.W.hideAll_none (trk h H) hm
   rw[z] at e;cases e
def allNews(g h:Heap)(L:Addr):List (Addr × Obj):=(List.range h.objs.size).filterMap fun a=>if a=L∨(g.get? a).isSome=true then none else(h.get? a).map fun o=>(a,o)
def zcO(g h:Heap)(L d:Addr):List (Addr × Obj):=(allNews g h L).filter fun p=>decide (p.1≠d)
structure Mod (K:PySem.W.Frag) (mg:Str→Option Value) (base:Heap):Prop where
 kin:K.In base
 glob:base.Ns mainGlobals mg
 blt:∃mb,base.Ns builtinsNs mb∧∀x:Str,x ≠ "__name__" → mb x=bootBuiltins x
 nolimit:base.NoLimit
/-- the context: a def's body (or a comprehension's block) running. base: fixed through the whole law;s₀,H₀: the entry;outer: the frames whose slots others may change (a def's callers);stack: all frames that run;
 ex: iterators that were made yw of the entry and are walked here (a comprehension's);fn: the names whose cells were made at the entry (a def: all;a comprehension's block: its own);calm: not within an except suite;pn: pins that every state bears;xe: what is wanted of an exception that leaves the code -/
structure Cx where
 prog:Program
 w:World
 K:PySem.W.Frag
 mg:Str→Option Value
 base:Heap
 A:Around
 N:List Str
 s₀:Shared
 H₀:Hp
 env:Env
 outer:List Env
 stack:List Env
 ex:List Addr
 fn:Str→Bool
 calm:Bool
 pn:List (Addr × Obj)
 xe:Value→Shared→Prop
def frs(l:List Env):List Addr:=l.filterMap (·.frame)
abbrev Cx.fs(X:Cx):List Addr:=frs X.outer
def Vis(sc:Scope)(x:Str):Prop:=sc.names.lookup x=some .local∨sc.names.lookup x=some .cell∨sc.names.lookup x=some .free
def Loc(sc:Scope)(x:Str):Prop:=sc.names.lookup x=some .local∨sc.names.lookup x=some .cell
def Look(env:Env)(h:Heap)(m:Str→Option Value)(x:Str)(u:Value):Prop :=
 (env.kindOf x=some .local∧m x=some u)∨((env.kindOf x=some .cell∨env.kindOf x=some .free)∧∃c,env.cells.lookup x=some c∧h.IsCell c (some u))
structure Cx.Ok (X:Cx):Prop where
 mod:Mod X.K X.mg X.base
 kind:X.env.scope.kind=.function
 glob:X.env.globals=mainGlobals
 blt:X.env.builtins=builtinsNs
 above:X.s₀.heap.objs.size≤X.env.locals
 inj:∀x y c,X.env.cells.lookup x=some c→X.env.cells.lookup y=some c→x=y
 has:∀x,(X.env.kindOf x=some .cell∨X.env.kindOf x=some .free)→∃c,X.env.cells.lookup x=some c
 cab:∀x c,X.fn x=true→X.env.cells.lookup x=some c→X.s₀.heap.objs.size≤c
 hd:X.calm=true→X.A.handled=none
 frames:X.A.frames=some X.stack
 stk:X.stack=X.outer∨(X.stack=X.env::X.outer∧X.env.frame=some X.env.locals)
 exf:∀b∈X.ex,b≠X.env.locals∧∀x c,X.env.cells.lookup x=some c→c≠b
 bs:∀b o,X.base.get? b=some o→X.s₀.heap.get? b=some o∧X.H₀ b=none
 bsz:X.base.objs.size≤X.s₀.heap.objs.size
 noex:∀b o,X.base.get? b=some o→b∉X.ex
 exfs:∀b∈X.ex,b∉X.fs
 funs:X.s₀.heap.FunFrames X.base X.outer
 frf:∀b∈X.fs,X.H₀ b=none
structure Inv (X:Cx) (pins:List (Addr × Obj)) (σ:List (Option V)) (H:Hp) (s:Shared):Prop where
 ok:X.Ok
 os:s.os=X.s₀.os
 bare:AllBare s.gens
 base:Un X.fs X.ex X.H₀ H X.s₀.heap s.heap
 loc:∃m,s.heap.Ns X.env.locals m∧∀(i:Nat) (x:Str) (v:V),X.N[i]? = some x→σ[i]? = some (some v)→Vis X.env.scope x→∃u,zR v u∧Look X.env s.heap m x u
 cell:∀x c,X.env.cells.lookup x=some c→∃v,s.heap.IsCell c v
 free:H X.env.locals=none
 freeC:∀x c,X.env.cells.lookup x=some c→H c=none
 pin:∀p∈X.pn++pins,s.heap.get? p.1=some p.2∧H p.1=none∧p.1≠X.env.locals∧p.1∉X.fs∧∀v,p.2.data ≠ .cell v
 hok:HOk X.prog X.w H s.heap
 len:σ.length=X.N.length
section
variable {X:Cx} {pins:List (Addr × Obj)} {σ:List (Option V)} {H H':Hp} {s:Shared} {h':Heap}
theorem Cx.Ok.nofr(ok:X.Ok){b:Addr}{o:Obj}(e:X.base.get? b=some o):b∉X.fs:=fun hb=>by
 have:=(ok.funs.mem hb).1
 rw[e] at this;cases this
theorem Inv.bs(I:Inv X pins σ H s):∀b o,X.base.get? b=some o→s.heap.get? b=some o∧H b=none:=fun b o e =>
 ⟨I.base.keep b o (I.ok.bs b o e).1 (I.ok.bs b o e).2 (I.ok.nofr e) (I.ok.noex b o e),I.base.free b o (I.ok.bs b o e).1 (I.ok.bs b o e).2 (I.ok.noex b o e)⟩
theorem Inv.bk(I:Inv X pins σ H s):∀b o,X.base.get? b=some o→s.heap.get? b=some o:=fun b o e=>(I.bs b o e).1
theorem Inv.mod(I:Inv X pins σ H s):Mod X.K X.mg X.base:=I.ok.mod
theorem Inv.kIn(I:Inv X pins σ H s):X.K.In s.heap:=I.ok.mod.kin.keeps I.bk
theorem Inv.lt(I:Inv X pins σ H s):X.env.locals<s.heap.objs.size:=let ⟨_,hn,_⟩:=I.loc;hn.lt
theorem Inv.sz(I:Inv X pins σ H s):X.s₀.heap.objs.size≤s.heap.objs.size:=Nat.le_trans I.ok.above (Nat.le_of_lt I.lt)
theorem Inv.nofs(I:Inv X pins σ H s){a:Addr}(h:s.heap.objs.size≤a):a∉X.fs:=fun hb=>by
 obtain⟨_,o,ho,_⟩:=I.ok.funs.mem hb
 exact absurd (Nat.lt_of_lt_of_le (Heap.lt_size ho) (Nat.le_trans I.sz h)) (Nat.lt_irrefl _)
theorem Inv.cne(I:Inv X pins σ H s):∀x c,X.env.cells.lookup x=some c→c≠X.env.locals:=fun x c e z=>by
 obtain⟨v,o,ho,hd⟩:=I.cell x c e
 obtain⟨m,⟨o',es,ep,ho',hd',_⟩,_⟩:=I.loc
 rw[z,ho'] at ho;cases ho;rw[hd'] at hd;cases hd
theorem Inv.funs(I:Inv X pins σ H s):s.heap.FunFrames X.base X.outer:=by
 have all:∀(l:List Env),(∀b∈frs l,b∈X.fs)→X.s₀.heap.FunFrames X.base l→s.heap.FunFrames X.base l:=by
  intro l
  induction l with
  | nil=>intro _ _;trivial
  | cons env r ih =>
    intro hs hl
    obtain⟨hk,⟨L,o,hf,hn,ho,hd⟩,hr⟩:=hl
    have hL:L∈X.fs:=hs L (by unfold frs;rw[List.filterMap_cons,hf];exact List.mem_cons_self)
    obtain⟨sl,e⟩:=I.base.slot L o ho (I.ok.frf L hL) hL fun z=>I.ok.exfs L z hL
    exact⟨hk,⟨L,_,hf,hn,e,hd⟩,ih (fun b hb=>hs b (by unfold frs;rw[List.filterMap_cons,hf];exact List.mem_cons_of_mem _ hb)) hr⟩
 exact all X.outer (fun _ hb=>hb) I.ok.funs
theorem Inv.stack(I:Inv X pins σ H s):s.heap.FunFrames X.base X.stack:=by
 rcases I.ok.stk with e | ⟨e,hf⟩
 ·rw[e];exact I.funs
 ·rw[e]
  obtain⟨m,hn,_⟩:=I.loc
  refine .cons (by rw[I.ok.kind];decide) hf hn ?_ I.funs
  exact Heap.get?_none_of_le (Nat.le_trans I.ok.bsz I.ok.above)
theorem Inv.stkSub(I:Inv X pins σ H s):∀b∈frs X.stack,b∈X.env.locals::X.fs:=fun b hb=>by
 rcases I.ok.stk with e | ⟨e,hf⟩
 ·rw[e] at hb;exact List.mem_cons_of_mem _ hb
 ·rw[e] at hb
  unfold frs at hb
  rw[List.filterMap_cons,hf] at hb
  exact hb
theorem Inv.stkFree(I:Inv X pins σ H s):∀b∈frs X.stack,H b=none:=fun b hb=>by
 rcases List.mem_cons.mp (I.stkSub b hb)with e | hb
 ·rw[e];exact I.free
 ·obtain⟨_,o,ho,_⟩:=I.ok.funs.mem hb
  exact I.base.free b o ho (I.ok.frf b hb) fun z=>I.ok.exfs b z hb
theorem Inv.step{g':Array GenState}{t':Nat}{d':Drawn}{ch:List Addr}(I:Inv X pins σ H s)
 (hch:∀b∈ch,(b∈X.ex∨X.s₀.heap.objs.size≤b)∧b≠X.env.locals∧(∀x c,X.env.cells.lookup x=some c→c≠b)∧∀p∈X.pn++pins,p.1≠b)
 (keep:∀b o,b≠X.env.locals→b∉X.fs→b∉ch→s.heap.get? b=some o→H b=none→h'.get? b=some o)
 (slot:∀b o,b≠X.env.locals→b∈X.fs→b∉ch→s.heap.get? b=some o→H b=none→∃sl,h'.get? b=some { o with slots:=sl }) (free:∀b o,b∉ch→s.heap.get? b=some o→H b=none→H' b=none)
 (there:∀b o,b∉ch→s.heap.get? b=some o→∃o',h'.get? b=some o')
 (tups:∀b xs,H b=some (.tup xs)→H' b=some (.tup xs)) (frzs:∀b o u,H b=some (.frz o u)→H' b=some (.frz o u)) (tbls:∀b ps,H b=some (.tbl ps)→∃more,H' b=some (.tbl (ps++more)))
 (ns:∀m,s.heap.Ns X.env.locals m→h'.Ns X.env.locals m) (hok:HOk X.prog X.w H' h') (hg:AllBare g') :
 Inv X pins σ H' { s with heap:=h',gens:=g',drawn:=d',toks:=t' }:=by
 have neL:∀b o,X.s₀.heap.get? b=some o→b≠X.env.locals:=fun b o e=>Nat.ne_of_lt (Nat.lt_of_lt_of_le (Heap.lt_size e) I.ok.above)
 have neC:∀b o,X.s₀.heap.get? b=some o→b∉X.ex→b∉ch:=fun b o e hx hb=>by
  rcases (hch b hb).1 with z | z
  ·exact hx z
  ·exact absurd (Nat.lt_of_lt_of_le (Heap.lt_size e) z) (Nat.lt_irrefl _)
 have cellK:∀x c,X.env.cells.lookup x=some c→∀v,s.heap.IsCell c v→h'.IsCell c v:=fun x c e v ⟨o,ho,hd⟩=>by
  have nch:c∉ch:=fun z=>(hch c z).2.2.1 x c e rfl
  by_cases hc:c∈X.fs
  ·obtain⟨sl,q⟩:=slot c o (I.cne x c e) hc nch ho (I.freeC x c e)
   exact⟨_,q,hd⟩
  ·exact⟨o,keep c o (I.cne x c e) hc nch ho (I.freeC x c e),hd⟩
 refine⟨I.ok,I.os,hg,⟨fun b o e n hb hx=>?_,fun b o e n hb hx=>?_,fun b o e n hx=>?_,fun b o e hx=>?_,fun b xs e=>tups b xs (I.base.tups b xs e),fun b o xs e=>frzs b o xs (I.base.frzs b o xs e),fun b ps e=>?_⟩,?_,fun x c e=>?_,?_,fun x c e=>?_,fun p hp=>?_,hok,I.len⟩
 ·exact keep b o (neL b o e) hb (neC b o e hx) (I.base.keep b o e n hb hx) (I.base.free b o e n hx)
 ·obtain⟨sl,e1⟩:=I.base.slot b o e n hb hx
  obtain⟨sl',e2⟩:=slot b _ (neL b o e) hb (neC b o e hx) e1 (I.base.free b o e n hx)
  exact⟨sl',e2⟩
 ·obtain⟨o',e1⟩:=I.base.there b o e hx
  exact free b o' (neC b o e hx) e1 (I.base.free b o e n hx)
 ·obtain⟨o',e1⟩:=I.base.there b o e hx
  exact there b o' (neC b o e hx) e1
 ·obtain⟨m1,e1⟩:=I.base.tbls b ps e
  obtain⟨m2,e2⟩:=tbls b _ e1
  exact⟨m1++m2,by rw[e2,Array.append_assoc]⟩
 ·obtain⟨m,hn,hl⟩:=I.loc
  refine⟨m,ns m hn,fun i x v e1 e2 e3=>?_⟩
  obtain⟨u,r,l⟩:=hl i x v e1 e2 e3
  refine⟨u,r,?_⟩
  rcases l with l | ⟨k,c,e,z⟩
  ·exact .inl l
  ·exact .inr ⟨k,c,e,cellK x c e _ z⟩
 ·obtain⟨v,z⟩:=I.cell x c e
  exact⟨v,cellK x c e v z⟩
 ·obtain⟨m,⟨o,_,_,ho,_⟩,_⟩:=I.loc
  exact free _ o (fun z=>(hch _ z).2.1 rfl) ho I.free
 ·obtain⟨v,o,ho,hd⟩:=I.cell x c e
  exact free c o (fun z=>(hch c z).2.2.1 x c e rfl) ho (I.freeC x c e)
 ·obtain⟨e,n,ne,nf,d⟩:=I.pin p hp
  have nch:p.1∉ch:=fun z=>(hch p.1 z).2.2.2 p hp rfl
  exact⟨keep p.1 p.2 ne nf nch e n,free p.1 p.2 nch e n,ne,nf,d⟩
theorem Inv.un{t':Nat}(I:Inv X pins σ H s)(u:Un X.fs [] H H' s.heap h')(hok:HOk X.prog X.w H' h'):Inv X pins σ H' { s with heap:=h',toks:=t' }:=by
 obtain⟨m,⟨o,es,ep,ho,r⟩,_⟩:=id I.loc
 obtain⟨sl,hL⟩:=u.any ho I.free (by simp)
 exact I.step (g':=s.gens) (d':=s.drawn) (ch := []) (fun _ z=>nomatch z) (fun b o _ hb _ e n=>u.keep b o e n hb (by simp)) (fun b o _ hb _ e n=>u.slot b o e n hb (by simp)) (fun b o _ e n=>u.free b o e n (by simp)) (fun b o _ e=>u.there b o e (by simp)) u.tups u.frzs u.tbls (fun m' hm=>by
  obtain⟨o',es',ep',ho',r'⟩:=hm
  rw[ho] at ho';cases ho'
  exact⟨_,es',ep',hL,r'⟩) hok I.bare
theorem Inv.call{g':Array GenState}{t':Nat}{d':Drawn}{ch:List Addr}(I:Inv X pins σ H s)(u:Un (frs X.stack) ch H H' s.heap h')(hok:HOk X.prog X.w H' h')(hg:AllBare g')
 (hch:∀b∈ch,(b∈X.ex∨X.s₀.heap.objs.size≤b)∧b≠X.env.locals∧(∀x c,X.env.cells.lookup x=some c→c≠b)∧∀p∈X.pn++pins,p.1≠b) :
 Inv X pins σ H' { s with heap:=h',gens:=g',drawn:=d',toks:=t' }:=by
 obtain⟨m,⟨o,es,ep,ho,r⟩,_⟩:=id I.loc
 obtain⟨sl,hL⟩:=u.any ho I.free fun z=>(hch _ z).2.1 rfl
 exact I.step (ch:=ch) hch (fun b o hL hb hc e n=>u.keep b o e n (fun z=>(List.mem_cons.mp (I.stkSub b z)).elim hL hb) hc) (fun b o _ _ hc e n=>u.any e n hc) (fun b o hc e n=>u.free b o e n hc) (fun b o hc e=>u.there b o e hc) u.tups u.frzs u.tbls (fun m' hm=>by
  obtain⟨o',es',ep',ho',r'⟩:=hm
  rw[ho] at ho';cases ho'
  exact⟨_,es',ep',hL,r'⟩) hok hg
theorem Inv.turned{t':Nat}{it:Addr}(I:Inv X pins σ H s)(k:∀b o,b≠it→s.heap.get? b=some o→h'.get? b=some o)(hn:H it=none)(hL:it≠X.env.locals)
 (h1:it∈X.ex∨X.s₀.heap.objs.size≤it) (h2:∀x c,X.env.cells.lookup x=some c→c≠it) (h3:∀p∈X.pn++pins,p.1≠it):Inv X pins σ H { s with heap:=h',toks:=t' }:=by
 have nit:∀b u,H b=some u→b≠it:=fun b u e z=>by rw[z,hn] at e;cases e
 refine I.step (g':=s.gens) (d':=s.drawn) (ch := [it]) (fun b hb=>?_) (fun b o _ _ hc e _=>k b o (fun z=>hc (by simp[z])) e) (fun b o _ _ hc e _=>⟨o.slots,k b o (fun z=>hc (by simp[z])) e⟩) (fun _ _ _ _ n=>n)
  (fun b o hc e=>⟨o,k b o (fun z=>hc (by simp[z])) e⟩) (fun _ _ e=>e) (fun _ _ _ e=>e) (fun b ps e=>⟨#[],by rw[e];simp⟩) (fun m hm=>?_) (fun b u e=>?_) I.bare
 ·have e:b=it:=by simpa using hb
  subst e
  exact⟨h1,hL,h2,h3⟩
 ·obtain⟨o,es,ep,ho,r⟩:=hm
  exact⟨o,es,ep,k _ o (Ne.symm hL) ho,r⟩
 ·refine(I.hok b u e).stay (fun c v hc q=>k c v ?_ q) (fun _ q=>q) fun _ _ q=>q
  rcases hc with z | z
  ·rw[z];exact nit b u e
  ·exact nit c _ z
theorem Inv.tok(I:Inv X pins σ H s)(t:Nat):Inv X pins σ H { s with toks:=t }:=I.un (h':=s.heap) (t':=t) Un.refl I.hok
theorem Inv.kept{t':Nat}(I:Inv X pins σ H s)(k:∀b u,s.heap.get? b=some u→h'.get? b=some u):Inv X pins σ H { s with heap:=h',toks:=t' }:=I.un (Un.kept k) (I.hok.kept k)
theorem Inv.laid{a:Addr}{o:HO}{t':Nat}(I:Inv X pins σ H s)(k:∀b u,s.heap.get? b=some u→h'.get? b=some u)(hp:s.heap.objs.size≤a)(new:y9 X.prog X.w (upd H a o) h' a o):
 Inv X pins σ (upd H a o) { s with heap:=h',toks:=t' }:=I.un (Un.laid k hp (I.hok.fresh hp)) (I.hok.laid k hp new)
theorem Inv.write{x e:Addr}{o:HO}{t':Nat}(I:Inv X pins σ H s)(mu:Mut (H x))(he:e=x∨H e=some (.own x))(k:∀b u,b≠e→s.heap.get? b=some u→h'.get? b=some u)(heo:∃u,h'.get? e=some u)
 (new:y9 X.prog X.w (upd H x o) h' x o):Inv X pins σ (upd H x o) { s with heap:=h',toks:=t' }:=I.un (Un.write mu he k heo) (I.hok.write mu he k heo new)
theorem Inv.pins_of{pins':List (Addr × Obj)}(I:Inv X pins σ H s)(h:∀p∈pins',s.heap.get? p.1=some p.2∧H p.1=none∧p.1≠X.env.locals∧p.1∉X.fs∧∀v,p.2.data ≠ .cell v):Inv X pins' σ H s :=
 ⟨I.ok,I.os,I.bare,I.base,I.loc,I.cell,I.free,I.freeC,fun p hp=>(List.mem_append.mp hp).elim (fun z=>I.pin p (List.mem_append_left _ z)) (h p),I.hok,I.len⟩
theorem zfi{N:List Str}(hN:N.Nodup){i j:Nat}{x:Str}(a:N[i]? = some x)(b:N[j]? = some x):i=j:=by
 obtain⟨h1,e1⟩:=List.getElem?_eq_some_iff.mp a
 obtain⟨h2,e2⟩:=List.getElem?_eq_some_iff.mp b
 exact(List.getElem_inj hN).mp (e1.trans e2.symm)
theorem zej{M:Model}{A:Around}{E:Value→Shared→Prop}{i:Nat}{x:Str}{v:V}{u:Value}{Q:Unit→Shared→Prop}(I:Inv X pins σ H s)(hN:X.N.Nodup)(hi:X.N[i]? = some x)(hx:Loc X.env.scope x)(r:zR v u)
 (h:∀s',Inv X pins (σ.set i (some v)) H s'→(∃a,Heap.SameBut a s.heap s'.heap∧(a=X.env.locals∨X.env.cells.lookup x=some a))→Q () s') (hf:X.fn x=true∨X.env.scope.names.lookup x=some .local:=by first | exact .inl rfl | exact .inr rfl | assumption):wpAny M A (storeName X.env x u) Q E s:=by
 obtain⟨m,hn,hl⟩:=id I.loc
 have hcls:(X.env.scope.kind == .class || (X.env.scope.kind == .module && X.env.locals != X.env.globals))=false:=by rw[I.ok.kind];rfl
 have hiσ:i<σ.length:=by rw[I.len];exact(List.getElem?_eq_some_iff.mp hi).1
 have cne:=I.cne
 have tracked:∀{a:Addr} {h':Heap},(∃o,s.heap.get? a=some o∧H a=none)→Heap.SameBut a s.heap h'→HOk X.prog X.w H h':=fun {a h'} ha hs b ob e=>by
  obtain⟨_,_,hfree⟩:=ha
  refine(I.hok b ob e).stay (fun c w' hc q=>(hs.2 c ?_).trans q) (fun _ q=>q) fun _ _ q=>q
  rintro rfl
  rcases hc with rfl | hc
  ·rw[hfree] at e;cases e
  ·rw[hfree] at hc;cases hc
 rcases hx with hk | hk
 ·refine wpAny_storeName_local hk hn (fun h' hn' hs=>?_) hcls
  obtain⟨oL,_,_,hoL,_⟩:=id hn
  refine h _ ⟨I.ok,I.os,I.bare,⟨fun b o e n hb hx=>?_,fun b o e n hb hx=>?_,I.base.free,fun b o e hx=>?_,I.base.tups,I.base.frzs,I.base.tbls⟩,⟨_,hn',fun j y v' e1 e2 e3=>?_⟩,fun y c e=>?_,I.free,I.freeC,fun p hp=>?_,tracked ⟨oL,hoL,I.free⟩ hs,by simpa using I.len⟩ ⟨_,hs,.inl rfl⟩
  ·exact(hs.2 b (Nat.ne_of_lt (Nat.lt_of_lt_of_le (Heap.lt_size e) I.ok.above))).trans (I.base.keep b o e n hb hx)
  ·obtain⟨sl,e1⟩:=I.base.slot b o e n hb hx
   exact⟨sl,(hs.2 b (Nat.ne_of_lt (Nat.lt_of_lt_of_le (Heap.lt_size e) I.ok.above))).trans e1⟩
  ·obtain⟨o',e1⟩:=I.base.there b o e hx
   exact⟨o',(hs.2 b (Nat.ne_of_lt (Nat.lt_of_lt_of_le (Heap.lt_size e) I.ok.above))).trans e1⟩
  ·by_cases hj:j=i
   ·subst hj
    rw[hi] at e1;cases e1
    rw[List.getElem?_set_self hiσ] at e2
    cases e2
    exact⟨u,r,.inl ⟨hk,by simp⟩⟩
   ·rw[List.getElem?_set_ne (Ne.symm hj)] at e2
    obtain⟨u',r',q⟩:=hl j y v' e1 e2 e3
    refine⟨u',r',?_⟩
    rcases q with⟨k,e⟩ | ⟨k,c,e,z⟩
    ·refine .inl ⟨k,?_⟩
     have:y≠x:=fun e=>hj (zfi hN e1 (e ▸ hi))
     simp[this,e]
    ·exact .inr ⟨k,c,e,z.sameBut hs (cne y c e)⟩
  ·obtain⟨w',z⟩:=I.cell y c e
   exact⟨w',z.sameBut hs (cne y c e)⟩
  ·obtain⟨e,n,ne,nf,d⟩:=I.pin p hp
   exact⟨(hs.2 p.1 ne).trans e,n,ne,nf,d⟩
 ·have hfn:X.fn x=true:=by
   rcases hf with z | z
   ·exact z
   ·rw[z] at hk;cases hk
  obtain⟨c,hc⟩:=I.ok.has x (.inl hk)
  obtain⟨w',z⟩:=I.cell x c hc
  refine wpAny_storeName_cell I.ok.kind hk hc z (fun h' hc' hs=>?_)
  obtain⟨oc,hoc,hocd⟩:=id z
  refine h { s with heap:=h' } ⟨I.ok,I.os,I.bare,⟨fun b o e n hb hx=>?_,fun b o e n hb hx=>?_,I.base.free,fun b o e hx=>?_,I.base.tups,I.base.frzs,I.base.tbls⟩,⟨m,hn.sameBut hs (Ne.symm (cne x c hc)),fun j y v' e1 e2 e3=>?_⟩,fun y c' e=>?_,I.free,I.freeC,fun p hp=>?_,tracked ⟨oc,hoc,I.freeC x c hc⟩ hs,by simpa using I.len⟩ ⟨c,hs,.inr hc⟩
  ·exact(hs.2 b (Nat.ne_of_lt (Nat.lt_of_lt_of_le (Heap.lt_size e) (I.ok.cab x c hfn hc)))).trans (I.base.keep b o e n hb hx)
  ·obtain⟨sl,e1⟩:=I.base.slot b o e n hb hx
   exact⟨sl,(hs.2 b (Nat.ne_of_lt (Nat.lt_of_lt_of_le (Heap.lt_size e) (I.ok.cab x c hfn hc)))).trans e1⟩
  ·obtain⟨o',e1⟩:=I.base.there b o e hx
   exact⟨o',(hs.2 b (Nat.ne_of_lt (Nat.lt_of_lt_of_le (Heap.lt_size e) (I.ok.cab x c hfn hc)))).trans e1⟩
  ·by_cases hj:j=i
   ·subst hj
    rw[hi] at e1;cases e1
    rw[List.getElem?_set_self hiσ] at e2
    cases e2
    exact⟨u,r,.inr ⟨.inl hk,c,hc,hc'⟩⟩
   ·rw[List.getElem?_set_ne (Ne.symm hj)] at e2
    obtain⟨u',r',q⟩:=hl j y v' e1 e2 e3
    refine⟨u',r',?_⟩
    rcases q with q | ⟨k,c',e,z'⟩
    ·exact .inl q
    ·refine .inr ⟨k,c',e,z'.sameBut hs ?_⟩
     rintro rfl
     exact hj (zfi hN e1 (I.ok.inj _ _ _ e hc ▸ hi))
  ·by_cases hcc:c'=c
   ·subst hcc;exact⟨_,hc'⟩
   ·obtain⟨w2,z2⟩:=I.cell y c' e
    exact⟨w2,z2.sameBut hs hcc⟩
  ·obtain⟨e,n,ne,nf,d⟩:=I.pin p hp
   refine⟨(hs.2 p.1 ?_).trans e,n,ne,nf,d⟩
   intro q
   rw[q,hoc] at e
   have q':oc=p.2:=Option.some.inj e
   exact d w' (by rw[← q'];exact hocd)
theorem zfC{M:Model}{A:Around}{E:Value→Shared→Prop}{i:Nat}{x:Str}{v:V}{u:Value}{Q:Unit→Shared→Prop}(I:Inv X pins σ H s)(hN:X.N.Nodup)(hi:X.N[i]? = some x)(hx:Loc X.env.scope x)(r:zR v u)
 (h:∀s',Inv X pins (σ.set i (some v)) H s'→Q () s') (hf:X.fn x=true∨X.env.scope.names.lookup x=some .local:=by first | exact .inl rfl | exact .inr rfl | assumption):wpAny M A (storeName X.env x u) Q E s :=
 zej I hN hi hx r (fun s' I' _=>h s' I') hf
theorem Inv.call'{s':Shared}{ch:List Addr}(I:Inv X pins σ H s)(ho:s'.os=s.os)(u:Un (frs X.stack) ch H H' s.heap s'.heap)(hok:HOk X.prog X.w H' s'.heap)(hg:AllBare s'.gens)
 (hch:∀b∈ch,(b∈X.ex∨X.s₀.heap.objs.size≤b)∧b≠X.env.locals∧(∀x c,X.env.cells.lookup x=some c→c≠b)∧∀p∈X.pn++pins,p.1≠b):Inv X pins σ H' s':=by
 obtain⟨h',g',d',t',o'⟩:=s'
 have e:o'=s.os:=ho
 subst e
 exact I.call (g':=g') (t':=t') (d':=d') u hok hg hch
end
abbrev XK:=Value→Option Addr→Hp→Prop
abbrev St:=List (Option V)
abbrev VK:=V→Hp→Prop
abbrev TE:=St→Hp→VK→Prop
abbrev TT:=St→Hp→(Bool→Hp→Prop)→Prop
abbrev TA:=St→Hp→(List V→Hp→Prop)→Prop
structure Ends where
 nx:St→Hp→Prop
 rt:VK
 bk:St→Hp→Prop:=fun _ _=>False
 ct:St→Hp→Prop:=fun _ _=>False
abbrev TS:=Ends→St→Hp→Prop
def EP(X:Cx)(pins:List (Addr × Obj))(σ:St)(Q:VK)(u:Value)(s':Shared):Prop:=∃v H',Inv X pins σ H' s'∧zR v u∧Q v H'
def TP(X:Cx)(pins:List (Addr × Obj))(σ:St)(Q:Bool→Hp→Prop)(b:Bool)(s':Shared):Prop:=∃H',Inv X pins σ H' s'∧Q b H'
def AP(X:Cx)(pins:List (Addr × Obj))(σ:St)(Q:List V→Hp→Prop)(us:List Value)(s':Shared):Prop:=∃vs H',Inv X pins σ H' s'∧zG vs us∧Q vs H'
def SP(X:Cx)(pins:List (Addr × Obj))(D:Ends)(f:Flow)(s':Shared):Prop :=
 match f with
 | .next=>∃σ' H',Inv X pins σ' H' s'∧D.nx σ' H'
 | .brk=>∃σ' H',Inv X pins σ' H' s'∧D.bk σ' H'
 | .cont=>∃σ' H',Inv X pins σ' H' s'∧D.ct σ' H'
 | .ret u=>∃v σ' H',Inv X pins σ' H' s'∧zR v u∧D.rt v H'
def PE(X:Cx)(e:Expr)(t:TE):Prop :=
 ∀(pins:List (Addr × Obj)) (s:Shared) (σ:St) (H:Hp) (Q:VK),Inv X pins σ H s→t σ H Q→wpAny (model X.prog X.w) X.A (eval e X.env) (EP X pins σ Q) X.xe s
def PT(X:Cx)(e:Expr)(t:TT):Prop :=
 ∀(pins:List (Addr × Obj)) (s:Shared) (σ:St) (H:Hp) (Q:Bool→Hp→Prop),Inv X pins σ H s→t σ H Q→wpAny (model X.prog X.w) X.A (isTrue e X.env (eval e X.env)) (TP X pins σ Q) X.xe s
def PW(X:Cx)(e:Expr)(t:TT):Prop :=
 ∀(whole:Sem Value) (pins:List (Addr × Obj)) (s:Shared) (σ:St) (H:Hp) (Q:Bool→Hp→Prop),Inv X pins σ H s→t σ H Q→wpAny (model X.prog X.w) X.A (isTrue e X.env whole) (TP X pins σ Q) X.xe s
theorem PW.pt{X:Cx}{e:Expr}{t:TT}(h:PW X e t):PT X e t:=h _
def PA(X:Cx)(es:List Expr)(t:TA):Prop :=
 ∀(pos:Pos) (pins:List (Addr × Obj)) (s:Shared) (σ:St) (H:Hp) (Q:List V→Hp→Prop),Inv X pins σ H s→t σ H Q→wpAny (model X.prog X.w) X.A (spliced (backTo pos (starEach es X.env))) (AP X pins σ Q) X.xe s
def PS(X:Cx)(st:Stmt)(t:TS):Prop :=
 ∀(pins:List (Addr × Obj)) (s:Shared) (σ:St) (H:Hp) (D:Ends),Inv X pins σ H s→t D σ H→wpAny (model X.prog X.w) X.A (exec st X.env) (SP X pins D) X.xe s
def PSs(X:Cx)(st:List Stmt)(t:TS):Prop :=
 ∀(pins:List (Addr × Obj)) (s:Shared) (σ:St) (H:Hp) (D:Ends),Inv X pins σ H s→t D σ H→wpAny (model X.prog X.w) X.A (execs st X.env) (SP X pins D) X.xe s
theorem thn{α:Type}{t:Sem α}{Q Q':α→Shared→Prop}{M:Model}{A:Around}{E:Value→Shared→Prop}{s:Shared}(h:wpAny M A t Q E s)(hQ:∀a s,Q a s→Q' a s):wpAny M A t Q' E s:=wpAny_mono h hQ fun _ _ x=>x
section
variable {X:Cx}
theorem bin{a b:Expr}{ta tb:TE}(ha:PE X a ta)(hb:PE X b tb){pins:List (Addr × Obj)}{s:Shared}{σ:St}{H:Hp}{R:V→V→Hp→Prop}(I:Inv X pins σ H s)(h:ta σ H fun x H1=>tb σ H1 fun y H2=>R x y H2)
 {α:Type} {Q:α→Shared→Prop} {f:Value→Value→Sem α}
 (hf:∀v u s2 x y H2,Inv X pins σ H2 s2→zR x v→zR y u→R x y H2→wpAny (model X.prog X.w) X.A (f v u) Q X.xe s2) :
 wpAny (model X.prog X.w) X.A (eval a X.env) (fun v s₁=>wpAny (model X.prog X.w) X.A (eval b X.env) (fun u s₂=>wpAny (model X.prog X.w) X.A (f v u) Q X.xe s₂) X.xe s₁) X.xe s:=by
 refine thn (ha pins s σ H _ I h) fun v s1 ⟨x,H1,I1,r1,q1⟩=>?_
 refine thn (hb pins s1 σ H1 _ I1 q1) fun u s2 ⟨y,H2,I2,r2,q2⟩=>?_
 exact hf v u s2 x y H2 I2 r1 r2 q2
def tVar(i:Nat):TE:=fun σ H Q=>∃v,σ[i]? = some (some v)∧Q v H
def tC(v:V):TE:=fun _ H Q=>Q v H
theorem pe_var{i:Nat}{x:Str}{pos:Pos}(hN:X.N[i]? = some x)(hv:Vis X.env.scope x)(hd:(x==("__debug__" : Str))=false:=by decide)(hcd:(x==("__classdict__" : Str))=false:=by decide):PE X (.Name x pos) (tVar i):=by
 intro pins s σ H Q I h
 obtain⟨v,e,h⟩:=h
 obtain⟨m,hn,hl⟩:=I.loc
 obtain⟨u,r,l⟩:=hl i x v hN e hv
 have fin:EP X pins σ Q u s:=⟨v,H,I,r,h⟩
 rcases l with⟨hk,hm⟩ | ⟨hk,c,hc,hcell⟩
 ·exact wpAny_Name (wpAny_loadName_local I.ok.kind hk hn hm fin) hd
 ·rcases hk with hk | hk
  ·exact wpAny_Name (wpAny_loadName_cell I.ok.kind hk hc hcell fin) hd
  ·exact wpAny_Name (wpAny_loadName_free I.ok.kind hk hc hcell fin hcd) hd
theorem zh{i j pos}:PE X (.Constant (.int i) j pos) (tC (.int i)):=fun _ _ _ H _ I h=>wpAny_Constant_int ⟨.int i,H,I.tok _,⟨_,rfl⟩,h⟩
theorem wZ{b j pos}:PE X (.Constant (.bool b) j pos) (tC (.bl b)):=fun _ _ _ H _ I h=>Constant_bool ⟨.bl b,H,I,rfl,h⟩
theorem zcA{j pos}:PE X (.Constant .none j pos) (tC .non):=fun _ _ _ H _ I h=>Constant_none ⟨.non,H,I,rfl,h⟩
theorem zF{x j pos}:PE X (.Constant (.str x) j pos) (tC (.str x)):=fun _ _ _ H _ I h=>Calls.Constant_str ⟨.str x,H,I.tok _,⟨_,rfl⟩,h⟩
def Gl(X:Cx)(x:Str):Prop:=X.env.kindOf x=some .globalImplicit
theorem zda{E:Value→Shared→Prop}{pins:List (Addr × Obj)}{s:Shared}{σ:St}{H:Hp}{x:Str}{u:Value}{pos:Pos}{Q:Value→Shared→Prop}(I:Inv X pins σ H s)(hg:Gl X x)(hm:X.mg x=some u)(h:Q u s)
 (hd:(x==("__debug__" : Str))=false:=by decide):wpAny (model X.prog X.w) X.A (eval (.Name x pos) X.env) Q E s :=
 Calls.Name_function_global I.ok.kind hg (Calls.loadGlobal_global (by rw[I.ok.glob];exact I.mod.glob.keeps I.bk) hm h) hd
theorem za9{E:Value→Shared→Prop}{pins:List (Addr × Obj)}{s:Shared}{σ:St}{H:Hp}{x:Str}{u:Value}{pos:Pos}{Q:Value→Shared→Prop}(I:Inv X pins σ H s)(hg:Gl X x)(hm:X.mg x=none)(hv:bootBuiltins x=some u)(h:Q u s)
 (hn:x ≠ "__name__" := by decide) (hd:(x==("__debug__" : Str))=false:=by decide):wpAny (model X.prog X.w) X.A (eval (.Name x pos) X.env) Q E s:=by
 obtain⟨mb,h1,h2⟩:=I.mod.blt
 exact Calls.Name_function_global I.ok.kind hg (Calls.loadGlobal_builtin (by rw[I.ok.glob];exact I.mod.glob.keeps I.bk) hm (by rw[I.ok.blt];exact h1.keeps I.bk) ((h2 x hn).trans hv) h) hd
theorem zja{x:Str}{v:V}{u:Value}{pos:Pos}(hg:Gl X x)(hm:X.mg x=some u)(r:zR v u)(hd:(x==("__debug__" : Str))=false:=by decide):PE X (.Name x pos) (tC v) :=
 fun _ _ _ H _ I h=>zda I hg hm ⟨v,H,I,r,h⟩ hd
theorem zcw{x:Str}{v:V}{u:Value}{pos:Pos}(hg:Gl X x)(hm:X.mg x=none)(hv:bootBuiltins x=some u)(r:zR v u)(hn:x ≠ "__name__" := by decide)(hd:(x==("__debug__" : Str))=false:=by decide):PE X (.Name x pos) (tC v) :=
 fun _ _ _ H _ I h=>za9 I hg hm hv ⟨v,H,I,r,h⟩ hn hd
variable {a b:Expr} {ta tb:TE} {pos:Pos}
def PC(X:Cx)(op:CmpOp)(a b:Expr)(t:TE):Prop :=
 ∀(pins:List (Addr × Obj)) (s:Shared) (σ:St) (H:Hp) (Q:VK),Inv X pins σ H s→t σ H Q →
  wpAny (model X.prog X.w) X.A (eval a X.env) (fun v s₁=>wpAny (model X.prog X.w) X.A (eval b X.env) (fun u s₂=>wpAny (model X.prog X.w) X.A (compareOp op v u) (EP X pins σ Q) X.xe s₂) X.xe s₁) X.xe s
def tB(t:TE):TT:=fun σ H Q=>t σ H fun x H1=>∃c,x=.bl c∧Q c H1
theorem pt_cmp{op:CmpOp}{t:TE}(h:PC X op a b t)(h1:behindInMarks op b=false:=by first | exact nobehind _ (by decide) (by decide) | rfl):PT X (.Compare a [op] [b] pos) (tB t):=by
 intro pins s σ H Q I hw
 refine wpAny_isTrue_Compare1 (thn (h pins s σ H _ I hw) fun v s1 h1=>thn h1 fun u s2 h2=>thn h2 fun c s3 ⟨x,H1,I1,r1,q1⟩=>?_) h1
 obtain⟨d,rfl,q⟩:=q1
 cases r1
 exact wpAny_truthy_bool ⟨H1,I1,q⟩
theorem wf{e:Expr}{t:TE}(h:PE X e t)(he:∀whole,isTrue e X.env whole=(do let v ← whole;standAt e.pos;holding [v] (truthy v)):=by intro _;rfl):PT X e (tB t):=by
 intro pins s σ H Q I hw
 refine isTrue_plain (thn (h pins s σ H _ I hw) fun v s1 ⟨x,H1,I1,r1,q1⟩=>?_) (he _)
 obtain⟨d,rfl,q⟩:=q1
 cases r1
 exact wpAny_truthy_bool ⟨H1,I1,q⟩
variable {tA tB':TT} {zcO:List Expr}
def tAnd(t u:TT):TT:=fun σ H Q=>t σ H fun c H1=>if c=true then u σ H1 Q else Q false H1
def tOr(t u:TT):TT:=fun σ H Q=>t σ H fun c H1=>if c=true then Q true H1 else u σ H1 Q
def tNot(t:TT):TT:=fun σ H Q=>t σ H fun c H1=>Q (!c) H1
theorem zaA(ha:PT X a tA):PW X (.BoolOp .And [a] pos) tA:=by
 intro wh pins s σ H Q I h
 refine isTrue_and (thn (ha pins s σ H Q I h) fun c s1 e=>?_)
 cases c with
 | true=>exact isTrue_and_nil e
 | false=>exact e
theorem zc0(ha:PT X a tA):PW X (.BoolOp .Or [a] pos) tA:=by
 intro wh pins s σ H Q I h
 refine isTrue_or (thn (ha pins s σ H Q I h) fun c s1 e=>?_)
 cases c with
 | false=>exact isTrue_or_nil e
 | true=>exact e
theorem zbF(ha:PT X a tA)(hb:PW X (.BoolOp .And (b::zcO) pos) tB'):PW X (.BoolOp .And (a::b::zcO) pos) (tAnd tA tB'):=by
 intro wh pins s σ H Q I h
 refine isTrue_and (thn (ha pins s σ H _ I h) fun c s1 ⟨H1,I1,q1⟩=>?_)
 cases c with
 | true=>exact hb wh pins s1 σ H1 Q I1 q1
 | false=>exact⟨H1,I1,q1⟩
theorem zdP(ha:PT X a tA)(hb:PW X (.BoolOp .Or (b::zcO) pos) tB'):PW X (.BoolOp .Or (a::b::zcO) pos) (tOr tA tB'):=by
 intro wh pins s σ H Q I h
 refine isTrue_or (thn (ha pins s σ H _ I h) fun c s1 ⟨H1,I1,q1⟩=>?_)
 cases c with
 | true=>exact⟨H1,I1,q1⟩
 | false=>exact hb wh pins s1 σ H1 Q I1 q1
theorem zaa(ha:PT X a tA):PT X (.UnaryOp .Not a pos) (tNot tA):=by
 intro pins s σ H Q I h
 exact isTrue_not (ha pins s σ H (fun c H1=>Q (!c) H1) I h)
def tAndV(ta tb:TE):TE:=fun σ H Q=>ta σ H fun x H1=>∃c,x=.bl c∧if c=true then tb σ H1 Q else Q (.bl false) H1
def tNotV(ta:TE):TE:=fun σ H Q=>ta σ H fun x H1=>∃c,x=.bl c∧Q (.bl (!c)) H1
theorem zfB{op}{t:TE}(h:PE X a t):PE X (.BoolOp op [a] pos) t:=fun pins s σ H Q I hw=>BoolOp_one (h pins s σ H Q I hw)
theorem zcy(ha:PE X a ta)(hb:PE X (.BoolOp .And (b::zcO) pos) tb):PE X (.BoolOp .And (a::b::zcO) pos) (tAndV ta tb):=by
 intro pins s σ H Q I h
 refine BoolOp_and (thn (ha pins s σ H _ I h) fun v s1 ⟨x,H1,I1,r1,q1⟩=>?_)
 obtain⟨c,rfl,q1⟩:=q1
 cases r1
 refine wpAny_truthy_bool ?_
 cases c with
 | true=>exact hb pins s1 σ H1 Q I1 q1
 | false=>exact⟨.bl false,H1,I1,rfl,q1⟩
theorem pe_not(ha:PE X a ta):PE X (.UnaryOp .Not a pos) (tNotV ta):=by
 intro pins s σ H Q I h
 refine UnaryOp_ (thn (ha pins s σ H _ I h) fun v s1 ⟨x,H1,I1,r1,q1⟩=>?_)
 obtain⟨c,rfl,q1⟩:=q1
 cases r1
 exact not_of (wpAny_truthy_bool ⟨.bl (!c),H1,I1,rfl,q1⟩)
def tIf(t:TT)(ta tb:TE):TE:=fun σ H Q=>t σ H fun c H1=>if c=true then ta σ H1 Q else tb σ H1 Q
theorem pe_ifExp{c:Expr}(hc:PT X c tA)(ha:PE X a ta)(hb:PE X b tb):PE X (.IfExp c a b pos) (tIf tA ta tb):=by
 intro pins s σ H Q I h
 refine wpAny_IfExp (thn (hc pins s σ H _ I h) fun d s1 ⟨H1,I1,q1⟩=>?_)
 cases d with
 | true=>exact ha pins s1 σ H1 Q I1 q1
 | false=>exact hb pins s1 σ H1 Q I1 q1
end
def SqL(K:PySem.W.Frag)(H:Hp)(a:Addr)(xs:List V):Prop :=
 Rd H a (.lst xs) ∨
  ∃(o:Obj) (its:Array Value) (n:Nat),K.lookup a=some o∧o.cls=.type "list" ∧ o.dict=none∧o.data=.seq its n∧its.size≤sizeLine∧zG xs its.toList
def SqT(K:PySem.W.Frag)(H:Hp)(a:Addr)(xs:List V):Prop :=
 Rd H a (.tup xs) ∨
  ∃(o:Obj) (its:Array Value) (n:Nat),K.lookup a=some o∧o.cls=.type "tuple" ∧ o.data=.seq its n∧its.size≤sizeLine∧zG xs its.toList
def absV:Value→Option V
 | .none=>some .non
 | .bool b=>some (.bl b)
 | .int i _=>some (.int i)
 | .str x _=>some (.str x)
 | .bytes b _=>some (.byt b)
 | .float b _=>some (.flt b)
 | .ref a=>some (.ref a)
 | .type n=>some (.ty n)
 | _=>none
theorem zR.abs{x:V}{u:Value}(r:zR x u):absV u=some x:=by
 cases x with
 | non=>cases r;rfl
 | bl _=>cases r;rfl
 | int _=>obtain⟨t,rfl⟩:=r;rfl
 | str _=>obtain⟨t,rfl⟩:=r;rfl
 | byt _=>obtain⟨t,rfl⟩:=r;rfl
 | flt _=>obtain⟨t,rfl⟩:=r;rfl
 | ref _=>cases r;rfl
 | ty _=>cases r;rfl
theorem zR.inj{x y:V}{u:Value}(r:zR x u)(q:zR y u):x=y:=Option.some.inj (r.abs.symm.trans q.abs)
theorem zG.inj:∀{xs ys:List V} {us:List Value},zG xs us→zG ys us→xs=ys
 | _,_,_,.nil,.nil=>rfl
 | _,_,_,.cons r t,.cons r' t'=>by rw[r.inj r',zG.inj t t']
section
variable {X:Cx} {pins:List (Addr × Obj)} {σ:St} {H:Hp} {s:Shared} {a:Addr} {xs ys:List V}
theorem SqL.of{K:PySem.W.Frag}(h:H a=some (.lst xs)):SqL K H a xs:=.inl (.inl h)
theorem SqT.of{K:PySem.W.Frag}(h:H a=some (.tup xs)):SqT K H a xs:=.inl (.inl h)
theorem Inv.list(I:Inv X pins σ H s)(h:SqL X.K H a xs):∃its:List Value,zG xs its∧PlainL s.heap a its.toArray∧xs.length≤sizeLine:=by
 rcases h with h | ⟨o,its,n,hk,hc,hd,hs,hz,r⟩
 ·obtain⟨z,its,n,r,e⟩:=h.ok I.hok
  exact⟨its,r,⟨_,n,e,rfl,rfl,rfl⟩,z⟩
 ·refine⟨its.toList,r,⟨o,n,I.kIn a o hk,hc,hd,by simpa using hs⟩,?_⟩
  have e:=r.length
  simp only[Array.length_toList] at e
  omega
theorem Inv.tuple(I:Inv X pins σ H s)(h:SqT X.K H a xs):∃its:List Value,zG xs its∧IsTup s.heap a its.toArray∧xs.length≤sizeLine:=by
 rcases h with h | ⟨o,its,n,hk,hc,hs,hz,r⟩
 ·obtain⟨z,its,r,p⟩:=h.ok I.hok
  exact⟨its,r,p,z⟩
 ·refine⟨its.toList,r,⟨o,I.kIn a o hk,hc,n,by simpa using hs⟩,?_⟩
  have e:=r.length
  simp only[Array.length_toList] at e
  omega
theorem Inv.list_inj(I:Inv X pins σ H s)(h:SqL X.K H a xs)(h':SqL X.K H a ys):xs=ys:=by
 obtain⟨its,r,⟨o,n,e,_,_,d⟩,_⟩:=I.list h
 obtain⟨its',r',⟨o',n',e',_,_,d'⟩,_⟩:=I.list h'
 rw[e] at e';cases e'
 rw[d] at d'
 injection d' with d1 _
 have:its=its':=by simpa using congrArg Array.toList d1
 subst this
 exact r.inj r'
end
abbrev Cx.wish(X:Cx)(E:Value→Shared→Prop):Cx:={ X with xe:=E }
abbrev Cx.nox(X:Cx):Cx:=X.wish fun _ _=>False
theorem Cx.Ok.wish{X:Cx}(ok:X.Ok)(E:Value→Shared→Prop):(X.wish E).Ok :=
 ⟨ok.mod,ok.kind,ok.glob,ok.blt,ok.above,ok.inj,ok.has,ok.cab,ok.hd,ok.frames,ok.stk,ok.exf,ok.bs,ok.bsz,ok.noex,ok.exfs,ok.funs,ok.frf⟩
theorem Cx.Ok.unwish{X:Cx}{E:Value→Shared→Prop}(ok:(X.wish E).Ok):X.Ok :=
 ⟨ok.mod,ok.kind,ok.glob,ok.blt,ok.above,ok.inj,ok.has,ok.cab,ok.hd,ok.frames,ok.stk,ok.exf,ok.bs,ok.bsz,ok.noex,ok.exfs,ok.funs,ok.frf⟩
section
variable {X:Cx} {pins:List (Addr × Obj)} {σ:St} {H:Hp} {s:Shared} {E:Value→Shared→Prop}
theorem Inv.wish(I:Inv X pins σ H s)(E:Value→Shared→Prop):Inv (X.wish E) pins σ H s:=⟨I.ok.wish E,I.os,I.bare,I.base,I.loc,I.cell,I.free,I.freeC,I.pin,I.hok,I.len⟩
theorem Inv.unwish(I:Inv (X.wish E) pins σ H s):Inv X pins σ H s:=⟨I.ok.unwish,I.os,I.bare,I.base,I.loc,I.cell,I.free,I.freeC,I.pin,I.hok,I.len⟩
theorem SP.unwish{D:Ends}{f:Flow}{s':Shared}(h:SP (X.wish E) pins D f s'):SP X pins D f s':=by
 cases f with
 | next=>obtain⟨σ',H',I,q⟩:=h;exact⟨σ',H',I.unwish,q⟩
 | brk=>obtain⟨σ',H',I,q⟩:=h;exact⟨σ',H',I.unwish,q⟩
 | cont=>obtain⟨σ',H',I,q⟩:=h;exact⟨σ',H',I.unwish,q⟩
 | ret u=>obtain⟨v,σ',H',I,r,q⟩:=h;exact⟨v,σ',H',I.unwish,r,q⟩
theorem PSs.nox{st:List Stmt}{t:TS}(h:PSs X.nox st t):PSs X st t:=fun pins s σ H D I hw =>
 wpAny_mono (h pins s σ H D (I.wish _) hw) (fun _ _ q=>q.unwish) fun _ _ z=>False.elim z
end
section
variable {X:Cx} {st:Stmt} {zcO:List Stmt} {t u:TS} {e:Expr} {te:TE} {pos:Pos}
def tNext:TS:=fun D σ H=>D.nx σ H
def tSeq(t u:TS):TS:=fun D σ H=>t { D with nx:=u D } σ H
theorem zy:PSs X [] tNext:=fun _ _ σ H _ I h=>wpAny_execs_nil ⟨σ,H,I,h⟩
theorem zf(h1:PS X st t)(h2:PSs X zcO u):PSs X (st::zcO) (tSeq t u):=by
 intro pins s σ H D I h
 refine wpAny_execs_cons (thn (h1 pins s σ H { D with nx:=u D } I h) fun f s1 q=>?_)
 cases f with
 | next =>
   obtain⟨σ',H',I',q⟩:=q
   exact h2 pins s1 σ' H' D I' q
 | ret v=>exact q
 | brk=>exact q
 | cont=>exact q
theorem ze(h1:PS X st t):PSs X [st] t:=by
 intro pins s σ H D I h
 refine wpAny_execs_cons (thn (h1 pins s σ H D I h) fun f s1 q=>?_)
 cases f with
 | next=>exact wpAny_execs_nil q
 | ret v=>exact q
 | brk=>exact q
 | cont=>exact q
theorem Inv.quiet{pins:List (Addr × Obj)}{σ:St}{H:Hp}{s:Shared}(I:Inv X pins σ H s):interactive X.env=false:=by simp[interactive,I.ok.kind]
def tDrop(te:TE):TS:=fun D σ H=>te σ H fun _ H1=>D.nx σ H1
theorem zM(he:PE X e te)(hs:swapsWith e none pos.line X.env=pure false:=by rfl):PS X (.Expr e pos) (tDrop te):=by
 intro pins s σ H D I h
 exact wpAny_Expr_any (thn (he pins s σ H _ I h) fun v s1 ⟨x,H1,I1,r1,q1⟩=>⟨σ,H1,I1,q1⟩) I.quiet hs
def tRet(te:TE):TS:=fun D σ H=>te σ H D.rt
theorem zm(he:PE X e te):PS X (.Return (some e) pos) (tRet te):=by
 intro pins s σ H D I h
 exact wpAny_Return_some (thn (he pins s σ H _ I h) fun v s1 ⟨x,H1,I1,r1,q1⟩=>⟨x,σ,H1,I1,r1,q1⟩)
def tIfS(c:TT)(t u:TS):TS:=fun D σ H=>c σ H fun b H1=>if b=true then t D σ H1 else u D σ H1
theorem zE{c:Expr}{a b:List Stmt}{tc:TT}(hc:PT X c tc)(ha:PSs X a t)(hb:PSs X b u):PS X (.If c a b pos) (tIfS tc t u):=by
 intro pins s σ H D I h
 refine wpAny_If (thn (hc pins s σ H _ I h) fun d s1 ⟨H1,I1,q1⟩=>?_)
 cases d with
 | true=>exact ha pins s1 σ H1 D I1 q1
 | false=>exact hb pins s1 σ H1 D I1 q1
end
abbrev TG:=V→St→Hp→(St→Hp→Prop)→Prop
abbrev TGs:=List V→St→Hp→(St→Hp→Prop)→Prop
def PG(X:Cx)(target:Expr)(t:TG):Prop :=
 ∀(pins:List (Addr × Obj)) (s:Shared) (σ:St) (H:Hp) (v:V) (u:Value) (Q:St→Hp→Prop),Inv X pins σ H s→zR v u→t v σ H Q →
  wpAny (model X.prog X.w) X.A (assign target X.env u) (fun _ s'=>∃σ' H',Inv X pins σ' H' s'∧Q σ' H') X.xe s
def PGs(X:Cx)(ts:List Expr)(t:TGs):Prop :=
 ∀(pins:List (Addr × Obj)) (s:Shared) (σ:St) (H:Hp) (vs:List V) (us:List Value) (Q:St→Hp→Prop),Inv X pins σ H s→zG vs us→t vs σ H Q →
  wpAny (model X.prog X.w) X.A (assignInOrder ((assignEach ts X.env).map (·.2)) us) (fun _ s'=>∃σ' H',Inv X pins σ' H' s'∧Q σ' H') X.xe s
section
variable {X:Cx} {pos:Pos}
def zfQ(i:Nat):TG:=fun v σ H Q=>Q (σ.set i (some v)) H
theorem yu{i:Nat}{x:Str}(hN:X.N.Nodup)(hi:X.N[i]? = some x)(hx:Loc X.env.scope x)(hf:X.fn x=true∨X.env.scope.names.lookup x=some .local:=by first | exact .inl rfl | exact .inr rfl | assumption):PG X (.Name x pos) (zfQ i):=by
 intro pins s σ H v u Q I r h
 exact wpAny_assign_Name (zfC I hN hi hx r (fun s' I'=>⟨_,H,I',h⟩) hf)
def gNil:TGs:=fun vs σ H Q=>vs = []∧Q σ H
def gCons(t:TG)(u:TGs):TGs:=fun vs σ H Q=>∃v r,vs=v::r∧t v σ H fun σ' H'=>u r σ' H' Q
theorem zjq:PGs X [] gNil:=by
 intro pins s σ H vs us Q I r h
 obtain⟨e,h⟩:=h
 subst e
 cases r
 exact assignInOrder_nil ⟨σ,H,I,h⟩
theorem zdX{e:Expr}{es:List Expr}{t:TG}{u:TGs}(h1:PG X e t)(h2:PGs X es u)
 (hs:(assignEach (e::es) X.env).map (·.2)=assign e X.env::(assignEach es X.env).map (·.2):=by rfl):PGs X (e::es) (gCons t u):=by
 intro pins s σ H vs us Q I r h
 obtain⟨v,vr,e1,h⟩:=h
 subst e1
 cases r with
 | cons r rr =>
   rw[hs]
   refine assignInOrder_cons (thn (h1 pins s σ H _ _ _ I r h) fun _ s1 ⟨σ1,H1,I1,q1⟩=>?_)
   exact h2 pins s1 σ1 H1 _ _ Q I1 rr q1
def gTup(K:PySem.W.Frag)(n:Nat)(t:TGs):TG:=fun v σ H Q=>∃a xs,v=.ref a∧SqT K H a xs∧xs.length=n∧t xs σ H Q
theorem pg_tup{es:List Expr}{k:Nat}{t:TGs}{n:Nat}(hc:X.calm=true)(h:PGs X es t)
 (hn:(assignEach es X.env).length=n:=by rfl) (hst:(assignEach es X.env).findIdx? (·.1)=none:=by rfl):PG X (.Tuple es k pos) (gTup X.K n t):=by
 intro pins s σ H v u Q I r hw
 obtain⟨a,xs,e1,hq,hl,hw⟩:=hw
 subst e1
 cases r
 obtain⟨its,rv,ht,hz⟩:=I.tuple hq
 refine assign_Tuple_tuple (I.ok.hd hc) ht (by simp[hn,← hl,rv.length]) hst fun h' hx=>?_
 have I1:Inv X pins σ H { s with heap:=h' }:=I.kept (t':=s.toks) fun b o e=>hx b o (Nat.ne_of_lt (Heap.lt_size e)) e
 exact h pins _ σ H xs _ Q I1 (by simpa using rv) hw
def tAsg(te:TE)(g:TG):TS:=fun D σ H=>te σ H fun x H1=>g x σ H1 D.nx
theorem zD{i:Nat}{x:Str}{e:Expr}{te:TE}{pos':Pos}(hN:X.N.Nodup)(hi:X.N[i]? = some x)(hx:Loc X.env.scope x)(he:PE X e te)(hs:swapsWith e (some (.Name x pos')) pos.line X.env=pure false:=by rfl)(hf:X.fn x=true∨X.env.scope.names.lookup x=some .local:=by first | exact .inl rfl | exact .inr rfl | assumption):
 PS X (.Assign [.Name x pos'] e pos) (tAsg te (zfQ i)):=by
 intro pins s σ H D I h
 refine wpAny_Assign_Name (thn (he pins s σ H _ I h) fun v s1 ⟨y,H1,I1,r1,q1⟩=>?_) hs
 exact zfC I1 hN hi hx r1 (fun s2 I2=>⟨_,H1,I2,q1⟩) hf
end
section
variable {X:Cx} {pos:Pos}
end
structure It where
 go:Nat→Hp→Prop
 yld:Nat→Hp→V→Hp→Prop
 stop:Nat→Hp→Prop
def zaX(X:Cx)(pins:List (Addr × Obj))(H:Hp)(b:Addr):Prop :=
 H b=none∧b≠X.env.locals∧b∉X.fs∧(b∈X.ex∨X.s₀.heap.objs.size≤b)∧(∀x c,X.env.cells.lookup x=some c→c≠b)∧∀p∈X.pn++pins,p.1≠b
theorem Inv.fpOk{X:Cx}{pins:List (Addr × Obj)}{σ:St}{H H':Hp}{s:Shared}{b:Addr}(I:Inv X pins σ H s)(hb:s.heap.objs.size≤b)(hn:H' b=none):zaX X pins H' b:=by
 refine⟨hn,Nat.ne_of_gt (Nat.lt_of_lt_of_le I.lt hb),I.nofs hb,.inr (Nat.le_trans I.sz hb),fun x c e z=>?_,fun p hp z=>?_⟩
 ·obtain⟨v,q⟩:=I.cell x c e
  exact absurd (Nat.lt_of_lt_of_le q.lt (by rw[z];exact hb)) (Nat.lt_irrefl _)
 ·exact absurd (Nat.lt_of_lt_of_le (Heap.lt_size (I.pin p hp).1) (by rw[z];exact hb)) (Nat.lt_irrefl _)
structure Turn (P:Program) (w:World) (K:PySem.W.Frag) (tg:Expr) (J:It) (fp:List Addr) (it:Addr) (tn:Nat→Heap→Prop):Prop where
 mem:it∈fp
 obj:∀i h,tn i h→∀b∈fp,∃o,h.get? b=some o∧∀v,o.data ≠ .cell v
 keep:∀i h h',tn i h→(∀b∈fp,∀o,h.get? b=some o→h'.get? b=some o)→tn i h'
 item:∀(X:Cx),X.prog=P→X.w=w→X.K=K→X.calm=true→∀(i:Nat) (pins:List (Addr × Obj)) (s:Shared) (σ:St) (H:Hp) (E:Value→Shared→Prop),Inv X pins σ H s→(∀b∈fp,zaX X pins H b)→tn i s.heap→J.go i H →
  wpAny (model P w) X.A (pyNext (.ref it)) (fun r s1=>∃u,r=some u ∧
   wpAny (model P w) X.A (letOwnedTupleGo tg (.ref it) u) (fun _ s2=>∃x H',Inv X pins σ H' s2∧zR x u∧J.yld i H x H'∧tn (i+1) s2.heap∧∀b∈fp,H' b=none) E s1) E s
 done:∀(X:Cx),X.prog=P→X.w=w→X.K=K→X.calm=true→∀(i:Nat) (pins:List (Addr × Obj)) (s:Shared) (σ:St) (H:Hp) (E:Value→Shared→Prop),Inv X pins σ H s→(∀b∈fp,zaX X pins H b)→tn i s.heap→J.stop i H →
  wpAny (model P w) X.A (pyNext (.ref it)) (fun r s1=>r=none∧Inv X pins σ H s1) E s
 self:∀(A:Around) (i:Nat) (s:Shared) (Q:Value→Shared→Prop) (E:Value→Shared→Prop),tn i s.heap→Q (.ref it) s→wpAny (model P w) A (pyIter (.ref it)) Q E s
abbrev TI:=St→Hp→(It→Hp→Prop)→Prop
def PIE(X:Cx)(pins:List (Addr × Obj))(σ:St)(tg:Expr)(R:It→Hp→Prop)(itv:Value)(s2:Shared):Prop :=
 ∃(it:Addr) (fp:List Addr) (tn:Nat→Heap→Prop) (J:It) (H':Hp),itv=.ref it∧Inv X pins σ H' s2∧Turn X.prog X.w X.K tg J fp it tn∧tn 0 s2.heap∧(∀b∈fp,zaX X pins H' b)∧R J H'
def PI(X:Cx)(tg iter:Expr)(wi:TI):Prop :=
 ∀(pins:List (Addr × Obj)) (s:Shared) (σ:St) (H:Hp) (R:It→Hp→Prop),Inv X pins σ H s→wi σ H R →
  wpAny (model X.prog X.w) X.A (eval iter X.env) (fun v s1=>wpAny (model X.prog X.w) X.A (pyIter v) (PIE X pins σ tg R) X.xe s1) X.xe s
theorem go_of{M:Model}{A:Around}{E:Value→Shared→Prop}{s:Shared}{tg:Expr}{it:Addr}{u:Value}{o:Obj}{n:String}{vs:Array Value}{Q:Unit→Shared→Prop}(ho:s.heap.get? it=some o)(hc:o.cls=.type n)(hd:o.data=.fields vs)
 (hn : ["enumerate","zip","dict_itemiterator","dict_reverseitemiterator","odict_iterator","itertools.zip_longest","itertools.pairwise"].contains n=false) (hQ:Q () s):wpAny M A (letOwnedTupleGo tg (.ref it) u) Q E s:=by
 unfold letOwnedTupleGo
 cases tg <;> first
  | exact wpAny_pure hQ
  | (cases u <;> first
      | exact wpAny_pure hQ
      | (refine wpAny_bind (wpAny_load ho ?_)
         rw[hc,hd]
         show wpAny M A (if(["enumerate","zip","dict_itemiterator","dict_reverseitemiterator","odict_iterator","itertools.zip_longest","itertools.pairwise"].contains n && vs[0]? == some (rawInt _))=true then _ else _) Q E s
         rw[if_neg (by intro h;rw[hn,Bool.false_and] at h;cases h)]
         exact wpAny_pure hQ))
def Itl(K:PySem.W.Frag)(a:Addr):It :=
 ⟨fun i H=>∃xs x,SqL K H a xs∧xs[i]? = some x,fun i H x H'=>H'=H∧∀xs,SqL K H a xs→xs[i]? = some x,fun i H=>∃xs,SqL K H a xs∧xs.length≤i⟩
def Itr(lo:Int)(n:Nat):It:=⟨fun i _=>i<n,fun i H x H'=>H'=H∧x=.int (lo+i),fun i _=>n≤i⟩
theorem zjH{P:Program}{w:World}{K:PySem.W.Frag}{tg:Expr}(a it:Addr):Turn P w K tg (Itl K a) [it] it (fun i h=>h.IsListIter it a i) where
 mem:=by simp
 obj:=fun i h st b hb=>by
  have e:b=it:=by simpa using hb
  subst e
  obtain⟨o,e,c,d⟩:=st
  exact⟨o,e,fun v z=>by rw[d] at z;cases z⟩
 keep:=fun i h h' st k=>st.at fun o e=>k it (by simp) o e
 item:=by
  intro X hP hw hK hc i pins s σ H E I hf st hg
  subst hP hw hK
  obtain⟨xs,x,hq,hx⟩:=hg
  obtain⟨its,rv,p,hz⟩:=I.list hq
  obtain⟨u,hu,ru⟩:=rv.get hx
  obtain⟨f0,f1,f2,f3,f4,f5⟩:=hf it (by simp)
  refine wpAny_pyNext_list_item st p.isList (x:=u) (by simpa using hu) fun h' st' sb=>?_
  have I1:Inv X pins σ H { s with heap:=h' }:=I.turned (t':=s.toks) (fun b o hb e=>(sb.2 b hb).trans e) f0 f1 f3 f4 f5
  obtain⟨o,e,c,d⟩:=id st'
  exact⟨u,rfl,go_of (s:={ s with heap:=h' }) e c d (by decide) ⟨x,H,I1,ru,⟨rfl,fun ys hy=>by rw[I.list_inj hy hq];exact hx⟩,st',fun b hb=>(hf b hb).1⟩⟩
 done:=by
  intro X hP hw hK hc i pins s σ H E I hf st hg
  subst hP hw hK
  obtain⟨xs,hq,hx⟩:=hg
  obtain⟨its,rv,p,hz⟩:=I.list hq
  obtain⟨f0,f1,f2,f3,f4,f5⟩:=hf it (by simp)
  have hl:=rv.length
  exact wpAny_pyNext_list_end (I.ok.hd hc) st p.isList (by simp;omega) fun h' eb=>⟨rfl,I.turned (t':=s.toks) (fun b o hb e=>eb b o hb e) f0 f1 f3 f4 f5⟩
 self:=fun _ _ _ _ _ st h=>wpAny_pyIter_listiter st h
theorem ziN{P:Program}{w:World}{K:PySem.W.Frag}{tg:Expr}(it:Addr)(lo:Int)(n:Nat):Turn P w K tg (Itr lo n) [it] it (fun i h=>IsRangeIter h it (lo+(i:Nat)*1) ((n:Int) - (i:Nat)) 1) where
 mem:=by simp
 obj:=fun i h st b hb=>by
  have e:b=it:=by simpa using hb
  subst e
  exact⟨_,st,fun v z=>by
   have z':Data.fields _=Data.cell v:=z
   cases z'⟩
 keep:=fun i h h' st k=>k it (by simp) _ st
 item:=by
  intro X hP hw hK hc i pins s σ H E I hf st hg
  subst hP hw hK
  obtain⟨f0,f1,f2,f3,f4,f5⟩:=hf it (by simp)
  have W:=Walks.range (prog:=X.prog) (w:=X.w) (I.ok.hd hc) it lo 1 n
  refine W.item i s _ _ hg st fun v h' tk hv st' kk=>?_
  obtain⟨t,rfl⟩:=hv
  have I1:Inv X pins σ H { s with heap:=h',toks:=tk }:=I.turned (fun b o hb e=>kk b o (by simpa using hb) e) f0 f1 f3 f4 f5
  refine⟨_,rfl,go_of (s:={ s with heap:=h',toks:=tk }) (n:= "range_iterator") st' rfl rfl (by decide) ⟨.int (lo+i),H,I1,⟨t,?_⟩,⟨rfl,rfl⟩,st',fun b hb=>(hf b hb).1⟩⟩
  rw[Int.mul_one]
 done:=by
  intro X hP hw hK hc i pins s σ H E I hf st hg
  subst hP hw hK
  obtain⟨f0,f1,f2,f3,f4,f5⟩:=hf it (by simp)
  exact wpAny_pyNext_range_end (I.ok.hd hc) st (by have:n≤i:=hg;omega) fun h' eb=>⟨rfl,I.turned (t':=s.toks) (fun b o hb e=>eb b o hb e) f0 f1 f3 f4 f5⟩
 self:=fun _ _ _ _ _ st h=>wpAny_pyIter_rangeiter st h
section
variable {X:Cx} {tg:Expr}
def iList(K:PySem.W.Frag)(tl:TE):TI:=fun σ H R=>tl σ H fun x H1=>∃a,x=.ref a∧(∃xs,SqL K H1 a xs)∧R (Itl K a) H1
theorem zO{l:Expr}{tl:TE}(hl:PE X l tl):PI X tg l (iList X.K tl):=by
 intro pins s σ H R I h
 refine thn (hl pins s σ H _ I h) fun v s1 ⟨x,H1,I1,r1,q1⟩=>?_
 obtain⟨a,e,⟨xs,hq⟩,q⟩:=q1
 subst e
 cases r1
 obtain⟨its,rv,p,hz⟩:=I1.list hq
 refine wpAny_pyIter_list p.isList ?_
 refine⟨s1.heap.objs.size,[s1.heap.objs.size],_,_,H1,rfl,I1.kept (t':=s1.toks) fun b o e=>Heap.get?_push_of_some _ e,zjH a _,⟨_,Heap.get?_push_size _ rfl,rfl,rfl⟩,fun b hb=>?_,q⟩
 have e:b=s1.heap.objs.size:=by simpa using hb
 subst e
 exact I1.fpOk (Nat.le_refl _) (I1.hok.fresh (Nat.le_refl _))
theorem zih{pins:List (Addr × Obj)}{σ:St}{H:Hp}{s:Shared}{R:It→Hp→Prop}{E:Value→Shared→Prop}{lo hi:Int}{t u v:Tok}{tk:Nat}(I:Inv X pins σ H s)(h1 : -(2 ^ 62)≤lo)(h2:lo<2 ^ 62)(h3 : -(2 ^ 62)≤hi)(h4:hi<2 ^ 62)
 (q:R (Itr lo (hi - lo).toNat) H):wpAny (model X.prog X.w) X.A (pyIter (.ref s.heap.objs.size)) (PIE X pins σ tg R) E { s with heap:=s.heap.push { cls:=.type "range",data:=.fields #[.int lo t,.int hi u,.int 1 v] },toks:=tk }:=by
 refine wpAny_pyIter_range (IsRange.new ..) (small_one h1 h2 h3 h4) ?_
 have I1:Inv X pins σ H { s with heap:=s.heap.push { cls:=.type "range",data:=.fields #[.int lo t,.int hi u,.int 1 v] },toks:=tk }:=I.kept fun b o e=>Heap.get?_push_of_some _ e
 refine⟨(s.heap.push { cls:=.type "range",data:=.fields #[.int lo t,.int hi u,.int 1 v] }).objs.size,[(s.heap.push { cls:=.type "range",data:=.fields #[.int lo t,.int hi u,.int 1 v] }).objs.size],_,_,H,rfl,
  I1.kept (t':=tk) fun b o e=>Heap.get?_push_of_some _ e,ziN _ lo (hi - lo).toNat,?_,fun b hb=>?_,q⟩
 ·have e1:lo+((0:Nat):Int)*1=lo:=by simp
  have e2:(((hi - lo).toNat:Nat):Int) - ((0:Nat):Int)=Builtin.Range.rangeSize lo hi 1:=by rw[rangeSize_one];split <;> omega
  show IsRangeIter _ _ (lo+((0:Nat):Int)*1) ((((hi - lo).toNat:Nat):Int) - ((0:Nat):Int)) 1
  rw[e1,e2]
  exact Heap.get?_push_size _ rfl
 ·have e:b=(s.heap.push { cls:=.type "range",data:=.fields #[.int lo t,.int hi u,.int 1 v] }).objs.size:=by simpa using hb
  subst e
  exact I1.fpOk (Nat.le_refl _) (I1.hok.fresh (Nat.le_refl _))
def iRng1(ta:TA):TI:=fun σ H R=>ta σ H fun vs H1=>∃j:Int,vs = [.int j] ∧ -(2 ^ 62)≤j∧j<2 ^ 62∧R (Itr 0 j.toNat) H1
def iRng2(ta:TA):TI:=fun σ H R=>ta σ H fun vs H1=>∃i j:Int,vs = [.int i,.int j]∧(-(2 ^ 62)≤i∧i<2 ^ 62 ∧ -(2 ^ 62)≤j∧j<2 ^ 62)∧R (Itr i (j - i).toNat) H1
theorem wl{a:Expr}{ta:TA}{p pos:Pos}(hg:Gl X "range")(hm:X.mg "range" = none)(ha:PA X [a] ta)(hs:starEach [a] X.env = [(false,eval a X.env)]:=by rfl):PI X tg (.Call (.Name "range" p) [a] [] pos) (iRng1 ta):=by
 intro pins s σ H R I h
 refine Call_ (za9 I hg hm boot_range (PyProof.Rows.callWith_type1 (thn (ha pos pins s σ H _ I h) fun us s1 ⟨vs,H1,I1,r1,q1⟩=>?_) hs rfl))
 obtain⟨j,e,q1,q2,q⟩:=q1
 subst e
 cases r1 with
 | cons r rr =>
   cases rr
   obtain⟨t,rfl⟩:=r
   exact call_range_1 (zih I1 (by omega) (by omega) q1 q2 (by simpa using q))
theorem zgt{a b:Expr}{ta:TA}{p pos:Pos}(hg:Gl X "range")(hm:X.mg "range" = none)(ha:PA X [a,b] ta)(hs:starEach [a,b] X.env = [(false,eval a X.env),(false,eval b X.env)]:=by rfl)(hs2:starEach [b] X.env = [(false,eval b X.env)]:=by rfl):
 PI X tg (.Call (.Name "range" p) [a,b] [] pos) (iRng2 ta):=by
 intro pins s σ H R I h
 refine Call_ (za9 I hg hm boot_range (PyProof.Rows.callWith_type1 (thn (ha pos pins s σ H _ I h) fun us s1 ⟨vs,H1,I1,r1,q1⟩=>?_) (by rw[hs,hs2]) (by rw[hs2];rfl)))
 obtain⟨i,j,e,⟨q1,q2,q3,q4⟩,q⟩:=q1
 subst e
 cases r1 with
 | cons r rr =>
   cases rr with
   | cons r' rr =>
     cases rr
     obtain⟨t,rfl⟩:=r
     obtain⟨t',rfl⟩:=r'
     exact call_range_2 (zih I1 q1 q2 q3 q4 q)
def tFor(wi:TI)(g:TG)(tb:TS):TS:=fun D σ H=>wi σ H fun J H1=>∃W:Nat→Nat→St→Hp→Prop,(∃m,W 0 m σ H1)∧∀i m σ H,W i m σ H →
 (J.stop i H∧D.nx σ H)∨(J.go i H∧∃N:St→Hp→Prop,(∀σ' H',N σ' H'→∃m',m'<m∧W (i+1) m' σ' H')∧∀x H',J.yld i H x H'→g x σ H' fun σ2 H2=>tb { D with nx:=N,ct:=N,bk:=D.nx } σ2 H2)
def zg1(fp:List Addr)(h:Heap):List (Addr × Obj):=fp.filterMap fun b=>(h.get? b).map fun o=>(b,o)
theorem wF{fp:List Addr}{h:Heap}{b:Addr}{o:Obj}(hb:b∈fp)(e:h.get? b=some o):(b,o)∈zg1 fp h:=List.mem_filterMap.mpr ⟨b,hb,by rw[e];rfl⟩
theorem zjJ{fp:List Addr}{h:Heap}{p:Addr × Obj}(hp:p∈zg1 fp h):p.1∈fp∧h.get? p.1=some p.2:=by
 obtain⟨b,hb,e⟩:=List.mem_filterMap.mp hp
 cases q:h.get? b with
 | none=>rw[q] at e;cases e
 | some o =>
   rw[q] at e
   have e':(b,o)=p:=Option.some.inj e
   subst e'
   exact⟨hb,q⟩
theorem Inv.pinned{pins:List (Addr × Obj)}{σ:St}{H:Hp}{s:Shared}{fp:List Addr}(I:Inv X pins σ H s)(hf:∀b∈fp,zaX X pins H b)(ho:∀b∈fp,∃o,s.heap.get? b=some o∧∀v,o.data ≠ .cell v):Inv X (pins++zg1 fp s.heap) σ H s :=
 I.pins_of fun p hp=>(List.mem_append.mp hp).elim (fun z=>I.pin p (List.mem_append_right _ z)) fun z=>by
  obtain⟨hb,e⟩:=zjJ z
  obtain⟨f0,f1,f2,_⟩:=hf p.1 hb
  obtain⟨o,e',d⟩:=ho p.1 hb
  rw[e] at e';cases e'
  exact⟨e,f0,f1,f2,d⟩
theorem Inv.unpinned{pins pl:List (Addr × Obj)}{σ:St}{H:Hp}{s:Shared}(I:Inv X (pins++pl) σ H s):Inv X pins σ H s:=I.pins_of fun p hp=>I.pin p (List.mem_append_right _ (List.mem_append_left _ hp))
theorem zah{iter:Expr}{body:List Stmt}{wi:TI}{g:TG}{tb:TS}{pos:Pos}(hp:PassesOwn (model X.prog X.w) X.A X.env X.xe)(hc:X.calm=true)(hi:PI X tg iter wi)(hg:PG X tg g)(hb:PSs X body tb)
 (hs:∀x,foldedSetIterable iter X.env x=pure x:=by intro _;rfl):PS X (.For tg iter body [] pos) (tFor wi g tb):=by
 intro pins s σ H D I h
 refine wpAny_For (thn (hi pins s σ H _ I h) fun v s1 h1=>thn h1 fun itv s2 h2=>?_) hs
 obtain⟨it,fp,tn,J,H2,e,I2,T,st2,f2,W,⟨m0,w0⟩,turn⟩:=h2
 subst e
 -- what stays true of the iterator's objects through the loop
 have stat:∀{H':Hp},(∀b∈fp,H' b=none)→∀b∈fp,zaX X pins H' b:=fun hn b hb=>⟨hn b hb,(f2 b hb).2⟩
 refine codeAny_forLoop_any (fun n s'=>∃i σ' H',Inv X pins σ' H' s'∧tn i s'.heap∧(∀b∈fp,H' b=none)∧W i n σ' H') ?_ m0 ⟨0,σ,H2,I2,st2,fun b hb=>(f2 b hb).1,w0⟩
 rintro n s3 ⟨i,σ3,H3,I3,st3,fr3,w3⟩
 rcases turn i n σ3 H3 w3 with⟨stop,qn⟩ | ⟨go,N,hN,step⟩
 ·refine wpAny_passesOwn hp (thn (T.done X rfl rfl rfl hc i pins s3 σ3 H3 X.xe I3 (stat fr3) st3 stop) fun r s4 ⟨hr,I4⟩=>?_)
  subst hr
  exact wpAny_execs_nil ⟨σ3,H3,I4,qn⟩
 ·refine wpAny_passesOwn hp (thn (T.item X rfl rfl rfl hc i pins s3 σ3 H3 X.xe I3 (stat fr3) st3 go) fun r s4 ⟨u,hr,h4⟩=>?_)
  subst hr
  refine wpAny_passesOwn hp (thn h4 fun _ s5 ⟨x,H5,I5,r5,y5,st5,fr5⟩=>?_)
  have I5':=I5.pinned (stat fr5) (T.obj _ _ st5)
  refine wpAny_passesOwn hp (thn (hg _ s5 σ3 H5 x u _ I5' r5 (step x H5 y5)) fun _ s6 ⟨σ6,H6,I6,q6⟩=>?_)
  refine wpAny_passesOwn hp (thn (hb _ s6 σ6 H6 _ I6 q6) fun f s7 q7=>?_)
  have again:∀{σ7:St} {H7:Hp},Inv X (pins++zg1 fp s5.heap) σ7 H7 s7→N σ7 H7→∃m,m<n∧∃i σ' H',Inv X pins σ' H' s7∧tn i s7.heap∧(∀b∈fp,H' b=none)∧W i m σ' H':=fun {σ7 H7} I7 n7=>by
   obtain⟨m',hm,w7⟩:=hN σ7 H7 n7
   refine⟨m',hm,i+1,σ7,H7,I7.unpinned,T.keep _ _ _ st5 fun b hb o e=>(I7.pin (b,o) (List.mem_append_right _ (List.mem_append_right _ (wF hb e)))).1,fun b hb=>?_,w7⟩
   obtain⟨o,e,d⟩:=T.obj _ _ st5 b hb
   exact(I7.pin (b,o) (List.mem_append_right _ (List.mem_append_right _ (wF hb e)))).2.1
  cases f with
  | next=>obtain⟨σ7,H7,I7,n7⟩:=q7;exact again I7 n7
  | cont=>obtain⟨σ7,H7,I7,n7⟩:=q7;exact again I7 n7
  | brk=>obtain⟨σ7,H7,I7,q7⟩:=q7;exact⟨σ7,H7,I7.unpinned,q7⟩
  | ret v=>obtain⟨x7,σ7,H7,I7,r7,q7⟩:=q7;exact⟨x7,σ7,H7,I7.unpinned,r7,q7⟩
end
theorem zb8{K:PySem.W.Frag}{a:Addr}{xs:List V}{g:TG}{tb:TS}{D:Ends}{σ:St}{H:Hp}(Pv:Nat→St→Hp→Prop)(h0:Pv 0 σ H)(hl:∀i σ H,i≤xs.length→Pv i σ H→SqL K H a xs)
 (hs:∀i x σ H,xs[i]? = some x→Pv i σ H→g x σ H fun σ2 H2=>tb { D with nx:=Pv (i+1),ct:=Pv (i+1),bk:=D.nx } σ2 H2) (hd:∀σ H,Pv xs.length σ H→D.nx σ H) :
 ∃W:Nat→Nat→St→Hp→Prop,(∃m,W 0 m σ H)∧∀i m σ H,W i m σ H →
  ((Itl K a).stop i H∧D.nx σ H)∨((Itl K a).go i H∧∃N:St→Hp→Prop,(∀σ' H',N σ' H'→∃m',m'<m∧W (i+1) m' σ' H')∧∀x H',(Itl K a).yld i H x H'→g x σ H' fun σ2 H2=>tb { D with nx:=N,ct:=N,bk:=D.nx } σ2 H2):=by
 refine⟨fun i m σ H=>m=xs.length - i∧i≤xs.length∧Pv i σ H,⟨xs.length,by simp,Nat.zero_le _,h0⟩,?_⟩
 rintro i m σ H ⟨rfl,hi,p⟩
 have q:=hl i σ H hi p
 by_cases hlt:i<xs.length
 ·refine .inr ⟨⟨xs,xs[i],q,by simp[hlt]⟩,Pv (i+1),fun σ' H' p'=>⟨xs.length - (i+1),by omega,rfl,hlt,p'⟩,fun x H' y=>?_⟩
  obtain⟨e,y⟩:=y
  subst e
  exact hs i x σ _ (y xs q) p
 ·have e:i=xs.length:=by omega
  subst e
  exact .inl ⟨⟨xs,q,Nat.le_refl _⟩,hd σ H p⟩
theorem zam{lo:Int}{n:Nat}{g:TG}{tb:TS}{D:Ends}{σ:St}{H:Hp}(Pv:Nat→St→Hp→Prop)(h0:Pv 0 σ H)
 (hs:∀i σ H,i<n→Pv i σ H→g (.int (lo+i)) σ H fun σ2 H2=>tb { D with nx:=Pv (i+1),ct:=Pv (i+1),bk:=D.nx } σ2 H2) (hd:∀σ H,Pv n σ H→D.nx σ H) :
 ∃W:Nat→Nat→St→Hp→Prop,(∃m,W 0 m σ H)∧∀i m σ H,W i m σ H →
  ((Itr lo n).stop i H∧D.nx σ H)∨((Itr lo n).go i H∧∃N:St→Hp→Prop,(∀σ' H',N σ' H'→∃m',m'<m∧W (i+1) m' σ' H')∧∀x H',(Itr lo n).yld i H x H'→g x σ H' fun σ2 H2=>tb { D with nx:=N,ct:=N,bk:=D.nx } σ2 H2):=by
 refine⟨fun i m σ H=>m=n - i∧i≤n∧Pv i σ H,⟨n,by simp,Nat.zero_le _,h0⟩,?_⟩
 rintro i m σ H ⟨rfl,hi,p⟩
 by_cases hlt:i<n
 ·refine .inr ⟨hlt,Pv (i+1),fun σ' H' p'=>⟨n - (i+1),by omega,rfl,hlt,p'⟩,fun x H' y=>?_⟩
  obtain⟨e,y⟩:=y
  subst e y
  exact hs i σ _ hlt p
 ·have e:i=n:=by omega
  subst e
  exact .inl ⟨Nat.le_refl _,hd σ H p⟩
abbrev R2:=V→V→Hp→VK→Prop
def OpR(X:Cx)(f:Value→Value→Sem Value)(r:R2):Prop :=
 ∀(pins:List (Addr × Obj)) (s:Shared) (σ:St) (H:Hp) (x y:V) (v u:Value) (Q:VK),Inv X pins σ H s→zR x v→zR y u→r x y H Q →
  wpAny (model X.prog X.w) X.A (f v u) (EP X pins σ Q) X.xe s
def UnR(X:Cx)(f:Value→Sem Value)(r:V→Hp→VK→Prop):Prop :=
 ∀(pins:List (Addr × Obj)) (s:Shared) (σ:St) (H:Hp) (x:V) (v:Value) (Q:VK),Inv X pins σ H s→zR x v→r x H Q →
  wpAny (model X.prog X.w) X.A (f v) (EP X pins σ Q) X.xe s
def zas(X:Cx)(f:Value)(r:List V→Hp→VK→Prop):Prop :=
 ∀(pins:List (Addr × Obj)) (s:Shared) (σ:St) (H:Hp) (xs:List V) (us:List Value) (Q:VK),Inv X pins σ H s→zG xs us→r xs H Q →
  wpAny (model X.prog X.w) X.A (call f us) (EP X pins σ Q) X.xe s
def tOp(r:R2)(ta tb:TE):TE:=fun σ H Q=>ta σ H fun x H1=>tb σ H1 fun y H2=>r x y H2 Q
def tUn(r:V→Hp→VK→Prop)(ta:TE):TE:=fun σ H Q=>ta σ H fun x H1=>r x H1 Q
def rI(C:Int→Int→Prop)(g:Int→Int→V):R2:=fun x y H Q=>∃i j,x=.int i∧y=.int j∧C i j∧Q (g i j) H
def rI0(g:Int→Int→V):R2:=fun x y H Q=>∃i j,x=.int i∧y=.int j∧Q (g i j) H
def rU(g:Int→V):V→Hp→VK→Prop:=fun x H Q=>∃i,x=.int i∧Q (g i) H
section
variable {X:Cx} {a b c:Expr} {ta tb tc:TE} {pos:Pos}
theorem binT(ha:PE X a ta)(hb:PE X b tb){pins:List (Addr × Obj)}{s:Shared}{σ:St}{H:Hp}{R:V→V→Hp→Prop}(I:Inv X pins σ H s)
 (h:ta σ H fun x H1=>tb σ H1 fun y H2=>R x y H2) {Q:Value→Shared→Prop} {f:Value→Value→Sem Value}
 (hf:∀v u s2 x y H2,Inv X pins σ H2 s2→zR x v→zR y u→R x y H2→wpAny (model X.prog X.w) X.A (f v u) Q X.xe s2) :
 wpAny (model X.prog X.w) X.A (eval a X.env) (fun v s₁=>wpAny (model X.prog X.w) X.A (eval b X.env) (fun u s₂=>wpAny (model X.prog X.w) X.A (f v u) Q X.xe s₂) X.xe s₁) X.xe s:=by
 refine thn (ha pins s σ H _ I h) fun v s1 ⟨x,H1,I1,r1,q1⟩=>?_
 refine thn (hb pins s1 σ H1 _ I1 q1) fun u s2 ⟨y,H2,I2,r2,q2⟩=>?_
 exact hf v u s2 x y H2 I2 r1 r2 q2
theorem zz{op:Operator}{r:R2}(ho:OpR X (binaryOp op) r)(ha:PE X a ta)(hb:PE X b tb):PE X (.BinOp a op b pos) (tOp r ta tb):=by
 intro pins s σ H Q I h
 exact wpAny_BinOp (binT ha hb I h fun v u s2 x y H2 I2 rx ry q=>ho pins s2 σ H2 x y v u Q I2 rx ry q)
theorem zht{op:UnaryOp}{r:V→Hp→VK→Prop}(ho:UnR X (unaryOp op) r)(ha:PE X a ta):PE X (.UnaryOp op a pos) (tUn r ta):=by
 intro pins s σ H Q I h
 exact UnaryOp_ (thn (ha pins s σ H _ I h) fun v s1 ⟨x,H1,I1,r1,q1⟩=>ho pins s1 σ H1 x v Q I1 r1 q1)
theorem opI{f:Value→Value→Sem Value}{C:Int→Int→Prop}{g:Int→Int→Int}
 (rule:∀(i j:Int) (t u:Tok) (s:Shared) (Q:Value→Shared→Prop) (E:Value→Shared→Prop),C i j→Q (.int (g i j) s.toks) { s with toks:=s.toks+1 }→wpAny (model X.prog X.w) X.A (f (.int i t) (.int j u)) Q E s) :
 OpR X f (rI C fun i j=>.int (g i j)):=by
 intro pins s σ H x y v u Q I rx ry h
 obtain⟨i,j,rfl,rfl,hc,q⟩:=h
 obtain⟨t,rfl⟩:=rx
 obtain⟨t',rfl⟩:=ry
 exact rule i j t t' s _ _ hc ⟨.int (g i j),H,I.tok _,⟨_,rfl⟩,q⟩
theorem opI0{f:Value→Value→Sem Value}{g:Int→Int→Int}
 (rule:∀(i j:Int) (t u:Tok) (s:Shared) (Q:Value→Shared→Prop) (E:Value→Shared→Prop),Q (.int (g i j) s.toks) { s with toks:=s.toks+1 }→wpAny (model X.prog X.w) X.A (f (.int i t) (.int j u)) Q E s) :
 OpR X f (rI0 fun i j=>.int (g i j)):=by
 intro pins s σ H x y v u Q I rx ry h
 obtain⟨i,j,rfl,rfl,q⟩:=h
 obtain⟨t,rfl⟩:=rx
 obtain⟨t',rfl⟩:=ry
 exact rule i j t t' s _ _ ⟨.int (g i j),H,I.tok _,⟨_,rfl⟩,q⟩
theorem opB0{f:Value→Value→Sem Value}{g:Int→Int→Bool}
 (rule:∀(i j:Int) (t u:Tok) (s:Shared) (Q:Value→Shared→Prop) (E:Value→Shared→Prop),Q (.bool (g i j)) s→wpAny (model X.prog X.w) X.A (f (.int i t) (.int j u)) Q E s) :
 OpR X f (rI0 fun i j=>.bl (g i j)):=by
 intro pins s σ H x y v u Q I rx ry h
 obtain⟨i,j,rfl,rfl,q⟩:=h
 obtain⟨t,rfl⟩:=rx
 obtain⟨t',rfl⟩:=ry
 exact rule i j t t' s _ _ ⟨.bl (g i j),H,I,rfl,q⟩
def CDiv(i j:Int):Prop:=0<j∧j<1073741824
def CPow(i j:Int):Prop:=0≤j∧j≤1000000∧i.natAbs<2 ^ 64
def CMul(i j:Int):Prop:=(-(2 ^ 64)<i∧i<2 ^ 64)∨(-(2 ^ 64)<j∧j<2 ^ 64)
theorem CMul.ok{i j:Int}(h:CMul i j):IntMulOk i j:=by
 rcases h with⟨h1,h2⟩ | ⟨h1,h2⟩
 ·exact .of_left (intBits_le_64 h1 h2)
 ·exact .of_right (intBits_le_64 h1 h2)
theorem yM:OpR X (binaryOp .Add) (rI0 fun i j=>.int (i+j)):=opI0 fun _ _ _ _ _ _ _ q=>add_int q
theorem zfa:OpR X (binaryOp .Sub) (rI0 fun i j=>.int (i - j)):=opI0 fun _ _ _ _ _ _ _ q=>sub_int q
theorem zfG:OpR X (binaryOp .Mult) (rI CMul fun i j=>.int (i*j)):=opI fun _ _ _ _ _ _ _ hc q=>mul_int q hc.ok
theorem zcC:OpR X (binaryOp .FloorDiv) (rI CDiv fun i j=>.int (i/j)):=opI fun i j _ _ _ _ _ hc q=>by
 have h1:(0:Int)<j:=hc.1
 have h2:j<1073741824:=hc.2
 exact floordiv_int (by omega) (by rw[Int.fdiv_eq_ediv_of_nonneg i (by omega)];exact q) (.inl (PyProof.noPylong_small (by omega)))
theorem yB:OpR X (binaryOp .Mod) (rI (fun _ j=>0<j) fun i j=>.int (i%j)):=opI fun i j _ _ _ _ _ hc q=>by
 have h1:(0:Int)<j:=hc
 exact mod_int' (by omega) (by rw[Int.fmod_eq_emod_of_nonneg i (by omega)];exact q)
theorem op_pow:OpR X (binaryOp .Pow) (rI CPow fun i j=>.int (i ^ j.toNat)):=opI fun _ _ _ _ _ _ _ hc q=>pow_int_small hc.1 hc.2.1 hc.2.2 q
theorem unI{f:Value→Sem Value}{g:Int→Int}
 (rule:∀(i:Int) (t:Tok) (s:Shared) (Q:Value→Shared→Prop) (E:Value→Shared→Prop),Q (.int (g i) s.toks) { s with toks:=s.toks+1 }→wpAny (model X.prog X.w) X.A (f (.int i t)) Q E s) :
 UnR X f (rU fun i=>.int (g i)):=by
 intro pins s σ H x v Q I rx h
 obtain⟨i,rfl,q⟩:=h
 obtain⟨t,rfl⟩:=rx
 exact rule i t s _ _ ⟨.int (g i),H,I.tok _,⟨_,rfl⟩,q⟩
theorem zfU:UnR X (unaryOp .USub) (rU fun i=>.int (-i)):=unI fun _ _ _ _ _ q=>neg_int q
end
def scal:V→V→Bool
 | .non,.non=>true | .non,.int _=>true | .int _,.non=>true | .non,.bl _=>true | .bl _,.non=>true | .non,.str _=>true | .str _,.non=>true
 | .int _,.int _=>true | .bl _,.bl _=>true | .str _,.str _=>true | .byt _,.byt _=>true
 | .int _,.str _=>true | .str _,.int _=>true | .bl _,.str _=>true | .str _,.bl _=>true
 | _,_=>false
def rEq:R2:=fun x y H Q=>scal x y=true∧Q (.bl (decide (x=y))) H
def rNe:R2:=fun x y H Q=>scal x y=true∧Q (.bl (!decide (x=y))) H
theorem zjg{i j:Int}:decide (V.int i=V.int j)=(i==j):=by
 rw[Bool.eq_iff_iff]
 simp
theorem dec_bl{i j:Bool}:decide (V.bl i=V.bl j)=(i==j):=by
 rw[Bool.eq_iff_iff]
 simp
theorem zjr{i j:Str}:decide (V.str i=V.str j)=(i==j):=by
 rw[Bool.eq_iff_iff]
 simp
theorem zjp{i j:Array UInt8}:decide (V.byt i=V.byt j)=(i.toList==j.toList):=by
 rw[Bool.eq_iff_iff]
 cases i
 cases j
 simp
section
variable {X:Cx} {a b c:Expr} {ta tb tc:TE} {pos:Pos}
theorem zT{pins:List (Addr × Obj)}{σ:St}{H:Hp}{s:Shared}{Q:VK}{k k':Bool}(I:Inv X pins σ H s)(q:Q (.bl k) H)(e:k=k'):EP X pins σ Q (.bool k') s:=by
 subst e
 exact⟨.bl k,H,I,rfl,q⟩
theorem yk:OpR X (compareOp .Eq) rEq:=by
 intro pins s σ H x y v u Q I rx ry h
 obtain⟨hs,q⟩:=h
 cases x with
 | non =>
   cases rx
   cases y with
   | non=>cases ry;exact PySem.EqNone.eq_none_none (zT I q (by simp))
   | bl j=>cases ry;exact PySem.EqNone.eq_none_bool (zT I q (by simp))
   | int j=>obtain⟨t',rfl⟩:=ry;exact PySem.EqNone.eq_none_int (zT I q (by simp))
   | str j=>obtain⟨t',rfl⟩:=ry;exact PySem.EqNone.eq_none_str (zT I q (by simp))
   | _=>exact absurd (show false=true from hs) Bool.false_ne_true
 | bl i =>
   cases rx
   cases y with
   | non=>cases ry;exact PySem.EqNone.eq_bool_none (zT I q (by simp))
   | bl j=>cases ry;exact eq_bool (zT I q dec_bl)
   | str j=>obtain⟨t',rfl⟩:=ry;exact PySem.EqMixed.eq_bool_str (zT I q (by simp))
   | _=>exact absurd (show false=true from hs) Bool.false_ne_true
 | int i =>
   obtain⟨t,rfl⟩:=rx
   cases y with
   | non=>cases ry;exact PySem.EqNone.eq_int_none (zT I q (by simp))
   | int j=>obtain⟨t',rfl⟩:=ry;exact eq_int (zT I q zjg)
   | str j=>obtain⟨t',rfl⟩:=ry;exact PySem.EqMixed.eq_int_str (zT I q (by simp))
   | _=>exact absurd (show false=true from hs) Bool.false_ne_true
 | str i =>
   obtain⟨t,rfl⟩:=rx
   cases y with
   | non=>cases ry;exact PySem.EqNone.eq_str_none (zT I q (by simp))
   | bl j=>cases ry;exact PySem.EqMixed.eq_str_bool (zT I q (by simp))
   | int j=>obtain⟨t',rfl⟩:=ry;exact PySem.EqMixed.eq_str_int (zT I q (by simp))
   | str j=>obtain⟨t',rfl⟩:=ry;exact eq_str (zT I q zjr)
   | _=>exact absurd (show false=true from hs) Bool.false_ne_true
 | byt i =>
   obtain⟨t,rfl⟩:=rx
   cases y with
   | byt j=>obtain⟨t',rfl⟩:=ry;exact PySem.W.eq_bytes (zT I q zjp)
   | _=>exact absurd (show false=true from hs) Bool.false_ne_true
 | _=>cases y <;> exact absurd (show false=true from hs) Bool.false_ne_true
theorem zay:OpR X (compareOp .NotEq) rNe:=by
 intro pins s σ H x y v u Q I rx ry h
 obtain⟨hs,q⟩:=h
 cases x with
 | non =>
   cases rx
   cases y with
   | non=>cases ry;exact PySem.EqNone.ne_none_none (zT I q (by simp))
   | bl j=>cases ry;exact PySem.EqNone.ne_none_bool (zT I q (by simp))
   | int j=>obtain⟨t',rfl⟩:=ry;exact PySem.EqNone.ne_none_int (zT I q (by simp))
   | str j=>obtain⟨t',rfl⟩:=ry;exact PySem.EqNone.ne_none_str (zT I q (by simp))
   | _=>exact absurd (show false=true from hs) Bool.false_ne_true
 | bl i =>
   cases rx
   cases y with
   | non=>cases ry;exact PySem.EqNone.ne_bool_none (zT I q (by simp))
   | bl j=>cases ry;exact ne_bool (zT I q (congrArg not dec_bl))
   | str j=>obtain⟨t',rfl⟩:=ry;exact PySem.EqMixed.ne_bool_str (zT I q (by simp))
   | _=>exact absurd (show false=true from hs) Bool.false_ne_true
 | int i =>
   obtain⟨t,rfl⟩:=rx
   cases y with
   | non=>cases ry;exact PySem.EqNone.ne_int_none (zT I q (by simp))
   | int j=>obtain⟨t',rfl⟩:=ry;exact ne_int (zT I q (congrArg not zjg))
   | str j=>obtain⟨t',rfl⟩:=ry;exact PySem.EqMixed.ne_int_str (zT I q (by simp))
   | _=>exact absurd (show false=true from hs) Bool.false_ne_true
 | str i =>
   obtain⟨t,rfl⟩:=rx
   cases y with
   | non=>cases ry;exact PySem.EqNone.ne_str_none (zT I q (by simp))
   | bl j=>cases ry;exact PySem.EqMixed.ne_str_bool (zT I q (by simp))
   | int j=>obtain⟨t',rfl⟩:=ry;exact PySem.EqMixed.ne_str_int (zT I q (by simp))
   | str j=>obtain⟨t',rfl⟩:=ry;exact ne_str (zT I q (congrArg not zjr))
   | _=>exact absurd (show false=true from hs) Bool.false_ne_true
 | byt i =>
   obtain⟨t,rfl⟩:=rx
   cases y with
   | byt j=>obtain⟨t',rfl⟩:=ry;exact PySem.W.ne_bytes (zT I q (congrArg not zjp))
   | _=>exact absurd (show false=true from hs) Bool.false_ne_true
 | _=>cases y <;> exact absurd (show false=true from hs) Bool.false_ne_true
theorem zdM:OpR X (compareOp .Lt) (rI0 fun i j=>.bl (decide (i<j))):=opB0 fun _ _ _ _ _ _ _ q=>lt_int q
theorem zio:OpR X (compareOp .LtE) (rI0 fun i j=>.bl (decide (i≤j))):=opB0 fun _ _ _ _ _ _ _ q=>le_int q
theorem zix:OpR X (compareOp .Gt) (rI0 fun i j=>.bl (decide (j<i))):=opB0 fun _ _ _ _ _ _ _ q=>gt_int q
theorem op_ge:OpR X (compareOp .GtE) (rI0 fun i j=>.bl (decide (j≤i))):=opB0 fun _ _ _ _ _ _ _ q=>ge_int q
theorem ziZ:OpR X (compareOp .Is) (fun x y H Q=>y=.non∧Q (.bl (decide (x=.non))) H):=by
 intro pins s σ H x y v u Q I rx ry h
 obtain⟨rfl,q⟩:=h
 cases ry
 refine is_none_gen (zT I q ?_)
 cases x <;> first
  | (cases rx;rfl)
  | (obtain⟨t,rfl⟩:=rx;rfl)
theorem op_notN:OpR X (compareOp .IsNot) (fun x y H Q=>y=.non∧Q (.bl (!decide (x=.non))) H):=by
 intro pins s σ H x y v u Q I rx ry h
 obtain⟨rfl,q⟩:=h
 cases ry
 refine isnot_none_gen (zT I q ?_)
 cases x <;> first
  | (cases rx;rfl)
  | (obtain⟨t,rfl⟩:=rx;rfl)
theorem zt(b:Expr){op:CmpOp}(h:op ≠ .In:=by decide)(h2:op ≠ .NotIn:=by decide):behindInMarks op b=false:=by
 have e1:(op==CmpOp.In)=false:=by cases op <;> first | rfl | exact absurd rfl h
 have e2:(op==CmpOp.NotIn)=false:=by cases op <;> first | rfl | exact absurd rfl h2
 cases b <;> simp[behindInMarks,e1,e2]
theorem zbl{op:CmpOp}{r:R2}(ho:OpR X (compareOp op) r)(ha:PE X a ta)(hb:PE X b tb)(hm:behindInMarks op b=false):PE X (.Compare a [op] [b] pos) (tOp r ta tb):=by
 intro pins s σ H Q I h
 exact wpAny_Compare1 (binT ha hb I h fun v u s2 x y H2 I2 rx ry q=>ho pins s2 σ H2 x y v u Q I2 rx ry q) hm
def tTest(t:TE):TT:=fun σ H Q=>t σ H fun x H'=>∃k,x=.bl k∧Q k H'
theorem zo{op:CmpOp}{r:R2}(ho:OpR X (compareOp op) r)(ha:PE X a ta)(hb:PE X b tb)(hm:behindInMarks op b=false):PT X (.Compare a [op] [b] pos) (tTest (tOp r ta tb)):=by
 intro pins s σ H Q I h
 refine wpAny_isTrue_Compare1 (thn (ha pins s σ H _ I h) fun v s1 ⟨x,H1,I1,r1,q1⟩=>thn (hb pins s1 σ H1 _ I1 q1) fun u s2 ⟨y,H2,I2,r2,q2⟩ =>
  thn (ho pins s2 σ H2 x y v u _ I2 r1 r2 q2) fun c s3 ⟨z,H3,I3,r3,k,e,q3⟩=>?_) hm
 subst e
 cases r3
 exact wpAny_truthy_bool ⟨H3,I3,q3⟩
def tChain(r r':R2)(ta tb tc:TE):TE:=fun σ H Q=>ta σ H fun x H1=>tb σ H1 fun y H2=>r x y H2 fun z H3=>∃k,z=.bl k ∧
 (if k=true then tc σ H3 fun w' H4=>r' y w' H4 Q else Q (.bl false) H3)
theorem zfN{op op':CmpOp}{r r':R2}(ho:OpR X (compareOp op) r)(ho':OpR X (compareOp op') r')(ha:PE X a ta)(hb:PE X b tb)(hc:PE X c tc)
 (hm:lastMarks [op,op'] [b,c]=false:=by with_unfolding_all rfl):PE X (.Compare a [op,op'] [b,c] pos) (tChain r r' ta tb tc):=by
 intro pins s σ H Q I h
 refine Compare_chain (thn (ha pins s σ H _ I h) fun v s1 ⟨x,H1,I1,r1,q1⟩=>chain_link (thn (hb pins s1 σ H1 _ I1 q1) fun u s2 ⟨y,H2,I2,r2,q2⟩ =>
  thn (ho pins s2 σ H2 x y v u _ I2 r1 r2 q2) fun d s3 ⟨z,H3,I3,r3,k,e,q3⟩=>?_)) hm
 subst e
 cases r3
 refine wpAny_truthy_bool ?_
 cases k with
 | false=>exact ite_ff ⟨.bl false,H3,I3,rfl,q3⟩
 | true=>exact ite_tt (chain_last (thn (hc pins s3 σ H3 _ I3 q3) fun w' s4 ⟨z',H4,I4,r4,q4⟩=>ho' pins s4 σ H4 y z' u w' Q I4 r2 r4 q4))
theorem zfE:(sizeLine:Nat)<2 ^ 63:=by rw[sizeLine_eq];decide
theorem yO:OpR X (binaryOp .Add) (fun x y H Q=>∃i j,x=.str i∧y=.str j∧i.length+j.length≤sizeLine∧Q (.str (i++j)) H):=by
 intro pins s σ H x y v u Q I rx ry h
 obtain⟨i,j,rfl,rfl,hz,q⟩:=h
 obtain⟨t,rfl⟩:=rx
 obtain⟨t',rfl⟩:=ry
 exact add_str (fun t' tk=>⟨.str (i++j),H,I.tok _,⟨_,rfl⟩,q⟩) hz
theorem zir{x:V}{us:List Value}(r:zG [x] us):∃u,us = [u]∧zR x u:=by
 cases r with
 | cons r1 r2=>cases r2;exact⟨_,rfl,r1⟩
theorem vals2{x y:V}{us:List Value}(r:zG [x,y] us):∃u w',us = [u,w']∧zR x u∧zR y w':=by
 cases r with
 | cons r1 r2 =>
   cases r2 with
   | cons r3 r4=>cases r4;exact⟨_,_,rfl,r1,r3⟩
theorem call_min2(hc:X.calm=true):zas X (.builtin "min") (fun xs H Q=>∃i j,xs = [.int i,.int j]∧Q (.int (if j<i then j else i)) H):=by
 intro pins s σ H xs us Q I r h
 obtain⟨i,j,rfl,q⟩:=h
 obtain⟨u,w',rfl,⟨t,rfl⟩,⟨t',rfl⟩⟩:=vals2 r
 refine min_two_ints (I.ok.hd hc) fun h' tk k=>⟨_,H,I.kept k,?_,q⟩
 by_cases hj:j<i
 ·rw[if_pos hj,if_pos hj];exact⟨_,rfl⟩
 ·rw[if_neg hj,if_neg hj];exact⟨_,rfl⟩
theorem zbn:zas X (.type "int") (fun xs H Q=>(∃i,xs = [.int i]∧Q (.int i) H)∨∃k,xs = [.bl k]∧Q (.int (if k then 1 else 0)) H):=by
 intro pins s σ H xs us Q I r h
 rcases h with⟨i,rfl,q⟩ | ⟨k,rfl,q⟩
 ·obtain⟨u,rfl,t,rfl⟩:=zir r
  exact call_int_int ⟨.int i,H,I,⟨_,rfl⟩,q⟩
 ·obtain⟨u,rfl,r1⟩:=zir r
  cases r1
  exact call_int_bool ⟨.int (if k then 1 else 0),H,I.tok _,⟨_,rfl⟩,q⟩
def LenV(K:PySem.W.Frag)(x:V)(H:Hp)(n:Nat):Prop :=
 match x with
 | .str y=>y.length≤sizeLine∧n=y.length
 | .byt y=>y.size≤sizeLine∧n=y.size
 | .ref p=>(∃xs,SqL K H p xs∧n=xs.length)∨∃xs,SqT K H p xs∧n=xs.length
 | _=>False
theorem call_len:zas X (.builtin "len") (fun xs H Q=>∃x n,xs = [x]∧LenV X.K x H n∧Q (.int n) H):=by
 intro pins s σ H xs us Q I r h
 obtain⟨x,n,rfl,e,q⟩:=h
 obtain⟨u,rfl,rx⟩:=zir r
 have hl:=zfE
 have hs:sizeLine=16777216:=sizeLine_eq
 cases x with
 | str y =>
   obtain⟨t,rfl⟩:=rx
   obtain⟨hy,e'⟩:y.length≤sizeLine∧n=y.length:=e
   subst e'
   exact len_str (by omega) ⟨.int _,H,I.tok _,⟨_,rfl⟩,q⟩
 | byt y =>
   obtain⟨t,rfl⟩:=rx
   obtain⟨hy,e'⟩:y.size≤sizeLine∧n=y.size:=e
   subst e'
   exact PySem.W.len_bytes (by omega) ⟨.int _,H,I.tok _,⟨_,rfl⟩,q⟩
 | ref p =>
   cases rx
   have e':(∃xs,SqL X.K H p xs∧n=xs.length)∨∃xs,SqT X.K H p xs∧n=xs.length:=e
   rcases e' with⟨xs,hx,e'⟩ | ⟨xs,hx,e'⟩
   ·subst e'
    obtain⟨its,r',pl,hz⟩:=I.list hx
    have hlen:=r'.length
    exact Calls.call_len_list pl.isList (by simp only[List.size_toArray];omega) ⟨.int xs.length,H,I.tok _,⟨_,by simp only[List.size_toArray];rw[hlen]⟩,q⟩
   ·subst e'
    obtain⟨its,r',pl,hz⟩:=I.tuple hx
    have hlen:=r'.length
    exact len_tuple pl (by simp only[List.size_toArray];omega) ⟨.int xs.length,H,I.tok _,⟨_,by simp only[List.size_toArray];rw[hlen]⟩,q⟩
 | _=>exact(show False from e).elim
end
structure ObjM (h:Heap) (x dx C:Addr) (mA:Str→Option Value):Prop where
 obj:h.get? x=some (PySem.W.instObj C dx)
 ns:h.Ns1 dx mA
 ne:dx≠x
theorem lookIn_ns{h:Heap}{dx:Addr}{mA:Str→Option Value}(n:h.Ns1 dx mA):∃od,h.get? dx=some od∧∀name,PySem.W.lookIn name od=some (mA name):=by
 obtain⟨o,es,ep,ho,hd,hk,_,hm⟩:=n
 refine⟨o,ho,fun name=>?_⟩
 have e:=hm name
 unfold nsFind findBy at e
 rw[← Array.find?_toList] at e
 unfold PySem.W.lookIn
 rw[hd]
 dsimp only
 split
 ·rename_i y q
  rw[q] at e
  exact congrArg some e
 ·rename_i q
  rw[q] at e
  have a:es.toList.any (·.refKey)=false:=by
   rw[List.any_eq_false]
   intro y hy
   obtain⟨z,t,hkey⟩:=hk y (Array.mem_toList_iff.mp hy)
   simp[DictEntry.refKey,hkey]
  have a':¬es.toList.any (·.refKey)=true:=by rw[a];exact Bool.false_ne_true
  rw[if_neg a']
  exact congrArg some e
theorem ObjM.look{h:Heap}{x dx C:Addr}{mA:Str→Option Value}(I:ObjM h x dx C mA):∃od,PySem.W.InstAt h x (PySem.W.instObj C dx) C (some od)∧∀name,PySem.W.lookIn name od=some (mA name) :=
 let ⟨od,ho,hl⟩:=lookIn_ns I.ns
 ⟨od,⟨I.obj,rfl,rfl,ho⟩,hl⟩
section
variable {prog:Program} {w:World} {A:Around} {E:Value→Shared→Prop} {s:Shared} {K:PySem.W.Frag} {x dx C f:Addr} {mA:Str→Option Value} {name:Str} {v:Value}
theorem get_map{expr:Bool}{Q:Value→Shared→Prop}(X:K.In s.heap)(I:ObjM s.heap x dx C mA)(hg:PySem.W.plainGet K C name=true)(hh:PySem.W.hasDictIn K C=true)
 (ha:PySem.W.findIn K (.ref C) name=some none) (hv:mA name=some v) (hv':PySem.W.handedIn v=true) (h:Q v { s with toks:=s.toks+1 }) :
 wpAny (model prog w) A (getAttr (.ref x) name expr) Q E s:=by
 obtain⟨od,J,hl⟩:=I.look
 exact PySem.W.get_value X J (PySem.W.plainGet_of hg).1 (PySem.W.findObj_own hh ha rfl (by rw[hl,hv])) hv' h
theorem get_meth{pl:Sem Bool}{Q:Value × List Value→Shared→Prop}(X:K.In s.heap)(I:ObjM s.heap x dx C mA)(hg:PySem.W.plainGet K C name=true)
 (hf:PySem.W.findIn K (.ref C) name=some (some (.ref f))) (ht:PySem.W.isFn K (.ref f)=true) (hv:mA name=none) (h:Q (.ref f,[.ref x]) s) :
 wpAny (model prog w) A (getMethod (.ref x) name pl) Q E s:=by
 obtain⟨od,J,hl⟩:=I.look
 exact PySem.W.method_fn X J (PySem.W.plainGet_of hg).1 (PySem.W.plainGet_of hg).2 hf (beq_iff_eq.mp ht) (by show(PySem.W.lookIn name od).map (·.isSome)=some false;rw[hl,hv];rfl) h
theorem set_map{ns:List Str}{Q:Unit→Shared→Prop}(X:K.In s.heap)(I:ObjM s.heap x dx C mA)
 (hs:PySem.W.findIn K (.ref C) "__setattr__" = some (some (.builtin "object.__setattr__"))) (hp:PySem.W.plainOver K C=true) (ht:PySem.W.takerIn K C name=some none) (hh:PySem.W.hasDictIn K C=true)
 (hw:PySem.Within mA ns) (hsz:ns.length≤sizeLine)
 (h:∀h',ObjM h' x dx C (fun y=>if y=name then some v else mA y)→Heap.SameBut dx s.heap h'→Q () { s with heap:=h',toks:=s.toks+2 }) :
 wpAny (model prog w) A (setAttr (.ref x) name v) Q E s:=by
 obtain⟨od,J,hl⟩:=I.look
 refine PySem.W.set_plain X J hs (PySem.W.osa_open (s:={ s with toks:=s.toks+1 }) (r:=none) X J hp ht fun b=>?_)
 obtain⟨cd,hc,hd'⟩:=PySem.W.any_some hh
 have hx:s.heap.get? x=some ⟨.ref C,some dx,.plain,#[]⟩:=I.obj
 refine wpAny_bind (wpAny_pure (wpAny_bind (wpAny_bind (wpAny_loadPart hx (wpAny_bind (PySem.W.Looks.here (s:={ s with toks:=s.toks+1 }) (PySem.W.looks_clsIn X hc) ?_))))))
 rw[hd']
 refine wpAny_pure (a:=some dx) (wpAny_bind (wpAny_pure (wpAny_bind ?_)))
 refine wpAny_nsSet1 (s:={ s with toks:=s.toks+1 }) I.ns fun h' hn2 hs2=>?_
 obtain⟨oD,esD,epD,hoD,hdD,hcD⟩:=hn2.count (PySem.Within.cons name v hw)
 refine wpAny_bind (wpAny_lookBehind hoD (by rw[hdD];exact pastItsLine_dict (Nat.le_trans hcD (by rw[List.length_cons];omega))) ?_)
 exact wpAny_pure (h _ ⟨(hs2.2 _ (Ne.symm I.ne)).trans I.obj,hn2,I.ne⟩ hs2)
theorem make_map{R:Result→Shared→Prop}{vs:List Value}{kw:List (Str × Value)}(X:K.In s.heap)(hm:PySem.W.makesIn K C=true)
 (hi:PySem.W.findIn K (.ref C) "__init__" = some (some (.ref f))) (hf:PySem.W.typeIn K (.ref f)=some (.type "function"))
 (h:codeAny (model prog w) (A.under (.builtin "type.__call__" ⟨.ref C::vs,kw⟩)) (.call (.ref f) ⟨.ref (s.heap.objs.size+1)::vs,kw⟩) (PySem.W.InitBack (s.heap.objs.size+1) R)
   { s with heap:=(s.heap.push PySem.W.emptyDict).push (PySem.W.instObj C s.heap.objs.size) }) :
 codeAny (model prog w) A (.call (.ref C) ⟨vs,kw⟩) R s:=by
 obtain⟨hh,g,d,t,os⟩:=s
 exact PySem.W.make_core (PySem.W.makes_of X hm) (PySem.W.looks_findIn X hi) (fun self=>PySem.W.bind_fn X self hf) (.inl rfl) h
end
def zav(f:Str)(v:V):List (Str × V)→List (Str × V)
 | [] => [(f,v)]
 | (g,x)::r=>if g=f then(g,v)::r else(g,x)::zav f v r
theorem zev(f g:Str)(v:V):∀fs:List (Str × V),(zav f v fs).lookup g=if g=f then some v else fs.lookup g
 | []=>by
   show List.lookup g [(f,v)]=_
   by_cases h:g=f
   ·have hb:(g==f)=true:=beq_iff_eq.mpr h
    simp only[List.lookup,hb,if_pos h]
   ·have hb:(g==f)=false:=beq_eq_false_iff_ne.mpr h
    simp only[List.lookup,hb,if_neg h]
 | (k,x)::r=>by
   have ih:=zev f g v r
   rw[show zav f v ((k,x)::r)=(if k=f then(k,v)::r else(k,x)::zav f v r)from rfl]
   by_cases hk:k=f
   ·rw[if_pos hk]
    by_cases h:g=k
    ·have hb:(g==k)=true:=beq_iff_eq.mpr h
     simp only[List.lookup,hb,if_pos (h.trans hk)]
    ·have hb:(g==k)=false:=beq_eq_false_iff_ne.mpr h
     simp only[List.lookup,hb,if_neg (fun e:g=f=>h (e.trans hk.symm))]
   ·rw[if_neg hk]
    by_cases h:g=k
    ·have hb:(g==k)=true:=beq_iff_eq.mpr h
     simp only[List.lookup,hb,if_neg (fun e:g=f=>hk (h.symm.trans e))]
    ·have hb:(g==k)=false:=beq_eq_false_iff_ne.mpr h
     simp only[List.lookup,hb]
     exact ih
theorem zd2(f:Str)(v:V):∀fs:List (Str × V),f∈(zav f v fs).map (·.1)∧∀g,g∈fs.map (·.1)→g∈(zav f v fs).map (·.1)
 | []=>⟨by simp[zav],fun g h=>by simp at h⟩
 | (k,x)::r=>by
   obtain⟨i1,i2⟩:=zd2 f v r
   rw[show zav f v ((k,x)::r)=(if k=f then(k,v)::r else(k,x)::zav f v r)from rfl]
   by_cases hk:k=f
   ·rw[if_pos hk]
    subst hk
    exact⟨by simp,fun g h=>by simpa using h⟩
   ·rw[if_neg hk]
    refine⟨?_,fun g h=>?_⟩
    ·rw[List.map_cons]
     exact List.mem_cons_of_mem _ i1
    ·rw[List.map_cons] at h ⊢
     rcases List.mem_cons.mp h with e | e
     ·exact List.mem_cons.mpr (.inl e)
     ·exact List.mem_cons_of_mem _ (i2 g e)
theorem zeD(f:Str)(v:V):∀fs:List (Str × V),(zav f v fs).length≤fs.length+1
 | []=>by simp[zav]
 | (k,x)::r=>by
   have ih:=zeD f v r
   rw[show zav f v ((k,x)::r)=(if k=f then(k,v)::r else(k,x)::zav f v r)from rfl]
   by_cases hk:k=f
   ·rw[if_pos hk,List.length_cons,List.length_cons];omega
   ·rw[if_neg hk,List.length_cons,List.length_cons];omega
theorem zdf.some_of{v:V}{o:Option Value}(r:zdf (some v) o):∃u,o=some u∧zR v u:=by
 cases o with
 | none=>exact(show False from r).elim
 | some u=>exact⟨u,rfl,r⟩
theorem zdf.none_of{o:Option Value}(r:zdf none o):o=none:=by
 cases o with
 | none=>rfl
 | some u=>exact(show False from r).elim
theorem handed_of{v:V}{u:Value}(r:zR v u):PySem.W.handedIn u=true:=by
 cases v with
 | non=>cases (show u=Value.none from r);rfl
 | bl b=>cases (show u=Value.bool b from r);rfl
 | int i=>obtain⟨t,e⟩:=(show ∃t,u=Value.int i t from r);cases e;rfl
 | str x=>obtain⟨t,e⟩:=(show ∃t,u=Value.str x t from r);cases e;rfl
 | byt b=>obtain⟨t,e⟩:=(show ∃t,u=Value.bytes b t from r);cases e;rfl
 | flt b=>obtain⟨t,e⟩:=(show ∃t,u=Value.float b t from r);cases e;rfl
 | ref a=>cases (show u=Value.ref a from r);rfl
 | ty n=>cases (show u=Value.type n from r);rfl
section
variable {P:Program} {w:World} {H H':Hp} {h h':Heap} {a C dx:Addr} {fs fs':List (Str × V)}
theorem zhm(hok:HOk P w H h)(e:H a=some (.ins C dx fs)):∃mA,ObjM h a dx C mA∧(∀f,zdf (fs.lookup f) (mA f))∧PySem.Within mA (fs.map (·.1))∧fs.length≤1000∧H dx=some (.own a):=by
 obtain⟨d,z,ne,ob,mA,n,r,q⟩:=(show y9 P w H h a (.ins C dx fs)from hok a _ e)
 exact⟨mA,⟨ob,n,ne⟩,r,q,z,d⟩
end
structure Cls (K:PySem.W.Frag) (C:Addr):Prop where
 pg:PySem.W.plainGet K C Str.empty=true
 hd:PySem.W.hasDictIn K C=true
 po:PySem.W.plainOver K C=true
 sa:PySem.W.findIn K (.ref C) "__setattr__" = some (some (.builtin "object.__setattr__"))
theorem Cls.get{K:PySem.W.Frag}{C:Addr}(c:Cls K C)(f:Str):PySem.W.plainGet K C f=true:=c.pg
def za8(K:PySem.W.Frag)(C:Addr)(f:Str):Prop:=PySem.W.findIn K (.ref C) f=some none
theorem za8.taker{K:PySem.W.Frag}{C:Addr}{f:Str}(n:za8 K C f):PySem.W.takerIn K C f=some none:=by
 unfold PySem.W.takerIn
 rw[show PySem.W.findIn K (.ref C) f=some none from n]
 rfl
structure Meth (K:PySem.W.Frag) (C:Addr) (m:Str) (f:Addr):Prop where
 at_:PySem.W.findIn K (.ref C) m=some (some (.ref f))
 fn:PySem.W.isFn K (.ref f)=true
 kp:PySem.W.keepIn K (.ref f)=true
section
variable {X:Cx} {pins:List (Addr × Obj)} {σ:St} {H:Hp} {s:Shared} {a C dx:Addr} {fs:List (Str × V)} {f:Str} {v:V} {A:Around} {E:Value→Shared→Prop}
theorem ziO{b:Bool}{Q:Value→Shared→Prop}(I:Inv X pins σ H s)(e:H a=some (.ins C dx fs))(c:Cls X.K C)(n:za8 X.K C f)(l:fs.lookup f=some v)
 (h:∀u s',Inv X pins σ H s'→zR v u→Q u s'):wpAny (model X.prog X.w) A (getAttr (.ref a) f b) Q E s:=by
 obtain⟨mA,O,r,_,_,_⟩:=zhm I.hok e
 obtain⟨u,hu,ru⟩:=zdf.some_of (v:=v) (o:=mA f) (by rw[← l];exact r f)
 exact get_map I.kIn O (c.get f) c.hd n hu (handed_of ru) (h u _ (I.tok _) ru)
theorem zdx{m:Str}{g:Addr}{pl:Sem Bool}{Q:Value × List Value→Shared→Prop}(I:Inv X pins σ H s)(e:H a=some (.ins C dx fs))(c:Cls X.K C)(k:Meth X.K C m g)(l:fs.lookup m=none)
 (h:Q (.ref g,[.ref a]) s):wpAny (model X.prog X.w) A (getMethod (.ref a) m pl) Q E s:=by
 obtain⟨mA,O,r,_,_,_⟩:=zhm I.hok e
 have hn:mA m=none:=zdf.none_of (by rw[← l];exact r m)
 exact get_meth I.kIn O (c.get m) k.at_ k.fn hn h
theorem ziX{y:V}{u:Value}{Q:Unit→Shared→Prop}(I:Inv X pins σ H s)(e:H a=some (.ins C dx fs))(c:Cls X.K C)(n:za8 X.K C f)(hl:fs.length<1000)(ry:zR y u)
 (h:∀s',Inv X pins σ (upd H a (.ins C dx (zav f y fs))) s'→Q () s'):wpAny (model X.prog X.w) A (setAttr (.ref a) f u) Q E s:=by
 obtain⟨mA,O,r,wi,_,ho⟩:=zhm I.hok e
 have hz:(fs.map (·.1)).length≤sizeLine:=by rw[List.length_map,sizeLine_eq];omega
 refine set_map I.kIn O c.sa c.po n.taker c.hd wi hz fun h' O' sb=>h _ ?_
 have hd:∃o,h'.get? dx=some o:=let ⟨o,_,_,e',_⟩:=O'.ns;⟨o,e'⟩
 refine I.write (x:=a) (e:=dx) (by rw[e];exact True.intro) (.inr ho) (fun b q hb z=>(sb.2 b hb).trans z) hd ?_
 refine⟨by rw[zj O.ne];exact ho,?_,O.ne,O'.obj,_,O'.ns,fun g=>?_,fun g hg=>?_⟩
 ·have:=zeD f y fs;omega
 ·show zdf ((zav f y fs).lookup g) (if g=f then some u else mA g)
  rw[zev]
  by_cases q:g=f
  ·rw[if_pos q,if_pos q];exact ry
  ·rw[if_neg q,if_neg q];exact r g
 ·by_cases q:g=f
  ·rw[q];exact(zd2 f y fs).1
  ·refine(zd2 f y fs).2 g (wi g fun z=>hg ?_)
   show(if g=f then some u else mA g)=none
   rw[if_neg q];exact z
theorem Inv.made(I:Inv X pins σ H s):Inv X pins σ (upd (upd H s.heap.objs.size (.own (s.heap.objs.size+1))) (s.heap.objs.size+1) (.ins C s.heap.objs.size []))
 { s with heap:=(s.heap.push PySem.W.emptyDict).push (PySem.W.instObj C s.heap.objs.size) }:=by
 have e1:(s.heap.push PySem.W.emptyDict).get? s.heap.objs.size=some PySem.W.emptyDict:=Heap.get?_push_size s.heap rfl
 have e2:((s.heap.push PySem.W.emptyDict).push (PySem.W.instObj C s.heap.objs.size)).get? (s.heap.objs.size+1)=some (PySem.W.instObj C s.heap.objs.size):=by
  have:=Heap.get?_push_size (s.heap.push PySem.W.emptyDict) (o:=PySem.W.instObj C s.heap.objs.size) rfl
  rwa [Heap.size_push] at this
 have e3:(s.heap.push PySem.W.emptyDict).Ns s.heap.objs.size (fun _=>none):=⟨PySem.W.emptyDict,#[],_,e1,rfl,(fun e he=>absurd he (by simp)),fun _=>rfl⟩
 have I1:=I.laid (a:=s.heap.objs.size) (o:=.own (s.heap.objs.size+1)) (h':=s.heap.push PySem.W.emptyDict) (t':=s.toks) (fun b u q=>Heap.get?_push_of_some _ q) (Nat.le_refl _) ⟨_,e1⟩
 refine I1.laid (a:=s.heap.objs.size+1) (o:=.ins C s.heap.objs.size []) (t':=s.toks) (fun b u q=>Heap.get?_push_of_some _ q) (Nat.le_of_eq (Heap.size_push _ _)) ?_
 have ne:s.heap.objs.size≠s.heap.objs.size+1:=Nat.ne_of_lt (Nat.lt_succ_self _)
 refine⟨by rw[zj ne,zg],Nat.zero_le _,ne,e2,fun _=>none,(Heap.Ns1.of_empty e3).at fun o q=>Heap.get?_push_of_some _ q,fun _=>True.intro,fun y hy=>absurd rfl hy⟩
theorem attr_of{prog:Program}{w:World}{env:Env}{e:Expr}{f:Str}{pos:Pos}{s:Shared}{Q:Value→Shared→Prop}(hb:attributeBase e f env (eval e env)=eval e env)
 (h:wpAny (model prog w) A (eval e env) (fun o s₁=>wpAny (model prog w) A (getAttr o f true) Q E s₁) E s):wpAny (model prog w) A (eval (.Attribute e f pos) env) Q E s :=
 Attribute_any_ h (by rw[arm_eval_Attribute,hb])
end
def tFld(K:PySem.W.Frag)(ta:TE)(f:Str):TE:=fun σ H Q=>ta σ H fun x H1=>∃a C dx fs v,x=.ref a∧H1 a=some (.ins C dx fs)∧Cls K C∧za8 K C f∧fs.lookup f=some v∧Q v H1
def sFld(K:PySem.W.Frag)(ta tv:TE)(f:Str):TS:=fun D σ H=>tv σ H fun y H1=>ta σ H1 fun x H2=>∃a C dx fs,x=.ref a∧H2 a=some (.ins C dx fs)∧Cls K C∧za8 K C f∧fs.length<1000 ∧
 D.nx σ (upd H2 a (.ins C dx (zav f y fs)))
section
variable {X:Cx} {o e value:Expr} {f:Str} {pos pos' tpos:Pos} {ta tv:TE}
theorem yQ(he:PE X e ta)(hb:attributeBase e f X.env (eval e X.env)=eval e X.env):PE X (.Attribute e f pos) (tFld X.K ta f):=by
 intro pins s σ H Q I h
 refine attr_of hb (thn (he pins s σ H _ I h) fun u s1 ⟨x,H1,I1,rx,a,C,dx,fs,v,ex,ea,c,n,l,q⟩=>?_)
 subst ex
 obtain rfl:u=Value.ref a:=rx
 exact ziO I1 ea c n l fun u' s2 I2 ru=>⟨v,H1,I2,ru,q⟩
theorem zcs(ha:PE X o ta)(hv:PE X value tv)(hs:swapsWith value (some (.Attribute o f pos')) pos.line X.env=pure false):PS X (.Assign [.Attribute o f pos'] value pos) (sFld X.K ta tv f):=by
 intro pins s σ H D I h
 refine plainObj_wpAny_Assign_Attribute (thn (hv pins s σ H _ I h) fun u s1 ⟨y,H1,I1,ry,q⟩=>thn (ha pins s1 σ H1 _ I1 q) fun ov s2 ⟨x,H2,I2,rx,a,C,dx,fs,ex,ea,c,n,l,q2⟩=>?_) hs
 subst ex
 obtain rfl:ov=Value.ref a:=rx
 exact ziX I2 ea c n l ry fun s3 I3=>⟨σ,_,I3,q2⟩
end
section
variable {X:Cx} {pins:List (Addr × Obj)} {σ:St} {H:Hp} {s:Shared} {A:Around} {E:Value→Shared→Prop} {Q:Value→Shared→Prop} {c:Value} {b:Bool}
end
structure Room (k:Nat) (A:Around):Prop where
 hd:A.handled=none
 dp:A.depth+3*k+5<recursionLimit
 un:A.units+16*k+200<cLine
theorem Room.mono{j k:Nat}{A:Around}(r:Room k A)(h:j≤k):Room j A:=⟨r.hd,by have:=r.dp;omega,by have:=r.un;omega⟩
theorem Room.deeper{k:Nat}{A:Around}(r:Room (k+1) A)(env:Env):Room k (A.deeper env) :=
 ⟨r.hd,by have:=r.dp;show A.depth+1+3*k+5<_;omega,by have:=r.un;show A.units+3+16*k+200<_;omega⟩
theorem Room.in1{k:Nat}{A:Around}(r:Room (k+1) A):Room k A.in1 :=
 ⟨r.hd,by have:=r.dp;show A.depth+3*k+5<_;omega,by have:=r.un;show A.units+1+16*k+200<_;omega⟩
theorem ziT{A:Around}{C:Addr}{us:List Value}{kw:List (Str × Value)}:(A.under (.builtin "type.__call__" ⟨.ref C::us,kw⟩)).depth=A.depth+1:=by
 first | rfl | simp[Around.under,Code.weight,Code.isCreation,Code.isGuard,Code.isCaller,Code.frames,Code.isFrame,guardIds]
theorem ziU{A:Around}{C:Addr}{us:List Value}{kw:List (Str × Value)}:(A.under (.builtin "type.__call__" ⟨.ref C::us,kw⟩)).units=A.units+1:=by
 first | rfl | simp[Around.under,Code.cUnits,Code.frames,Code.isFrame]
theorem Room.make{k:Nat}{A:Around}(r:Room (k+1) A)(C:Addr)(us:List Value)(kw:List (Str × Value)):Room k (A.under (.builtin "type.__call__" ⟨.ref C::us,kw⟩)) :=
 ⟨r.hd,by have:=r.dp;rw[ziT];omega,by have:=r.un;rw[ziU];omega⟩
theorem Room.depth{k:Nat}{A:Around}(r:Room k A):A.depth<recursionLimit:=by have:=r.dp;omega
theorem Room.units{k:Nat}{A:Around}(r:Room k A):A.units+64<cLine:=by have:=r.un;omega
theorem Room.units0{k:Nat}{A:Around}(r:Room k A):A.units<cLine:=by have:=r.un;omega
def tNil:TA:=fun _ H Q=>Q [] H
def tCons(ta:TE)(tr:TA):TA:=fun σ H Q=>ta σ H fun x H1=>tr σ H1 fun xs H2=>Q (x::xs) H2
section
variable {X:Cx} {e:Expr} {es:List Expr} {te:TE} {t:TA} {pos:Pos}
theorem zc:PA X [] tNil:=fun _ _ _ _ H Q I h=>Calls.spliced_nil ⟨[],H,I,.nil,h⟩
theorem za(ha:PE X e te)(hr:PA X es t)(hs:starEach (e::es) X.env=(false,eval e X.env)::starEach es X.env:=by rfl):PA X (e::es) (tCons te t):=by
 intro pos pins s σ H Q I h
 rw[hs]
 show wpAny _ _ (spliced ((false,eval e X.env)::backTo pos (starEach es X.env))) _ _ s
 refine Calls.spliced_cons (thn (ha pins s σ H _ I h) fun u s1 ⟨x,H1,I1,r1,q1⟩=>?_)
 exact thn (hr pos pins s1 σ H1 _ I1 q1) fun us s2 ⟨xs,H2,I2,r2,q2⟩=>⟨x::xs,H2,I2,.cons r1 r2,q2⟩
def tTup(t:TA):TE:=fun σ H Q=>t σ H fun xs H1=>xs.length≤sizeLine∧∀p,H1 p=none→Q (.ref p) (upd H1 p (.tup xs))
def tLst(t:TA):TE:=fun σ H Q=>t σ H fun xs H1=>xs.length≤sizeLine∧∀p,H1 p=none→Q (.ref p) (upd H1 p (.lst xs))
theorem zek{x1}(h:PA X es t):PE X (.Tuple es x1 pos) (tTup t):=by
 intro pins s σ H Q I hq
 refine wpAny_Tuple_spliced (thn (h pos pins s σ H _ I hq) fun us s1 ⟨xs,H1,I1,r,z,q⟩=>⟨by rw[← r.length];exact z,?_⟩)
 have hf:H1 s1.heap.objs.size=none:=I1.hok.fresh (Nat.le_refl _)
 refine⟨.ref s1.heap.objs.size,upd H1 s1.heap.objs.size (.tup xs),I1.laid (t':=s1.toks) (fun b u e=>Heap.get?_push_of_some _ e) (Nat.le_refl _) ?_,rfl,q _ hf⟩
 exact⟨z,us,r,⟨_,Heap.get?_push_size _ rfl,rfl,_,rfl⟩⟩
theorem yi(h:PA X es t):PE X (.List es pos) (tLst t):=by
 intro pins s σ H Q I hq
 refine wpAny_List_spliced (thn (h pos pins s σ H _ I hq) fun us s1 ⟨xs,H1,I1,r,z,q⟩=>⟨by rw[← r.length];exact z,?_⟩)
 have hf:H1 s1.heap.objs.size=none:=I1.hok.fresh (Nat.le_refl _)
 refine⟨.ref s1.heap.objs.size,upd H1 s1.heap.objs.size (.lst xs),I1.laid (t':=s1.toks) (fun b u e=>Heap.get?_push_of_some _ e) (Nat.le_refl _) ?_,rfl,q _ hf⟩
 exact⟨z,us,0,r,Heap.get?_push_size _ rfl⟩
end
abbrev Sp:=List V→Hp→VK→XK→Prop
abbrev CXT:=List Env→Hp→Shared→XK→Value→Shared→Prop
structure Env0 (P:Program) (w:World) (K:PySem.W.Frag) (mg:Str→Option Value) (base:Heap) (A:Around) (outer:List Env) (s:Shared) (H:Hp):Prop where
 frames:A.frames=some outer
 mod:Mod K mg base
 bs:∀b o,base.get? b=some o→s.heap.get? b=some o∧H b=none
 bsz:base.objs.size≤s.heap.objs.size
 funs:s.heap.FunFrames base outer
 frf:∀b∈frs outer,H b=none
 hok:HOk P w H s.heap
 bare:AllBare s.gens
def CE(outer:List Env)(P:Program)(w:World)(H:Hp)(s:Shared)(Q:VK)(u:Value)(s':Shared):Prop :=
 ∃v H',s'.os=s.os∧AllBare s'.gens∧Un (frs outer) [] H H' s.heap s'.heap∧HOk P w H' s'.heap∧zR v u∧Q v H'
def CR(CX:CXT)(outer:List Env)(P:Program)(w:World)(H:Hp)(s:Shared)(Q:VK)(E:XK)(r:Result)(s':Shared):Prop :=
 match r with
 | .ok (.ret u)=>CE outer P w H s Q u s'
 | .ok _=>False
 | .error e=>CX outer H s E e s'
structure FnOk (P:Program) (w:World) (K:PySem.W.Frag) (mg:Str→Option Value) (base:Heap) (CX:CXT) (k:Nat) (f:Addr) (fd:FuncData) (ps:List Str) (sp:Sp):Prop where
 len:∀vs H Q E,sp vs H Q E→vs.length=ps.length
 run:∀(A:Around) (outer:List Env) (s:Shared) (H:Hp) (args:Args) (us:List Value) (vs:List V) (Q:VK) (E:XK),Room k A→Env0 P w K mg base A outer s H→BindsTo s fd args (ps.zip us)→zG vs us→sp vs H Q E →
  codeAny (model P w) A (.call (.ref f) args) (CR CX outer P w H s Q E) s
theorem Env0.make{P:Program}{w:World}{K:PySem.W.Frag}{mg:Str→Option Value}{base:Heap}{A:Around}{outer:List Env}{s:Shared}{H:Hp}(e:Env0 P w K mg base A outer s H)(C:Addr)(us:List Value)(kw:List (Str × Value)):
 Env0 P w K mg base (A.under (.builtin "type.__call__" ⟨.ref C::us,kw⟩)) outer s H:=⟨by first | exact e.frames | (simpa [Around.under,Code.envs,Code.isFrame,pushEnvs] using e.frames),e.mod,e.bs,e.bsz,e.funs,e.frf,e.hok,e.bare⟩
theorem Env0.in1{P:Program}{w:World}{K:PySem.W.Frag}{mg:Str→Option Value}{base:Heap}{A:Around}{outer:List Env}{s:Shared}{H:Hp}(e:Env0 P w K mg base A outer s H):
 Env0 P w K mg base A.in1 outer s H:=⟨e.frames,e.mod,e.bs,e.bsz,e.funs,e.frf,e.hok,e.bare⟩
section
variable {X:Cx} {pins:List (Addr × Obj)} {σ:St} {H:Hp} {s s':Shared}
theorem Inv.env0(I:Inv X pins σ H s):Env0 X.prog X.w X.K X.mg X.base X.A X.stack s H :=
 ⟨I.ok.frames,I.ok.mod,I.bs,Nat.le_trans I.ok.bsz I.sz,I.stack,I.stkFree,I.hok,I.bare⟩
theorem Inv.after{Q:VK}{u:Value}(I:Inv X pins σ H s)(h:CE X.stack X.prog X.w H s Q u s'):EP X pins σ Q u s':=by
 obtain⟨v,H',os,bare,un,hok,r,q⟩:=h
 obtain⟨hh,g,d,t,os'⟩:=s'
 obtain rfl:os'=s.os:=os
 exact⟨v,H',I.call (h':=hh) (g':=g) (d':=d) (t':=t) (ch := []) un hok bare (fun b z=>absurd z (by simp)),r,q⟩
end
def tCall(sp:Sp)(dvs:List V)(E:XK)(t:TA):TE:=fun σ H Q=>t σ H fun vs H1=>sp (vs++dvs) H1 Q E
def tMeth(C:Addr)(m:Str)(sp:Sp)(dvs:List V)(E:XK)(ta:TE)(t:TA):TE:=fun σ H Q=>ta σ H fun x H1=>∃a dx fs,x=.ref a∧H1 a=some (.ins C dx fs)∧fs.lookup m=none ∧
 t σ H1 fun vs H2=>sp (x::(vs++dvs)) H2 Q E
def zaD(K:PySem.W.Frag)(fd:FuncData)(ps:List Str)(ds:List Value):Prop :=
 ∀(s:Shared) (us:List Value),K.In s.heap→(us++ds).length=ps.length→BindsTo s fd ⟨us,[]⟩ (ps.zip (us++ds))
theorem zaD.all{K:PySem.W.Frag}{fd:FuncData}{ps:List Str}(h:∀us:List Value,us.length=ps.length→bindArgs fd ⟨us,[]⟩=pure (ps.zip us)):zaD K fd ps []:=fun s us _ hl=>by
 rw[List.append_nil] at hl ⊢
 exact .of_eq (h us hl)
def zg7(CX:CXT)(X:Cx)(E:XK):Prop:=∀(pins:List (Addr × Obj)) (σ:St) (H:Hp) (s:Shared) (e:Value) (s':Shared),Inv X pins σ H s→CX X.stack H s E e s'→X.xe e s'
section
variable {X:Cx} {CX:CXT} {k:Nat} {f C:Addr} {fd:FuncData} {ps:List Str} {sp:Sp} {dvs:List V} {ds:List Value} {E:XK} {x m:Str} {p pos apos:Pos} {e o:Expr} {es:List Expr} {ta:TE} {t:TA}
theorem run_fn{pins:List (Addr × Obj)}{σ:St}{H:Hp}{s:Shared}{Q:VK}{us:List Value}{vs:List V}(F:FnOk X.prog X.w X.K X.mg X.base CX k f fd ps sp)(hr:Room k X.A)(hb:zaD X.K fd ps ds)(hd:zG dvs ds)(hx:zg7 CX X E)
 (I:Inv X pins σ H s) (r:zG vs us) (h:sp (vs++dvs) H Q E):wpAny (model X.prog X.w) X.A (call (.ref f) us) (EP X pins σ Q) X.xe s:=by
 have r2:zG (vs++dvs) (us++ds):=r.append hd
 have hl:(us++ds).length=ps.length:=by rw[← r2.length];exact F.len _ _ _ _ h
 refine wpAny_call (codeAny_mono (F.run X.A X.stack s H ⟨us,[]⟩ (us++ds) (vs++dvs) Q E hr I.env0 (hb s us I.kIn hl) r2 h) fun r s' hq=>?_)
 cases r with
 | error e=>exact hx pins σ H s e s' I hq
 | ok fl =>
   cases fl with
   | ret u=>exact I.after hq
   | next=>exact False.elim hq
   | brk=>exact False.elim hq
   | cont=>exact False.elim hq
theorem pe_call(F:FnOk X.prog X.w X.K X.mg X.base CX k f fd ps sp)(hr:Room k X.A)(hg:Gl X x)(hm:X.mg x=some (.ref f))(hk:PySem.W.keepIn X.K (.ref f)=true)(hb:zaD X.K fd ps ds)(hd:zG dvs ds)(hx:zg7 CX X E)
 (ha:PA X (e::es) t) (hdb:(x==("__debug__" : Str))=false:=by decide) (he:starEach (e::es) X.env=(false,eval e X.env)::starEach es X.env:=by rfl) (hpl:(backTo pos (starEach es X.env)).any (·.1)=false:=by rfl) :
 PE X (.Call (.Name x p) (e::es) [] pos) (tCall sp dvs E t):=by
 intro pins s σ H Q I h
 refine wpAny_Call_Name_kw (zda I hg hm ?_ hdb)
 refine PySem.W.callWith_K (h₀:=X.base) I.ok.mod.kin hk (thn (ha pos pins s σ H _ I h) fun us s1 ⟨vs,H1,I1,r,q⟩=>⟨I1.kIn,?_⟩) he hpl
 exact run_fn F hr hb hd hx I1 r q
theorem pe_meth0{pl:Sem Bool}(he:PE X o ta)(c:Cls X.K C)(hm:Meth X.K C m f)(F:FnOk X.prog X.w X.K X.mg X.base CX k f fd ps sp)(hr:Room k X.A)(hb:zaD X.K fd ps ds)(hd:zG dvs ds)(hx:zg7 CX X E)
 (ht:eval (.Call (.Attribute o m apos) [] [] pos) X.env=(do
   let ov ← eval o X.env
   standAt apos.atName
   let (f,first) ← holding [ov] (getMethod ov m pl)
   callWith pos f first (backTo pos (starEach [] X.env)) (backToKw pos (keywordEach [] X.env))):=by rfl) :
 PE X (.Call (.Attribute o m apos) [] [] pos) (tMeth C m sp dvs E ta tNil):=by
 intro pins s σ H Q I h
 refine PySem.W.methodCall_KW (pl:=pl) (thn (he pins s σ H _ I h) fun u s1 ⟨x,H1,I1,rx,a,dx,fs,ex,ea,l,q⟩=>?_) ht
 subst ex
 obtain rfl:u=Value.ref a:=rx
 refine zdx I1 ea c hm l ?_
 exact PySem.W.callWith_K0 (first := [.ref a]) I1.kIn hm.kp (run_fn (us := [.ref a]) (vs := [.ref a]) F hr hb hd hx I1 (.cons rfl .nil) q)
structure Mk (K:PySem.W.Frag) (C f:Addr):Prop where
 makes:PySem.W.makesIn K C=true
 init:PySem.W.findIn K (.ref C) "__init__" = some (some (.ref f))
 fn:PySem.W.isFn K (.ref f)=true
 kp:PySem.W.keepIn K (.ref C)=true
end
section
variable {X:Cx} {CX:CXT} {k:Nat} {f C:Addr} {fd:FuncData} {ps ks:List Str} {sp:Sp} {E:XK} {x m:Str} {p pos apos kpos:Pos} {e o:Expr} {es:List Expr} {kws:List Keyword} {te ta:TE} {t tk:TA} {nm:Option Str}
variable {g:List Value→List Value→List Value} {gV:List V→List V→List V}
end
structure FnScope (N P:List Str) (sc:Scope):Prop where
 kind:sc.kind=.function
 co:sc.isCoroutine=false
 gen:sc.isGenerator=false
 nd:N.Nodup
 pre:N.take P.length=P
 par:∀x∈P,sc.names.lookup x=some .local∨sc.names.lookup x=some .cell
 nofree:∀y∈sc.names,y.2 ≠ .free
theorem zgJ{kindOf:Str→Option NameKind}{x:Str}:∀{binds:List (Str × Value)} {m:Str→Option Value},(∀v,(x,v)∉binds)→bindL kindOf binds m x=m x
 | [],_,_=>rfl
 | (n,v)::r,m,h=>by
   unfold bindL
   rw[zgJ fun w hw=>h w (List.mem_cons_of_mem _ hw)]
   split
   ·have:x≠n:=by rintro rfl;exact h v List.mem_cons_self
    simp[this]
   ·rfl
theorem zgC{kindOf:Str→Option NameKind}{x:Str}:∀{binds:List (Str × Value)} {m:Str→Option Value},(∀v,(x,v)∉binds)→bindC kindOf binds m x=m x
 | [],_,_=>rfl
 | (n,v)::r,m,h=>by
   unfold bindC
   rw[zgC fun w hw=>h w (List.mem_cons_of_mem _ hw)]
   split
   ·rfl
   ·have:x≠n:=by rintro rfl;exact h v List.mem_cons_self
    simp[this]
theorem zgF{kindOf:Str→Option NameKind}{x:Str}{v:Value}:∀{P:List Str} {vs:List Value} {i:Nat} {m:Str→Option Value},P.Nodup→P[i]? = some x→vs[i]? = some v→kindOf x=some .local →
 bindL kindOf (P.zip vs) m x=some v
 | [],_,_,_,_,h,_,_=>by simp at h
 | _::_,[],_,_,_,_,h,_=>by simp at h
 | p::P,w::vs,0,m,nd,h1,h2,hk=>by
   simp at h1 h2;subst h1;subst h2
   show bindL kindOf ((p,w)::P.zip vs) m p=_
   unfold bindL
   rw[zgJ fun v hv=>(List.nodup_cons.mp nd).1 (List.of_mem_zip hv).1,if_pos hk]
   simp
 | p::P,w::vs,i+1,m,nd,h1,h2,hk=>by
   show bindL kindOf ((p,w)::P.zip vs) m x=_
   unfold bindL
   exact zgF (i:=i) (List.nodup_cons.mp nd).2 (by simpa using h1) (by simpa using h2) hk
theorem zgw{kindOf:Str→Option NameKind}{x:Str}{v:Value}:∀{P:List Str} {vs:List Value} {i:Nat} {m:Str→Option Value},P.Nodup→P[i]? = some x→vs[i]? = some v→kindOf x≠some .local →
 bindC kindOf (P.zip vs) m x=some v
 | [],_,_,_,_,h,_,_=>by simp at h
 | _::_,[],_,_,_,_,h,_=>by simp at h
 | p::P,w::vs,0,m,nd,h1,h2,hk=>by
   simp at h1 h2;subst h1;subst h2
   show bindC kindOf ((p,w)::P.zip vs) m p=_
   unfold bindC
   rw[zgC fun v hv=>(List.nodup_cons.mp nd).1 (List.of_mem_zip hv).1,if_neg hk]
   simp
 | p::P,w::vs,i+1,m,nd,h1,h2,hk=>by
   show bindC kindOf ((p,w)::P.zip vs) m x=_
   unfold bindC
   exact zgw (i:=i) (List.nodup_cons.mp nd).2 (by simpa using h1) (by simpa using h2) hk
def zbe(N:List Str)(vs:List V):St:=vs.map some++List.replicate (N.length - vs.length) none
def zbC(CX:CXT)(P:Program)(w:World)(K:PySem.W.Frag)(mg:Str→Option Value)(base:Heap)(N:List Str)(qual:Str)(scope:Scope)(f:Addr)(cd:Value)(A:Around)(outer:List Env)(s:Shared)(H:Hp)(E:XK):Cx where
 prog:=P
 w:=w
 K:=K
 mg:=mg
 base:=base
 A:=A.deeper (envOfC qual scope s.heap.objs.size f cd)
 N:=N
 s₀:=s
 H₀:=H
 env:=envOfC qual scope s.heap.objs.size f cd
 outer:=outer
 stack:=envOfC qual scope s.heap.objs.size f cd::outer
 ex := []
 calm:=true
 fn:=fun _=>true
 pn := []
 xe:=fun e s'=>wpAny (model P w) (A.deeper (envOfC qual scope s.heap.objs.size f cd)) (leaving (envOfC qual scope s.heap.objs.size f cd) e) (fun _ s''=>CX outer H s E e s'') (fun e' s''=>CX outer H s E e' s'') s'
theorem zit{sc:Scope}{n:Nat}{x:Str}(h:sc.names.lookup x=some .cell):∃c,(cellsFrom n sc.names []).lookup x=some c:=by
 have q:=PySem.W.cellsFrom_some sc.names n [] (.inl h)
 exact Option.isSome_iff_exists.mp q
theorem zgz{CX:CXT}{P:Program}{w:World}{K:PySem.W.Frag}{mg:Str→Option Value}{base:Heap}{N ps:List Str}{qual:Str}{scope:Scope}{f:Addr}{cd:Value}{A:Around}{outer:List Env}{s s1:Shared}{H:Hp}{E:XK}{us:List Value}{vs:List V}
 (S:FnScope N ps scope) (hd:A.handled=none) (e0:Env0 P w K mg base A outer s H) (hl:vs.length=ps.length) (r:zG vs us)
 (x:InCallC s s.heap.objs.size (bindL (envOfC qual scope s.heap.objs.size f cd).kindOf (ps.zip us) fun _=>none) (cellsFrom (s.heap.objs.size+1) scope.names []) (bindC (envOfC qual scope s.heap.objs.size f cd).kindOf (ps.zip us) fun _=>none) s1) :
 Inv (zbC CX P w K mg base N qual scope f cd A outer s H E) [] (zbe N vs) H s1:=by
 have hpl:ps.length≤N.length:=by have:=congrArg List.length S.pre;rw[List.length_take] at this;omega
 obtain⟨h1,tk,rfl,hk⟩:=x.done
 have noA:∀b:Addr,b∉(zbC CX P w K mg base N qual scope f cd A outer s H E).ex:=fun b z=>absurd (show b∈([]:List Addr)from z) (by simp)
 refine⟨⟨e0.mod,S.kind,rfl,rfl,Nat.le_refl _,fun y z c h1 h2=>?_,fun y hy=>?_,fun y c _ h=>?_,fun _=>hd,Around.frames_deeper e0.frames,.inr ⟨rfl,rfl⟩,fun b z=>absurd z (noA b),e0.bs,e0.bsz,fun b _ _=>noA b,fun b z=>absurd z (noA b),e0.funs,e0.frf⟩,
  rfl,e0.bare,Un.kept hk,⟨_,x.toInCall.ns,fun i y v h1 h2 h3=>?_⟩,fun y c h=>⟨_,x.cell y c h⟩,e0.hok.fresh (Nat.le_refl _),fun y c h=>?_,fun p hp=>absurd (show p∈([]:List (Addr × Obj))from hp) (by simp),e0.hok.kept hk,?_⟩
 ·exact name_of_addr x.apart (PySem.mem_of_lookup h1) (PySem.mem_of_lookup h2)
 ·have hy:scope.names.lookup y=some .cell∨scope.names.lookup y=some .free:=hy
  rcases hy with hy | hy
  ·exact zit hy
  ·exact absurd rfl (S.nofree _ (PySem.mem_of_lookup hy))
 ·exact Nat.le_of_lt (x.above y c (PySem.mem_of_lookup h))
 ·have hi:i<vs.length:=by
   unfold zbe at h2
   by_cases hi:i<vs.length
   ·exact hi
   ·rw[List.getElem?_append_right (by simpa using hi)] at h2
    rw[List.getElem?_replicate] at h2
    split at h2 <;> cases h2
  have ha:vs[i]? = some v:=by
   unfold zbe at h2
   rw[List.getElem?_append_left (by simpa using hi),List.getElem?_map] at h2
   cases e:vs[i]? with
   | none=>rw[e] at h2;cases h2
   | some a=>rw[e] at h2;cases h2;rfl
  obtain⟨u,hu,rv⟩:=r.get ha
  have hp:ps[i]? = some y:=by
   rw[← S.pre,List.getElem?_take_of_lt (by omega)];exact h1
  have ndP:ps.Nodup:=by rw[← S.pre];exact S.nd.sublist (List.take_sublist _ _)
  refine⟨u,rv,?_⟩
  rcases S.par y (List.mem_of_getElem? hp)with k | k
  ·exact .inl ⟨k,zgF ndP hp hu k⟩
  ·obtain⟨c,e⟩:=zit (n:=s.heap.objs.size+1) k
   refine .inr ⟨.inl k,c,e,?_⟩
   have q:=x.cell y c e
   rw[zgw ndP hp hu (by show scope.names.lookup y≠_;rw[k];decide)] at q
   exact q
 ·exact e0.hok.fresh (Nat.le_of_lt (x.above y c (PySem.mem_of_lookup h)))
 ·unfold zbe
  show _=N.length
  rw[List.length_append,List.length_map,List.length_replicate]
  omega
theorem fn_of{CX:CXT}{P:Program}{w:World}{K:PySem.W.Frag}{mg:Str→Option Value}{base:Heap}{k:Nat}{f:Addr}{name qual:Str}{params:Arguments}{body:List Stmt}{scope:Scope}{dV kV doc pm cdv ct oc:Value}{an od:Option Addr}
 {osl:Array (Option Value)} {N ps:List Str} {sp:Sp} (lk:K.lookup f=some ⟨oc,od,.func (PySem.W.fnOf name qual params body scope dV kV doc pm an cdv ct),osl⟩) (hcd:PySem.W.codeIn K cdv qual=true) (S:FnScope N ps scope)
 (len:∀vs H Q E,sp vs H Q E→vs.length=ps.length)
 (hbody:∀(A:Around) (outer:List Env) (s:Shared) (H:Hp) (vs:List V) (Q:VK) (E:XK),Room k (A.deeper (envOfC qual scope s.heap.objs.size f cdv))→sp vs H Q E →
   ∃t,PSs (zbC CX P w K mg base N qual scope f cdv A outer s H E) body t∧t { nx:=fun _ H'=>Q .non H',rt:=Q } (zbe N vs) H) :
 FnOk P w K mg base CX (k+1) f (PySem.W.fnOf name qual params body scope dV kV doc pm an cdv ct) ps sp:=by
 refine⟨len,fun A outer s H args us vs Q E hr e0 hb r hsp=>?_⟩
 have hl:=len _ _ _ _ hsp
 have KX:K.In s.heap:=e0.mod.kin.keeps fun b o e=>(e0.bs b o e).1
 have lim:s.heap.NoLimit:=e0.mod.nolimit.keeps fun b o e=>(e0.bs b o e).1
 have hkind:∀y∈ps.zip us,scope.names.lookup y.1=some .local∨(scope.names.lookup y.1=some .cell∧((cellsFrom (s.heap.objs.size+1) scope.names []).lookup y.1).isSome=true):=fun⟨n,v⟩ hy=>by
  rcases S.par n (List.of_mem_zip hy).1 with q | q
  ·exact .inl q
  ·exact .inr ⟨q,PySem.W.cellsFrom_some _ _ _ (.inl q)⟩
 refine codeAny_call_function hr.depth (KX _ _ lk) rfl S.co S.gen rfl (PySem.W.codeRec_of KX hcd) (hb _ _ _ _ ?_)
 refine wpAny_newFunctionEnv_cells S.kind hkind fun env he s1 x=>?_
 subst he
 refine⟨lim.keeps x.toInCall.keep,codeAny_func ?_⟩
 obtain⟨t,ht,hq⟩:=hbody A outer s H vs Q E (hr.deeper _) hsp
 have I:Inv (zbC CX P w K mg base N qual scope f cdv A outer s H E) [] (zbe N vs) H s1:=zgz S hr.hd e0 hl r x
 refine wpAny_mono (ht [] s1 (zbe N vs) H _ I hq) (fun fl s' hs=>?_) fun e s' hs=>hs
 have fin:∀{σ':St} {H':Hp} {v:V} {u:Value},Inv (zbC CX P w K mg base N qual scope f cdv A outer s H E) [] σ' H' s'→zR v u→Q v H'→CE outer P w H s Q u s' :=
  fun {σ' H' v u} J rv q=>⟨v,H',J.os,J.bare,J.base,J.hok,rv,q⟩
 cases fl with
 | ret u =>
   obtain⟨v,σ',H',J,rv,q⟩:=hs
   exact fin J rv q
 | next =>
   obtain⟨σ',H',J,q⟩:=hs
   exact fin (v:=V.non) (u:=Value.none) J rfl q
 | brk =>
   obtain⟨_,_,_,q⟩:=hs
   exact False.elim q
 | cont =>
   obtain⟨_,_,_,q⟩:=hs
   exact False.elim q
section
variable {X:Cx} {x:Str} {p pos:Pos} {e:Expr} {es:List Expr} {t:TA} {id T:String} {r:List V→Hp→VK→Prop}
def tCB(r:List V→Hp→VK→Prop)(t:TA):TE:=fun σ H Q=>t σ H fun vs H1=>r vs H1 Q
theorem zr(hc:zas X (.builtin id) r)(hg:Gl X x)(hm:X.mg x=none)(hv:bootBuiltins x=some (.builtin id))(ha:PA X (e::es) t)(hn:x ≠ "__name__" := by decide)(hdb:(x==("__debug__" : Str))=false:=by decide)
 (he:starEach (e::es) X.env=(false,eval e X.env)::starEach es X.env:=by rfl) (hpl:(backTo pos (starEach es X.env)).any (·.1)=false:=by rfl):PE X (.Call (.Name x p) (e::es) [] pos) (tCB r t):=by
 intro pins s σ H Q I h
 refine wpAny_Call_Name_kw (za9 I hg hm hv ?_ hn hdb)
 exact PyProof.Rows.callWith_builtin1 (thn (ha pos pins s σ H _ I h) fun us s1 ⟨vs,H1,I1,r1,q1⟩=>hc pins s1 σ H1 vs us Q I1 r1 q1) he hpl
theorem zP(hc:zas X (.type T) r)(hg:Gl X x)(hm:X.mg x=none)(hv:bootBuiltins x=some (.type T))(ha:PA X (e::es) t)(hn:x ≠ "__name__" := by decide)(hdb:(x==("__debug__" : Str))=false:=by decide)
 (he:starEach (e::es) X.env=(false,eval e X.env)::starEach es X.env:=by rfl) (hpl:(backTo pos (starEach es X.env)).any (·.1)=false:=by rfl):PE X (.Call (.Name x p) (e::es) [] pos) (tCB r t):=by
 intro pins s σ H Q I h
 refine wpAny_Call_Name_kw (za9 I hg hm hv ?_ hn hdb)
 exact PyProof.Rows.callWith_type1 (thn (ha pos pins s σ H _ I h) fun us s1 ⟨vs,H1,I1,r1,q1⟩=>hc pins s1 σ H1 vs us Q I1 r1 q1) he hpl
end
end L2
namespace HT
open PySem PyProof.Rows
def lexLt:List Int→List Int→Bool
 | [],[]=>false
 | [],_::_=>true
 | _::_,[]=>false
 | x::xs,y::ys=>if x=y then lexLt xs ys else decide (x<y)
section
open PySem.SeqAt
open PySem.AutoSeq1 (wpAny_loadPart')
open PySem.MeetsSeq PySem.MeetsSeq2 PySem.MeetsSeq3
end
section
variable {prog:Program} {w:World} {A:Around} {E:Value→Shared→Prop} {s:Shared}
def sIx(n d:Nat):Option Int→Nat
 | none=>d
 | some v=>if v<0 then(v+(n:Int)).toNat else min v.toNat n
theorem sIx_none(n d:Nat):sIx n d none=d:=rfl
theorem sIx_nat(n d k:Nat):sIx n d (some (k:Int))=min k n:=by
 show(if(k:Int)<0 then((k:Int)+(n:Int)).toNat else min (k:Int).toNat n)=min k n
 rw[if_neg (by omega),Int.toNat_natCast]
end
end HT
namespace L2
open PySem PySem.Spec PyProof.Rows
abbrev TO:=St→Hp→(Option Int→Hp→Prop)→Prop
def PO(X:Cx)(e:Option Expr)(t:TO):Prop :=
 ∀(pins:List (Addr × Obj)) (s:Shared) (σ:St) (H:Hp) (Q:Option Int→Hp→Prop),Inv X pins σ H s→t σ H Q →
  wpAny (model X.prog X.w) X.A (evalPart e X.env) (fun u s'=>∃o H',Inv X pins σ H' s'∧IsPart u o∧Q o H') X.xe s
def tNoPart:TO:=fun _ H Q=>Q none H
def tPart(t:TE):TO:=fun σ H Q=>t σ H fun x H1=>∃i,x=.int i∧Q (some i) H1
theorem zcp{ns:List Int}:∀{us:List Value},zG (ns.map V.int) us→IntsAre us ns:=by
 induction ns with
 | nil=>intro us r;rw[List.map_nil] at r;cases r;exact .nil
 | cons n ns ih =>
   intro us r
   rw[List.map_cons] at r
   cases r with
   | cons r1 r2 =>
     obtain⟨t,e⟩:=r1
     subst e
     exact .cons n t (ih r2)
section
variable {X:Cx} {e:Expr} {te:TE} {lo hi:Option Expr} {tl th:TO} {pos p2:Pos}
theorem zaw:PO X none tNoPart:=by
 intro pins s σ H Q I h
 rw[evalPart_none]
 exact wpAny_pure ⟨none,H,I,.none,h⟩
theorem wS(h:PE X e te):PO X (some e) (tPart te):=by
 intro pins s σ H Q I hw
 rw[evalPart_some]
 refine thn (h pins s σ H _ I hw) fun u s1 ⟨x,H1,I1,r1,q1⟩=>?_
 obtain⟨i,rfl,q⟩:=q1
 obtain⟨t,rfl⟩:=r1
 exact⟨some i,H1,I1,.int i t,q⟩
def SlR(X:Cx)(r:V→Option Int→Option Int→Hp→VK→Prop):Prop :=
 ∀(pins:List (Addr × Obj)) (s:Shared) (σ:St) (H:Hp) (x:V) (v vl vu:Value) (lo hi:Option Int) (sl:Addr) (Q:VK),Inv X pins σ H s→zR x v→s.heap.IsSliceOf sl vl vu .none→IsPart vl lo→IsPart vu hi→r x lo hi H Q →
  ∃T id,typeLookup (.type T) "__getitem__" = pure (some (.builtin id))∧s.TypeIs v T∧wpAny (model X.prog X.w) X.A (getItem v (.ref sl)) (EP X pins σ Q) X.xe s
def tSl(r:V→Option Int→Option Int→Hp→VK→Prop)(te:TE)(tl th:TO):TE:=fun σ H Q=>te σ H fun x H1=>tl σ H1 fun l H2=>th σ H2 fun u H3=>r x l u H3 Q
theorem wj{r:V→Option Int→Option Int→Hp→VK→Prop}(hr:SlR X r)(he:PE X e te)(hl:PO X lo tl)(hu:PO X hi th):PE X (.Subscript e (.Slice lo hi none p2) pos) (tSl r te tl th):=by
 intro pins s σ H Q I h
 refine Subscript_ (thn (he pins s σ H _ I h) fun v s1 ⟨x,H1,I1,r1,q1⟩=>?_)
 refine wpAny_Slice (thn (hl pins s1 σ H1 _ I1 q1) fun vl s2 ⟨l,H2,I2,pl,q2⟩=>thn (hu pins s2 σ H2 _ I2 q2) fun vu s3 ⟨u,H3,I3,pu,q3⟩=>?_)
 rw[evalPart_none]
 refine wpAny_pure ?_
 have I4:Inv X pins σ H3 { s3 with heap:=s3.heap.push { cls:=.type "slice",data:=.fields #[vl,vu,.none] } }:=I3.kept (t':=s3.toks) fun b ob q=>Heap.get?_push_of_some _ q
 obtain⟨T,id,hT,ht,hg⟩:=hr pins { s3 with heap:=s3.heap.push { cls:=.type "slice",data:=.fields #[vl,vu,.none] } } σ H3 x v vl vu l u s3.heap.objs.size Q I4 r1 (Heap.IsSliceOf.new ..) pl pu q3
 show wpAny (model X.prog X.w) X.A (subscriptTail e (.Slice lo hi none p2) v (.ref s3.heap.objs.size)) (EP X pins σ Q) X.xe { s3 with heap:=s3.heap.push { cls:=.type "slice",data:=.fields #[vl,vu,.none] } }
 exact tail_any (ops := [.ref s3.heap.objs.size,v]) ht hT hg (by with_unfolding_all rfl)
def zeq(xs:List V)(lo hi:Option Int):List V:=(xs.drop (HT.sIx xs.length 0 lo)).take (HT.sIx xs.length xs.length hi - HT.sIx xs.length 0 lo)
theorem zhr(xs:List V)(lo hi:Option Int):(zeq xs lo hi).length≤xs.length:=by
 unfold zeq
 rw[List.length_take,List.length_drop]
 omega
end
def ixN(n:Nat)(i:Int):Option Nat:=if 0≤i then(if i<n then some i.toNat else none)else if -(n:Int)≤i then some (i+n).toNat else none
def atI{α:Type}(xs:List α)(i:Int):Option α:=(ixN xs.length i).bind fun j=>xs[j]?
theorem ixN_seq{n:Nat}{i:Int}{j:Nat}(h:ixN n i=some j):seqIndex? i n=some j∧j<n ∧ -(n:Int)≤i∧i<n:=by
 unfold ixN at h
 by_cases h0:0≤i
 ·rw[if_pos h0] at h
  by_cases h1:i<n
  ·rw[if_pos h1] at h
   have e:i.toNat=j:=Option.some.inj h
   exact⟨by rw[seqIndex_of h0 h1,e],by omega,by omega,h1⟩
  ·rw[if_neg h1] at h;cases h
 ·rw[if_neg h0] at h
  by_cases h1 : -(n:Int)≤i
  ·rw[if_pos h1] at h
   have e:(i+n).toNat=j:=Option.some.inj h
   exact⟨by rw[seqIndex_neg (by omega) h1,e],by omega,h1,by omega⟩
  ·rw[if_neg h1] at h;cases h
theorem zhc{α:Type}{xs:List α}{i:Int}{v:α}(h:atI xs i=some v):∃j,seqIndex? i xs.length=some j∧xs[j]? = some v∧j<xs.length ∧ -(xs.length:Int)≤i∧i<xs.length:=by
 unfold atI at h
 cases e:ixN xs.length i with
 | none=>rw[e] at h;cases h
 | some j =>
   rw[e] at h
   obtain⟨h1,h2,h3,h4⟩:=ixN_seq e
   exact⟨j,h1,h,h2,h3,h4⟩
theorem zae{α:Type}{xs:List α}{j:Nat}{v:α}(h:xs[j]? = some v):atI xs (j:Int)=some v:=by
 have hj:j<xs.length:=(List.getElem?_eq_some_iff.mp h).1
 have e:ixN xs.length (j:Int)=some j:=by
  unfold ixN
  rw[if_pos (by omega),if_pos (by omega)];simp
 unfold atI;rw[e];exact h
theorem atI_last{α:Type}(xs:List α)(v:α):atI (xs ++ [v]) (-1)=some v:=by
 have hl:(xs ++ [v]).length=xs.length+1:=by simp
 have e:ixN (xs ++ [v]).length (-1)=some xs.length:=by
  unfold ixN
  rw[hl,if_neg (by decide),if_pos (by omega)]
  congr 1
  omega
 unfold atI
 rw[e]
 show(xs ++ [v])[xs.length]? = some v
 simp
def PlainIx(b:Expr):Prop:=∀o i,subscripted b false o i=operate [o,i] (getItem o i)
def IxR(X:Cx)(r:R2):Prop :=
 ∀(value slice:Expr) (pins:List (Addr × Obj)) (s:Shared) (σ:St) (H:Hp) (x y:V) (v u:Value) (Q:VK),Inv X pins σ H s→zR x v→zR y u→r x y H Q →
  subscripted slice false v u=operate [v,u] (getItem v u)→wpAny (model X.prog X.w) X.A (subscriptTail value slice v u) (EP X pins σ Q) X.xe s
def MtR(X:Cx)(id:String)(r:V→List V→Hp→VK→Prop):Prop :=
 ∀(pins:List (Addr × Obj)) (s:Shared) (σ:St) (H:Hp) (x:V) (xs:List V) (v:Value) (us:List Value) (Q:VK),Inv X pins σ H s→zR x v→zG xs us→r x xs H Q →
  wpAny (model X.prog X.w) X.A (call (.builtin id) (v::us)) (EP X pins σ Q) X.xe s
section
variable {X:Cx} {a b:Expr} {ta tb:TE} {pos:Pos}
theorem yd{r:R2}(hr:IxR X r)(ha:PE X a ta)(hb:PE X b tb)(hs:PlainIx b):PE X (.Subscript a b pos) (tOp r ta tb):=by
 intro pins s σ H Q I h
 exact Subscript_ (binT ha hb I h fun v u s2 x y H2 I2 rx ry q=>hr a b pins s2 σ H2 x y v u Q I2 rx ry q (hs _ _))
def rIxL(K:PySem.W.Frag):R2:=fun x y H Q=>∃p xs i v,x=.ref p∧y=.int i∧SqL K H p xs∧atI xs i=some v∧Q v H
def rIxT(K:PySem.W.Frag):R2:=fun x y H Q=>∃p xs i v,x=.ref p∧y=.int i∧SqT K H p xs∧atI xs i=some v∧Q v H
def rIxS:R2:=fun x y H Q=>∃z i c,x=.str z∧y=.int i∧z.length≤sizeLine∧atI z.cps.toList i=some c∧Q (.str ⟨#[c]⟩) H
theorem zN:IxR X (rIxL X.K):=by
 intro value slice pins s σ H x y v u Q I rx ry h hs
 obtain⟨p,xs,i,z,rfl,rfl,hq,he,q⟩:=h
 cases rx
 obtain⟨t,rfl⟩:=ry
 obtain⟨its,r,pl,hz⟩:=I.list hq
 obtain⟨j,h1,h2,h3,h4,h5⟩:=zhc he
 obtain⟨w,ew,rw'⟩:=r.get h2
 have hl:=r.length
 have hn:=zfE
 have fin:EP X pins σ Q w s:=⟨z,H,I,rw',q⟩
 by_cases h0:0≤i
 ·have hj:i.toNat=j:=by
   rw[seqIndex_of h0 h5] at h1
   exact Option.some.inj h1
  exact item_listR pl.isList h0 (by omega) (by rw[hj];simpa using ew) fin hs
 ·have hj:(i+(its.toArray.size:Int)).toNat=j:=by
   rw[seqIndex_neg (by omega) h4] at h1
   rw[List.size_toArray,← hl]
   exact Option.some.inj h1
  exact subscriptTail_builtinR (x:=w) pl.isList.typeIs slot_list_getitem.lookup
   (wpAny_getItem_list_neg (Q:=fun r s'=>r=w∧EP X pins σ Q r s') pl.isList (by omega) (by rw[List.size_toArray] <;> omega) (by omega) (by rw[hj];simpa using ew) ⟨rfl,fin⟩) hs
theorem zi7:IxR X (rIxT X.K):=by
 intro value slice pins s σ H x y v u Q I rx ry h hs
 obtain⟨p,xs,i,z,rfl,rfl,hq,he,q⟩:=h
 cases rx
 obtain⟨t,rfl⟩:=ry
 obtain⟨its,r,pl,hz⟩:=I.tuple hq
 obtain⟨j,h1,h2,h3,h4,h5⟩:=zhc he
 obtain⟨w,ew,rw'⟩:=r.get h2
 have hl:=r.length
 have hn:=zfE
 have fin:EP X pins σ Q w s:=⟨z,H,I,rw',q⟩
 exact subscriptTail_builtinR (x:=w) pl.typeIs slot_tuple_getitem.lookup
  (getItem_tuple (j:=j) (Q:=fun r s'=>r=w∧EP X pins σ Q r s') pl (by omega) (by omega) (by rw[List.size_toArray,← hl];exact h1) (by simpa using ew) ⟨rfl,fin⟩) hs
theorem ix_str:IxR X rIxS:=by
 intro value slice pins s σ H x y v u Q I rx ry h hs
 obtain⟨z,i,c,rfl,rfl,hz,he,q⟩:=h
 obtain⟨t,rfl⟩:=rx
 obtain⟨t',rfl⟩:=ry
 obtain⟨j,h1,h2,h3,h4,h5⟩:=zhc he
 have hl:z.cps.toList.length=z.length:=by simp[Str.length]
 rw[hl] at h1 h4 h5
 have hn:=zfE
 exact tail_any (typeIs_str s z t) slot_str_getitem.lookup (getItem_str (c:=c) (by
  have e1:decide (i < -(2 ^ 63:Int))=false:=decide_eq_false (by omega)
  have e2:decide (i ≥ 2 ^ 63)=false:=decide_eq_false (by omega)
  rw[e1,e2,Bool.or_false]) (by rw[h1];simpa using h2) ⟨.str ⟨#[c]⟩,H,I.tok _,⟨_,rfl⟩,q⟩) hs
theorem zha(lo hi:Option Int)(n:Nat):(sliceBounds lo hi none n).1=((HT.sIx n 0 lo:Nat):Int)∧(sliceBounds lo hi none n).2.1=((HT.sIx n n hi:Nat):Int)∧(sliceBounds lo hi none n).2.2=1:=by
 refine⟨?_,?_,rfl⟩
 ·cases lo with
  | none=>simp[sliceBounds,HT.sIx]
  | some i =>
    simp only[sliceBounds,HT.sIx,Option.getD_none,show(1:Int) > 0 by decide,if_true]
    by_cases h:i<0
    ·simp only[h,if_true] <;> omega
    ·simp only[h,if_false] <;> omega
 ·cases hi with
  | none=>simp[sliceBounds,HT.sIx]
  | some i =>
    simp only[sliceBounds,HT.sIx,Option.getD_none,show(1:Int) > 0 by decide,if_true]
    by_cases h:i<0
    ·simp only[h,if_true] <;> omega
    ·simp only[h,if_false] <;> omega
theorem zgi(its:List Value)(lo hi:Option Int):slicePick its.toArray lo hi none=((its.drop (HT.sIx its.length 0 lo)).take (HT.sIx its.length its.length hi - HT.sIx its.length 0 lo)).toArray:=by
 obtain⟨h1,h2,h3⟩:=zha lo hi its.toArray.size
 unfold slicePick
 rw[h1,h2,h3]
 simp only[sliceRange_one,pick_run,List.size_toArray] <;> rfl
def rSlL(K:PySem.W.Frag):V→Option Int→Option Int→Hp→VK→Prop:=fun x lo hi H Q=>∃a xs,x=.ref a∧SqL K H a xs∧∀p,H p=none→Q (.ref p) (upd H p (.lst (zeq xs lo hi)))
theorem zbh:SlR X (rSlL X.K):=by
 intro pins s σ H x v vl vu lo hi sl Q I rx hs pl pu h
 obtain⟨a,xs,rfl,hx,q⟩:=h
 cases rx
 obtain⟨its,r,ht,hz⟩:=I.list hx
 have hlen:=r.length
 refine⟨"list",_,slot_list_getitem.lookup,ht.isList.typeIs,?_⟩
 refine wpAny_getItem_list_slice ht.isList hs pl pu .none (by simp) ?_ (by rw[List.size_toArray] <;> omega)
 rw[zgi,← hlen]
 refine⟨.ref s.heap.objs.size,_,I.laid (t':=s.toks) (o:=.lst (zeq xs lo hi)) (fun b ob q=>Heap.get?_push_of_some _ q) (Nat.le_refl _) ?_,rfl,q _ (I.hok.fresh (Nat.le_refl _))⟩
 exact⟨Nat.le_trans (zhr xs lo hi) hz,_,0,(r.drop (HT.sIx xs.length 0 lo)).take (HT.sIx xs.length xs.length hi - HT.sIx xs.length 0 lo),Heap.get?_push_size _ rfl⟩
def zaB:V→Bool
 | .non=>true
 | .bl _=>true
 | .int _=>true
 | .str _=>true
 | _=>false
def eqV:V→V→Bool
 | .non,.non=>true
 | .bl a,.bl b=>a==b
 | .bl a,.int b=>(if a then 1 else 0)==b
 | .int a,.bl b=>a==(if b then 1 else 0)
 | .int a,.int b=>a==b
 | .str a,.str b=>a==b
 | _,_=>false
theorem eqAt_V{A:Around}{s:Shared}{y x:V}{u v:Value}(ry:zR y u)(rx:zR x v)(fy:zaB y=true)(fx:zaB x=true):SeqAt.EqAt A s u v (eqV y x):=by
 cases y with
 | non =>
   cases ry
   cases x with
   | non=>cases rx;exact SeqAt.EqAt.same _
   | bl b=>cases rx;exact SeqAt.EqAt.none_bool b
   | int b=>obtain⟨t,rfl⟩:=rx;exact SeqAt.EqAt.none_int b t
   | str b=>obtain⟨t,rfl⟩:=rx;exact SeqAt.EqAt.none_str b t
   | _=>exact absurd (show false=true from fx) Bool.false_ne_true
 | bl a =>
   cases ry
   cases x with
   | non=>cases rx;exact SeqAt.EqAt.bool_none a
   | bl b=>cases rx;exact SeqAt.EqAt.bool_bool a b
   | int b=>obtain⟨t,rfl⟩:=rx;exact SeqAt.EqAt.bool_int a b t
   | str b=>obtain⟨t,rfl⟩:=rx;exact SeqAt.EqAt.bool_str a b t
   | _=>exact absurd (show false=true from fx) Bool.false_ne_true
 | int a =>
   obtain⟨t',rfl⟩:=ry
   cases x with
   | non=>cases rx;exact SeqAt.EqAt.int_none a t'
   | bl b=>cases rx;exact SeqAt.EqAt.int_bool a t' b
   | int b=>obtain⟨t,rfl⟩:=rx;exact SeqAt.EqAt.int_int a t' b t
   | str b=>obtain⟨t,rfl⟩:=rx;exact SeqAt.EqAt.int_str a t' b t
   | _=>exact absurd (show false=true from fx) Bool.false_ne_true
 | str a =>
   obtain⟨t',rfl⟩:=ry
   cases x with
   | non=>cases rx;exact SeqAt.EqAt.str_none a t'
   | bl b=>cases rx;exact SeqAt.EqAt.str_bool a t' b
   | int b=>obtain⟨t,rfl⟩:=rx;exact SeqAt.EqAt.str_int a t' b t
   | str b=>obtain⟨t,rfl⟩:=rx;exact SeqAt.EqAt.str_str a t' b t
   | _=>exact absurd (show false=true from fx) Bool.false_ne_true
 | _=>exact absurd (show false=true from fy) Bool.false_ne_true
def eqU(x:V)(u:Value):Bool:=match u with
 | .none=>eqV .non x
 | .bool b=>eqV (.bl b) x
 | .int i _=>eqV (.int i) x
 | .str z _=>eqV (.str z) x
 | _=>false
theorem zi1{x y:V}{u:Value}(r:zR y u)(f:zaB y=true):eqU x u=eqV y x:=by
 cases y with
 | non=>cases r;rfl
 | bl b=>cases r;rfl
 | int i=>obtain⟨t,rfl⟩:=r;rfl
 | str z=>obtain⟨t,rfl⟩:=r;rfl
 | _=>exact absurd (show false=true from f) Bool.false_ne_true
theorem zgW{x:V}:∀{xs:List V} {us:List Value},zG xs us→xs.all zaB=true→us.any (eqU x)=xs.any fun y=>eqV y x
 | _,_,.nil,_=>rfl
 | y::xs,u::us,.cons r t,f=>by
   rw[List.all_cons,Bool.and_eq_true] at f
   rw[List.any_cons,List.any_cons,zi1 r f.1,zgW t f.2]
theorem zdL{A:Around}{s:Shared}{x:V}{v:Value}(rx:zR x v)(fx:zaB x=true):∀{xs:List V} {us:List Value},zG xs us→xs.all zaB=true→∀u∈us,SeqAt.EqAt A s u v (eqU x u)
 | _,_,.nil,_=>fun u hu=>by cases hu
 | y::xs,u::us,.cons r t,f=>fun u' hu=>by
   rw[List.all_cons,Bool.and_eq_true] at f
   rcases List.mem_cons.mp hu with rfl | hu
   ·rw[zi1 r f.1];exact eqAt_V r rx f.1 fx
   ·exact zdL rx fx t f.2 u' hu
def inV(x:V)(xs:List V):Bool:=xs.any fun y=>eqV y x
def rIn(K:PySem.W.Frag)(neg:Bool):R2:=fun x y H Q=>∃p xs,y=.ref p∧(SqL K H p xs∨SqT K H p xs)∧zaB x=true∧xs.all zaB=true∧Q (.bl (if neg then !inV x xs else inV x xs)) H
theorem wT:OpR X (compareOp .NotIn) (rIn X.K true):=by
 intro pins s σ H x y v u Q I rx ry h
 obtain⟨p,xs,rfl,hq,fx,fs,q⟩:=h
 cases ry
 rcases hq with hq | hq
 ·obtain⟨its,r,pl,hz⟩:=I.list hq
  refine SeqAt.notIn_listAt (eqU x) pl.isList (fun w hw=>zdL rx fx r fs w (by simpa using hw)) ⟨.bl _,H,I,rfl,?_⟩
  rw[show its.toArray.any (eqU x)=its.any (eqU x)by simp,zgW r fs]
  exact q
 ·obtain⟨its,r,pl,hz⟩:=I.tuple hq
  refine SeqAt.notIn_tupleAt (eqU x) pl (fun w hw=>zdL rx fx r fs w (by simpa using hw)) ⟨.bl _,H,I,rfl,?_⟩
  rw[show its.toArray.any (eqU x)=its.any (eqU x)by simp,zgW r fs]
  exact q
theorem zp:zas X (.builtin "len") (fun xs H Q=>∃p ys,xs = [.ref p]∧(SqL X.K H p ys∨SqT X.K H p ys)∧Q (.int ys.length) H):=by
 intro pins s σ H xs us Q I r h
 obtain⟨p,ys,rfl,hq,q⟩:=h
 obtain⟨u,rfl,rx⟩:=zir r
 cases rx
 have hn:=zfE
 rcases hq with hq | hq
 ·obtain⟨its,r',pl,hz⟩:=I.list hq
  have hlen:=r'.length
  exact Calls.call_len_list pl.isList (by simp only[List.size_toArray] <;> omega) ⟨.int ys.length,H,I.tok _,⟨s.toks+1,by rw[List.size_toArray,hlen]⟩,q⟩
 ·obtain⟨its,r',pl,hz⟩:=I.tuple hq
  have hlen:=r'.length
  exact len_tuple pl (by simp only[List.size_toArray] <;> omega) ⟨.int ys.length,H,I.tok _,⟨s.toks+1,by rw[List.size_toArray,hlen]⟩,q⟩
theorem ye:zas X (.type "list") (fun xs H Q=>∃p ys,xs = [.ref p]∧(SqL X.K H p ys∨SqT X.K H p ys)∧∀l,H l=none→Q (.ref l) (upd H l (.lst ys))):=by
 intro pins s σ H xs us Q I r h
 obtain⟨p,ys,rfl,hq,q⟩:=h
 obtain⟨u,rfl,rx⟩:=zir r
 cases rx
 have fin:∀(its:List Value),zG ys its→ys.length≤sizeLine→∀(h':Heap) (c':Nat),(∀b o',s.heap.get? b=some o'→h'.get? b=some o') →
  h'.get? s.heap.objs.size=some { cls:=.type "list",dict:=none,data:=.seq its.toArray c',slots := #[] }→EP X pins σ Q (.ref s.heap.objs.size) { s with heap:=h' }:=fun its r' hz h' c' kp e =>
  ⟨.ref s.heap.objs.size,_,I.laid (t':=s.toks) kp (Nat.le_refl _) (show y9 X.prog X.w _ h' _ (.lst ys)from⟨hz,its,c',r',e⟩),rfl,q _ (I.hok.fresh (Nat.le_refl _))⟩
 rcases hq with hq | hq
 ·obtain⟨its,r',pl,hz⟩:=I.list hq
  have hlen:=r'.length
  obtain⟨o,ho,hc,n,hd⟩:=pl.isList
  exact call_list_seq p (.inl rfl) ho hc hd (fun h' c' kp e=>fin its r' hz h' c' kp e) (by simp only[List.size_toArray] <;> omega)
 ·obtain⟨its,r',pl,hz⟩:=I.tuple hq
  have hlen:=r'.length
  obtain⟨o,ho,hc,n,hd⟩:=pl
  exact call_list_seq p (.inr rfl) ho hc hd (fun h' c' kp e=>fin its r' hz h' c' kp e) (by simp only[List.size_toArray] <;> omega)
def tyV(K:PySem.W.Frag)(T:String)(x:V)(H:Hp):Prop:=match x with
 | .str _=>T= "str"
 | .int _=>T= "int"
 | .ref p=>(T= "list" ∧ ∃xs,SqL K H p xs)∨(T= "tuple" ∧ ∃o,K.lookup p=some o∧o.cls=.type "tuple" ∧ o.dict=none) ∨
    (T= "dict" ∧ ((∃kvs,H p=some (.dK kvs))∨∃kvs,H p=some (.dT kvs)))∨(T= "set" ∧ ∃S n,H p=some (.set S n))
 | _=>False
theorem tyV_is{pins:List (Addr × Obj)}{σ:St}{H:Hp}{s:Shared}{T:String}{x:V}{v:Value}(I:Inv X pins σ H s)(r:zR x v)(ty:tyV X.K T x H):
 s.TypeIs v T∧∀a,v=.ref a→∃ob,s.heap.get? a=some ob∧ob.dict=none:=by
 cases x with
 | str z =>
   obtain⟨t,rfl⟩:=r
   cases (show T= "str" from ty)
   exact⟨typeIs_str s z t,fun _ e=>nomatch e⟩
 | int i =>
   obtain⟨t,rfl⟩:=r
   cases (show T= "int" from ty)
   exact⟨typeIs_int s i t,fun _ e=>nomatch e⟩
 | ref p =>
   cases r
   rcases ty with⟨rfl,xs,hq⟩ | ⟨rfl,o,hk,hc,hd⟩ | ⟨rfl,hk⟩ | ⟨rfl,S,n,hk⟩
   ·obtain⟨its,_,pl,_⟩:=I.list hq
    refine⟨pl.isList.typeIs,fun a e=>?_⟩
    cases e
    obtain⟨o,n,e,c,hd,_⟩:=pl
    exact⟨o,e,hd⟩
   ·refine⟨⟨o,I.kIn p o hk,hc⟩,fun a e=>?_⟩
    cases e
    exact⟨o,I.kIn _ o hk,hd⟩
   ·have z:∃o,s.heap.get? p=some o∧o.ExactDict:=by
     rcases hk with⟨kvs,hk⟩ | ⟨kvs,hk⟩
     ·obtain⟨_,_,_,_,o,_,_,e,ex,_⟩:=I.hok p _ hk
      exact⟨o,e,ex⟩
     ·obtain⟨_,_,_,_,o,_,_,e,ex,_⟩:=I.hok p _ hk
      exact⟨o,e,ex⟩
    obtain⟨o,e,ex⟩:=z
    refine⟨⟨o,e,ex.1⟩,fun a e2=>?_⟩
    cases e2
    exact⟨o,e,ex.2.1⟩
   ·obtain⟨o,_,_,_,e,ex,_⟩:=I.hok p _ hk
    refine⟨⟨o,e,ex.1⟩,fun a e2=>?_⟩
    cases e2
    exact⟨o,e,ex.2.1⟩
 | _=>exact False.elim ty
def tBM0(K:PySem.W.Frag)(T:String)(r:V→List V→Hp→VK→Prop)(to:TE):TE:=fun σ H Q=>to σ H fun x H1=>tyV K T x H1∧r x [] H1 Q
def tBM(K:PySem.W.Frag)(T:String)(r:V→List V→Hp→VK→Prop)(to:TE)(t:TA):TE:=fun σ H Q=>to σ H fun x H1=>tyV K T x H1∧t σ H1 fun xs H2=>r x xs H2 Q
variable {o e:Expr} {es:List Expr} {to:TE} {t:TA} {name:Str} {apos cpos:Pos} {T id:String} {r:V→List V→Hp→VK→Prop}
theorem pe_bm0(pa:PlainAttrs T)(slot:Slot T name id)(hty:typeOf (.builtin id)=pure (.type "method_descriptor"))(hm:MtR X id r)(ho:PE X o to)
 (hbase:attributeBase o name X.env (eval o X.env)=eval o X.env:=by rfl) (hline:(apos.endLine==cpos.line)=true:=by rfl):PE X (.Call (.Attribute o name apos) [] [] cpos) (tBM0 X.K T r to):=by
 intro pins s σ H Q I h
 refine wpAny_Call_method0_late hbase hline (thn (ho pins s σ H _ I h) fun v s1 ⟨x,H1,I1,r1,ty,q1⟩=>?_)
 obtain⟨h1,h2⟩:=tyV_is I1 r1 ty
 exact⟨T,id,pa,slot,hty,h1,h2,Calls.callWith_builtin rfl (PySem.evalArgs_none (hm pins s1 σ H1 x [] v [] Q I1 r1 .nil q1))⟩
theorem zc2(pa:PlainAttrs T)(slot:Slot T name id)(hty:typeOf (.builtin id)=pure (.type "method_descriptor"))(hm:MtR X id r)(ho:PE X o to)(ha:PA X (e::es) t)
 (hbase:attributeBase o name X.env (eval o X.env)=eval o X.env:=by rfl)
 (hfew:((backTo cpos (starEach (e::es) X.env)).all (fun x => !x.1) && (backToKw cpos (keywordEach [] X.env)).all (fun x=>x.1.isSome)
   && decide ((e::es).length+([]:List Keyword).length+(if([]:List Keyword).isEmpty then 0 else 1)<30))=true:=by rfl)
 (hline:(apos.endLine==cpos.line)=true:=by rfl) (hs:starEach (e::es) X.env=(false,eval e X.env)::starEach es X.env:=by rfl) (hplain:(backTo cpos (starEach es X.env)).any (·.1)=false:=by rfl) :
 PE X (.Call (.Attribute o name apos) (e::es) [] cpos) (tBM X.K T r to t):=by
 intro pins s σ H Q I h
 refine wpAny_Call_method_late hbase hfew hline rfl (thn (ho pins s σ H _ I h) fun v s1 ⟨x,H1,I1,r1,ty,q1⟩=>?_)
 obtain⟨h1,h2⟩:=tyV_is I1 r1 ty
 refine⟨T,id,pa,slot,hty,h1,h2,?_⟩
 have hA:=ha cpos pins s1 σ H1 _ I1 q1
 rw[hs] at hA ⊢
 refine Calls.callWith_builtin (by show(false || (backTo cpos (starEach es X.env)).any (·.1))=false;rw[hplain] <;> rfl) (Calls.evalArgs_plain ?_)
 exact thn hA fun us s2 ⟨vs,H2,I2,r2,q2⟩=>hm pins s2 σ H2 x vs v us Q I2 r1 r2 q2
/- xs.append(e),list.index on a module's tuple .. are MtR facts of 06m -/
end
def MtM(X:Cx)(id:String)(r:V→List V→Hp→VK→Prop):Prop :=
 ∀(pins:List (Addr × Obj)) (s:Shared) (σ:St) (H:Hp) (x:V) (xs:List V) (v:Value) (us:List Value) (Q:VK),Inv X pins σ H s→zR x v→zG xs us→r x xs H Q →
  wpAny (model X.prog X.w) X.A (call (.builtin id) (v::us)) (EP X pins σ Q) X.xe s
theorem zG.one:∀{x:V} {us:List Value},zG [x] us→∃u,us = [u]∧zR x u
 := by
 intro x us h
 cases h with
 | cons r q=>cases q;exact⟨_,rfl,r⟩
theorem zG.two:∀{x y:V} {us:List Value},zG [x,y] us→∃u v,us = [u,v]∧zR x u∧zR y v
 := by
 intro x y us h
 cases h with
 | cons r z=>cases z with
   | cons q z=>cases z;exact⟨_,_,rfl,r,q⟩
theorem zG.eraseIdx:∀{xs:List V} {us:List Value} (i:Nat),zG xs us→zG (xs.eraseIdx i) (us.eraseIdx i)
 | _,_,_,.nil=>.nil
 | _,_,0,.cons _ t=>t
 | _,_,i+1,.cons r t=>.cons r (zG.eraseIdx i t)
theorem zG.reverse{xs:List V}{us:List Value}(h:zG xs us):zG xs.reverse us.reverse:=by
 induction h with
 | nil=>exact .nil
 | cons r t ih=>rw[List.reverse_cons,List.reverse_cons];exact zG.append ih (.cons r .nil)
theorem zgy{α:Type}:∀(l:List α) (i:Nat),(l.eraseIdx i).length≤l.length
 | [],_=>Nat.le_refl _
 | _::_,0=>Nat.le_succ _
 | _::r,i+1=>Nat.succ_le_succ (zgy r i)
section
variable {X:Cx} {pins:List (Addr × Obj)} {σ:St} {H:Hp} {s:Shared} {l b:Addr} {xs ys zs:List V}
theorem Inv.lset{its its':List Value}{n:Nat}{f:Array Value→Array Value}{t':Nat}(I:Inv X pins σ H s)(hH:H l=some (.lst xs))
 (e:s.heap.get? l=some { cls:=.type "list",data:=.seq its.toArray n }) (hf:f its.toArray=its'.toArray) (hv:zG ys its') (hz:ys.length≤sizeLine) :
 Inv X pins σ (upd H l (.lst ys)) { s with heap:=s.heap.update l (Obj.mapSeq f),toks:=t' }:=by
 have q:=PySem.IsL.update e f
 rw[hf] at q
 refine I.write (x:=l) (e:=l) (by rw[hH];exact trivial) (.inl rfl) (fun b' u hb hu=>(Heap.get?_update_other s.heap (Obj.mapSeq f) (Ne.symm hb)).trans hu) ⟨_,q⟩ ?_
 exact⟨hz,its',_,hv,q⟩
theorem Inv.lnew{its:List Value}{t':Nat}(I:Inv X pins σ H s)(hv:zG ys its)(hz:ys.length≤sizeLine):
 Inv X pins σ (upd H s.heap.objs.size (.lst ys)) { s with heap:=s.heap.push { cls:=.type "list",data:=.seq its.toArray },toks:=t' } :=
 I.laid (fun _ _ q=>Heap.get?_push_of_some _ q) (Nat.le_refl _) ⟨hz,its,0,hv,Heap.get?_push_size _ rfl⟩
theorem Inv.fresh(I:Inv X pins σ H s):H s.heap.objs.size=none:=I.hok.fresh (Nat.le_refl _)
theorem Inv.lstM(I:Inv X pins σ H s)(hH:H l=some (.lst xs)):xs.length≤sizeLine∧∃(its:List Value) (n:Nat),zG xs its∧xs.length=its.length∧s.heap.get? l=some { cls:=.type "list",data:=.seq its.toArray n }:=by
 obtain⟨z,its,n,r,e⟩:=I.hok l _ hH
 exact⟨z,its,n,r,r.length,e⟩
end
section
variable {X:Cx}
def rAppend:V→List V→Hp→VK→Prop:=fun x vs H Q=>∃l xs y,x=.ref l∧vs = [y]∧H l=some (.lst xs)∧xs.length<sizeLine∧Q .non (upd H l (.lst (xs ++ [y])))
theorem zb4:MtM X "list.append" rAppend:=by
 intro pins s σ H x vs v us Q I rx rv h
 obtain⟨l,xs,y,rfl,rfl,hH,hz,q⟩:=h
 cases rx
 obtain⟨u,rfl,ru⟩:=rv.one
 obtain⟨z,its,n,r,hl,e⟩:=I.lstM hH
 refine call_meets F.slot_list_append ⟨_,e,rfl⟩ F.entry_list_append (F.args_list_append_2 _ _) (PySem.list_append l its.toArray n u (by rw[List.size_toArray];omega)) ⟨e,?_⟩
 refine⟨.non,_,I.lset (its':=its ++ [u]) hH e (by simp) (r.append (.cons ru .nil)) ?_,rfl,q⟩
 rw[List.length_append,List.length_singleton]
 omega
def rPopAt:V→List V→Hp→VK→Prop:=fun x vs H Q=>∃l xs i k y,x=.ref l∧vs = [.int i]∧H l=some (.lst xs) ∧ -(2 ^ 63)≤i∧i<2 ^ 63∧seqIndex? i xs.length=some k∧xs[k]? = some y∧Q y (upd H l (.lst (xs.eraseIdx k)))
theorem mt_popAt:MtM X "list.pop" rPopAt:=by
 intro pins s σ H x vs v us Q I rx rv h
 obtain⟨l,xs,i,k,y,rfl,rfl,hH,h1,h2,hk,hy,q⟩:=h
 cases rx
 obtain⟨u,rfl,ru⟩:=rv.one
 obtain⟨t,rfl⟩:=ru
 obtain⟨z,its,n,r,hl,e⟩:=I.lstM hH
 obtain⟨w,hw,rw'⟩:=r.get hy
 refine call_meets F.slot_list_pop ⟨_,e,rfl⟩ F.entry_list_pop (F.args_list_pop_2 _ _)
  (MeetsSeq.list_pop_at l its.toArray n i t k w (fitsIndex_both h1 h2) (by rw[List.size_toArray,← hl];exact hk) (by rw[← Array.getElem?_toList];exact hw) (by rw[List.size_toArray];omega)) ⟨e,?_⟩
 refine⟨y,_,I.lset (its':=its.eraseIdx k) hH e ?_ (r.eraseIdx k) ?_,rw',q⟩
 ·show its.toArray.eraseIdxIfInBounds k=(its.eraseIdx k).toArray
  rw[List.eraseIdxIfInBounds_toArray]
 ·have:=zgy xs k
  omega
def rCat:R2:=fun x y H Q=>∃l b xs zs,x=.ref l∧y=.ref b∧H l=some (.lst xs)∧H b=some (.lst zs)∧xs.length+zs.length≤sizeLine∧∀p,H p=none→Q (.ref p) (upd H p (.lst (xs++zs)))
theorem zax:OpR X (binaryOp .Add) rCat:=by
 intro pins s σ H x y v u Q I rx ry h
 obtain⟨l,b,xs,zs,rfl,rfl,hH,hB,hz,q⟩:=h
 cases rx
 cases ry
 obtain⟨z,its,n,r,hl,e⟩:=I.lstM hH
 obtain⟨z2,its2,n2,r2,hl2,e2⟩:=I.lstM hB
 refine PySem.P.add_list e e2 ?_ (by rw[List.size_toArray,List.size_toArray];omega)
 have ea:its.toArray++its2.toArray=(its++its2).toArray:=by simp
 rw[ea]
 exact⟨.ref _,_,I.lnew (t':=s.toks) (r.append r2) (by rw[List.length_append];omega),rfl,q _ I.fresh⟩
end
section
variable {prog:Program} {w:World} {A:Around} {E:Value→Shared→Prop} {s:Shared}
end
section
variable {X:Cx}
end
end L2
namespace Att
open PySem PySem.W PySem.Calls PyProof.Rows
theorem zeO{P:Params}{h:Heap}:∀(ns:List Int) (vs:List Value),WellAll P h vs (ns.map WData.int)→IntsAre vs ns:=by
 intro ns
 induction ns with
 | nil =>
   intro vs w
   rw[List.map_nil] at w
   cases w
   exact .nil
 | cons n ns ih =>
   intro vs w
   rw[List.map_cons] at w
   cases w with
   | cons a b =>
     cases a
     exact .cons _ _ (ih _ b)
theorem script_of{l:OpenLaw}{n:Nat}(hn:l.most=some n){P:Params}{h:Heap}{args:List WData}{vals:List Value}
 (hpre:l.row.toRowW.claim.pre args=true) (hwl:WellAll P h vals args) :
 ∃a vs ns,vals = [Value.ref a]∧args = [WData.list (ns.map WData.int)]∧h.get? a=some { cls:=.type "list",data:=.seq vs.toArray }∧IntsAre vs ns∧ns.length≤n:=by
 have hsh:WShape.hasAll [] args [.list .int]=true:=(pre_splitW hpre).1
 have hc:l.pre.holds [] { args:=args }=true:=(pre_splitW hpre).2
 obtain⟨d,r,rfl,h1,h2⟩:=hasAllW_cons hsh
 obtain rfl:=hasAllW_nil h2
 obtain⟨xs,rfl,h3⟩:=hasW_list h1
 obtain⟨ns,rfl⟩:=items_int h3
 have hlen:ns.length≤n:=by
  unfold OpenLaw.pre at hc
  have h4:(WTm.not (.lt (.lit (.int (n:Int))) (.len (.arg 0)))).holds [] { args := [.list (ns.map .int)] }=true:=by
   have h4:=(holds_andW hc).1
   rw[hn] at h4
   exact h4
  have h5:=condW_of h4 (w_not (w_lt w_lit (w_len_list (w_arg rfl))))
  rw[List.length_map] at h5
  refine Nat.le_of_not_lt fun q=>?_
  have q':(n:Int)<((ns.length:Nat):Int):=by omega
  first
   | (rw[decide_eq_true q'] at h5;exact absurd h5 (by decide))
   | (simp at h5;omega)
 cases hwl with
 | cons w1 w2 =>
   cases w2
   cases w1 with
   | list ho hall=>exact⟨_,_,ns,rfl,rfl,ho,zeO ns _ hall,hlen⟩
theorem post_true(l:OpenLaw)(args:List WData):l.row.toRowW.claim.post args (.bool true) args=true :=
 postW_of (r:=l.row.toRowW) (X:=(true==true))
  (show WShape.has [] (.bool true) .bool=true by first | rfl | decide | simp[WShape.has,WShape.arms,WShape.armsAll])
  (show(WTm.eq .res (.lit (.bool true))).value [] { args:=args,res:=some (.bool true),after:=args }=some (.bool (true==true))from w_eq_bool (w_res rfl) w_lit) rfl
theorem attach_call{l:OpenLaw}{n:Nat}{q:Program}{loose:List Str}{XP:(Str→Option Value)→Heap→Prop}{YP:World→Heap→Prop}{d:DefRec}
 (hn:l.most=some n) (hdf:d.params.defaults = [])
 (call:∀(w:World) (s₀ s₁:Shared) (mg mb:Str→Option Value) (fa:Addr) (o:Obj) (pm cd doc:Value) (a:Addr) (vs:List Value) (ns:List Int),
   Ground q loose [] XP w s₀ mg mb s₁.heap→YP w s₁.heap →
   s₁.heap.get? fa=some o→o.data=.func (docDef d.name d.params d.body d.scope pm cd doc)→s₁.heap.CodeRec cd d.name→mg d.name=some (.ref fa) →
   s₁.heap.get? a=some { cls:=.type "list",data:=.seq vs.toArray }→IntsAre vs ns→ns.length≤n→s₁.gens = #[] →
   codeAny (model l.prog w) callerA (.call (.ref fa) ⟨[.ref a],[]⟩) (fun r s'=>r=.ok (.ret (.bool true))∧OldK s₁.heap s'.heap∧s'.os=s₁.os∧AllBare s'.gens) s₁) :
 WalkO q loose XP YP l.row.toRowW d [] (fun f vs=>PySem.call f vs):=by
 intro w s₀ s₁ mg mb G Y fa o pm cd doc dV kV ho hd hcd hD hmg hg args vals as hpre hlay hrd hwl hlo
 obtain rfl:dV=.none:=Dflts.none hD hdf
 obtain rfl:kV=.none:=Dflts.noKw hD
 obtain⟨a,vs,ns,rfl,rfl,hobj,hints,hlen⟩:=script_of hn hpre hwl
 refine enter_call (codeAny_mono (call w s₀ s₁ mg mb fa o pm cd doc a vs ns G Y ho (fd_plain hd) hcd hmg hobj hints hlen hg) fun r s' hq=>?_)
 obtain⟨rfl,h2,h3,h4⟩:=hq
 exact⟨.inl ⟨.bool true,.bool true,[],rfl,fun _=>rfl,.bool true,post_true l _,fun _=>⟨List.Pairwise.nil,fun _ hm=>(nomatch hm)⟩⟩,h2,h3,h4⟩
section
variable {prog:Program} {w:World} {A:Around} {E:Value→Shared→Prop} {s:Shared} {K:Frag}
def ledger(h:Heap)(L d:Addr):List (Addr × Obj):=(List.range h.objs.size).filterMap fun a=>if a=L∨a=d then none else(h.get? a).map fun o=>(a,o)
end
end Att
namespace L2
open PySem PySem.Spec PyProof.Rows
theorem zgB:∀{vs:List Value} {ns:List Int},IntsAre vs ns→zG (ns.map V.int) vs
 | _,_,.nil=>.nil
 | _,_,.cons n t h=>.cons ⟨t,rfl⟩ (zgB h)
end L2
/- THE LAST THEOREM (shape;LID,My.* are yours):
 My.Adr: a structure of the addresses that your layer names (classes,functions);My.Txt K t: a structure (Prop) of the equations over K;
 My.txt_mk:{K} {implicit addresses ..} (e1:nsIn K mainGlobals "law" = some (some (.ref f))) (e2:K.lookup f=some ⟨oc,od,.func (fnOf "law" "law" params body scope dV kV doc pm an cdv ct),sl⟩) (e3:codeIn K cdv "law" = true) .. : ∃t,My.Txt K t
(the tactic k_is has no namespace: write k_is) -/
namespace L2
open PySem PySem.Spec PyProof.Rows
def wx(s:Stmt)(j:Nat):Stmt:=match s with
 | .ClassDef _ _ _ body _ _ _ _ _ _ _=>body.getD j (.Pass ⟨0,0,0,0⟩)
 | _ => .Pass ⟨0,0,0,0⟩
def zn(s:Stmt):Arguments:=match s with
 | .FunctionDef _ a _ _ _ _ _ _ _ _=>a
 | _=>{ posonlyargs := [],args := [],vararg:=none,kwonlyargs := [],kw_defaults := [],kwarg:=none,defaults := [] }
def zl(s:Stmt):List Stmt:=match s with
 | .FunctionDef _ _ b _ _ _ _ _ _ _=>b
 | _ => []
def zd(s:Stmt):Scope:=match s with
 | .FunctionDef _ _ _ _ _ _ sc _ _ _=>sc
 | _=>{ kind:=.function,names := [],isGenerator:=false,isCoroutine:=false }
abbrev CX0:CXT:=fun _ _ _ _ _ _=>False
abbrev E0:XK:=fun _ _ _=>False
theorem pass0{X:Cx}:zg7 CX0 X E0:=fun _ _ _ _ _ _ _ h=>h.elim
structure Fun (K:PySem.W.Frag) (x qual:Str) (st:Stmt) (f:Addr) (fd:FuncData):Prop where
 ex:∃(oc:Value) (od:Option Addr) (kV doc pm:Value) (an:Option Addr) (cdv ct:Value) (osl:Array (Option Value)),
  fd=PySem.W.fnOf x qual (zn st) (zl st) (zd st) .none kV doc pm an cdv ct∧K.lookup f=some ⟨oc,od,.func fd,osl⟩∧PySem.W.codeIn K cdv qual=true
 kp:PySem.W.keepIn K (.ref f)=true
section
variable {P:Program} {w:World} {K:PySem.W.Frag} {mg:Str→Option Value} {base:Heap}
theorem Fun.ok{x qual:Str}{st:Stmt}{f:Addr}{fd:FuncData}{N ps:List Str}{k:Nat}{sp:Sp}(F:Fun K x qual st f fd)(S:FnScope N ps (zd st))(len:∀vs H Q E,sp vs H Q E→vs.length=ps.length)
 (hbody:∀(cdv:Value) (A:Around) (outer:List Env) (s:Shared) (H:Hp) (vs:List V) (Q:VK) (E:XK),Room k (A.deeper (envOfC qual (zd st) s.heap.objs.size f cdv))→sp vs H Q E →
   ∃t,PSs (zbC CX0 P w K mg base N qual (zd st) f cdv A outer s H E).nox (zl st) t∧t { nx:=fun _ H'=>Q .non H',rt:=Q } (zbe N vs) H):FnOk P w K mg base CX0 (k+1) f fd ps sp:=by
 obtain⟨oc,od,kV,doc,pm,an,cdv,ct,osl,rfl,lk,hcd⟩:=F.ex
 refine fn_of lk hcd S len fun A outer s H vs Q E hr hsp=>?_
 obtain⟨t,h,q⟩:=hbody cdv A outer s H vs Q E hr hsp
 exact⟨t,h.nox,q⟩
theorem Fun.binds{x qual:Str}{st:Stmt}{f:Addr}{fd:FuncData}{ps:List Str}(F:Fun K x qual st f fd)
 (h:∀(kV doc pm:Value) (an:Option Addr) (cdv ct:Value) (us:List Value),us.length=ps.length→bindArgs (PySem.W.fnOf x qual (zn st) (zl st) (zd st) .none kV doc pm an cdv ct) ⟨us,[]⟩=pure (ps.zip us)):zaD K fd ps []:=by
 obtain⟨oc,od,kV,doc,pm,an,cdv,ct,osl,rfl,lk,hcd⟩:=F.ex
 exact .all (h kV doc pm an cdv ct)
theorem zv{x qual:Str}{st:Stmt}{f:Addr}{oc:Value}{od an:Option Addr}{osl:Array (Option Value)}{kV doc pm cdv ct:Value}(l:K.lookup f=some ⟨oc,od,.func (PySem.W.fnOf x qual (zn st) (zl st) (zd st) .none kV doc pm an cdv ct),osl⟩)
 (c:PySem.W.codeIn K cdv qual=true) (k:PySem.W.keepIn K (.ref f)=true):Fun K x qual st f (PySem.W.fnOf x qual (zn st) (zl st) (zd st) .none kV doc pm an cdv ct):=⟨⟨oc,od,kV,doc,pm,an,cdv,ct,osl,rfl,l,c⟩,k⟩
end
theorem zgE{A:Around}{k:Nat}(hr:Room k A):A.units+1<cLine:=Nat.lt_of_le_of_lt (Nat.add_le_add_left (by decide:1≤64) _) hr.units
section
variable {X:Cx}
theorem pv(i:Nat){x:Str}{pos:Pos}(hN:X.N[i]? = some x:=by rfl)(hv:Vis X.env.scope x:=by first | exact Or.inl rfl | exact Or.inr (Or.inl rfl) | exact Or.inr (Or.inr rfl))(hd:(x==("__debug__" : Str))=false:=by decide)
 (hcd:(x==("__classdict__" : Str))=false:=by decide):PE X (.Name x pos) (tVar i):=pe_var hN hv hd hcd
end
theorem zbg{A B:Prop}(h:B):if false=true then A else B:=by
 rw[if_neg Bool.false_ne_true]
 exact h
theorem zf4{A B:Prop}(h:A):if true=true then A else B:=by
 rw[if_pos rfl]
 exact h
theorem iteNS{c A B:Prop} [Decidable c](hc:c)(h:B):if(!decide c)=true then A else B:=by
 rw[decide_eq_true hc]
 exact zbg h
def zi(H H':Hp):Prop:=∀b o,H b=some o→H' b=some o
theorem zi.refl(H:Hp):zi H H:=fun _ _ h=>h
theorem zi.trans{H H1 H2:Hp}(a:zi H H1)(b:zi H1 H2):zi H H2:=fun c o h=>b c o (a c o h)
theorem zi.free{H H':Hp}(e:zi H H'){l:Addr}(h:H' l=Option.none):H l=Option.none:=by
 cases q:H l with
 | none=>rfl
 | some o =>
   rw[e l o q] at h
   cases h
theorem zi.seq{K:PySem.W.Frag}{H H':Hp}{a:Addr}{xs:List V}(e:zi H H')(h:SqL K H a xs):SqL K H' a xs:=by
 rcases h with(h | ⟨o,h⟩) | h
 ·exact .inl (.inl (e _ _ h))
 ·exact .inl (.inr ⟨o,e _ _ h⟩)
 ·exact .inr h
theorem zcx{env:Env}:∀(l:List (Str × NameKind)) (acc:List (Str × Addr)),(∀y∈l,y.2=.free→∃c,env.cells.lookup y.1=some c)→(∀y c,acc.lookup y=some c→env.cells.lookup y=some c) →
 ∃cl,(forIn l acc fun(x:Str × NameKind) (r:List (Str × Addr))=>if(x.2==NameKind.free)=true then(do let a ← cellOf env x.1;pure (ForInStep.yield ((x.1,a)::r)))else(pure (ForInStep.yield r):Sem (ForInStep (List (Str × Addr)))))=(pure cl:Sem (List (Str × Addr))) ∧
  (∀y c,cl.lookup y=some c→env.cells.lookup y=some c)∧(∀y,((y,NameKind.free)∈l∨(acc.lookup y).isSome=true)→∃c,cl.lookup y=some c)
 | [],acc,_,ha=>⟨acc,rfl,ha,fun y h=>by
    rcases h with h | h
    ·cases h
    ·exact Option.isSome_iff_exists.mp h⟩
 | (n,k)::r,acc,h,ha=>by
   by_cases hk:k=.free
   ·subst hk
    obtain⟨c,hc⟩:=h (n,.free) List.mem_cons_self rfl
    obtain⟨cl,e,h1,h2⟩:=zcx r ((n,c)::acc) (fun y hy=>h y (List.mem_cons_of_mem _ hy)) (fun y d hd=>by
     rw[List.lookup_cons] at hd
     by_cases hy:y=n
     ·subst hy;simp at hd;subst hd;exact hc
     ·rw[beq_eq_false_iff_ne.mpr hy] at hd;exact ha y d hd)
    refine⟨cl,?_,h1,fun y hy=>h2 y ?_⟩
    ·rw[List.forIn_cons]
     have:cellOf env n=pure c:=by unfold cellOf;rw[hc]
     simp only[this]
     exact e
    ·rcases hy with hy | hy
     ·rcases List.mem_cons.mp hy with z | z
      ·have:y=n:=by injection z
       right;simp[List.lookup_cons,this]
      ·exact .inl z
     ·right
      rw[List.lookup_cons]
      split
      ·rfl
      ·exact hy
   ·obtain⟨cl,e,h1,h2⟩:=zcx r acc (fun y hy=>h y (List.mem_cons_of_mem _ hy)) ha
    refine⟨cl,?_,h1,fun y hy=>h2 y ?_⟩
    ·rw[List.forIn_cons]
     have hb:(k==NameKind.free)=false:=by simpa using hk
     simp only[hb]
     exact e
    ·rcases hy with hy | hy
     ·rcases List.mem_cons.mp hy with z | z
      ·injection z with _ z2;exact absurd z2.symm hk
      ·exact .inl z
     ·exact .inr hy
theorem zcr{env:Env}{scope:Scope}(h:∀y∈scope.names,y.2=.free→∃c,env.cells.lookup y.1=some c):
 ∃cl,closureFor scope env=pure cl∧(∀y c,cl.lookup y=some c→env.cells.lookup y=some c)∧∀y,(y,NameKind.free)∈scope.names→∃c,cl.lookup y=some c:=by
 obtain⟨cl,e,h1,h2⟩:=zcx scope.names [] h (fun y c z=>by cases z)
 refine⟨cl,?_,h1,fun y hy=>h2 y (.inl hy)⟩
 unfold closureFor
 exact(congrArg (fun(m:Sem (List (Str × Addr)))=>m >>= fun r=>pure r) e).trans rfl
theorem zcF{f:Str × NameKind→Str × NameKind}(h1:∀p,(f p).1=p.1):∀{names:List (Str × NameKind)} {y:Str} {k:NameKind},(names.map f).lookup y=some k→∃k0,(y,k0)∈names∧(f (y,k0)).2=k
 | [],_,_,h=>by cases h
 | p::r,y,k,h=>by
   rw[List.map_cons] at h
   generalize hq:f p=q at h
   obtain⟨q1,q2⟩:=q
   rw[List.lookup_cons] at h
   have e1:q1=p.1:=by have:=h1 p;rw[hq] at this;exact this
   by_cases hy:y=q1
   ·have hb:(y==q1)=true:=by simp[hy]
    rw[hb] at h
    have h':q2=k:=Option.some.inj h
    refine⟨p.2,?_,?_⟩
    ·rw[hy,e1];exact List.mem_cons_self
    ·rw[hy,e1]
     have:f (p.1,p.2)=(q1,q2):=hq
     rw[this];exact h'
   ·rw[beq_eq_false_iff_ne.mpr hy] at h
    obtain⟨k0,m,e⟩:=zcF h1 (names:=r) h
    exact⟨k0,List.mem_cons_of_mem _ m,e⟩
theorem zcZ{f:Str × NameKind→Str × NameKind}(h1:∀p,(f p).1=p.1):∀{names:List (Str × NameKind)} {y:Str} {k:NameKind},names.lookup y=some k→(names.map f).lookup y=some (f (y,k)).2
 | [],_,_,h=>by cases h
 | p::r,y,k,h=>by
   rw[List.map_cons]
   obtain⟨p1,p2⟩:=p
   have e1:=h1 (p1,p2)
   generalize hq:f (p1,p2)=q at e1 ⊢
   obtain⟨q1,q2⟩:=q
   have e1:q1=p1:=e1
   subst e1
   rw[List.lookup_cons] at h ⊢
   by_cases hy:y=q1
   ·have hb:(y==q1)=true:=by simp[hy]
    rw[hb] at h ⊢
    have h':p2=k:=Option.some.inj h
    subst h'
    subst hy
    show some q2=_
    rw[hq]
   ·rw[beq_eq_false_iff_ne.mpr hy] at h ⊢
    exact zcZ h1 h
def rl(env:Env)(p:Str × NameKind):Str × NameKind:=if(p.2==NameKind.free && env.scope.kind == .function && env.kindOf p.1==some .cell)then(p.1,NameKind.cell)else(p.1,p.2)
theorem rl_fst(env:Env)(p:Str × NameKind):(rl env p).1=p.1:=by unfold rl;split <;> rfl
theorem rl_free(env:Env)(y:Str):(rl env (y,.free)).2=.cell∨(rl env (y,.free)).2=.free:=by
 unfold rl
 split
 ·exact .inl rfl
 ·exact .inr rfl
theorem rl_not(env:Env)(y:Str)(k:NameKind)(h:k ≠ .free):(rl env (y,k)).2=k:=by
 unfold rl
 have hb:(k==NameKind.free)=false:=by simpa using h
 simp[hb]
theorem zdj(scope:Scope)(env:Env):(relabel scope env).names=scope.names.map (rl env):=rfl
theorem zdO{env:Env}{scope:Scope}{y:Str}(hc:∀z∈scope.names,z.2 ≠ .cell)(h:(relabel scope env).names.lookup y=some .cell∨(relabel scope env).names.lookup y=some .free):(y,NameKind.free)∈scope.names:=by
 rw[zdj] at h
 have go:∀k,(k=.cell∨k=.free)→(scope.names.map (rl env)).lookup y=some k→(y,NameKind.free)∈scope.names:=fun k hk q=>by
  obtain⟨k0,m,e⟩:=zcF (rl_fst env) q
  by_cases hf:k0=.free
  ·rw[hf] at m;exact m
  ·rw[rl_not env y k0 hf] at e
   rcases hk with z | z
   ·exact absurd (e.trans z) (hc _ m)
   ·exact absurd (e.trans z) hf
 rcases h with h | h
 ·exact go _ (.inl rfl) h
 ·exact go _ (.inr rfl) h
theorem zdU{env:Env}{scope:Scope}{y:Str}(h:scope.names.lookup y=some .free):(relabel scope env).names.lookup y=some .cell∨(relabel scope env).names.lookup y=some .free:=by
 rw[zdj,zcZ (rl_fst env) h]
 rcases rl_free env y with z | z
 ·exact .inl (congrArg some z)
 ·exact .inr (congrArg some z)
def blk(X:Cx)(N:List Str)(scope:Scope)(cl:List (Str × Addr))(C:Addr)(s2:Shared)(H2:Hp)(fp:List Addr):Cx where
 prog:=X.prog
 w:=X.w
 K:=X.K
 mg:=X.mg
 base:=X.base
 A:=X.A
 N:=N
 s₀:=s2
 H₀:=H2
 env:=compEnvC scope cl C X.env
 outer:=X.stack
 stack:=X.stack
 ex:=fp
 fn:=fun _=>false
 calm:=X.calm
 pn := []
 xe:=fun _ _=>False
structure CompScope (sc:Scope) (N:List Str) (x:Str) (fr:List Str) (ix:List Nat) (scope:Scope):Prop where
 kind:scope.kind=.function
 nocell:∀y∈scope.names,y.2 ≠ .cell
 lcl:∀y∈scope.names,y.2=.local→scope.names.lookup y.1=some .local
 lx:scope.names.lookup x=some .local
 free:∀y∈scope.names,y.2=.free→sc.names.lookup y.1=some .cell∨sc.names.lookup y.1=some .free
 at':fr.map some=ix.map fun i=>N[i]?
 frk:∀y∈fr,scope.names.lookup y=some .free∧(sc.names.lookup y=some .cell∨sc.names.lookup y=some .free)
 nd:(x::fr).Nodup
def cap(ix:List Nat)(σ:St):St:=ix.map fun i=>(σ[i]?).join
section
variable {X:Cx} {pins:List (Addr × Obj)} {σ:St} {H:Hp} {s:Shared} {x:Str} {fr:List Str} {ix:List Nat} {scope:Scope} {cl:List (Str × Addr)} {fp:List Addr} {C D:Addr}
theorem blk_ok(S:CompScope X.env.scope X.N x fr ix scope)(I:Inv X pins σ H s)(hf:∀b∈fp,zaX X pins H b)(hfo:∀b∈fp,b<s.heap.objs.size)(hC:s.heap.objs.size≤C)
 (h1:∀y c,cl.lookup y=some c→X.env.cells.lookup y=some c) (h2:∀y,(y,NameKind.free)∈scope.names→∃c,cl.lookup y=some c):(blk X (x::fr) scope cl C s H fp).Ok where
 mod:=I.ok.mod
 kind:=S.kind
 glob:=I.ok.glob
 blt:=I.ok.blt
 above:=hC
 inj:=fun y z c a b=>I.ok.inj y z c (h1 y c a) (h1 z c b)
 has:=fun y hy=>h2 y (zdO (env:=X.env) (scope:=scope) S.nocell hy)
 cab:=fun y c h _=>Bool.noConfusion (show false=true from h)
 hd:=I.ok.hd
 frames:=I.ok.frames
 stk:=.inl rfl
 exf:=fun b hb=>⟨fun z=>absurd (hfo b hb) (by rw[z];exact Nat.not_lt.mpr hC),fun y c e=>(hf b hb).2.2.2.2.1 y c (h1 y c e)⟩
 bs:=I.bs
 bsz:=Nat.le_trans I.ok.bsz I.sz
 noex:=fun b o e hb=>by
  rcases (hf b hb).2.2.2.1 with z | z
  ·exact I.ok.noex b o e z
  ·exact absurd (Nat.lt_of_lt_of_le (Heap.lt_size e) (Nat.le_trans I.ok.bsz z)) (Nat.lt_irrefl _)
 exfs:=fun b hb z=>by
  rcases List.mem_cons.mp (I.stkSub b z)with e | e
  ·exact(hf b hb).2.1 e
  ·exact(hf b hb).2.2.1 e
 funs:=I.stack
 frf:=I.stkFree
theorem zjl:(cap ix σ).length=ix.length:=by unfold cap;rw[List.length_map]
theorem CompScope.len(S:CompScope X.env.scope X.N x fr ix scope):fr.length=ix.length:=by have:=congrArg List.length S.at';simpa using this
theorem blk_inv{s':Shared}{pn:List (Addr × Obj)}{m:Str→Option Value}(S:CompScope X.env.scope X.N x fr ix scope)(I:Inv X pins σ H s)(hf:∀b∈fp,zaX X pins H b)(hfo:∀b∈fp,b<s.heap.objs.size)(hC:s.heap.objs.size≤C)
 (h1:∀y c,cl.lookup y=some c→X.env.cells.lookup y=some c) (h2:∀y,(y,NameKind.free)∈scope.names→∃c,cl.lookup y=some c)
 (ho:s'.os=s.os) (hg:s'.gens=s.gens) (k:∀b o,s.heap.get? b=some o→s'.heap.get? b=some o) (hn:s'.heap.Ns C m)
 (hp:∀p∈pn,s'.heap.get? p.1=some p.2∧s.heap.objs.size≤p.1∧p.1≠C∧∀v,p.2.data ≠ .cell v) :
 Inv (blk X (x::fr) scope cl C s H fp) pn (none::cap ix σ) H s':=by
 obtain⟨mX,hnX,hlX⟩:=I.loc
 refine⟨blk_ok S I hf hfo hC h1 h2,ho,by rw[hg];exact I.bare,Un.kept k,⟨m,hn,fun i y v e1 e2 e3=>?_⟩,fun y c e=>?_,I.hok.fresh hC,fun y c e=>I.freeC y c (h1 y c e),fun p hp'=>?_,I.hok.kept k,by
  show(none::cap ix σ).length=(x::fr).length
  simp[zjl,S.len]⟩
 ·cases i with
  | zero=>cases e2
  | succ j =>
    have e1':fr[j]? = some y:=e1
    have e2':(cap ix σ)[j]? = some (some v):=e2
    obtain⟨f1,f2⟩:=S.frk y (List.mem_of_getElem? e1')
    unfold cap at e2'
    rw[List.getElem?_map] at e2'
    cases ei:ix[j]? with
    | none=>rw[ei] at e2';cases e2'
    | some i =>
      rw[ei] at e2'
      have e3':(σ[i]?).join=some v:=Option.some.inj e2'
      have e4:σ[i]? = some (some v):=by
       cases q:σ[i]? with
       | none=>rw[q] at e3';cases e3'
       | some w=>rw[q] at e3';have:w=some v:=e3';rw[this]
      have e5:X.N[i]? = some y:=by
       have:=congrArg (fun l=>l[j]?) S.at'
       simp only[List.getElem?_map,e1',ei] at this
       simpa using this.symm
      have vis:Vis X.env.scope y:=by
       rcases f2 with z | z
       ·exact .inr (.inl z)
       ·exact .inr (.inr z)
      obtain⟨u,r,l⟩:=hlX i y v e5 e4 vis
      refine⟨u,r,.inr ⟨zdU f1,?_⟩⟩
      rcases l with⟨z,_⟩ | ⟨_,c,ec,hc⟩
      ·rcases f2 with q | q
       ·have q':=(show X.env.scope.names.lookup y=some .local from z).symm.trans q;cases q'
       ·have q':=(show X.env.scope.names.lookup y=some .local from z).symm.trans q;cases q'
      ·obtain⟨c',hc'⟩:=h2 y (PySem.mem_of_lookup f1)
       have:c'=c:=by have:=h1 y c' hc';rw[ec] at this;exact(Option.some.inj this).symm
       subst this
       refine⟨c',hc',?_⟩
       obtain⟨o,ho',hd⟩:=hc
       exact⟨o,k _ _ ho',hd⟩
 ·obtain⟨v,o,ho',hd⟩:=I.cell y c (h1 y c e)
  exact⟨v,o,k _ _ ho',hd⟩
 ·have hp'':p∈pn:=by simpa [blk] using hp'
  obtain⟨q1,q2,q3,q4⟩:=hp p hp''
  refine⟨q1,I.hok.fresh q2,q3,fun z=>?_,q4⟩
  obtain⟨_,o,ho',_⟩:=I.stack.mem z
  exact absurd (Nat.lt_of_lt_of_le (Heap.lt_size ho') q2) (Nat.lt_irrefl _)
end
def PIf(X:Cx)(ifs:List Expr)(t:TT):Prop :=
 ∀(pins:List (Addr × Obj)) (s:Shared) (σ:St) (H:Hp) (Q:Bool→Hp→Prop),Inv X pins σ H s→t σ H Q →
  wpAny (model X.prog X.w) X.A (forIn ifs true fun c r=>if r=true then do let ok ← isTrue c X.env (eval c X.env);pure (ForInStep.yield ok)else pure (ForInStep.yield r)) (TP X pins σ Q) X.xe s
def zhH:TT:=fun _ H Q=>Q true H
theorem wd{X:Cx}:PIf X [] zhH:=fun _ _ _ H _ I h=>wpAny_tests_nil ⟨H,I,h⟩
theorem zbx{X:Cx}{c:Expr}{t:TT}(h:PT X c t):PIf X [c] t:=fun pins s σ H Q I q=>wpAny_tests_one (h pins s σ H Q I q)
def zdk(J:It)(c:St)(tc:TT)(te:TE)(H1:Hp)(fin:List V→Hp→Prop):Prop :=
 ∃W:Nat→Nat→List V→Hp→Prop,(∃m,W 0 m [] H1)∧∀i m ys H,W i m ys H →
  (J.stop i H∧ys.length≤sizeLine∧fin ys H) ∨
  (J.go i H∧ys.length<sizeLine∧∃N:List V→Hp→Prop,(∀ys' H',N ys' H'→∃m',m'<m∧W (i+1) m' ys' H')∧∀x H',J.yld i H x H'→tc (some x::c) H' fun b H2=>if b=true then te (some x::c) H2 fun y H3=>N (ys ++ [y]) H3 else N ys H2)
def tComp(ix:List Nat)(wi:TI)(tc:TT)(te:TE):TE:=fun σ H Q=>wi σ H fun J H1=>zdk J (cap ix σ) tc te H1 fun ys H2=>∀l,H2 l=none→Q (.ref l) (upd H2 l (.lst ys))
theorem zdK{prog:Program}{w:World}{A:Around}{R:Result→Shared→Prop}{s:Shared}{elt tg it0:Expr}{tests:List Expr}{scope:Scope}{pos:Pos}{it acc:Value}{env:Env}(J:Nat→Shared→Prop)
 (turn:∀n s,J n s→wpAny (model prog w) A (pyNext it) (fun r s1=>match r with
   | none=>R (.ok .next) s1
   | some v=>wpAny (model prog w) A (letOwnedTupleGo tg it v) (fun _ s2=>wpAny (model prog w) A (assign tg env v) (fun _ s3 =>
      wpAny (model prog w) A (forIn tests true fun c r=>if r=true then do let ok ← isTrue c env (eval c env);pure (ForInStep.yield ok)else pure (ForInStep.yield r)) (fun ok s4 =>
       if ok=true then wpAny (model prog w) A (eval elt env) (fun x s5 =>
        wpAny (model prog w) A (call (.builtin "list.append") [acc,x]) (fun _ s6=>∃m,m<n∧J m s6) (fun _ _=>False) s5) (fun _ _=>False) s4
       else ∃m,m<n∧J m s4) (fun _ _=>False) s3) (fun _ _=>False) s2) (fun _ _=>False) s1) (fun _ _=>False) s)
 (n:Nat) (h:J n s):codeAny (model prog w) A (.compLoop (.ListComp elt [⟨tg,it0,tests,0⟩] scope pos) 0 it acc env) R s:=by
 have up:∀{α:Type} {t:Sem α} {q q':α→Shared→Prop} {E':Value→Shared→Prop} {s:Shared},wpAny (model prog w) A t q (fun _ _=>False) s→(∀a s,q a s→q' a s)→wpAny (model prog w) A t q' E' s:=fun h k=>wpAny_mono h k fun _ _ z=>False.elim z
 refine codeAny_loop rfl J (fun n s hJ=>?_) n h
 show wpAny _ A ((compTurn (.ListComp elt [⟨tg,it0,tests,0⟩] scope pos) 0 it acc env).onRaise (fun x=>do noteFrame x env;theTreesLotGoes x)) _ _ s
 refine wpAny_noted ?_
 rw[compTurn_list]
 refine wpAny_bind (wpAny_standAt (wpAny_bind (up (turn n s hJ) fun r s1 h1=>?_)))
 cases r with
 | none=>exact wpAny_pure h1
 | some v =>
   refine wpAny_bind (up h1 fun _ s2 h2=>wpAny_bind (up h2 fun _ s3 h3=>wpAny_bind (up h3 fun ok s4 h4=>?_)))
   cases ok with
   | false=>exact wpAny_pure ⟨rfl,h4⟩
   | true =>
     exact wpAny_bind (wpAny_bind (up h4 fun x s5 h5=>wpAny_bind (up h5 fun _ s6 h6=>wpAny_pure (wpAny_pure ⟨rfl,h6⟩))))
section
variable {X:Cx} {x:Str} {fr:List Str} {ix:List Nat} {scope:Scope} {elt iter:Expr} {ifs:List Expr} {px pos:Pos} {wi:TI} {tc:TT} {te:TE}
theorem zhV{use:Option (Value→Sem Unit)}{Q:Value→Shared→Prop}{pins:List (Addr × Obj)}{s2:Shared}{σ:St}{H2:Hp}{it:Addr}{fp:List Addr}{tn:Nat→Heap→Prop}{J:It}{cl:List (Str × Addr)}(S:CompScope X.env.scope X.N x fr ix scope)(hc:X.calm=true)
 (hif:∀cl C s2 H2 fp,PIf (blk X (x::fr) scope cl C s2 H2 fp) ifs tc) (he:∀cl C s2 H2 fp,PE (blk X (x::fr) scope cl C s2 H2 fp) elt te)
 (h1:∀y c,cl.lookup y=some c→X.env.cells.lookup y=some c) (h2:∀y,(y,NameKind.free)∈scope.names→∃c,cl.lookup y=some c)
 (I2:Inv X pins σ H2 s2) (T:Turn X.prog X.w X.K (.Name x px) J fp it tn) (st2:tn 0 s2.heap) (f2:∀b∈fp,zaX X pins H2 b) {fin:List V→Hp→Prop} (wc:zdk J (cap ix σ) tc te H2 fin)
 (hQ:∀(D C:Addr) (ys:List V) (H':Hp) (s':Shared) (m:Str→Option Value),Inv X pins σ (upd H' D (.lst ys)) s'→H' D=none→s'.heap.Ns C m→D≠C→s2.heap.objs.size≤C→H' C=none→fin ys H' →
   compPost (model X.prog X.w) X.A X.xe use Q (.ref D) C (.ok .next) s') :
 wpAny (model X.prog X.w) X.A (newList []) (fun acc s₃=>wpAny (model X.prog X.w) X.A (newFunctionEnv scope X.env.globals cl [] X.env.qual none .none (some X.env)) (fun cenv s₄ =>
  codeAny (model X.prog X.w) X.A (.compStart (.ListComp elt [⟨.Name x px,iter,ifs,0⟩] scope pos) 0 (.ref it) acc { cenv with scope:=relabel scope X.env }) (compPost (model X.prog X.w) X.A X.xe use Q acc cenv.locals) s₄) X.xe s₃) X.xe s2:=by
 have hfo:∀b∈fp,b<s2.heap.objs.size:=fun b hb=>by
  obtain⟨o,e,_⟩:=T.obj 0 _ st2 b hb
  exact Heap.lt_size e
 refine wpAny_newObj_type (wpAny_newFunctionEnv S.nocell (by intro y hy;simp at hy) (fun h₁ hns₁ hsb₁=>?_) S.kind)
 dsimp only at hns₁ hsb₁ ⊢
 generalize hHp:s2.heap.push { cls:=.type "list",dict:=none,data:=.seq ([]:List Value).toArray }=Hp2 at hns₁ hsb₁ ⊢
 have hCs:Hp2.objs.size=s2.heap.objs.size+1:=by rw[← hHp,Heap.size_push]
 have hDC:s2.heap.objs.size≠Hp2.objs.size:=by rw[hCs];exact Nat.ne_of_lt (Nat.lt_succ_self _)
 have hCle:s2.heap.objs.size≤Hp2.objs.size:=by rw[hCs];exact Nat.le_succ _
 have zhy:∀b,b<s2.heap.objs.size→b≠Hp2.objs.size:=fun b hb=>by rw[hCs];exact Nat.ne_of_lt (Nat.lt_succ_of_lt hb)
 have old:∀b o,s2.heap.get? b=some o→h₁.get? b=some o:=fun b o e=>hsb₁.extBut b o (zhy b (Heap.lt_size e)) (Heap.get?_push_of_some _ (hHp ▸ Heap.get?_push_of_some _ e))
 have hacc:h₁.get? s2.heap.objs.size=some { cls:=.type "list",data:=.seq ([]:List Value).toArray 0 }:=hsb₁.extBut _ _ hDC (Heap.get?_push_of_some _ (hHp ▸ Heap.get?_push_size _ rfl))
 have st1:tn 0 h₁:=T.keep 0 _ _ st2 fun b _ o e=>old b o e
 have fpD:∀b∈fp,b≠s2.heap.objs.size:=fun b hb=>Nat.ne_of_lt (hfo b hb)
 generalize hD:s2.heap.objs.size=D at hacc hDC fpD ⊢
 have hDle:s2.heap.objs.size≤D:=Nat.le_of_eq hD
 generalize hC:Hp2.objs.size=C at hns₁ hsb₁ hDC hCle ⊢
 have oldD:∀b o,s2.heap.get? b=some o→b≠D:=fun b o e z=>absurd (Heap.lt_size e) (by rw[z,← hD];exact Nat.lt_irrefl _)
 obtain⟨W,⟨m0,w0⟩,turn⟩:=wc
 have loop:∀s₃:Shared,s₃={ s2 with heap:=h₁,toks:=s2.toks+([]:List (Str × Value)).length } →
  codeAny (model X.prog X.w) X.A (.compLoop (.ListComp elt [⟨.Name x px,iter,ifs,0⟩] scope pos) 0 (.ref it) (.ref D) (compEnvC scope cl C X.env))
   (compPost (model X.prog X.w) X.A X.xe use Q (.ref D) C) s₃:=by
  rintro s₃ rfl
  have I0:Inv (blk X (x::fr) scope cl C s2 H2 fp) [(D,{ cls:=.type "list",data:=.seq ([]:List Value).toArray 0 })] (none::cap ix σ) H2 { s2 with heap:=h₁,toks:=s2.toks+([]:List (Str × Value)).length } :=
   blk_inv S I2 f2 hfo hCle h1 h2 rfl rfl old hns₁ (fun p hp=>by
    have e:p=(D,{ cls:=.type "list",data:=.seq ([]:List Value).toArray 0 }):=by simpa using hp
    subst e
    exact⟨hacc,hDle,hDC,fun v z=>by cases z⟩)
  have stat:∀{its:Obj} {H':Hp},(∀b∈fp,H' b=none)→∀b∈fp,zaX (blk X (x::fr) scope cl C s2 H2 fp) [(D,its)] H' b:=fun {its H'} hn b hb=>by
   refine⟨hn b hb,fun z=>?_,fun z=>(I0.ok.exfs b hb z),.inl hb,fun y c e=>(I0.ok.exf b hb).2 y c e,fun p hp z=>?_⟩
   ·exact(I0.ok.exf b hb).1 z
   ·have e:p=(D,its):=by simpa [blk] using hp
    subst e
    exact fpD b hb (Eq.symm z)
  refine zdK (env:=compEnvC scope cl C X.env)
   (fun n s'=>∃i ys its k v0 H',zG ys its∧Inv (blk X (x::fr) scope cl C s2 H2 fp) [(D,{ cls:=.type "list",data:=.seq its.toArray k })] (v0::cap ix σ) H' s'∧tn i s'.heap∧(∀b∈fp,H' b=none)∧W i n ys H') ?_ m0
   ⟨0,[],[],0,none,H2,.nil,I0,st1,fun b hb=>(f2 b hb).1,w0⟩
  rintro n s3 ⟨i,ys,its,k,v0,H3,rv,I3,st3,fr3,w3⟩
  rcases turn i n ys H3 w3 with⟨stop,hz,hfin⟩ | ⟨go,hz,N,hN,step⟩
  ·refine thn (T.done (blk X (x::fr) scope cl C s2 H2 fp) rfl rfl rfl hc i _ s3 _ H3 _ I3 (stat fr3) st3 stop) fun r s4 ⟨hr,I4⟩=>?_
   subst hr
   have pD:=I4.pin (D,{ cls:=.type "list",data:=.seq its.toArray k }) (by simp[blk])
   obtain⟨mC,hnC,_⟩:=I4.loc
   have hH3D:H3 D=none:=pD.2.1
   have hok':HOk X.prog X.w (upd H3 D (.lst ys)) s4.heap:=fun b u e=>by
    by_cases hb:b=D
    ·subst hb
     rw[zg] at e;cases e
     exact⟨hz,its,k,rv,pD.1⟩
    ·rw[zj hb] at e
     exact(I4.hok b u e).stay (fun c v _ q=>q) (fun c q=>by rw[zj (zu q hH3D)];exact q) fun c xs q=>by rw[zj (zu q hH3D)];exact q
   have b4:Un (frs X.stack) fp H2 H3 s2.heap s4.heap:=I4.base
   have un:Un (frs X.stack) fp H2 (upd H3 D (.lst ys)) s2.heap s4.heap :=
    ⟨b4.keep,b4.slot,fun b o q n hx=>by
     rw[zj (oldD b o q)];exact b4.free b o q n hx,b4.there,fun b xs q=>by rw[zj (zu (b4.tups b xs q) hH3D)];exact b4.tups b xs q,
     fun b o u q=>by rw[zj (zu (b4.frzs b o u q) hH3D)];exact b4.frzs b o u q,fun b ps q=>by
      obtain⟨more,e⟩:=b4.tbls b ps q
      exact⟨more,by rw[zj (zu e hH3D)];exact e⟩⟩
   have I5:Inv X pins σ (upd H3 D (.lst ys)) s4:=I2.call' (ch:=fp) I4.os un hok' I4.bare fun b hb=>by
    obtain⟨g0,g1,g2,g3,g4,g5⟩:=f2 b hb
    exact⟨g3,g1,g4,g5⟩
   exact hQ D C ys H3 s4 mC I5 hH3D hnC hDC hCle I4.free hfin
  ·refine thn (T.item (blk X (x::fr) scope cl C s2 H2 fp) rfl rfl rfl hc i _ s3 _ H3 _ I3 (stat fr3) st3 go) fun r s4 ⟨u,hr,h4⟩=>?_
   subst hr
   refine thn h4 fun _ s5 ⟨y,H5,I5,r5,y5,st5,fr5⟩=>?_
   have I5':=I5.pinned (stat fr5) (T.obj _ _ st5)
   have pg:PG (blk X (x::fr) scope cl C s2 H2 fp) (.Name x px) (zfQ 0):=yu S.nd rfl (.inl (lookup_relabel_local S.lx)) (.inr (lookup_relabel_local S.lx))
   refine thn (pg _ s5 _ H5 y u (fun σ6 H6=>σ6=some y::cap ix σ∧H6=H5) I5' r5 ⟨rfl,rfl⟩) fun _ s6 ⟨σ6,H6,I6,e6,e6'⟩=>?_
   subst e6 e6'
   refine thn (hif cl C s2 H2 fp _ s6 _ _ _ I6 (step y _ y5)) fun b s7 ⟨H7,I7,q7⟩=>?_
   have again:∀{s8:Shared} {H8:Hp} {its':List Value} {k':Nat} {ys':List V},zG ys' its'→Inv (blk X (x::fr) scope cl C s2 H2 fp) [(D,{ cls:=.type "list",data:=.seq its'.toArray k' })] (some y::cap ix σ) H8 s8→(∀b∈fp,∀o,s5.heap.get? b=some o→s8.heap.get? b=some o)→(∀b∈fp,H8 b=none)→N ys' H8 →
    ∃m,m<n∧∃i ys its k v0 H',zG ys its∧Inv (blk X (x::fr) scope cl C s2 H2 fp) [(D,{ cls:=.type "list",data:=.seq its.toArray k })] (v0::cap ix σ) H' s8∧tn i s8.heap∧(∀b∈fp,H' b=none)∧W i m ys H' :=
    fun {s8 H8 its' k' ys'} rv8 I8 kp fr8 nn=>let ⟨m',hm,w8⟩:=hN ys' H8 nn;⟨m',hm,i+1,ys',its',k',some y,H8,rv8,I8,T.keep _ _ _ st5 kp,fr8,w8⟩
   cases b with
   | false =>
     rw[if_neg Bool.false_ne_true] at q7 ⊢
     refine again rv I7.unpinned (fun b hb o e=>(I7.pin (b,o) (by simp[blk];exact .inr (wF hb e))).1) (fun b hb=>?_) q7
     obtain⟨o,e,d⟩:=T.obj _ _ st5 b hb
     exact(I7.pin (b,o) (by simp[blk];exact .inr (wF hb e))).2.1
   | true =>
     rw[if_pos rfl] at q7 ⊢
     refine thn (he cl C s2 H2 fp _ s7 _ _ _ I7 q7) fun v s8 ⟨z,H8,I8,r8,q8⟩=>?_
     have pD:=I8.pin (D,{ cls:=.type "list",data:=.seq its.toArray k }) (by simp[blk])
     have hvl:ys.length=its.length:=rv.length
     refine append_at (hsz:=by show its.toArray.size≤sizeLine;rw[List.size_toArray];omega) pD.1 fun h₉ hs₉ hD₉=>?_
     have eo:({ cls:=.type "list",data:=.seq (its.toArray.push v) (k+1) }:Obj)={ cls:=.type "list",data:=.seq (its ++ [v]).toArray (k+1) }:=by rw[List.push_toArray]
     rw[eo] at hD₉
     have pn8:∀b∈fp,∀o,s5.heap.get? b=some o→s8.heap.get? b=some o∧H8 b=none:=fun b hb o e=>by
      have q:=I8.pin (b,o) (by simp[blk];exact .inr (wF hb e))
      exact⟨q.1,q.2.1⟩
     have J8:=I8.unpinned.pins_of (pins' := []) (fun p hp=>by cases hp)
     have f2D:zaX (blk X (x::fr) scope cl C s2 H2 fp) [] H8 D:=⟨pD.2.1,pD.2.2.1,pD.2.2.2.1,.inr hDle,fun y c e z=>by
      obtain⟨v,o,ho,_⟩:=I2.cell y c (h1 y c e)
      exact oldD c o ho z,fun p hp=>by cases hp⟩
     have I9:Inv (blk X (x::fr) scope cl C s2 H2 fp) [] (some y::cap ix σ) H8 { s8 with heap:=h₉ }:=J8.turned (t':=s8.toks) (it:=D) (fun b o hb e=>(hs₉.2 b hb).trans e) f2D.1 f2D.2.1 f2D.2.2.2.1 f2D.2.2.2.2.1 f2D.2.2.2.2.2
     refine again (its':=its ++ [v]) (k':=k+1) (ys':=ys ++ [z]) (rv.append (.cons r8 .nil)) (I9.pins_of fun p hp=>?_) (fun b hb o e=>(hs₉.2 b (fpD b hb)).trans (pn8 b hb o e).1) (fun b hb=>?_) q8
     ·have e:p=(D,{ cls:=.type "list",data:=.seq (its ++ [v]).toArray (k+1) }):=by simpa using hp
      subst e
      exact⟨hD₉,f2D.1,f2D.2.1,f2D.2.2.1,fun v z=>by cases z⟩
     ·obtain⟨o,e,d⟩:=T.obj _ _ st5 b hb
      exact(pn8 b hb o e).2
 exact codeAny_compStart_list (loop _ rfl) (T.self X.A 0 _ _ _ st1 (loop _ rfl))
theorem yf(S:CompScope X.env.scope X.N x fr ix scope)(hc:X.calm=true)(hi:PI X (.Name x px) iter wi)(hif:∀cl C s2 H2 fp,PIf (blk X (x::fr) scope cl C s2 H2 fp) ifs tc)(he:∀cl C s2 H2 fp,PE (blk X (x::fr) scope cl C s2 H2 fp) elt te)
 (hs:∀x,foldedSetIterable iter X.env x=pure x:=by intro _;rfl):PE X (.ListComp elt [⟨.Name x px,iter,ifs,0⟩] scope pos) (tComp ix wi tc te):=by
 intro pins s σ H Q I h
 obtain⟨cl,ecl,h1,h2⟩:=zcr (env:=X.env) (scope:=scope) fun y hy hf=>I.ok.has y.1 (S.free y hy hf)
 rw[eval_ListComp]
 refine wpAny_comprehension_free (use:=none) rfl hs ecl S.kind S.lcl (thn (hi pins s σ H _ I h) fun xv s1 q1=>thn q1 fun itv s2 q2=>?_)
 obtain⟨it,fp,tn,J,H2,rfl,I2,T,st2,f2,wc⟩:=q2
 refine zhV S hc hif he h1 h2 I2 T st2 f2 wc fun D C ys H' s' m I' hD hn hDC hC hHC fin=>?_
 refine⟨m,hn,fun h' sb=>⟨.ref D,upd H' D (.lst ys),?_,rfl,fin D hD⟩⟩
 have hcf:zaX X pins (upd H' D (.lst ys)) C:=by
  have z:=I2.fpOk (H':=upd H' D (.lst ys)) hC (by rw[zj (Ne.symm hDC)];exact hHC)
  exact z
 exact I'.turned (t':=s'.toks) (it:=C) (fun b o hb e=>(sb.2 b hb).trans e) hcf.1 hcf.2.1 hcf.2.2.2.1 hcf.2.2.2.2.1 hcf.2.2.2.2.2
theorem zdw{i:Nat}{y:Str}{py spos:Pos}(S:CompScope X.env.scope X.N x fr ix scope)(hc:X.calm=true)(hN:X.N.Nodup)(hiy:X.N[i]? = some y)(hy:Loc X.env.scope y)(hi:PI X (.Name x px) iter wi)(hif:∀cl C s2 H2 fp,PIf (blk X (x::fr) scope cl C s2 H2 fp) ifs tc)(he:∀cl C s2 H2 fp,PE (blk X (x::fr) scope cl C s2 H2 fp) elt te)
 (hsw:swapsWith (.ListComp elt [⟨.Name x px,iter,ifs,0⟩] scope pos) (some (.Name y py)) spos.line X.env=pure true:=by rfl)
 (hf:X.fn y=true∨X.env.scope.names.lookup y=some .local:=by first | exact .inl rfl | exact .inr rfl | assumption)
 (hs:∀x,foldedSetIterable iter X.env x=pure x:=by intro _;rfl) :
 PS X (.Assign [.Name y py] (.ListComp elt [⟨.Name x px,iter,ifs,0⟩] scope pos) spos) (tAsg (tComp ix wi tc te) (zfQ i)):=by
 intro pins s σ H Dn I h
 obtain⟨cl,ecl,h1,h2⟩:=zcr (env:=X.env) (scope:=scope) fun y hy hf=>I.ok.has y.1 (S.free y hy hf)
 rw[exec_Assign_Name_used _ _ _ _ hsw]
 refine wpAny_bind (wpAny_standAt (wpAny_bind ?_))
 show wpAny _ X.A (do let _ ← comprehension (.ListComp elt [⟨.Name x px,iter,ifs,0⟩] scope pos) scope X.env _ (newList []) false (eval iter X.env) (some (assign (.Name y py) X.env))) _ _ s
 refine wpAny_bind (thn (Q:=fun _ s'=>SP X pins Dn .next s') ?_ fun _ s' q=>wpAny_pure (wpAny_pure q))
 refine wpAny_comprehension_free (use:=some (assign (.Name y py) X.env)) rfl hs ecl S.kind S.lcl (thn (hi pins s σ H _ I h) fun xv s1 q1=>thn q1 fun itv s2 q2=>?_)
 obtain⟨it,fp,tn,J,H2,rfl,I2,T,st2,f2,wc⟩:=q2
 refine zhV S hc hif he h1 h2 I2 T st2 f2 wc fun D C ys H' s' m I' hD hn hDC hC hHC fin=>?_
 have hcf:zaX X pins (upd H' D (.lst ys)) C:=I2.fpOk (H':=upd H' D (.lst ys)) hC (by rw[zj (Ne.symm hDC)];exact hHC)
 show wpAny _ X.A (assign (.Name y py) X.env (.ref D)) _ _ s'
 refine wpAny_assign_Name (zej (v:=V.ref D) I' hN hiy hy rfl (fun s'' I'' hsb=>?_) hf)
 obtain⟨a,sb,ha⟩:=hsb
 have hCa:C≠a:=fun z=>by
  rcases ha with q | q
  ·exact hcf.2.1 (z.trans q)
  ·exact hcf.2.2.2.2.1 y a q z.symm
 refine⟨m,hn.sameBut sb hCa,fun h' sb'=>⟨_,_,I''.turned (t':=s''.toks) (it:=C) (fun b o hb e=>(sb'.2 b hb).trans e) hcf.1 hcf.2.1 hcf.2.2.2.1 hcf.2.2.2.2.1 hcf.2.2.2.2.2,fin D hD⟩⟩
end
section
variable {X:Cx}
def ixV(xs:List V)(y:V):Nat:=xs.findIdx fun z=>eqV z y
theorem zhP{x:V}:∀{xs:List V} {us:List Value},zG xs us→xs.all zaB=true→us.findIdx (eqU x)=xs.findIdx fun y=>eqV y x
 | _,_,.nil,_=>rfl
 | y::xs,u::us,.cons r t,f=>by
   rw[List.all_cons,Bool.and_eq_true] at f
   rw[List.findIdx_cons,List.findIdx_cons,zi1 r f.1,zhP t f.2]
def rIndex(K:PySem.W.Frag):V→List V→Hp→VK→Prop:=fun x vs H Q=>∃l xs y,x=.ref l∧vs = [y]∧SqL K H l xs∧zaB y=true∧xs.all zaB=true∧ixV xs y<xs.length∧Q (.int (ixV xs y:Nat)) H
theorem ziR:(sizeLine:Int)<2 ^ 63 - 1:=by decide
theorem zdQ:MtM X "list.index" (rIndex X.K):=by
 intro pins s σ H x vs v us Q I rx rv h
 obtain⟨l,xs,y,rfl,rfl,hH,fy,fs,hj,q⟩:=h
 cases rx
 obtain⟨u,rfl,ru⟩:=rv.one
 obtain⟨its,r,⟨⟨oc,od,dt,sl⟩,n,e,c1,c2,c3⟩,z⟩:=I.list hH
 simp only at c1 c2 c3
 subst c1 c2 c3
 have hl:=r.length
 have ef:=zhP (x:=y) r fs
 have hj':its.findIdx (eqU y)<its.length:=by rw[ef,← hl];exact hj
 refine call_meets F.slot_list_index ⟨_,e,rfl⟩ F.entry_list_index (F.args_list_index_2 _ _)
  (SeqAt.list_indexAt l its.toArray n none sl u (eqU y) (its.findIdx (eqU y)) (by simpa using hj') (by have:=ziR;omega) (by simpa using List.findIdx_getElem (w:=hj')) (fun m hm hlt=>by simpa using List.not_of_lt_findIdx hlt)) ⟨e,fun w hw=>zdL ru fy r fs w (by simpa using hw),?_⟩
 refine⟨.int (ixV xs y:Nat),H,I.tok _,⟨s.toks,?_⟩,q⟩
 rw[ef];rfl
def isInt:V→Option Bool
 | .int _=>some true
 | .bl _=>some true
 | .str _=>some false
 | .non=>some false
 | _=>none
def isBool:V→Option Bool
 | .int _=>some false
 | .bl _=>some true
 | .str _=>some false
 | .non=>some false
 | _=>none
def isStr:V→Option Bool
 | .int _=>some false
 | .bl _=>some false
 | .str _=>some true
 | .non=>some false
 | _=>none
inductive IsLst (K:PySem.W.Frag) (H:Hp):V→Bool→Prop
 | yes {a:Addr} {xs:List V}:SqL K H a xs→IsLst K H (.ref a) true
 | no {a:Addr} {xs:List V}:SqT K H a xs→IsLst K H (.ref a) false
theorem zg2:zas X (.builtin "isinstance") (fun xs H Q=>∃x b,xs = [x,.ty "int"]∧isInt x=some b∧Q (.bl b) H):=by
 intro pins s σ H xs us Q I r h
 obtain⟨x,b,rfl,e,q⟩:=h
 obtain⟨u,t,rfl,ru,rt⟩:=r.two
 cases rt
 cases x with
 | int i=>obtain⟨t',rfl⟩:=ru;cases e;exact IsiPair.int_int ⟨.bl true,H,I,rfl,q⟩
 | bl i=>cases ru;cases e;exact IsiPair.bool_int ⟨.bl true,H,I,rfl,q⟩
 | str i=>obtain⟨t',rfl⟩:=ru;cases e;exact IsiPair.str_int ⟨.bl false,H,I.tok _,rfl,q⟩
 | non=>cases ru;cases e;exact IsiPair.NoneType_int ⟨.bl false,H,I.tok _,rfl,q⟩
 | _=>cases e
theorem zdp:zas X (.builtin "isinstance") (fun xs H Q=>∃x b,xs = [x,.ty "bool"]∧isBool x=some b∧Q (.bl b) H):=by
 intro pins s σ H xs us Q I r h
 obtain⟨x,b,rfl,e,q⟩:=h
 obtain⟨u,t,rfl,ru,rt⟩:=r.two
 cases rt
 cases x with
 | int i=>obtain⟨t',rfl⟩:=ru;cases e;exact IsiPair.int_bool ⟨.bl false,H,I.tok _,rfl,q⟩
 | bl i=>cases ru;cases e;exact IsiPair.bool_bool ⟨.bl true,H,I,rfl,q⟩
 | str i=>obtain⟨t',rfl⟩:=ru;cases e;exact IsiPair.str_bool ⟨.bl false,H,I.tok _,rfl,q⟩
 | non=>cases ru;cases e;exact IsiPair.NoneType_bool ⟨.bl false,H,I.tok _,rfl,q⟩
 | _=>cases e
theorem zgT:zas X (.builtin "isinstance") (fun xs H Q=>∃x b,xs = [x,.ty "str"]∧isStr x=some b∧Q (.bl b) H):=by
 intro pins s σ H xs us Q I r h
 obtain⟨x,b,rfl,e,q⟩:=h
 obtain⟨u,t,rfl,ru,rt⟩:=r.two
 cases rt
 cases x with
 | int i=>obtain⟨t',rfl⟩:=ru;cases e;exact IsiPair.int_str ⟨.bl false,H,I.tok _,rfl,q⟩
 | bl i=>cases ru;cases e;exact IsiPair.bool_str ⟨.bl false,H,I.tok _,rfl,q⟩
 | str i=>obtain⟨t',rfl⟩:=ru;cases e;exact IsiPair.str_str ⟨.bl true,H,I,rfl,q⟩
 | non=>cases ru;cases e;exact IsiPair.NoneType_str ⟨.bl false,H,I.tok _,rfl,q⟩
 | _=>cases e
theorem zbW:zas X (.builtin "isinstance") (fun xs H Q=>∃x b,xs = [x,.ty "list"]∧IsLst X.K H x b∧Q (.bl b) H):=by
 intro pins s σ H xs us Q I r h
 obtain⟨x,b,rfl,e,q⟩:=h
 obtain⟨u,t,rfl,ru,rt⟩:=r.two
 cases rt
 cases e with
 | yes hq =>
   cases ru
   obtain⟨its,r,⟨o,n,e,c1,c2,c3⟩,z⟩:=I.list hq
   exact IsiPair.list_list e c1 ⟨.bl true,H,I,rfl,q⟩
 | no hq =>
   cases ru
   obtain⟨its,r,⟨o,e,c1,n,c3⟩,z⟩:=I.tuple hq
   exact IsiPair.tuple_list e c1 ⟨.bl false,H,I.tok _,rfl,q⟩
def tRev(K:PySem.W.Frag)(te ts:TE):TE:=fun σ H Q=>te σ H fun x H1=>ts σ H1 fun y H2=>y=.int (-1)∧∃a xs,x=.ref a∧SqL K H2 a xs∧∀p,H2 p=none→Q (.ref p) (upd H2 p (.lst xs.reverse))
theorem pe_rev{e st:Expr}{te ts:TE}{p2 pos:Pos}(he:PE X e te)(hst:PE X st ts):PE X (.Subscript e (.Slice none none (some st) p2) pos) (tRev X.K te ts):=by
 intro pins s σ H Q I h
 refine Subscript_ (thn (he pins s σ H _ I h) fun v s1 ⟨x,H1,I1,r1,q1⟩=>?_)
 refine wpAny_Slice ?_
 rw[evalPart_none]
 refine wpAny_pure (wpAny_pure ?_)
 rw[evalPart_some]
 refine thn (hst pins s1 σ H1 _ I1 q1) fun u s3 ⟨y,H3,I3,r3,q3⟩=>?_
 obtain⟨rfl,a,xs,rfl,hx,q⟩:=q3
 obtain⟨t,rfl⟩:=r3
 cases r1
 have I4:Inv X pins σ H3 { s3 with heap:=s3.heap.push { cls:=.type "slice",data:=.fields #[.none,.none,.int (-1) t] } }:=I3.kept (t':=s3.toks) fun b ob q=>Heap.get?_push_of_some _ q
 obtain⟨its,r,ht,hz⟩:=I4.list hx
 have hlen:=r.length
 show wpAny (model X.prog X.w) X.A (subscriptTail e (.Slice none none (some st) p2) (.ref a) (.ref s3.heap.objs.size)) (EP X pins σ Q) X.xe { s3 with heap:=s3.heap.push { cls:=.type "slice",data:=.fields #[.none,.none,.int (-1) t] } }
 refine tail_any (ops := [.ref a,.ref s3.heap.objs.size]) ht.isList.typeIs slot_list_getitem.lookup ?_ (by with_unfolding_all rfl)
 refine wpAny_getItem_list_slice ht.isList (Heap.IsSliceOf.new ..) .none .none (.int (-1) t) (by decide) ?_ (by rw[List.size_toArray] <;> omega)
 rw[PySem.W.krv_pick]
 refine⟨.ref _,_,I4.laid (t':=s3.toks) (o:=.lst xs.reverse) (fun b ob q=>Heap.get?_push_of_some _ q) (Nat.le_refl _) ?_,rfl,q _ (I4.hok.fresh (Nat.le_refl _))⟩
 exact⟨by rw[List.length_reverse];exact hz,_,0,r.reverse,Heap.get?_push_size _ rfl⟩
end
structure Can (P:Program) (w:World) (K:PySem.W.Frag) (mg:Str→Option Value) (base:Heap) (k:Nat) (x:Str) (ps:List Str) (sp:Sp):Prop where
 ex:∃f fd,FnOk P w K mg base CX0 k f fd ps sp∧mg x=some (.ref f)∧PySem.W.keepIn K (.ref f)=true∧zaD K fd ps []
theorem Can.of{P:Program}{w:World}{K:PySem.W.Frag}{mg:Str→Option Value}{base:Heap}{k:Nat}{x:Str}{ps:List Str}{sp:Sp}{f:Addr}{fd:FuncData}{qual:Str}{st:Stmt}
 (F:Fun K x qual st f fd) (G:FnOk P w K mg base CX0 k f fd ps sp) (hm:mg x=some (.ref f)) (b:zaD K fd ps []):Can P w K mg base k x ps sp:=⟨f,fd,G,hm,F.kp,b⟩
section
variable {X:Cx} {k:Nat} {x:Str} {ps:List Str} {sp:Sp} {p pos:Pos} {e:Expr} {es:List Expr} {t:TA}
theorem zk(C:Can X.prog X.w X.K X.mg X.base k x ps sp)(hr:Room k X.A)(hg:Gl X x)(ha:PA X (e::es) t)(hdb:(x==("__debug__" : Str))=false:=by decide)(he:starEach (e::es) X.env=(false,eval e X.env)::starEach es X.env:=by rfl)
 (hpl:(backTo pos (starEach es X.env)).any (·.1)=false:=by rfl):PE X (.Call (.Name x p) (e::es) [] pos) (tCall sp [] E0 t):=by
 obtain⟨f,fd,F,hm,hk,hb⟩:=C.ex
 exact pe_call F hr hg hm hk hb .nil pass0 ha hdb he hpl
end
theorem wX{K:PySem.W.Frag}{a:Addr}{xs:List V}{c:St}{tc:TT}{te:TE}{H:Hp}{fin:List V→Hp→Prop}(Pv:Nat→List V→Hp→Prop)(h0:Pv 0 [] H)(hl:∀i ys H,i≤xs.length→Pv i ys H→SqL K H a xs∧ys.length≤i)(hz:xs.length≤sizeLine)
 (hs:∀i x ys H,xs[i]? = some x→Pv i ys H→tc (some x::c) H fun b H2=>if b=true then te (some x::c) H2 fun y H3=>Pv (i+1) (ys ++ [y]) H3 else Pv (i+1) ys H2)
 (hd:∀ys H,Pv xs.length ys H→fin ys H):zdk (Itl K a) c tc te H fin:=by
 refine⟨fun i m ys H=>m=xs.length - i∧i≤xs.length∧Pv i ys H,⟨xs.length,by simp,Nat.zero_le _,h0⟩,?_⟩
 rintro i m ys H ⟨rfl,hi,p⟩
 obtain⟨q,hy⟩:=hl i ys H hi p
 by_cases hlt:i<xs.length
 ·refine .inr ⟨⟨xs,xs[i],q,by simp[hlt]⟩,by omega,Pv (i+1),fun ys' H' p'=>⟨_,by omega,rfl,hlt,p'⟩,fun x H' y=>?_⟩
  obtain⟨e,y⟩:=y
  subst e
  exact hs i x ys _ (y xs q) p
 ·have e:i=xs.length:=by omega
  subst e
  exact .inl ⟨⟨xs,q,Nat.le_refl _⟩,by omega,hd ys H p⟩
theorem zfn{lo:Int}{n:Nat}{c:St}{tc:TT}{te:TE}{H:Hp}{fin:List V→Hp→Prop}(Pv:Nat→List V→Hp→Prop)(h0:Pv 0 [] H)(hl:∀i ys H,i≤n→Pv i ys H→ys.length≤i)(hz:n≤sizeLine)
 (hs:∀i ys H,i<n→Pv i ys H→tc (some (.int (lo+i))::c) H fun b H2=>if b=true then te (some (.int (lo+i))::c) H2 fun y H3=>Pv (i+1) (ys ++ [y]) H3 else Pv (i+1) ys H2)
 (hd:∀ys H,Pv n ys H→fin ys H):zdk (Itr lo n) c tc te H fin:=by
 refine⟨fun i m ys H=>m=n - i∧i≤n∧Pv i ys H,⟨n,by simp,Nat.zero_le _,h0⟩,?_⟩
 rintro i m ys H ⟨rfl,hi,p⟩
 have hy:=hl i ys H hi p
 by_cases hlt:i<n
 ·refine .inr ⟨hlt,by omega,Pv (i+1),fun ys' H' p'=>⟨_,by omega,rfl,hlt,p'⟩,fun x H' y=>?_⟩
  obtain⟨e,y⟩:=y
  subst e y
  exact hs i ys _ hlt p
 ·have e:i=n:=by omega
  subst e
  exact .inl ⟨Nat.le_refl _,by omega,hd ys H p⟩
theorem yr{K:PySem.W.Frag}{a:Addr}{xs:List V}{c:St}{te:TE}{H:Hp}{fin:List V→Hp→Prop}(Pv:Nat→List V→Hp→Prop)(h0:Pv 0 [] H)(hl:∀i ys H,i≤xs.length→Pv i ys H→SqL K H a xs∧ys.length≤i)(hz:xs.length≤sizeLine)
 (hs:∀i x ys H,xs[i]? = some x→Pv i ys H→te (some x::c) H fun y H3=>Pv (i+1) (ys ++ [y]) H3) (hd:∀ys H,Pv xs.length ys H→fin ys H):zdk (Itl K a) c zhH te H fin :=
 wX Pv h0 hl hz (fun i x ys H e p=>zf4 (B:=Pv (i+1) ys H) (hs i x ys H e p)) hd
theorem zc7{lo:Int}{n:Nat}{c:St}{te:TE}{H:Hp}{fin:List V→Hp→Prop}(Pv:Nat→List V→Hp→Prop)(h0:Pv 0 [] H)(hl:∀i ys H,i≤n→Pv i ys H→ys.length≤i)(hz:n≤sizeLine)
 (hs:∀i ys H,i<n→Pv i ys H→te (some (.int (lo+i))::c) H fun y H3=>Pv (i+1) (ys ++ [y]) H3) (hd:∀ys H,Pv n ys H→fin ys H):zdk (Itr lo n) c zhH te H fin :=
 zfn Pv h0 hl hz (fun i ys H e p=>zf4 (B:=Pv (i+1) ys H) (hs i ys H e p)) hd
theorem zc4{X:Cx}{x:Str}{i:Int}{pos:Pos}(h:∃t,X.mg x=some (.int i t))(hg:Gl X x)(hd:(x==("__debug__" : Str))=false:=by decide):PE X (.Name x pos) (tC (.int i)):=by
 obtain⟨t,h⟩:=h
 exact zja hg h ⟨t,rfl⟩ hd
theorem yI{c A B:Prop} [Decidable c](h1:c→A)(h2:¬c→B):if decide c=true then A else B:=by
 by_cases h:c
 ·rw[if_pos (decide_eq_true h)];exact h1 h
 ·rw[if_neg (by rw[decide_eq_false h];exact Bool.false_ne_true)];exact h2 h
theorem yD{c A B:Prop} [Decidable c](h1:¬c→A)(h2:c→B):if(!decide c)=true then A else B:=by
 by_cases h:c
 ·rw[decide_eq_true h];exact zbg (h2 h)
 ·rw[decide_eq_false h];exact zf4 (h1 h)
theorem zhQ{b:Bool}{A B:Prop}(h1:b=true→A)(h2:b=false→B):if b=true then A else B:=by
 cases b with
 | true=>exact zf4 (h1 rfl)
 | false=>exact zbg (h2 rfl)
theorem zi.new{H:Hp}{l:Addr}{o:HO}(h:H l=Option.none):zi H (upd H l o):=fun b u e=>by rw[zj (zu e h)];exact e
theorem zi.newT{H H':Hp}{l:Addr}{o:HO}(s:zi H H')(h:H' l=Option.none):zi H (upd H' l o):=s.trans (zi.new h)
theorem zi.put{H H':Hp}{l:Addr}{o:HO}(s:zi H H')(h:H l=Option.none):zi H (upd H' l o):=fun b u e=>by rw[zj (zu e h)];exact s b u e
theorem zi.seqT{K:PySem.W.Frag}{H H':Hp}{a:Addr}{xs:List V}(e:zi H H')(h:SqT K H a xs):SqT K H' a xs:=by
 rcases h with(h | ⟨o,h⟩) | h
 ·exact .inl (.inl (e _ _ h))
 ·exact .inl (.inr ⟨o,e _ _ h⟩)
 ·exact .inr h
theorem SqL.new{K:PySem.W.Frag}{H:Hp}{l:Addr}{xs:List V}:SqL K (upd H l (.lst xs)) l xs:=SqL.of zg
theorem SqT.new{K:PySem.W.Frag}{H:Hp}{l:Addr}{xs:List V}:SqT K (upd H l (.tup xs)) l xs:=SqT.of zg
theorem zdA{xs:List V}{i:Int}{v:V}(h0:0≤i)(h:xs[i.toNat]? = some v):atI xs i=some v:=by
 have:=zae h
 rwa [Int.toNat_of_nonneg h0] at this
theorem zde{ns:List Int}{i:Nat}(h:i<ns.length):(ns.map V.int)[i]? = some (.int (ns.getD i 0)):=by
 rw[List.getElem?_map,List.getElem?_eq_getElem h,List.getD_eq_getElem?_getD,List.getElem?_eq_getElem h];rfl
theorem zch{ns:List Int}{i:Int}(h0:0≤i)(h:i<ns.length):atI (ns.map V.int) i=some (.int (ns.getD i.toNat 0)):=zdA h0 (zde (by omega))
theorem zW(ns:List Int):(ns.map V.int).all zaB=true:=by
 rw[List.all_map];exact List.all_eq_true.mpr fun _ _=>rfl
theorem zaW(ns:List Int)(c:Int):ixV (ns.map V.int) (.int c)=ns.idxOf c:=by
 unfold ixV
 induction ns with
 | nil=>rfl
 | cons a ns ih =>
   rw[List.map_cons,List.findIdx_cons,List.idxOf_cons,ih]
   rfl
theorem zc3(ns:List Int)(c:Int):inV (.int c) (ns.map V.int)=decide (c∈ns):=by
 unfold inV
 induction ns with
 | nil=>rfl
 | cons a ns ih =>
   rw[List.map_cons,List.any_cons,ih]
   show((a==c) || _)=_
   by_cases h:a=c
   ·subst h;simp
   ·have:¬c=a:=fun e=>h e.symm
    simp[h,this]
theorem zhs{xs:List V}{k:Int}(h:0≤k):zeq xs (some k) none=xs.drop k.toNat:=by
 obtain⟨n,rfl⟩:=Int.eq_ofNat_of_zero_le h
 unfold zeq
 rw[HT.sIx_none]
 show(xs.drop (HT.sIx xs.length 0 (some ((n:Nat):Int)))).take _=_
 rw[HT.sIx_nat,Int.toNat_natCast]
 by_cases h:n≤xs.length
 ·rw[Nat.min_eq_left h,List.take_of_length_le (by rw[List.length_drop];exact Nat.le_refl _)]
 ·rw[Nat.min_eq_right (by omega),List.drop_of_length_le (Nat.le_refl _),List.drop_of_length_le (by omega),List.take_nil]
theorem cut_upto{xs:List V}{k:Int}(h:0≤k):zeq xs none (some k)=xs.take k.toNat:=by
 obtain⟨n,rfl⟩:=Int.eq_ofNat_of_zero_le h
 unfold zeq
 rw[HT.sIx_none,List.drop_zero]
 show xs.take (HT.sIx xs.length xs.length (some ((n:Nat):Int)) - 0)=_
 rw[HT.sIx_nat,Int.toNat_natCast,Nat.sub_zero]
 by_cases h:n≤xs.length
 ·rw[Nat.min_eq_left h]
 ·rw[Nat.min_eq_right (by omega),List.take_of_length_le (Nat.le_refl _),List.take_of_length_le (by omega)]
theorem zer{ns:List Int}{k:Int}(h:0≤k):zeq (ns.map V.int) (some k) none=(ns.drop k.toNat).map V.int:=by rw[zhs h,List.map_drop]
theorem zeg{ns:List Int}{k:Int}(h:0≤k):zeq (ns.map V.int) none (some k)=(ns.take k.toNat).map V.int:=by rw[cut_upto h,List.map_take]
theorem zC:1000000≤sizeLine:=by decide
theorem seqIx_ok{i:Int}{n:Nat}(h0:0≤i)(h1:i<n):seqIndex? i n=some i.toNat:=by
 have e:(if i<0 then i+(n:Int)else i)=i:=if_neg (by omega)
 unfold seqIndex?
 simp only[e]
 rw[if_pos (by simp only[Bool.and_eq_true,decide_eq_true_eq];exact⟨h0,h1⟩)]
theorem zgm{α β:Type}(f:α→β):∀(l:List α) (i:Nat),(l.map f).eraseIdx i=(l.eraseIdx i).map f
 | [],_=>rfl
 | _::_,0=>rfl
 | a::l,i+1=>by
   show f a::(l.map f).eraseIdx i=f a::(l.eraseIdx i).map f
   rw[zgm f l i]
theorem ze6{α:Type}:∀(l:List α) (i:Nat) (h:i<l.length),(l[i]::l.eraseIdx i).Perm l
 | a::l,0,_=>List.Perm.refl _
 | a::l,i+1,h=>(List.Perm.swap a (l[i]'(by simpa using h)) (l.eraseIdx i)).trans ((ze6 l i (by simpa using h)).cons a)
theorem yZ{ns:List Int}{i:Nat}(hi:i<ns.length):ns.take (i+1)=ns.take i ++ [ns.getD i 0]:=by
 rw[List.take_succ,List.getElem?_eq_getElem hi,List.getD_eq_getElem?_getD,List.getElem?_eq_getElem hi];rfl
theorem yy{ns:List Int}{i:Nat}{x:V}(hx:(ns.map V.int)[i]? = some x):i<ns.length∧x=.int (ns.getD i 0):=by
 have hi:i<ns.length:=by have:=(List.getElem?_eq_some_iff.mp hx).1;rwa [List.length_map] at this
 refine⟨hi,?_⟩
 rw[zde hi] at hx
 exact(Option.some.inj hx).symm
theorem zeY{ns:List Int}{i:Nat}(hi:i<ns.length):ns.getD i 0=ns[i]:=by rw[List.getD_eq_getElem?_getD,List.getElem?_eq_getElem hi];rfl
theorem ww{ns:List Int}{i:Nat}(hi:i<ns.length):ns.getD i 0∈ns:=by rw[zeY hi];exact List.getElem_mem hi
theorem app_ints(ns:List Int)(x:Int):ns.map V.int ++ [V.int x]=(ns ++ [x]).map V.int:=by rw[List.map_append];rfl
theorem lst_app{H:Hp}{l:Addr}(ns:List Int)(x:Int):upd H l (.lst (ns.map V.int ++ [V.int x])) l=some (.lst ((ns ++ [x]).map V.int)):=zg.trans (congrArg (fun l=>some (HO.lst l)) (app_ints ns x))
def eqL:List V→List V→Bool
 | [],[]=>true
 | x::xs,y::ys=>eqV x y && eqL xs ys
 | _,_=>false
def zji(xs ys:List V)(j:Nat):Bool:=match xs[j]?,ys[j]? with
 | some x,some y=>eqV x y
 | _,_=>false
theorem zd5:∀{xs ys:List V},xs.length=ys.length→(List.range xs.length).all (zji xs ys)=eqL xs ys
 | [],[],_=>rfl
 | x::xs,y::ys,h=>by
   have h':xs.length=ys.length:=by simpa using h
   show(List.range (xs.length+1)).all _=(eqV x y && eqL xs ys)
   rw[List.range_succ_eq_map,List.all_cons,List.all_map,← zd5 h']
   rfl
theorem zhp:∀{xs ys:List V},xs.length≠ys.length→eqL xs ys=false
 | [],[],h=>absurd rfl h
 | [],_::_,_=>rfl
 | _::_,[],_=>rfl
 | x::xs,y::ys,h=>by
   show(eqV x y && eqL xs ys)=false
   rw[zhp (fun e=>h (by simp[e])),Bool.and_false]
theorem za3:∀(ns ms:List Int),eqL (ns.map V.int) (ms.map V.int)=decide (ns=ms)
 | [],[]=>rfl
 | [],_::_=>rfl
 | _::_,[]=>rfl
 | a::ns,b::ms=>by
   show((a==b) && eqL (ns.map V.int) (ms.map V.int))=_
   rw[za3 ns ms]
   by_cases h:a=b
   ·subst h;simp
   ·simp[h]
theorem eqAt_j{A:Around}{s:Shared}{xs ys:List V}{us vs:List Value}(ru:zG xs us)(rv:zG ys vs)(fx:xs.all zaB=true)(fy:ys.all zaB=true):
 ∀j (h1:j<us.toArray.size) (h2:j<vs.toArray.size),SeqAt.EqAt A s us.toArray[j] vs.toArray[j] (zji xs ys j):=fun j h1 h2=>by
 have l1:=ru.length
 have l2:=rv.length
 have h1':j<us.length:=by simpa using h1
 have h2':j<vs.length:=by simpa using h2
 obtain⟨u,eu,r1⟩:=ru.get (i:=j) (x:=xs[j]) (List.getElem?_eq_getElem (by omega))
 obtain⟨v,ev,r2⟩:=rv.get (i:=j) (x:=ys[j]) (List.getElem?_eq_getElem (by omega))
 have e1:us.toArray[j]=u:=by rw[List.getElem_toArray];rw[List.getElem?_eq_getElem h1'] at eu;exact Option.some.inj eu
 have e2:vs.toArray[j]=v:=by rw[List.getElem_toArray];rw[List.getElem?_eq_getElem h2'] at ev;exact Option.some.inj ev
 rw[e1,e2]
 have ej:zji xs ys j=eqV xs[j] ys[j]:=by unfold zji;rw[List.getElem?_eq_getElem (by omega),List.getElem?_eq_getElem (by omega)]
 rw[ej]
 exact eqAt_V r1 r2 (List.all_eq_true.mp fx _ (List.getElem_mem _)) (List.all_eq_true.mp fy _ (List.getElem_mem _))
section
variable {X:Cx}
def rEqL(K:PySem.W.Frag):R2:=fun x y H Q=>∃a b xs ys,x=.ref a∧y=.ref b∧SqL K H a xs∧SqL K H b ys∧xs.all zaB=true∧ys.all zaB=true∧Q (.bl (eqL xs ys)) H
theorem zfu(hu:X.A.units<cLine):OpR X (compareOp .Eq) (rEqL X.K):=by
 intro pins s σ H x y v u Q I rx ry h
 obtain⟨a,b,xs,ys,rfl,rfl,ha,hb,fx,fy,q⟩:=h
 cases rx
 cases ry
 obtain⟨its,r1,p1,z1⟩:=I.list ha
 obtain⟨its2,r2,p2,z2⟩:=I.list hb
 have l1:=r1.length
 have l2:=r2.length
 by_cases hl:xs.length=ys.length
 ·refine SeqAt.eq_listAt p1.isList p2.isList (by simp;omega) hu (eqAt_j r1 r2 fx fy) ⟨.bl (eqL xs ys),H,I,?_,q⟩
  rw[List.size_toArray,← l1,zd5 hl]
  rfl
 ·refine SeqAt.eq_list_lengthsAt p1.isList p2.isList (by simp;omega) hu ⟨.bl (eqL xs ys),H,I,?_,q⟩
  rw[zhp hl]
  rfl
theorem zho{ns:List Int}:∀{us:List Value},IntsAre us ns→zG (ns.map V.int) us:=by
 intro us h
 induction h with
 | nil=>exact .nil
 | cons n t _ ih=>exact .cons ⟨t,rfl⟩ ih
theorem zc5:zas X (.builtin "sorted") (fun xs H Q=>∃(a:Addr) (ns:List Int),xs = [.ref a]∧SqL X.K H a (ns.map V.int)∧ns.length<64∧∀(l:Addr) (ms:List Int),H l=none→ms.Perm ns→ms.Pairwise (·≤ ·)→Q (.ref l) (upd H l (.lst (ms.map V.int)))):=by
 intro pins s σ H xs us Q I r h
 obtain⟨a,ns,rfl,hS,hz,q⟩:=h
 obtain⟨u,rfl,ru⟩:=r.one
 cases ru
 obtain⟨its,r1,p1,z1⟩:=I.list hS
 have l1:=r1.length
 rw[List.length_map] at l1
 refine sorted_ints p1.isList (zcp r1) (by omega) fun out ns' hI hp hw=>?_
 obtain⟨e,he⟩:=sortedAll_at s.heap its out
 have hf:H (s.heap.objs.size+1)=none:=I.hok.fresh (Nat.le_succ _)
 have hv:=zho hI
 have hlen:ns'.length<64:=by rw[hp.length_eq];exact hz
 refine⟨.ref (s.heap.objs.size+1),upd H (s.heap.objs.size+1) (.lst (ns'.map V.int)),I.laid (t':=s.toks) (fun b o e=>sortedAll_old e) (Nat.le_succ _) ⟨?_,out.toList,e,hv,?_⟩,rfl,q _ ns' hf hp hw⟩
 ·rw[List.length_map];have:=zC;omega
 ·exact he
end
section
variable {X:Cx}
theorem bools_at{bs:List Bool}{us:List Value}(r:zG (bs.map V.bl) us){i:Nat}{v:Value}(h:us[i]? = some v):v=.bool (bs.getD i false):=by
 have hl:=r.length
 rw[List.length_map] at hl
 have hi:i<bs.length:=by rw[hl];exact(List.getElem?_eq_some_iff.mp h).1
 obtain⟨u,e,ru⟩:=r.get (i:=i) (x:=.bl bs[i]) (by rw[List.getElem?_map,List.getElem?_eq_getElem hi];rfl)
 rw[e] at h
 cases h
 rw[List.getD_eq_getElem?_getD,List.getElem?_eq_getElem hi]
 exact ru
theorem zjK(bs:List Bool):(List.range bs.length).all (fun i=>bs.getD i false)=bs.all id:=by
 induction bs with
 | nil=>rfl
 | cons b bs ih =>
   rw[List.length_cons,List.range_succ_eq_map,List.all_cons,List.all_map,List.all_cons,← ih]
   rfl
theorem ze0(hc:X.calm=true):zas X (.builtin "all") (fun xs H Q=>∃(a:Addr) (bs:List Bool),xs = [.ref a]∧SqL X.K H a (bs.map V.bl)∧Q (.bl (bs.all id)) H):=by
 intro pins s σ H xs us Q I r h
 obtain⟨a,bs,rfl,hS,q⟩:=h
 obtain⟨u,rfl,ru⟩:=r.one
 cases ru
 obtain⟨its,r1,p1,z1⟩:=I.list hS
 have l1:=r1.length
 rw[List.length_map] at l1
 have hlt:a<s.heap.objs.size:=by obtain⟨o,n,e,_⟩:=p1;exact Heap.lt_size e
 refine call_all_walk (wpAny_pyIter_list p1.isList ?_)
 have I1:Inv X pins σ H { s with heap:=s.heap.push { cls:=.type "list_iterator",data:=.fields #[.ref a,.int 0 0] } }:=I.kept (t':=s.toks) fun b o e=>Heap.get?_push_of_some _ e
 refine⟨s.heap.objs.size,_,_,its.toArray.size,_,_,fun i=>bs.getD i false,rfl,Walks.list (by simpa using I.ok.hd hc) s.heap.objs.size a (Nat.ne_of_lt hlt) its.toArray,⟨⟨_,Heap.get?_push_size _ rfl,rfl,rfl⟩,p1.isList.push _⟩,?_,fun h' tk hk=>?_⟩
 ·intro i v s' Q' E' hP hQ
  have:=bools_at r1 (i:=i) (v:=v) (by simpa using hP)
  subst this
  exact wpAny_truthy_bool hQ
 ·have f:=I.fpOk (H':=H) (Nat.le_refl _) (I.hok.fresh (Nat.le_refl _))
  refine⟨.bl (bs.all id),H,I1.turned (it:=s.heap.objs.size) (fun b o hb e=>hk b o (by simpa using hb) e) f.1 f.2.1 f.2.2.2.1 f.2.2.2.2.1 f.2.2.2.2.2,?_,q⟩
  rw[List.size_toArray,← l1,zjK]
  rfl
theorem zgV(hc:X.calm=true):zas X (.type "set") (fun xs H Q=>∃(a:Addr) (ns:List Int),xs = [.ref a]∧SqL X.K H a (ns.map V.int)∧ns.length<4000 ∧
 ∀l,H l=none→Q (.ref l) (upd H l (.set (fun k=>(firstMet (fun i=>ns.getD i 0) ns.length).any (·== k)) (firstMet (fun i=>ns.getD i 0) ns.length).length))):=by
 intro pins s σ H xs us Q I r h
 obtain⟨a,ns,rfl,hS,hz,q⟩:=h
 obtain⟨u,rfl,ru⟩:=r.one
 cases ru
 obtain⟨its,r1,p1,z1⟩:=I.list hS
 have l1:=r1.length
 rw[List.length_map] at l1
 have hsb:scanBound=4096:=rfl
 refine call_set_list (ns:=ns) (I.ok.hd hc) p1.isList (by simpa using zcp r1) (by rw[List.size_toArray];omega) fun h' tk hset hk=>?_
 have esz:its.toArray.size=ns.length:=by rw[List.size_toArray];omega
 rw[esz] at hset
 refine⟨.ref s.heap.objs.size,_,I.laid (t':=tk) (o:=.set _ _) (fun b o e=>hk b o (Heap.lt_size e) e) (Nat.le_refl _) hset,rfl,q _ (I.hok.fresh (Nat.le_refl _))⟩
theorem call_len_set:zas X (.builtin "len") (fun xs H Q=>∃a S n,xs = [.ref a]∧H a=some (.set S n)∧Q (.int n) H):=by
 intro pins s σ H xs us Q I r h
 obtain⟨a,S,n,rfl,hS,q⟩:=h
 obtain⟨u,rfl,ru⟩:=r.one
 cases ru
 obtain⟨o,es,ep,t,ho,hex,hd,_,_,hsz,hf,hn⟩:=I.hok a _ hS
 have hsb:scanBound=4096:=rfl
 refine PySem.call_len_set ho hex hd hf (by omega) ⟨.int n,H,I.tok _,⟨s.toks+1,?_⟩,q⟩
 rw[hn]
end
theorem zge(ns:List Int):firstMet (fun i=>ns.getD i 0) ns.length=ns.foldl step_dedup []:=by
 unfold firstMet
 congr 1
 refine List.ext_getElem (by simp) fun i h1 h2=>?_
 rw[List.getElem_map,List.getElem_range,List.getD_eq_getElem?_getD,List.getElem?_eq_getElem h2]
 rfl
theorem dedup_le(acc ns:List Int):(ns.foldl step_dedup acc).length≤acc.length+ns.length:=by
 induction ns generalizing acc with
 | nil=>exact Nat.le_refl _
 | cons a ns ih =>
   rw[List.foldl_cons]
   refine Nat.le_trans (ih _) ?_
   rw[step_length,List.length_cons]
   split <;> omega
theorem ziS(acc ns:List Int)(hacc:acc.Nodup):(ns.foldl step_dedup acc).length=acc.length+ns.length↔(acc++ns).Nodup:=by
 induction ns generalizing acc with
 | nil=>simpa using hacc
 | cons a ns ih =>
   rw[List.foldl_cons]
   by_cases h:acc.any (·== a)=true
   ·have e:step_dedup acc a=acc:=by unfold step_dedup;rw[if_pos h]
    rw[e]
    have hm:a∈acc:=by
     obtain⟨x,hx,hb⟩:=List.any_eq_true.mp h
     have:x=a:=by simpa using hb
     rw[← this];exact hx
    constructor
    ·intro q
     have:=dedup_le acc ns
     rw[List.length_cons] at q
     omega
    ·intro q
     rw[List.nodup_append] at q
     exact absurd rfl (q.2.2 a hm a List.mem_cons_self)
   ·have e:step_dedup acc a=acc ++ [a]:=by unfold step_dedup;rw[if_neg h]
    have hm:a∉acc:=fun hm=>h (List.any_eq_true.mpr ⟨a,hm,by simp⟩)
    have hn:(acc ++ [a]).Nodup:=by
     rw[List.nodup_append]
     exact⟨hacc,by simp,fun x hx y hy z=>hm (by rw[List.mem_singleton.mp hy] at z;rw[← z];exact hx)⟩
    rw[e]
    have:=ih (acc ++ [a]) hn
    rw[List.append_assoc,List.singleton_append] at this
    rw[← this,List.length_append,List.length_singleton,List.length_cons]
    omega
theorem zhK(ns:List Int):(firstMet (fun i=>ns.getD i 0) ns.length).length=ns.length↔ns.Nodup:=by
 rw[zge]
 have:=ziS [] ns List.nodup_nil
 simpa using this
def tMid(t:TS):TS:=fun D σ H=>∃P:St→Hp→Prop,t { D with nx:=P } σ H∧∀σ' H',P σ' H'→D.nx σ' H'
theorem zed{X:Cx}{st:Stmt}{t:TS}(h:PS X st t):PS X st (tMid t):=by
 intro pins s σ H D I hw
 obtain⟨P,h1,h2⟩:=hw
 refine thn (h pins s σ H _ I h1) fun f s' q=>?_
 cases f with
 | next=>obtain⟨σ',H',I',q⟩:=q;exact⟨σ',H',I',h2 _ _ q⟩
 | brk=>exact q
 | cont=>exact q
 | ret u=>exact q
structure Fly (P:Program) (w:World) (outer:List Env) (H:Hp) (s:Shared) (x:Addr) (cls:Value) (H':Hp) (s':Shared):Prop where
 os:s'.os=s.os
 bare:AllBare s'.gens
 ex:∃B a0,Heap.FlyingW B outer x cls a0 s'.heap∧HOk P w H' B∧(∀b o,s.heap.get? b=some o→H b=none→b∉frs outer→B.get? b=some o)∧∀b o,s.heap.get? b=some o→b∉frs outer→∃o',B.get? b=some o'
 slot:∀b o,s.heap.get? b=some o→H b=none→b∈frs outer→∃sl,s'.heap.get? b=some { o with slots:=sl }
 free:∀b o,s.heap.get? b=some o→H b=none→H' b=none
 tups:∀b xs,H b=some (.tup xs)→H' b=some (.tup xs)
 frzs:∀b o u,H b=some (.frz o u)→H' b=some (.frz o u)
 tbls:∀b ps,H b=some (.tbl ps)→∃more,H' b=some (.tbl (ps++more))
 new:H' x=none
def CX1(P:Program)(w:World):CXT:=fun outer H s E e s'=>∃x cls H',e=.ref x∧Fly P w outer H s x cls H' s'∧E cls none H'
section
variable {P:Program} {w:World} {outer:List Env} {H H':Hp} {s s':Shared} {x:Addr} {cls:Value}
theorem y9.obj{H:Hp}{h:Heap}{a:Addr}{o:HO}(x:y9 P w H h a o):∃ob,h.get? a=some ob:=by
 cases o with
 | lst xs=>obtain⟨_,_,_,_,e⟩:=x;exact⟨_,e⟩
 | tup xs=>obtain⟨_,_,_,ob,e,_⟩:=x;exact⟨ob,e⟩
 | dK kvs=>obtain⟨_,_,_,_,o,_,_,e,_⟩:=x;exact⟨o,e⟩
 | dT kvs=>obtain⟨_,_,_,_,o,_,_,e,_⟩:=x;exact⟨o,e⟩
 | set S n=>obtain⟨o,_,_,_,e,_⟩:=x;exact⟨o,e⟩
 | ins C dx fs=>obtain⟨_,_,_,e,_⟩:=x;exact⟨_,e⟩
 | own y=>obtain⟨o,e⟩:=x;exact⟨o,e⟩
 | xd fs=>obtain⟨_,⟨o,_,_,e,_⟩,_⟩:=x;exact⟨o,e⟩
 | rng lo hi=>obtain⟨_,_,_,e⟩:=x;exact⟨_,e⟩
 | frz ob u=>obtain⟨e,_⟩:=x;exact⟨_,e⟩
 | tbl ps=>exact⟨_,(show h.get? a=some _ from x)⟩
 | met f y=>exact⟨_,(show h.get? a=some _ from x)⟩
 | ext φ=>obtain⟨_,⟨o,e⟩,_⟩:=x;exact⟨o,e⟩
theorem Fly.un(f:Fly P w outer H s x cls H' s'){B h:Heap}{a0:Value}{l:List Env}(hB:HOk P w H' B)(k1:∀b o,s.heap.get? b=some o→H b=none→b∉frs outer→B.get? b=some o)(k2:∀b o,s.heap.get? b=some o→b∉frs outer→∃o',B.get? b=some o')
 (st:B.StaysIn h) (sl:∀b o,s.heap.get? b=some o→H b=none→b∈frs outer→∃q,h.get? b=some { o with slots:=q }) (nf:∀b∈frs outer,H b=none):Un (frs outer) [] H H' s.heap h where
 keep:=fun b o q n hb _=>st b o (k1 b o q n hb)
 slot:=fun b o q n hb _=>sl b o q n hb
 free:=fun b o q n _=>f.free b o q n
 there:=fun b o q _=>by
  by_cases hb:b∈frs outer
  ·obtain⟨z,e⟩:=sl b o q (nf b hb) hb
   exact⟨_,e⟩
  ·obtain⟨o',e⟩:=k2 b o q hb
   exact⟨o',st b o' e⟩
 tups:=f.tups
 frzs:=f.frzs
 tbls:=f.tbls
end
section
variable {X:Cx} {pins:List (Addr × Obj)} {σ:St} {H H':Hp} {s s':Shared} {x:Addr} {cls:Value}
theorem Inv.nodata(I:Inv X pins σ H s){b:Addr}(hb:b∈frs X.stack){o:Obj}(e:s.heap.get? b=some o):∀vs,o.data ≠ .fields vs:=by
 obtain⟨_,o',e',d⟩:=I.stack.mem hb
 rw[e] at e';cases e'
 exact d
def zbq(h:Heap)(l:List Env):Heap:=PySem.W.hideAll h (frs l)
theorem zbY{h:Heap}{l:List Env}{b:Addr}{o:Obj}(e:h.get? b=some o)(n:b∉frs l):(zbq h l).get? b=some o:=PySem.W.hideAll_get _ e n
theorem zhb{h:Heap}{l:List Env}{b:Addr}{o:Obj}(e:(zbq h l).get? b=some o):h.get? b=some o:=PySem.W.of_hideAll _ e
theorem Inv.frameOk(I:Inv X pins σ H s):HOk X.prog X.w H (zbq s.heap X.stack):=fun a o e =>
 (I.hok a o e).stay (fun b u hb q=>zbY q fun z=>by
   have n:=I.stkFree b z
   rcases hb with hb | hb
   ·rw[hb,e] at n;cases n
   ·rw[n] at hb;cases hb) (fun _ q=>q) fun _ _ q=>q
end
abbrev XW:=St→Value→Hp→Prop
def Fl(X:Cx)(W:XW):Prop:=∀(pins:List (Addr × Obj)) (σ:St) (H:Hp) (s:Shared) (x:Addr) (cls:Value) (H':Hp) (s':Shared),Inv X pins σ H s→Fly X.prog X.w X.stack H s x cls H' s'→W σ cls H'→X.xe (.ref x) s'
def Md(X:Cx)(W:XW):Prop:=∀(pins:List (Addr × Obj)) (σ:St) (H:Hp) (s:Shared) (x:Addr) (cls:Value) (args:List Value) (h':Heap),Inv X pins σ H s→Heap.MadeExcOf s.heap h' x cls args→W σ cls H→X.xe (.ref x) { s with heap:=h' }
section
variable {P:Program} {w:World} {K:PySem.W.Frag} {mg:Str→Option Value} {base:Heap} {N:List Str} {qual:Str} {scope:Scope} {f:Addr} {cd:Value} {A:Around} {outer:List Env} {s0:Shared} {H0:Hp} {E:XK}
theorem fly_def:Fl (zbC (CX1 P w) P w K mg base N qual scope f cd A outer s0 H0 E) fun _ cls H'=>E cls none H':=by
 intro pins σ H s x cls H' s' I fl hE
 obtain⟨B,a0,hfl,hB,k1,k2⟩:=fl.ex
 have hst:frs (envOfC qual scope s0.heap.objs.size f cd::outer)=s0.heap.objs.size::frs outer:=rfl
 have old:∀b o,s0.heap.get? b=some o→b∉frs outer→b∉frs (envOfC qual scope s0.heap.objs.size f cd::outer):=fun b o e hb=>by
  rw[hst]
  exact fun z=>(List.mem_cons.mp z).elim (fun q=>absurd (Heap.lt_size e) (by rw[q];exact Nat.lt_irrefl _)) hb
 refine wpAny_leaves_onW (base:=B) (L:=s0.heap.objs.size) I.ok.frames rfl hfl fun h2 hfl2 up=>?_
 refine⟨x,cls,H',rfl,⟨fl.os.trans I.os,fl.bare,⟨B,a0,hfl2,hB,fun b o e n hb=>?_,fun b o e hb=>?_⟩,fun b o e n hb=>?_,fun b o e n=>?_,fun b xs e=>fl.tups b xs (I.base.tups b xs e),fun b o u e=>fl.frzs b o u (I.base.frzs b o u e),fun b ps e=>?_,fl.new⟩,hE⟩
 ·exact k1 b o (I.base.keep b o e n hb (by simp[zbC])) (I.base.free b o e n (by simp[zbC])) (old b o e hb)
 ·obtain⟨o1,e1⟩:=I.base.there b o e (by simp[zbC])
  exact k2 b o1 e1 (old b o e hb)
 ·obtain⟨sl,e1⟩:=I.base.slot b o e n hb (by simp[zbC])
  obtain⟨sl2,e2⟩:=fl.slot b _ e1 (I.base.free b o e n (by simp[zbC])) (List.mem_cons_of_mem _ hb)
  obtain⟨_,o',e',d⟩:=I.ok.funs.mem hb
  have eo:o'=o:=by
   have e'':s0.heap.get? b=some o':=e'
   rw[e] at e'';exact(Option.some.inj e'').symm
  subst eo
  obtain⟨sl3,e3⟩:=up b _ e2 d
  exact⟨sl3,e3⟩
 ·obtain⟨o1,e1⟩:=I.base.there b o e (by simp[zbC])
  exact fl.free b o1 e1 (I.base.free b o e n (by simp[zbC]))
 ·obtain⟨m1,e1⟩:=I.base.tbls b ps e
  obtain⟨m2,e2⟩:=fl.tbls b _ e1
  exact⟨m1++m2,by rw[e2,Array.append_assoc]⟩
theorem md_def:Md (zbC (CX1 P w) P w K mg base N qual scope f cd A outer s0 H0 E) fun _ cls H'=>E cls none H':=by
 intro pins σ H s x cls args h' I mk hE
 have hst:frs (envOfC qual scope s0.heap.objs.size f cd::outer)=s0.heap.objs.size::frs outer:=rfl
 have old:∀b o,s0.heap.get? b=some o→b∉frs outer→b∉frs (envOfC qual scope s0.heap.objs.size f cd::outer):=fun b o e hb=>by
  rw[hst]
  exact fun z=>(List.mem_cons.mp z).elim (fun q=>absurd (Heap.lt_size e) (by rw[q];exact Nat.lt_irrefl _)) hb
 have hl:s.heap.FunFrames (zbq s.heap (envOfC qual scope s0.heap.objs.size f cd::outer)) (envOfC qual scope s0.heap.objs.size f cd::outer) :=
  PySem.W.funFrames_hide I.stack fun env he b hb=>List.mem_filterMap.mpr ⟨env,he,hb⟩
 have hB:HOk P w H (zbq s.heap (envOfC qual scope s0.heap.objs.size f cd::outer)):=I.frameOk
 have hx:H x=none:=by
  cases q:H x with
  | none=>rfl
  | some o =>
    obtain⟨o',e⟩:=(I.hok x o q).obj
    rw[mk.new] at e;cases e
 refine wpAny_leaves_madeW (L:=s0.heap.objs.size) (h:=s.heap) (base:=zbq s.heap (envOfC qual scope s0.heap.objs.size f cd::outer)) I.ok.frames rfl (fun b o e=>zhb e) hl mk fun h2 t hfl2 _ _ up=>?_
 refine⟨x,cls,H,rfl,⟨I.os,I.bare,⟨_,_,hfl2,hB,fun b o e n hb=>?_,fun b o e hb=>?_⟩,fun b o e n hb=>?_,fun b o e n=>I.base.free b o e n (by simp[zbC]),I.base.tups,I.base.frzs,I.base.tbls,hx⟩,hE⟩
 ·exact zbY (I.base.keep b o e n hb (by simp[zbC])) (old b o e hb)
 ·obtain⟨o1,e1⟩:=I.base.there b o e (by simp[zbC])
  exact⟨o1,zbY e1 (old b o e hb)⟩
 ·obtain⟨sl,e1⟩:=I.base.slot b o e n hb (by simp[zbC])
  obtain⟨_,o',e',d⟩:=I.ok.funs.mem hb
  have eo:o'=o:=by
   have e'':s0.heap.get? b=some o':=e'
   rw[e] at e'';exact(Option.some.inj e'').symm
  subst eo
  obtain⟨sl3,e3⟩:=up b _ (mk.keeps _ _ e1) d
  exact⟨sl3,e3⟩
end
abbrev TJ:=St→Hp→Str→(Str→Hp→Prop)→Prop
def PJ(X:Cx)(es:List Expr)(t:TJ):Prop :=
 ∀(pins:List (Addr × Obj)) (s:Shared) (σ:St) (H:Hp) (acc:Str) (Q:Str→Hp→Prop),Inv X pins σ H s→t σ H acc Q →
  wpAny (model X.prog X.w) X.A (joinParts acc (evalEach es X.env)) (EP X pins σ fun v H'=>∃y,v=.str y∧Q y H') X.xe s
def jNil:TJ:=fun _ H acc Q=>acc.length≤sizeLine∧Q acc H
def jCons(te:TE)(t:TJ):TJ:=fun σ H acc Q=>te σ H fun x H1=>∃y,x=.str y∧(acc++y).length≤sizeLine∧t σ H1 (acc++y) Q
def tFmt(te:TE):TE:=fun σ H Q=>te σ H fun x H1=>(∃i,x=.int i∧i.natAbs.log2<1920∧Q (.str (toString i)) H1)∨(∃y,x=.str y∧y.length≤sizeLine∧Q (.str y) H1)
def tJoin(t:TJ):TE:=fun σ H Q=>t σ H Str.empty fun y H1=>Q (.str y) H1
section
variable {X:Cx} {e v1 v2:Expr} {es:List Expr} {te:TE} {t:TJ} {pos:Pos}
theorem pj_nil:PJ X [] jNil:=fun pins s σ H acc Q I h=>joinParts_nil ⟨.str acc,H,I.tok _,⟨_,rfl⟩,acc,rfl,h.2⟩ h.1
theorem zdd(he:PE X e te)(hr:PJ X es t):PJ X (e::es) (jCons te t):=by
 intro pins s σ H acc Q I h
 show wpAny _ _ (joinParts acc (eval e X.env::evalEach es X.env)) _ _ s
 refine joinParts_cons (thn (he pins s σ H _ I h) fun u s1 ⟨x,H1,I1,r1,y,ey,hz,q⟩=>?_)
 subst ey
 obtain⟨t',rfl⟩:=r1
 exact⟨hz,hr pins s1 σ H1 _ Q I1 q⟩
theorem ziC(he:PE X e te):PE X (.FormattedValue e (-1) none pos) (tFmt te):=by
 intro pins s σ H Q I h
 refine FormattedValue_plain (thn (he pins s σ H _ I h) fun u s1 ⟨x,H1,I1,r1,q⟩=>?_)
 rcases q with⟨i,ex,hd,q⟩ | ⟨y,ex,hz,q⟩
 ·subst ex
  obtain⟨t',rfl⟩:=r1
  exact formatField_int_small hd ⟨.str (toString i),H1,I1.tok _,⟨_,rfl⟩,q⟩
 ·subst ex
  obtain⟨t',rfl⟩:=r1
  exact formatField_str (fun t2 tk=>⟨.str y,H1,I1.tok _,⟨_,rfl⟩,q⟩) hz
theorem zjy{zcO:List Expr}(h:PJ X (v1::v2::zcO) t):PE X (.JoinedStr (v1::v2::zcO) pos) (tJoin t):=by
 intro pins s σ H Q I q
 exact JoinedStr_many (thn (h pins s σ H Str.empty _ I q) fun u s1 ⟨x,H1,I1,r1,y,ey,q1⟩=>⟨x,H1,I1,r1,by subst ey;exact q1⟩)
end
theorem zhd{x y:Str}{a b:Nat}(hx:x.length≤a)(hy:y.length≤b):(x++y).length≤a+b:=by rw[strLen_append];omega
def bmV:List Value := [.type "ValueError",.type "Exception",.type "BaseException",.type "object"]
abbrev ExC(K:PySem.W.Frag)(C:Addr):Prop:=PySem.W.excIn K C bmV "ValueError.__new__" = true
def zaU(K:PySem.W.Frag)(C D:Addr):Bool:=match K.lookup C with
 | some ⟨_,_,.cls cd,_⟩=>cd.mro.contains (.ref D)
 | _=>false
theorem zhn{K:PySem.W.Frag}{h:Heap}{C:Addr}(hk:K.In h)(q:ExC K C):∃tl N nm qn bs hd sn sb ab cl dd a0 a1 a2 a3 a5 mN,
 h.get? C=some (excClassObj nm qn C N bs tl hd sn sb ab cl dd a0 a1 a2 a3 a5 "ValueError.__new__")∧h.Ns N mN∧mN "__init__" = none∧OwnTail h bmV tl∧∀D,(Value.ref C::tl).contains (.ref D)=zaU K C D:=by
 unfold ExC PySem.W.excIn at q
 split at q
 next dd cd sl ho =>
  split at q
  next C' tl a0 a1 a2 a3 n a5 em es =>
   simp only[Bool.and_eq_true,beq_iff_eq,Bool.not_eq_true'] at q
   obtain⟨⟨⟨⟨⟨z1,z2⟩,z3⟩,z4⟩,z5⟩,z6⟩:=q
   subst z1 z2
   have sb:∀D,(Value.ref C'::tl).contains (.ref D)=zaU K C' D:=fun D=>by unfold zaU;rw[ho];show _=cd.mro.contains _;rw[em]
   obtain⟨nm,bs,mro,ns,qn,hd,sn,sub,ab,cl,del⟩:=cd
   dsimp only at em z3 z5 z6
   subst em z3
   obtain⟨l⟩:=sl
   have es':l = [a0,a1,a2,a3,some (.builtin "ValueError.__new__"),a5]:=es
   subst es'
   exact⟨tl,ns,nm,qn,bs,hd,sn,sub,ab,cl,dd,a0,a1,a2,a3,a5,_,hk _ _ ho,.of_isNs (PySem.W.isNs_of_in hk z5),PySem.W.nsMap_none_of_in hk z5 z6,PySem.W.tail_of_in hk z4,sb⟩
  next=>cases q
 next=>cases q
section
variable {X:Cx}
def tRaise(C:Addr)(W:XW)(ta:TA):TS:=fun _ σ H=>ta σ H fun vs H1=>vs.length≤sizeLine∧W σ (.ref C) H1
theorem yT{x:Str}{C:Addr}{W:XW}{np cpos pos:Pos}{e:Expr}{es:List Expr}{ta:TA}(hc:X.calm=true)(md:Md X W)(hg:Gl X x)(hm:X.mg x=some (.ref C))(hx:ExC X.K C)(ha:PA X (e::es) ta)
 (hdb:(x==("__debug__" : Str))=false:=by decide) (he:starEach (e::es) X.env=(false,eval e X.env)::starEach es X.env:=by rfl) (hpl:(backTo cpos (starEach es X.env)).any (·.1)=false:=by rfl) :
 PS X (.Raise (some (.Call (.Name x np) (e::es) [] cpos)) none pos) (tRaise C W ta):=by
 intro pins s σ H D I h
 obtain⟨tl,N,nm,qn,bs,hd,sn,sb,ab,cl,dd,a0,a1,a2,a3,a5,mN,hC,hN,hni,T,_⟩:=zhn I.mod.kin hx
 refine wpAny_Raise_call_subT (C:=C) (bm:=tl) (nm:=nm) (q:=qn) (N:=N) (bs:=bs) (hdct:=hd) (sn:=sn) (sub:=sb) (ab:=ab) (col:=cl) (dd:=dd) (k0:=a0) (k1:=a1) (k2:=a2) (k3:=a3) (k5:=a5) PySem.F.excBase_ValueError (mN:=mN) (T.hasType (by decide)) (I.ok.hd hc) (by rw[he];show(false || (backTo cpos (starEach es X.env)).any (·.1))=false;rw[hpl];rfl) hni (zda I hg hm ⟨rfl,?_⟩ hdb)
 have hA:=ha cpos pins s σ H _ I h
 rw[he] at hA ⊢
 refine Calls.evalArgs_plain (thn hA fun us s1 ⟨vs,H1,I1,r1,hz,q⟩=>⟨rfl,by show us.length≤sizeLine;rw[← r1.length];exact hz,I1.bk _ _ hC,hN.keeps I1.bk,T.keeps I1.bk,fun h' x mk=>?_⟩)
 exact md pins σ H1 s1 x (.ref C) us h' I1 mk q
end
structure CanX (P:Program) (w:World) (K:PySem.W.Frag) (mg:Str→Option Value) (base:Heap) (k:Nat) (x:Str) (ps:List Str) (sp:Sp):Prop where
 ex:∃f fd,FnOk P w K mg base (CX1 P w) k f fd ps sp∧mg x=some (.ref f)∧PySem.W.keepIn K (.ref f)=true∧zaD K fd ps []
theorem CanX.of{P:Program}{w:World}{K:PySem.W.Frag}{mg:Str→Option Value}{base:Heap}{k:Nat}{x:Str}{ps:List Str}{sp:Sp}{f:Addr}{fd:FuncData}{qual:Str}{st:Stmt}
 (F:Fun K x qual st f fd) (G:FnOk P w K mg base (CX1 P w) k f fd ps sp) (hm:mg x=some (.ref f)) (b:zaD K fd ps []):CanX P w K mg base k x ps sp:=⟨f,fd,G,hm,F.kp,b⟩
theorem Fun.okX{P:Program}{w:World}{K:PySem.W.Frag}{mg:Str→Option Value}{base:Heap}{x qual:Str}{st:Stmt}{f:Addr}{fd:FuncData}{N ps:List Str}{k:Nat}{sp:Sp}(F:Fun K x qual st f fd)(S:FnScope N ps (zd st))(len:∀vs H Q E,sp vs H Q E→vs.length=ps.length)
 (hbody:∀(X:Cx) (W:XW) (cdv:Value) (A:Around) (outer:List Env) (s:Shared) (H:Hp) (vs:List V) (Q:VK) (E:XK),X=zbC (CX1 P w) P w K mg base N qual (zd st) f cdv A outer s H E→W=(fun _ cls H'=>E cls none H')→Fl X W→Md X W→Room k X.A→sp vs H Q E →
   ∃t,PSs X (zl st) t∧t { nx:=fun _ H'=>Q .non H',rt:=Q } (zbe N vs) H):FnOk P w K mg base (CX1 P w) (k+1) f fd ps sp:=by
 obtain⟨oc,od,kV,doc,pm,an,cdv,ct,osl,rfl,lk,hcd⟩:=F.ex
 refine fn_of lk hcd S len fun A outer s H vs Q E hr hsp=>?_
 exact hbody _ _ cdv A outer s H vs Q E rfl rfl fly_def md_def hr hsp
def tCallX(W:XW)(sp:Sp)(t:TA):TE:=fun σ H Q=>t σ H fun vs H1=>sp vs H1 Q fun cls _ H'=>W σ cls H'
section
variable {X:Cx} {k:Nat} {x:Str} {ps:List Str} {sp:Sp} {p pos:Pos} {e:Expr} {es:List Expr} {t:TA} {W:XW}
theorem zg0{pins:List (Addr × Obj)}{σ:St}{H:Hp}{s:Shared}{Q:VK}{us:List Value}{vs:List V}{f:Addr}{fd:FuncData}(F:FnOk X.prog X.w X.K X.mg X.base (CX1 X.prog X.w) k f fd ps sp)(hr:Room k X.A)(hb:zaD X.K fd ps [])(fl:Fl X W)
 (I:Inv X pins σ H s) (r:zG vs us) (h:sp vs H Q fun cls _ H'=>W σ cls H'):wpAny (model X.prog X.w) X.A (call (.ref f) us) (EP X pins σ Q) X.xe s:=by
 have hl:us.length=ps.length:=by rw[← r.length];exact F.len _ _ _ _ h
 have hb':=hb s us I.kIn (by rw[List.append_nil];exact hl)
 rw[List.append_nil] at hb'
 refine wpAny_call (codeAny_mono (F.run X.A X.stack s H ⟨us,[]⟩ us vs Q _ hr I.env0 hb' r h) fun r s' hq=>?_)
 cases r with
 | error e =>
   obtain⟨y,cls,H',rfl,fly,w⟩:=hq
   exact fl pins σ H s y cls H' s' I fly w
 | ok fl' =>
   cases fl' with
   | ret u=>exact I.after hq
   | next=>exact False.elim hq
   | brk=>exact False.elim hq
   | cont=>exact False.elim hq
theorem ym(C:CanX X.prog X.w X.K X.mg X.base k x ps sp)(fl:Fl X W)(hr:Room k X.A)(hg:Gl X x)(ha:PA X (e::es) t)(hdb:(x==("__debug__" : Str))=false:=by decide)(he:starEach (e::es) X.env=(false,eval e X.env)::starEach es X.env:=by rfl)
 (hpl:(backTo pos (starEach es X.env)).any (·.1)=false:=by rfl):PE X (.Call (.Name x p) (e::es) [] pos) (tCallX W sp t):=by
 obtain⟨f,fd,F,hm,hk,hb⟩:=C.ex
 intro pins s σ H Q I h
 refine wpAny_Call_Name_kw (zda I hg hm ?_ hdb)
 refine PySem.W.callWith_K (h₀:=X.base) I.ok.mod.kin hk (thn (ha pos pins s σ H _ I h) fun us s1 ⟨vs,H1,I1,r,q⟩=>⟨I1.kIn,?_⟩) he hpl
 exact zg0 F hr hb fl I1 r q
end
def zbX(x:Addr)(cls:Value):HO:=.ext fun h=>∃o,h.get? x=some o∧o.cls=cls
def zcU(X:Cx)(x:Addr):Cx:={ X with A:=X.A.mark (some (.ref x)),calm:=false,xe:=fun _ _=>False }
section
variable {X:Cx} {pins:List (Addr × Obj)} {σ:St} {H H':Hp} {s s':Shared} {x:Addr} {cls:Value}
theorem Cx.Ok.suite(ok:X.Ok):(zcU X x).Ok :=
 ⟨ok.mod,ok.kind,ok.glob,ok.blt,ok.above,ok.inj,ok.has,ok.cab,fun z=>Bool.noConfusion (show false=true from z),ok.frames,ok.stk,ok.exf,ok.bs,ok.bsz,ok.noex,ok.exfs,ok.funs,ok.frf⟩
theorem Inv.suite(I:Inv X pins σ H s):Inv (zcU X x) pins σ H s:=⟨I.ok.suite,I.os,I.bare,I.base,I.loc,I.cell,I.free,I.freeC,I.pin,I.hok,I.len⟩
theorem Inv.unsuite(ok:X.Ok)(I:Inv (zcU X x) pins σ H s):Inv X pins σ H s:=⟨ok,I.os,I.bare,I.base,I.loc,I.cell,I.free,I.freeC,I.pin,I.hok,I.len⟩
theorem Fly.inv(I:Inv X pins σ H s)(f:Fly X.prog X.w X.stack H s x cls H' s'):Inv X pins σ H' s':=by
 obtain⟨B,a0,hfl,hB,k1,k2⟩:=f.ex
 refine I.call' (ch := []) f.os (f.un (a0:=a0) (l:=X.stack) hB k1 k2 hfl.1 f.slot I.stkFree) (hB.kept hfl.1) f.bare fun b z=>nomatch z
theorem Fly.to(I:Inv X pins σ H s)(f:Fly X.prog X.w X.stack H s x cls H' s'){B h:Heap}{a0:Value}(hB:HOk X.prog X.w H' B)(k1:∀b o,s.heap.get? b=some o→H b=none→b∉frs X.stack→B.get? b=some o)
 (k2:∀b o,s.heap.get? b=some o→b∉frs X.stack→∃o',B.get? b=some o') (hfl:Heap.FlyingW B X.stack x cls a0 h) (up:s'.heap.UpToSlots h):Fly X.prog X.w X.stack H s x cls H' { s' with heap:=h } :=
 ⟨f.os,f.bare,⟨B,a0,hfl,hB,k1,k2⟩,fun b o e n hb=>by
  obtain⟨sl,e1⟩:=f.slot b o e n hb
  obtain⟨sl2,e2⟩:=up b _ e1 (show ∀vs,o.data ≠ .fields vs from I.nodata hb e)
  exact⟨sl2,e2⟩,f.free,f.tups,f.frzs,f.tbls,f.new⟩
theorem fly_land{M:Model}{E:Value→Shared→Prop}{Q:Unit→Shared→Prop}(I:Inv X pins σ H s)(f:Fly X.prog X.w X.stack H s x cls H' s')(hst:X.stack=X.env::X.outer)(hf:X.env.frame=some X.env.locals)
 (k:∀s'',Fly X.prog X.w X.stack H s x cls H' s''→Q () s''):wpAny M X.A (noteFrame (.ref x) X.env) (fun _ s2=>wpAny M X.A (setFlight (.ref x) none) Q E s2) E s':=by
 obtain⟨B,a0,hfl,hB,k1,k2⟩:=f.ex
 have hfl':=hfl
 rw[hst] at hfl'
 refine wpAny_looks_onW (base:=B) (by rw[← hst];exact I.ok.frames) hf hfl' fun h1 hh up1=>?_
 refine wpAny_landsW hh fun h2 hfl2 up2=>?_
 rw[← hst] at hfl2
 exact k _ (f.to I hB k1 k2 hfl2 (up1.trans up2))
theorem fly_again{M:Model}{A:Around}{E:Value→Shared→Prop}{Q:Unit→Shared→Prop}(I:Inv X pins σ H s)(f:Fly X.prog X.w X.stack H s x cls H' s')
 (k:∀s'',Fly X.prog X.w X.stack H s x cls H' s''→Q () s''):wpAny M A (setFlight (.ref x) none) Q E s':=by
 obtain⟨B,a0,hfl,hB,k1,k2⟩:=f.ex
 exact lands_againW hfl fun h2 hfl2 up2=>k _ (f.to I hB k1 k2 hfl2 up2)
theorem Fly.there(f:Fly X.prog X.w X.stack H s x cls H' s'):∃o,s'.heap.get? x=some o∧o.cls=cls:=by
 obtain⟨B,a0,hfl,_⟩:=f.ex
 exact hfl.there
theorem Inv.track(I:Inv X pins σ H s)(hx:H x=none)(he:∃o,s.heap.get? x=some o∧o.cls=cls)(ne:x≠X.env.locals)(nc:∀y c,X.env.cells.lookup y=some c→c≠x)(np:∀p∈X.pn++pins,p.1≠x)(nb:X.s₀.heap.get? x=none):Inv X pins σ (upd H x (zbX x cls)) s:=by
 obtain⟨o,eo,ec⟩:=he
 refine⟨I.ok,I.os,I.bare,⟨I.base.keep,I.base.slot,fun b ob q n hb=>?_,I.base.there,fun b xs q=>?_,fun b ob u q=>?_,fun b ps q=>?_⟩,I.loc,I.cell,?_,fun y c e=>?_,fun p hp=>?_,fun b u q=>?_,I.len⟩
 ·rw[zj (fun z=>by rw[z,nb] at q;cases q)];exact I.base.free b ob q n hb
 ·have:=I.base.tups b xs q;rw[zj (zu this hx)];exact this
 ·have:=I.base.frzs b ob u q;rw[zj (zu this hx)];exact this
 ·obtain⟨m,e⟩:=I.base.tbls b ps q
  exact⟨m,by rw[zj (zu e hx)];exact e⟩
 ·rw[zj (Ne.symm ne)];exact I.free
 ·rw[zj (nc y c e)];exact I.freeC y c e
 ·obtain⟨p1,p2,p3⟩:=I.pin p hp
  exact⟨p1,by rw[zj (np p hp)];exact p2,p3⟩
 ·by_cases hb:b=x
  ·subst hb
   rw[zg] at q;cases q
   exact⟨⟨o,eo,ec⟩,⟨o,eo⟩,fun h1 h2 ⟨o1,e1,c1⟩ k=>⟨o1,k o1 e1,c1⟩⟩
  ·rw[zj hb] at q
   exact(I.hok b u q).stay (fun c v _ z=>z) (fun c z=>by rw[zj (zu z hx)];exact z) fun c xs z=>by rw[zj (zu z hx)];exact z
theorem zeZ{M:Model}{A:Around}{E:Value→Shared→Prop}{i:Nat}{n:Str}{pos:Pos}{Q:Unit→Shared→Prop}(I:Inv X pins σ H s)(hN:X.N.Nodup)(hi:X.N[i]? = some n)(hk:X.env.scope.names.lookup n=some .local)
 (h:∀s',Inv X pins (σ.set i none) H s'→Q () s'):wpAny M A (do bindName X.env n .none;unbindBehindTheSuite X.env n pos) Q E s:=by
 obtain⟨m,hn,hl⟩:=id I.loc
 have hcls:(X.env.scope.kind == .class || (X.env.scope.kind == .module && X.env.locals != X.env.globals))=false:=by rw[I.ok.kind];rfl
 refine wpAny_nameGoes_keeps hk hn hcls fun h' v hn' hs=>?_
 obtain⟨oL,_,_,hoL,_⟩:=id hn
 have lt:∀b o,X.s₀.heap.get? b=some o→b≠X.env.locals:=fun b o e=>Nat.ne_of_lt (Nat.lt_of_lt_of_le (Heap.lt_size e) I.ok.above)
 refine h _ ⟨I.ok,I.os,I.bare,⟨fun b o e q hb hx=>(hs.2 b (lt b o e)).trans (I.base.keep b o e q hb hx),fun b o e q hb hx=>?_,I.base.free,fun b o e hx=>?_,I.base.tups,I.base.frzs,I.base.tbls⟩,⟨_,hn',fun j y w e1 e2 e3=>?_⟩,fun y c e=>?_,I.free,I.freeC,fun p hp=>?_,fun b ob e=>?_,by simpa using I.len⟩
 ·obtain⟨sl,e1⟩:=I.base.slot b o e q hb hx
  exact⟨sl,(hs.2 b (lt b o e)).trans e1⟩
 ·obtain⟨o',e1⟩:=I.base.there b o e hx
  exact⟨o',(hs.2 b (lt b o e)).trans e1⟩
 ·have hji:j≠i:=fun z=>by
   subst z
   rw[List.getElem?_set_self (by rw[I.len];exact(List.getElem?_eq_some_iff.mp hi).1)] at e2
   cases e2
  rw[List.getElem?_set_ne (Ne.symm hji)] at e2
  obtain⟨u,r,q⟩:=hl j y w e1 e2 e3
  refine⟨u,r,?_⟩
  rcases q with⟨k,e⟩ | ⟨k,c,e,z⟩
  ·refine .inl ⟨k,?_⟩
   have:y≠n:=fun e=>hji (zfi hN e1 (e ▸ hi))
   simp[this,e]
  ·exact .inr ⟨k,c,e,z.sameBut hs (I.cne y c e)⟩
 ·obtain⟨w',z⟩:=I.cell y c e
  exact⟨w',z.sameBut hs (I.cne y c e)⟩
 ·obtain⟨e,q,ne,nf,d⟩:=I.pin p hp
  exact⟨(hs.2 p.1 ne).trans e,q,ne,nf,d⟩
 ·refine(I.hok b ob e).stay (fun c w' hc q=>(hs.2 c ?_).trans q) (fun _ q=>q) fun _ _ q=>q
  rintro rfl
  have nl:=I.free
  rcases hc with hc | hc
  ·rw[hc,e] at nl;cases nl
  ·rw[nl] at hc;cases hc
end
theorem zjF{M:Model}{A:Around}{E:Value→Shared→Prop}{h:Heap}{g:Array GenState}{d:Drawn}{t:Nat}{os:OsState}{K:PySem.W.Frag}{e C D:Addr}{oe:Obj}{Q:Bool→Shared→Prop}(hk:K.In h)(xC:ExC K C)(xD:ExC K D)
 (he:h.get? e=some oe) (hcls:oe.cls=.ref C) (hq:Q (zaU K C D) ⟨h,g,d,t,os⟩):wpAny M A (excMatches (.ref e) (.ref D)) Q E ⟨h,g,d,t,os⟩:=by
 obtain⟨tl,N,nm,qn,bs,hd,sn,sb,ab,cl,dd,a0,a1,a2,a3,a5,mN,hC,hN,hni,T,sub⟩:=zhn hk xC
 obtain⟨tl',N',nm',qn',bs',hd',sn',sb',ab',cl',dd',b0,b1,b2,b3,b5,mN',hD,hN',hni',T',sub'⟩:=zhn hk xD
 have cB:(Value.ref D::tl').contains (.type "BaseException")=true:=by rw[List.contains_cons,T'.hasType (X:= "BaseException") (b:=true) (by decide),Bool.or_true]
 have cD:=sub D
 have f:=tc_notTuple
 unfold excMatches
 repeat (first | (with_reducible refine wpAny_loadPart_at he ?_;rw[hcls]) | with_reducible refine wpAny_loadPart_at hD ?_ | (with_reducible refine wpAny_isSubtype_exc hD ?_;rw[cB]) | (with_reducible refine wpAny_isSubtype_exc hC ?_;rw[cD]) | wp_step)
 all_goals (cases hb:zaU K C D <;> (rw[hb] at hq;first | exact hq | (wp_walk;exact hq)))
def PH(X:Cx)(hs:List ExceptHandler)(th:Value→TS):Prop :=
 ∀(pins:List (Addr × Obj)) (s0 s:Shared) (σ:St) (H H':Hp) (x:Addr) (cls:Value) (D:Ends),Inv X pins σ H s0→Fly X.prog X.w X.stack H s0 x cls H' s→th cls D σ H'→wpAny (model X.prog X.w) X.A (handleBy (.ref x) X.env hs) (SP X pins D) X.xe s
def thNever:Value→TS:=fun _ _ _ _=>False
theorem ph_never{X:Cx}{hs:List ExceptHandler}:PH X hs thNever:=fun _ _ _ _ _ _ _ _ _ _ _ h=>h.elim
def Ends.gone(D:Ends)(i:Nat):Ends:=⟨fun σ H=>D.nx (σ.set i none) H,D.rt,fun σ H=>D.bk (σ.set i none) H,fun σ H=>D.ct (σ.set i none) H⟩
def thAs(K:PySem.W.Frag)(Dx:Addr)(i:Nat)(ts:TS)(tr:Value→TS):Value→TS:=fun cls D σ H=>∃C,cls=.ref C∧ExC K C ∧
 if zaU K C Dx=true then ∀x,H x=none→ts (D.gone i) (σ.set i (some (.ref x))) (upd H x (zbX x (.ref C)))else tr cls D σ H
section
variable {X:Cx} {x n:Str} {Dx:Addr} {np hpos:Pos} {b0:Stmt} {suite:List Stmt} {zcO:List ExceptHandler} {ts:TS} {tr:Value→TS} {i:Nat}
theorem SP.back{pins:List (Addr × Obj)}{D:Ends}{y:Addr}(ok:X.Ok){f:Flow}{s:Shared}(h:SP (zcU X y) pins D f s):SP X pins D f s:=by
 cases f with
 | next=>obtain⟨σ',H',I,q⟩:=h;exact⟨σ',H',I.unsuite ok,q⟩
 | brk=>obtain⟨σ',H',I,q⟩:=h;exact⟨σ',H',I.unsuite ok,q⟩
 | cont=>obtain⟨σ',H',I,q⟩:=h;exact⟨σ',H',I.unsuite ok,q⟩
 | ret u=>obtain⟨v,σ',H',I,r,q⟩:=h;exact⟨v,σ',H',I.unsuite ok,r,q⟩
theorem ph_as(hg:Gl X x)(hm:X.mg x=some (.ref Dx))(hx:ExC X.K Dx)(hN:X.N.Nodup)(hi:X.N[i]? = some n)(hk:X.env.scope.names.lookup n=some .local)(hs:∀y,PSs (zcU X y) (b0::suite) ts)(hr:PH X zcO tr)(hex:X.ex = []:=by rfl)
 (hdb:(x==("__debug__" : Str))=false:=by decide):PH X (.ExceptHandler (some (.Name x np)) (some n) (b0::suite) hpos::zcO) (thAs X.K Dx i ts tr):=by
 intro pins s0 s σ H H' y cls D I fl h
 obtain⟨C,rfl,hC,h⟩:=h
 have I1:Inv X pins σ H' s:=fl.inv I
 obtain⟨oe,he,hcls⟩:=fl.there
 refine wpAny_handleBy_cons (codeAny_handlers_test ?_) (by intro q;cases q)
 refine zda (X:=zcU X y) I1.suite hg hm ?_ hdb
 refine zjF (K:=X.K) (g:=s.gens) (d:=s.drawn) (t:=s.toks) (os:=s.os) I1.kIn hC hx he hcls ?_
 cases hb:zaU X.K C Dx with
 | false =>
   rw[hb,if_neg Bool.false_ne_true] at h
   exact hr pins s0 s σ H H' y (.ref C) D I fl h
 | true =>
   rw[hb,if_pos rfl] at h
   show codeAny _ _ (.handlers (.ref y) [.ExceptHandler none (some n) (b0::suite) hpos] X.env) _ s
   refine codeAny_handlers_suite_as ?_
   refine fly_again I fl fun s2 fl2=>?_
   have I2:Inv X pins σ H' s2:=fl2.inv I
   have hyn:H' y=none:=fl2.new
   obtain⟨B,a0,hfl,hB,k1,k2⟩:=fl2.ex
   have nB:B.get? y=none:=hfl.2.1
   have nst:y∉frs X.stack:=fun z=>by
    obtain⟨_,o1,e1,d⟩:=hfl.2.2.1.mem z
    obtain⟨o2,vs,e2,_,d2,_⟩:=hfl.first
    rw[e1] at e2;cases e2
    exact d _ d2
   have n0:s0.heap.get? y=none:=by
    cases q:s0.heap.get? y with
    | none=>rfl
    | some o=>obtain⟨o',e⟩:=k2 y o q nst;rw[nB] at e;cases e
   have J:Inv X pins σ (upd H' y (zbX y (.ref C))) s2:=by
    refine I2.track hyn fl2.there (fun z=>?_) (fun z c e q=>?_) (fun p hp q=>?_) ?_
    ·obtain⟨m,⟨o,_,_,ho,_⟩,_⟩:=I.loc
     rw[← z,n0] at ho;cases ho
    ·obtain⟨v,o,ho,_⟩:=I.cell z c e
     rw[q,n0] at ho;cases ho
    ·have:=(I.pin p hp).1
     rw[q,n0] at this;cases this
    ·cases q:X.s₀.heap.get? y with
     | none=>rfl
     | some o =>
       obtain⟨o',e⟩:=I.base.there y o q (by rw[hex];exact List.not_mem_nil)
       rw[n0] at e;cases e
   have J':Inv (zcU X y) pins σ (upd H' y (zbX y (.ref C))) s2:=J.suite
   refine zfC (X:=zcU X y) J' hN hi (.inl hk) (show zR (.ref y) (.ref y)from rfl) (fun s3 I3=>?_) (.inr hk)
   refine wpAny_mono (hs y pins s3 _ _ (D.gone i) I3 (h y hyn)) (fun f s4 q4=>?_) fun _ _ z=>False.elim z
   have q5:=SP.back I.ok q4
   cases f with
   | next=>obtain⟨σ',H2,I4,q⟩:=q5;exact zeZ I4 hN hi hk fun s5 I5=>⟨_,_,I5,q⟩
   | brk=>obtain⟨σ',H2,I4,q⟩:=q5;exact zeZ I4 hN hi hk fun s5 I5=>⟨_,_,I5,q⟩
   | cont=>obtain⟨σ',H2,I4,q⟩:=q5;exact zeZ I4 hN hi hk fun s5 I5=>⟨_,_,I5,q⟩
   | ret u=>obtain⟨v,σ',H2,I4,r,q⟩:=q5;exact zeZ I4 hN hi hk fun s5 I5=>⟨v,_,_,I5,r,q⟩
abbrev _root_.L2.Cx.inTry(X:Cx)(E:Value→Shared→Prop)(pn:List (Addr × Obj)):Cx:={ X with xe:=E,pn:=pn }
def tTry(tb:XW→TS)(th:Value→TS):TS:=fun D σ H=>∃W:XW,tb W D σ H∧∀σ1 cls H1,W σ1 cls H1→th cls D σ1 H1
theorem Inv.tried{E:Value→Shared→Prop}{pins:List (Addr × Obj)}{σ:St}{H:Hp}{s:Shared}(I:Inv X pins σ H s):Inv (X.inTry E (X.pn++pins)) [] σ H s :=
 ⟨⟨I.ok.mod,I.ok.kind,I.ok.glob,I.ok.blt,I.ok.above,I.ok.inj,I.ok.has,I.ok.cab,I.ok.hd,I.ok.frames,I.ok.stk,I.ok.exf,I.ok.bs,I.ok.bsz,I.ok.noex,I.ok.exfs,I.ok.funs,I.ok.frf⟩,I.os,I.bare,I.base,I.loc,I.cell,I.free,I.freeC,fun p hp=>I.pin p (by simpa using hp),I.hok,I.len⟩
theorem Inv.untried{E:Value→Shared→Prop}{pins pins1:List (Addr × Obj)}{σ:St}{H:Hp}{s:Shared}(I:Inv (X.inTry E (X.pn++pins)) pins1 σ H s):Inv X pins σ H s :=
 ⟨⟨I.ok.mod,I.ok.kind,I.ok.glob,I.ok.blt,I.ok.above,I.ok.inj,I.ok.has,I.ok.cab,I.ok.hd,I.ok.frames,I.ok.stk,I.ok.exf,I.ok.bs,I.ok.bsz,I.ok.noex,I.ok.exfs,I.ok.funs,I.ok.frf⟩,I.os,I.bare,I.base,I.loc,I.cell,I.free,I.freeC,fun p hp=>I.pin p (List.mem_append_left _ hp),I.hok,I.len⟩
theorem ps_try{body:List Stmt}{h0:ExceptHandler}{hs:List ExceptHandler}{pos:Pos}{tb:XW→TS}{th:Value→TS}(hst:X.stack=X.env::X.outer)(hf:X.env.frame=some X.env.locals)
 (hb:∀(E:Value→Shared→Prop) (pn:List (Addr × Obj)) (W:XW),Fl (X.inTry E pn) W→PSs (X.inTry E pn) body (tb W)) (hh:PH X (h0::hs) th):PS X (.Try body (h0::hs) [] [] pos) (tTry tb th):=by
 intro pins s σ H D I h
 obtain⟨W,h1,h2⟩:=h
 refine wpAny_Try_except ?_
 refine wpAny_mono (hb (fun e s₁=>wpAny (model X.prog X.w) X.A (noteFrame e X.env) (fun _ s₂=>wpAny (model X.prog X.w) X.A (setFlight e none) (fun _ s₃=>wpAny (model X.prog X.w) X.A (handleBy e X.env (h0::hs)) (SP X pins D) X.xe s₃) X.xe s₂) X.xe s₁) (X.pn++pins) W ?_ [] s σ H D I.tried h1) (fun f s1 q=>?_) fun e s1 q=>q
 ·intro pins1 σ1 H1 s1 x cls H' s' I1 fly w1
  exact fly_land (X:=X) (pins:=pins) I1.untried fly hst hf fun s2 fly2=>hh pins s1 s2 σ1 H1 H' x cls D I1.untried fly2 (h2 σ1 cls H' w1)
 ·cases f with
  | next=>obtain⟨σ',H',I',q⟩:=q;exact wpAny_execs_nil ⟨σ',H',I'.untried,q⟩
  | brk=>obtain⟨σ',H',I',q⟩:=q;exact⟨σ',H',I'.untried,q⟩
  | cont=>obtain⟨σ',H',I',q⟩:=q;exact⟨σ',H',I'.untried,q⟩
  | ret u=>obtain⟨v,σ',H',I',r,q⟩:=q;exact⟨v,σ',H',I'.untried,r,q⟩
end
theorem zgo{M:Model}{h:Heap}{x:Addr}{o:Obj}{t:Value}(e:h.get? x=some o)(c:o.cls=t):PySem.W.Looks M h (typeOf (.ref x)) t:=by
 intro A Q E s k q
 show wpAny M A (loadHead x >>= fun o=>pure o.cls) Q E s
 unfold loadHead
 exact wpAny_bind (wpAny_loadPart (k _ _ e) (wpAny_pure (by rw[c];exact q)))
section
variable {X:Cx}
end
theorem zeB{X:Cx}:Fl X fun _ _ _=>False:=fun _ _ _ _ _ _ _ _ _ _ h=>h.elim
abbrev zq(K:PySem.W.Frag)(x:Str)(C:Addr):Prop:=PySem.W.nsIn K mainGlobals x=some (some (.ref C))
theorem zq.inj{K:PySem.W.Frag}{x:Str}{C D:Addr}(a:zq K x C)(b:zq K x D):C=D:=by
 have:=a.symm.trans b
 cases this
 rfl
theorem zfr{X:Cx}{x:Str}{C:Addr}{pos:Pos}(hg:Gl X x)(hm:X.mg x=some (.ref C))(hd:(x==("__debug__" : Str))=false:=by decide):PE X (.Name x pos) (tC (.ref C)):=zja hg hm rfl hd
section
variable {X:Cx} {K:PySem.W.Frag}
theorem zb5(h:X.K=K):IxR X (rIxL K):=by subst h;exact zN
end
theorem zgj{b:Bool}{A B:Prop}(h:b=true)(k:A):if b=true then A else B:=by rw[if_pos h];exact k
theorem zbu{b:Bool}{A B:Prop}(h:b=false)(k:B):if b=true then A else B:=by rw[h,if_neg Bool.false_ne_true];exact k
section
variable {α:Type} [DecidableEq α]
def zem(acc:List α)(v:α):List α:=if v∈acc then acc else acc ++ [v]
def met(val:Nat→α)(i:Nat):List α:=((List.range i).map val).foldl zem []
theorem ze3(val:Nat→α)(i:Nat):met val (i+1)=zem (met val i) (val i):=by
 unfold met;rw[List.range_succ,List.map_append,List.foldl_append];rfl
theorem ze1{acc:List α}{v k:α}:k∈zem acc v↔k∈acc∨k=v:=by
 unfold zem
 split
 ·rename_i h
  exact⟨.inl,fun z=>z.elim id fun e=>by rw[e];exact h⟩
 ·rw[List.mem_append,List.mem_singleton]
theorem ze5(acc:List α)(v:α):(zem acc v).length=if decide (v∈acc)=true then acc.length else acc.length+1:=by
 unfold zem
 by_cases h:v∈acc
 ·rw[if_pos h,decide_eq_true h,if_pos rfl]
 ·rw[if_neg h,decide_eq_false h,if_neg (by decide),List.length_append];rfl
theorem zjb(val:Nat→α):∀i,(met val i).length≤i
 | 0=>Nat.le_refl _
 | i+1=>by
   rw[ze3,ze5]
   have:=zjb val i
   split <;> omega
theorem met_list(ts:List α)(d:α):met (fun i=>ts.getD i d) ts.length=ts.foldl zem []:=by
 unfold met
 congr 1
 refine List.ext_getElem (by simp) fun i h1 h2=>?_
 rw[List.getElem_map,List.getElem_range,List.getD_eq_getElem?_getD,List.getElem?_eq_getElem h2]
 rfl
theorem zhi(acc ts:List α):(ts.foldl zem acc).length≤acc.length+ts.length:=by
 induction ts generalizing acc with
 | nil=>exact Nat.le_refl _
 | cons a ts ih =>
   rw[List.foldl_cons]
   refine Nat.le_trans (ih _) ?_
   rw[ze5,List.length_cons]
   split <;> omega
theorem zfT(acc ts:List α)(hacc:acc.Nodup):(ts.foldl zem acc).length=acc.length+ts.length↔(acc++ts).Nodup:=by
 induction ts generalizing acc with
 | nil=>simpa using hacc
 | cons a ts ih =>
   rw[List.foldl_cons]
   by_cases h:a∈acc
   ·have e:zem acc a=acc:=by unfold zem;rw[if_pos h]
    rw[e]
    constructor
    ·intro q
     have:=zhi acc ts
     rw[List.length_cons] at q
     omega
    ·intro q
     rw[List.nodup_append] at q
     exact absurd rfl (q.2.2 a h a List.mem_cons_self)
   ·have e:zem acc a=acc ++ [a]:=by unfold zem;rw[if_neg h]
    have hn:(acc ++ [a]).Nodup:=by
     rw[List.nodup_append]
     exact⟨hacc,by simp,fun x hx y hy z=>h (by rw[List.mem_singleton.mp hy] at z;rw[← z];exact hx)⟩
    rw[e]
    have:=ih (acc ++ [a]) hn
    rw[List.append_assoc,List.singleton_append] at this
    rw[← this,List.length_append,List.length_singleton,List.length_cons]
    omega
theorem zia(ts:List α)(d:α):(met (fun i=>ts.getD i d) ts.length).length=ts.length↔ts.Nodup:=by
 rw[met_list]
 have:=zfT [] ts List.nodup_nil
 simpa using this
end
section
variable {prog:Program} {w:World} {A:Around} {R:Result→Shared→Prop} {it:Addr} {fp wr:List Addr} {G:Array GenState→Array GenState→Prop} {n:Nat} {P:Nat→Value→Prop} {St:Nat→Shared→Prop}
variable {α:Type} [DecidableEq α] {knd:KeyKind prog w α}
theorem zeC{h h':Heap}{a:Addr}{S:α→Bool}{m:Nat}(x:h.SetOf knd a S m)(k:∀o,h.get? a=some o→h'.get? a=some o):h'.SetOf knd a S m:=by
 obtain⟨o,es,ep,t,ho,r⟩:=x
 exact⟨o,es,ep,t,k _ ho,r⟩
theorem zhS{h:Heap}{a:Addr}{S S':α→Bool}{m m':Nat}(x:h.SetOf knd a S m)(e:S=S')(e':m=m'):h.SetOf knd a S' m':=by subst e;subst e';exact x
theorem set_fill(W:WalksS prog w A.in1 it fp wr G n P St)(S:Addr)(hS:S∉fp)(val:Nat→α)(hv:∀i v,P i v→knd.is (val i) v=true∧v.scannable=true)(hb:n+1<scanBound):
 ∀(k i:Nat) (s:Shared),k+i=n→St i s→s.heap.SetOf knd S (fun x=>decide (x∈met val i)) (met val i).length →
  (∀s',Moved (S::wr) G s s'→s'.heap.SetOf knd S (fun x=>decide (x∈met val n)) (met val n).length→R (.ok (.ret .none)) s') →
  codeAny (model prog w) A (.builtin "set.update.loop" ⟨[.ref S,.ref it],[]⟩) R s:=by
 have hw:S∉wr:=fun z=>hS (W.sub _ z)
 intro k
 induction k with
 | zero =>
   intro i s hk st hs hR
   rw[Nat.zero_add] at hk
   subst hk
   refine codeAny_builtin F.entry_set_update_loop ?_
   rw[Around.under_plainId F.plain_set_update_loop _]
   refine wpAny_bind (W.done s _ _ st fun s' hm=>?_)
   exact wpAny_pure (hR s' (hm.mono fun b z=>List.mem_cons_of_mem _ z) (zeC hs fun o e=>hm.heap S o hw e))
 | succ k ih =>
   intro i s hk st hs hR
   refine codeAny_builtin F.entry_set_update_loop ?_
   rw[Around.under_plainId F.plain_set_update_loop _]
   refine wpAny_bind (W.item i s _ _ (by omega) st fun v s' hP st' hm=>?_)
   obtain⟨kv,sv⟩:=hv i v hP
   have hs':=zeC hs fun o e=>hm.heap S o hw e
   refine wpAny_bind (m:=holding [v] (setAdd S v)) (wpAny_holding ?_)
   unfold setAdd
   refine wpAny_holding (wpAny_bind (knd.pyHash kv ?_))
   refine wpAny_setAddHashed_of (knd:=knd) (s:={ s' with toks:=s'.toks+1 }) kv sv hs' (by have:=zjb val i;omega) fun h' hsb hs2=>?_
   have hs3:h'.SetOf knd S (fun x=>decide (x∈met val (i+1))) (met val (i+1)).length:=by
    refine zhS hs2 (funext fun x=>?_) ?_
    ·rw[ze3]
     by_cases h1:x∈met val i
     ·rw[decide_eq_true h1,decide_eq_true (ze1.mpr (.inl h1)),Bool.true_or]
     ·by_cases h2:x=val i
      ·rw[decide_eq_true h2,decide_eq_true (ze1.mpr (.inr h2)),Bool.or_true]
      ·rw[decide_eq_false h1,decide_eq_false h2,decide_eq_false fun z=>(ze1.mp z).elim h1 h2];rfl
    ·rw[ze3,ze5]
   refine wpAny_pure ⟨plainId_quiet F.plain_set_update_loop _,ih (i+1) _ (by omega) (W.frame _ s' _ _ st' (Nat.le_succ _) fun b hb o e=>?_) hs3 fun s'' hm''=>hR s'' ?_⟩
   ·rw[hsb.2 b fun z=>hS (by rw[← z];exact hb)];exact e
   ·refine Moved.trans W.gtrans ((hm.mono fun b z=>List.mem_cons_of_mem _ z).then_heap (Nat.le_succ _) fun b o hb e=>?_) hm''
    rw[hsb.2 b fun z=>hb (by rw[z];exact List.mem_cons_self)];exact e
end
section
variable {prog:Program} {w:World} {A:Around} {E:Value→Shared→Prop} {s:Shared} {α:Type} [DecidableEq α] {knd:KeyKind prog w α}
def Filled(knd:KeyKind prog w α)(s:Shared)(ks:List α)(s2:Shared):Prop :=
 ∃(h':Heap) (tk:Nat),s2={ s with heap:=h',toks:=tk }∧h'.SetOf knd s.heap.objs.size (fun k=>decide (k∈ks)) ks.length∧∀b o,b<s.heap.objs.size→s.heap.get? b=some o→h'.get? b=some o
set_option maxHeartbeats 3200000 in
theorem zh0{l:Addr}{items:Array Value}{val:Nat→α}{Q:Value→Shared→Prop}(hh:A.handled=none)(hl:s.heap.IsList l items)(hv:∀i v,items[i]? = some v→knd.is (val i) v=true∧v.scannable=true)(hb:items.size+1<scanBound)
 (h:∀s2,Filled knd s (met val items.size) s2→Q (.ref s.heap.objs.size) s2):wpAny (model prog w) A (call (.type "set") [.ref l]) Q E s:=by
 have hlt:l<s.heap.objs.size:=by obtain⟨o,e,_⟩:=hl;exact Heap.lt_size e
 obtain⟨c,tl,hmro⟩:=F.called_set.mro
 have hmade:=F.called_set.made
 have hsub:=F.called_set.sub
 refine wpAny_call (codeAny_of_tree ?_)
 show wpAny _ _ (callAny (.type "set") _) _ _ _
 refine wpAny_pure ⟨Code.quiet_builtin _ (by decide +kernel),codeAny_builtin F.entry_type_call ?_⟩
 rw[Around.under_plain (weight_type_call_type "set" [.ref l] []) rfl]
 have h1:=F.called_set.notType
 have h2:=F.called_set.canCreate
 have h3:=F.typeCall_set_1 (.ref l)
 repeat (any_goals (first | assumption | wp_step))
 refine codeAny_mono (code_set_new_1 (.ref l) (E:=E) (Q₁:=fun v s₁=>∃led:Bool,v=.ref s.heap.objs.size∧s₁={ s with heap:=s.heap.push { cls:=.type "set",dict:=none,data:=.set #[] 0 (.fresh 0 0 led) } }) fun led=>⟨led,rfl,rfl⟩) fun r s₁ hr=>?_
 rcases r with e | fl
 ·exact hr
 cases fl with
 | ret v =>
   obtain⟨led,rfl,rfl⟩:=hr
   generalize hob:({ cls:=.type "set",dict:=none,data:=.set #[] 0 (.fresh 0 0 led) }:Obj)=ob
   have hS:(s.heap.push ob).get? s.heap.objs.size=some ob:=Heap.get?_push_size _ (by rw[← hob];rfl)
   have hT:Shared.TypeIs { s with heap:=s.heap.push ob } (.ref s.heap.objs.size) "set" := ⟨_,hS,by rw[← hob]⟩
   have h4:=F.called_set.init.lookup
   have h5:=F.called_set.init.bind (.ref s.heap.objs.size)
   repeat (any_goals (first | assumption | wp_step))
   refine codeAny_mono (codeAny_call_builtin (R:=wants (fun r s₂=>r=.none∧Filled knd s (met val items.size) s₂) E) F.called_set.init.plain F.entry_set_init (check_set_init_1 hT ?_)) fun r₂ s₂ hr₂=>?_
   ·have hl1:(s.heap.push ob).IsList l items:=hl.push _
    obtain⟨⟨ocls,odict,odata,oslots⟩,hol,hcl,nl,hdl⟩:=id hl1
    simp only at hcl hdl
    subst hcl hdl
    have h6:=F.sub_list_set
    have h7:=F.sub_list_frozenset
    have h8:(Value.type "list" == Value.type "dict")=false:=by decide
    subst hob
    unfold Builtin.«set.__init__» noKeywords Builtin.Frozenset.updateFrom
    generalize hPI:pyIter=PI
    wp_walk
    subst hPI
    refine wpAny_pyIter_list hl1 (wpAny_bind (wpAny_runValue ?_))
    have hsz:(s.heap.push { cls:=.type "set",dict:=none,data:=.set #[] 0 (.fresh 0 0 led) }).objs.size=s.heap.objs.size+1:=Heap.size_push ..
    refine set_fill (knd:=knd) ((Walks.list (by simp[hh]) _ l (by rw[hsz];exact Nat.ne_of_lt (Nat.lt_succ_of_lt hlt)) items).toS) s.heap.objs.size ?_ val hv hb items.size 0 _ rfl ⟨⟨_,Heap.get?_push_size _ rfl,rfl,rfl⟩,hl1.push _⟩ ?_ fun s' hm hS'=>?_
    ·rw[hsz]
     simp only[List.mem_cons,List.not_mem_nil,or_false,not_or]
     exact⟨Nat.ne_of_lt (Nat.lt_succ_self _),Nat.ne_of_gt hlt⟩
    ·exact zhS ((setObjOf_fresh (knd:=knd) led).setOf (Heap.get?_push_of_some _ hS) (by unfold scanBound;omega)) rfl rfl
    ·obtain⟨h',g',d',tk',os'⟩:=s'
     have eg:g'=s.gens:=hm.gens
     have ed:d'=s.drawn:=hm.drawn
     have eo:os'=s.os:=hm.os
     subst eg ed eo
     refine wpAny_pure (show wpAny _ _ (ret Value.none) _ _ _ from wpAny_pure ⟨rfl,h',tk',rfl,hS',fun b o hb e=>?_⟩)
     refine hm.heap b o ?_ (Heap.get?_push_of_some _ (Heap.get?_push_of_some _ e))
     rw[hsz]
     simp only[List.mem_cons,List.not_mem_nil,or_false,not_or]
     exact⟨Nat.ne_of_lt hb,Nat.ne_of_lt (Nat.lt_succ_of_lt hb)⟩
   ·rcases r₂ with e | fl₂
    ·exact hr₂
    cases fl₂ with
    | ret r =>
      obtain⟨rfl,hf⟩:=hr₂
      repeat (any_goals (first | assumption | wp_step))
      exact h _ hf
    | _=>exact hr₂.elim
 | _=>exact hr.elim
end
section
variable {X:Cx}
theorem zgx:OpR X (compareOp .LtE) (fun x y H Q=>∃i j,x=.str i∧y=.str j∧Q (.bl (!decide (j.cps.toList<i.cps.toList))) H):=by
 intro pins s σ H x y v u Q I rx ry h
 obtain⟨i,j,rfl,rfl,q⟩:=h
 obtain⟨t,rfl⟩:=rx
 obtain⟨t',rfl⟩:=ry
 exact PySem.P.le_str (zT I q rfl)
def rSlS:V→Option Int→Option Int→Hp→VK→Prop:=fun x lo hi H Q=>∃z,x=.str z∧z.length≤sizeLine∧Q (.str (PySem.Txt.slice z lo hi)) H
theorem zjw{v:Value}{o:Option Int}(h:IsPart v o):∃p:Option (Int × Tok),v=partValue p∧p.map (·.1)=o:=by
 cases h with
 | none=>exact⟨none,rfl,rfl⟩
 | int i t=>exact⟨some (i,t),rfl,rfl⟩
theorem ziL:SlR X rSlS:=by
 intro pins s σ H x v vl vu lo hi sl Q I rx hs pl pu h
 obtain⟨z,rfl,hz,q⟩:=h
 obtain⟨t,rfl⟩:=rx
 obtain⟨l,rfl,rfl⟩:=zjw pl
 obtain⟨u,rfl,rfl⟩:=zjw pu
 refine⟨"str",_,PySem.F.slot_str_getitem.lookup,typeIs_str _ _ _,wpAny_getItem_str_slice (l:=l) (u:=u) (st:=none) hs rfl (post_val_or_str ⟨Nat.le_trans (PySem.Txt.slice_le z _ _) hz,fun t' k=>?_⟩)⟩
 exact⟨.str (PySem.Txt.slice z _ _),H,I.tok _,⟨t',rfl⟩,q⟩
def Its(z:Str):It:=⟨fun i _=>i<z.length,fun i H x H'=>H'=H∧∃c,z.cps[i]? = some c∧x=.str ⟨#[c]⟩,fun i _=>i=z.length⟩
theorem ziq{P:Program}{w:World}{K:PySem.W.Frag}{tg:Expr}(it:Addr)(T:String)(z:Str)(t:Tok)
 (hT : ["enumerate","zip","dict_itemiterator","dict_reverseitemiterator","odict_iterator","itertools.zip_longest","itertools.pairwise"].contains T=false)
 (W:∀A:Around,A.handled=none→Walks P w A it [it] [it] z.cps.size (SignAt z) (fun i h=>h.IsStrIter it T z t i))
 (slf:∀(A:Around) (i:Nat) (s:Shared) (Q:Value→Shared→Prop) (E:Value→Shared→Prop),s.heap.IsStrIter it T z t i→Q (.ref it) s→wpAny (model P w) A (pyIter (.ref it)) Q E s) :
 Turn P w K tg (Its z) [it] it (fun i h=>h.IsStrIter it T z t i) where
 mem:=by simp
 obj:=fun i h st b hb=>by
  have e:b=it:=by simpa using hb
  subst e
  obtain⟨o,e,c,d⟩:=st
  exact⟨o,e,fun v z=>by rw[d] at z;cases z⟩
 keep:=fun i h h' st k=>by obtain⟨o,e,r⟩:=st;exact⟨o,k it (by simp) o e,r⟩
 item:=by
  intro X hP hw hK hc i pins s σ H E I hf st hg
  subst hP hw hK
  obtain⟨f0,f1,f2,f3,f4,f5⟩:=hf it (by simp)
  refine(W X.A (I.ok.hd hc)).item i s _ _ hg st fun v h' tk hv st' kk=>?_
  obtain⟨c,u,ec,rfl⟩:=hv
  have I1:Inv X pins σ H { s with heap:=h',toks:=tk }:=I.turned (fun b o hb e=>kk b o (by simpa using hb) e) f0 f1 f3 f4 f5
  obtain⟨o,e,c1,d⟩:=id st'
  exact⟨_,rfl,go_of (s:={ s with heap:=h',toks:=tk }) (n:=T) e c1 d hT ⟨.str ⟨#[c]⟩,H,I1,⟨u,rfl⟩,⟨rfl,c,ec,rfl⟩,st',fun b hb=>(hf b hb).1⟩⟩
 done:=by
  intro X hP hw hK hc i pins s σ H E I hf st hg
  subst hP hw hK
  obtain⟨f0,f1,f2,f3,f4,f5⟩:=hf it (by simp)
  have hg:i=z.cps.size:=hg
  subst hg
  exact(W X.A (I.ok.hd hc)).done s _ _ st fun h' tk kk=>⟨rfl,I.turned (fun b o hb e=>kk b o (by simpa using hb) e) f0 f1 f3 f4 f5⟩
 self:=fun A i s Q E st h=>slf A i s Q E st h
def iStr(tl:TE):TI:=fun σ H R=>tl σ H fun x H1=>∃z,x=.str z∧R (Its z) H1
theorem pi_str{tg l:Expr}{tl:TE}(hl:PE X l tl):PI X tg l (iStr tl):=by
 intro pins s σ H R I h
 refine thn (hl pins s σ H _ I h) fun v s1 ⟨x,H1,I1,r1,q1⟩=>?_
 obtain⟨z,e,q⟩:=q1
 subst e
 obtain⟨t,rfl⟩:=r1
 have hf:∀b ∈ [s1.heap.objs.size],zaX X pins H1 b:=fun b hb=>by
  have e:b=s1.heap.objs.size:=by simpa using hb
  subst e
  exact I1.fpOk (Nat.le_refl _) (I1.hok.fresh (Nat.le_refl _))
 have hk:∀o:Obj,Inv X pins σ H1 { s1 with heap:=s1.heap.push o }:=fun o=>I1.kept (t':=s1.toks) fun b u e=>Heap.get?_push_of_some _ e
 cases ha:z.cps.all (·< 128)
 ·refine wpAny_pyIter_wide ha ⟨s1.heap.objs.size,[s1.heap.objs.size],_,_,H1,rfl,hk _,ziq _ "str_iterator" z t (by decide) (fun A hA=>Walks.strWide hA _ z t) (fun A i s Q E st h=>wpAny_pyIter_striter_wide st h),⟨_,Heap.get?_push_size _ rfl,rfl,rfl⟩,hf,q⟩
 ·refine wpAny_pyIter_ascii ha ⟨s1.heap.objs.size,[s1.heap.objs.size],_,_,H1,rfl,hk _,ziq _ "str_ascii_iterator" z t (by decide) (fun A hA=>Walks.strAscii hA _ z t) (fun A i s Q E st h=>wpAny_pyIter_striter_ascii st h),⟨_,Heap.get?_push_size _ rfl,rfl,rfl⟩,hf,q⟩
theorem comp_str0{z:Str}{c:St}{te:TE}{H:Hp}{fin:List V→Hp→Prop}(Pv:Nat→List V→Hp→Prop)(h0:Pv 0 [] H)(hl:∀i ys H,i≤z.length→Pv i ys H→ys.length≤i)(hz:z.length≤sizeLine)
 (hs:∀i d ys H,z.cps.toList[i]? = some d→Pv i ys H→te (some (.str ⟨#[d]⟩)::c) H fun y H3=>Pv (i+1) (ys ++ [y]) H3) (hd:∀ys H,Pv z.length ys H→fin ys H):zdk (Its z) c zhH te H fin:=by
 refine⟨fun i m ys H=>m=z.length - i∧i≤z.length∧Pv i ys H,⟨z.length,by simp,Nat.zero_le _,h0⟩,?_⟩
 rintro i m ys H ⟨rfl,hi,p⟩
 have hy:=hl i ys H hi p
 by_cases hlt:i<z.length
 ·refine .inr ⟨hlt,by omega,Pv (i+1),fun ys' H' p'=>⟨_,by omega,rfl,hlt,p'⟩,fun x H' y=>?_⟩
  obtain⟨e,d,ed,ex⟩:=y
  subst e ex
  exact zf4 (B:=Pv (i+1) ys H') (hs i d ys _ (by rw[Array.getElem?_toList];exact ed) p)
 ·have e:i=z.length:=by omega
  subst e
  exact .inl ⟨rfl,by omega,hd ys H p⟩
theorem strs_val{ts:List Str}{us:List Value}(r:zG (ts.map V.str) us){i:Nat}{v:Value}(h:us[i]? = some v)(d:Str):∃t,v=.str (ts.getD i d) t:=by
 have hl:=r.length
 rw[List.length_map] at hl
 have hi:i<ts.length:=by rw[hl];exact(List.getElem?_eq_some_iff.mp h).1
 obtain⟨u,e,ru⟩:=r.get (i:=i) (x:=.str ts[i]) (by rw[List.getElem?_map,List.getElem?_eq_getElem hi];rfl)
 rw[e] at h
 cases h
 obtain⟨t,rfl⟩:=ru
 exact⟨t,by rw[List.getD_eq_getElem?_getD,List.getElem?_eq_getElem hi];rfl⟩
def tLenSetS(K:PySem.W.Frag)(te:TE):TE:=fun σ H Q=>te σ H fun x H1=>∃(a:Addr) (ts:List Str),x=.ref a∧SqL K H1 a (ts.map V.str)∧ts.length<4000∧Q (.int (met (fun i=>ts.getD i "") ts.length).length) H1
theorem ziW{e:Expr}{te:TE}{p p2 pos pos2:Pos}(hc:X.calm=true)(hg:Gl X "len")(hm:X.mg "len" = none)(hg2:Gl X "set")(hm2:X.mg "set" = none)(he:PE X e te)
 (h1:starEach [.Call (.Name "set" p2) [e] [] pos2] X.env = [(false,eval (.Call (.Name "set" p2) [e] [] pos2) X.env)]:=by rfl) (h2:starEach [e] X.env = [(false,eval e X.env)]:=by rfl) :
 PE X (.Call (.Name "len" p) [.Call (.Name "set" p2) [e] [] pos2] [] pos) (tLenSetS X.K te):=by
 intro pins s σ H Q I h
 refine wpAny_Call_Name_kw (za9 I hg hm PySem.boot_len ?_)
 refine PyProof.Rows.callWith_builtin1 ?_ h1 rfl
 rw[h1]
 show wpAny _ _ (spliced ((false,eval (.Call (.Name "set" p2) [e] [] pos2) X.env)::backTo pos [])) _ _ s
 refine Calls.spliced_cons ?_
 refine wpAny_Call_Name_kw (za9 I hg2 hm2 PyProof.Rows.boot_set ?_)
 refine PyProof.Rows.callWith_type1 ?_ h2 rfl
 rw[h2]
 show wpAny _ _ (spliced ((false,eval e X.env)::backTo pos2 [])) _ _ s
 refine Calls.spliced_cons (thn (he pins s σ H _ I h) fun v s1 ⟨x,H1,I1,r1,q1⟩=>?_)
 obtain⟨a,ts,rfl,hS,hz,q⟩:=q1
 cases r1
 obtain⟨its,rv,pl,hz2⟩:=I1.list hS
 have hl:=rv.length
 rw[List.length_map] at hl
 have hsb:scanBound=4096:=rfl
 refine Calls.spliced_nil ?_
 refine zh0 (knd:=strKind X.prog X.w) (val:=fun i=>ts.getD i "") (I1.ok.hd hc) pl.isList (fun i v hv=>?_) (by rw[List.size_toArray];omega) fun s2 ⟨h',tk,e2,hs,hk⟩=>?_
 ·obtain⟨t,rfl⟩:=strs_val rv (i:=i) (v:=v) (by simpa using hv) ""
  exact⟨beq_self_eq_true _,rfl⟩
 subst e2
 have I2:Inv X pins σ H1 { s1 with heap:=h',toks:=tk }:=I1.kept (t':=tk) fun b o e=>hk b o (Heap.lt_size e) e
 refine Calls.spliced_nil ?_
 have esz:its.toArray.size=ts.length:=by rw[List.size_toArray];omega
 rw[esz] at hs
 obtain⟨o,es,ep,t,ho,hex,hd,_,_,hsz,hf,hn⟩:=hs
 refine PySem.call_len_set ho hex hd hf (by omega) ⟨.int (met (fun i=>ts.getD i "") ts.length).length,H1,I2.tok _,⟨tk+1,?_⟩,q⟩
 rw[hn]
theorem zeX{ts:List Str}{i:Nat}(h:i<ts.length):(ts.map V.str)[i]? = some (.str (ts.getD i "")):=by
 rw[List.getElem?_map,List.getElem?_eq_getElem h,List.getD_eq_getElem?_getD,List.getElem?_eq_getElem h];rfl
theorem zb9{ts:List Str}{i:Int}(h0:0≤i)(h:i<ts.length):atI (ts.map V.str) i=some (.str (ts.getD i.toNat "")):=zdA h0 (zeX (by omega))
theorem flat_strs(ts:List Str):(ts.map V.str).all zaB=true:=by
 rw[List.all_map];exact List.all_eq_true.mpr fun _ _=>rfl
theorem inV_strs(ts:List Str)(c:Str):inV (.str c) (ts.map V.str)=decide (c∈ts):=by
 unfold inV
 induction ts with
 | nil=>rfl
 | cons a ts ih =>
   rw[List.map_cons,List.any_cons,ih]
   show((a==c) || _)=_
   by_cases h:a=c
   ·subst h;simp
   ·have:¬c=a:=fun e=>h e.symm
    simp[h,this]
theorem zbt{ts:List Str}{i:Nat}{x:V}(hx:(ts.map V.str)[i]? = some x):i<ts.length∧x=.str (ts.getD i ""):=by
 have hi:i<ts.length:=by have:=(List.getElem?_eq_some_iff.mp hx).1;rwa [List.length_map] at this
 refine⟨hi,?_⟩
 rw[zeX hi] at hx
 exact(Option.some.inj hx).symm
theorem yo{ts:List Str}{i:Nat}(hi:i<ts.length):ts.take (i+1)=ts.take i ++ [ts.getD i ""]:=by
 rw[List.take_succ,List.getElem?_eq_getElem hi,List.getD_eq_getElem?_getD,List.getElem?_eq_getElem hi];rfl
theorem zab{ts:List Str}{i:Nat}(hi:i<ts.length):ts.getD i "" ∈ ts:=by
 rw[List.getD_eq_getElem?_getD,List.getElem?_eq_getElem hi];exact List.getElem_mem hi
theorem yb(x y:Str):(x++y).length=x.length+y.length:=by
 show(x.cps++y.cps).size=x.cps.size+y.cps.size
 exact Array.size_append
abbrev abc:Str:= "abcdefghijklmnopqrstuvwxyz"
def zbP(c:Nat):Bool:=decide (97≤c) && decide (c≤122)
end
section
variable {X:Cx}
theorem zey(ns:List Int):∀i,i≤ns.length→preSum (fun i=>ns.getD i 0) i=(ns.take i).sum
 | 0,_=>by simp[preSum]
 | i+1,h=>by
   rw[yZ (by omega),List.sum_append,← zey ns i (by omega)]
   simp[preSum]
theorem call_sum(hc:X.calm=true):zas X (.builtin "sum") (fun xs H Q=>∃(a:Addr) (ns:List Int),xs = [.ref a]∧SqL X.K H a (ns.map V.int)∧Q (.int ns.sum) H):=by
 intro pins s σ H xs us Q I r h
 obtain⟨a,ns,rfl,hS,q⟩:=h
 obtain⟨u,rfl,ru⟩:=r.one
 cases ru
 obtain⟨its,r1,p1,z1⟩:=I.list hS
 have l1:=r1.length
 rw[List.length_map] at l1
 have hlt:a<s.heap.objs.size:=by obtain⟨o,n,e,_⟩:=p1;exact Heap.lt_size e
 refine call_sum_walkAnyS (wpAny_pyIter_list p1.isList ?_)
 have I1:Inv X pins σ H { s with heap:=s.heap.push { cls:=.type "list_iterator",data:=.fields #[.ref a,.int 0 0] } }:=I.kept (t':=s.toks) fun b o e=>Heap.get?_push_of_some _ e
 refine⟨s.heap.objs.size,_,_,_,its.toArray.size,_,_,fun i=>ns.getD i 0,rfl,(Walks.list (by simpa using I.ok.hd hc) s.heap.objs.size a (Nat.ne_of_lt hlt) its.toArray).toS,⟨⟨_,Heap.get?_push_size _ rfl,rfl,rfl⟩,p1.isList.push _⟩,?_,?_,fun s' t' hm=>?_⟩
 ·intro b hb
  rw[Heap.size_push]
  simp only[List.mem_cons,List.not_mem_nil,or_false] at hb
  rcases hb with rfl | rfl
  ·exact Nat.lt_succ_self _
  ·exact Nat.lt_succ_of_lt hlt
 ·intro i v hP
  exact IntsAre.int_at (zcp r1) i v (by simpa using hP)
 ·obtain⟨h',g',d',tk',os'⟩:=s'
  have eg:g'=s.gens:=hm.gens
  have ed:d'=s.drawn:=hm.drawn
  have eo:os'=s.os:=hm.os
  subst eg ed eo
  have f:=I.fpOk (H':=H) (Nat.le_refl _) (I.hok.fresh (Nat.le_refl _))
  have I2:=I1.turned (t':=tk') (h':=h') (it:=s.heap.objs.size) (fun b o hb e=>hm.heap b o (by simpa using hb) e) f.1 f.2.1 f.2.2.2.1 f.2.2.2.2.1 f.2.2.2.2.2
  refine⟨.int ns.sum,H,I2,⟨t',?_⟩,q⟩
  rw[List.size_toArray,← l1,zey ns _ (Nat.le_refl _),List.take_length]
end
structure CompScopeC (sc:Scope) (N:List Str) (x:Str) (fr:List Str) (ix:List Nat) (scope:Scope):Prop where
 kind:scope.kind=.function
 one:∀a acc,cellsFrom a scope.names acc=(x,a)::acc
 push:∀h:Heap,pushCells h scope.names=h.push { cls:=.type "cell",data:=.cell none }
 cells:∀y∈scope.names,y.2=.cell→y.1=x
 lcl:∀y∈scope.names,y.2=.local→scope.names.lookup y.1=some .local
 lx:scope.names.lookup x=some .cell
 free:∀y∈scope.names,y.2=.free→sc.names.lookup y.1=some .cell∨sc.names.lookup y.1=some .free
 at':fr.map some=ix.map fun i=>N[i]?
 frk:∀y∈fr,scope.names.lookup y=some .free∧(sc.names.lookup y=some .cell∨sc.names.lookup y=some .free)
 nd:(x::fr).Nodup
section
variable {X:Cx} {pins:List (Addr × Obj)} {σ:St} {H:Hp} {s:Shared} {x:Str} {fr:List Str} {ix:List Nat} {scope:Scope} {cl:List (Str × Addr)} {fp:List Addr} {C D cx:Addr}
theorem CompScopeC.len(S:CompScopeC X.env.scope X.N x fr ix scope):fr.length=ix.length:=by have:=congrArg List.length S.at';simpa using this
end
section
variable {X:Cx} {x:Str} {fr:List Str} {ix:List Nat} {scope:Scope} {elt iter:Expr} {ifs:List Expr} {px pos:Pos} {wi:TI} {tc:TT} {te:TE}
end
section
open PySem.SeqAt
open PySem.AutoSeq1 (wpAny_loadPart')
open PySem.MeetsSeq PySem.MeetsSeq2 PySem.MeetsSeq3
end
section
variable {X:Cx}
def rNeL(K:PySem.W.Frag):R2:=fun x y H Q=>∃a b xs ys,x=.ref a∧y=.ref b∧SqL K H a xs∧SqL K H b ys∧xs.all zaB=true∧ys.all zaB=true∧Q (.bl (!eqL xs ys)) H
theorem zfJ(hu:X.A.units<cLine):OpR X (compareOp .NotEq) (rNeL X.K):=by
 intro pins s σ H x y v u Q I rx ry h
 obtain⟨a,b,xs,ys,rfl,rfl,ha,hb,fx,fy,q⟩:=h
 cases rx
 cases ry
 obtain⟨its,r1,p1,z1⟩:=I.list ha
 obtain⟨its2,r2,p2,z2⟩:=I.list hb
 have l1:=r1.length
 have l2:=r2.length
 by_cases hl:xs.length=ys.length
 ·refine SeqAt.RcNeAt.lists p1.isList p2.isList (by simp;omega) hu (eqAt_j r1 r2 fx fy) _ _ _ _ ⟨.bl (!eqL xs ys),H,I,?_,q⟩
  rw[List.size_toArray,← l1,zd5 hl]
  rfl
 ·refine SeqAt.RcNeAt.lists_lengths p1.isList p2.isList (by simp;omega) hu _ _ _ _ ⟨.bl (!eqL xs ys),H,I,?_,q⟩
  rw[zhp hl]
  rfl
end
structure CanM (P:Program) (w:World) (K:PySem.W.Frag) (mg:Str→Option Value) (base:Heap) (k:Nat) (C:Addr) (m:Str) (ps:List Str) (sp:Sp):Prop where
 ex:∃f fd,FnOk P w K mg base CX0 k f fd ps sp∧Meth K C m f∧zaD K fd ps []
structure CanMX (P:Program) (w:World) (K:PySem.W.Frag) (mg:Str→Option Value) (base:Heap) (k:Nat) (C:Addr) (m:Str) (ps:List Str) (sp:Sp):Prop where
 ex:∃f fd,FnOk P w K mg base (CX1 P w) k f fd ps sp∧Meth K C m f∧zaD K fd ps []
def tMethX(C:Addr)(m:Str)(W:XW)(sp:Sp)(ta:TE)(t:TA):TE:=fun σ H Q=>ta σ H fun x H1=>∃a dx fs,x=.ref a∧H1 a=some (.ins C dx fs)∧fs.lookup m=none∧t σ H1 fun vs H2=>sp (.ref a::vs) H2 Q fun cls _ H'=>W σ cls H'
section
variable {X:Cx} {k:Nat} {C:Addr} {m:Str} {ps:List Str} {sp:Sp} {apos pos:Pos} {o e:Expr} {es:List Expr} {ta:TE} {t:TA} {W:XW} {pl:Sem Bool}
theorem wI(M:CanMX X.prog X.w X.K X.mg X.base k C m ps sp)(c:Cls X.K C)(fl:Fl X W)(hr:Room k X.A)(he:PE X o ta)(ha:PA X (e::es) t)
 (hst:starEach (e::es) X.env=(false,eval e X.env)::starEach es X.env:=by rfl) (hpl:(backTo pos (starEach es X.env)).any (·.1)=false:=by rfl)
 (ht:eval (.Call (.Attribute o m apos) (e::es) [] pos) X.env=(do
   let ov ← eval o X.env
   standAt apos.atName
   let (f,first) ← holding [ov] (getMethod ov m pl)
   callWith pos f first (backTo pos (starEach (e::es) X.env)) (backToKw pos (keywordEach [] X.env))):=by rfl) :
 PE X (.Call (.Attribute o m apos) (e::es) [] pos) (tMethX C m W sp ta t):=by
 obtain⟨f,fd,F,hm,hb⟩:=M.ex
 intro pins s σ H Q I h
 refine PySem.W.methodCall_KW (pl:=pl) (thn (he pins s σ H _ I h) fun u s1 ⟨x,H1,I1,rx,a,dx,fs,ex,ea,l,q⟩=>?_) ht
 subst ex
 obtain rfl:u=Value.ref a:=rx
 refine zdx I1 ea c hm l ?_
 refine PySem.W.callWith_K (first := [.ref a]) (h₀:=X.base) I.ok.mod.kin hm.kp (thn (ha pos pins s1 σ H1 _ I1 q) fun us s2 ⟨vs,H2,I2,r,q2⟩=>⟨I2.kIn,?_⟩) hst hpl
 exact zg0 (us:=.ref a::us) (vs:=.ref a::vs) F hr hb fl I2 (.cons rfl r) q2
theorem zc9(M:CanMX X.prog X.w X.K X.mg X.base k C m ps sp)(c:Cls X.K C)(fl:Fl X W)(hr:Room k X.A)(he:PE X o ta)
 (ht:eval (.Call (.Attribute o m apos) [] [] pos) X.env=(do
   let ov ← eval o X.env
   standAt apos.atName
   let (f,first) ← holding [ov] (getMethod ov m pl)
   callWith pos f first (backTo pos (starEach [] X.env)) (backToKw pos (keywordEach [] X.env))):=by rfl) :
 PE X (.Call (.Attribute o m apos) [] [] pos) (tMethX C m W sp ta tNil):=by
 obtain⟨f,fd,F,hm,hb⟩:=M.ex
 intro pins s σ H Q I h
 refine PySem.W.methodCall_KW (pl:=pl) (thn (he pins s σ H _ I h) fun u s1 ⟨x,H1,I1,rx,a,dx,fs,ex,ea,l,q⟩=>?_) ht
 subst ex
 obtain rfl:u=Value.ref a:=rx
 refine zdx I1 ea c hm l ?_
 exact PySem.W.callWith_K0 (first := [.ref a]) I1.kIn hm.kp (zg0 (us := [.ref a]) (vs := [.ref a]) F hr hb fl I1 (.cons rfl .nil) q)
theorem zK(M:CanM X.prog X.w X.K X.mg X.base k C m ps sp)(c:Cls X.K C)(hr:Room k X.A)(he:PE X o ta)
 (ht:eval (.Call (.Attribute o m apos) [] [] pos) X.env=(do
   let ov ← eval o X.env
   standAt apos.atName
   let (f,first) ← holding [ov] (getMethod ov m pl)
   callWith pos f first (backTo pos (starEach [] X.env)) (backToKw pos (keywordEach [] X.env))):=by rfl) :
 PE X (.Call (.Attribute o m apos) [] [] pos) (tMeth C m sp [] E0 ta tNil):=by
 obtain⟨f,fd,F,hm,hb⟩:=M.ex
 exact pe_meth0 (pl:=pl) he c hm F hr hb .nil pass0 ht
structure CanK (P:Program) (w:World) (K:PySem.W.Frag) (mg:Str→Option Value) (base:Heap) (k:Nat) (x:Str) (C:Addr) (ps:List Str) (sp:Sp):Prop where
 ex:∃f fd,FnOk P w K mg base (CX1 P w) k f fd ps sp∧mg x=some (.ref C)∧Mk K C f∧zaD K fd ps []
def tMakeX(C:Addr)(W:XW)(sp:Sp)(t:TA):TE:=fun σ H Q=>t σ H fun vs H1=>∀x dx,H1 x=none→H1 dx=none→dx≠x→sp (.ref x::vs) (upd (upd H1 dx (.own x)) x (.ins C dx [])) (fun v H2=>v=.non∧Q (.ref x) H2) fun cls _ H'=>W σ cls H'
theorem run_makeX{pins:List (Addr × Obj)}{σ:St}{H:Hp}{s:Shared}{Q:VK}{us:List Value}{vs:List V}{f:Addr}{fd:FuncData}(M:Mk X.K C f)(F:FnOk X.prog X.w X.K X.mg X.base (CX1 X.prog X.w) k f fd ps sp)(hr:Room (k+1) X.A)(hb:zaD X.K fd ps [])(fl:Fl X W)(I:Inv X pins σ H s)(r:zG vs us)
 (h:∀x dx,H x=none→H dx=none→dx≠x→sp (.ref x::vs) (upd (upd H dx (.own x)) x (.ins C dx [])) (fun v H2=>v=.non∧Q (.ref x) H2) fun cls _ H'=>W σ cls H') :
 wpAny (model X.prog X.w) X.A (call (.ref C) us) (EP X pins σ Q) X.xe s:=by
 have hq:=h (s.heap.objs.size+1) s.heap.objs.size (I.hok.fresh (Nat.le_succ _)) (I.hok.fresh (Nat.le_refl _)) (Nat.ne_of_lt (Nat.lt_succ_self _))
 have I2:=Inv.made (C:=C) I
 have r2:zG (V.ref (s.heap.objs.size+1)::vs) (Value.ref (s.heap.objs.size+1)::us):=.cons rfl r
 have hl:(Value.ref (s.heap.objs.size+1)::us).length=ps.length:=by
  have e:=r2.length
  rw[F.len _ _ _ _ hq] at e
  exact e.symm
 have hb':=hb { s with heap:=(s.heap.push PySem.W.emptyDict).push (PySem.W.instObj C s.heap.objs.size) } (Value.ref (s.heap.objs.size+1)::us) I2.kIn (by rw[List.append_nil];exact hl)
 rw[List.append_nil] at hb'
 refine wpAny_call (make_map (f:=f) I.kIn M.makes M.init (beq_iff_eq.mp M.fn) (codeAny_mono (F.run _ X.stack _ _ ⟨Value.ref (s.heap.objs.size+1)::us,[]⟩ (Value.ref (s.heap.objs.size+1)::us) _ _ _ (hr.make C us [])
  (I2.env0.make C us []) hb' r2 hq) fun r s' hq'=>?_))
 cases r with
 | error e =>
   obtain⟨y,cls,H',rfl,fly,w⟩:=hq'
   exact fl pins σ _ _ y cls H' s' I2 fly w
 | ok fl =>
   cases fl with
   | ret u =>
     obtain⟨v,H',I3,rv,ev,q3⟩:=I2.after hq'
     subst ev
     exact⟨rv,⟨V.ref (s.heap.objs.size+1),H',I3,rfl,q3⟩⟩
   | next=>exact False.elim hq'
   | brk=>exact False.elim hq'
   | cont=>exact False.elim hq'
theorem pe_makeX{x:Str}{p:Pos}(M:CanK X.prog X.w X.K X.mg X.base k x C ps sp)(fl:Fl X W)(hr:Room (k+1) X.A)(hg:Gl X x)(ha:PA X (e::es) t)(hdb:(x==("__debug__" : Str))=false:=by decide)
 (he:starEach (e::es) X.env=(false,eval e X.env)::starEach es X.env:=by rfl) (hpl:(backTo pos (starEach es X.env)).any (·.1)=false:=by rfl):PE X (.Call (.Name x p) (e::es) [] pos) (tMakeX C W sp t):=by
 obtain⟨f,fd,F,hm,hk,hb⟩:=M.ex
 intro pins s σ H Q I h
 refine wpAny_Call_Name_kw (zda I hg hm ?_ hdb)
 refine PySem.W.callWith_K (h₀:=X.base) I.ok.mod.kin hk.kp (thn (ha pos pins s σ H _ I h) fun us s1 ⟨vs,H1,I1,r,q⟩=>⟨I1.kIn,?_⟩) he hpl
 exact run_makeX hk F hr hb fl I1 r q
theorem pe_fldK{K:PySem.W.Frag}{f:Str}(h:X.K=K)(he:PE X e ta)(hb:attributeBase e f X.env (eval e X.env)=eval e X.env):PE X (.Attribute e f pos) (tFld K ta f):=by subst h;exact yQ he hb
end
def zH(K:PySem.W.Frag)(x:Str):Addr:=match PySem.W.nsIn K mainGlobals x with
 | some (some (.ref C))=>C
 | _=>0
theorem clsA_of{K:PySem.W.Frag}{x:Str}{C:Addr}(h:PySem.W.nsIn K mainGlobals x=some (some (.ref C))):zH K x=C:=by unfold zH;rw[h]
theorem CanM.of{P:Program}{w:World}{K:PySem.W.Frag}{mg:Str→Option Value}{base:Heap}{k:Nat}{C:Addr}{x m:Str}{ps:List Str}{sp:Sp}{f:Addr}{fd:FuncData}(hC:zH K x=C)(G:FnOk P w K mg base CX0 k f fd ps sp)(hm:Meth K C m f)(b:zaD K fd ps []):CanM P w K mg base k (zH K x) m ps sp:=by rw[hC];exact⟨f,fd,G,hm,b⟩
theorem CanMX.of{P:Program}{w:World}{K:PySem.W.Frag}{mg:Str→Option Value}{base:Heap}{k:Nat}{C:Addr}{x m:Str}{ps:List Str}{sp:Sp}{f:Addr}{fd:FuncData}(hC:zH K x=C)(G:FnOk P w K mg base (CX1 P w) k f fd ps sp)(hm:Meth K C m f)(b:zaD K fd ps []):CanMX P w K mg base k (zH K x) m ps sp:=by rw[hC];exact⟨f,fd,G,hm,b⟩
theorem CanK.of{P:Program}{w:World}{K:PySem.W.Frag}{mg:Str→Option Value}{base:Heap}{k:Nat}{C:Addr}{x:Str}{ps:List Str}{sp:Sp}{f:Addr}{fd:FuncData}(hC:zH K x=C)(G:FnOk P w K mg base (CX1 P w) k f fd ps sp)(hg:mg x=some (.ref C))(hm:Mk K C f)(b:zaD K fd ps []):CanK P w K mg base k x (zH K x) ps sp:=by rw[hC];exact⟨f,fd,G,hg,hm,b⟩
section
variable {X:Cx}
theorem zf5(hc:X.calm=true):zas X (.builtin "max") (fun xs H Q=>∃(a:Addr) (ns:List Int),xs = [.ref a]∧SqL X.K H a (ns.map V.int)∧0<ns.length∧∀M:Int,M∈ns→(∀x∈ns,x≤M)→Q (.int M) H):=by
 intro pins s σ H xs us Q I r h
 obtain⟨a,ns,rfl,hS,hne,q⟩:=h
 obtain⟨u,rfl,ru⟩:=r.one
 cases ru
 obtain⟨its,r1,p1,z1⟩:=I.list hS
 have hi:=zcp r1
 obtain⟨xs,e⟩:=hi.allInts.items
 have hns:ns=xs.toList.map (·.1):=by
  rw[← hi.numsOf,← nums_intItems,← e]
 have hsz:0<xs.size:=by
  have h3:=hne;rw[hns,List.length_map,Array.length_toList] at h3;exact h3
 have hl:=p1.isList
 rw[e] at hl
 refine max_intList (I.ok.hd hc) hl hsz fun v h' tk hv hk=>?_
 obtain⟨t,rfl⟩:=intItems_at hv
 obtain⟨h1,h2⟩:=argBest_gt (numAt xs) (xs.size - 1)
 refine⟨.int _,H,I.kept (t':=tk) hk,⟨t,rfl⟩,q _ ?_ fun a ha=>?_⟩
 ·rw[hns,numAt_eq];exact getD_mem (by rw[List.length_map,Array.length_toList];omega)
 ·rw[hns] at ha
  obtain⟨j,hj,rfl⟩:=mem_getD ha
  rw[List.length_map,Array.length_toList] at hj
  rw[← numAt_eq];exact h2 j (by omega)
def rCatS(K:PySem.W.Frag):R2:=fun x y H Q=>∃l b xs zs,x=.ref l∧y=.ref b∧SqL K H l xs∧SqL K H b zs∧xs.length+zs.length≤sizeLine∧∀p,H p=none→Q (.ref p) (upd H p (.lst (xs++zs)))
theorem op_catS:OpR X (binaryOp .Add) (rCatS X.K):=by
 intro pins s σ H x y v u Q I rx ry h
 obtain⟨l,b,xs,zs,rfl,rfl,hH,hB,hz,q⟩:=h
 cases rx
 cases ry
 obtain⟨its,r,p1,z1⟩:=I.list hH
 obtain⟨its2,r2,p2,z2⟩:=I.list hB
 have hl:=r.length
 have hl2:=r2.length
 obtain⟨⟨cls,dd,data,sl⟩,ho,hc,n,hd⟩:=p1.isList
 obtain⟨⟨cls2,dd2,data2,sl2⟩,ho2,hc2,n2,hd2⟩:=p2.isList
 cases hc;cases hd;cases hc2;cases hd2
 refine concat_meets ⟨_,ho,rfl⟩ ⟨_,ho2,rfl⟩ noFill_list_add seq_list_add F.slot_list_add F.entry_list_add (F.args_list_add_2 _ _) (list_addW l b its.toArray its2.toArray n n2 dd dd2 sl sl2 (by rw[List.size_toArray,List.size_toArray];omega)) ⟨ho,ho2,?_⟩
 have ea:its.toArray++its2.toArray=(its++its2).toArray:=by simp
 rw[ea]
 exact⟨.ref _,_,I.lnew (t':=s.toks) (r.append r2) (by rw[List.length_append];omega),rfl,q _ I.fresh⟩
theorem zbN{K:PySem.W.Frag}(h:X.K=K)(hu:X.A.units<cLine):OpR X (compareOp .NotEq) (rNeL K):=by subst h;exact zfJ hu
end
section
variable {X:Cx}
end
end L2
namespace L2
open PySem PySem.Spec PyProof.Rows PySem.W PySem.Calls Builtin Builtin.ObjectAttr Builtin.Getset_descriptor
section
variable {prog:Program} {w:World} {A:Around} {s:Shared} {K:PySem.W.Frag} {x C:Addr} {E:Value→Shared→Prop}
theorem zf8{R:Result→Shared→Prop}{tp:Value}(L0:Looks (model prog w) s.heap (typeOf (.ref x)) (.ref C))(L1:Looks (model prog w) s.heap (isSubtype (.ref C) (.type "object")) true)(hR:R (.ok (.ret (.ref C))) s):
 codeAny (model prog w) A (.call (.builtin "getset_descriptor.__get__") ⟨[.builtin "object.__class__",.ref x,tp],[]⟩) R s:=by
 obtain⟨h1,g1,d1,t1,o1⟩:=s
 refine codeAny_call_builtin KF.slot_gs.plain KF.entry_gs ?_
 refine KF.slot_gs.check _ _ _ _ _ _ _ _ KF.type_class (KF.args_gs _ _ _) ?_
 unfold Builtin.«getset_descriptor.__get__»
 unfold descrGet
 rw[dga_obj]
 refine wpAny_bind ?_
 refine wpAny_pure ?_
 unfold descrGetter descrCheckInstance
 unfold descrNameAndClass isInstance
 simp only[KF.owner_class]
 repeat lk
 refine⟨Code.quiet_builtin _ (by decide +kernel),?_⟩
 refine codeAny_builtin KF.entry_class ?_
 unfold Builtin.«object.__class__»
 unfold shownTypeOf
 repeat lk
 exact hR
theorem exc_find(X:K.In s.heap)(ha:findIn K (.ref C) "__class__" = some (some (.builtin "object.__class__")))(hn:specialIn K (.builtin "object.__class__") "__get__" = some (some (.builtin "getset_descriptor.__get__")))(ht:takesIn K (.builtin "object.__class__")=some true):
 Looks (model prog w) s.heap (find (.ref x) (.ref C) "__class__") (.bind (.builtin "getset_descriptor.__get__") (.builtin "object.__class__")):=by
 have M1:=looks_findIn (M:=model prog w) X ha
 have M2:Looks (model prog w) s.heap (getOf (some (.builtin "object.__class__"))) (some (.builtin "getset_descriptor.__get__")):=looks_specialIn X hn
 have M3:=looks_takesIn (M:=model prog w) X ht
 refine M1.andThen (M2.andThen ?_)
 have M4:Looks (model prog w) s.heap (dataDescriptor? (some (.builtin "object.__class__")) (some (.builtin "getset_descriptor.__get__"))) (some (.builtin "getset_descriptor.__get__",.builtin "object.__class__")):=M3.andThen .now
 exact M4.andThen (Looks.tag .now)
theorem zgX{M:Model}{nm:Value}{Q:Unit→Shared→Prop}(LI:Looks M s.heap (isInstance (.ref x) (.type "BaseException")) true)(hQ:Q () s):wpAny M A (checkBuiltinCall "BaseException.__getattribute__" ⟨[.ref x,nm],[]⟩) Q E s:=by
 have hk:builtinKind "BaseException.__getattribute__" = some .slot:=by decide +kernel
 have hsp:splitId "BaseException.__getattribute__" = some ("BaseException","__getattribute__"):=by decide +kernel
 have hargs:=F.args_bexc_ga (.ref x) nm
 obtain⟨h1,g1,d1,t1,o1⟩:=s
 simp only[checkBuiltinCall,hk,hsp]
 refine wpAny_bind (LI.at ?_)
 repeat (first | wp_step | exact hQ)
theorem exc_ga{R:Result→Shared→Prop}{tk:Tok}(L0:Looks (model prog w) s.heap (typeOf (.ref x)) (.ref C))(F1:Looks (model prog w) s.heap (find (.ref x) (.ref C) "__class__") (.bind (.builtin "getset_descriptor.__get__") (.builtin "object.__class__")))
 (S1:Looks (model prog w) s.heap (isSubtype (.ref C) (.type "object")) true) (S2:Looks (model prog w) s.heap (isSubtype (.ref C) (.type "BaseException")) true) (hR:R (.ok (.ret (.ref C))) s) :
 codeAny (model prog w) A (.call (.builtin "BaseException.__getattribute__") ⟨[.ref x,.str "__class__" tk],[]⟩) R s:=by
 refine codeAny_call_builtin F.excAttr_ValueError.ga.plain F.entry_bexc_ga ?_
 refine zgX (L0.andThen S2) ?_
 obtain⟨h1,g1,d1,t1,o1⟩:=s
 unfold Builtin.«object.__getattribute__»
 repeat (first | with_reducible refine wpAny_bind (L0.at ?_) | with_reducible refine wpAny_bind (F1.at ?_) | wp_step)
 exact zf8 (s:=⟨h1,g1,d1,t1,o1⟩) L0 S1 (wpAny_pure hR)
theorem exc_attr{Q:Option Value→Shared→Prop}(X:K.In s.heap)(he:∃o,s.heap.get? x=some o∧o.cls=.ref C)(hga:findIn K (.ref C) "__getattribute__" = some (some (.builtin "BaseException.__getattribute__")))(hgb:findIn K (.ref C) "__getattr__" = some none)
 (ha:findIn K (.ref C) "__class__" = some (some (.builtin "object.__class__"))) (hn:specialIn K (.builtin "object.__class__") "__get__" = some (some (.builtin "getset_descriptor.__get__"))) (ht:takesIn K (.builtin "object.__class__")=some true) (hm:mroIn K C (.type "object")=some true) (hm2:mroIn K C (.type "BaseException")=some true)
 (hQ:Q (some (.ref C)) { s with toks:=s.toks+1 }):wpAny (model prog w) A (getAttr? (.ref x) "__class__") Q E s:=by
 obtain⟨o,eo,ec⟩:=he
 have F1:=exc_find (s:={ s with toks:=s.toks+1 }) (x:=x) (prog:=prog) (w:=w) X ha hn ht
 obtain⟨h1,g1,d1,t1,o1⟩:=s
 have L0:=zgo (M:=model prog w) eo ec
 have G0:=looks_findIn (M:=model prog w) X hga
 have G1:=looks_findIn (M:=model prog w) X hgb
 have S1:=looks_mroIn (M:=model prog w) X hm
 have S2:=looks_mroIn (M:=model prog w) X hm2
 unfold getAttr? getAttrBy?
 unfold getAttrBy
 refine wpAny_bind (wpAny_mkText ?_)
 refine wpAny_bind (wpAny_attempt ?_)
 refine wpAny_holding ?_
 refine wpAny_bind (L0.at ?_)
 refine wpAny_bind (G0.at ?_)
 have hx2:(onTheHeap (Value.ref C) && Value.builtin "BaseException.__getattribute__" == Value.builtin "object.__getattribute__")=false:=by
  rw[show(Value.builtin "BaseException.__getattribute__" == Value.builtin "object.__getattribute__")=false by decide +kernel]
  rfl
 dsimp only
 rw[if_neg (by rw[hx2];exact Bool.false_ne_true)]
 unfold getAttrByItsOwn hookBefore
 rw[if_pos (show onTheHeap (Value.ref C)=true from rfl)]
 refine wpAny_bind (G1.at ?_)
 unfold callGetattribute
 rw[if_neg (by simp)]
 unfold boundAndCalled
 refine wpAny_bind (wpAny_attempt (wpAny_holding ?_))
 rw[F.excAttr_ValueError.ga.bind]
 refine wpAny_bind (wpAny_pure ?_)
 dsimp only
 refine wpAny_call ?_
 refine exc_ga (s:=⟨h1,g1,d1,t1+1,o1⟩) L0 F1 S1 S2 ?_
 exact handed_on rfl (wpAny_pure hQ)
def exI(K:PySem.W.Frag)(C:Addr):Bool :=
 (findIn K (.ref C) "__getattribute__" == some (some (.builtin "BaseException.__getattribute__")) && findIn K (.ref C) "__getattr__" == some none && findIn K (.ref C) "__class__" == some (some (.builtin "object.__class__"))) &&
 (specialIn K (.builtin "object.__class__") "__get__" == some (some (.builtin "getset_descriptor.__get__")) && takesIn K (.builtin "object.__class__")==some true && mroIn K C (.type "object")==some true && mroIn K C (.type "BaseException")==some true && (clsIn K C).isSome)
theorem kitx_exc(hi:exI K C=true):KitX K (.ref x) (.ref C) (fun h=>∃o,h.get? x=some o∧o.cls=.ref C):=by
 unfold exI at hi
 simp only[Bool.and_eq_true,beq_iff_eq] at hi
 obtain⟨⟨⟨i1,i2⟩,i3⟩,⟨⟨⟨i4,i5⟩,i6⟩,i7⟩,i8⟩:=hi
 obtain⟨cd,hcd⟩:=Option.isSome_iff_exists.mp i8
 have hob:∃a b c,K.lookup C=some ⟨a,b,.cls cd,c⟩:=by
  unfold clsIn at hcd
  split at hcd
  ·rename_i q;cases hcd;exact⟨_,_,_,q⟩
  ·cases hcd
 obtain⟨a1,a2,a3,hob⟩:=hob
 refine⟨fun M h _ ⟨o,eo,ec⟩=>zgo eo ec,fun M h X _=>?_,fun h tp dd its n sl X e=>?_,fun X p k=>exc_attr X p i1 i2 i3 i4 i5 i6 i7 k⟩
 ·intro A' Q' E' s' k q
  unfold isType
  unfold loadHead
  exact wpAny_bind (wpAny_loadPart (k _ _ (X _ _ hob)) (wpAny_pure q))
 ·refine Bool.eq_false_iff.mpr fun q=>?_
  have ez:C=tp:=by injection beq_iff_eq.mp q
  subst ez
  have:=X _ _ hob
  rw[e] at this
  cases this
end
section
variable {X:Cx}
theorem zf6:zas X (.builtin "isinstance") (fun xs H Q=>∃x C v c b,xs = [.ref x,v]∧zR v c∧H x=some (zbX x (.ref C))∧exI X.K C=true∧PySem.W.kitOne X.K (.ref C) c=some b∧Q (.bl b) H):=by
 intro pins s σ H xs us Q I r h
 obtain⟨x,C,v,c,b,rfl,rc,hx,hi,e,q⟩:=h
 obtain⟨u,t,rfl,ru,rt⟩:=r.two
 cases ru
 have no:∀z,PySem.W.kitCls X.K (.ref C) z=none→(Value.ref C==z)=false→PySem.W.kitOne X.K (.ref C) z=none:=fun z h1 h2=>by unfold PySem.W.kitOne;rw[h2];exact h1
 have ect:t=c:=by
  cases v with
  | ref a=>rw[show t=_ from rt,show c=_ from rc]
  | ty n=>rw[show t=_ from rt,show c=_ from rc]
  | non=>rw[show t=_ from rt,show c=_ from rc]
  | bl b=>rw[show t=_ from rt,show c=_ from rc]
  | int i=>obtain⟨k,rfl⟩:=rc;rw[no _ rfl rfl] at e;cases e
  | str i=>obtain⟨k,rfl⟩:=rc;rw[no _ rfl rfl] at e;cases e
  | byt i=>obtain⟨k,rfl⟩:=rc;rw[no _ rfl rfl] at e;cases e
  | flt i=>obtain⟨k,rfl⟩:=rc;rw[no _ rfl rfl] at e;cases e
 subst ect
 obtain⟨ho,_,_⟩:=I.hok x _ hx
 exact kia_one (kitx_exc hi) I.kIn ho e (by intro q;cases q) fun tk=>⟨.bl b,H,I.tok tk,rfl,q⟩
theorem wK{K:PySem.W.Frag}(h:X.K=K):zas X (.builtin "isinstance") (fun xs H Q=>∃x C v c b,xs = [.ref x,v]∧zR v c∧H x=some (zbX x (.ref C))∧exI K C=true∧PySem.W.kitOne K (.ref C) c=some b∧Q (.bl b) H):=by subst h;exact zf6
end
def zdo(n:Nat):List Int:=(List.range n).map fun(k:Nat)=>(k:Int)
theorem zgq:∀(l:List Value) (k:Nat),(∀(j:Nat) (v:Value),l[j]? = some v→∃t,v=.int ((k+j:Nat):Int) t)→zG ((List.range' k l.length).map fun(i:Nat)=>V.int (i:Int)) l
 | [],_,_=>.nil
 | v::l,k,h=>by
   rw[List.length_cons,List.range'_succ,List.map_cons]
   refine .cons (h 0 v rfl) (zgq l (k+1) fun j u e=>?_)
   have:=h (j+1) u e
   rw[show k+(j+1)=k+1+j by omega] at this
   exact this
section
variable {X:Cx}
def tLR(ta:TA):TE:=fun σ H Q=>ta σ H fun vs H1=>∃n:Nat,vs = [.int n]∧n≤1000∧∀l,H1 l=none→Q (.ref l) (upd H1 l (.lst ((zdo n).map V.int)))
theorem zgM{a:Expr}{ta:TA}{p p2 pos pos2:Pos}(hc:X.calm=true)(hg:Gl X "list")(hm:X.mg "list" = none)(hg2:Gl X "range")(hm2:X.mg "range" = none)(ha:PA X [a] ta)(hs:starEach [a] X.env = [(false,eval a X.env)]:=by rfl):
 PE X (.Call (.Name "list" p) [.Call (.Name "range" p2) [a] [] pos2] [] pos) (tLR ta):=by
 intro pins s σ H Q I h
 refine wpAny_Call_Name_kw (za9 I hg hm boot_list ?_ (by decide) (by decide))
 refine PyProof.Rows.callWith_type1 ?_ rfl rfl
 refine Calls.spliced_cons ?_
 refine Call_ (za9 I hg2 hm2 boot_range (PyProof.Rows.callWith_type1 (thn (ha pos2 pins s σ H _ I h) fun us s1 ⟨vs,H1,I1,r1,q1⟩=>?_) hs rfl))
 obtain⟨n,rfl,hn,q⟩:=q1
 cases r1 with
 | cons r rr =>
   cases rr
   obtain⟨t,rfl⟩:=r
   refine call_range_1 ?_
   refine Calls.spliced_nil ?_
   have I2:Inv X pins σ H1 { s1 with heap:=s1.heap.push { cls:=.type "range",data:=.fields #[.int 0 s1.toks,.int n t,.int 1 (s1.toks+1)] },toks:=s1.toks+1+1 }:=I1.kept fun b o e=>Heap.get?_push_of_some _ e
   refine call_list_range (n:=n) (I1.ok.hd hc) (IsRange.new ..) (small_one (by omega) (by omega) (by omega) (by omega)) (by rw[rangeSize_one];split <;> omega) (by omega) fun h' tk acc' c' hk e hacc=>?_
   refine⟨.ref _,upd H1 _ (.lst ((zdo n).map V.int)),Inv.laid (s:={ s1 with heap:=s1.heap.push { cls:=.type "range",data:=.fields #[.int 0 s1.toks,.int n t,.int 1 (s1.toks+1)] },toks:=s1.toks+1+1 }) (t':=tk) I2 hk (Nat.le_refl _) ⟨?_,acc'.toList,c',?_,by simpa using e⟩,rfl,q _ (I2.hok.fresh (Nat.le_refl _))⟩
   ·have:=zC
    unfold zdo
    rw[List.length_map,List.length_map,List.length_range]
    omega
   ·have hz:acc'.toList.length=n:=by rw[Array.length_toList];exact hacc.1
    have:=zgq acc'.toList 0 fun j v e=>by
     obtain⟨t,ht⟩:=hacc.2 j v (by simpa using e)
     exact⟨t,by rw[ht];congr 1;omega⟩
    rw[hz,← List.range_eq_range'] at this
    unfold zdo
    rw[List.map_map]
    exact this
end
section
variable {X:Cx}
end
end L2
namespace M14
open PySem PySem.W PyProof.Rows
abbrev g(p:Array Nat)(i:Nat):Nat:=p.getD i 0
theorem g_of{p q:Array Nat}{i j:Nat}(h:p[i]? = q[j]?):g p i=g q j:=by
 show p.getD i 0=q.getD j 0
 rw[Array.getD_eq_getD_getElem?,Array.getD_eq_getD_getElem?,h]
theorem zcE{p:Array Nat}{i j:Nat}(hj:j≤p.size)(k:Nat):g (kas_rev p i j) k=if i≤k∧k<j then g p (i+j - 1 - k)else g p k:=by
 have e:=getElem?_mirror_all (xs:=p) (i:=i) hj k
 by_cases c:i≤k∧k<j
 ·rw[if_pos c] at e ⊢;exact g_of e
 ·rw[if_neg c] at e ⊢;exact g_of e
theorem g_bub{p:Array Nat}{s d:Nat}(hs:s<p.size)(hd:d≤s)(k:Nat):g (bubble p s d) k=if k=s - d then g p s else if s - d<k∧k≤s then g p (k - 1)else g p k:=by
 have e:=getElem?_bubble hs d hd k
 by_cases c:k=s - d
 ·rw[if_pos c] at e ⊢;exact g_of e
 ·rw[if_neg c] at e ⊢
  by_cases c2:s - d<k∧k≤s
  ·rw[if_pos c2] at e ⊢;exact g_of e
  ·rw[if_neg c2] at e ⊢;exact g_of e
section
variable (key:Nat→Int) (N:Nat)
def R(a b:Nat):Prop:=key a<key b∨key a=key b∧a<b
structure B (p:Array Nat) (m:Nat):Prop where
 pm:p.Perm (List.range N).toArray
 tl:∀i,m≤i→i<N→g p i=i
 lo:∀i,i<m→g p i<m
 le:m≤N
def I(p:Array Nat)(m:Nat):Prop:=B N p m∧∀i j,i<j→j<m→R key (g p i) (g p j)
def E(p:Array Nat)(m:Nat):Prop:=B N p m∧∀i j,i<j→j<m→R key (g p j) (g p i)
structure D (p:Array Nat) (m b:Nat):Prop where
 bs:B N p m
 lt:b<m
 ds:∀i j,i<j→j<b→R key (g p j) (g p i)
 sp:∀i j,i<b→b≤j→j<m→key (g p j)<key (g p i)
 bk:∀i j,b≤i→i<j→j<m→key (g p i)=key (g p j)∧g p i<g p j
def ck(i j:Nat)(C:Bool→Shared→Prop)(s:Shared):Prop:=i<N∧j<N∧C (decide (key i<key j)) s
variable {key N}
theorem B.size{p:Array Nat}{m:Nat}(b:B N p m):p.size=N:=by
 have:=b.pm.size_eq
 simpa using this
theorem B.lt{p:Array Nat}{m:Nat}(b:B N p m){i:Nat}(h:i<N):g p i<N:=by
 by_cases c:i<m
 ·have:=b.lo i c;have:=b.le;omega
 ·rw[b.tl i (by omega) h];exact h
theorem B.rev{p:Array Nat}{m i j:Nat}(b:B N p m)(hj:j≤m):B N (kas_rev p i j) m:=by
 have hs:j≤p.size:=by have:=b.size;have:=b.le;omega
 refine⟨(mirror_perm _ _ _ _).trans b.pm,fun k h1 h2=>?_,fun k h=>?_,b.le⟩
 ·rw[zcE hs,if_neg (by omega)];exact b.tl k h1 h2
 ·rw[zcE hs]
  split
  ·exact b.lo _ (by omega)
  ·exact b.lo _ h
theorem B.up{p:Array Nat}{m:Nat}(b:B N p m)(h:m<N):B N p (m+1):=by
 refine⟨b.pm,fun i h1 h2=>b.tl i (by omega) h2,fun i hi=>?_,h⟩
 by_cases c:i<m
 ·have:=b.lo i c;omega
 ·have e:i=m:=by omega
  rw[e,b.tl m (Nat.le_refl _) h]
  omega
theorem R.le{a b:Nat}(h:R key a b):key a≤key b:=by
 rcases h with h | h
 ·omega
 ·omega
theorem R.of{a b:Nat}(h:key a≤key b)(l:a<b):R key a b:=by
 by_cases c:key a<key b
 ·exact .inl c
 ·exact .inr ⟨by omega,l⟩
theorem I.turn{p:Array Nat}{m:Nat}(h:I key N p m):E key N (kas_rev p 0 m) m:=by
 have hs:m≤p.size:=by have:=h.1.size;have:=h.1.le;omega
 refine⟨h.1.rev (Nat.le_refl _),fun i j hij hj=>?_⟩
 rw[zcE hs,zcE hs,if_pos ⟨Nat.zero_le _,hj⟩,if_pos ⟨Nat.zero_le _,by omega⟩]
 exact h.2 _ _ (by omega) (by omega)
theorem E.turn{p:Array Nat}{m:Nat}(h:E key N p m):I key N (kas_rev p 0 m) m:=by
 have hs:m≤p.size:=by have:=h.1.size;have:=h.1.le;omega
 refine⟨h.1.rev (Nat.le_refl _),fun i j hij hj=>?_⟩
 rw[zcE hs,zcE hs,if_pos ⟨Nat.zero_le _,by omega⟩,if_pos ⟨Nat.zero_le _,hj⟩]
 exact h.2 _ _ (by omega) (by omega)
theorem D.one{p:Array Nat}{m:Nat}(h:D key N p (m+1) m):E key N p (m+1):=by
 refine⟨h.bs,fun i j hij hj=>?_⟩
 by_cases c:j<m
 ·exact h.ds i j hij c
 ·have e:j=m:=by omega
  subst e
  exact .inl (h.sp i j hij (Nat.le_refl _) (by omega))
theorem D.turn{p:Array Nat}{m b:Nat}(h:D key N p m b):E key N (kas_rev p b m) m:=by
 have hs:m≤p.size:=by have:=h.bs.size;have:=h.bs.le;omega
 have hl:=h.lt
 refine⟨h.bs.rev (Nat.le_refl _),fun i j hij hj=>?_⟩
 rw[zcE hs,zcE hs]
 by_cases c:j<b
 ·rw[if_neg (by omega),if_neg (by omega)]
  exact h.ds i j hij c
 ·rw[if_pos ⟨by omega,hj⟩]
  by_cases c2:i<b
  ·rw[if_neg (by omega)]
   exact .inl (h.sp i _ c2 (by omega) (by omega))
  ·rw[if_pos ⟨by omega,by omega⟩]
   have z:=h.bk (b+m - 1 - j) (b+m - 1 - i) (by omega) (by omega) (by omega)
   exact .inr z
theorem E.step{p:Array Nat}{m:Nat}(h:E key N p m)(h1:1≤m)(hm:m<N)(hk:key (g p m)<key (g p (m - 1))):D key N p (m+1) m:=by
 refine⟨h.1.up hm,by omega,h.2,fun i j hi h2 h3=>?_,fun i j h2 h3 h4=>by omega⟩
 have e:j=m:=by omega
 subst e
 by_cases c:i=j - 1
 ·subst c;exact hk
 ·have:=(h.2 i (j - 1) (by omega) (by omega)).le
  omega
theorem D.same{p:Array Nat}{m b:Nat}(h:D key N p m b)(hm:m<N)(hk:key (g p m)=key (g p (m - 1))):D key N p (m+1) b:=by
 have hl:=h.lt
 refine⟨h.bs.up hm,by omega,h.ds,fun i j hi h2 h3=>?_,fun i j h2 h3 h4=>?_⟩
 ·by_cases c:j<m
  ·exact h.sp i j hi h2 c
  ·have e:j=m:=by omega
   subst e
   rw[hk]
   exact h.sp i _ hi (by omega) (by omega)
 ·by_cases c:j<m
  ·exact h.bk i j h2 h3 c
  ·have e:j=m:=by omega
   subst e
   refine⟨?_,by rw[h.bs.tl j (Nat.le_refl _) hm];exact h.bs.lo i h3⟩
   rw[hk]
   by_cases c2:i=j - 1
   ·rw[c2]
   ·exact(h.bk i (j - 1) h2 (by omega) (by omega)).1
theorem I.up{p:Array Nat}{m:Nat}(h:I key N p m)(h1:1≤m)(hm:m<N)(hk:¬key (g p m)<key (g p (m - 1))):I key N p (m+1):=by
 refine⟨h.1.up hm,fun i j hij hj=>?_⟩
 by_cases c:j<m
 ·exact h.2 i j hij c
 ·have e:j=m:=by omega
  subst e
  refine R.of ?_ (by rw[h.1.tl j (Nat.le_refl _) hm];exact h.1.lo i hij)
  by_cases c2:i=j - 1
  ·rw[c2];omega
  ·have:=(h.2 i (j - 1) (by omega) (by omega)).le
   omega
theorem asc{p:Array Nat}{Q:Nat→Shared→Prop}{s:Shared}:∀(f m:Nat),m+f=N→1≤m→I key N p m→(∀m',m≤m'→m'≤N→I key N p m'→(m'<N→key (g p m')<key (g p (m' - 1)))→Q m' s)→(kas_asc p f m).kasWp (ck key N) Q s
 | 0,m,e,h1,h,q=>q m (Nat.le_refl _) (by omega) h (by omega)
 | f+1,m,e,h1,h,q=>by
   refine⟨h.1.lt (by omega),h.1.lt (by omega),?_⟩
   by_cases c:key (g p m)<key (g p (m - 1))
   ·rw[decide_eq_true c];dsimp only;rw[if_pos rfl]
    exact q m (Nat.le_refl _) (by omega) h fun _=>c
   ·rw[decide_eq_false c];dsimp only;rw[if_neg Bool.false_ne_true]
    exact asc f (m+1) (by omega) (by omega) (h.up h1 (by omega) c) fun m' l1 l2=>q m' (by omega) l2
theorem desc{Q:Array Nat × Nat × Nat→Shared→Prop}{s:Shared}:∀(f:Nat) (p:Array Nat) (m q:Nat),m+f=N→q+1≤m→D key N p m (m - (q+1)) →
 (∀p' m' q',m'≤N→q'+1≤m'→D key N p' m' (m' - (q'+1))→Q (p',m',q') s)→(kas_desc f p m q).kasWp (ck key N) Q s
 | 0,p,m,q,e,hq,h,k=>k p m q (by omega) hq h
 | f+1,p,m,q,e,hq,h,k=>by
   refine⟨h.bs.lt (by omega),h.bs.lt (by omega),?_⟩
   by_cases c:key (g p m)<key (g p (m - 1))
   ·rw[decide_eq_true c];dsimp only;rw[if_pos rfl]
    by_cases cq:q > 0
    ·rw[if_pos cq]
     refine desc f _ (m+1) 0 (by omega) (by omega) ?_ k
     have hs:m≤p.size:=by have:=h.bs.size;omega
     refine h.turn.step (by omega) (by omega) ?_
     rw[zcE hs,zcE hs,if_neg (by omega),if_pos ⟨by omega,by omega⟩]
     have z:=(h.bk (m - (q+1)) (m - 1) (Nat.le_refl _) (by omega) (by omega)).1
     rw[show m - (q+1)+m - 1 - (m - 1)=m - (q+1)by omega,z]
     exact c
    ·rw[if_neg cq]
     have e0:q=0:=by omega
     subst e0
     refine desc f _ (m+1) 0 (by omega) (by omega) ?_ k
     obtain⟨r,rfl⟩:∃r,m=r+1:=⟨m - 1,by omega⟩
     exact E.step (D.one h) (by omega) (by omega) c
   ·rw[decide_eq_false c];dsimp only;rw[if_neg Bool.false_ne_true]
    refine⟨h.bs.lt (by omega),h.bs.lt (by omega),?_⟩
    by_cases d:key (g p (m - 1))<key (g p m)
    ·rw[decide_eq_true d];dsimp only;rw[if_pos rfl]
     exact k p m q (by omega) hq h
    ·rw[decide_eq_false d];dsimp only;rw[if_neg Bool.false_ne_true]
     refine desc f p (m+1) (q+1) (by omega) (by omega) ?_ k
     rw[show m+1 - (q+1+1)=m - (q+1)by omega]
     exact h.same (by omega) (by omega)
theorem tail3{p:Array Nat}{m:Nat}{Q:Nat × Array Nat→Shared→Prop}{s:Shared}(h1:1≤m)(h:E key N p m)(q:∀m' p',1≤m'→m'≤N→I key N p' m'→Q (m',p') s):(kas_tail3 m N p).kasWp (ck key N) Q s:=by
 unfold kas_tail3
 rw[KasT.kasWp_bind]
 have:=h.1.le
 exact asc (N - m) m (by omega) h1 h.turn fun m' l1 l2 z _=>q m' _ (by omega) l2 z
theorem zhA{p:Array Nat}{m:Nat}{Q:Nat × Array Nat→Shared→Prop}{s:Shared}(h1:1≤m)(hm:m<N)(h:E key N p m)(hk:key (g p m)<key (g p (m - 1)))(q:∀m' p',1≤m'→m'≤N→I key N p' m'→Q (m',p') s):(kas_descPart m N p).kasWp (ck key N) Q s:=by
 unfold kas_descPart
 rw[KasT.kasWp_bind]
 refine desc (N - (m+1)) p (m+1) 0 (by omega) (by omega) (h.step h1 hm hk) fun p' m' q' l1 l2 d=>?_
 dsimp only
 by_cases c:q' > 0
 ·rw[if_pos c]
  exact tail3 (by omega) d.turn q
 ·rw[if_neg c]
  have e0:q'=0:=by omega
  subst e0
  obtain⟨r,rfl⟩:∃r,m'=r+1:=⟨m' - 1,by omega⟩
  exact tail3 (by omega) (D.one d) q
theorem count{p:Array Nat}{Q:Nat × Array Nat→Shared→Prop}{s:Shared}(h1:1≤N)(h:I key N p 1)(q:∀m' p',1≤m'→m'≤N→I key N p' m'→Q (m',p') s):(kas_count N p).kasWp (ck key N) Q s:=by
 unfold kas_count
 rw[KasT.kasWp_bind]
 refine asc (N - 1) 1 (by omega) (Nat.le_refl _) h fun m l1 l2 z hk=>?_
 by_cases c:m=N
 ·rw[if_pos (by rw[c];exact beq_self_eq_true N)]
  exact q m p l1 l2 z
 ·rw[if_neg (by intro b;exact c (eq_of_beq b))]
  have hm:m<N:=by omega
  have hk:=hk hm
  by_cases c1:m > 1
  ·rw[if_pos c1]
   refine⟨z.1.lt (by omega),z.1.lt (by omega),?_⟩
   by_cases d:key (g p 0)<key (g p (m - 1))
   ·rw[decide_eq_true d];dsimp only;rw[if_pos rfl]
    exact q m p l1 l2 z
   ·rw[decide_eq_false d];dsimp only;rw[if_neg Bool.false_ne_true]
    have hs:m≤p.size:=by have:=z.1.size;omega
    refine zhA l1 hm z.turn ?_ q
    rw[zcE hs,zcE hs,if_neg (by omega),if_pos ⟨by omega,by omega⟩,show 0+m - 1 - (m - 1)=0 by omega]
    omega
  ·rw[if_neg c1]
   have e:m=1:=by omega
   subst e
   exact zhA l1 hm ⟨z.1,fun i j a b=>by omega⟩ hk q
theorem place{p:Array Nat}{k:Nat}{Q:Nat→Shared→Prop}{s:Shared}(hk:k<N)(h:I key N p k):∀(f l r:Nat),r≤l+f→l≤r→r≤k→(∀i,i<l→key (g p i)≤key (g p k))→(∀i,r≤i→i<k→key (g p k)<key (g p i)) →
 (∀l',l'≤k→(∀i,i<l'→key (g p i)≤key (g p k))→(∀i,l'≤i→i<k→key (g p k)<key (g p i))→Q l' s)→(kas_place p k f l r).kasWp (ck key N) Q s
 | 0,l,r,e,h1,h2,a,b,q=>q l (by omega) a fun i x y=>b i (by omega) y
 | f+1,l,r,e,h1,h2,a,b,q=>by
   unfold kas_place
   by_cases c:l ≥ r
   ·rw[if_pos c]
    exact q l (by omega) a fun i x y=>b i (by omega) y
   ·rw[if_neg c]
    have h3:(l+r)/2<r:=by omega
    have h4:l≤(l+r)/2:=by omega
    generalize (l+r)/2=m at h3 h4
    refine⟨h.1.lt hk,h.1.lt (by omega),?_⟩
    by_cases d:key (g p k)<key (g p m)
    ·rw[decide_eq_true d];dsimp only;rw[if_pos rfl]
     refine place hk h f l m (by omega) h4 (by omega) a (fun i x y=>?_) q
     by_cases c2:i=m
     ·rw[c2];exact d
     ·have:=(h.2 m i (by omega) y).le
      omega
    ·rw[decide_eq_false d];dsimp only;rw[if_neg Bool.false_ne_true]
     refine place hk h f (m+1) r (by omega) (by omega) h2 (fun i x=>?_) b q
     by_cases c2:i=m
     ·rw[c2];omega
     ·have:=(h.2 i m (by omega) (by omega)).le
      omega
theorem I.put{p:Array Nat}{k l:Nat}(hk:k<N)(h:I key N p k)(hl:l≤k)(a:∀i,i<l→key (g p i)≤key (g p k))(b:∀i,l≤i→i<k→key (g p k)<key (g p i)):I key N (bubble p k (k - l)) (k+1):=by
 have hs:k<p.size:=by rw[h.1.size];exact hk
 have hg:=fun i=>g_bub hs (Nat.sub_le k l) i
 rw[show k - (k - l)=l by omega] at hg
 refine⟨⟨(bubble_perm _ _ _).trans h.1.pm,fun i h1 h2=>?_,fun i hi=>?_,hk⟩,fun i j hij hj=>?_⟩
 ·rw[hg,if_neg (by omega),if_neg (by omega)]
  exact h.1.tl i (by omega) h2
 ·rw[hg]
  by_cases c:i=l
  ·rw[if_pos c,h.1.tl k (Nat.le_refl _) hk];omega
  ·rw[if_neg c]
   by_cases c2:l<i∧i≤k
   ·rw[if_pos c2];have:=h.1.lo (i - 1) (by omega);omega
   ·rw[if_neg c2];have:=h.1.lo i (by omega);omega
 ·rw[hg i,hg j]
  by_cases c1:j<l
  ·rw[if_neg (by omega),if_neg (by omega),if_neg (by omega),if_neg (by omega)]
   exact h.2 i j hij (by omega)
  ·by_cases c2:j=l
   ·rw[if_pos c2,if_neg (by omega),if_neg (by omega)]
    exact R.of (a i (by omega)) (by rw[h.1.tl k (Nat.le_refl _) hk];exact h.1.lo i (by omega))
   ·rw[if_neg c2,if_pos (show l<j∧j≤k by omega)]
    by_cases c3:i=l
    ·rw[if_pos c3]
     exact .inl (b (j - 1) (by omega) (by omega))
    ·rw[if_neg c3]
     by_cases c4:i<l
     ·rw[if_neg (by omega)]
      exact h.2 i (j - 1) (by omega) (by omega)
     ·rw[if_pos (by omega)]
      exact h.2 (i - 1) (j - 1) (by omega) (by omega)
theorem bin{Q:Array Nat→Shared→Prop}{s:Shared}(q:∀p',I key N p' N→Q p' s):∀(f:Nat) (p:Array Nat) (k:Nat),k+f=N→I key N p k→(kas_bin f p k).kasWp (ck key N) Q s
 | 0,p,k,e,h=>q p (by rw[Nat.add_zero] at e;rw[← e];rw[e] at h ⊢;exact h)
 | f+1,p,k,e,h=>by
   unfold kas_bin
   rw[KasT.kasWp_bind]
   refine place (by omega) h k 0 k (by omega) (Nat.zero_le _) (Nat.le_refl _) (fun i x=>by omega) (fun i x y=>by omega) fun l l1 a b=>?_
   exact bin q f _ (k+1) (by omega) (h.put (by omega) l1 a b)
theorem zbe(h1:1≤N):I key N (List.range N).toArray 1:=by
 have e:∀i,i<N→g (List.range N).toArray i=i:=fun i h=>by
  show(List.range N).toArray.getD i 0=i
  simp[Array.getD,h]
 exact⟨⟨Array.Perm.refl _,fun i _ h=>e i h,fun i h=>by rw[e i (by omega)];exact h,h1⟩,fun i j a b=>by omega⟩
theorem sort{Q:Array Nat→Shared→Prop}{s:Shared}(h1:1≤N)(q:∀p,I key N p N→Q p s):(kas_sort N).kasWp (ck key N) Q s:=by
 unfold kas_sort
 rw[KasT.kasWp_bind]
 refine count h1 (zbe h1) fun m p l1 l2 h=>?_
 dsimp only
 by_cases c:m<N
 ·rw[if_pos c,show max m 1=m by omega]
  exact bin q (N - m) p m (by omega) h
 ·rw[if_neg c]
  have e:m=N:=by omega
  subst e
  exact q p h
end
end M14
namespace L2
open PySem PySem.W PySem.Calls PyProof.Rows
theorem wp_cmp{α:Type}{c c':Nat→Nat→(Bool→Shared→Prop)→Shared→Prop}{Q:α→Shared→Prop}(m:∀i j C C' s,(∀b s',C b s'→C' b s')→c i j C s→c' i j C' s):
 ∀(t:KasT α) (s:Shared),t.kasWp c Q s→t.kasWp c' Q s
 | .ret _,_,h=>h
 | .ask i j k,s,h=>m i j _ _ s (fun b s' z=>wp_cmp m (k b) s' z) h
section
variable {X:Cx} {pins:List (Addr × Obj)} {σ:St} {H:Hp} {s:Shared} {a kS:Addr} {A:Around} {E:Value→Shared→Prop}
structure Own (X:Cx) (pins:List (Addr × Obj)) (H:Hp) (a:Addr):Prop where
 free:H a=none
 loc:a≠X.env.locals
 new:X.s₀.heap.objs.size≤a
 cell:∀x c,X.env.cells.lookup x=some c→c≠a
 pin:∀p∈X.pn++pins,p.1≠a
 fs:a∉X.fs
theorem Inv.own(I:Inv X pins σ H s){b:Addr}(h:s.heap.objs.size≤b):Own X pins H b:=by
 refine⟨I.hok.fresh h,fun z=>?_,Nat.le_trans I.sz h,fun x c e z=>?_,fun p hp z=>?_,I.nofs h⟩
 ·have:=I.lt;rw[← z] at this;exact absurd this (Nat.not_lt.mpr h)
 ·obtain⟨v,hv⟩:=I.cell x c e
  obtain⟨o,ho,_⟩:=hv
  have:=Heap.lt_size ho
  rw[z] at this
  exact absurd this (Nat.not_lt.mpr h)
 ·have:=Heap.lt_size (I.pin p hp).1
  rw[z] at this
  exact absurd this (Nat.not_lt.mpr h)
theorem Inv.swap{f:Obj→Obj}(I:Inv X pins σ H s)(o:Own X pins H a):Inv X pins σ H { s with heap:=s.heap.update a f } :=
 I.turned (it:=a) (fun b u hb hu=>(Heap.get?_update_other s.heap f (Ne.symm hb)).trans hu) o.free o.loc (.inr o.new) o.cell o.pin
theorem Inv.hold{u:Obj}(I:Inv X pins σ H s)(o:Own X pins H a)(e:s.heap.get? a=some u)(hu:∀v,u.data ≠ .cell v):Inv X ((a,u)::pins) σ H s :=
 I.pins_of fun p hp=>by
  rcases List.mem_cons.mp hp with rfl | hp
  ·exact⟨e,o.free,o.loc,o.fs,hu⟩
  ·exact I.pin p (List.mem_append_right _ hp)
theorem Inv.drop{p:Addr × Obj}(I:Inv X (p::pins) σ H s):Inv X pins σ H s :=
 I.pins_of fun q hq=>I.pin q (List.mem_append_right _ (List.mem_cons_of_mem _ hq))
theorem Inv.held{u:Obj}(I:Inv X ((a,u)::pins) σ H s):s.heap.get? a=some u:=(I.pin (a,u) (List.mem_append_right _ (List.mem_cons_self ..))).1
theorem Own.more{u:Obj}(o:Own X pins H a)(h:kS≠a):Own X ((kS,u)::pins) H a :=
 ⟨o.free,o.loc,o.new,o.cell,fun p hp=>by
  rcases List.mem_append.mp hp with z | z
  ·exact o.pin p (List.mem_append_left _ z)
  ·rcases List.mem_cons.mp z with rfl | z
   ·exact h
   ·exact o.pin p (List.mem_append_right _ z),o.fs⟩
theorem nocell{vs:Array Value}{n:Nat}:∀v,(seqObj "list" vs n).data ≠ .cell v:=fun v z=>by cases z
theorem zeh:∀{ks:List Value} {kz:List Int},IntsAre ks kz→∀i,i<kz.length→∃t,ks.getD i Value.none=Value.int (kz.getD i 0) t
 | _,_,.cons n t r,0,_=>⟨t,rfl⟩
 | _,_,.cons n t r,i+1,h=>zeh r i (by simpa using h)
theorem zh3{vs:List Value}{kz:List Int}{e1:Nat}{body:Value→PUnit→Sem (ForInStep PUnit)}(hl:kz.length=vs.length)
 (hb:∀(v:Value) (ks:List Value) (e:Nat) (s:Shared),vs[ks.length]? = some v→Inv X ((kS,seqObj "list" ks.toArray e)::(a,seqObj "list" #[] e1)::pins) σ H s→IntsAre ks (kz.take ks.length) →
   wpAny (model X.prog X.w) A (body v ⟨⟩) (fun r s'=>r=.yield ⟨⟩∧∃(k:Value) (e':Nat),Inv X ((kS,seqObj "list" (ks ++ [k]).toArray e')::(a,seqObj "list" #[] e1)::pins) σ H s'∧IntsAre (ks ++ [k]) (kz.take (ks ++ [k]).length)) E s) :
 ∀(r:List Value) (ks:List Value) (e:Nat) (s:Shared),vs.drop ks.length=r→ks.length≤vs.length→Inv X ((kS,seqObj "list" ks.toArray e)::(a,seqObj "list" #[] e1)::pins) σ H s→IntsAre ks (kz.take ks.length) →
  wpAny (model X.prog X.w) A (forIn r PUnit.unit body) (fun _ s'=>∃(ks:List Value) (e:Nat),Inv X ((kS,seqObj "list" ks.toArray e)::(a,seqObj "list" #[] e1)::pins) σ H s'∧IntsAre ks kz) E s
 | [],ks,e,s,hd,hz,I,hi=>by
   rw[List.forIn_nil]
   have:vs.length≤ks.length:=by
    have:=congrArg List.length hd
    rw[List.length_drop,List.length_nil] at this
    omega
   refine wpAny_pure ⟨ks,e,I,?_⟩
   rw[List.take_of_length_le (by omega)] at hi
   exact hi
 | v::r,ks,e,s,hd,hz,I,hi=>by
   rw[List.forIn_cons]
   have hv:vs[ks.length]? = some v:=by
    have:=congrArg List.head? hd
    rw[List.head?_drop] at this
    exact this
   have hlt:ks.length<vs.length:=(List.getElem?_eq_some_iff.mp hv).1
   refine wpAny_bind (wpAny_mono (hb v ks e s hv I hi) (fun q s' hq=>?_) fun _ _ x=>x)
   obtain⟨rfl,k,e',I',hi'⟩:=hq
   show wpAny (model X.prog X.w) A (forIn r PUnit.unit body) _ E s'
   have hlen:(ks ++ [k]).length=ks.length+1:=by rw[List.length_append,List.length_singleton]
   refine zh3 hl hb r (ks ++ [k]) e' s' ?_ (by omega) I' hi'
   rw[hlen,← List.drop_drop,hd]
   rfl
theorem key_tail{st:SortSt}{ks out:List Value}{e e1:Nat}(I:Inv X ((kS,seqObj "list" ks.toArray e)::(a,seqObj "list" #[] e1)::pins) σ H s)(o:Own X pins H a)(ok:Own X pins H kS)(hka:kS≠a)(hz:ks.length<64)(hz2:out.length<64)
 (ho:(arrOf st).map (·.2)=List.toArray out) (hf:failedOf st=none) :
 wpAny (model X.prog X.w) A (ksk_tail a false e1 (.ref kS) st) (fun r s'=>r=.done (.ret .none)∧Inv X pins σ H s'∧∃e,s'.heap.get? a=some (seqObj "list" out.toArray e)) E s:=by
 have hln:=zC
 have hk:=I.held
 have ha:=I.drop.held
 have I1:=I.drop.drop.swap (f:=Obj.mapSeq fun _=>(#[]:Array Value)) ok
 have ha1:(s.heap.update kS (Obj.mapSeq fun _=>(#[]:Array Value))).get? a=some (seqObj "list" #[] e1):=(Heap.get?_update_other s.heap _ hka).trans ha
 have I2:=I1.swap (f:=Obj.mapSeq fun _=>out.toArray) o
 obtain⟨c2,hc2⟩:∃c2,((s.heap.update kS (Obj.mapSeq fun _=>(#[]:Array Value))).update a (Obj.mapSeq fun _=>out.toArray)).get? a=some (seqObj "list" out.toArray c2):=⟨_,get?_update_seq ha1 fun _=>out.toArray⟩
 unfold ksk_tail
 try dsimp only
 rw[ho]
 refine wpAny_bind (listUpdate_at hk rfl ?_ (by rw[List.size_toArray];omega) (Nat.zero_le _))
 refine wpAny_bind (wpAny_letGo ?_)
 refine wpAny_bind (seqEpoch_at ha1 rfl ?_)
 simp only[Bool.false_eq_true,if_false]
 refine wpAny_bind (listUpdate_at ha1 rfl ?_ (Nat.zero_le _) (by rw[List.size_toArray];omega))
 rw[hf]
 simp only[bne_self_eq_false,Bool.false_eq_true,if_false]
 exact wpAny_pure ⟨rfl,I2,c2,hc2⟩
theorem keyed{f:Value}{vs:List Value}{n:Nat}{kz:List Int}(I:Inv X pins σ H s)(o:Own X pins H a)(ho:s.heap.get? a=some (seqObj "list" vs.toArray n))(h1:1≤vs.length)(h64:vs.length<64)(hl:kz.length=vs.length)
 (calls:∀(i:Nat) (v:Value) (pins':List (Addr × Obj)) (s':Shared),vs[i]? = some v→Inv X pins' σ H s'→wpAny (model X.prog X.w) A (call f [v]) (fun k s''=>Inv X pins' σ H s''∧∃t,k=Value.int (kz.getD i 0) t) (fun _ _=>False) s') :
 wpAny (model X.prog X.w) A (ksk_tree a f false) (fun r s'=>r=.done (.ret .none)∧∃(p:Array Nat) (e:Nat),M14.I (fun k=>kz.getD k 0) vs.length p vs.length∧Inv X pins σ H s'∧s'.heap.get? a=some (seqObj "list" (p.toList.map fun i=>vs.getD i Value.none).toArray e)) E s:=by
 have hln:=zC
 have ha:a<s.heap.objs.size:=Heap.lt_size ho
 have I1:=I.swap (f:=Obj.mapSeq fun _=>(#[]:Array Value)) o
 obtain⟨e1,ho1⟩:∃e1,(s.heap.update a (Obj.mapSeq fun _=>(#[]:Array Value))).get? a=some (seqObj "list" #[] e1):=⟨_,get?_update_seq ho fun _ => #[]⟩
 unfold ksk_tree
 refine wpAny_bind (listItems_at ho rfl ?_)
 refine wpAny_bind (listUpdate_at ho rfl ?_ (by rw[List.size_toArray];omega) (Nat.zero_le _))
 refine wpAny_bind (seqEpoch_at ho1 rfl ?_)
 refine wpAny_bind (wpAny_newTuple ?_ (by show vs.length≤_;omega))
 refine wpAny_bind (wpAny_newList ?_ (Nat.zero_le _))
 refine wpAny_holding ?_
 have I2:Inv X pins σ H { s with heap:=(s.heap.update a (Obj.mapSeq fun _=>(#[]:Array Value))).push (seqObj "tuple" vs.toArray 0) }:=I1.kept (t':=s.toks) fun b u q=>Heap.get?_push_of_some _ q
 have I3:Inv X pins σ H { s with heap:=((s.heap.update a (Obj.mapSeq fun _=>(#[]:Array Value))).push (seqObj "tuple" vs.toArray 0)).push (seqObj "list" #[] 0) }:=I2.kept (t':=s.toks) fun b u q=>Heap.get?_push_of_some _ q
 have ok:=I2.own (b:=((s.heap.update a (Obj.mapSeq fun _=>(#[]:Array Value))).push (seqObj "tuple" vs.toArray 0)).objs.size) (Nat.le_refl _)
 have hka:((s.heap.update a (Obj.mapSeq fun _=>(#[]:Array Value))).push (seqObj "tuple" vs.toArray 0)).objs.size≠a:=by
  rw[size_push',Heap.size_update]
  exact Nat.ne_of_gt (Nat.lt_succ_of_lt ha)
 have hk0:(((s.heap.update a (Obj.mapSeq fun _=>(#[]:Array Value))).push (seqObj "tuple" vs.toArray 0)).push (seqObj "list" #[] 0)).get? ((s.heap.update a (Obj.mapSeq fun _=>(#[]:Array Value))).push (seqObj "tuple" vs.toArray 0)).objs.size=some (seqObj "list" #[] 0):=Heap.get?_push_size _ rfl
 have ha0:(((s.heap.update a (Obj.mapSeq fun _=>(#[]:Array Value))).push (seqObj "tuple" vs.toArray 0)).push (seqObj "list" #[] 0)).get? a=some (seqObj "list" #[] e1):=Heap.get?_push_of_some _ (Heap.get?_push_of_some _ ho1)
 show wpAny _ _ (ksk_rest a f false vs.toArray e1 (.ref ((s.heap.update a (Obj.mapSeq fun _=>(#[]:Array Value))).push (seqObj "tuple" vs.toArray 0)).objs.size)) _ _ { s with heap:=((s.heap.update a (Obj.mapSeq fun _=>(#[]:Array Value))).push (seqObj "tuple" vs.toArray 0)).push (seqObj "list" #[] 0) }
 generalize ((s.heap.update a (Obj.mapSeq fun _=>(#[]:Array Value))).push (seqObj "tuple" vs.toArray 0)).objs.size=kS at ok hka hk0
 generalize ((s.heap.update a (Obj.mapSeq fun _=>(#[]:Array Value))).push (seqObj "tuple" vs.toArray 0)).push (seqObj "list" #[] 0)=h3 at I3 hk0 ha0
 clear I1 I2 ho1
 have ok':∀e,Own X ((a,seqObj "list" #[] e)::pins) H kS:=fun e=>ok.more (Ne.symm hka)
 have I4:=(I3.hold o ha0 nocell).hold (ok' e1) hk0 nocell
 unfold ksk_rest
 refine wpAny_bind (wpAny_rule ?_)
 rw[List.forIn_toArray]
 refine wpAny_bind (wpAny_mono (zh3 (kz:=kz) (vs:=vs) hl (fun v ks e s' hv I5 hi=>?_) vs [] 0 _ rfl (Nat.zero_le _) I4 .nil) (fun _ s' hd=>?_) fun _ _ x=>x)
 ·refine wpAny_bind (wpAny_attempt (wpAny_mono (calls ks.length v _ s' hv I5) (fun k s'' hk=>?_) fun _ _ hF=>hF.elim))
  obtain⟨I6,t,rfl⟩:=hk
  dsimp only
  have hlt:ks.length<vs.length:=(List.getElem?_eq_some_iff.mp hv).1
  have hk6:=I6.held
  obtain⟨c2,hc2⟩:∃c2,(s''.heap.update kS (Obj.mapSeq (·.push (Value.int (kz.getD ks.length 0) t)))).get? kS=some (seqObj "list" (ks ++ [Value.int (kz.getD ks.length 0) t]).toArray c2) :=
   ⟨_,by rw[show(ks ++ [Value.int (kz.getD ks.length 0) t]).toArray=ks.toArray.push (Value.int (kz.getD ks.length 0) t)by simp];exact get?_update_seq hk6 (·.push _)⟩
  refine wpAny_bind (listUpdate_at hk6 rfl ?_ (by rw[List.size_toArray];omega) (by rw[Array.size_push,List.size_toArray];omega))
  exact wpAny_pure ⟨rfl,_,c2,(I6.drop.swap (ok' e1)).hold (ok' e1) hc2 nocell,by rw[List.length_append,List.length_singleton,List.take_add_one];exact hi.append (by rw[List.getElem?_eq_getElem (by omega),List.getD_eq_getElem?_getD,List.getElem?_eq_getElem (by omega)];exact .cons _ t .nil)⟩
 ·obtain⟨ks,e,I7,hi⟩:=hd
  have hk7:=I7.held
  have I8:=I7.drop
  have ha8:=I8.held
  have hkl:ks.length=vs.length:=by rw[hi.length,hl]
  refine wpAny_bind (listItems_at hk7 rfl ?_)
  have fin:∀(st:SortSt) (p:Array Nat),M14.I (fun k=>kz.getD k 0) vs.length p vs.length→arrOf st=p.map (kas_item (ks.toArray.zip vs.toArray))→failedOf st=none →
   wpAny (model X.prog X.w) A (ksk_tail a false e1 (.ref kS) st) (fun r s'=>r=.done (.ret .none)∧∃(p:Array Nat) (e:Nat),M14.I (fun k=>kz.getD k 0) vs.length p vs.length∧Inv X pins σ H s'∧s'.heap.get? a=some (seqObj "list" (p.toList.map fun i=>vs.getD i Value.none).toArray e)) E s':=fun st p hp har hf =>
   wpAny_mono (key_tail (out:=p.toList.map fun i=>vs.getD i Value.none) I7 o ok hka (by omega) (by rw[List.length_map,Array.length_toList,hp.1.size];exact h64) (kat_snds hkl har) hf) (fun r s2 z=>⟨z.1,p,_,hp,z.2.1,z.2.2.choose_spec⟩) fun _ _ x=>x
  unfold ksk_end
  simp only[Bool.false_eq_true,if_false]
  by_cases h2:vs.length<2
  ·have hs2:vs.toArray.size<2:=by rw[List.size_toArray];exact h2
   rw[if_pos hs2,if_pos hs2]
   refine wpAny_bind (wpAny_pure ?_)
   refine wpAny_bind (wpAny_pure ?_)
   have hN:vs.length=1:=by omega
   have z:∀m,m=1→M14.I (fun k=>kz.getD k 0) vs.length (List.range vs.length).toArray m:=fun m e=>by rw[e];exact M14.zbe h1
   refine fin _ _ (z _ hN) ?_ rfl
   have e:=kas_range (ks.toArray.zip vs.toArray)
   rw[show(ks.toArray.zip vs.toArray).size=vs.length by simp[hkl]] at e
   exact e.symm
  ·have hs2:¬vs.toArray.size<2:=by rw[List.size_toArray];exact h2
   rw[if_neg hs2,if_neg hs2,ksk_kind (kz:=kz) (by simpa using hi) (by rw[List.size_toArray];omega)]
   refine wpAny_bind (wpAny_pure ?_)
   have ask:(kas_sort vs.length).kasWp (kas_ask X.prog X.w A oneType' ks) (fun p s2=>M14.I (fun k=>kz.getD k 0) vs.length p vs.length∧s2=s') s':=by
    refine wp_cmp (c:=M14.ck (fun k=>kz.getD k 0) vs.length) (fun i j C C' s0 m h=>?_) _ _ (M14.sort h1 fun p hp=>⟨hp,rfl⟩)
    obtain⟨hi1,hj1,hc⟩:=h
    obtain⟨t,et⟩:=zeh hi i (by omega)
    obtain⟨u,eu⟩:=zeh hi j (by omega)
    unfold kas_ask
    rw[et,eu]
    exact kat_lt_int (m _ _ hc)
   refine wpAny_bind (wpAny_mono (kat_run (Q:=fun st' s2=>∃p:Array Nat,M14.I (fun k=>kz.getD k 0) vs.length p vs.length∧arrOf st'=p.map (kas_item (ks.toArray.zip vs.toArray))∧failedOf st'=none∧s2=s') hkl (by omega) h64 (fun p' st' s2 a1 a2 a3 a4=>⟨p',a4.1,a2,a3,a4.2⟩) ask) ?_ fun _ _ x=>x)
   rintro ⟨⟨⟩,st'⟩ s2 ⟨p,hp,har,hf,rfl⟩
   exact fin _ _ hp har hf
end
end L2
namespace L2
open PySem PySem.W
abbrev zf2(h:Heap)(z TI TO T:Addr)(b:Bool):Prop :=
 h.get? z=some { cls:=.type "zip",dict:=none,data:=.fields #[rawInt T,.bool b,.bool false,.ref TI,.ref TO],slots := #[] }
section
variable {P:Program} {w:World} {A:Around} {E:Value→Shared→Prop} {s:Shared} {z TI TO T i1 i2 l1 l2:Addr} {b:Bool}
theorem zib{Q:Bool→Shared→Prop}(hz:zf2 s.heap z TI TO T b)(hT:∃o,s.heap.get? T=some o)(q:∀h',zf2 h' z TI TO T true→Heap.SameBut z s.heap h'→Q false { s with heap:=h' }):
 wpAny (model P w) A (Builtin.SmallTypes.ownedTupleIsFree (.ref z)) Q E s:=by
 obtain⟨o,ho⟩:=hT
 unfold Builtin.SmallTypes.ownedTupleIsFree
 refine wpAny_bind (wpAny_field hz rfl (x:=rawInt T) rfl ?_)
 show wpAny _ _ (loadIfAlive ((T:Int).toNat) >>= _) _ _ _
 rw[Int.toNat_natCast]
 refine wpAny_bind (kdx_alive ho ?_)
 simp only[Option.isNone_some,if_false,Bool.false_eq_true]
 refine wpAny_bind (wpAny_field hz rfl (x:=.bool b) rfl ?_)
 cases b with
 | true =>
   rw[if_neg (show ¬((Value.bool true != Value.bool true)=true)by decide)]
   exact wpAny_pure (q _ hz (Heap.SameBut.refl _ _))
 | false =>
   rw[if_pos (show(Value.bool false != Value.bool true)=true by decide)]
   exact wpAny_bind (wpAny_setField_rec hz (by simp) fun h₃ e₃ s₃=>wpAny_pure (q h₃ e₃ s₃))
theorem zip_busy{k1 k2:Nat}{xs ys:Array Value}{x y:Value}{Q:Value→Shared→Prop}(D:ZipApart z TI TO i1 i2 l1 l2)(hz:zf2 s.heap z TI TO T b)(hT:∃o,s.heap.get? T=some o)(hTI:IsPair s.heap TI (.ref i1) (.ref i2))
 (h1:s.heap.IsListIter i1 l1 k1) (h2:s.heap.IsListIter i2 l2 k2) (hl1:s.heap.IsList l1 xs) (hl2:s.heap.IsList l2 ys) (hx:xs[k1]? = some x) (hy:ys[k2]? = some y)
 (q:∀h',zf2 h' z TI TO T true→h'.IsListIter i1 l1 (k1+1)→h'.IsListIter i2 l2 (k2+1)→IsPair h' s.heap.objs.size x y→h'.objs.size=s.heap.objs.size+1 →
   (∀c o,c≠z→c≠i1→c≠i2→s.heap.get? c=some o→h'.get? c=some o)→Q (.ref s.heap.objs.size) { s with heap:=h' }) :
 wpAny (model P w) A (Builtin.«zip.__next__» ⟨[.ref z],[]⟩) (fun r s'=>∃v,r=.done (.ret v)∧Q v s') E s:=by
 show wpAny (model P w) A (field (.ref z) 2 >>= _) _ _ _
 refine wpAny_bind (wpAny_field hz (x:=.bool false) rfl rfl ?_)
 show wpAny (model P w) A (field (.ref z) 3 >>= _) _ _ _
 refine wpAny_bind (wpAny_field hz (x:=.ref TI) rfl rfl ?_)
 refine wpAny_bind (wpAny_seqItems hTI rfl ?_)
 show wpAny (model P w) A (Builtin.SmallTypes.ownedTupleIsFree (.ref z) >>= _) _ _ _
 refine wpAny_bind (zib hz hT fun h₁ z₁ s₁=>?_)
 simp only[if_false,Bool.false_eq_true]
 rw[show(#[Value.ref i1,Value.ref i2]:Array Value) = [Value.ref i1,Value.ref i2].toArray from rfl,List.forIn_toArray]
 simp only[List.forIn_cons,List.forIn_nil]
 refine wpAny_bind (wpAny_bind (wpAny_bind (wpAny_holding ?_)))
 show wpAny (model P w) A (Builtin.SmallTypes.nextOf (.ref i1) >>= _) _ _ _
 refine wpAny_bind (wpAny_nextOf_list_item (h1.extBut s₁.extBut D.i1z) (hl1.extBut s₁.extBut D.l1z) hx fun h₂ a₂ s₂=>wpAny_pure (wpAny_pure ?_))
 refine wpAny_bind (wpAny_bind (wpAny_holding ?_))
 show wpAny (model P w) A (Builtin.SmallTypes.nextOf (.ref i2) >>= _) _ _ _
 refine wpAny_bind (wpAny_nextOf_list_item ((h2.extBut s₁.extBut D.i2z).extBut s₂.extBut D.i12.symm) ((hl2.extBut s₁.extBut D.l2z).extBut s₂.extBut D.l2i1) hy fun h₃ a₃ s₃=>wpAny_pure (wpAny_pure (wpAny_pure ?_)))
 refine wpAny_bind (wpAny_newTuple (wpAny_pure ⟨_,rfl,?_⟩) (by show 2≤sizeLine;decide))
 have hsz:h₃.objs.size=s.heap.objs.size:=by rw[s₃.1,s₂.1,s₁.1]
 show Q (.ref h₃.objs.size) _
 rw[hsz]
 have up:∀c o,h₃.get? c=some o→(h₃.push { cls:=.type "tuple",data:=.seq #[x,y] }).get? c=some o:=fun c o e=>Heap.get?_push_of_some _ e
 refine q _ (up _ _ (s₃.extBut _ _ D.i2z.symm (s₂.extBut _ _ D.i1z.symm z₁))) ?_ ?_ ?_ ?_ fun c o c1 c2 c3 e=>up _ _ (s₃.extBut _ _ c3 (s₂.extBut _ _ c2 (s₁.extBut _ _ c1 e)))
 ·exact(a₂.extBut s₃.extBut D.i12).at fun o e=>up _ o e
 ·exact a₃.at fun o e=>up _ o e
 ·rw[← hsz];exact Heap.get?_push_size _ rfl
 ·exact(Heap.size_push ..).trans (by rw[hsz])
theorem zip_over{k1 k2:Nat}{xs ys:Array Value}{Q:Fin→Shared→Prop}(hh:A.handled=none)(D:ZipApart z TI TO i1 i2 l1 l2)(hz:zf2 s.heap z TI TO T b)(hT:∃o,s.heap.get? T=some o)(hTI:IsPair s.heap TI (.ref i1) (.ref i2))
 (h1:s.heap.IsListIter i1 l1 k1) (hl1:s.heap.IsList l1 xs) (hx:xs[k1]? = none)
 (q:∀h' e,(∀c o,c≠z→c≠i1→c≠i2→s.heap.get? c=some o→h'.get? c=some o)→(∃o,h'.get? e=some o∧o.cls=.type "StopIteration")→E (.ref e) { s with heap:=h' }) :
 wpAny (model P w) A (Builtin.«zip.__next__» ⟨[.ref z],[]⟩) Q E s:=by
 show wpAny (model P w) A (field (.ref z) 2 >>= _) _ _ _
 refine wpAny_bind (wpAny_field hz (x:=.bool false) rfl rfl ?_)
 show wpAny (model P w) A (field (.ref z) 3 >>= _) _ _ _
 refine wpAny_bind (wpAny_field hz (x:=.ref TI) rfl rfl ?_)
 refine wpAny_bind (wpAny_seqItems hTI rfl ?_)
 show wpAny (model P w) A (Builtin.SmallTypes.ownedTupleIsFree (.ref z) >>= _) _ _ _
 refine wpAny_bind (zib hz hT fun h₁ z₁ s₁=>?_)
 simp only[if_false,Bool.false_eq_true]
 rw[show(#[Value.ref i1,Value.ref i2]:Array Value) = [Value.ref i1,Value.ref i2].toArray from rfl,List.forIn_toArray]
 simp only[List.forIn_cons,List.forIn_nil]
 refine wpAny_bind (wpAny_bind (wpAny_bind (wpAny_holding ?_)))
 show wpAny (model P w) A (Builtin.SmallTypes.nextOf (.ref i1) >>= _) _ _ _
 refine wpAny_bind (wpAny_nextOf_list_end hh (h1.extBut s₁.extBut D.i1z) (hl1.extBut s₁.extBut D.l1z) hx fun h₂ e s₂ he=>?_)
 exact q h₂ e (fun c o c1 c2 _ x=>s₂ _ _ c2 (s₁.extBut _ _ c1 x)) he
theorem next_busy{k1 k2:Nat}{xs ys:Array Value}{x y:Value}{Q:Option Value→Shared→Prop}(D:ZipApart z TI TO i1 i2 l1 l2)(hz:zf2 s.heap z TI TO T b)(hT:∃o,s.heap.get? T=some o)(hTI:IsPair s.heap TI (.ref i1) (.ref i2))
 (h1:s.heap.IsListIter i1 l1 k1) (h2:s.heap.IsListIter i2 l2 k2) (hl1:s.heap.IsList l1 xs) (hl2:s.heap.IsList l2 ys) (hx:xs[k1]? = some x) (hy:ys[k2]? = some y)
 (q:∀h',zf2 h' z TI TO T true→h'.IsListIter i1 l1 (k1+1)→h'.IsListIter i2 l2 (k2+1)→IsPair h' s.heap.objs.size x y→h'.objs.size=s.heap.objs.size+1 →
   (∀c o,c≠z→c≠i1→c≠i2→s.heap.get? c=some o→h'.get? c=some o)→Q (some (.ref s.heap.objs.size)) { s with heap:=h' }) :
 wpAny (model P w) A (pyNext (.ref z)) Q E s:=by
 have t:s.TypeIs (.ref z) "zip" := ⟨_,hz,rfl⟩
 unfold pyNext
 exact wpAny_bind (wpAny_attempt (wpAny_callSpecial?_slot (name:=Str.ofString "__next__") t F.slot_zip_next (wpAny_call_entry F.slot_zip_next t F.entry_zip_next
  (zip_busy D hz hT hTI h1 h2 hl1 hl2 hx hy fun h' a1 a2 a3 a4 a5 a6=>wpAny_pure (q h' a1 a2 a3 a4 a5 a6)) (F.args_zip_next_1 _))))
theorem zjE{k1:Nat}{xs:Array Value}{Q:Option Value→Shared→Prop}(hh:A.handled=none)(D:ZipApart z TI TO i1 i2 l1 l2)(hz:zf2 s.heap z TI TO T b)(hT:∃o,s.heap.get? T=some o)(hTI:IsPair s.heap TI (.ref i1) (.ref i2))
 (h1:s.heap.IsListIter i1 l1 k1) (hl1:s.heap.IsList l1 xs) (hx:xs[k1]? = none)
 (q:∀h',(∀c o,c≠z→c≠i1→c≠i2→s.heap.get? c=some o→h'.get? c=some o)→Q none { s with heap:=h' }):wpAny (model P w) A (pyNext (.ref z)) Q E s:=by
 have t:s.TypeIs (.ref z) "zip" := ⟨_,hz,rfl⟩
 unfold pyNext
 refine wpAny_bind (wpAny_attempt (wpAny_callSpecial?_slot (name:=Str.ofString "__next__") t F.slot_zip_next (wpAny_call_entry F.slot_zip_next t F.entry_zip_next
  (zip_over (k2:=0) (ys := #[]) hh D hz hT hTI h1 hl1 hx fun h' e k he=>?_) (F.args_zip_next_1 _))))
 obtain⟨o,ho,hc⟩:=he
 exact wpAny_bind (wpAny_isInstance (T:= "StopIteration") (b:=true) ⟨o,ho,hc⟩ isSubtype_stop (wpAny_pure (q _ k)))
def ZSt(z TI TO i1 i2 l1 l2:Addr)(xs ys:Array Value)(i:Nat)(s:Shared):Prop :=
 IsPair s.heap TI (.ref i1) (.ref i2)∧s.heap.IsListIter i1 l1 i∧s.heap.IsListIter i2 l2 i∧s.heap.IsList l1 xs∧s.heap.IsList l2 ys ∧
  ((i=0∧IsZip s.heap z TI TO .none∧∃a b,IsPair s.heap TO a b)∨(0<i∧∃(T:Addr) (b:Bool),zf2 s.heap z TI TO T b∧∃o,s.heap.get? T=some o))
end
end L2
namespace L2
open PySem PySem.W PyProof.Rows
section
variable {X:Cx} {pins:List (Addr × Obj)} {σ:St} {H:Hp} {s:Shared} {h':Heap} {t':Nat} {ch:List Addr}
theorem Inv.moved(I:Inv X pins σ H s)(o:∀c∈ch,Own X pins H c)(k:∀b u,b∉ch→s.heap.get? b=some u→h'.get? b=some u):Inv X pins σ H { s with heap:=h',toks:=t' }:=by
 have nit:∀b u,H b=some u→b∉ch:=fun b u e z=>by rw[(o b z).free] at e;cases e
 have nL:X.env.locals∉ch:=fun z=>(o _ z).loc rfl
 refine I.step (g':=s.gens) (d':=s.drawn) (ch:=ch) (fun b hb=>⟨.inr (o b hb).new,(o b hb).loc,(o b hb).cell,(o b hb).pin⟩) (fun b u _ _ hc e _=>k b u hc e) (fun b u _ _ hc e _=>⟨u.slots,k b u hc e⟩)
  (fun _ _ _ _ n=>n) (fun b u hc e=>⟨u,k b u hc e⟩) (fun _ _ e=>e) (fun _ _ _ e=>e) (fun b ps e=>⟨#[],by rw[e];simp⟩) (fun m hm=>?_) (fun b u e=>?_) I.bare
 ·obtain⟨ob,es,ep,ho,r⟩:=hm
  exact⟨ob,es,ep,k _ ob nL ho,r⟩
 ·refine(I.hok b u e).stay (fun c v hc q=>k c v ?_ q) (fun _ q=>q) fun _ _ q=>q
  rcases hc with z | z
  ·rw[z];exact nit b u e
  ·exact nit c _ z
theorem Inv.movedT{T:Addr}{v:HO}(I:Inv X pins σ H s)(o:∀c∈ch,Own X pins H c)(k:∀b u,b∉ch→s.heap.get? b=some u→h'.get? b=some u)(hT:s.heap.objs.size≤T)(new:y9 X.prog X.w (upd H T v) h' T v):
 Inv X pins σ (upd H T v) { s with heap:=h',toks:=t' }:=by
 have hf:H T=none:=I.hok.fresh hT
 have nit:∀b u,H b=some u→b∉ch:=fun b u e z=>by rw[(o b z).free] at e;cases e
 have nL:X.env.locals∉ch:=fun z=>(o _ z).loc rfl
 have up:∀b u,H b=some u→upd H T v b=some u:=fun b u e=>by rw[zj (zu e hf)];exact e
 refine I.step (g':=s.gens) (d':=s.drawn) (ch:=ch) (fun b hb=>⟨.inr (o b hb).new,(o b hb).loc,(o b hb).cell,(o b hb).pin⟩) (fun b u _ _ hc e _=>k b u hc e) (fun b u _ _ hc e _=>⟨u.slots,k b u hc e⟩)
  (fun b u _ e n=>?_) (fun b u hc e=>⟨u,k b u hc e⟩) (fun b _ e=>up b _ e) (fun b _ _ e=>up b _ e) (fun b ps e=>⟨#[],by rw[up b _ e];simp⟩) (fun m hm=>?_) (fun b u e=>?_) I.bare
 ·rw[zj (fun z=>by rw[z] at e;exact absurd (Heap.lt_size e) (Nat.not_lt.mpr hT))];exact n
 ·obtain⟨ob,es,ep,ho,r⟩:=hm
  exact⟨ob,es,ep,k _ ob nL ho,r⟩
 ·by_cases hb:b=T
  ·subst hb
   rw[zg] at e
   cases e
   exact new
  ·rw[zj hb] at e
   refine(I.hok b u e).stay (fun c w hc q=>k c w ?_ q) (fun c q=>up c _ q) fun c _ q=>up c _ q
   rcases hc with z | z
   ·rw[z];exact nit b u e
   ·exact nit c _ z
theorem Own.upd{c T:Addr}{v:HO}(o:Own X pins H c)(h:c≠T):Own X pins (upd H T v) c:=⟨by rw[zj h];exact o.free,o.loc,o.new,o.cell,o.pin,o.fs⟩
variable {A:Around} {E:Value→Shared→Prop} {z TI TO i1 i2 l1 l2 S:Addr} {xs ys:List Value} {xv yv:List V}
theorem zip_item{i:Nat}{x y:Value}{vx vy:V}{Q:Option Value→Shared→Prop}(I:Inv X pins σ H s)(o:∀c ∈ [z,TO,i1,i2],Own X pins H c)(D:ZipApart z TI TO i1 i2 l1 l2)(st:ZSt z TI TO i1 i2 l1 l2 xs.toArray ys.toArray i s)
 (hx:xs[i]? = some x) (hy:ys[i]? = some y) (rx:zR vx x) (ry:zR vy y)
 (q:∀s',Inv X pins σ (L2.upd H s.heap.objs.size (.tup [vx,vy])) s'→ZSt z TI TO i1 i2 l1 l2 xs.toArray ys.toArray (i+1) s'→(∀b u,b ∉ [z,TO,i1,i2]→s.heap.get? b=some u→s'.heap.get? b=some u)→s'.heap.objs.size=s.heap.objs.size+1→Q (some (.ref s.heap.objs.size)) s') :
 wpAny (model X.prog X.w) A (pyNext (.ref z)) Q E s:=by
 obtain⟨hTI,h1,h2,hl1,hl2,hz⟩:=st
 have hx':xs.toArray[i]? = some x:=by simpa using hx
 have hy':ys.toArray[i]? = some y:=by simpa using hy
 have nTI:TI ∉ [z,TO,i1,i2]:=by simp[D.TIz,D.TITO,D.TIi1,D.TIi2]
 have n1:l1 ∉ [z,TO,i1,i2]:=by simp[D.l1z,D.l1TO,D.l1i1,D.l1i2]
 have n2:l2 ∉ [z,TO,i1,i2]:=by simp[D.l2z,D.l2TO,D.l2i1,D.l2i2]
 have fin:∀(h':Heap) (b:Bool) (T:Addr),zf2 h' z TI TO T b→(∃u,h'.get? T=some u)→h'.IsListIter i1 l1 (i+1)→h'.IsListIter i2 l2 (i+1)→IsPair h' s.heap.objs.size x y→h'.objs.size=s.heap.objs.size+1 →
  (∀c u,c ∉ [z,TO,i1,i2]→s.heap.get? c=some u→h'.get? c=some u)→Q (some (.ref s.heap.objs.size)) { s with heap:=h' }:=fun h' b T b1 b2 b3 b4 b5 b6 k=>by
  refine q _ (I.movedT (t':=s.toks) o k (Nat.le_refl _) ⟨by show 2≤sizeLine;decide,[x,y],.cons rx (.cons ry .nil),_,b5,rfl,_,rfl⟩) ⟨k _ _ nTI hTI,b3,b4,hl1.at fun u e=>k _ u n1 e,hl2.at fun u e=>k _ u n2 e,.inr ⟨Nat.succ_pos _,T,b,b1,b2⟩⟩ k b6
 rcases hz with⟨rfl,hz,a,b,hTO⟩ | ⟨hi,T,b,hz,hT⟩
 ·refine wpAny_pyNext_zip_item D hz hTI hTO h1 h2 hl1 hl2 hx' hy' fun h' a1 a2 a3 a4 a5 a6 k=>?_
  exact fin h' false _ a1 ⟨_,a5⟩ a3 a4 a5 a6 fun c u hc e=>k c u (fun w=>hc (by simp[w])) (fun w=>hc (by simp[w])) (fun w=>hc (by simp[w])) (fun w=>hc (by simp[w])) e
 ·refine next_busy D hz hT hTI h1 h2 hl1 hl2 hx' hy' fun h' a1 a2 a3 a4 a5 k=>?_
  have k':∀c u,c ∉ [z,TO,i1,i2]→s.heap.get? c=some u→h'.get? c=some u:=fun c u hc e=>k c u (fun w=>hc (by simp[w])) (fun w=>hc (by simp[w])) (fun w=>hc (by simp[w])) e
  obtain⟨u,hu⟩:=hT
  by_cases c1:T=z
  ·exact fin h' true T a1 ⟨_,by rw[c1];exact a1⟩ a2 a3 a4 a5 k'
  ·by_cases c2:T=i1
   ·obtain⟨w,hw,_⟩:=id a2
    exact fin h' true T a1 ⟨w,by rw[c2];exact hw⟩ a2 a3 a4 a5 k'
   ·by_cases c3:T=i2
    ·obtain⟨w,hw,_⟩:=id a3
     exact fin h' true T a1 ⟨w,by rw[c3];exact hw⟩ a2 a3 a4 a5 k'
    ·exact fin h' true T a1 ⟨u,k T u c1 c2 c3 hu⟩ a2 a3 a4 a5 k'
abbrev Prs(H:Hp)(ts:List Addr)(ps:List (V × V)):Prop:=Paired (fun t (p:V × V)=>H t=some (.tup [p.1,p.2])) ts ps
theorem Prs.upd{T:Addr}{v:HO}{ts:List Addr}{ps:List (V × V)}(h:Prs H ts ps)(hT:H T=none):Prs (L2.upd H T v) ts ps:=by
 induction h with
 | nil=>exact .nil
 | cons e _ ih=>exact .cons (by rw[zj (zu e hT)];exact e) ih
theorem Prs.snoc{t:Addr}{p:V × V}{ts:List Addr}{ps:List (V × V)}(h:Prs H ts ps)(e:H t=some (.tup [p.1,p.2])):Prs H (ts ++ [t]) (ps ++ [p]):=by
 induction h with
 | nil=>exact .cons e .nil
 | cons a _ ih=>exact .cons a ih
theorem zjm:∀{xv:List V} {xs:List Value},zG xv xs→∀(i:Nat) (h:i<xv.length),∃x,xs[i]? = some x∧zR xv[i] x:=by
 intro xv xs r
 induction r with
 | nil=>intro i h;exact absurd h (Nat.not_lt_zero _)
 | cons e _ ih =>
   intro i h
   cases i with
   | zero=>exact⟨_,rfl,e⟩
   | succ i=>exact ih i (by simpa using h)
theorem ZSt.keep{i:Nat}{h':Heap}(st:ZSt z TI TO i1 i2 l1 l2 xs.toArray ys.toArray i s)(h0:0<i)(k:∀b u,b≠S→s.heap.get? b=some u→h'.get? b=some u)(he:∃u,h'.get? S=some u)(hS:S ∉ [z,TO,i1,i2])(hSl:S≠TI∧S≠l1∧S≠l2):
 ZSt z TI TO i1 i2 l1 l2 xs.toArray ys.toArray i { s with heap:=h' }:=by
 obtain⟨a1,a2,a3,a4,a5,a6⟩:=st
 have n:∀c ∈ [z,TO,i1,i2],c≠S:=fun c hc e=>hS (e ▸ hc)
 refine⟨k _ _ (Ne.symm hSl.1) a1,a2.at fun u e=>k _ u (n _ (by simp)) e,a3.at fun u e=>k _ u (n _ (by simp)) e,a4.at fun u e=>k _ u (Ne.symm hSl.2.1) e,a5.at fun u e=>k _ u (Ne.symm hSl.2.2) e,?_⟩
 rcases a6 with⟨z0,_⟩ | ⟨_,T,b,hz,u,hu⟩
 ·omega
 ·refine .inr ⟨h0,T,b,k _ _ (n _ (by simp)) hz,?_⟩
  by_cases c:T=S
  ·rw[c];exact he
  ·exact⟨u,k T u c hu⟩
theorem zip_loop{res:Value}{R:Result→Shared→Prop}(hh:A.in1.handled=none)(D:ZipApart z TI TO i1 i2 l1 l2)(hS:S ∉ [z,TO,i1,i2])(hSl:S≠TI∧S≠l1∧S≠l2)(rx:zG xv xs)(ry:zG yv ys)(hl:xv.length=yv.length)(hn:xv.length<64):
 ∀(k i:Nat) (s:Shared) (H:Hp) (ts:List Addr) (c:Nat),xv.length - i=k→i≤xv.length→0<xv.length→Inv X pins σ H s→(∀c ∈ [z,TO,i1,i2],Own X pins H c∧c<s.heap.objs.size)→Own X pins H S→S<s.heap.objs.size →
  ZSt z TI TO i1 i2 l1 l2 xs.toArray ys.toArray i s→s.heap.get? S=some { cls:=.type "list",dict:=none,data:=.seq (ts.map Value.ref).toArray c,slots := #[] }→ts.length=i→Prs H ts ((xv.zip yv).take i) →
  (∀s' H' ts,Inv X pins σ H' s'→zi H H'→Prs H' ts (xv.zip yv)→Own X pins H' S→(∃c,s'.heap.get? S=some { cls:=.type "list",dict:=none,data:=.seq (ts.map Value.ref).toArray c,slots := #[] })→R (.ok (.ret res)) s') →
  codeAny (model X.prog X.w) A (.builtin "list.extend.loop" ⟨[.ref S,.ref z,res],[]⟩) R s:=by
 have lx:=rx.length
 have ly:=ry.length
 intro k
 induction k with
 | zero =>
   intro i s H ts c hk hi h0 I o oS lS st eS et pr q
   have e:i=xv.length:=by omega
   subst e
   refine codeAny_builtin F.entry_extend_loop ?_
   rw[Around.under_plainId F.plain_extend_loop _]
   show wpAny (model X.prog X.w) A.in1 (pyNext (.ref z) >>= _) _ _ s
   obtain⟨hTI,h1,h2,hl1,hl2,hz⟩:=st
   rcases hz with⟨z0,_⟩ | ⟨_,T,b,hz,hT⟩
   ·omega
   refine wpAny_bind (zjE hh D hz hT hTI h1 hl1 (by simp;omega) fun h' k'=>?_)
   have kk:∀b u,b ∉ [z,TO,i1,i2]→s.heap.get? b=some u→h'.get? b=some u:=fun b u hb e=>k' b u (fun w=>hb (by simp[w])) (fun w=>hb (by simp[w])) (fun w=>hb (by simp[w])) e
   rw[List.take_of_length_le (by rw[List.length_zip];omega)] at pr
   exact wpAny_pure (q _ H ts (I.moved (t':=s.toks) (fun c hc=>(o c hc).1) kk) (zi.refl _) pr oS ⟨c,kk S _ hS eS⟩)
 | succ k ih =>
   intro i s H ts c hk hi h0 I o oS lS st eS et pr q
   have hlt:i<xv.length:=by omega
   refine codeAny_builtin F.entry_extend_loop ?_
   rw[Around.under_plainId F.plain_extend_loop _]
   show wpAny (model X.prog X.w) A.in1 (pyNext (.ref z) >>= _) _ _ s
   obtain⟨x,hx,vx⟩:=zjm rx i hlt
   obtain⟨y,hy,vy⟩:=zjm ry i (by omega)
   refine wpAny_bind (zip_item I (fun c hc=>(o c hc).1) D st hx hy vx vy fun s' I' st' k' z'=>?_)
   have eS':=k' S _ hS eS
   have hf:H s.heap.objs.size=none:=I.hok.fresh (Nat.le_refl _)
   have oS':Own X pins (L2.upd H s.heap.objs.size (.tup [xv[i],yv[i]])) S:=oS.upd (Nat.ne_of_lt lS)
   obtain⟨c2,hc2⟩:∃c2,(s'.heap.update S (Obj.mapSeq (·.push (Value.ref s.heap.objs.size)))).get? S=some { cls:=.type "list",dict:=none,data:=.seq ((ts ++ [s.heap.objs.size]).map Value.ref).toArray c2,slots := #[] } :=
    ⟨_,by rw[show((ts ++ [s.heap.objs.size]).map Value.ref).toArray=(ts.map Value.ref).toArray.push (Value.ref s.heap.objs.size)by simp];exact get?_update_seq eS' (·.push _)⟩
   have ko:∀b u,b≠S→s'.heap.get? b=some u→(s'.heap.update S (Obj.mapSeq (·.push (Value.ref s.heap.objs.size)))).get? b=some u:=fun b u hb e=>(Heap.get?_update_other _ _ (Ne.symm hb)).trans e
   have hln:=zC
   show wpAny (model X.prog X.w) A.in1 (updateSeq S (·.push (Value.ref s.heap.objs.size)) >>= _) _ _ _
   refine wpAny_bind ?_
   refine wpAny_updateSeq eS' rfl (wpAny_pure ⟨plainId_quiet F.plain_extend_loop _,ih (i+1) _ _ (ts ++ [s.heap.objs.size]) c2 (by omega) (by omega) h0 (I'.swap oS') (fun c hc=>?_) oS' ?_ (st'.keep (Nat.succ_pos _) ko ⟨_,hc2⟩ hS hSl) hc2 (by rw[List.length_append,et];rfl) ?_ ?_⟩) ?_ ?_
   ·refine⟨((o c hc).1).upd (Nat.ne_of_lt (o c hc).2),?_⟩
    show c<(s'.heap.update S _).objs.size
    rw[Heap.size_update,z']
    exact Nat.lt_succ_of_lt (o c hc).2
   ·show S<(s'.heap.update S _).objs.size
    rw[Heap.size_update,z']
    exact Nat.lt_succ_of_lt lS
   ·have e:(xv.zip yv).take (i+1)=(xv.zip yv).take i ++ [(xv[i],yv[i])]:=by
     rw[List.take_add_one,List.getElem?_eq_getElem (by rw[List.length_zip];omega)]
     simp
    rw[e]
    exact(pr.upd hf).snoc zg
   ·intro s2 H2 ts2 J1 J2 J3 J4 J5
    exact q s2 H2 ts2 J1 ((zi.new hf).trans J2) J3 J4 J5
   ·rw[List.size_toArray,List.length_map,et];omega
   ·rw[Array.size_push,List.size_toArray,List.length_map,et];omega
end
end L2
namespace L2
open PySem PySem.W PyProof.Rows PySem.Calls
theorem zip_len:typeLookup (.type "zip") "__len__" = pure none:=by rw[typeLookup_type,builtinLookup_eq_fast];kernel_rfl
theorem zip_hint:typeLookup (.type "zip") "__length_hint__" = pure none:=by rw[typeLookup_type,builtinLookup_eq_fast];kernel_rfl
section
variable {X:Cx} {pins:List (Addr × Obj)} {σ:St} {H:Hp} {s:Shared} {A:Around} {E:Value→Shared→Prop} {z TI TO i1 i2 l1 l2:Addr} {xs ys:List Value} {xv yv:List V}
theorem zif{Q:List Value→Shared→Prop}(hh:A.in1.handled=none)(D:ZipApart z TI TO i1 i2 l1 l2)(rx:zG xv xs)(ry:zG yv ys)(hl:xv.length=yv.length)(hn:xv.length<64)(h0:0<xv.length)
 (I:Inv X pins σ H s) (o:∀c ∈ [z,TO,i1,i2],Own X pins H c∧c<s.heap.objs.size) (st:ZSt z TI TO i1 i2 l1 l2 xs.toArray ys.toArray 0 s)
 (q:∀s' H' ts,Inv X pins σ H' s'→zi H H'→Prs H' ts (xv.zip yv)→Q (ts.map Value.ref) s'):wpAny (model X.prog X.w) A (collect (.ref z)) Q E s:=by
 have hz:IsZip s.heap z TI TO .none:=by
  rcases st.2.2.2.2.2 with⟨_,hz,_⟩ | ⟨w,_⟩
  ·exact hz
  ·omega
 have lt:∀{c u},s.heap.get? c=some u→c<s.heap.objs.size:=fun e=>Heap.lt_size e
 have lz:=(o z (by simp)).2
 have hSz:s.heap.objs.size≠z:=Nat.ne_of_gt lz
 have oS:=I.own (b:=s.heap.objs.size) (Nat.le_refl _)
 unfold collect
 refine wpAny_bind (wpAny_runValue (codeAny_builtin F.entry_proto_collect ?_))
 rw[Around.under_plainId F.plain_proto_collect _]
 show wpAny (model X.prog X.w) A.in1 (newList [] >>= fun l=>again (.builtin "list.__iadd__" ⟨[l,.ref z],[]⟩)) _ _ s
 refine wpAny_bind (wpAny_newList ?_ (Nat.zero_le _))
 have I1:Inv X pins σ H { s with heap:=s.heap.push { cls:=.type "list",data:=.seq ([]:List Value).toArray } }:=I.kept (t':=s.toks) fun b u e=>Heap.get?_push_of_some _ e
 have hS1:(s.heap.push { cls:=.type "list",data:=.seq ([]:List Value).toArray }).get? s.heap.objs.size=some { cls:=.type "list",data:=.seq ([]:List Value).toArray }:=Heap.get?_push_size _ rfl
 have k1:∀b u,s.heap.get? b=some u→(s.heap.push { cls:=.type "list",data:=.seq ([]:List Value).toArray }).get? b=some u:=fun b u e=>Heap.get?_push_of_some _ e
 have z1:(s.heap.push { cls:=.type "list",data:=.seq ([]:List Value).toArray }).objs.size=s.heap.objs.size+1:=Heap.size_push ..
 show wpAny (model X.prog X.w) A.in1 (again (.builtin "list.__iadd__" ⟨[.ref s.heap.objs.size,.ref z],[]⟩)) _ _ { s with heap:=s.heap.push { cls:=.type "list",data:=.seq ([]:List Value).toArray } }
 generalize s.heap.push { cls:=.type "list",data:=.seq ([]:List Value).toArray }=h1 at I1 hS1 k1 z1
 refine wpAny_pure ⟨plainId_quiet F.plain_list_iadd _,codeAny_builtin F.entry_list_iadd ?_⟩
 rw[Around.under_plainId F.plain_list_iadd _]
 show wpAny (model X.prog X.w) A.in1 (Builtin.List.listExtendWith (.ref s.heap.objs.size) (.ref z) (.ref s.heap.objs.size)) _ _ _
 unfold Builtin.List.listExtendWith
 have tz:Shared.TypeIs { s with heap:=h1 } (.ref z) "zip" := ⟨_,k1 _ _ hz,rfl⟩
 refine wpAny_bind (wpAny_typeOf tz ?_)
 have e1:Builtin.List.listSameRef (.ref s.heap.objs.size) (.ref z)=false:=by simp[Builtin.List.listSameRef,hSz]
 have e2:(Value.type "zip" == Value.type "list")=false:=by decide
 have e3:(Value.type "zip" == Value.type "tuple")=false:=by decide
 simp only[e1,e2,e3,Bool.or_false,if_false,Bool.false_eq_true]
 refine wpAny_bind (wpAny_pyIter_zip (k1 _ _ hz) ?_)
 refine wpAny_bind (wpAny_holding ?_)
 unfold Builtin.List.listLengthHint
 refine wpAny_bind (wpAny_specialOf tz zip_len ?_)
 show wpAny (model X.prog X.w) A.in1 (specialOf (Value.ref z) (Str.ofString "__length_hint__") >>= _) _ _ _
 refine wpAny_bind (wpAny_specialOf tz zip_hint (wpAny_pure ?_))
 show wpAny (model X.prog X.w) A.in1 (rule "list.extend.makes-room" >>= fun _=>Builtin.List.listTouch (.ref s.heap.objs.size) >>= fun _=>again (.builtin "list.extend.loop" ⟨[.ref s.heap.objs.size,.ref z,.ref s.heap.objs.size],[]⟩)) _ _ _
 refine wpAny_bind (wpAny_rule (wpAny_bind ?_))
 show wpAny (model X.prog X.w) A.in1 (updateSeq s.heap.objs.size (·.push .none) >>= fun _=>updateSeq s.heap.objs.size (·.pop)) _ _ _
 refine wpAny_bind (wpAny_updateSeq hS1 rfl ?_)
 have hS2:=Heap.get?_update_self (Obj.mapSeq (·.push Value.none)) hS1 rfl
 refine wpAny_updateSeq hS2 rfl ?_
 have hS3:=Heap.get?_update_self (Obj.mapSeq (·.pop)) hS2 rfl
 have I3:=(I1.swap (f:=Obj.mapSeq (·.push Value.none)) oS).swap (f:=Obj.mapSeq (·.pop)) oS
 have k3:∀b u,b≠s.heap.objs.size→s.heap.get? b=some u→((h1.update s.heap.objs.size (Obj.mapSeq (·.push Value.none))).update s.heap.objs.size (Obj.mapSeq (·.pop))).get? b=some u :=
  fun b u hb e=>(Heap.get?_update_other _ _ (Ne.symm hb)).trans ((Heap.get?_update_other _ _ (Ne.symm hb)).trans (k1 b u e))
 have z3:((h1.update s.heap.objs.size (Obj.mapSeq (·.push Value.none))).update s.heap.objs.size (Obj.mapSeq (·.pop))).objs.size=s.heap.objs.size+1:=by rw[Heap.size_update,Heap.size_update,z1]
 have kk:∀b u,s.heap.get? b=some u→((h1.update s.heap.objs.size (Obj.mapSeq (·.push Value.none))).update s.heap.objs.size (Obj.mapSeq (·.pop))).get? b=some u:=fun b u e=>k3 b u (Nat.ne_of_lt (lt e)) e
 obtain⟨a1,a2,a3,a4,a5,a6⟩:=st
 refine wpAny_pure ⟨plainId_quiet F.plain_extend_loop _,zip_loop (S:=s.heap.objs.size) (xs:=xs) (ys:=ys) (xv:=xv) (yv:=yv) hh D (fun m=>Nat.lt_irrefl _ (o _ m).2) ⟨Nat.ne_of_gt (lt a1),?_,?_⟩ rx ry hl hn _ 0 _ H [] _ rfl (Nat.zero_le _) h0 I3 (fun c hc=>⟨(o c hc).1,?_⟩) oS ?_ ⟨kk _ _ a1,a2.at fun u e=>kk _ u e,a3.at fun u e=>kk _ u e,a4.at fun u e=>kk _ u e,a5.at fun u e=>kk _ u e,?_⟩ hS3 rfl .nil fun s' H' ts J1 J2 J3 J4 J5=>?_⟩
 ·obtain⟨u,hu,_⟩:=a4;exact Nat.ne_of_gt (lt hu)
 ·obtain⟨u,hu,_⟩:=a5;exact Nat.ne_of_gt (lt hu)
 ·show c<Array.size _
  rw[z3];exact Nat.lt_succ_of_lt (o c hc).2
 ·show s.heap.objs.size<Array.size _
  rw[z3];exact Nat.lt_succ_self _
 ·rcases a6 with⟨_,b1,a,b,b2⟩ | ⟨w,_⟩
  ·exact .inl ⟨rfl,kk _ _ b1,a,b,kk _ _ b2⟩
  ·omega
 ·obtain⟨c,J5⟩:=J5
  show wpAny (model X.prog X.w) A (load s.heap.objs.size >>= _) _ _ s'
  refine wpAny_bind (wpAny_load J5 (wpAny_pure ?_))
  exact q s' H' ts J1 J2 J3
end
end L2
namespace L2
open PySem PySem.W PyProof.Rows PySem.Calls
section
variable {X:Cx} {pins:List (Addr × Obj)} {σ:St} {H:Hp} {s:Shared} {A:Around} {E:Value→Shared→Prop} {z TI TO i1 i2 l1 l2 q:Addr} {xs ys:List Value} {xv yv:List V} {kz:List Int}
theorem Inv.trackO{T:Addr}{v:HO}(I:Inv X pins σ H s)(o:Own X pins H T)(new:y9 X.prog X.w (upd H T v) s.heap T v):Inv X pins σ (upd H T v) s:=by
 have hf:=o.free
 have up:∀b u,H b=some u→upd H T v b=some u:=fun b u e=>by rw[zj (zu e hf)];exact e
 refine I.step (h':=s.heap) (g':=s.gens) (d':=s.drawn) (t':=s.toks) (ch := [T]) (fun b hb=>?_) (fun b u _ _ hc e _=>e) (fun b u _ _ hc e _=>⟨u.slots,e⟩)
  (fun b u hc e n=>by rw[zj (fun w=>hc (by simp[w]))];exact n) (fun b u hc e=>⟨u,e⟩) (fun b _ e=>up b _ e) (fun b _ _ e=>up b _ e) (fun b ps e=>⟨#[],by rw[up b _ e];simp⟩) (fun m hm=>hm) (fun b u e=>?_) I.bare
 ·rw[List.mem_singleton.mp hb]
  exact⟨.inr o.new,o.loc,o.cell,o.pin⟩
 ·by_cases hb:b=T
  ·subst hb
   rw[zg] at e
   cases e
   exact new
  ·rw[zj hb] at e
   exact(I.hok b u e).stay (fun c w hc k=>k) (fun c k=>up c _ k) fun c _ k=>up c _ k
theorem Prs.length{ts:List Addr}{ps:List (V × V)}(h:Prs H ts ps):ts.length=ps.length:=by
 induction h with
 | nil=>rfl
 | cons _ _ ih=>rw[List.length_cons,List.length_cons,ih]
theorem ziD{Q:Value→Shared→Prop}(hh:A.in1.in1.handled=none)(D:ZipApart z TI TO i1 i2 l1 l2)(rx:zG xv xs)(ry:zG yv ys)(hl:xv.length=yv.length)(hn:xv.length<64)(h0:0<xv.length)(hk:kz.length=xv.length)
 (I:Inv X pins σ H s) (o:∀c ∈ [z,TO,i1,i2],Own X pins H c∧c<s.heap.objs.size) (st:ZSt z TI TO i1 i2 l1 l2 xs.toArray ys.toArray 0 s)
 (calls:∀(H':Hp) (ts:List Addr),zi H H'→Prs H' ts (xv.zip yv)→∀(i:Nat) (v:Value) (pins':List (Addr × Obj)) (s':Shared),(ts.map Value.ref)[i]? = some v→Inv X pins' σ H' s' →
   wpAny (model X.prog X.w) A.in1.in1 (call (.ref q) [v]) (fun k s''=>Inv X pins' σ H' s''∧∃t,k=Value.int (kz.getD i 0) t) (fun _ _=>False) s')
 (fin:∀(s':Shared) (H':Hp) (ts:List Addr) (l:Addr) (p:Array Nat),zi H H'→Prs H' ts (xv.zip yv)→H' l=none→M14.I (fun k=>kz.getD k 0) xv.length p xv.length→Inv X pins σ (upd H' l (.lst (p.toList.map fun i=>V.ref (ts.getD i 0)))) s'→Q (.ref l) s') :
 wpAny (model X.prog X.w) A (call (.builtin "sorted") [.ref z] [(Str.ofString "key",.ref q)]) Q E s:=by
 have hln:=zC
 refine call_function_entry_kw kind_sorted plain_sorted entry_sorted (ksk_s1 _ _) ?_
 unfold Builtin.«sorted»
 refine wpAny_bind (m:=checkCount "sorted" 1 1 _) (wpAny_pure ?_)
 refine wpAny_bind (zif hh D rx ry hl hn h0 I o st fun s1 H1 ts I1 sm pr=>?_)
 have lt:ts.length=xv.length:=by rw[pr.length,List.length_zip];omega
 refine wpAny_bind (wpAny_newList ?_ (by rw[List.length_map];omega))
 have I2:Inv X pins σ H1 { s1 with heap:=s1.heap.push (seqObj "list" (ts.map Value.ref).toArray 0) }:=I1.kept (t':=s1.toks) fun b u e=>Heap.get?_push_of_some _ e
 have hD:(s1.heap.push (seqObj "list" (ts.map Value.ref).toArray 0)).get? s1.heap.objs.size=some (seqObj "list" (ts.map Value.ref).toArray 0):=Heap.get?_push_size _ rfl
 have oD:=I1.own (b:=s1.heap.objs.size) (Nat.le_refl _)
 refine wpAny_bind (wpAny_holding (wpAny_call_entry_kw slot_list_sort ⟨_,hD,rfl⟩ entry_list_sort ?body (ksk_l1 _ _)))
 case body =>
  show wpAny (model X.prog X.w) A.in1.in1 (Builtin.«list.sort» ⟨[.ref s1.heap.objs.size],[(Str.ofString "key",.ref q)]⟩) _ _ _
  rw[ksk_t1]
  refine wpAny_mono (keyed (f:=.ref q) (kz:=kz) (vs:=ts.map Value.ref) I2 oD hD (by rw[List.length_map];omega) (by rw[List.length_map];omega) (by rw[List.length_map];omega) (calls H1 ts sm pr)) (fun r s2 w=>?_) fun _ _ w=>w
  obtain⟨rfl,p,e,hp,I3,h3⟩:=w
  rw[List.length_map,lt] at hp
  refine⟨_,rfl,wpAny_pure ⟨_,rfl,?_⟩⟩
  refine fin s2 H1 ts _ p sm pr oD.free hp (I3.trackO oD ⟨?_,p.toList.map fun i=>(ts.map Value.ref).getD i Value.none,e,?_,h3⟩)
  ·rw[List.length_map,Array.length_toList,hp.1.size];omega
  ·have hm:∀i∈p.toList,i<ts.length:=fun i hi=>by
    have:=(hp.1.pm.toList.mem_iff (a:=i)).mp hi
    rw[lt]
    simpa using this
   revert hm
   generalize p.toList=l
   intro hm
   induction l with
   | nil=>exact .nil
   | cons a l ih =>
     have ha:=hm a (List.mem_cons_self ..)
     refine .cons ?_ (ih fun i hi=>hm i (List.mem_cons_of_mem _ hi))
     have e:(ts.map Value.ref).getD a Value.none=Value.ref (ts.getD a 0):=by simp[ha]
     show zR (V.ref (ts.getD a 0)) ((ts.map Value.ref).getD a Value.none)
     rw[e]
     rfl
end
end L2
namespace L2
open PySem PySem.W PyProof.Rows PySem.Calls
section
variable {X:Cx} {pins:List (Addr × Obj)} {σ:St} {H:Hp} {s:Shared} {A:Around} {E:Value→Shared→Prop} {l1 l2:Addr} {xv yv:List V}
theorem made_zip{Q:Value→Shared→Prop}(I:Inv X pins σ H s)(h1:SqL X.K H l1 xv)(h2:SqL X.K H l2 yv)
 (q:∀(s':Shared) (z TI TO i1 i2:Addr) (xs ys:List Value),zG xv xs→zG yv ys→Inv X pins σ H s'→ZipApart z TI TO i1 i2 l1 l2→(∀c ∈ [z,TO,i1,i2],Own X pins H c∧c<s'.heap.objs.size)→ZSt z TI TO i1 i2 l1 l2 xs.toArray ys.toArray 0 s'→Q (.ref z) s') :
 wpAny (model X.prog X.w) A (call (.type "zip") [.ref l1,.ref l2]) Q E s:=by
 obtain⟨xs,r1,p1,_⟩:=I.list h1
 obtain⟨ys,r2,p2,_⟩:=I.list h2
 have b1:=p1.isList
 have b2:=p2.isList
 have t1:l1<s.heap.objs.size:=by obtain⟨u,hu,_⟩:=b1;exact Heap.lt_size hu
 have t2:l2<s.heap.objs.size:=by obtain⟨u,hu,_⟩:=b2;exact Heap.lt_size hu
 refine call_zip_2 b1 b2 fun h' hz hTI hTO hi1 hi2 hsz hk=>?_
 have n:∀(l:Addr) (d:Nat),l<s.heap.objs.size→l≠s.heap.objs.size+d:=fun l d h=>Nat.ne_of_lt (Nat.lt_of_lt_of_le h (Nat.le_add_right _ _))
 have m:∀d e:Nat,d≠e→s.heap.objs.size+d≠s.heap.objs.size+e:=fun d e h w=>h (Nat.add_left_cancel w)
 refine q _ (s.heap.objs.size+4) (s.heap.objs.size+2) (s.heap.objs.size+3) (s.heap.objs.size+0) (s.heap.objs.size+1) xs ys r1 r2 (I.kept (t':=s.toks) hk)
  ⟨m 2 4 (by decide),m 3 4 (by decide),m 0 4 (by decide),m 1 4 (by decide),m 2 3 (by decide),m 2 0 (by decide),m 2 1 (by decide),m 3 0 (by decide),m 3 1 (by decide),m 0 1 (by decide),n _ 4 t1,n _ 3 t1,n _ 0 t1,n _ 1 t1,n _ 4 t2,n _ 3 t2,n _ 0 t2,n _ 1 t2⟩ (fun c hc=>?_)
  ⟨hTI,hi1,hi2,b1.at fun u e=>hk _ u e,b2.at fun u e=>hk _ u e,.inl ⟨rfl,hz,_,_,hTO⟩⟩
 have hb:∃d,d<5∧c=s.heap.objs.size+d:=by
  simp only[List.mem_cons,List.not_mem_nil,or_false] at hc
  rcases hc with w | w | w | w
  ·exact⟨4,by decide,w⟩
  ·exact⟨3,by decide,w⟩
  ·exact⟨0,by decide,w⟩
  ·exact⟨1,by decide,w⟩
 obtain⟨d,hd,rfl⟩:=hb
 refine⟨I.own (Nat.le_add_right _ _),?_⟩
 show s.heap.objs.size+d<Array.size _
 rw[hsz]
 exact Nat.add_lt_add_left hd _
end
end L2
namespace L2
open PySem PySem.W PySem.Spec PyProof.Rows PySem.Calls
def zd1(mg:Str→Option Value)(h:Heap):Prop:=∃bm ob,mg "__builtins__" = some (.ref bm)∧bm≠builtinsNs∧h.get? bm=some ob∧ob.cls=.type "module" ∧ ob.dict=some builtinsNs∧ob.data=.plain
abbrev fnO(f:Addr)(o:Obj):HO:=.ext fun h=>h.get? f=some o
abbrev zeE(c:Addr)(q:Str):HO:=.ext fun h=>h.CodeRec (.ref c) q
def yx(H H':Hp):Prop:=(∀b u,H b=some u→(∀ps,u ≠ .tbl ps)→H' b=some u)∧∀b ps,H b=some (.tbl ps)→∃qs,H' b=some (.tbl qs)
theorem zi.toN{H H':Hp}(s:zi H H'):yx H H':=⟨fun b u e _=>s b u e,fun b ps e=>⟨ps,s b _ e⟩⟩
theorem yx.trans{H H1 H2:Hp}(a:yx H H1)(b:yx H1 H2):yx H H2:=⟨fun c u e n=>b.1 c u (a.1 c u e n) n,fun c ps e=>let ⟨qs,e1⟩:=a.2 c ps e;b.2 c qs e1⟩
theorem yx.free{H H':Hp}{l:Addr}(s:yx H H')(h:H' l=none):H l=none:=by
 cases e:H l with
 | none=>rfl
 | some u =>
   by_cases hu:∃ps,u=.tbl ps
   ·obtain⟨ps,rfl⟩:=hu
    obtain⟨qs,e1⟩:=s.2 l ps e
    rw[h] at e1;cases e1
   ·have e1:=s.1 l u e fun ps z=>hu ⟨ps,z⟩
    rw[h] at e1;cases e1
def noT(H:Hp):Hp:=fun b=>match H b with
 | some (.tbl _)=>none
 | x=>x
theorem noT_of{H:Hp}{b:Addr}{u:HO}(e:H b=some u)(n:∀ps,u ≠ .tbl ps):noT H b=some u:=by
 unfold noT
 rw[e]
 cases u <;> first | rfl | exact absurd rfl (n _)
theorem of_noT{H:Hp}{b:Addr}{u:HO}(e:noT H b=some u):H b=some u∧∀ps,u ≠ .tbl ps:=by
 unfold noT at e
 split at e
 ·cases e
 ·rename_i z
  refine⟨e,fun ps w=>?_⟩
  subst w
  exact z ps e
theorem yx.same{H H':Hp}(s:yx H H'):zi (noT H) H':=fun b u e=>let ⟨h,n⟩:=of_noT e;s.1 b u h n
theorem SqL.noT{K:Frag}{H:Hp}{a:Addr}{xs:List V}(h:SqL K H a xs):SqL K (L2.noT H) a xs:=by
 rcases h with(h | ⟨o,h⟩) | h
 ·exact .inl (.inl (noT_of h fun _ z=>by cases z))
 ·exact .inl (.inr ⟨o,noT_of h fun _ z=>by cases z⟩)
 ·exact .inr h
section
variable {X:Cx} {pins:List (Addr × Obj)} {σ:St} {H:Hp} {s:Shared} {E:Value→Shared→Prop}
theorem Inv.lam{P c':Addr}{ps more:Array Value}{h':Heap}{fo:Obj}{q:Str}{tk:Nat}(I:Inv X pins σ H s)(hfo:fo.isFreed=false)(hP:H P=some (.tbl ps))(hx:Heap.ExtBut P s.heap h')(hc:s.heap.objs.size≤c')(hlt:c'<h'.objs.size)
 (hcd:h'.CodeRec (.ref c') q) (ht:h'.get? P=some (tabObj (ps++more))) :
 Inv X pins σ (upd (upd (upd H P (.tbl (ps++more))) c' (zeE c' q)) h'.objs.size (fnO h'.objs.size fo)) { s with heap:=h'.push fo,toks:=tk }:=by
 have hPs:P<s.heap.objs.size:=I.hok.lt hP
 have nPc:P≠c':=Nat.ne_of_lt (Nat.lt_of_lt_of_le hPs hc)
 have ncf:c'≠h'.objs.size:=Nat.ne_of_lt hlt
 have nPf:P≠h'.objs.size:=Nat.ne_of_lt (Nat.lt_trans (Nat.lt_of_lt_of_le hPs hc) hlt)
 have old:∀b,b<s.heap.objs.size→b≠P→upd (upd (upd H P (.tbl (ps++more))) c' (zeE c' q)) h'.objs.size (fnO h'.objs.size fo) b=H b:=fun b hb n=>by
  rw[zj (Nat.ne_of_lt (Nat.lt_trans (Nat.lt_of_lt_of_le hb hc) hlt)),zj (Nat.ne_of_lt (Nat.lt_of_lt_of_le hb hc)),zj n]
 have atP:upd (upd (upd H P (.tbl (ps++more))) c' (zeE c' q)) h'.objs.size (fnO h'.objs.size fo) P=some (.tbl (ps++more)):=by rw[zj nPf,zj nPc,zg]
 have k:∀b u,b≠P→s.heap.get? b=some u→(h'.push fo).get? b=some u:=fun b u n e=>Heap.get?_push_of_some _ (hx b u n e)
 have nP:∀b u,H b=some u→(∀w,u ≠ .tbl w)→b≠P:=fun b u e n z=>by rw[z,hP] at e;cases e;exact n _ rfl
 have keepH:∀b u,H b=some u→(∀w,u ≠ .tbl w)→upd (upd (upd H P (.tbl (ps++more))) c' (zeE c' q)) h'.objs.size (fnO h'.objs.size fo) b=some u:=fun b u e n=>by
  rw[old b (I.hok.lt e) (nP b u e n)];exact e
 refine I.step (g':=s.gens) (d':=s.drawn) (ch := []) (fun _ z=>nomatch z) (fun b o _ _ _ e n=>k b o (fun z=>by rw[z,hP] at n;cases n) e) (fun b o _ _ _ e n=>⟨o.slots,k b o (fun z=>by rw[z,hP] at n;cases n) e⟩)
  (fun b o _ e n=>by rw[old b (Heap.lt_size e) (fun z=>by rw[z,hP] at n;cases n)];exact n) (fun b o _ e=>?_) (fun b xs e=>keepH b _ e fun _ z=>by cases z) (fun b o u e=>keepH b _ e fun _ z=>by cases z) (fun b w e=>?_) (fun m hm=>?_) (fun b u e=>?_) I.bare
 ·by_cases hb:b=P
  ·subst hb;exact⟨_,Heap.get?_push_of_some _ ht⟩
  ·exact⟨o,k b o hb e⟩
 ·by_cases hb:b=P
  ·subst hb
   rw[hP] at e
   cases e
   exact⟨more,atP⟩
  ·exact⟨#[],by rw[old b (I.hok.lt e) hb,e];simp⟩
 ·have nL:X.env.locals≠P:=fun z=>by have:=I.free;rw[z,hP] at this;cases this
  obtain⟨o,es,ep,ho,r⟩:=hm
  exact⟨o,es,ep,k _ o nL ho,r⟩
 ·by_cases hf:b=h'.objs.size
  ·subst hf
   rw[zg] at e
   cases e
   exact⟨Heap.get?_push_size _ hfo,⟨fo,Heap.get?_push_size _ hfo⟩,fun h1 h2 a b=>b _ a⟩
  ·by_cases hc':b=c'
   ·subst hc'
    rw[zj ncf,zg] at e
    cases e
    obtain⟨c,oc,vs,t,e1,e2,e3,e4⟩:=hcd
    cases e1
    exact⟨⟨b,oc,vs,t,rfl,Heap.get?_push_of_some _ e2,e3,e4⟩,⟨oc,Heap.get?_push_of_some _ e2⟩,fun h1 h2 ⟨c,oc,vs,t,e1,e2,e3⟩ q=>by cases e1;exact⟨b,oc,vs,t,rfl,q _ e2,e3⟩⟩
   ·by_cases hb:b=P
    ·subst hb
     rw[atP] at e
     cases e
     exact Heap.get?_push_of_some _ ht
    ·rw[zj hf,zj hc',zj hb] at e
     refine(I.hok b u e).stay (fun c v hc q=>k c v ?_ q) (fun c w=>keepH c _ w fun _ z=>by cases z) fun c xs w=>keepH c _ w fun _ z=>by cases z
     rcases hc with rfl | hc
     ·exact hb
     ·exact nP c _ hc fun _ z=>by cases z
end
theorem lam_ok{P:Program}{w:World}{K:Frag}{mg:Str→Option Value}{base:Heap}{k:Nat}{f c':Addr}{name qual:Str}{params:Arguments}{body:Expr}{scope:Scope}{pm ctv:Value}{N ps:List Str}{sp:Sp}(S:FnScope N ps scope)
 (len:∀vs H Q E,sp vs H Q E→vs.length=ps.length)
 (has:∀vs H Q E,sp vs H Q E→H f=some (fnO f (kla_obj name qual params body scope [] pm c' ctv))∧H c'=some (zeE c' qual))
 (hbody:∀(A:Around) (outer:List Env) (s:Shared) (H:Hp) (vs:List V) (Q:VK) (E:XK),Room k (A.deeper (envOfC qual scope s.heap.objs.size f (.ref c')))→sp vs H Q E →
   ∃t,PE (zbC CX0 P w K mg base N qual scope f (.ref c') A outer s H E) body t∧t (zbe N vs) H Q) :
 FnOk P w K mg base CX0 (k+1) f (kla_fn name qual params body scope [] pm (.ref c') ctv) ps sp:=by
 refine⟨len,fun A outer s H args us vs Q E hr e0 hb r hsp=>?_⟩
 have hl:=len _ _ _ _ hsp
 obtain⟨a1,a2⟩:=has _ _ _ _ hsp
 obtain⟨o1,_⟩:=e0.hok f _ a1
 obtain⟨o2,_⟩:=e0.hok c' _ a2
 have lim:s.heap.NoLimit:=e0.mod.nolimit.keeps fun b o e=>(e0.bs b o e).1
 have hkind:∀y∈ps.zip us,scope.names.lookup y.1=some .local∨(scope.names.lookup y.1=some .cell∧((cellsFrom (s.heap.objs.size+1) scope.names []).lookup y.1).isSome=true):=fun⟨n,v⟩ hy=>by
  rcases S.par n (List.of_mem_zip hy).1 with q | q
  ·exact .inl q
  ·exact .inr ⟨q,PySem.W.cellsFrom_some _ _ _ (.inl q)⟩
 refine kla_callFunE hr.depth o1 rfl S.co S.gen rfl o2 (hb _ _ _ _ ?_)
 refine wpAny_newFunctionEnv_cells S.kind hkind fun env he s1 x=>?_
 subst he
 refine⟨lim.keeps x.toInCall.keep,kla_codeExpr ?_⟩
 obtain⟨t,ht,hq⟩:=hbody A outer s H vs Q E (hr.deeper _) hsp
 have I:Inv (zbC CX0 P w K mg base N qual scope f (.ref c') A outer s H E) [] (zbe N vs) H s1:=zgz S hr.hd e0 hl r x
 refine wpAny_mono (ht [] s1 (zbe N vs) H _ I hq) (fun u s' hs=>?_) fun e s' hs=>hs
 obtain⟨v,H',J,rv,q⟩:=hs
 exact⟨v,H',J.os,J.bare,J.base,J.hok,rv,q⟩
end L2
namespace L2
open PySem PySem.W PySem.Spec PyProof.Rows PySem.Calls
def sp_fst(f c':Addr)(o:Obj)(q:Str):Sp:=fun vs H Q _=>H f=some (fnO f o)∧H c'=some (zeE c' q)∧∃(t:Addr) (x y:V),vs = [.ref t]∧H t=some (.tup [x,y])∧Q x H
theorem Prs.get{H:Hp}:∀{ts:List Addr} {ps:List (V × V)},Prs H ts ps→∀(i:Nat) (t:Addr),ts[i]? = some t→∃p,ps[i]? = some p∧H t=some (.tup [p.1,p.2])
 | _,_,.nil,i,t,e=>by simp at e
 | _,_,.cons h r,0,t,e=>by
   simp at e
   subst e
   exact⟨_,rfl,h⟩
 | _,_,.cons h r,i+1,t,e=>by
   obtain⟨p,e1,e2⟩:=Prs.get r i t (by simpa using e)
   exact⟨p,by simpa using e1,e2⟩
section
variable {X:Cx} {ex ey:Expr} {t:TA} {c P:Addr} {y:Str} {p1 p2 p3 p4 p5 pos pos2 lpos kp:Pos} {j:Nat} {params:Arguments} {scope:Scope}
end
end L2
namespace L2
open PySem PySem.W PySem.Spec PyProof.Rows PySem.Calls
def wz(K:Frag)(x:Str):Addr:=match tabIn K x with
 | some (_,P)=>P
 | none=>0
structure Lam (K:Frag) (x:Str) (f:Addr):Prop where
 ex:∃c,codeHdIn K c (wz K x)=true∧∃(oc:Value) (od:Option Addr) (fd:FuncData) (osl:Array (Option Value)),K.lookup f=some ⟨oc,od,.func fd,osl⟩∧fd.code=.ref c
def LamK(K:Frag)(x:Str):Prop:=(∃c,tabIn K x=some (c,wz K x))∧K.lookup (wz K x)=none
theorem lam_mk{K:Frag}{x:Str}{f c P:Addr}{oc o1:Value}{od d1:Option Addr}{fd:FuncData}{osl s1:Array (Option Value)}{vs:Array Value}(a:nsIn K mainGlobals x=some (some (.ref f)))(l:K.lookup f=some ⟨oc,od,.func fd,osl⟩)(e:fd.code=.ref c)
 (lk:K.lookup c=some ⟨o1,d1,.fields vs,s1⟩) (lv:vs[11]? = some (.ref P)) (lh:codeHdIn K c P=true) (ln:K.lookup P=none):Lam K x f∧LamK K x:=by
 have ht:tabIn K x=some (c,P):=by
  unfold tabIn
  rw[a]
  dsimp only
  rw[l]
  dsimp only
  rw[e]
  dsimp only
  rw[lk]
  dsimp only
  rw[lv]
 have hp:wz K x=P:=by unfold wz;rw[ht]
 exact⟨⟨c,by rw[hp];exact lh,oc,od,fd,osl,l,e⟩,⟨c,by rw[hp];exact ht⟩,by rw[hp];exact ln⟩
section
variable {P:Program} {w:World} {K:Frag} {mg:Str→Option Value} {base:Heap}
theorem Fun.okC{x qual y:Str}{st:Stmt}{f:Addr}{fd:FuncData}{N ps:List Str}{k:Nat}{sp:Sp}(F:Fun K x qual st f fd)(L:Lam K y f)(S:FnScope N ps (zd st))(len:∀vs H Q E,sp vs H Q E→vs.length=ps.length)
 (hbody:∀(c:Addr) (A:Around) (outer:List Env) (s:Shared) (H:Hp) (vs:List V) (Q:VK) (E:XK),codeHdIn K c (wz K y)=true→Room k (A.deeper (envOfC qual (zd st) s.heap.objs.size f (.ref c)))→sp vs H Q E →
   ∃t,PSs (zbC CX0 P w K mg base N qual (zd st) f (.ref c) A outer s H E).nox (zl st) t∧t { nx:=fun _ H'=>Q .non H',rt:=Q } (zbe N vs) H):FnOk P w K mg base CX0 (k+1) f fd ps sp:=by
 obtain⟨oc,od,kV,doc,pm,an,cdv,ct,osl,rfl,lk,hcd⟩:=F.ex
 obtain⟨c,hc,oc',od',fd',osl',lk',e⟩:=L.ex
 rw[lk] at lk'
 cases lk'
 have e:cdv=.ref c:=e
 subst e
 refine fn_of lk hcd S len fun A outer s H vs Q E hr hsp=>?_
 obtain⟨t,h,q⟩:=hbody c A outer s H vs Q E hc hr hsp
 exact⟨t,h.nox,q⟩
end
theorem law_callT{P:Program}{w:World}{K:Frag}{mg mb:Str→Option Value}{CX:CXT}{k:Nat}{fa a c T:Addr}{fd:FuncData}{x:Str}{sp:Sp}{s₁:Shared}{vs:List Value}{ns:List Int}
 (KX:K.In s₁.heap) (hns:s₁.heap.Ns mainGlobals mg) (hb:s₁.heap.Ns builtinsNs mb) (hbb:∀x:Str,x ≠ "__name__" → mb x=bootBuiltins x) (hlim:s₁.heap.NoLimit) (hbm:zd1 mg s₁.heap) (hg:s₁.gens = #[])
 (hC:CodeHd s₁.heap c T) (hT:s₁.heap.get? T=some (tabObj #[])) (hTK:K.lookup T=none)
 (ha:s₁.heap.get? a=some { cls:=.type "list",data:=.seq vs.toArray }) (hi:IntsAre vs ns) (hl:ns.length≤sizeLine) (hr:Room k callerA)
 (F:∀base:Heap,K.In base→base.Ns mainGlobals mg→zd1 mg base→FnOk P w K mg base CX k fa fd [x] sp) (hbind:∀(s:Shared) (u:Value),BindsTo s fd ⟨[u],[]⟩ [(x,u)])
 (hsp:∀H:Hp,H T=some (.tbl #[])→SqL K H a (ns.map V.int)→sp [.ref a] H (fun v _=>v=.bl true) fun _ _ _=>False)
 (hCX:∀H e s',CX [] H s₁ (fun _ _ _=>False) e s'→False) :
 codeAny (model P w) callerA (.call (.ref fa) ⟨[.ref a],[]⟩) (fun r s'=>r=.ok (.ret (.bool true))∧OldK s₁.heap s'.heap∧s'.os=s₁.os∧AllBare s'.gens) s₁:=by
 have rv:=zgB hi
 have lenV:=hi.length
 have naT:a≠T:=fun z=>by rw[z,hT] at ha;cases ha
 have core:∀H:Hp,(∀b,b≠T→H b=none∨∃o xs,H b=some (.frz o (.lst xs)))→H T=some (.tbl #[])→SqL K H a (ns.map V.int)→HOk P w H s₁.heap→(∀b,H b≠none→b=a∨b=T)→(H a≠none→K.lookup a=none) →
  codeAny (model P w) callerA (.call (.ref fa) ⟨[.ref a],[]⟩) (fun r s'=>r=.ok (.ret (.bool true))∧OldK s₁.heap s'.heap∧s'.os=s₁.os∧AllBare s'.gens) s₁:=by
  intro H hO hHT hS hok hA hK
  have base_of:∀{b:Addr} {o:Obj},s₁.heap.get? b=some o→H b=none→(zf9 s₁.heap H).get? b=some o:=fun e n=>hidT_get e n
  have noA:∀{b:Addr} {o:Obj},s₁.heap.get? b=some o→o.cls ≠ .type "list" → o.cls ≠ .none→H b=none:=fun {b o} e d d2=>by
   cases q:H b with
   | none=>rfl
   | some u =>
     rcases hA b (by rw[q];simp)with e' | e'
     ·subst e'
      rw[ha] at e;cases e
      exact absurd rfl d
     ·subst e'
      rw[hT] at e;cases e
      exact absurd rfl d2
  have noD:∀{b:Addr} {o:Obj} {es:Array DictEntry} {ep:Nat},s₁.heap.get? b=some o→o.data=.dict es ep→H b=none:=fun {b o es ep} e d=>by
   cases q:H b with
   | none=>rfl
   | some u =>
     rcases hA b (by rw[q];simp)with e' | e'
     ·subst e'
      rw[ha] at e;cases e
      have d':Data.seq vs.toArray _=Data.dict es ep:=d
      cases d'
     ·subst e'
      rw[hT] at e;cases e
      have d':Data.fields #[]=Data.dict es ep:=d
      cases d'
  have nsK:∀{b:Addr} {m:Str→Option Value},s₁.heap.Ns b m→(zf9 s₁.heap H).Ns b m:=fun {b m} ⟨o,es,ep,e,d,r⟩=>⟨o,es,ep,base_of e (noD e d),d,r⟩
  have hKb:K.In (zf9 s₁.heap H):=fun b o e=>base_of (KX b o e) (by
   cases q:H b with
   | none=>rfl
   | some u =>
     rcases hA b (by rw[q];simp)with e' | e'
     ·subst e'
      rw[hK (by rw[q];simp)] at e;cases e
     ·subst e'
      rw[hTK] at e;cases e)
  have hM:Mod K mg (zf9 s₁.heap H):=⟨hKb,nsK hns,⟨mb,nsK hb,hbb⟩,let ⟨mc,h1,h2⟩:=hlim;⟨mc,nsK h1,h2⟩⟩
  have hBM:zd1 mg (zf9 s₁.heap H):=let ⟨bm,ob,b1,b2,b3,b4,r⟩:=hbm;⟨bm,ob,b1,b2,base_of b3 (noA b3 (by rw[b4];decide) (by rw[b4];intro z;cases z)),b4,r⟩
  have e0:Env0 P w K mg (zf9 s₁.heap H) callerA [] s₁ H:=⟨rfl,hM,fun b o e=>of_hidT e,Nat.le_of_eq (zjB _ _),trivial,fun b hb=>absurd (show b∈([]:List Addr)from hb) (by simp),hok,.of_eq hg⟩
  refine codeAny_mono ((F _ hKb (nsK hns) hBM).run callerA [] s₁ H ⟨[.ref a],[]⟩ [.ref a] [.ref a] _ _ hr e0 (hbind s₁ (.ref a)) (.cons rfl .nil) (hsp H hHT hS)) fun r s' h=>?_
  cases r with
  | error e=>exact(hCX H e s' h).elim
  | ok fl =>
    cases fl with
    | next=>exact False.elim h
    | brk=>exact False.elim h
    | cont=>exact False.elim h
    | ret u =>
      obtain⟨v,H',os,bare,un,hok',r',q⟩:=h
      have q':v=.bl true:=q
      subst q'
      obtain rfl:u=Value.bool true:=r'
      obtain⟨more,eT⟩:=un.tbls T #[] hHT
      have eT2:s'.heap.get? T=some (tabObj (#[]++more)):=hok' T _ eT
      have kept:∀b o,b≠T→s₁.heap.get? b=some o→s'.heap.get? b=some o:=fun b o n e=>by
       cases q:H b with
       | none=>exact un.keep b o e q (by intro z;exact absurd (show b∈([]:List Addr)from z) (by simp)) (by simp)
       | some u =>
         rcases hO b n with z | ⟨ob,xs,z⟩
         ·rw[q] at z;cases z
         ·have z2:=un.frzs b ob _ z
          obtain⟨e1,_⟩:=hok b _ z
          obtain⟨e2,_⟩:=hok' b _ z2
          rw[e] at e1;cases e1
          exact e2
      refine⟨rfl,⟨fun b o e=>?_,fun b o e=>?_⟩,os,bare⟩
      ·by_cases n:b=T
       ·subst n
        rw[hT] at e
        cases e
        exact .inr (.inl ⟨(hC.tab hT).isCodeTable,rfl,#[],more,rfl,eT2⟩)
       ·exact .inl (kept b o n e)
      ·by_cases n:b=T
       ·subst n;exact⟨_,eT2⟩
       ·exact⟨o,kept b o n e⟩
 cases hk:K.lookup a with
 | some o =>
   have e:=KX a o hk
   rw[ha] at e
   cases e
   refine core (fun b=>if b=T then some (.tbl #[])else none) (fun b n=>.inl (if_neg n)) (if_pos rfl) (.inr ⟨_,vs.toArray,_,hk,rfl,rfl,rfl,by rw[List.size_toArray,lenV];exact hl,by simpa using rv⟩) (fun b u z=>?_) (fun b z=>?_) fun z=>absurd (if_neg naT) z
   ·by_cases hb:b=T
    ·have z':=(if_pos hb).symm.trans z
     cases z'
     subst hb
     exact hT
    ·have z':=(if_neg hb).symm.trans z
     cases z'
   ·by_cases hb:b=T
    ·exact .inr hb
    ·exact absurd (if_neg hb) z
 | none =>
   refine core (fun b=>if b=a then some (.frz { cls:=.type "list",data:=.seq vs.toArray } (.lst (ns.map V.int)))else if b=T then some (.tbl #[])else none) (fun b n=>?_) ?_ (.inl (.inr ⟨{ cls:=.type "list",data:=.seq vs.toArray },if_pos rfl⟩)) (fun b u z=>?_) (fun b z=>?_) fun _=>hk
   ·by_cases hb:b=a
    ·exact .inr ⟨_,_,if_pos hb⟩
    ·exact .inl ((if_neg hb).trans (if_neg n))
   ·exact(if_neg (Ne.symm naT)).trans (if_pos rfl)
   ·by_cases hb:b=a
    ·have z':=(if_pos hb).symm.trans z
     cases z'
     subst hb
     exact⟨ha,by rw[List.length_map];exact hl,vs,_,rv,ha⟩
    ·have z':=(if_neg hb).symm.trans z
     by_cases hc:b=T
     ·have z2:=(if_pos hc).symm.trans z'
      cases z2
      subst hc
      exact hT
     ·have z2:=(if_neg hc).symm.trans z'
      cases z2
   ·by_cases hb:b=a
    ·exact .inl hb
    ·by_cases hc:b=T
     ·exact .inr hc
     ·exact absurd ((if_neg hb).trans (if_neg hc)) z
theorem walk_ofT{l:PySem.W.OpenLaw}{n k:Nat}{q:Program}{loose:List Str}{XP:(Str→Option Value)→Heap→Prop}{YP:World→Heap→Prop}{d:DefRec}{K:Params→PySem.W.Frag}{CX:World→CXT}{sp:World→Sp}{x y:Str}
 (hn:l.most=some n) (hn2:n≤sizeLine) (hdf:d.params.defaults = []) (hr:Room k callerA) (hrec:∃dd,(recsOf q).find? (fun e=>e.name==y)=some dd)
 (hY:∀(w:World) (h:Heap),YP w h→(K w.params).In h)
 (F:∀(w:World) (mg:Str→Option Value) (fa:Addr) (h:Heap),(K w.params).In h→h.Ns mainGlobals mg→mg d.name=some (.ref fa) →
   LamK (K w.params) y∧∃fd:FuncData,(∀(s:Shared) (u:Value),BindsTo s fd ⟨[u],[]⟩ [(x,u)]) ∧
    ∀base:Heap,(K w.params).In base→base.Ns mainGlobals mg→zd1 mg base→FnOk l.prog w (K w.params) mg base (CX w) k fa fd [x] (sp w))
 (hsp:∀(w:World) (H:Hp) (a:Addr) (ns:List Int),ns.length≤n→H (wz (K w.params) y)=some (.tbl #[])→SqL (K w.params) H a (ns.map V.int)→sp w [.ref a] H (fun v _=>v=.bl true) fun _ _ _=>False)
 (hCX:∀(w:World) (H:Hp) (s:Shared) (e:Value) (s':Shared),CX w [] H s (fun _ _ _=>False) e s'→False) :
 PySem.W.WalkO q loose XP YP l.row.toRowW d [] (fun f vs=>PySem.call f vs):=by
 refine Att.attach_call hn hdf fun w s₀ s₁ mg mb fa o pm cd doc a vs ns G Y ho hd hcd hmg hobj hints hlen hg=>?_
 have KX:=hY w _ Y
 obtain⟨⟨⟨c,ht⟩,hTK⟩,fd,hb,hF⟩:=F w mg fa _ KX G.T.g hmg
 obtain⟨dd,hrec⟩:=hrec
 obtain⟨hC,hT⟩:=tab_of G.T KX hrec ht
 exact law_callT KX G.T.g G.T.b G.T.builtins G.T.nolimit G.T.bmain hg hC hT hTK hobj hints (Nat.le_trans hlen hn2) hr hF hb (fun H hO hS=>hsp w H a ns hlen hO hS) fun H e s'=>hCX w H s₁ e s'
structure CompScope2 (sc:Scope) (N:List Str) (x x2:Str) (fr:List Str) (ix:List Nat) (scope:Scope):Prop where
 kind:scope.kind=.function
 nocell:∀y∈scope.names,y.2 ≠ .cell
 lcl:∀y∈scope.names,y.2=.local→scope.names.lookup y.1=some .local
 lx:scope.names.lookup x=some .local
 lx2:scope.names.lookup x2=some .local
 free:∀y∈scope.names,y.2=.free→sc.names.lookup y.1=some .cell∨sc.names.lookup y.1=some .free
 at':fr.map some=ix.map fun i=>N[i]?
 frk:∀y∈fr,scope.names.lookup y=some .free∧(sc.names.lookup y=some .cell∨sc.names.lookup y=some .free)
 nd:(x::x2::fr).Nodup
section
variable {X:Cx} {pins:List (Addr × Obj)} {σ:St} {H:Hp} {s:Shared} {x x2:Str} {fr:List Str} {ix:List Nat} {scope:Scope} {cl:List (Str × Addr)} {fp:List Addr} {C D:Addr}
theorem blk_ok2(S:CompScope2 X.env.scope X.N x x2 fr ix scope)(I:Inv X pins σ H s)(hf:∀b∈fp,zaX X pins H b)(hfo:∀b∈fp,b<s.heap.objs.size)(hC:s.heap.objs.size≤C)
 (h1:∀y c,cl.lookup y=some c→X.env.cells.lookup y=some c) (h2:∀y,(y,NameKind.free)∈scope.names→∃c,cl.lookup y=some c):(blk X (x::x2::fr) scope cl C s H fp).Ok where
 mod:=I.ok.mod
 kind:=S.kind
 glob:=I.ok.glob
 blt:=I.ok.blt
 above:=hC
 inj:=fun y z c a b=>I.ok.inj y z c (h1 y c a) (h1 z c b)
 has:=fun y hy=>h2 y (zdO (env:=X.env) (scope:=scope) S.nocell hy)
 cab:=fun y c h _=>Bool.noConfusion (show false=true from h)
 hd:=I.ok.hd
 frames:=I.ok.frames
 stk:=.inl rfl
 exf:=fun b hb=>⟨fun z=>absurd (hfo b hb) (by rw[z];exact Nat.not_lt.mpr hC),fun y c e=>(hf b hb).2.2.2.2.1 y c (h1 y c e)⟩
 bs:=I.bs
 bsz:=Nat.le_trans I.ok.bsz I.sz
 noex:=fun b o e hb=>by
  rcases (hf b hb).2.2.2.1 with z | z
  ·exact I.ok.noex b o e z
  ·exact absurd (Nat.lt_of_lt_of_le (Heap.lt_size e) (Nat.le_trans I.ok.bsz z)) (Nat.lt_irrefl _)
 exfs:=fun b hb z=>by
  rcases List.mem_cons.mp (I.stkSub b z)with e | e
  ·exact(hf b hb).2.1 e
  ·exact(hf b hb).2.2.1 e
 funs:=I.stack
 frf:=I.stkFree
theorem CompScope2.len(S:CompScope2 X.env.scope X.N x x2 fr ix scope):fr.length=ix.length:=by have:=congrArg List.length S.at';simpa using this
theorem blk_inv2{s':Shared}{pn:List (Addr × Obj)}{m:Str→Option Value}(S:CompScope2 X.env.scope X.N x x2 fr ix scope)(I:Inv X pins σ H s)(hf:∀b∈fp,zaX X pins H b)(hfo:∀b∈fp,b<s.heap.objs.size)(hC:s.heap.objs.size≤C)
 (h1:∀y c,cl.lookup y=some c→X.env.cells.lookup y=some c) (h2:∀y,(y,NameKind.free)∈scope.names→∃c,cl.lookup y=some c)
 (ho:s'.os=s.os) (hg:s'.gens=s.gens) (k:∀b o,s.heap.get? b=some o→s'.heap.get? b=some o) (hn:s'.heap.Ns C m)
 (hp:∀p∈pn,s'.heap.get? p.1=some p.2∧s.heap.objs.size≤p.1∧p.1≠C∧∀v,p.2.data ≠ .cell v) :
 Inv (blk X (x::x2::fr) scope cl C s H fp) pn (none::none::cap ix σ) H s':=by
 obtain⟨mX,hnX,hlX⟩:=I.loc
 refine⟨blk_ok2 S I hf hfo hC h1 h2,ho,by rw[hg];exact I.bare,Un.kept k,⟨m,hn,fun i y v e1 e2 e3=>?_⟩,fun y c e=>?_,I.hok.fresh hC,fun y c e=>I.freeC y c (h1 y c e),fun p hp'=>?_,I.hok.kept k,by
  show(none::none::cap ix σ).length=(x::x2::fr).length
  simp[zjl,S.len]⟩
 ·rcases i with _ | _ | j
  ·cases e2
  ·cases e2
  ·have e1':fr[j]? = some y:=e1
   have e2':(cap ix σ)[j]? = some (some v):=e2
   obtain⟨f1,f2⟩:=S.frk y (List.mem_of_getElem? e1')
   unfold cap at e2'
   rw[List.getElem?_map] at e2'
   cases ei:ix[j]? with
   | none=>rw[ei] at e2';cases e2'
   | some i =>
     rw[ei] at e2'
     have e3':(σ[i]?).join=some v:=Option.some.inj e2'
     have e4:σ[i]? = some (some v):=by
      cases q:σ[i]? with
      | none=>rw[q] at e3';cases e3'
      | some w=>rw[q] at e3';have:w=some v:=e3';rw[this]
     have e5:X.N[i]? = some y:=by
      have:=congrArg (fun l=>l[j]?) S.at'
      simp only[List.getElem?_map,e1',ei] at this
      simpa using this.symm
     have vis:Vis X.env.scope y:=by
      rcases f2 with z | z
      ·exact .inr (.inl z)
      ·exact .inr (.inr z)
     obtain⟨u,r,l⟩:=hlX i y v e5 e4 vis
     refine⟨u,r,.inr ⟨zdU f1,?_⟩⟩
     rcases l with⟨z,_⟩ | ⟨_,c,ec,hc⟩
     ·rcases f2 with q | q
      ·have q':=(show X.env.scope.names.lookup y=some .local from z).symm.trans q;cases q'
      ·have q':=(show X.env.scope.names.lookup y=some .local from z).symm.trans q;cases q'
     ·obtain⟨c',hc'⟩:=h2 y (PySem.mem_of_lookup f1)
      have:c'=c:=by have:=h1 y c' hc';rw[ec] at this;exact(Option.some.inj this).symm
      subst this
      refine⟨c',hc',?_⟩
      obtain⟨o,ho',hd⟩:=hc
      exact⟨o,k _ _ ho',hd⟩
 ·obtain⟨v,o,ho',hd⟩:=I.cell y c (h1 y c e)
  exact⟨v,o,k _ _ ho',hd⟩
 ·have hp'':p∈pn:=by simpa [blk] using hp'
  obtain⟨q1,q2,q3,q4⟩:=hp p hp''
  refine⟨q1,I.hok.fresh q2,q3,fun z=>?_,q4⟩
  obtain⟨_,o,ho',_⟩:=I.stack.mem z
  exact absurd (Nat.lt_of_lt_of_le (Heap.lt_size ho') q2) (Nat.lt_irrefl _)
end
def zei(K:PySem.W.Frag)(J:It)(c:St)(tc:TT)(te:TE)(H1:Hp)(fin:List V→Hp→Prop):Prop :=
 ∃W:Nat→Nat→List V→Hp→Prop,(∃m,W 0 m [] H1)∧∀i m ys H,W i m ys H →
  (J.stop i H∧ys.length≤sizeLine∧fin ys H) ∨
  (J.go i H∧ys.length<sizeLine∧∃N:List V→Hp→Prop,(∀ys' H',N ys' H'→∃m',m'<m∧W (i+1) m' ys' H')∧∀x H',J.yld i H x H'→∃t a b,x=.ref t∧SqT K H' t [a,b]∧tc (some a::some b::c) H' fun d H2=>if d=true then te (some a::some b::c) H2 fun y H3=>N (ys ++ [y]) H3 else N ys H2)
def tComp2(K:PySem.W.Frag)(ix:List Nat)(wi:TI)(tc:TT)(te:TE):TE:=fun σ H Q=>wi σ H fun J H1=>zei K J (cap ix σ) tc te H1 fun ys H2=>∀l,H2 l=none→Q (.ref l) (upd H2 l (.lst ys))
section
variable {X:Cx} {x x2:Str} {fr:List Str} {ix:List Nat} {scope:Scope} {elt iter:Expr} {ifs:List Expr} {px px2 tp pos:Pos} {tk:Nat} {wi:TI} {tc:TT} {te:TE}
theorem zgp{use:Option (Value→Sem Unit)}{Q:Value→Shared→Prop}{pins:List (Addr × Obj)}{s2:Shared}{σ:St}{H2:Hp}{it:Addr}{fp:List Addr}{tn:Nat→Heap→Prop}{J:It}{cl:List (Str × Addr)}(S:CompScope2 X.env.scope X.N x x2 fr ix scope)(hc:X.calm=true)
 (hif:∀cl C s2 H2 fp,PIf (blk X (x::x2::fr) scope cl C s2 H2 fp) ifs tc) (he:∀cl C s2 H2 fp,PE (blk X (x::x2::fr) scope cl C s2 H2 fp) elt te)
 (h1:∀y c,cl.lookup y=some c→X.env.cells.lookup y=some c) (h2:∀y,(y,NameKind.free)∈scope.names→∃c,cl.lookup y=some c)
 (I2:Inv X pins σ H2 s2) (T:Turn X.prog X.w X.K (.Tuple [.Name x px,.Name x2 px2] tk tp) J fp it tn) (st2:tn 0 s2.heap) (f2:∀b∈fp,zaX X pins H2 b) {fin:List V→Hp→Prop} (wc:zei X.K J (cap ix σ) tc te H2 fin)
 (hQ:∀(D C:Addr) (ys:List V) (H':Hp) (s':Shared) (m:Str→Option Value),Inv X pins σ (upd H' D (.lst ys)) s'→H' D=none→s'.heap.Ns C m→D≠C→s2.heap.objs.size≤C→H' C=none→fin ys H' →
   compPost (model X.prog X.w) X.A X.xe use Q (.ref D) C (.ok .next) s') :
 wpAny (model X.prog X.w) X.A (newList []) (fun acc s₃=>wpAny (model X.prog X.w) X.A (newFunctionEnv scope X.env.globals cl [] X.env.qual none .none (some X.env)) (fun cenv s₄ =>
  codeAny (model X.prog X.w) X.A (.compStart (.ListComp elt [⟨.Tuple [.Name x px,.Name x2 px2] tk tp,iter,ifs,0⟩] scope pos) 0 (.ref it) acc { cenv with scope:=relabel scope X.env }) (compPost (model X.prog X.w) X.A X.xe use Q acc cenv.locals) s₄) X.xe s₃) X.xe s2:=by
 have hfo:∀b∈fp,b<s2.heap.objs.size:=fun b hb=>by
  obtain⟨o,e,_⟩:=T.obj 0 _ st2 b hb
  exact Heap.lt_size e
 refine wpAny_newObj_type (wpAny_newFunctionEnv S.nocell (by intro y hy;simp at hy) (fun h₁ hns₁ hsb₁=>?_) S.kind)
 dsimp only at hns₁ hsb₁ ⊢
 generalize hHp:s2.heap.push { cls:=.type "list",dict:=none,data:=.seq ([]:List Value).toArray }=Hp2 at hns₁ hsb₁ ⊢
 have hCs:Hp2.objs.size=s2.heap.objs.size+1:=by rw[← hHp,Heap.size_push]
 have hDC:s2.heap.objs.size≠Hp2.objs.size:=by rw[hCs];exact Nat.ne_of_lt (Nat.lt_succ_self _)
 have hCle:s2.heap.objs.size≤Hp2.objs.size:=by rw[hCs];exact Nat.le_succ _
 have zhy:∀b,b<s2.heap.objs.size→b≠Hp2.objs.size:=fun b hb=>by rw[hCs];exact Nat.ne_of_lt (Nat.lt_succ_of_lt hb)
 have old:∀b o,s2.heap.get? b=some o→h₁.get? b=some o:=fun b o e=>hsb₁.extBut b o (zhy b (Heap.lt_size e)) (Heap.get?_push_of_some _ (hHp ▸ Heap.get?_push_of_some _ e))
 have hacc:h₁.get? s2.heap.objs.size=some { cls:=.type "list",data:=.seq ([]:List Value).toArray 0 }:=hsb₁.extBut _ _ hDC (Heap.get?_push_of_some _ (hHp ▸ Heap.get?_push_size _ rfl))
 have st1:tn 0 h₁:=T.keep 0 _ _ st2 fun b _ o e=>old b o e
 have fpD:∀b∈fp,b≠s2.heap.objs.size:=fun b hb=>Nat.ne_of_lt (hfo b hb)
 generalize hD:s2.heap.objs.size=D at hacc hDC fpD ⊢
 have hDle:s2.heap.objs.size≤D:=Nat.le_of_eq hD
 generalize hC:Hp2.objs.size=C at hns₁ hsb₁ hDC hCle ⊢
 have oldD:∀b o,s2.heap.get? b=some o→b≠D:=fun b o e z=>absurd (Heap.lt_size e) (by rw[z,← hD];exact Nat.lt_irrefl _)
 obtain⟨W,⟨m0,w0⟩,turn⟩:=wc
 have loop:∀s₃:Shared,s₃={ s2 with heap:=h₁,toks:=s2.toks+([]:List (Str × Value)).length } →
  codeAny (model X.prog X.w) X.A (.compLoop (.ListComp elt [⟨.Tuple [.Name x px,.Name x2 px2] tk tp,iter,ifs,0⟩] scope pos) 0 (.ref it) (.ref D) (compEnvC scope cl C X.env))
   (compPost (model X.prog X.w) X.A X.xe use Q (.ref D) C) s₃:=by
  rintro s₃ rfl
  have I0:Inv (blk X (x::x2::fr) scope cl C s2 H2 fp) [(D,{ cls:=.type "list",data:=.seq ([]:List Value).toArray 0 })] (none::none::cap ix σ) H2 { s2 with heap:=h₁,toks:=s2.toks+([]:List (Str × Value)).length } :=
   blk_inv2 S I2 f2 hfo hCle h1 h2 rfl rfl old hns₁ (fun p hp=>by
    have e:p=(D,{ cls:=.type "list",data:=.seq ([]:List Value).toArray 0 }):=by simpa using hp
    subst e
    exact⟨hacc,hDle,hDC,fun v z=>by cases z⟩)
  have stat:∀{its:Obj} {H':Hp},(∀b∈fp,H' b=none)→∀b∈fp,zaX (blk X (x::x2::fr) scope cl C s2 H2 fp) [(D,its)] H' b:=fun {its H'} hn b hb=>by
   refine⟨hn b hb,fun z=>?_,fun z=>(I0.ok.exfs b hb z),.inl hb,fun y c e=>(I0.ok.exf b hb).2 y c e,fun p hp z=>?_⟩
   ·exact(I0.ok.exf b hb).1 z
   ·have e:p=(D,its):=by simpa [blk] using hp
    subst e
    exact fpD b hb (Eq.symm z)
  refine zdK (env:=compEnvC scope cl C X.env)
   (fun n s'=>∃i ys its k v0 v1 H',zG ys its∧Inv (blk X (x::x2::fr) scope cl C s2 H2 fp) [(D,{ cls:=.type "list",data:=.seq its.toArray k })] (v0::v1::cap ix σ) H' s'∧tn i s'.heap∧(∀b∈fp,H' b=none)∧W i n ys H') ?_ m0
   ⟨0,[],[],0,none,none,H2,.nil,I0,st1,fun b hb=>(f2 b hb).1,w0⟩
  rintro n s3 ⟨i,ys,its,k,v0,v1,H3,rv,I3,st3,fr3,w3⟩
  rcases turn i n ys H3 w3 with⟨stop,hz,hfin⟩ | ⟨go,hz,N,hN,step⟩
  ·refine thn (T.done (blk X (x::x2::fr) scope cl C s2 H2 fp) rfl rfl rfl hc i _ s3 _ H3 _ I3 (stat fr3) st3 stop) fun r s4 ⟨hr,I4⟩=>?_
   subst hr
   have pD:=I4.pin (D,{ cls:=.type "list",data:=.seq its.toArray k }) (by simp[blk])
   obtain⟨mC,hnC,_⟩:=I4.loc
   have hH3D:H3 D=none:=pD.2.1
   have hok':HOk X.prog X.w (upd H3 D (.lst ys)) s4.heap:=fun b u e=>by
    by_cases hb:b=D
    ·subst hb
     rw[zg] at e;cases e
     exact⟨hz,its,k,rv,pD.1⟩
    ·rw[zj hb] at e
     exact(I4.hok b u e).stay (fun c v _ q=>q) (fun c q=>by rw[zj (zu q hH3D)];exact q) fun c xs q=>by rw[zj (zu q hH3D)];exact q
   have b4:Un (frs X.stack) fp H2 H3 s2.heap s4.heap:=I4.base
   have un:Un (frs X.stack) fp H2 (upd H3 D (.lst ys)) s2.heap s4.heap :=
    ⟨b4.keep,b4.slot,fun b o q n hx=>by
     rw[zj (oldD b o q)];exact b4.free b o q n hx,b4.there,fun b xs q=>by rw[zj (zu (b4.tups b xs q) hH3D)];exact b4.tups b xs q,
     fun b o u q=>by rw[zj (zu (b4.frzs b o u q) hH3D)];exact b4.frzs b o u q,fun b ps q=>by
      obtain⟨more,e⟩:=b4.tbls b ps q
      exact⟨more,by rw[zj (zu e hH3D)];exact e⟩⟩
   have I5:Inv X pins σ (upd H3 D (.lst ys)) s4:=I2.call' (ch:=fp) I4.os un hok' I4.bare fun b hb=>by
    obtain⟨g0,g1,g2,g3,g4,g5⟩:=f2 b hb
    exact⟨g3,g1,g4,g5⟩
   exact hQ D C ys H3 s4 mC I5 hH3D hnC hDC hCle I4.free hfin
  ·refine thn (T.item (blk X (x::x2::fr) scope cl C s2 H2 fp) rfl rfl rfl hc i _ s3 _ H3 _ I3 (stat fr3) st3 go) fun r s4 ⟨u,hr,h4⟩=>?_
   subst hr
   refine thn h4 fun _ s5 ⟨y,H5,I5,r5,y5,st5,fr5⟩=>?_
   have I5':=I5.pinned (stat fr5) (T.obj _ _ st5)
   have pg:PG (blk X (x::x2::fr) scope cl C s2 H2 fp) (.Tuple [.Name x px,.Name x2 px2] tk tp) (gTup X.K 2 (gCons (zfQ 0) (gCons (zfQ 1) gNil))) :=
    pg_tup hc (zdX (yu S.nd rfl (.inl (lookup_relabel_local S.lx)) (.inr (lookup_relabel_local S.lx))) (zdX (yu S.nd rfl (.inl (lookup_relabel_local S.lx2)) (.inr (lookup_relabel_local S.lx2))) zjq))
   obtain⟨t5,y1,y2,ey,ht5,q5⟩:=step y _ y5
   refine thn (pg _ s5 _ H5 y u (fun σ6 H6=>σ6=some y1::some y2::cap ix σ∧H6=H5) I5' r5 ⟨t5,_,ey,ht5,rfl,_,_,rfl,_,_,rfl,rfl,rfl,rfl⟩) fun _ s6 ⟨σ6,H6,I6,e6,e6'⟩=>?_
   subst e6 e6'
   refine thn (hif cl C s2 H2 fp _ s6 _ _ _ I6 q5) fun b s7 ⟨H7,I7,q7⟩=>?_
   have again:∀{s8:Shared} {H8:Hp} {its':List Value} {k':Nat} {ys':List V},zG ys' its'→Inv (blk X (x::x2::fr) scope cl C s2 H2 fp) [(D,{ cls:=.type "list",data:=.seq its'.toArray k' })] (some y1::some y2::cap ix σ) H8 s8→(∀b∈fp,∀o,s5.heap.get? b=some o→s8.heap.get? b=some o)→(∀b∈fp,H8 b=none)→N ys' H8 →
    ∃m,m<n∧∃i ys its k v0 v1 H',zG ys its∧Inv (blk X (x::x2::fr) scope cl C s2 H2 fp) [(D,{ cls:=.type "list",data:=.seq its.toArray k })] (v0::v1::cap ix σ) H' s8∧tn i s8.heap∧(∀b∈fp,H' b=none)∧W i m ys H' :=
    fun {s8 H8 its' k' ys'} rv8 I8 kp fr8 nn=>let ⟨m',hm,w8⟩:=hN ys' H8 nn;⟨m',hm,i+1,ys',its',k',some y1,some y2,H8,rv8,I8,T.keep _ _ _ st5 kp,fr8,w8⟩
   cases b with
   | false =>
     rw[if_neg Bool.false_ne_true] at q7 ⊢
     refine again rv I7.unpinned (fun b hb o e=>(I7.pin (b,o) (by simp[blk];exact .inr (wF hb e))).1) (fun b hb=>?_) q7
     obtain⟨o,e,d⟩:=T.obj _ _ st5 b hb
     exact(I7.pin (b,o) (by simp[blk];exact .inr (wF hb e))).2.1
   | true =>
     rw[if_pos rfl] at q7 ⊢
     refine thn (he cl C s2 H2 fp _ s7 _ _ _ I7 q7) fun v s8 ⟨z,H8,I8,r8,q8⟩=>?_
     have pD:=I8.pin (D,{ cls:=.type "list",data:=.seq its.toArray k }) (by simp[blk])
     have hvl:ys.length=its.length:=rv.length
     refine append_at (hsz:=by show its.toArray.size≤sizeLine;rw[List.size_toArray];omega) pD.1 fun h₉ hs₉ hD₉=>?_
     have eo:({ cls:=.type "list",data:=.seq (its.toArray.push v) (k+1) }:Obj)={ cls:=.type "list",data:=.seq (its ++ [v]).toArray (k+1) }:=by rw[List.push_toArray]
     rw[eo] at hD₉
     have pn8:∀b∈fp,∀o,s5.heap.get? b=some o→s8.heap.get? b=some o∧H8 b=none:=fun b hb o e=>by
      have q:=I8.pin (b,o) (by simp[blk];exact .inr (wF hb e))
      exact⟨q.1,q.2.1⟩
     have J8:=I8.unpinned.pins_of (pins' := []) (fun p hp=>by cases hp)
     have f2D:zaX (blk X (x::x2::fr) scope cl C s2 H2 fp) [] H8 D:=⟨pD.2.1,pD.2.2.1,pD.2.2.2.1,.inr hDle,fun y c e z=>by
      obtain⟨v,o,ho,_⟩:=I2.cell y c (h1 y c e)
      exact oldD c o ho z,fun p hp=>by cases hp⟩
     have I9:Inv (blk X (x::x2::fr) scope cl C s2 H2 fp) [] (some y1::some y2::cap ix σ) H8 { s8 with heap:=h₉ }:=J8.turned (t':=s8.toks) (it:=D) (fun b o hb e=>(hs₉.2 b hb).trans e) f2D.1 f2D.2.1 f2D.2.2.2.1 f2D.2.2.2.2.1 f2D.2.2.2.2.2
     refine again (its':=its ++ [v]) (k':=k+1) (ys':=ys ++ [z]) (rv.append (.cons r8 .nil)) (I9.pins_of fun p hp=>?_) (fun b hb o e=>(hs₉.2 b (fpD b hb)).trans (pn8 b hb o e).1) (fun b hb=>?_) q8
     ·have e:p=(D,{ cls:=.type "list",data:=.seq (its ++ [v]).toArray (k+1) }):=by simpa using hp
      subst e
      exact⟨hD₉,f2D.1,f2D.2.1,f2D.2.2.1,fun v z=>by cases z⟩
     ·obtain⟨o,e,d⟩:=T.obj _ _ st5 b hb
      exact(pn8 b hb o e).2
 exact codeAny_compStart_list (loop _ rfl) (T.self X.A 0 _ _ _ st1 (loop _ rfl))
theorem ziv(S:CompScope2 X.env.scope X.N x x2 fr ix scope)(hc:X.calm=true)(hi:PI X (.Tuple [.Name x px,.Name x2 px2] tk tp) iter wi)(hif:∀cl C s2 H2 fp,PIf (blk X (x::x2::fr) scope cl C s2 H2 fp) ifs tc)(he:∀cl C s2 H2 fp,PE (blk X (x::x2::fr) scope cl C s2 H2 fp) elt te)
 (hs:∀x,foldedSetIterable iter X.env x=pure x:=by intro _;rfl):PE X (.ListComp elt [⟨.Tuple [.Name x px,.Name x2 px2] tk tp,iter,ifs,0⟩] scope pos) (tComp2 X.K ix wi tc te):=by
 intro pins s σ H Q I h
 obtain⟨cl,ecl,h1,h2⟩:=zcr (env:=X.env) (scope:=scope) fun y hy hf=>I.ok.has y.1 (S.free y hy hf)
 rw[eval_ListComp]
 refine wpAny_comprehension_free (use:=none) rfl hs ecl S.kind S.lcl (thn (hi pins s σ H _ I h) fun xv s1 q1=>thn q1 fun itv s2 q2=>?_)
 obtain⟨it,fp,tn,J,H2,rfl,I2,T,st2,f2,wc⟩:=q2
 refine zgp S hc hif he h1 h2 I2 T st2 f2 wc fun D C ys H' s' m I' hD hn hDC hC hHC fin=>?_
 refine⟨m,hn,fun h' sb=>⟨.ref D,upd H' D (.lst ys),?_,rfl,fin D hD⟩⟩
 have hcf:zaX X pins (upd H' D (.lst ys)) C:=by
  have z:=I2.fpOk (H':=upd H' D (.lst ys)) hC (by rw[zj (Ne.symm hDC)];exact hHC)
  exact z
 exact I'.turned (t':=s'.toks) (it:=C) (fun b o hb e=>(sb.2 b hb).trans e) hcf.1 hcf.2.1 hcf.2.2.2.1 hcf.2.2.2.2.1 hcf.2.2.2.2.2
theorem zez{i:Nat}{y:Str}{py spos:Pos}(S:CompScope2 X.env.scope X.N x x2 fr ix scope)(hc:X.calm=true)(hN:X.N.Nodup)(hiy:X.N[i]? = some y)(hy:Loc X.env.scope y)(hi:PI X (.Tuple [.Name x px,.Name x2 px2] tk tp) iter wi)(hif:∀cl C s2 H2 fp,PIf (blk X (x::x2::fr) scope cl C s2 H2 fp) ifs tc)(he:∀cl C s2 H2 fp,PE (blk X (x::x2::fr) scope cl C s2 H2 fp) elt te)
 (hsw:swapsWith (.ListComp elt [⟨.Tuple [.Name x px,.Name x2 px2] tk tp,iter,ifs,0⟩] scope pos) (some (.Name y py)) spos.line X.env=pure true:=by rfl)
 (hf:X.fn y=true∨X.env.scope.names.lookup y=some .local:=by first | exact .inl rfl | exact .inr rfl | assumption)
 (hs:∀x,foldedSetIterable iter X.env x=pure x:=by intro _;rfl) :
 PS X (.Assign [.Name y py] (.ListComp elt [⟨.Tuple [.Name x px,.Name x2 px2] tk tp,iter,ifs,0⟩] scope pos) spos) (tAsg (tComp2 X.K ix wi tc te) (zfQ i)):=by
 intro pins s σ H Dn I h
 obtain⟨cl,ecl,h1,h2⟩:=zcr (env:=X.env) (scope:=scope) fun y hy hf=>I.ok.has y.1 (S.free y hy hf)
 rw[exec_Assign_Name_used _ _ _ _ hsw]
 refine wpAny_bind (wpAny_standAt (wpAny_bind ?_))
 show wpAny _ X.A (do let _ ← comprehension (.ListComp elt [⟨.Tuple [.Name x px,.Name x2 px2] tk tp,iter,ifs,0⟩] scope pos) scope X.env _ (newList []) false (eval iter X.env) (some (assign (.Name y py) X.env))) _ _ s
 refine wpAny_bind (thn (Q:=fun _ s'=>SP X pins Dn .next s') ?_ fun _ s' q=>wpAny_pure (wpAny_pure q))
 refine wpAny_comprehension_free (use:=some (assign (.Name y py) X.env)) rfl hs ecl S.kind S.lcl (thn (hi pins s σ H _ I h) fun xv s1 q1=>thn q1 fun itv s2 q2=>?_)
 obtain⟨it,fp,tn,J,H2,rfl,I2,T,st2,f2,wc⟩:=q2
 refine zgp S hc hif he h1 h2 I2 T st2 f2 wc fun D C ys H' s' m I' hD hn hDC hC hHC fin=>?_
 have hcf:zaX X pins (upd H' D (.lst ys)) C:=I2.fpOk (H':=upd H' D (.lst ys)) hC (by rw[zj (Ne.symm hDC)];exact hHC)
 show wpAny _ X.A (assign (.Name y py) X.env (.ref D)) _ _ s'
 refine wpAny_assign_Name (zej (v:=V.ref D) I' hN hiy hy rfl (fun s'' I'' hsb=>?_) hf)
 obtain⟨a,sb,ha⟩:=hsb
 have hCa:C≠a:=fun z=>by
  rcases ha with q | q
  ·exact hcf.2.1 (z.trans q)
  ·exact hcf.2.2.2.2.1 y a q z.symm
 refine⟨m,hn.sameBut sb hCa,fun h' sb'=>⟨_,_,I''.turned (t':=s''.toks) (it:=C) (fun b o hb e=>(sb'.2 b hb).trans e) hcf.1 hcf.2.1 hcf.2.2.2.1 hcf.2.2.2.2.1 hcf.2.2.2.2.2,fin D hD⟩⟩
end
end L2
namespace L2
open PySem PySem.W PySem.Spec PyProof.Rows PySem.Calls
section
variable {X:Cx} {pins:List (Addr × Obj)} {σ:St} {H:Hp} {s:Shared} {h':Heap} {t':Nat} {ch:List Addr}
theorem Inv.movedF(I:Inv X pins σ H s)(o:∀c∈ch,zaX X pins H c)(k:∀b u,b∉ch→s.heap.get? b=some u→h'.get? b=some u):Inv X pins σ H { s with heap:=h',toks:=t' }:=by
 have nit:∀b u,H b=some u→b∉ch:=fun b u e z=>by rw[(o b z).1] at e;cases e
 have nL:X.env.locals∉ch:=fun z=>(o _ z).2.1 rfl
 refine I.step (g':=s.gens) (d':=s.drawn) (ch:=ch) (fun b hb=>⟨(o b hb).2.2.2.1,(o b hb).2.1,(o b hb).2.2.2.2.1,(o b hb).2.2.2.2.2⟩) (fun b u _ _ hc e _=>k b u hc e) (fun b u _ _ hc e _=>⟨u.slots,k b u hc e⟩)
  (fun _ _ _ _ n=>n) (fun b u hc e=>⟨u,k b u hc e⟩) (fun _ _ e=>e) (fun _ _ _ e=>e) (fun b ps e=>⟨#[],by rw[e];simp⟩) (fun m hm=>?_) (fun b u e=>?_) I.bare
 ·obtain⟨ob,es,ep,ho,r⟩:=hm
  exact⟨ob,es,ep,k _ ob nL ho,r⟩
 ·refine(I.hok b u e).stay (fun c v hc q=>k c v ?_ q) (fun _ q=>q) fun _ _ q=>q
  rcases hc with z | z
  ·rw[z];exact nit b u e
  ·exact nit c _ z
theorem Inv.movedFT{T:Addr}{v:HO}(I:Inv X pins σ H s)(o:∀c∈ch,zaX X pins H c)(k:∀b u,b∉ch→s.heap.get? b=some u→h'.get? b=some u)(hT:s.heap.objs.size≤T)(new:y9 X.prog X.w (upd H T v) h' T v):
 Inv X pins σ (upd H T v) { s with heap:=h',toks:=t' }:=by
 have hf:H T=none:=I.hok.fresh hT
 have nit:∀b u,H b=some u→b∉ch:=fun b u e z=>by rw[(o b z).1] at e;cases e
 have nL:X.env.locals∉ch:=fun z=>(o _ z).2.1 rfl
 have up:∀b u,H b=some u→upd H T v b=some u:=fun b u e=>by rw[zj (zu e hf)];exact e
 refine I.step (g':=s.gens) (d':=s.drawn) (ch:=ch) (fun b hb=>⟨(o b hb).2.2.2.1,(o b hb).2.1,(o b hb).2.2.2.2.1,(o b hb).2.2.2.2.2⟩) (fun b u _ _ hc e _=>k b u hc e) (fun b u _ _ hc e _=>⟨u.slots,k b u hc e⟩)
  (fun b u _ e n=>?_) (fun b u hc e=>⟨u,k b u hc e⟩) (fun b _ e=>up b _ e) (fun b _ _ e=>up b _ e) (fun b ps e=>⟨#[],by rw[up b _ e];simp⟩) (fun m hm=>?_) (fun b u e=>?_) I.bare
 ·rw[zj (fun z=>by rw[z] at e;exact absurd (Heap.lt_size e) (Nat.not_lt.mpr hT))];exact n
 ·obtain⟨ob,es,ep,ho,r⟩:=hm
  exact⟨ob,es,ep,k _ ob nL ho,r⟩
 ·by_cases hb:b=T
  ·subst hb
   rw[zg] at e
   cases e
   exact new
  ·rw[zj hb] at e
   refine(I.hok b u e).stay (fun c w hc q=>k c w ?_ q) (fun c q=>up c _ q) fun c _ q=>up c _ q
   rcases hc with z | z
   ·rw[z];exact nit b u e
   ·exact nit c _ z
end
def Itz(K:Frag)(l1 l2:Addr):It :=
 ⟨fun i H=>∃xs ys x y,SqL K H l1 xs∧SqL K H l2 ys∧xs[i]? = some x∧ys[i]? = some y,
  fun i H v H'=>∃t x y,v=.ref t∧H t=none∧H'=upd H t (.tup [x,y])∧(∀xs,SqL K H l1 xs→xs[i]? = some x)∧∀ys,SqL K H l2 ys→ys[i]? = some y,
  fun i H=>∃xs ys,SqL K H l1 xs∧SqL K H l2 ys∧(xs.length≤i∨ys.length≤i)⟩
theorem turn_zip{P:Program}{w:World}{K:Frag}{elts:List Expr}{k:Nat}{pos:Pos}{z TI TO i1 i2 l1 l2:Addr}(D:ZipApart z TI TO i1 i2 l1 l2):
 Turn P w K (.Tuple elts k pos) (Itz K l1 l2) [z,TI,TO,i1,i2] z (fun i h=>IsZip h z TI TO .none∧IsPair h TI (.ref i1) (.ref i2)∧(∃a b,IsPair h TO a b)∧h.IsListIter i1 l1 i∧h.IsListIter i2 l2 i) where
 mem:=by simp
 obj:=fun i h st b hb=>by
  obtain⟨a1,a2,⟨_,_,a3⟩,⟨o4,e4,c4,d4⟩,⟨o5,e5,c5,d5⟩⟩:=st
  simp only[List.mem_cons,List.not_mem_nil,or_false] at hb
  rcases hb with rfl | rfl | rfl | rfl | rfl
  ·exact⟨_,a1,fun v z=>by cases z⟩
  ·exact⟨_,a2,fun v z=>by cases z⟩
  ·exact⟨_,a3,fun v z=>by cases z⟩
  ·exact⟨_,e4,fun v z=>by rw[d4] at z;cases z⟩
  ·exact⟨_,e5,fun v z=>by rw[d5] at z;cases z⟩
 keep:=fun i h h' st k=>by
  obtain⟨a1,a2,⟨a,b,a3⟩,a4,a5⟩:=st
  exact⟨k _ (by simp) _ a1,k _ (by simp) _ a2,⟨a,b,k _ (by simp) _ a3⟩,a4.at fun o e=>k _ (by simp) o e,a5.at fun o e=>k _ (by simp) o e⟩
 item:=by
  intro X hP hw hK hc i pins s σ H E I hf st hg
  subst hP hw hK
  obtain⟨xs,ys,x,y,q1,q2,hx,hy⟩:=hg
  obtain⟨hz,hTI,⟨a,b,hTO⟩,h1,h2⟩:=st
  obtain⟨us,r1,p1,z1⟩:=I.list q1
  obtain⟨vs,r2,p2,z2⟩:=I.list q2
  obtain⟨u,hu,ru⟩:=r1.get hx
  obtain⟨v,hv,rv⟩:=r2.get hy
  have nTI:TI ∉ [z,TO,i1,i2]:=by simp[D.TIz,D.TITO,D.TIi1,D.TIi2]
  have ff:∀c ∈ [z,TO,i1,i2],zaX X pins H c:=fun c hc=>hf c (by simp only[List.mem_cons,List.not_mem_nil,or_false] at hc ⊢;rcases hc with e | e | e | e <;> simp[e])
  refine wpAny_pyNext_zip_item D hz hTI hTO h1 h2 p1.isList p2.isList (by simpa using hu) (by simpa using hv) fun h' a1 a2 a3 a4 a5 a6 hk=>?_
  have kk:∀c o,c ∉ [z,TO,i1,i2]→s.heap.get? c=some o→h'.get? c=some o:=fun c o hc e=>hk c o (fun w=>hc (by simp[w])) (fun w=>hc (by simp[w])) (fun w=>hc (by simp[w])) (fun w=>hc (by simp[w])) e
  have I1:Inv X pins σ (upd H s.heap.objs.size (.tup [x,y])) { s with heap:=h' }:=I.movedFT (t':=s.toks) ff kk (Nat.le_refl _) ⟨by show 2≤sizeLine;decide,[u,v],.cons ru (.cons rv .nil),_,a5,rfl,_,rfl⟩
  refine⟨_,rfl,wpAny_letOwnedTupleGo_zip a1 fun h2' hz' hs'=>?_⟩
  have lt:∀c ∈ [z,TI,TO,i1,i2],c≠s.heap.objs.size:=fun c hc=>by
   have:∃o,s.heap.get? c=some o:=by
    simp only[List.mem_cons,List.not_mem_nil,or_false] at hc
    rcases hc with rfl | rfl | rfl | rfl | rfl
    ·exact⟨_,hz⟩
    ·exact⟨_,hTI⟩
    ·exact⟨_,hTO⟩
    ·obtain⟨o,e,_⟩:=h1;exact⟨o,e⟩
    ·obtain⟨o,e,_⟩:=h2;exact⟨o,e⟩
   obtain⟨o,e⟩:=this
   exact Nat.ne_of_lt (Heap.lt_size e)
  have fz:zaX X pins (upd H s.heap.objs.size (.tup [x,y])) z:=by
   obtain⟨f0,f1⟩:=hf z (by simp)
   exact⟨by rw[zj (lt z (by simp))];exact f0,f1⟩
  have I2:Inv X pins σ (upd H s.heap.objs.size (.tup [x,y])) { s with heap:=h2' }:=Inv.movedF (s:={ s with heap:=h' }) (t':=s.toks) (ch := [z]) I1 (fun c hc=>by rw[List.mem_singleton.mp hc];exact fz) fun c o hc e=>hs'.extBut c o (fun w=>hc (by simp[w])) e
  refine⟨.ref s.heap.objs.size,_,I2,rfl,⟨_,x,y,rfl,I.hok.fresh (Nat.le_refl _),rfl,fun xs' q=>?_,fun ys' q=>?_⟩,⟨hz',hs'.extBut _ _ D.TIz (kk _ _ nTI hTI),⟨_,_,hs'.extBut _ _ D.TOz a2⟩,a3.extBut hs'.extBut D.i1z,a4.extBut hs'.extBut D.i2z⟩,fun c hc=>?_⟩
  ·rw[I.list_inj q q1];exact hx
  ·rw[I.list_inj q q2];exact hy
  ·rw[zj (lt c hc)];exact(hf c hc).1
 done:=by
  intro X hP hw hK hc i pins s σ H E I hf st hg
  subst hP hw hK
  obtain⟨xs,ys,q1,q2,hend⟩:=hg
  obtain⟨hz,hTI,⟨a,b,hTO⟩,h1,h2⟩:=st
  obtain⟨us,r1,p1,z1⟩:=I.list q1
  obtain⟨vs,r2,p2,z2⟩:=I.list q2
  have l1':=r1.length
  have l2':=r2.length
  have ff:∀c ∈ [z,TO,i1,i2],zaX X pins H c:=fun c hc=>hf c (by simp only[List.mem_cons,List.not_mem_nil,or_false] at hc ⊢;rcases hc with e | e | e | e <;> simp[e])
  refine wpAny_pyNext_zip_end (I.ok.hd hc) D hz hTI hTO h1 h2 p1.isList p2.isList ?_ fun h' hk=>⟨rfl,I.movedF (t':=s.toks) ff fun c o hc e=>hk c o (fun w=>hc (by simp[w])) (fun w=>hc (by simp[w])) (fun w=>hc (by simp[w])) (fun w=>hc (by simp[w])) e⟩
  rcases hend with h | h
  ·exact .inl (by simp;omega)
  ·exact .inr (by simp;omega)
 self:=fun _ _ _ _ _ st h=>wpAny_pyIter_zip st.1 h
def iZip(K:Frag)(ta:TA):TI:=fun σ H R=>ta σ H fun vs H1=>∃l1 l2 xs ys,vs = [.ref l1,.ref l2]∧SqL K H1 l1 xs∧SqL K H1 l2 ys∧R (Itz K l1 l2) H1
section
variable {X:Cx} {ex ey:Expr} {t:TA} {p pos tp:Pos} {elts:List Expr} {tk:Nat}
theorem pi_zip(hg:Gl X "zip")(hm:X.mg "zip" = none)(ha:PA X [ex,ey] t)(he:starEach [ex,ey] X.env=(false,eval ex X.env)::starEach [ey] X.env:=by rfl)(hpl:(backTo pos (starEach [ey] X.env)).any (·.1)=false:=by rfl):
 PI X (.Tuple elts tk tp) (.Call (.Name "zip" p) [ex,ey] [] pos) (iZip X.K t):=by
 intro pins s σ H R I h
 refine wpAny_Call_Name_kw (za9 I hg hm boot_zip ?_ (by decide) (by decide))
 refine PyProof.Rows.callWith_type1 (thn (ha pos pins s σ H _ I h) fun us s1 hh=>?_) he hpl
 obtain⟨vs,H1,I1,r1,l1,l2,xs,ys,rfl,q1,q2,q⟩:=hh
 cases r1 with
 | cons e1 r=>cases r with
   | cons e2 r =>
     cases r
     cases e1
     cases e2
     obtain⟨us,r1,p1,_⟩:=I1.list q1
     obtain⟨ws,r2,p2,_⟩:=I1.list q2
     have b1:=p1.isList
     have b2:=p2.isList
     have t1:l1<s1.heap.objs.size:=by obtain⟨u,hu,_⟩:=b1;exact Heap.lt_size hu
     have t2:l2<s1.heap.objs.size:=by obtain⟨u,hu,_⟩:=b2;exact Heap.lt_size hu
     refine call_zip_2 b1 b2 fun h' hz hTI hTO hi1 hi2 hsz hk=>?_
     have n:∀(l:Addr) (d:Nat),l<s1.heap.objs.size→l≠s1.heap.objs.size+d:=fun l d h=>Nat.ne_of_lt (Nat.lt_of_lt_of_le h (Nat.le_add_right _ _))
     have m:∀d e:Nat,d≠e→s1.heap.objs.size+d≠s1.heap.objs.size+e:=fun d e h w=>h (Nat.add_left_cancel w)
     refine wpAny_pyIter_zip hz ?_
     refine⟨s1.heap.objs.size+4,[s1.heap.objs.size+4,s1.heap.objs.size+2,s1.heap.objs.size+3,s1.heap.objs.size+0,s1.heap.objs.size+1],_,Itz X.K l1 l2,H1,rfl,I1.kept (t':=s1.toks) hk,
      turn_zip (i1:=s1.heap.objs.size+0) (i2:=s1.heap.objs.size+1) (TI:=s1.heap.objs.size+2) (TO:=s1.heap.objs.size+3) (l1:=l1) (l2:=l2) ⟨m 2 4 (by decide),m 3 4 (by decide),m 0 4 (by decide),m 1 4 (by decide),m 2 3 (by decide),m 2 0 (by decide),m 2 1 (by decide),m 3 0 (by decide),m 3 1 (by decide),m 0 1 (by decide),n _ 4 t1,n _ 3 t1,n _ 0 t1,n _ 1 t1,n _ 4 t2,n _ 3 t2,n _ 0 t2,n _ 1 t2⟩,
      ⟨hz,hTI,⟨_,_,hTO⟩,hi1,hi2⟩,fun b hb=>?_,q⟩
     have hb':∃d,b=s1.heap.objs.size+d:=by
      simp only[List.mem_cons,List.not_mem_nil,or_false] at hb
      rcases hb with w | w | w | w | w
      ·exact⟨4,w⟩
      ·exact⟨2,w⟩
      ·exact⟨3,w⟩
      ·exact⟨0,w⟩
      ·exact⟨1,w⟩
     obtain⟨d,rfl⟩:=hb'
     exact I1.fpOk (Nat.le_add_right _ _) (I1.hok.fresh (Nat.le_add_right _ _))
end
theorem for_zip{K:Frag}{l1 l2:Addr}{xs ys:List V}{g:TG}{tb:TS}{D:Ends}{σ:St}{H:Hp}(Pv:Nat→St→Hp→Prop)(h0:Pv 0 σ H)(hl:∀i σ H,i≤min xs.length ys.length→Pv i σ H→SqL K H l1 xs∧SqL K H l2 ys)
 (hs:∀i x y t σ H,xs[i]? = some x→ys[i]? = some y→H t=none→Pv i σ H→g (.ref t) σ (upd H t (.tup [x,y])) fun σ2 H2=>tb { D with nx:=Pv (i+1),ct:=Pv (i+1),bk:=D.nx } σ2 H2) (hd:∀σ H,Pv (min xs.length ys.length) σ H→D.nx σ H) :
 ∃W:Nat→Nat→St→Hp→Prop,(∃m,W 0 m σ H)∧∀i m σ H,W i m σ H →
  ((Itz K l1 l2).stop i H∧D.nx σ H)∨((Itz K l1 l2).go i H∧∃N:St→Hp→Prop,(∀σ' H',N σ' H'→∃m',m'<m∧W (i+1) m' σ' H')∧∀x H',(Itz K l1 l2).yld i H x H'→g x σ H' fun σ2 H2=>tb { D with nx:=N,ct:=N,bk:=D.nx } σ2 H2):=by
 refine⟨fun i m σ H=>m=min xs.length ys.length - i∧i≤min xs.length ys.length∧Pv i σ H,⟨min xs.length ys.length,by simp,Nat.zero_le _,h0⟩,?_⟩
 rintro i m σ H ⟨rfl,hi,p⟩
 obtain⟨q1,q2⟩:=hl i σ H hi p
 by_cases hlt:i<min xs.length ys.length
 ·have h1:i<xs.length:=by omega
  have h2:i<ys.length:=by omega
  refine .inr ⟨⟨xs,ys,xs[i],ys[i],q1,q2,by simp[h1],by simp[h2]⟩,Pv (i+1),fun σ' H' p'=>⟨min xs.length ys.length - (i+1),by omega,rfl,hlt,p'⟩,fun v H' y=>?_⟩
  obtain⟨t,x,y,rfl,hn,rfl,e1,e2⟩:=y
  exact hs i x y t σ _ (e1 xs q1) (e2 ys q2) hn p
 ·have e:i=min xs.length ys.length:=by omega
  subst e
  exact .inl ⟨⟨xs,ys,q1,q2,by omega⟩,hd σ H p⟩
end L2
namespace L2
open PySem PySem.W PySem.Spec PyProof.Rows
theorem ziI{K:Frag}{a:Addr}{xs:List V}{c:St}{tc:TT}{te:TE}{H:Hp}{fin:List V→Hp→Prop}(Pv:Nat→List V→Hp→Prop)(h0:Pv 0 [] H)(hl:∀i ys H,i≤xs.length→Pv i ys H→SqL K H a xs∧ys.length≤i)(hz:xs.length≤sizeLine)
 (hs:∀i x ys H,xs[i]? = some x→Pv i ys H→∃t u v,x=.ref t∧SqT K H t [u,v]∧tc (some u::some v::c) H fun b H2=>if b=true then te (some u::some v::c) H2 fun y H3=>Pv (i+1) (ys ++ [y]) H3 else Pv (i+1) ys H2) (hd:∀ys H,Pv xs.length ys H→fin ys H):zei K (Itl K a) c tc te H fin:=by
 refine⟨fun i m ys H=>m=xs.length - i∧i≤xs.length∧Pv i ys H,⟨xs.length,by simp,Nat.zero_le _,h0⟩,?_⟩
 rintro i m ys H ⟨rfl,hi,p⟩
 obtain⟨q,hy⟩:=hl i ys H hi p
 by_cases hlt:i<xs.length
 ·refine .inr ⟨⟨xs,xs[i],q,by simp[hlt]⟩,by omega,fun ys' H'=>Pv (i+1) ys' H',fun ys' H' p'=>⟨xs.length - (i+1),by omega,rfl,hlt,p'⟩,fun x H' y=>?_⟩
  obtain⟨e,y⟩:=y
  subst e
  exact hs i x ys _ (y xs q) p
 ·have e:i=xs.length:=by omega
  subst e
  exact .inl ⟨⟨xs,q,Nat.le_refl _⟩,by omega,hd ys H p⟩
theorem zet{K:Frag}{a:Addr}{xs:List V}{c:St}{te:TE}{H:Hp}{fin:List V→Hp→Prop}(Pv:Nat→List V→Hp→Prop)(h0:Pv 0 [] H)(hl:∀i ys H,i≤xs.length→Pv i ys H→SqL K H a xs∧ys.length≤i)(hz:xs.length≤sizeLine)
 (hs:∀i x ys H,xs[i]? = some x→Pv i ys H→∃t u v,x=.ref t∧SqT K H t [u,v]∧te (some u::some v::c) H fun y H3=>Pv (i+1) (ys ++ [y]) H3) (hd:∀ys H,Pv xs.length ys H→fin ys H):zei K (Itl K a) c zhH te H fin :=
 ziI Pv h0 hl hz (fun i x ys H e p=>let ⟨t,u,v,e1,e2,h⟩:=hs i x ys H e p;⟨t,u,v,e1,e2,zf4 (B:=Pv (i+1) ys H) h⟩) hd
end L2
namespace L2
open PySem PySem.W PySem.Spec PyProof.Rows PySem.Calls
def wy(P:Addr)(q:Str)(H:Hp):Prop:=∃ps,H P=some (.tbl ps)∧TriplesOk ps.toList∧∀pos cv,codeAmong pos ps.toList=some cv→∃c',cv=.ref c'∧H c'=some (zeE c' q)
theorem wy.new{P:Addr}{q:Str}{H:Hp}(h:H P=some (.tbl #[])):wy P q H:=⟨#[],h,trivial,fun pos cv e=>by simp[codeAmong] at e⟩
theorem wy.same{P:Addr}{q:Str}{H H':Hp}(h:wy P q H)(s:zi H H'):wy P q H':=by
 obtain⟨ps,h1,h2,h3⟩:=h
 exact⟨ps,s _ _ h1,h2,fun pos cv e=>let ⟨c',e1,e2⟩:=h3 pos cv e;⟨c',e1,s _ _ e2⟩⟩
def zaY:Str:=Str.ofString "by_place" ++ ".<locals>." ++ "<lambda>"
theorem ziY{pos:Pos}{a b:Int}{c x:Value}:∀(l:List Value),TriplesOk l→codeAmong pos (l ++ [rawInt a,rawInt b,c])=some x→codeAmong pos l=some x∨x=c:=by
 intro l h e
 fun_induction TriplesOk l with
 | case1 =>
   simp only[List.nil_append,codeAmong,rawInt] at e
   split at e
   ·cases e;exact .inr rfl
   ·cases e
 | case2 a' t b' u y zcO ih =>
   simp only[List.cons_append,codeAmong] at e ⊢
   split at e
   ·rename_i hc;rw[if_pos hc];exact .inl e
   ·rename_i hc;rw[if_neg hc];exact ih h e
 | case3=>exact h.elim
section
variable {X:Cx} {pins:List (Addr × Obj)} {σ:St} {H:Hp} {s:Shared} {E:Value→Shared→Prop}
theorem lam_eval2{params:Arguments}{body:Expr}{scope:Scope}{pos:Pos}{c P:Addr}{Q:Value→Shared→Prop}(I:Inv X pins σ H s)(hL:wy P (X.env.qual ++ "<lambda>") H)(hcode:X.env.code=.ref c)(C:CodeHd X.base c P)(B:zd1 X.mg X.base)
 (hdef:defaultsOf params X.env=([],[])) (hcl:closureFor scope X.env=pure [])
 (q:∀(f c':Addr) (pm ctv:Value) (H3:Hp) (s':Shared),(∀b u,b≠P→s.heap.get? b=some u→s'.heap.get? b=some u)→s.heap.objs.size≤s'.heap.objs.size →
   (∀a,a<s.heap.objs.size→a≠P→H3 a=H a)→H3 f=some (fnO f (kla_obj "<lambda>" (X.env.qual ++ "<lambda>") params body scope [] pm c' ctv))→H3 c'=some (zeE c' (X.env.qual ++ "<lambda>"))→yx H H3→wy P (X.env.qual ++ "<lambda>") H3→Inv X pins σ H3 s'→Q (.ref f) s') :
 wpAny (model X.prog X.w) X.A (eval (.Lambda params body scope pos) X.env) Q E s:=by
 obtain⟨ps,hP,ht,hh⟩:=hL
 have hb:∀b o,X.base.get? b=some o→b≠P:=fun b o e z=>by have:=(I.bs b o e).2;rw[z,hP] at this;cases this
 have hPg:s.heap.get? P=some (tabObj ps):=I.hok P _ hP
 have hPs:P<s.heap.objs.size:=I.hok.lt hP
 obtain⟨bm,ob,b1,b2,b3,b4,b5,b6⟩:=B
 have hG:mainGlobals≠P:=by obtain⟨o,_,_,e,_⟩:=I.mod.glob;exact hb _ o e
 have hbG:bm≠mainGlobals:=fun z=>by
  obtain⟨o,es,ep,e,hd,_⟩:=I.mod.glob
  rw[z,e] at b3;cases b3;rw[hd] at b6;cases b6
 cases hA:codeAmong pos ps.toList with
 | none =>
   refine kla_eval hdef (kla_makeFunction (ps:=ps) (mg:=X.mg) hcl I.ok.glob (I.mod.glob.keeps I.bk) hcode (C.keeps I.bk) hPg ht hA hG ⟨bm,ob,b1,b2,hbG,hb _ _ b3,I.bk _ _ b3,b4,b5,b6⟩ fun c' ctv h' tk hx hge hlt hrec htb=>?_)
   have J:=I.lam (tk:=tk) (fo:=kla_obj "<lambda>" (X.env.qual ++ "<lambda>") params body scope [] ((X.mg "__name__").getD .none) c' ctv) rfl hP hx hge hlt hrec htb
   have nPc:P≠c':=Nat.ne_of_lt (Nat.lt_of_lt_of_le hPs hge)
   have ncf:c'≠h'.objs.size:=Nat.ne_of_lt hlt
   have nPf:P≠h'.objs.size:=Nat.ne_of_lt (Nat.lt_trans (Nat.lt_of_lt_of_le hPs hge) hlt)
   have old:∀a,a<s.heap.objs.size→a≠P→(upd (upd (upd H P (.tbl (ps ++ #[rawInt ↑pos.line,rawInt ↑pos.col,Value.ref c']))) c' (zeE c' (X.env.qual ++ "<lambda>"))) h'.objs.size (fnO h'.objs.size (kla_obj "<lambda>" (X.env.qual ++ "<lambda>") params body scope [] ((X.mg "__name__").getD .none) c' ctv))) a=H a:=fun a h1 h2=>by
    rw[zj (Nat.ne_of_lt (Nat.lt_trans (Nat.lt_of_lt_of_le h1 hge) hlt)),zj (Nat.ne_of_lt (Nat.lt_of_lt_of_le h1 hge)),zj h2]
   have atP:(upd (upd (upd H P (.tbl (ps ++ #[rawInt ↑pos.line,rawInt ↑pos.col,Value.ref c']))) c' (zeE c' (X.env.qual ++ "<lambda>"))) h'.objs.size (fnO h'.objs.size (kla_obj "<lambda>" (X.env.qual ++ "<lambda>") params body scope [] ((X.mg "__name__").getD .none) c' ctv))) P=some (.tbl (ps ++ #[rawInt ↑pos.line,rawInt ↑pos.col,Value.ref c'])):=by rw[zj nPf,zj nPc,zg]
   have hcc:(upd (upd (upd H P (.tbl (ps ++ #[rawInt ↑pos.line,rawInt ↑pos.col,Value.ref c']))) c' (zeE c' (X.env.qual ++ "<lambda>"))) h'.objs.size (fnO h'.objs.size (kla_obj "<lambda>" (X.env.qual ++ "<lambda>") params body scope [] ((X.mg "__name__").getD .none) c' ctv))) c'=some (zeE c' (X.env.qual ++ "<lambda>")):=by rw[zj ncf,zg]
   refine q h'.objs.size c' ((X.mg "__name__").getD .none) ctv _ _ (fun b u n e=>Heap.get?_push_of_some _ (hx b u n e)) ?_ old zg hcc ⟨fun b u e n=>?_,fun b qs e=>?_⟩ ⟨_,atP,?_,fun pos' cv e=>?_⟩ J
   ·show s.heap.objs.size≤(h'.push _).objs.size
    rw[Heap.size_push]
    exact Nat.le_of_lt (Nat.lt_of_le_of_lt hge (Nat.lt_succ_of_lt hlt))
   ·rw[old b (I.hok.lt e) (fun w=>by rw[w,hP] at e;cases e;exact n _ rfl)];exact e
   ·by_cases hb:b=P
    ·subst hb
     exact⟨_,atP⟩
    ·exact⟨qs,by rw[old b (I.hok.lt e) hb];exact e⟩
   ·rw[Array.toList_append]
    exact TriplesOk_snoc _ _ _ _ ht
   ·rw[Array.toList_append] at e
    rcases ziY _ ht e with e | rfl
    ·obtain⟨c2,e1,e2⟩:=hh pos' cv e
     exact⟨c2,e1,by rw[old c2 (I.hok.lt e2) (fun w=>by rw[w,hP] at e2;cases e2)];exact e2⟩
    ·exact⟨c',rfl,hcc⟩
 | some cv =>
   obtain⟨c',rfl,hcc⟩:=hh pos cv hA
   refine kla_eval hdef (kla_makeFunctionHit (ps:=ps) (mg:=X.mg) hcl I.ok.glob (I.mod.glob.keeps I.bk) hcode (C.keeps I.bk) hPg ht hA ⟨bm,ob,b1,b2,hbG,hb _ _ b3,I.bk _ _ b3,b4,b5,b6⟩ fun ctv h' tk hk hsz=>?_)
   have hn:H h'.objs.size=none:=I.hok.fresh hsz
   have J:Inv X pins σ (upd H h'.objs.size (fnO h'.objs.size (kla_obj "<lambda>" (X.env.qual ++ "<lambda>") params body scope [] ((X.mg "__name__").getD .none) c' ctv))) { s with heap:=h'.push (kla_obj "<lambda>" (X.env.qual ++ "<lambda>") params body scope [] ((X.mg "__name__").getD .none) c' ctv),toks:=tk } :=
    I.laid (t':=tk) (fun b u e=>Heap.get?_push_of_some _ (hk b u e)) hsz ⟨Heap.get?_push_size _ rfl,⟨_,Heap.get?_push_size _ rfl⟩,fun h1 h2 a b=>b _ a⟩
   refine q h'.objs.size c' ((X.mg "__name__").getD .none) ctv _ _ (fun b u n e=>Heap.get?_push_of_some _ (hk b u e)) ?_ (fun a h1 h2=>zj (Nat.ne_of_lt (Nat.lt_of_lt_of_le h1 hsz))) zg ((zi.new hn) _ _ hcc) (zi.new hn).toN (wy.same ⟨ps,hP,ht,hh⟩ (zi.new hn)) J
   show s.heap.objs.size≤(h'.push _).objs.size
   rw[Heap.size_push]
   exact Nat.le_succ_of_le hsz
end
def tSZ2(K:Frag)(P:Addr)(qq:Str)(t:TA):TE:=fun σ H Q=>t σ H fun vs H1=>∃(l1 l2:Addr) (xs:List Int) (yv:List V),vs = [.ref l1,.ref l2]∧SqL K H1 l1 (xs.map V.int)∧SqL K H1 l2 yv∧xs.length=yv.length∧0<xs.length∧xs.length<64∧wy P qq H1 ∧
 ∀(H2:Hp) (ts:List Addr) (l:Addr) (p:Array Nat),yx H1 H2→wy P qq H2→Prs H2 ts ((xs.map V.int).zip yv)→H2 l=none→M14.I (fun k=>xs.getD k 0) xs.length p xs.length→Q (.ref l) (upd H2 l (.lst (p.toList.map fun i=>V.ref (ts.getD i 0))))
section
variable {X:Cx} {ex ey:Expr} {t:TA} {c P:Addr} {y:Str} {p1 p2 p3 p4 p5 pos pos2 lpos kp:Pos} {j:Nat} {params:Arguments} {scope:Scope}
theorem zjC{qq:Str}(hqq:X.env.qual ++ "<lambda>" = qq)(hr:Room 3 X.A)(hg1:Gl X "sorted")(hm1:X.mg "sorted" = none)(hg2:Gl X "zip")(hm2:X.mg "zip" = none)(hcode:X.env.code=.ref c)(C:codeHdIn X.K c P=true)(B:zd1 X.mg X.base)(S:FnScope [y] [y] scope)
 (hy:scope.names.lookup y=some .local) (hdb:(y==("__debug__" : Str))=false) (hdc:(y==("__classdict__" : Str))=false)
 (hdef:defaultsOf params X.env=([],[])) (hcl:closureFor scope X.env=pure [])
 (hbind:∀(q:Str) (pm cv ctv u:Value) (b:Expr),bindArgs (kla_fn "<lambda>" q params b scope [] pm cv ctv) ⟨[u],[]⟩=pure [(y,u)])
 (ha:PA X [ex,ey] t) (he:starEach [ex,ey] X.env=(false,eval ex X.env)::starEach [ey] X.env:=by rfl) (hpl:(backTo pos2 (starEach [ey] X.env)).any (·.1)=false:=by rfl) :
 PE X (.Call (.Name "sorted" p1) [.Call (.Name "zip" p2) [ex,ey] [] pos2] [⟨some "key",.Lambda params (.Subscript (.Name y p3) (.Constant (.int 0) j p4) p5) scope lpos,kp⟩] pos) (tSZ2 X.K P qq t):=by
 intro pins s σ H Q I h
 refine wpAny_Call_Name_kw (za9 I hg1 hm1 boot_sorted ?_ (by decide) (by decide))
 refine callWith_kw ?_
 refine Calls.spliced_cons ?_
 refine wpAny_Call_Name_kw (za9 I hg2 hm2 boot_zip ?_ (by decide) (by decide))
 refine PyProof.Rows.callWith_type1 (thn (ha pos2 pins s σ H _ I h) fun us s1 hh=>?_) he hpl
 obtain⟨vs,H1,I1,r1,l1,l2,xs,yv,rfl,q1,q2,hl,h0,h64,hP,q⟩:=hh
 obtain⟨u1,u2,rfl⟩:∃u1 u2,us = [u1,u2]:=by
  cases r1 with
  | cons _ r=>cases r with
    | cons _ r=>cases r with
      | nil=>exact⟨_,_,rfl⟩
 cases r1 with
 | cons e1 r=>cases r with
   | cons e2 r =>
     cases (show u1=Value.ref l1 from e1)
     cases (show u2=Value.ref l2 from e2)
     refine made_zip I1 q1 q2 fun s2 z TI TO i1 i2 xv' yv' rx ry I2 D o st=>?_
     refine Calls.spliced_nil ?_
     refine kws_cons ?_
     subst hqq
     refine lam_eval2 (c:=c) (P:=P) I2 hP hcode (codeHd_of_K I2.mod.kin C) B hdef hcl fun f c' pm ctv H3 s3 k hsz old hf hcc sn ls3 I3=>?_
     refine kws_nil ?_
     obtain⟨ps,hP,_⟩:=hP
     have hPg:s2.heap.get? P=some (tabObj ps):=I2.hok P _ hP
     have nO:∀a ∈ [z,TO,i1,i2],a≠P:=fun a ha w=>by have:=(o a ha).1.free;rw[w,hP] at this;cases this
     have nX:∀(a:Addr) (u:Obj),s2.heap.get? a=some u→u.cls ≠ .none→a≠P:=fun a u e n w=>by rw[w,hPg] at e;cases e;exact n rfl
     obtain⟨a1,a2,a3,a4,a5,a6⟩:=st
     obtain⟨b1,ba,bb,b2⟩:IsZip s2.heap z TI TO .none∧∃a b,IsPair s2.heap TO a b:=by
      rcases a6 with⟨_,w⟩ | ⟨w,_⟩
      ·exact w
      ·exact absurd w (Nat.lt_irrefl _)
     have st3:ZSt z TI TO i1 i2 l1 l2 xv'.toArray yv'.toArray 0 s3:=by
      refine⟨k _ _ (nX _ _ a1 (by intro w;cases w)) a1,a2.at fun u e=>k _ u (nO _ (by simp)) e,a3.at fun u e=>k _ u (nO _ (by simp)) e,a4.at fun u e=>k _ u ?_ e,a5.at fun u e=>k _ u ?_ e,.inl ⟨rfl,k _ _ (nO _ (by simp)) b1,ba,bb,k _ _ (nO _ (by simp)) b2⟩⟩
      ·obtain⟨u',e',hc,_⟩:=a4
       exact nX _ _ e' (by rw[hc];intro w;cases w)
      ·obtain⟨u',e',hc,_⟩:=a5
       exact nX _ _ e' (by rw[hc];intro w;cases w)
     have o3:∀a ∈ [z,TO,i1,i2],Own X pins H3 a∧a<s3.heap.objs.size:=fun a ha=>by
      obtain⟨oa,la⟩:=o a ha
      exact⟨⟨by rw[old a la (nO a ha)];exact oa.free,oa.loc,oa.new,oa.cell,oa.pin,oa.fs⟩,Nat.lt_of_lt_of_le la hsz⟩
     have lx:(xs.map V.int).length=xs.length:=List.length_map _
     have F:FnOk X.prog X.w X.K X.mg X.base CX0 1 f (kla_fn "<lambda>" (X.env.qual ++ "<lambda>") params (.Subscript (.Name y p3) (.Constant (.int 0) j p4) p5) scope [] pm (.ref c') ctv) [y] (sp_fst f c' (kla_obj "<lambda>" (X.env.qual ++ "<lambda>") params (.Subscript (.Name y p3) (.Constant (.int 0) j p4) p5) scope [] pm c' ctv) (X.env.qual ++ "<lambda>")):=by
      refine lam_ok S (fun vs H Q E h=>?_) (fun vs H Q E h=>⟨h.1,h.2.1⟩) fun A outer s H vs Q E hr h=>?_
      ·obtain⟨_,_,t,x,y',rfl,_⟩:=h
       rfl
      ·obtain⟨_,_,t,x,y',rfl,ht,hq⟩:=h
       exact⟨_,yd zi7 (pe_var (i:=0) rfl (.inl hy) hdb hdc) zh (fun _ _=>rfl),⟨_,rfl,t,[x,y'],0,x,rfl,rfl,.inl (.inl ht),rfl,hq⟩⟩
     show wpAny (model X.prog X.w) X.A (call (.builtin "sorted") [.ref z] [(Str.ofString "key",.ref f)]) _ _ s3
     refine ziD (kz:=xs) (xv:=xs.map V.int) (yv:=yv) (q:=f) hr.hd D rx ry (by rw[lx];exact hl) (by rw[lx];exact h64) (by rw[lx];exact h0) lx.symm I3 o3 st3 (fun H4 ts s4 pr i v pins' s5 hv I5=>?_) fun s4 H4 ts l p sm pr hn hi I4=>?_
     ·rw[List.getElem?_map] at hv
      cases et:ts[i]? with
      | none=>rw[et] at hv;cases hv
      | some a =>
        rw[et] at hv
        cases hv
        obtain⟨⟨pa,pb⟩,ep,ha⟩:=pr.get i a et
        have epa:pa=.int (xs.getD i 0):=by
         rw[List.getElem?_zip_eq_some] at ep
         obtain⟨ep,_⟩:=ep
         rw[List.getElem?_map] at ep
         rw[List.getD_eq_getElem?_getD]
         cases ex:xs[i]? with
         | none=>rw[ex] at ep;cases ep
         | some x=>rw[ex] at ep;cases ep;rfl
        subst epa
        refine wpAny_call (codeAny_mono (F.run X.A.in1.in1 X.stack s5 H4 ⟨[.ref a],[]⟩ [.ref a] [.ref a] (fun x H'=>x=.int (xs.getD i 0)∧H'=H4) E0 hr.in1.in1 I5.env0.in1.in1 (.of_eq (hbind _ _ _ _ _ _)) (.cons rfl .nil) ⟨s4 _ _ hf,s4 _ _ hcc,a,_,_,rfl,ha,rfl,rfl⟩) fun r s6 hq=>?_)
        cases r with
        | error e=>exact hq
        | ok fl =>
          cases fl with
          | next=>exact False.elim hq
          | brk=>exact False.elim hq
          | cont=>exact False.elim hq
          | ret u =>
            obtain⟨v,H',I6,rv,rfl,rfl⟩:=I5.after hq
            obtain⟨tk,rfl⟩:=rv
            exact⟨I6,tk,rfl⟩
     ·rw[lx] at hi
      exact⟨.ref l,_,I4,rfl,q H4 ts l p (sn.trans sm.toN) (ls3.same sm) pr hn hi⟩
end
theorem comp2_zip{K:Frag}{l1 l2:Addr}{xs ys:List V}{c:St}{tc:TT}{te:TE}{H:Hp}{fin:List V→Hp→Prop}(Pv:Nat→List V→Hp→Prop)(h0:Pv 0 [] H)(hl:∀i zs H,i≤min xs.length ys.length→Pv i zs H→SqL K H l1 xs∧SqL K H l2 ys∧zs.length≤i)(hz:min xs.length ys.length≤sizeLine)
 (hs:∀i x y t zs H,xs[i]? = some x→ys[i]? = some y→H t=none→Pv i zs H→tc (some x::some y::c) (upd H t (.tup [x,y])) fun b H2=>if b=true then te (some x::some y::c) H2 fun z H3=>Pv (i+1) (zs ++ [z]) H3 else Pv (i+1) zs H2) (hd:∀zs H,Pv (min xs.length ys.length) zs H→fin zs H):zei K (Itz K l1 l2) c tc te H fin:=by
 refine⟨fun i m zs H=>m=min xs.length ys.length - i∧i≤min xs.length ys.length∧Pv i zs H,⟨min xs.length ys.length,by simp,Nat.zero_le _,h0⟩,?_⟩
 rintro i m zs H ⟨rfl,hi,p⟩
 obtain⟨q1,q2,hy⟩:=hl i zs H hi p
 by_cases hlt:i<min xs.length ys.length
 ·have h1:i<xs.length:=by omega
  have h2:i<ys.length:=by omega
  refine .inr ⟨⟨xs,ys,xs[i],ys[i],q1,q2,by simp[h1],by simp[h2]⟩,by omega,Pv (i+1),fun zs' H' p'=>⟨min xs.length ys.length - (i+1),by omega,rfl,hlt,p'⟩,fun v H' y=>?_⟩
  obtain⟨t,x,y,rfl,hn,rfl,e1,e2⟩:=y
  exact⟨t,x,y,rfl,.inl (.inl zg),hs i x y t zs _ (e1 xs q1) (e2 ys q2) hn p⟩
 ·have e:i=min xs.length ys.length:=by omega
  subst e
  exact .inl ⟨⟨xs,ys,q1,q2,by omega⟩,by omega,hd zs H p⟩
section
variable {X:Cx}
end
section
variable {X:Cx}
end
section
variable {X:Cx} {tg:Expr}
end
end L2
namespace L2
open PySem PySem.Spec PyProof.Rows PySem.Builtin PySem.Builtin.Str
theorem zjn:∀{ts:List Str} {us:List Value},zG (ts.map V.str) us→∃l:List (Str × Tok),us=strValues l∧l.map (·.1)=ts
 | [],_,h=>by cases h;exact⟨[],rfl,rfl⟩
 | x::ts,_,h=>by
   cases h with
   | cons r h =>
     obtain⟨t,rfl⟩:=r
     obtain⟨l,rfl,e⟩:=zjn h
     exact⟨(x,t)::l,rfl,by rw[List.map_cons,e]⟩
theorem join_fits{z:Str}{ts:List Str}(hz:z.length≤10)(hl:ts.length≤200)(h:∀t∈ts,t.length≤2000):tooLong (ts.toArray.foldl (·+ ·.length+z.length) 0)=false:=by
 have go:∀(l:List Str) (n:Nat),(∀t∈l,t.length≤2000)→l.foldl (·+ ·.length+z.length) n≤n+2010*l.length:=by
  intro l
  induction l with
  | nil=>intro n _;simp
  | cons t l ih =>
    intro n h
    have:=ih (n+t.length+z.length) fun u hu=>h u (List.mem_cons_of_mem _ hu)
    have h1:=h t (List.mem_cons_self ..)
    rw[List.foldl_cons,List.length_cons]
    omega
 have:=go ts 0 h
 have hln:=zC
 unfold tooLong
 rw[List.foldl_toArray]
 simp only[gt_iff_lt,decide_eq_false_iff_not]
 omega
section
variable {X:Cx}
theorem zfj:zas X (.type "str") (fun xs H Q=>(∃i:Int,xs = [.int i]∧i.natAbs.log2<1920∧Q (.str (toString i)) H)∨∃y,xs = [.str y]∧Q (.str y) H):=by
 intro pins s σ H xs us Q I r h
 rcases h with⟨i,rfl,hd,q⟩ | ⟨y,rfl,q⟩
 ·obtain⟨u,rfl,⟨t,rfl⟩⟩:=r.one
  exact P.str_of_int hd ⟨.str _,H,I.tok _,⟨_,rfl⟩,q⟩
 ·obtain⟨u,rfl,⟨t,rfl⟩⟩:=r.one
  exact P.str_of_str ⟨.str _,H,I,⟨_,rfl⟩,q⟩
def rJoin(K:PySem.W.Frag):V→List V→Hp→VK→Prop:=fun x xs H Q=>∃(z:Str) (a:Addr) (ts:List Str),x=.str z∧xs = [.ref a]∧SqL K H a (ts.map V.str)∧z.length≤10∧ts.length≤200∧(∀t∈ts,t.length≤2000)∧Q (.str (Txt.join z ts)) H
theorem ms_join:MtR X "str.join" (rJoin X.K):=by
 intro pins s σ H x xs v us Q I rx rv h
 obtain⟨z,a,ts,rfl,rfl,hq,h1,h2,h3,q⟩:=h
 obtain⟨t,rfl⟩:=rx
 obtain⟨u,rfl,ru⟩:=rv.one
 cases ru
 obtain⟨its,rr,p,_⟩:=I.list hq
 obtain⟨l,rfl,rfl⟩:=zjn rr
 have hf:=join_fits h1 h2 h3
 exact call_meets F.slot_str_join (typeIs_str _ _ _) F.entry_str_join (F.args_str_join_2 _ _) (meets_str_join_list z t a l hf) ⟨p.isList,post_join l ⟨joinFit_length hf,fun t' k=>⟨.str _,H,I.tok _,⟨_,rfl⟩,q⟩⟩⟩
end
def tN(n:Int):Str:=Str.ofString (toString n)
theorem zfK{i:Int}(h:i.natAbs≤100000):i.natAbs.log2<1920:=by
 by_cases h0:i.natAbs=0
 ·rw[h0];decide
 ·have:i.natAbs.log2<17:=(Nat.log2_lt h0).mpr (by omega)
  omega
section
variable {X:Cx}
theorem zaQ:OpR X (binaryOp .Mult) (fun x y H Q=>∃i n,x=.str i∧y=.int n∧MulOk i n∧Q (.str (PySem.Txt.mul i n)) H):=by
 intro pins s σ H x y v u Q I rx ry h
 obtain⟨i,n,rfl,rfl,hz,q⟩:=h
 obtain⟨t,rfl⟩:=rx
 obtain⟨t',rfl⟩:=ry
 exact SB.mul hz (fun t' tk=>⟨.str (PySem.Txt.mul i n),H,I.tok _,⟨_,rfl⟩,q⟩)
end
theorem zfd(x:Str):MulOk x 1:=⟨by decide,fun _ h=>absurd h (by simp),fun _ h=>absurd h (by simp)⟩
theorem yp(x:Str):MulOk x 0:=⟨by decide,fun h=>absurd (by decide) h,fun h=>absurd (by decide) h⟩
theorem ms_upperB{X:Cx}:MtR X "str.upper" (fun x xs H Q=>∃z,x=.str z∧xs = []∧z.length≤1000∧((Txt.upper z).length≤3*z.length→Q (.str (Txt.upper z)) H)):=by
 intro pins s σ H x xs v us Q I rx rv h
 obtain⟨z,rfl,rfl,hz,q⟩:=h
 obtain⟨t,rfl⟩:=rx
 cases rv
 exact SCL.upper (by omega) fun hl=>⟨.str _,H,I.tok _,⟨_,rfl⟩,q hl⟩
theorem up_small:∀k:Fin 26,PySem.Unicode.upperOf (97+k.val) = [65+k.val]:=by decide +kernel
theorem upper_mem{z:Str}{c:Nat}(h:c∈z.cps.toList)(hc:zbP c=true):c - 32∈(Txt.upper z).cps.toList:=by
 have hb:97≤c∧c≤122:=by
  unfold zbP at hc
  simpa using hc
 have hu:=up_small ⟨c - 97,by omega⟩
 rw[show 97+(⟨c - 97,by omega⟩:Fin 26).val=c from(by show 97+(c - 97)=c;omega),show 65+(⟨c - 97,by omega⟩:Fin 26).val=c - 32 from(by show 65+(c - 97)=c - 32;omega)] at hu
 obtain⟨i,hi,e⟩:=List.getElem_of_mem h
 show c - 32∈(PySem.placed z fun _ c=>PySem.Unicode.upperOf c).toList
 rw[Array.mem_toList_iff]
 unfold PySem.placed
 rw[Array.mem_flatten]
 refine⟨(PySem.Unicode.upperOf c).toArray,Array.mem_mapIdx.mpr ⟨i,by simpa using hi,?_⟩,by rw[hu];simp⟩
 have e:z.cps[i]'(by simpa using hi)=c:=by simpa using e
 rw[e]
theorem cut1_len:∀n:Fin 8,(PySem.Builtin.Str.strSliceIndices none (some (-1)) 1 (n.val+1)).length=n.val:=by decide +kernel
theorem cut1_lt{z:Str}(h1:1≤z.length)(h8:z.length≤8):(Txt.slice z none (some (-1))).length<z.length:=by
 have hn:=cut1_len ⟨z.length - 1,by omega⟩
 rw[show(⟨z.length - 1,by omega⟩:Fin 8).val+1=z.length from(by show z.length - 1+1=z.length;omega)] at hn
 have hn:(PySem.Builtin.Str.strSliceIndices none (some (-1)) 1 z.length).length=z.length - 1:=hn
 unfold Txt.slice
 rw[if_neg (by rw[hn];simp;omega)]
 show(List.filterMap _ _).toArray.size<_
 have:=List.length_filterMap_le (fun x_1=>z.cps[x_1]?) (PySem.Builtin.Str.strSliceIndices none (some (-1)) 1 z.length)
 simp only[List.size_toArray]
 omega
section
variable {κ:Type} [DecidableEq κ]
def zaO(kvs:List (κ × V))(k:κ):Option V:=(kvs.find? fun kv=>decide (kv.1=k)).map (·.2)
def zbV(kvs:List (κ × V))(k:κ)(v:V):List (κ × V) :=
 if(kvs.any fun kv=>decide (kv.1=k))=true then kvs.map (fun kv=>if kv.1=k then(kv.1,v)else kv)else kvs ++ [(k,v)]
theorem wB{p:κ × V}{r:List (κ × V)}{k:κ}(e:p.1=k):zaO (p::r) k=some p.2:=by simp[zaO,List.find?_cons,e]
theorem wC{p:κ × V}{r:List (κ × V)}{k:κ}(e:¬p.1=k):zaO (p::r) k=zaO r k:=by simp[zaO,List.find?_cons,e]
theorem zcW(k:κ):∀kvs:List (κ × V),(kvs.any fun kv=>decide (kv.1=k))=(zaO kvs k).isSome
 | []=>rfl
 | p::r=>by
   rw[List.any_cons]
   by_cases e:p.1=k
   ·simp only[wB e,decide_eq_true e,Bool.true_or,Option.isSome_some]
   ·rw[wC e,decide_eq_false e,Bool.false_or];exact zcW k r
theorem zhD(k j:κ)(y:V):∀kvs:List (κ × V),zaO (kvs.map fun kv=>if kv.1=k then(kv.1,y)else kv) j=(zaO kvs j).map fun x=>if j=k then y else x
 | []=>rfl
 | p::r=>by
   have ih:=zhD k j y r
   rw[List.map_cons]
   by_cases h:p.1=k
   ·rw[if_pos h]
    by_cases e:p.1=j
    ·rw[wB (p:=(p.1,y)) e,wB e,Option.map_some,if_pos (e.symm.trans h)]
    ·rw[wC (p:=(p.1,y)) e,wC e,ih]
   ·rw[if_neg h]
    by_cases e:p.1=j
    ·rw[wB (p:=p) e,wB e,Option.map_some,if_neg (fun z=>h (e.trans z))]
    ·rw[wC (p:=p) e,wC e,ih]
theorem zgA(k j:κ)(y:V):∀kvs:List (κ × V),zaO kvs k=none→zaO (kvs ++ [(k,y)]) j=if j=k then some y else zaO kvs j
 | [],_=>by
   by_cases e:k=j
   ·rw[if_pos e.symm];exact wB (p:=(k,y)) e
   ·rw[if_neg (fun z=>e z.symm)];exact wC (p:=(k,y)) e
 | p::r,hn=>by
   rw[List.cons_append]
   have hk:¬p.1=k:=fun z=>by rw[wB z] at hn;cases hn
   rw[wC hk] at hn
   have ih:=zgA k j y r hn
   by_cases e:p.1=j
   ·rw[wB e,wB e,if_neg (fun z=>hk (e.trans z))]
   ·rw[wC e,wC e,ih]
theorem zdV(kvs:List (κ × V))(k j:κ)(y:V):zaO (zbV kvs k y) j=if j=k then some y else zaO kvs j:=by
 unfold zbV
 by_cases a:(kvs.any fun kv=>decide (kv.1=k))=true
 ·rw[if_pos a,zhD]
  rw[zcW] at a
  by_cases e:j=k
  ·obtain⟨x,hx⟩:=Option.isSome_iff_exists.mp a
   rw[if_pos e,e,hx,Option.map_some,if_pos rfl]
  ·rw[if_neg e]
   cases zaO kvs j with
   | none=>rfl
   | some x=>rw[Option.map_some,if_neg e]
 ·rw[if_neg a]
  refine zgA k j y kvs ?_
  rw[zcW] at a
  cases q:zaO kvs k with
  | none=>rfl
  | some x=>rw[q] at a;exact(a rfl).elim
theorem zcQ(kvs:List (κ × V))(k:κ)(v:V):(zbV kvs k v).length≤kvs.length+1:=by
 unfold zbV
 split
 ·rw[List.length_map];omega
 ·rw[List.length_append,List.length_cons,List.length_nil];omega
theorem zdf.isSome_eq{o:Option V}{u:Option Value}(r:zdf o u):o.isSome=u.isSome:=by
 cases o with
 | none=>cases u with
   | none=>rfl
   | some _=>exact(show False from r).elim
 | some _=>cases u with
   | none=>exact(show False from r).elim
   | some _=>rfl
theorem KV.val{kvs:List (κ × V)}{vs:List (κ × Value)}(r:KV kvs vs)(k:κ):zdf (zaO kvs k) (valueAt vs k):=by
 unfold KV at r
 induction r with
 | nil=>exact True.intro
 | @cons p q ps qs h t ih =>
   obtain⟨h1,h2⟩:=h
   by_cases e:p.1=k
   ·have e':q.1=k:=h1.symm.trans e
    have b:valueAt (q::qs) k=some q.2:=by simp[valueAt,List.find?_cons,e']
    rw[wB e,b];exact h2
   ·have e':¬q.1=k:=fun z=>e (h1.trans z)
    have b:valueAt (q::qs) k=valueAt qs k:=by simp[valueAt,List.find?_cons,e']
    rw[wC e,b];exact ih
theorem KV.any{kvs:List (κ × V)}{vs:List (κ × Value)}(r:KV kvs vs)(k:κ):(kvs.any fun kv=>decide (kv.1=k))=vs.any fun kv=>decide (kv.1=k):=by
 unfold KV at r
 induction r with
 | nil=>rfl
 | cons h t ih=>rw[List.any_cons,List.any_cons,ih,h.1]
theorem KV.repl{kvs:List (κ × V)}{vs:List (κ × Value)}(r:KV kvs vs)(k:κ){y:V}{u:Value}(ry:zR y u):
 KV (kvs.map fun kv=>if kv.1=k then(kv.1,y)else kv) (vs.map fun kv=>if kv.1=k then(kv.1,u)else kv):=by
 unfold KV at r ⊢
 induction r with
 | nil=>exact .nil
 | @cons p q ps qs h t ih =>
   rw[List.map_cons,List.map_cons]
   refine .cons ?_ ih
   obtain⟨h1,h2⟩:=h
   by_cases e:p.1=k
   ·rw[if_pos e,if_pos (h1.symm.trans e)];exact⟨h1,ry⟩
   ·rw[if_neg e,if_neg (fun z=>e (h1.trans z))];exact⟨h1,h2⟩
theorem KV.put{kvs:List (κ × V)}{vs:List (κ × Value)}(r:KV kvs vs)(k:κ){y:V}{u:Value}(ry:zR y u):KV (zbV kvs k y) (stored vs k u):=by
 unfold zbV stored
 rw[r.any k]
 by_cases e:(vs.any fun kv=>decide (kv.1=k))=true
 ·rw[if_pos e,if_pos e];exact r.repl k ry
 ·rw[if_neg e,if_neg e];exact Paired.snoc r ⟨rfl,ry⟩
theorem KV.length{kvs:List (κ × V)}{vs:List (κ × Value)}(r:KV kvs vs):kvs.length=vs.length:=Paired.length r
end
theorem zhz{P:Program}{w:World}{k:Key}{u:Value}(r:zR (kV k) u):(wQ P w).is k u=true:=by
 cases k with
 | inl i=>obtain⟨t,e⟩:=(show ∃t,u=Value.int i t from r);subst e;exact zhM P w i t
 | inr x=>obtain⟨t,e⟩:=(show ∃t,u=Value.str x t from r);subst e;exact zh8 P w x t
theorem zgr{P:Program}{w:World}:∀{ks:List Key} {us:List Value},zG (ks.map kV) us→ItemsAre (wQ P w) ks us
 | [],_,r=>by rw[List.map_nil] at r;cases r;exact .nil
 | k::ks,_,r=>by
   rw[List.map_cons] at r
   cases r with
   | cons h t=>exact .cons (zhz h) (zgr t)
abbrev KT(H:Hp):List (List Key × V)→List (List Key × Addr × Value)→Prop:=Paired fun p q=>p.1=q.1∧H q.2.1=some (.tup (p.1.map kV))∧zR p.2 q.2.2
theorem KT.val{H:Hp}{kvs:List (List Key × V)}{xs:List (List Key × Addr × Value)}(r:KT H kvs xs)(k:List Key):zdf (zaO kvs k) ((atKey xs k).map (·.2)):=by
 induction r with
 | nil=>exact True.intro
 | @cons p q ps qs h t ih =>
   obtain⟨h1,_,h2⟩:=h
   by_cases e:p.1=k
   ·have e':q.1=k:=h1.symm.trans e
    have b:atKey (q::qs) k=some q.2:=by simp[atKey,List.find?_cons,e']
    rw[wB e,b];exact h2
   ·have e':¬q.1=k:=fun z=>e (h1.trans z)
    have b:atKey (q::qs) k=atKey qs k:=by simp[atKey,List.find?_cons,e']
    rw[wC e,b];exact ih
theorem KT.repl{H:Hp}{kvs:List (List Key × V)}{xs:List (List Key × Addr × Value)}(r:KT H kvs xs)(k:List Key){y:V}{u:Value}(ry:zR y u):
 KT H (kvs.map fun kv=>if kv.1=k then(kv.1,y)else kv) (xs.map (putAt k u)):=by
 induction r with
 | nil=>exact .nil
 | @cons p q ps qs h t ih =>
   rw[List.map_cons,List.map_cons]
   refine .cons ?_ ih
   obtain⟨h1,h2,h3⟩:=h
   unfold putAt
   by_cases e:p.1=k
   ·rw[if_pos e,if_pos (h1.symm.trans e)];exact⟨h1,h2,ry⟩
   ·rw[if_neg e,if_neg (fun z=>e (h1.trans z))];exact⟨h1,h2,h3⟩
theorem KT.put{H:Hp}{kvs:List (List Key × V)}{xs:List (List Key × Addr × Value)}(r:KT H kvs xs)(k:List Key){b:Addr}{y:V}{u:Value}(hb:H b=some (.tup (k.map kV)))(ry:zR y u):
 KT H (zbV kvs k y) (storedH xs k b u):=by
 have e:(kvs.any fun kv=>decide (kv.1=k))=(atKey xs k).isSome:=by
  rw[zcW,(r.val k).isSome_eq,Option.isSome_map]
 unfold zbV storedH
 rw[e]
 by_cases q:(atKey xs k).isSome=true
 ·rw[if_pos q,if_pos q];exact r.repl k ry
 ·rw[if_neg q,if_neg q];exact Paired.snoc r ⟨rfl,hb,ry⟩
theorem KT.keeps{H H':Hp}{kvs:List (List Key × V)}{xs:List (List Key × Addr × Value)}(r:KT H kvs xs)(ht:∀b ys,H b=some (.tup ys)→H' b=some (.tup ys)):KT H' kvs xs :=
 Paired.mapP r fun _ _ z=>⟨z.1,ht _ _ z.2.1,z.2.2⟩
section
variable {P:Program} {w:World} {H:Hp} {h:Heap} {a:Addr}
theorem rd_of{u:HO}(ok:HOk P w H h)(e:Rd H a u):y9 P w H h a u:=e.ok ok
theorem zhq{kvs:List (Key × V)}(ok:HOk P w H h)(e:Rd H a (.dK kvs)):kvs.length≤sizeLine∧(a==sysModules)=false∧∃vs,KV kvs vs∧h.DictOf (wQ P w) a vs :=
 show y9 P w H h a (.dK kvs)from rd_of ok e
theorem dk_of{kvs:List (Key × V)}(ok:HOk P w H h)(e:H a=some (.dK kvs)):kvs.length≤sizeLine∧(a==sysModules)=false∧∃vs,KV kvs vs∧h.DictOf (wQ P w) a vs:=zhq ok (.inl e)
theorem zft{ks:List Key}(ok:HOk P w H h)(e:H a=some (.tup (ks.map kV))):(tupleKind (wQ P w)).is h ks a:=by
 obtain⟨_,its,r,o,h1,h2,n,h3⟩:=(show y9 P w H h a (.tup (ks.map kV))from ok a _ e)
 exact⟨o,its.toArray,n,h1,h2,h3,by simpa using zgr r⟩
theorem zhU{kvs:List (List Key × V)}(ok:HOk P w H h)(e:Rd H a (.dT kvs)):kvs.length≤sizeLine∧(a==sysModules)=false ∧
 ∃xs,KT H kvs xs∧h.DictOfH (tupleKind (wQ P w)) a xs:=by
 obtain⟨z,y,xs,r,o,es,ep,h1,h2,h3,h4,h5⟩:=(show y9 P w H h a (.dT kvs)from rd_of ok e)
 refine⟨z,y,xs,r,o,es,ep,h1,h2,h3,h4,fun x hx=>?_,h5⟩
 have all:∀{l:List (List Key × V)} {m:List (List Key × Addr × Value)},KT H l m→∀x∈m,(tupleKind (wQ P w)).is h x.1 x.2.1:=by
  intro l m q
  induction q with
  | nil=>intro x hx;exact nomatch hx
  | @cons p q ps qs hq t ih =>
    intro x hx
    rcases List.mem_cons.mp hx with e | hx
    ·subst e
     exact zft ok (by rw[← hq.1];exact hq.2.1)
    ·exact ih x hx
 exact all r x hx
theorem dt_of{kvs:List (List Key × V)}(ok:HOk P w H h)(e:H a=some (.dT kvs)):kvs.length≤sizeLine∧(a==sysModules)=false ∧
 ∃xs,KT H kvs xs∧h.DictOfH (tupleKind (wQ P w)) a xs:=zhU ok (.inl e)
end
def zeo(H:Hp)(a:Addr)(y:V)(r:Option V):Prop :=
 (∃kvs k,Rd H a (.dK kvs)∧y=kV k∧r=zaO kvs k)∨∃kvs k b,Rd H a (.dT kvs)∧y=.ref b∧H b=some (.tup (k.map kV))∧r=zaO kvs k
def DPut(H:Hp)(a:Addr)(y v:V)(H':Hp):Prop :=
 (∃kvs k,H a=some (.dK kvs)∧y=kV k∧kvs.length<sizeLine∧H'=upd H a (.dK (zbV kvs k v))) ∨
 ∃kvs k b,H a=some (.dT kvs)∧y=.ref b∧H b=some (.tup (k.map kV))∧kvs.length<sizeLine∧H'=upd H a (.dT (zbV kvs k v))
theorem zeo.k{H:Hp}{a:Addr}{kvs:List (Key × V)}{k:Key}(e:H a=some (.dK kvs)):zeo H a (kV k) (zaO kvs k):=.inl ⟨kvs,k,.inl e,rfl,rfl⟩
theorem DPut.k{H:Hp}{a:Addr}{kvs:List (Key × V)}{k:Key}{v:V}(e:H a=some (.dK kvs))(hl:kvs.length<sizeLine):DPut H a (kV k) v (upd H a (.dK (zbV kvs k v))):=.inl ⟨kvs,k,e,rfl,hl,rfl⟩
section
variable {X:Cx} {pins:List (Addr × Obj)} {σ:St} {H:Hp} {s:Shared} {a:Addr} {y v:V} {u r:Value} {o:Option V} {A:Around} {E:Value→Shared→Prop}
theorem Inv.big(I:Inv X pins σ H s):sysModules<s.heap.objs.size:=by
 have h:mainGlobals<s.heap.objs.size:=(I.mod.glob.keeps I.bk).lt
 exact Nat.lt_trans (by decide) h
theorem d_getItem{Q:Value→Shared→Prop}(hu:A.units+1<cLine)(I:Inv X pins σ H s)(g:zeo H a y (some v))(ry:zR y u)(h:∀w' s',Inv X pins σ H s'→zR v w'→Q w' s'):
 wpAny (model X.prog X.w) A (getItem (.ref a) u) Q E s:=by
 rcases g with⟨kvs,k,e,ey,l⟩ | ⟨kvs,k,b,e,ey,eb,l⟩
 ·subst ey
  obtain⟨z,hd,vs,rel,dd⟩:=zhq I.hok e
  obtain⟨w',hw,rw'⟩:=zdf.some_of (v:=v) (o:=valueAt vs k) (by rw[l];exact rel.val k)
  exact wpAny_getItem_of (zhz ry) dd.mapOf hw (h w' _ (I.tok _) rw')
 ·subst ey
  cases (show u=Value.ref b from ry)
  obtain⟨z,hd,xs,rel,dd⟩:=zhU I.hok e
  obtain⟨w',hw,rw'⟩:=zdf.some_of (v:=v) (o:=(atKey xs k).map (·.2)) (by rw[l];exact rel.val k)
  obtain⟨p,hp,hp2⟩:=Option.map_eq_some_iff.mp hw
  refine wpAny_getItem_heap (tupleKind_room_in1 hu) (zft I.hok eb) dd hp ?_
  rw[hp2]
  exact h w' _ (I.tok _) rw'
theorem d_in{Q:Value→Shared→Prop}(hu:A.units+1<cLine)(I:Inv X pins σ H s)(g:zeo H a y o)(ry:zR y u)(h:∀s',Inv X pins σ H s'→Q (.bool o.isSome) s'):
 wpAny (model X.prog X.w) A (compareOp .In u (.ref a)) Q E s:=by
 rcases g with⟨kvs,k,e,ey,l⟩ | ⟨kvs,k,b,e,ey,eb,l⟩
 ·subst ey
  obtain⟨z,hd,vs,rel,dd⟩:=zhq I.hok e
  refine wpAny_in_of (zhz ry) hd dd.mapOf ?_
  rw[← (rel.val k).isSome_eq,← l]
  exact h _ (I.tok _)
 ·subst ey
  cases (show u=Value.ref b from ry)
  obtain⟨z,hd,xs,rel,dd⟩:=zhU I.hok e
  refine wpAny_in_heap (tupleKind_room_in1 hu) (zft I.hok eb) hd dd ?_
  have q:=(rel.val k).isSome_eq
  rw[Option.isSome_map] at q
  rw[← q,← l]
  exact h _ (I.tok _)
theorem d_notIn{Q:Value→Shared→Prop}(hu:A.units+1<cLine)(I:Inv X pins σ H s)(g:zeo H a y o)(ry:zR y u)(h:∀s',Inv X pins σ H s'→Q (.bool (!o.isSome)) s'):
 wpAny (model X.prog X.w) A (compareOp .NotIn u (.ref a)) Q E s:=by
 rcases g with⟨kvs,k,e,ey,l⟩ | ⟨kvs,k,b,e,ey,eb,l⟩
 ·subst ey
  obtain⟨z,hd,vs,rel,dd⟩:=zhq I.hok e
  refine wpAny_notIn_of (zhz ry) hd dd.mapOf ?_
  rw[← (rel.val k).isSome_eq,← l]
  exact h _ (I.tok _)
 ·subst ey
  cases (show u=Value.ref b from ry)
  obtain⟨z,hd,xs,rel,dd⟩:=zhU I.hok e
  refine wpAny_notIn_heap (tupleKind_room_in1 hu) (zft I.hok eb) hd dd ?_
  have q:=(rel.val k).isSome_eq
  rw[Option.isSome_map] at q
  rw[← q,← l]
  exact h _ (I.tok _)
theorem zjo{h':Heap}{t':Nat}{ob:HO}(I:Inv X pins σ H s)(mu:Mut (H a))(hs:Heap.SameBut a s.heap h')(he:∃q,h'.get? a=some q)(new:y9 X.prog X.w (upd H a ob) h' a ob):
 Inv X pins σ (upd H a ob) { s with heap:=h',toks:=t' } :=
 I.write (x:=a) (e:=a) mu (.inl rfl) (fun b q hb z=>(hs.2 b hb).trans z) he new
theorem dk_new{P:Program}{w:World}{H':Hp}{h':Heap}{kvs:List (Key × V)}{vs:List (Key × Value)}(z:kvs.length≤sizeLine)(hd:(a==sysModules)=false)(rel:KV kvs vs)(dd:h'.DictOf (wQ P w) a vs):
 y9 P w H' h' a (.dK kvs):=⟨z,hd,vs,rel,dd⟩
theorem d_setItem{H':Hp}{Q:Unit→Shared→Prop}(hu:A.units+1<cLine)(I:Inv X pins σ H s)(g:DPut H a y v H')(ry:zR y u)(rv:zR v r)(h:∀s',Inv X pins σ H' s'→Q () s'):
 wpAny (model X.prog X.w) A (setItem (.ref a) u r) Q E s:=by
 rcases g with⟨kvs,k,e,ey,l,eH⟩ | ⟨kvs,k,b,e,ey,eb,l,eH⟩
 ·subst ey eH
  obtain⟨z,hd,vs,rel,dd⟩:=dk_of I.hok e
  have hz:vs.length≤sizeLine:=by rw[← rel.length];exact z
  have hl:(zbV kvs k v).length≤sizeLine:=by have:=zcQ kvs k v;omega
  refine wpAny_setItem_pairs (hsz:=hz) (zhz ry) dd fun h' dd' hs=>h _ ?_
  have he:∃q,h'.get? a=some q:=let ⟨q,_,_,hq,_⟩:=dd';⟨q,hq⟩
  exact zjo I (by rw[e];exact True.intro) hs he (dk_new hl hd (rel.put k rv) dd')
 ·subst ey eH
  cases (show u=Value.ref b from ry)
  obtain⟨z,hd,xs,rel,dd⟩:=dt_of I.hok e
  have hz:xs.length≤sizeLine:=by rw[← Paired.length rel];exact z
  have hl:(zbV kvs k v).length≤sizeLine:=by have:=zcQ kvs k v;omega
  refine wpAny_setItem_heap (hsz:=hz) (tupleKind_room_in1 hu) (zft I.hok eb) dd fun h' dd' hs=>h _ ?_
  obtain⟨q,es,ep,hq,h2,h3,h4,_,h5⟩:=dd'
  refine zjo I (by rw[e];exact True.intro) hs ⟨q,hq⟩ ⟨hl,hd,_,(rel.put k eb rv).keeps fun c ys ec=>?_,q,es,ep,hq,h2,h3,h4,h5⟩
  rw[zj (y6 ec e (fun z=>nomatch z))]
  exact ec
end
section
variable {X:Cx} {pins:List (Addr × Obj)} {σ:St} {H:Hp} {s:Shared} {a:Addr} {kvs:List (Key × V)} {k:Key} {u:Value} {A:Around} {E:Value→Shared→Prop}
end
def NoSl(i:Expr):Prop:=∀ov iv,subscripted i false ov iv=operate [ov,iv] (getItem ov iv)
theorem subD_of{prog:Program}{w:World}{A:Around}{E:Value→Shared→Prop}{s:Shared}{env:Env}{value slice:Expr}{pos:Pos}{T id:String}{Q:Value→Shared→Prop}
 (hl:typeLookup (.type T) "__getitem__" = pure (some (.builtin id))) (hs:NoSl slice)
 (h:wpAny (model prog w) A (eval value env) (fun o s₁=>wpAny (model prog w) A (eval slice env) (fun i s₂=>s₂.TypeIs o T∧wpAny (model prog w) A (getItem o i) Q E s₂) E s₁) E s) :
 wpAny (model prog w) A (eval (.Subscript value slice pos) env) Q E s:=by
 refine Subscript_ (wpAny_mono h (fun o s₁ h₁=>wpAny_mono h₁ (fun i s₂ h₂=>?_) fun _ _ x=>x) fun _ _ x=>x)
 obtain⟨hT,h₂⟩:=h₂
 unfold subscriptTail
 refine wpAny_bind ?_
 rw[getitemInPython_of_ne hT.not_modules]
 refine wpAny_bind (wpAny_specialOf hT hl ?_)
 have fin:wpAny (model prog w) A (subscripted slice false o i) (fun r s₃=>wpAny (model prog w) A (letTemporaryGo value o r >>= fun _=>pure r) Q E s₃) E s₂:=by
  rw[hs o i]
  exact wpAny_operating (wpAny_mono h₂ (fun r s₃ h₃=>wpAny_bind (wpAny_letTemporaryGo (wpAny_pure h₃))) fun _ _ x=>x)
 first
  | exact wpAny_pure (wpAny_bind fin)
  | exact wpAny_bind (wpAny_pure (wpAny_bind fin))
  | exact wpAny_bind fin
theorem zhI{X:Cx}{pins:List (Addr × Obj)}{σ:St}{H:Hp}{s:Shared}{a:Addr}{y:V}{o:Option V}(I:Inv X pins σ H s)(g:zeo H a y o):s.TypeIs (.ref a) "dict" := by
 rcases g with⟨kvs,k,e,_,_⟩ | ⟨kvs,k,b,e,_,_,_⟩
 ·obtain⟨_,_,vs,_,dd⟩:=zhq I.hok e
  exact dd.typeIs
 ·obtain⟨_,_,xs,_,dd⟩:=zhU I.hok e
  exact dd.typeIs
def tDGet(td ty:TE):TE:=fun σ H Q=>td σ H fun x H1=>ty σ H1 fun y H2=>∃a v,x=.ref a∧zeo H2 a y (some v)∧Q v H2
def tDIn(ty td:TE):TE:=fun σ H Q=>ty σ H fun y H1=>td σ H1 fun x H2=>∃a o,x=.ref a∧zeo H2 a y o∧Q (.bl o.isSome) H2
def tDNotIn(ty td:TE):TE:=fun σ H Q=>ty σ H fun y H1=>td σ H1 fun x H2=>∃a o,x=.ref a∧zeo H2 a y o∧Q (.bl (!o.isSome)) H2
def sDPut(td ty tv:TE):TS:=fun D σ H=>tv σ H fun v H1=>td σ H1 fun x H2=>ty σ H2 fun y H3=>∃a H4,x=.ref a∧DPut H3 a y v H4∧D.nx σ H4
section
variable {X:Cx} {o i e value:Expr} {pos pos' tpos:Pos} {td ty tv:TE}
theorem zjh(hu:X.A.units+1<cLine)(ho:PE X o td)(hi:PE X i ty)(hs:NoSl i):PE X (.Subscript o i pos) (tDGet td ty):=by
 intro pins s σ H Q I h
 refine subD_of PySem.F.slot_dict_getitem.lookup hs (thn (ho pins s σ H _ I h) fun u s1 ⟨x,H1,I1,rx,q1⟩=>thn (hi pins s1 σ H1 _ I1 q1) fun iv s2 ⟨y,H2,I2,ry,a,v,ex,g,q2⟩=>?_)
 subst ex
 obtain rfl:u=Value.ref a:=rx
 exact⟨zhI I2 g,d_getItem hu I2 g ry fun w' s3 I3 rw'=>⟨v,H2,I3,rw',q2⟩⟩
theorem pc_din(hu:X.A.units+1<cLine)(hi:PE X i ty)(ho:PE X o td):PC X .In i o (tDIn ty td):=by
 intro pins s σ H Q I h
 refine thn (hi pins s σ H _ I h) fun iv s1 ⟨y,H1,I1,ry,q1⟩=>thn (ho pins s1 σ H1 _ I1 q1) fun u s2 ⟨x,H2,I2,rx,a,ov,ex,g,q2⟩=>?_
 subst ex
 obtain rfl:u=Value.ref a:=rx
 exact d_in hu I2 g ry fun s3 I3=>⟨.bl ov.isSome,H2,I3,rfl,q2⟩
theorem zjI(hu:X.A.units+1<cLine)(hi:PE X i ty)(ho:PE X o td):PC X .NotIn i o (tDNotIn ty td):=by
 intro pins s σ H Q I h
 refine thn (hi pins s σ H _ I h) fun iv s1 ⟨y,H1,I1,ry,q1⟩=>thn (ho pins s1 σ H1 _ I1 q1) fun u s2 ⟨x,H2,I2,rx,a,ov,ex,g,q2⟩=>?_
 subst ex
 obtain rfl:u=Value.ref a:=rx
 exact d_notIn hu I2 g ry fun s3 I3=>⟨.bl (!ov.isSome),H2,I3,rfl,q2⟩
theorem zjx(hu:X.A.units+1<cLine)(ho:PE X o td)(hi:PE X i ty)(hv:PE X value tv)(hs:swapsWith value (some (.Subscript o i pos')) pos.line X.env=pure false):
 PS X (.Assign [.Subscript o i pos'] value pos) (sDPut td ty tv):=by
 intro pins s σ H D I h
 refine wpAny_Assign_Subscript (thn (hv pins s σ H _ I h) fun r s1 ⟨v,H1,I1,rv,q1⟩=>thn (ho pins s1 σ H1 _ I1 q1) fun u s2 ⟨x,H2,I2,rx,q2⟩=>thn (hi pins s2 σ H2 _ I2 q2) fun iv s3 ⟨y,H3,I3,ry,a,H4,ex,g,q3⟩=>?_) hs
 subst ex
 obtain rfl:u=Value.ref a:=rx
 exact d_setItem hu I3 g ry rv fun s4 I4=>⟨σ,H4,I4,q3⟩
end
theorem dk_empty{P:Program}{w:World}{H:Hp}(h:Heap)(hb:sysModules<h.objs.size):y9 P w H (h.push { cls:=.type "dict",data:=.dict #[] }) h.objs.size (.dK []) :=
 ⟨Nat.zero_le _,beq_eq_false_iff_ne.mpr (Ne.symm (Nat.ne_of_lt hb)),[],.nil,Heap.DictOf.new h⟩
def tDNewK:TE:=fun _ H Q=>∀p,H p=none→Q (.ref p) (upd H p (.dK []))
section
variable {X:Cx} {pos:Pos}
theorem pe_dnewK:PE X (.Dict [] [] pos) tDNewK:=fun pins s σ H Q I h =>
 wpAny_Dict_empty ⟨.ref s.heap.objs.size,_,I.laid (a:=s.heap.objs.size) (o:=.dK []) (t':=s.toks) (fun _ _ q=>Heap.get?_push_of_some _ q) (Nat.le_refl _) (dk_empty s.heap I.big),rfl,h _ (I.hok.fresh (Nat.le_refl _))⟩
end
structure M1 (X:Cx) (o:Expr) (m:Str) (apos:Pos) (e:Expr) (cpos:Pos):Prop where
 base:attributeBase o m X.env (eval o X.env)=eval o X.env
 few:((backTo cpos (starEach [e] X.env)).all (fun x => !x.1) && (backToKw cpos (keywordEach [] X.env)).all (fun x=>x.1.isSome)
  && decide (([e]:List Expr).length+([]:List Keyword).length+(if([]:List Keyword).isEmpty then 0 else 1)<30))=true
 line:(apos.endLine==cpos.line)=true
 trees:backTo cpos (starEach [e] X.env) = [(false,eval e X.env)]
structure M2 (X:Cx) (o:Expr) (m:Str) (apos:Pos) (e f:Expr) (cpos:Pos):Prop where
 base:attributeBase o m X.env (eval o X.env)=eval o X.env
 few:((backTo cpos (starEach [e,f] X.env)).all (fun x => !x.1) && (backToKw cpos (keywordEach [] X.env)).all (fun x=>x.1.isSome)
  && decide (([e,f]:List Expr).length+([]:List Keyword).length+(if([]:List Keyword).isEmpty then 0 else 1)<30))=true
 line:(apos.endLine==cpos.line)=true
 trees:backTo cpos (starEach [e,f] X.env) = [(false,eval e X.env),(false,eval f X.env)]
section
variable {X:Cx} {pins:List (Addr × Obj)} {σ:St} {H:Hp} {s:Shared} {a:Addr} {y d:V} {u r:Value} {o:Option V} {A:Around} {E:Value→Shared→Prop}
end
section
variable {X:Cx} {o e f:Expr} {apos cpos:Pos} {td ty tx:TE}
end
section
variable {X:Cx} {pins:List (Addr × Obj)} {σ:St} {H:Hp} {s:Shared} {a:Addr} {kvs:List (Key × V)} {A:Around} {E:Value→Shared→Prop}
end
section
variable {X:Cx} {pins:List (Addr × Obj)} {σ:St} {H:Hp} {s:Shared} {a:Addr} {y:V} {u:Value} {A:Around} {E:Value→Shared→Prop}
end
section
variable {X:Cx}
end
section
variable {κ:Type} [DecidableEq κ]
end
end L2
namespace M1
def gap(c:Int):Int := [1,7,500,998].getD (c%4).toNat 1
def couples(c:Int)(m:Nat):List Int:=(List.range m).map fun(k:Nat)=>(c/4+(k:Int)*gap c)%999+1
theorem zeA(c:Int)(m:Nat):(couples c m).length=m:=by unfold couples;simp
theorem zg4(c:Int)(m:Nat):couples c (m+1)=couples c m ++ [(c/4+(m:Int)*gap c)%999+1]:=by unfold couples;rw[List.range_succ,List.map_append];rfl
theorem zf3{c:Int}{m:Nat}{x:Int}(h:x∈couples c m):1≤x∧x≤999:=by
 obtain⟨k,_,rfl⟩:=List.mem_map.mp h
 have h1:=Int.emod_nonneg (c/4+(k:Int)*gap c) (show(999:Int)≠0 by decide)
 have h2:=Int.emod_lt_of_pos (c/4+(k:Int)*gap c) (show(0:Int)<999 by decide)
 omega
theorem gap_cases(c:Int):gap c=1∨gap c=7∨gap c=500∨gap c=998:=by
 have h:c%4=0∨c%4=1∨c%4=2∨c%4=3:=by omega
 unfold gap
 rcases h with h | h | h | h <;> rw[h]
 ·exact .inl rfl
 ·exact .inr (.inl rfl)
 ·exact .inr (.inr (.inl rfl))
 ·exact .inr (.inr (.inr rfl))
theorem zf1{c:Int}{m:Nat}(hm:m≤999):(couples c m).Nodup:=by
 unfold couples
 refine List.pairwise_map.mpr (List.Pairwise.imp_of_mem (fun {i j} hi hj hlt e=>?_) (List.pairwise_lt_range (n:=m)))
 have hi:=List.mem_range.mp hi
 have hj:=List.mem_range.mp hj
 rcases gap_cases c with g | g | g | g <;> rw[g] at e <;> omega
def zcH(ns:List Int):Bool:=(decide (1≤(ns.length:Int)) && decide ((ns.length:Int)≤24)) && (decide ns.Nodup && (ns.map fun n=>decide (1≤n) && decide (n≤999)).all id)
theorem zgD(ns:List Int):zcH ns=true↔(1≤ns.length∧ns.length≤24)∧ns.Nodup∧∀n∈ns,1≤n∧n≤999:=by
 unfold zcH
 simp only[Bool.and_eq_true,decide_eq_true_eq,List.all_map,List.all_eq_true,Function.comp,id]
 constructor
 ·rintro ⟨⟨h1,h2⟩,h3,h4⟩
  exact⟨⟨by omega,by omega⟩,h3,h4⟩
 ·rintro ⟨⟨h1,h2⟩,h3,h4⟩
  exact⟨⟨by omega,by omega⟩,h3,h4⟩
end M1
namespace M2
open PySem L2
def zcR(z:Str):Bool:=(decide (1≤(z.length:Int)) && decide ((z.length:Int)≤8)) && (z.cps.toList.map zbP).all id
def zdh(ts:List Str):Bool:=(decide (1≤(ts.length:Int)) && decide ((ts.length:Int)≤15)) && (decide ts.Nodup && (ts.map zcR).all id)
theorem zcf(z:Str):zcR z=true↔(1≤z.length∧z.length≤8)∧∀c∈z.cps.toList,zbP c=true:=by
 unfold zcR
 simp only[Bool.and_eq_true,decide_eq_true_eq,List.all_map,List.all_eq_true,Function.comp,id]
 constructor
 ·rintro ⟨⟨h1,h2⟩,h3⟩
  exact⟨⟨by omega,by omega⟩,h3⟩
 ·rintro ⟨⟨h1,h2⟩,h3⟩
  exact⟨⟨by omega,by omega⟩,h3⟩
theorem zd8(ts:List Str):zdh ts=true↔(1≤ts.length∧ts.length≤15)∧ts.Nodup∧∀z∈ts,(1≤z.length∧z.length≤8)∧∀c∈z.cps.toList,zbP c=true:=by
 unfold zdh
 simp only[Bool.and_eq_true,decide_eq_true_eq,List.all_map,List.all_eq_true,Function.comp,id,zcf]
 constructor
 ·rintro ⟨⟨h1,h2⟩,h3,h4⟩
  exact⟨⟨by omega,by omega⟩,h3,h4⟩
 ·rintro ⟨⟨h1,h2⟩,h3,h4⟩
  exact⟨⟨by omega,by omega⟩,h3,h4⟩
theorem le_a(c:Nat):(!decide ((⟨#[c]⟩:Str).cps.toList<("a" : Str).cps.toList))=decide (97≤c):=by
 have e:("a" : Str).cps.toList = [97]:=by decide +kernel
 rw[e]
 show(!decide ([c] < [97]))=_
 by_cases h:97≤c
 ·rw[decide_eq_true h,decide_eq_false];rfl
  simp[List.cons_lt_cons_iff];omega
 ·rw[decide_eq_false h,decide_eq_true];rfl
  simp[List.cons_lt_cons_iff];omega
theorem le_z(c:Nat):(!decide (("z" : Str).cps.toList<(⟨#[c]⟩:Str).cps.toList))=decide (c≤122):=by
 have e:("z" : Str).cps.toList = [122]:=by decide +kernel
 rw[e]
 show(!decide ([122] < [c]))=_
 by_cases h:c≤122
 ·rw[decide_eq_true h,decide_eq_false];rfl
  simp[List.cons_lt_cons_iff];omega
 ·rw[decide_eq_false h,decide_eq_true];rfl
  simp[List.cons_lt_cons_iff];omega
end M2
namespace M10
open PySem L2 M2
def zfO(e0 e1:Str)(c:Int)(k:Nat):Str:=e0++⟨#[97+((c+11*(k:Int))%26).toNat]⟩++e1
def zbU(e0 e1:Str)(c:Int)(m:Nat):List Str:=(List.range m).map fun(k:Nat)=>zfO e0 e1 c k
theorem zii(e0 e1:Str)(c:Int)(m:Nat):zbU e0 e1 c (m+1)=zbU e0 e1 c m ++ [zfO e0 e1 c m]:=by unfold zbU;rw[List.range_succ,List.map_append];rfl
theorem zfw(e0 e1:Str)(c:Int)(m:Nat):(zbU e0 e1 c m).length=m:=by unfold zbU;simp
theorem zfD(e0 e1:Str)(c:Int)(k:Nat):(zfO e0 e1 c k).cps.toList=e0.cps.toList ++ [97+((c+11*(k:Int))%26).toNat]++e1.cps.toList:=by
 show(e0.cps ++ #[97+((c+11*(k:Int))%26).toNat]++e1.cps).toList=_
 rw[Array.toList_append,Array.toList_append]
theorem zhh(e0 e1:Str)(c:Int){m:Nat}(hm:m≤26):(zbU e0 e1 c m).Nodup:=by
 unfold zbU
 refine List.pairwise_map.mpr (List.Pairwise.imp_of_mem (fun {i j} hi hj hlt e=>?_) (List.pairwise_lt_range (n:=m)))
 have hi:=List.mem_range.mp hi
 have hj:=List.mem_range.mp hj
 have h:=congrArg (fun s:Str=>s.cps.toList) e
 simp only[zfD,List.append_assoc] at h
 have h2:=List.append_cancel_left h
 have h3:97+((c+11*(i:Int))%26).toNat=97+((c+11*(j:Int))%26).toNat:=by
  have:=List.cons.inj (show(97+((c+11*(i:Int))%26).toNat)::e1.cps.toList=(97+((c+11*(j:Int))%26).toNat)::e1.cps.toList from h2)
  exact this.1
 omega
theorem ziJ{e0 e1:Str}(c:Int)(k:Nat)(hl:e0.length+e1.length≤7)(h0:∀x∈e0.cps.toList,zbP x=true)(h1:∀x∈e1.cps.toList,zbP x=true):zcR (zfO e0 e1 c k)=true:=by
 rw[zcf]
 have hlen:(zfO e0 e1 c k).length=e0.length+1+e1.length:=by unfold zfO;rw[yb,yb];rfl
 refine⟨by omega,fun x hx=>?_⟩
 rw[zfD] at hx
 rcases List.mem_append.mp hx with hx | hx
 ·rcases List.mem_append.mp hx with hx | hx
  ·exact h0 x hx
  ·have e:x=97+((c+11*(k:Int))%26).toNat:=List.mem_singleton.mp hx
   have:=Int.emod_nonneg (c+11*(k:Int)) (show(26:Int)≠0 by decide)
   have:=Int.emod_lt_of_pos (c+11*(k:Int)) (show(0:Int)<26 by decide)
   unfold zbP
   rw[e,decide_eq_true (by omega),decide_eq_true (by omega)]
   rfl
 ·exact h1 x hx
theorem ends_ok(z p:Fin 8)(h:p.val≤z.val):(PySem.Txt.slice "vwxyzab" none (some (p.val:Int))).length+(PySem.Txt.slice "vwxyzab" (some (p.val:Int)) (some (z.val:Int))).length≤7 ∧
 (∀x∈(PySem.Txt.slice "vwxyzab" none (some (p.val:Int))).cps.toList,zbP x=true)∧∀x∈(PySem.Txt.slice "vwxyzab" (some (p.val:Int)) (some (z.val:Int))).cps.toList,zbP x=true:=by
 revert z p
 decide +kernel
end M10
namespace M3
open PySem L2
def got(ms:List Int)(n:Int):List Int:=ms.filter fun m=>decide (m≤n)
def cnt(ms:List Int)(n:Int):Nat:=(got ms n).length
def sm(ms:List Int)(n:Int):Int:=(got ms n).sum
def isF(ms:List Int)(f:Int):Prop:=ms.length<2*cnt ms f∧2*cnt ms (f - 1)≤ms.length
theorem zdG{ms:List Int}{a b:Int}(h:a≤b):cnt ms a≤cnt ms b:=by
 unfold cnt got
 induction ms with
 | nil=>exact Nat.le_refl _
 | cons x ms ih =>
   rw[List.filter_cons,List.filter_cons]
   by_cases h1:x≤a
   ·rw[if_pos (decide_eq_true h1),if_pos (decide_eq_true (by omega)),List.length_cons,List.length_cons];omega
   ·rw[if_neg (by simpa using h1)]
    split
    ·rw[List.length_cons];omega
    ·exact ih
theorem zby{ms:List Int}{f g:Int}(h1:isF ms f)(h2:isF ms g):f=g:=by
 unfold isF at h1 h2
 rcases Int.lt_trichotomy f g with h | h | h
 ·have:=zdG (ms:=ms) (show f≤g - 1 by omega);omega
 ·exact h
 ·have:=zdG (ms:=ms) (show g≤f - 1 by omega);omega
theorem zjd{ms:List Int}{n:Int}(h:∀x∈ms,n<x):cnt ms n=0:=by
 unfold cnt got
 rw[List.filter_eq_nil_iff.mpr]
 ·rfl
 ·intro x hx;have:=h x hx;simp;omega
theorem zh7{ms:List Int}{n:Int}(h:∀x∈ms,x≤n):cnt ms n=ms.length:=by
 unfold cnt got
 rw[List.filter_eq_self.mpr]
 intro x hx;have:=h x hx;simp;omega
theorem zec(ms:List Int)(n:Int):cnt ms n≤ms.length:=List.length_filter_le _ _
theorem zce{ms:List Int}{f:Int}(h:isF ms f)(lo hi:Int)(hl:∀x∈ms,lo≤x∧x≤hi):lo≤f∧f≤hi:=by
 unfold isF at h
 constructor
 ·by_cases c:lo≤f
  ·exact c
  ·have:=zjd (ms:=ms) (n:=f) fun x hx=>by have:=(hl x hx).1;omega
   omega
 ·by_cases c:f≤hi
  ·exact c
  ·have:=zh7 (ms:=ms) (n:=f - 1) fun x hx=>by have:=(hl x hx).2;omega
   have:=zec ms f
   omega
theorem zin{ms:List Int}{i:Nat}(n:Int)(hi:i<ms.length):got (ms.take (i+1)) n=if ms.getD i 0≤n then got (ms.take i) n ++ [ms.getD i 0] else got (ms.take i) n:=by
 unfold got
 rw[yZ hi,List.filter_append,List.filter_cons]
 by_cases h:ms.getD i 0≤n
 ·rw[if_pos (decide_eq_true h),if_pos h];rfl
 ·rw[if_neg (by simpa using h),if_neg h];simp
end M3
namespace L2
open PySem
inductive All2 {α β:Type} (R:α→β→Prop):List α→List β→Prop
 | nil:All2 R [] []
 | cons {a:α} {b:β} {as:List α} {bs:List β}:R a b→All2 R as bs→All2 R (a::as) (b::bs)
namespace All2
variable {α β:Type} {R S:α→β→Prop} {as as':List α} {bs bs':List β}
theorem length(h:All2 R as bs):as.length=bs.length:=by
 induction h with
 | nil=>rfl
 | cons _ _ ih=>rw[List.length_cons,List.length_cons,ih]
theorem imp(f:∀a b,R a b→S a b)(h:All2 R as bs):All2 S as bs:=by
 induction h with
 | nil=>exact .nil
 | cons r _ ih=>exact .cons (f _ _ r) ih
theorem append(h:All2 R as bs)(h':All2 R as' bs'):All2 R (as++as') (bs++bs'):=by
 induction h with
 | nil=>exact h'
 | cons r _ ih=>exact .cons r ih
theorem snoc{a:α}{b:β}(h:All2 R as bs)(r:R a b):All2 R (as ++ [a]) (bs ++ [b]):=h.append (.cons r .nil)
theorem get(h:All2 R as bs):∀{i:Nat} {b:β},bs[i]? = some b→∃a,as[i]? = some a∧R a b:=by
 induction h with
 | nil=>intro i b e;simp at e
 | cons r _ ih =>
   intro i b e
   cases i with
   | zero=>simp only[List.getElem?_cons_zero] at e ⊢;cases e;exact⟨_,rfl,r⟩
   | succ i=>simp only[List.getElem?_cons_succ] at e ⊢;exact ih e
theorem getL(h:All2 R as bs):∀{i:Nat} {a:α},as[i]? = some a→∃b,bs[i]? = some b∧R a b:=by
 induction h with
 | nil=>intro i b e;simp at e
 | cons r _ ih =>
   intro i b e
   cases i with
   | zero=>simp only[List.getElem?_cons_zero] at e ⊢;cases e;exact⟨_,rfl,r⟩
   | succ i=>simp only[List.getElem?_cons_succ] at e ⊢;exact ih e
end All2
def zdg{α:Type}(K:PySem.W.Frag)(R:Hp→Addr→α→Prop)(H:Hp)(a:Addr)(xs:List α):Prop:=∃ls:List Addr,SqL K H a (ls.map V.ref)∧All2 (R H) ls xs
def zju{α:Type}(R:Hp→Addr→α→Prop):Prop:=∀H H' l x,zi H H'→R H l x→R H' l x
theorem zdg.same{α:Type}{K:PySem.W.Frag}{R:Hp→Addr→α→Prop}(st:zju R){H H':Hp}{a:Addr}{xs:List α}(s:zi H H')(h:zdg K R H a xs):zdg K R H' a xs:=by
 obtain⟨ls,q,r⟩:=h
 exact⟨ls,s.seq q,r.imp fun a b=>st _ _ _ _ s⟩
def IL(K:PySem.W.Frag)(H:Hp)(l:Addr)(c:List Int):Prop:=SqL K H l (c.map V.int)
def TPl(K:PySem.W.Frag)(H:Hp)(l:Addr)(p:Int × Int):Prop:=SqT K H l [.int p.1,.int p.2]
theorem IL.stays(K:PySem.W.Frag):zju (IL K):=fun _ _ _ _ s h=>zi.seq s h
theorem TPl.stays(K:PySem.W.Frag):zju (TPl K):=fun _ _ _ _ s h=>s.seqT h
theorem zbQ{ls:List Addr}{i:Nat}{l:Addr}(h:ls[i]? = some l):(ls.map V.ref)[i]? = some (.ref l):=by rw[List.getElem?_map,h];rfl
theorem zbw{ls:List Addr}{i:Nat}{x:V}(h:(ls.map V.ref)[i]? = some x):∃l,ls[i]? = some l∧x=.ref l:=by
 rw[List.getElem?_map] at h
 cases e:ls[i]? with
 | none=>rw[e] at h;cases h
 | some l=>rw[e] at h;cases h;exact⟨l,rfl,rfl⟩
theorem SqT.put{K:PySem.W.Frag}{H:Hp}{a p:Addr}{xs ys:List V}{o:HO}(h:SqT K H a xs)(hp:H p=some (.lst ys)):SqT K (upd H p o) a xs:=by
 rcases h with(h | ⟨u,h⟩) | h
 ·exact .inl (.inl (by rw[zj (fun e=>by rw[e,hp] at h;cases h)];exact h))
 ·exact .inl (.inr ⟨u,by rw[zj (fun e=>by rw[e,hp] at h;cases h)];exact h⟩)
 ·exact .inr h
theorem zhF{H:Hp}{l:Addr}(ls:List Addr)(x:Addr):upd H l (.lst (ls.map V.ref ++ [V.ref x])) l=some (.lst ((ls ++ [x]).map V.ref)):=zg.trans (congrArg (fun l=>some (HO.lst l)) (by rw[List.map_append];rfl))
theorem pe_both{X:Cx}{e:Expr}{t u:TE}(h1:PE X e t)(h2:PE X e u):PE X e (fun σ H Q=>t σ H Q∨u σ H Q):=by
 intro pins s σ H Q I h
 rcases h with h | h
 ·exact h1 pins s σ H Q I h
 ·exact h2 pins s σ H Q I h
structure Sh where
 couples:List Int
 struck:List Int
 panel:List Str
 card:Str→Option (List Int)
 taken:Nat
 shut:Bool
def wo(c:Int)(l:List Int):List Int:=l.filter fun o => !decide (o=c)
namespace Sh
structure Ok (S:Sh):Prop where
 c1:1≤S.couples.length
 c24:S.couples.length+S.struck.length≤24
 nd:S.couples.Nodup
 rng:∀c∈S.couples,1≤c∧c≤999
 p1:1≤S.panel.length
 p15:S.panel.length≤15
 pnd:S.panel.Nodup
 cd:∀j c,S.card j=some c→j∈S.panel∧c.Perm S.couples
 t200:S.taken≤200
def handed(S:Sh):List Str:=S.panel.filter fun j=>(S.card j).isSome
def cardsIn(S:Sh):List (List Int):=S.handed.map fun j=>(S.card j).getD []
def new(us:List Int)(ts:List Str):Sh:=⟨us,[],ts,fun _=>none,0,false⟩
def hand(S:Sh)(j:Str)(c:List Int):Sh:={ S with card:=fun k=>if k=j then some c else S.card k,taken:=S.taken+1 }
def refuse(S:Sh)(j:Str)(c:List Int):Option Str :=
 if S.shut=true then some "SheetSealed" else if j∈S.panel then(if c.Perm S.couples then(if 200≤S.taken then some "TooManyCards" else none)else some "BadCard")else some "UnknownJudge"
def strike(S:Sh)(c:Int):Sh:={ S with couples:=wo c S.couples,struck:=S.struck ++ [c],card:=fun j=>(S.card j).map (wo c) }
def refuseS(S:Sh)(c:Int):Option Str :=
 if S.shut=true then some "SheetSealed" else if c∈S.couples then(if S.couples.length=1 then some "LastCouple" else none)else some "UnknownCouple"
def close(S:Sh):Sh:={ S with shut:=true }
theorem Ok.new{us:List Int}{ts:List Str}(h1:M1.zcH us=true)(h2:M2.zdh ts=true):(new us ts).Ok:=by
 have g1:=h1
 unfold M1.zcH at g1
 simp only[Bool.and_eq_true,decide_eq_true_eq,List.all_map,List.all_eq_true,Function.comp,id] at g1
 obtain⟨⟨a1,a2⟩,a3,a4⟩:=g1
 obtain⟨⟨b1,b2⟩,b3,_⟩:=(M2.zd8 ts).mp h2
 exact⟨by show 1≤us.length;omega,by show us.length+0≤24;omega,a3,a4,b1,b2,b3,(fun _ _ h=>nomatch h),Nat.zero_le _⟩
theorem Ok.hand{S:Sh}(h:S.Ok){j:Str}{c:List Int}(hr:S.refuse j c=none):(S.hand j c).Ok∧j∈S.panel∧c.Perm S.couples∧S.taken<200∧S.shut=false:=by
 unfold refuse at hr
 split at hr
 ·cases hr
 rename_i h1
 split at hr
 rename_i h2
 split at hr
 rename_i h3
 split at hr
 ·cases hr
 rename_i h4
 ·refine⟨⟨h.c1,h.c24,h.nd,h.rng,h.p1,h.p15,h.pnd,fun k d e=>?_,by show S.taken+1≤200;omega⟩,h2,h3,by omega,by simpa using h1⟩
  have e:(if k=j then some c else S.card k)=some d:=e
  by_cases ek:k=j
  ·rw[if_pos ek] at e
   cases e
   subst ek
   exact⟨h2,h3⟩
  ·rw[if_neg ek] at e
   exact h.cd k d e
 ·cases hr
 ·cases hr
theorem wo_len{c:Int}{l:List Int}(nd:l.Nodup)(hc:c∈l):(wo c l).length+1=l.length:=by
 unfold wo
 have e:(l.filter fun o => !decide (o=c))=l.erase c:=by
  rw[nd.erase_eq_filter]
  refine List.filter_congr fun x _=>?_
  by_cases h:x=c
  ·subst h;simp
  ·simp[h]
 rw[e,List.length_erase_of_mem hc]
 have:=List.length_pos_of_mem hc
 omega
theorem Ok.strike{S:Sh}(h:S.Ok){c:Int}(hr:S.refuseS c=none):(S.strike c).Ok∧c∈S.couples∧2≤S.couples.length∧S.shut=false:=by
 unfold refuseS at hr
 split at hr
 ·cases hr
 rename_i h1
 split at hr
 rename_i h2
 split at hr
 ·cases hr
 rename_i h3
 ·have hl:=wo_len h.nd h2
  have h0:=h.c1
  have h24:=h.c24
  refine⟨⟨?_,?_,h.nd.filter _,fun d hd=>h.rng d (List.mem_filter.mp hd).1,h.p1,h.p15,h.pnd,fun k d e=>?_,h.t200⟩,h2,by omega,by simpa using h1⟩
  ·show 1≤(wo c S.couples).length
   omega
  ·show(wo c S.couples).length+(S.struck ++ [c]).length≤24
   rw[List.length_append,List.length_singleton]
   omega
  ·have e:(S.card k).map (wo c)=some d:=e
   cases q:S.card k with
   | none=>rw[q] at e;cases e
   | some b =>
     rw[q] at e
     cases e
     exact⟨(h.cd k b q).1,(h.cd k b q).2.filter _⟩
 ·cases hr
theorem Ok.close{S:Sh}(h:S.Ok):S.close.Ok:=⟨h.c1,h.c24,h.nd,h.rng,h.p1,h.p15,h.pnd,h.cd,h.t200⟩
end Sh
def shF(a1 a2 a3 d:Addr)(S:Sh):List (Str × V) := [("standing",.ref a1),("struck_so_far",.ref a2),("panel",.ref a3),("card_by_judge",.ref d),("taken_so_far",.int S.taken),("sealed",.bl S.shut)]
structure Shape (K:PySem.W.Frag) (H:Hp) (p:Addr) (F:Addr→Prop) (S:Sh) (dx a1 a2 a3 d:Addr) (kvs:List (Key × V)):Prop where
 ip:H p=some (.ins (zH K "Sheet") dx (shF a1 a2 a3 d S))
 i1:H a1=some (.lst (S.couples.map V.int))
 i2:H a2=some (.lst (S.struck.map V.int))
 i3:H a3=some (.lst (S.panel.map V.str))
 i4:H d=some (.dK kvs)
 kl:kvs.length≤S.taken
 cn:∀j,S.card j=none→zaO kvs (Sum.inr j)=none
 cs:∀j c,S.card j=some c→∃l,zaO kvs (Sum.inr j)=some (.ref l)∧H l=some (.lst (c.map V.int))∧F l∧l≠a2
 fp:F p
 f1:F a1
 f2:F a2
 f3:F a3
 f4:F d
 n12:a1≠a2
 n32:a3≠a2
 fh:∀b,F b→H b≠none
structure SheetIn (K:PySem.W.Frag) (H:Hp) (p:Addr) (F:Addr→Prop) (S:Sh) (dx a1 a2 a3 d:Addr) (kvs:List (Key × V)):Prop extends Shape K H p F S dx a1 a2 a3 d kvs where
 ok:S.Ok
def zjt(K:PySem.W.Frag)(H:Hp)(p:Addr)(F:Addr→Prop)(S:Sh):Prop:=∃dx a1 a2 a3 d kvs,Shape K H p F S dx a1 a2 a3 d kvs
def zB(K:PySem.W.Frag)(H:Hp)(p:Addr)(F:Addr→Prop)(S:Sh):Prop:=∃dx a1 a2 a3 d kvs,SheetIn K H p F S dx a1 a2 a3 d kvs
theorem SheetIn.off{K:PySem.W.Frag}{H H':Hp}{p:Addr}{F:Addr→Prop}{S:Sh}{dx a1 a2 a3 d:Addr}{kvs:List (Key × V)}(h:SheetIn K H p F S dx a1 a2 a3 d kvs)(e:∀b,F b→H' b=H b):SheetIn K H' p F S dx a1 a2 a3 d kvs :=
 ⟨⟨(e _ h.fp).trans h.ip,(e _ h.f1).trans h.i1,(e _ h.f2).trans h.i2,(e _ h.f3).trans h.i3,(e _ h.f4).trans h.i4,h.kl,h.cn,
  fun j c hc=>let ⟨l,x1,x2,x3,x4⟩:=h.cs j c hc;⟨l,x1,(e _ x3).trans x2,x3,x4⟩,h.fp,h.f1,h.f2,h.f3,h.f4,h.n12,h.n32,fun b hb=>by rw[e b hb];exact h.fh b hb⟩,h.ok⟩
theorem zB.off{K:PySem.W.Frag}{H H':Hp}{p:Addr}{F:Addr→Prop}{S:Sh}(h:zB K H p F S)(e:∀b,F b→H' b=H b):zB K H' p F S:=by
 obtain⟨dx,a1,a2,a3,d,kvs,h⟩:=h
 exact⟨dx,a1,a2,a3,d,kvs,h.off e⟩
theorem zB.fh{K:PySem.W.Frag}{H:Hp}{p:Addr}{F:Addr→Prop}{S:Sh}(h:zB K H p F S):∀b,F b→H b≠none:=by
 obtain⟨dx,a1,a2,a3,d,kvs,h⟩:=h
 exact h.fh
theorem zB.ok{K:PySem.W.Frag}{H:Hp}{p:Addr}{F:Addr→Prop}{S:Sh}(h:zB K H p F S):S.Ok:=by
 obtain⟨dx,a1,a2,a3,d,kvs,h⟩:=h
 exact h.ok
theorem zB.shape{K:PySem.W.Frag}{H:Hp}{p:Addr}{F:Addr→Prop}{S:Sh}(h:zB K H p F S):zjt K H p F S:=by
 obtain⟨dx,a1,a2,a3,d,kvs,h⟩:=h
 exact⟨dx,a1,a2,a3,d,kvs,h.toShape⟩
theorem zB.same{K:PySem.W.Frag}{H H':Hp}{p:Addr}{F:Addr→Prop}{S:Sh}(h:zB K H p F S)(s:zi H H'):zB K H' p F S:=h.off fun b hb=>by
 have:=h.fh b hb
 cases e:H b with
 | none=>exact absurd e this
 | some o=>exact s b o e
def zcv(F:Addr→Prop)(H:Hp)(F':Addr→Prop)(H':Hp):Prop:=∀b o,H b=some o→¬F b→H' b=some o∧¬F' b
def LQ(K:PySem.W.Frag)(F:Addr→Prop)(H:Hp)(a:Addr)(xs:List V):Prop :=
 (Rd H a (.lst xs)∧¬F a)∨∃(o:Obj) (its:Array Value) (n:Nat),K.lookup a=some o∧o.cls=.type "list" ∧ o.dict=none∧o.data=.seq its n∧its.size≤sizeLine∧zG xs its.toList
theorem LQ.sq{K:PySem.W.Frag}{F:Addr→Prop}{H:Hp}{a:Addr}{xs:List V}(h:LQ K F H a xs):SqL K H a xs:=h.imp (fun z=>z.1) id
theorem LQ.deed{K:PySem.W.Frag}{F F':Addr→Prop}{H H':Hp}{a:Addr}{xs:List V}(h:LQ K F H a xs)(d:zcv F H F' H'):LQ K F' H' a xs:=by
 rcases h with⟨r | ⟨o,r⟩,n⟩ | h
 ·exact .inl ⟨.inl (d a _ r n).1,(d a _ r n).2⟩
 ·exact .inl ⟨.inr ⟨o,(d a _ r n).1⟩,(d a _ r n).2⟩
 ·exact .inr h
theorem LQ.same{K:PySem.W.Frag}{F:Addr→Prop}{H H':Hp}{a:Addr}{xs:List V}(h:LQ K F H a xs)(s:zi H H'):LQ K F H' a xs:=by
 rcases h with⟨r | ⟨o,r⟩,n⟩ | h
 ·exact .inl ⟨.inl (s a _ r),n⟩
 ·exact .inl ⟨.inr ⟨o,s a _ r⟩,n⟩
 ·exact .inr h
theorem LQ.of{K:PySem.W.Frag}{F:Addr→Prop}{H:Hp}{a:Addr}{xs:List V}(h:H a=some (.lst xs))(n:¬F a):LQ K F H a xs:=.inl ⟨.inl h,n⟩
theorem SqL.none{K:PySem.W.Frag}{H:Hp}{a:Addr}{xs:List V}(h:SqL K H a xs):LQ K (fun _=>False) H a xs:=h.imp (fun z=>⟨z,fun w=>w⟩) id
theorem zcv.same{F:Addr→Prop}{H H':Hp}(s:zi H H'):zcv F H F H':=fun b o e n=>⟨s b o e,n⟩
theorem zcv.trans{F F1 F2:Addr→Prop}{H H1 H2:Hp}(a:zcv F H F1 H1)(b:zcv F1 H1 F2 H2):zcv F H F2 H2:=fun c o e n=>b c o (a c o e n).1 (a c o e n).2
theorem zB.apart{K:PySem.W.Frag}{H:Hp}{p:Addr}{F:Addr→Prop}{S:Sh}(h:zB K H p F S){l:Addr}(n:H l=none):¬F l:=fun z=>h.fh l z n
theorem zdY{H:Hp}{x l:Addr}{o u i:HO}(hx:H x=some i)(hl:H l=none):upd (upd H l o) x u x=some u∧upd (upd H l o) x u l=some o∧l≠x∧∀b v,H b=some v→b≠x→upd (upd H l o) x u b=some v:=by
 have n:l≠x:=fun e=>by rw[e,hx] at hl;cases hl
 exact⟨zg,by rw[zj n];exact zg,n,fun b v e nb=>by rw[zj nb,zj (zu e hl)];exact e⟩
theorem zfp(f:Str)(v x:V)(r:List (Str × V)):zav f v ((f,x)::r)=(f,v)::r:=by rw[zav,if_pos rfl]
theorem yc{f g:Str}(v x:V)(r:List (Str × V))(h:g≠f):zav f v ((g,x)::r)=(g,x)::zav f v r:=by rw[zav,if_neg h]
theorem pf1(v:V):zav "standing" v []=([("standing",v)]:List (Str × V)):=rfl
theorem pf2(u v:V):zav "struck_so_far" v [("standing",u)]=([("standing",u),("struck_so_far",v)]:List (Str × V)):=by rw[yc _ _ _ (by decide)];rfl
theorem pf3(u w v:V):zav "panel" v [("standing",u),("struck_so_far",w)]=([("standing",u),("struck_so_far",w),("panel",v)]:List (Str × V)):=by rw[yc _ _ _ (by decide),yc _ _ _ (by decide)];rfl
theorem pf4(u w y v:V):zav "card_by_judge" v [("standing",u),("struck_so_far",w),("panel",y)]=([("standing",u),("struck_so_far",w),("panel",y),("card_by_judge",v)]:List (Str × V)):=by rw[yc _ _ _ (by decide),yc _ _ _ (by decide),yc _ _ _ (by decide)];rfl
theorem pf5(u w y z v:V):zav "taken_so_far" v [("standing",u),("struck_so_far",w),("panel",y),("card_by_judge",z)]=([("standing",u),("struck_so_far",w),("panel",y),("card_by_judge",z),("taken_so_far",v)]:List (Str × V)):=by rw[yc _ _ _ (by decide),yc _ _ _ (by decide),yc _ _ _ (by decide),yc _ _ _ (by decide)];rfl
theorem pf6(u w y z t v:V):zav "sealed" v [("standing",u),("struck_so_far",w),("panel",y),("card_by_judge",z),("taken_so_far",t)]=([("standing",u),("struck_so_far",w),("panel",y),("card_by_judge",z),("taken_so_far",t),("sealed",v)]:List (Str × V)):=by rw[yc _ _ _ (by decide),yc _ _ _ (by decide),yc _ _ _ (by decide),yc _ _ _ (by decide),yc _ _ _ (by decide)];rfl
theorem zhO(a1 a2 a3 d b:Addr)(S S':Sh)(h:S'.taken=S.taken)(h2:S'.shut=S.shut):zav "standing" (.ref b) (shF a1 a2 a3 d S)=shF b a2 a3 d S':=by unfold shF;rw[zfp,h,h2]
theorem pf_taken(a1 a2 a3 d:Addr)(S S':Sh)(h2:S'.shut=S.shut):zav "taken_so_far" (.int S'.taken) (shF a1 a2 a3 d S)=shF a1 a2 a3 d S':=by
 unfold shF
 rw[yc _ _ _ (by decide),yc _ _ _ (by decide),yc _ _ _ (by decide),yc _ _ _ (by decide),zfp,h2]
theorem pf_sealed(a1 a2 a3 d:Addr)(S S':Sh)(h:S'.taken=S.taken):zav "sealed" (.bl S'.shut) (shF a1 a2 a3 d S)=shF a1 a2 a3 d S':=by
 unfold shF
 rw[yc _ _ _ (by decide),yc _ _ _ (by decide),yc _ _ _ (by decide),yc _ _ _ (by decide),yc _ _ _ (by decide),zfp,h]
theorem putK_len{kvs:List (Key × V)}{k:Key}{v u:V}(h:zaO kvs k=some u):(zbV kvs k v).length=kvs.length:=by
 unfold zbV
 have:(kvs.any fun kv=>decide (kv.1=k))=true:=by rw[zcW,h];rfl
 rw[if_pos this,List.length_map]
theorem zB.ins{K:PySem.W.Frag}{H:Hp}{p:Addr}{F:Addr→Prop}{S:Sh}(h:zB K H p F S):∃dx a1 a2 a3 d,H p=some (.ins (zH K "Sheet") dx (shF a1 a2 a3 d S)):=by
 obtain⟨dx,a1,a2,a3,d,kvs,h⟩:=h
 exact⟨dx,a1,a2,a3,d,h.ip⟩
def Sh.rows(S:Sh):List (List Int):=S.panel.map fun j=>(S.card j).getD []
def zdm(cs:List (List Int)):List Int:=((List.range cs.length).filter fun k => !decide (cs.getD k [] = [])).map fun(k:Nat)=>(k:Int)
theorem map_getD{α:Type}(l:List α)(d:α):(List.range l.length).map (fun k=>l.getD k d)=l:=by
 refine List.ext_getElem (by simp) fun i h1 h2=>?_
 simp[h2]
theorem zee{cs:List (List Int)}{x:Int}(h:x∈zdm cs):0≤x∧x.toNat<cs.length∧cs.getD x.toNat [] ≠ []:=by
 obtain⟨k,hk,rfl⟩:=List.mem_map.mp h
 obtain⟨h1,h2⟩:=List.mem_filter.mp hk
 have h1:=List.mem_range.mp h1
 refine⟨by omega,by simpa using h1,fun z=>?_⟩
 have e:((k:Int)).toNat=k:=by omega
 rw[e] at z
 rw[decide_eq_true z] at h2
 exact absurd h2 (by decide)
theorem intoK_len(cs:List (List Int)):(zdm cs).length≤cs.length:=by
 unfold zdm
 rw[List.length_map]
 exact Nat.le_trans (List.length_filter_le _ _) (by rw[List.length_range];exact Nat.le_refl _)
theorem Sh.rows_len(S:Sh):S.rows.length=S.panel.length:=by unfold rows;simp
theorem Sh.rows_at(S:Sh){k:Nat}(h:k<S.panel.length):S.rows.getD k []=(S.card (S.panel.getD k "")).getD []:=by
 unfold rows
 rw[List.getD_eq_getElem?_getD,List.getD_eq_getElem?_getD,List.getElem?_map,List.getElem?_eq_getElem h]
 rfl
theorem Sh.Ok.full{S:Sh}(h:S.Ok){j:Str}{c:List Int}(e:S.card j=some c):c ≠ []:=fun z=>by
 have:=(h.cd j c e).2.length_eq
 have h1:=h.c1
 rw[z] at this
 simp at this
 omega
theorem Sh.into_names{S:Sh}(h:S.Ok):(zdm S.rows).map (fun x=>S.panel.getD x.toNat "")=S.handed:=by
 unfold zdm Sh.handed
 rw[List.map_map]
 conv=>rhs;rw[← map_getD S.panel ""]
 rw[List.filter_map,Sh.rows_len]
 have e:(List.range S.panel.length).filter (fun k => !decide (S.rows.getD k [] = []))=(List.range S.panel.length).filter ((fun j=>(S.card j).isSome) ∘ fun k=>S.panel.getD k ""):=by
  refine List.filter_congr fun k hk=>?_
  have hk:=List.mem_range.mp hk
  rw[S.rows_at hk]
  show _=(S.card (S.panel.getD k "")).isSome
  cases e:S.card (S.panel.getD k "")with
  | none=>rfl
  | some c=>rw[show(some c).getD ([]:List Int)=c from rfl,decide_eq_false (h.full e)];rfl
 rw[e]
 refine List.map_congr_left fun k _=>?_
 show S.panel.getD ((k:Int)).toNat "" = _
 rw[show((k:Int)).toNat=k by omega]
theorem Sh.into_cards{S:Sh}(h:S.Ok):(zdm S.rows).map (fun x=>S.rows.getD x.toNat [])=S.cardsIn:=by
 unfold Sh.cardsIn
 rw[← Sh.into_names h,List.map_map]
 refine List.map_congr_left fun x hx=>?_
 have:=zee hx
 rw[S.rows_at (by rw[← Sh.rows_len];exact this.2.1)]
 rfl
theorem Sh.into_one{S:Sh}(h:S.Ok){x:Int}(hx:x∈zdm S.rows):S.card (S.panel.getD x.toNat "")=some (S.rows.getD x.toNat []):=by
 have hm:=zee hx
 have e:=S.rows_at (k:=x.toNat) (by rw[← Sh.rows_len];exact hm.2.1)
 cases q:S.card (S.panel.getD x.toNat "")with
 | none=>rw[q] at e;exact absurd e hm.2.2
 | some c=>rw[q] at e;rw[e];rfl
theorem ze9(cs:List (List Int))(i:Nat):(((List.range (i+1)).filter fun k => !decide (cs.getD k [] = [])).map fun(k:Nat)=>(k:Int))=(((List.range i).filter fun k => !decide (cs.getD k [] = [])).map fun(k:Nat)=>(k:Int))++(if cs.getD i [] = [] then [] else [(i:Int)]):=by
 rw[List.range_succ,List.filter_append,List.map_append]
 congr 1
 by_cases h:cs.getD i [] = []
 ·rw[if_pos h,List.filter_cons,if_neg (by rw[decide_eq_true h];decide)];rfl
 ·rw[if_neg h,List.filter_cons,if_pos (by rw[decide_eq_false h];rfl)];rfl
theorem All2.at{α β:Type}{R:α→β→Prop}{as:List α}{bs:List β}(h:All2 R as bs){i:Nat}(hi:i<bs.length)(d:β):∃a,as[i]? = some a∧R a (bs.getD i d):=by
 have e:bs[i]? = some (bs.getD i d):=by rw[List.getD_eq_getElem?_getD,List.getElem?_eq_getElem hi];rfl
 exact h.get e
theorem All2.set{α β:Type}{R:α→β→Prop}{as:List α}{bs:List β}(h:All2 R as bs){a:α}{b:β}(r:R a b):∀k,All2 R (as.set k a) (bs.set k b):=by
 induction h with
 | nil=>intro k;exact .nil
 | cons r' h' ih =>
   intro k
   cases k with
   | zero=>exact .cons r h'
   | succ k=>exact .cons r' (ih k)
def Rows(F:Addr→Prop)(H:Hp)(lc:Addr)(ls:List Addr)(cs:List (List Int)):Prop:=H lc=some (.lst (ls.map V.ref))∧¬F lc∧All2 (fun l c=>H l=some (.lst (c.map V.int))∧¬F l) ls cs
theorem Rows.len{F:Addr→Prop}{H:Hp}{lc:Addr}{ls:List Addr}{cs:List (List Int)}(h:Rows F H lc ls cs):ls.length=cs.length:=h.2.2.length
theorem Rows.deed{F F':Addr→Prop}{H H':Hp}{lc:Addr}{ls:List Addr}{cs:List (List Int)}(h:Rows F H lc ls cs)(d:zcv F H F' H'):Rows F' H' lc ls cs :=
 ⟨(d _ _ h.1 h.2.1).1,(d _ _ h.1 h.2.1).2,h.2.2.imp fun _ _ z=>d _ _ z.1 z.2⟩
theorem Rows.same{F:Addr→Prop}{H H':Hp}{lc:Addr}{ls:List Addr}{cs:List (List Int)}(h:Rows F H lc ls cs)(s:zi H H'):Rows F H' lc ls cs:=h.deed (zcv.same s)
theorem zje{ls:List Addr}{c:List Int}(h:ls ≠ []):(HO.lst (c.map V.int)) ≠ .lst (ls.map V.ref):=fun z=>by
 injection z with z
 cases ls with
 | nil=>exact h rfl
 | cons l ls=>cases c with
   | nil=>cases z
   | cons x c=>simp at z
theorem Rows.set{F:Addr→Prop}{H:Hp}{lc:Addr}{ls:List Addr}{cs:List (List Int)}(h:Rows F H lc ls cs)(hne:ls ≠ []){m:Addr}{c:List Int}(hm:H m=some (.lst (c.map V.int)))(nm:¬F m)(k:Nat):
 Rows F (upd H lc (.lst ((ls.map V.ref).set k (.ref m)))) lc (ls.set k m) (cs.set k c):=by
 refine⟨by rw[zg,List.map_set],h.2.1,All2.set (h.2.2.imp fun l c z=>⟨?_,z.2⟩) ⟨?_,nm⟩ k⟩
 ·rw[zj (y6 z.1 h.1 (zje hne))];exact z.1
 ·rw[zj (y6 hm h.1 (zje hne))];exact hm
theorem Sh.rows_hand{S:Sh}(h:S.panel.Nodup){k:Nat}(hk:k<S.panel.length)(c:List Int):(S.hand (S.panel.getD k "") c).rows=S.rows.set k c:=by
 unfold Sh.rows
 refine List.ext_getElem (by simp;rfl) fun i h1 h2=>?_
 have hi:i<S.panel.length:=by simpa using h2
 rw[List.getElem_set]
 have e1:((S.hand (S.panel.getD k "") c).panel.map fun j=>((S.hand (S.panel.getD k "") c).card j).getD [])[i]=(if S.panel[i]=S.panel.getD k "" then some c else S.card S.panel[i]).getD []:=by
  rw[List.getElem_map]
  rfl
 rw[e1]
 have ek:S.panel.getD k "" = S.panel[k]:=by rw[List.getD_eq_getElem?_getD,List.getElem?_eq_getElem hk];rfl
 by_cases hki:k=i
 ·subst hki
  rw[if_pos ek.symm,if_pos rfl]
  rfl
 ·rw[if_neg hki,if_neg (fun z=>hki (List.getElem_inj h |>.mp (z.trans ek)).symm),List.getElem_map]
theorem Sh.rows_strike(S:Sh)(c:Int):(S.strike c).rows=S.rows.map (wo c):=by
 unfold Sh.rows
 rw[List.map_map]
 refine List.map_congr_left fun j _=>?_
 show((S.card j).map (wo c)).getD []=wo c ((S.card j).getD [])
 cases S.card j with
 | none=>rfl
 | some d=>rfl
theorem Sh.rows_le{S:Sh}(h:S.Ok){d:List Int}(hd:d∈S.rows):d.length≤24:=by
 unfold Sh.rows at hd
 obtain⟨j,_,rfl⟩:=List.mem_map.mp hd
 cases e:S.card j with
 | none=>exact Nat.zero_le _
 | some c =>
   have:=(h.cd j c e).2.length_eq
   have:=h.c24
   show c.length≤24
   omega
end L2
namespace M5
open PySem L2 M3
def key(ms:List Int):Nat→List Int
 | 0 => []
 | k+1=>(fun a:List Int=>if a = [] then [] else a ++ [-((got ms ((k:Int)+1)).length:Int),(got ms ((k:Int)+1)).sum])
    (if key ms k = []∧ms.length<2*(got ms ((k:Int)+1)).length then [(k:Int)+1] else key ms k)
def zA(cs:List (List Int))(c:Int):List Int:=cs.map fun card=>(card.idxOf c:Int)+1
def zhy(rs:List (List Int))(m:List Int):Nat:=(rs.filter fun r=>HT.lexLt r m).length
def rows(ps us:List Int):List (Int × Int):=(List.range us.length).flatMap fun(i:Nat)=>(ps.zip us).filter fun p=>decide (p.1=(i:Int)+1)
theorem wA(cs:List (List Int))(c:Int):(zA cs c).length=cs.length:=by unfold zA;simp
theorem rows_len(ps us:List Int)(h:ps.length=us.length):(rows ps us).length≤us.length*us.length:=by
 unfold rows
 have go:∀n:Nat,((List.range n).flatMap fun(i:Nat)=>(ps.zip us).filter fun p=>decide (p.1=(i:Int)+1)).length≤n*us.length:=fun n=>by
  induction n with
  | zero=>simp
  | succ n ih =>
    rw[List.range_succ,List.flatMap_append,List.length_append,Nat.succ_mul]
    have h1:=List.length_filter_le (fun p=>decide (p.1=(n:Int)+1)) (ps.zip us)
    rw[List.length_zip,h,Nat.min_self] at h1
    have e:List.flatMap (fun(i:Nat)=>(ps.zip us).filter fun p=>decide (p.1=(i:Int)+1)) [n]=(ps.zip us).filter fun p=>decide (p.1=(n:Int)+1):=by simp
    rw[e]
    omega
 exact go us.length
end M5
namespace M6
open PySem L2 M3 M5
abbrev Sg:=Option (Int × Int)
def sg(a:List Int)(k:Int):Sg:=if a.length<2*cnt a k then some ((cnt a k:Int),sm a k)else none
def olt:Sg→Sg→Bool
 | some _,none=>true
 | none,_=>false
 | some p,some q=>decide (q.1<p.1) || (decide (p.1=q.1) && decide (p.2<q.2))
def yh:List Sg→List Sg→Bool
 | x::xs,y::ys=>if x=y then yh xs ys else olt x y
 | _,_=>false
def zaC(a:List Int)(n:Nat):List Sg:=(List.range n).map fun(i:Nat)=>sg a ((i:Int)+1)
def yw(a b:List Int)(n:Nat):Bool:=yh (zaC a n) (zaC b n)
def tl(a:List Int)(f m:Nat):List Int:=(List.range m).flatMap fun(i:Nat) => [-(cnt a ((f:Int)+i):Int),sm a ((f:Int)+i)]
theorem sg_none{a:List Int}{k:Int}(h:2*cnt a k≤a.length):sg a k=none:=by unfold sg;rw[if_neg (by omega)]
theorem sg_some{a:List Int}{k:Int}(h:a.length<2*cnt a k):sg a k=some ((cnt a k:Int),sm a k):=by unfold sg;rw[if_pos h]
theorem zjc{a:List Int}{n k:Int}(h:∀x∈a,x≤n)(hk:n≤k):sg a k=sg a n:=by
 have e:got a k=got a n:=by
  unfold got
  exact List.filter_congr fun x hx=>by
   have:=h x hx
   rw[decide_eq_true (by omega),decide_eq_true this]
 unfold sg cnt sm
 rw[e]
theorem zgI(a:List Int)(n:Nat):zaC a (n+1)=zaC a n ++ [sg a ((n:Int)+1)]:=by unfold zaC;rw[List.range_succ,List.map_append];rfl
theorem zcg(a:List Int)(n:Nat):(zaC a n).length=n:=by unfold zaC;simp
theorem zdZ:∀{xs ys:List Sg} {x y:Sg},xs.length=ys.length→(x=y∨xs≠ys)→yh (xs ++ [x]) (ys ++ [y])=yh xs ys
 | [],[],x,y,_,h=>by
   rcases h with h | h
   ·subst h;show(if x=x then false else olt x x)=false;rw[if_pos rfl]
   ·exact absurd rfl h
 | p::xs,q::ys,x,y,hl,h=>by
   rw[List.cons_append,List.cons_append,yh,yh]
   by_cases e:p=q
   ·subst e
    rw[if_pos rfl,if_pos rfl]
    exact zdZ (by simpa using hl) (h.imp id fun z w=>z (by rw[w]))
   ·rw[if_neg e,if_neg e]
theorem zdv{a b:List Int}{n:Nat}(h1:1≤n)(ha:∀x∈a,x≤n)(hb:∀x∈b,x≤n):∀k,yw a b (n+k)=yw a b n
 | 0=>rfl
 | k+1=>by
   rw[← zdv h1 ha hb k]
   show yh (zaC a ((n+k)+1)) (zaC b ((n+k)+1))=_
   rw[zgI,zgI]
   refine zdZ (by rw[zcg,zcg]) ?_
   by_cases e:zaC a (n+k)=zaC b (n+k)
   ·left
    have:(zaC a (n+k))[n - 1]? = (zaC b (n+k))[n - 1]? := by rw[e]
    unfold zaC at this
    rw[List.getElem?_map,List.getElem?_map,List.getElem?_range (by omega)] at this
    have this:sg a (((n - 1:Nat):Int)+1)=sg b (((n - 1:Nat):Int)+1):=Option.some.inj this
    have en:((n - 1:Nat):Int)+1=(n:Int):=by omega
    rw[en] at this
    rw[zjc ha (by omega),zjc hb (by omega)]
    exact this
   ·exact .inr e
theorem ahead_any{a b:List Int}{n m:Nat}(h1:1≤n)(hm:1≤m)(ha:∀x∈a,x≤n∧x≤m)(hb:∀x∈b,x≤n∧x≤m):yw a b n=yw a b m:=by
 rcases Nat.le_total n m with h | h
 ·obtain⟨k,rfl⟩:=Nat.exists_eq_add_of_le h
  exact(zdv h1 (fun x hx=>(ha x hx).1) (fun x hx=>(hb x hx).1) k).symm
 ·obtain⟨k,rfl⟩:=Nat.exists_eq_add_of_le h
  exact zdv hm (fun x hx=>(ha x hx).2) (fun x hx=>(hb x hx).2) k
def word:Sg→Sg→Str
 | some p,some q=>if p.1=q.1 then "sum" else "count"
 | _,_=> "half"
def wt(a b:List Int)(n:Nat):Option (Nat × Str)→Prop
 | none=>∀k:Nat,1≤k→k≤n→sg a k=sg b k
 | some r=>1≤r.1∧r.1≤n∧(∀j:Nat,1≤j→j<r.1→sg a j=sg b j)∧sg a r.1≠sg b r.1∧r.2=word (sg a r.1) (sg b r.1)
theorem zdi{a b:List Int}{n:Nat}{r r':Option (Nat × Str)}(h:wt a b n r)(h':wt a b n r'):r=r':=by
 cases r with
 | none =>
   cases r' with
   | none=>rfl
   | some q=>exact absurd (h q.1 h'.1 h'.2.1) h'.2.2.2.1
 | some p =>
   cases r' with
   | none=>exact absurd (h' p.1 h.1 h.2.1) h.2.2.2.1
   | some q =>
     obtain⟨k,w⟩:=p
     obtain⟨j,v⟩:=q
     obtain⟨a1,a2,a3,a4,a5⟩:=h
     obtain⟨b1,b2,b3,b4,b5⟩:=h'
     dsimp only at a1 a2 a3 a4 a5 b1 b2 b3 b4 b5
     have e:k=j:=by
      rcases Nat.lt_trichotomy k j with c | c | c
      ·exact absurd (b3 k a1 c) a4
      ·exact c
      ·exact absurd (a3 j b1 c) b4
     subst e
     rw[a5,b5]
theorem zfc:∀{xs ys:List Sg} (k:Nat) (h1:k<xs.length) (h2:k<ys.length),(∀j,j<k→xs[j]? = ys[j]?)→xs[k]≠ys[k]→yh xs ys=olt xs[k] ys[k]
 | x::xs,y::ys,0,_,_,_,hne=>by rw[yh,if_neg (show ¬x=y from hne)];rfl
 | x::xs,y::ys,k+1,h1,h2,he,hne=>by
   have e:x=y:=by have:=he 0 (by omega);simpa using this
   rw[yh,if_pos e]
   exact zfc k (by simpa using h1) (by simpa using h2) (fun j hj=>by have:=he (j+1) (by omega);simpa using this) (by simpa using hne)
theorem zdF:∀(xs:List Sg),yh xs xs=false
 | []=>rfl
 | x::xs=>by rw[yh,if_pos rfl];exact zdF xs
theorem zeW(a:List Int){n k:Nat}(h:k<n):(zaC a n)[k]? = some (sg a ((k:Int)+1)):=by
 unfold zaC
 rw[List.getElem?_map,List.getElem?_range h]
 rfl
theorem zi3{a b:List Int}{n:Nat}(h:wt a b n none):yw a b n=false:=by
 have e:zaC a n=zaC b n:=by
  unfold zaC
  refine List.map_congr_left fun i hi=>?_
  have hi:=List.mem_range.mp hi
  have:=h (i+1) (by omega) (by omega)
  have ei:((i+1:Nat):Int)=(i:Int)+1:=by omega
  rw[ei] at this
  exact this
 unfold yw
 rw[e]
 exact zdF _
theorem zdC{a b:List Int}{n:Nat}{r:Nat × Str}(h:wt a b n (some r)):yw a b n=olt (sg a r.1) (sg b r.1):=by
 obtain⟨k,w⟩:=r
 obtain⟨a1,a2,a3,a4,a5⟩:=h
 dsimp only at a1 a2 a3 a4 a5 ⊢
 obtain⟨j,rfl⟩:∃j,k=j+1:=⟨k - 1,by omega⟩
 have ej:((j+1:Nat):Int)=(j:Int)+1:=by omega
 have l1:j<(zaC a n).length:=by rw[zcg];omega
 have l2:j<(zaC b n).length:=by rw[zcg];omega
 have g1:(zaC a n)[j]=sg a ((j+1:Nat):Int):=by
  have:=zeW a (n:=n) (k:=j) (by omega)
  rw[List.getElem?_eq_getElem l1] at this
  rw[ej];exact Option.some.inj this
 have g2:(zaC b n)[j]=sg b ((j+1:Nat):Int):=by
  have:=zeW b (n:=n) (k:=j) (by omega)
  rw[List.getElem?_eq_getElem l2] at this
  rw[ej];exact Option.some.inj this
 unfold yw
 rw[zfc j l1 l2 (fun i hi=>?_) (by rw[g1,g2];exact a4),g1,g2]
 rw[zeW a (by omega),zeW b (by omega)]
 have:=a3 (i+1) (by omega) (by omega)
 have ei:((i+1:Nat):Int)=(i:Int)+1:=by omega
 rw[ei] at this
 rw[this]
end M6
namespace L2
open PySem
end L2
namespace M6
open PySem L2 M3 M5
def zU(cs:List (List Int))(us:List Int):List Int:=us.map fun c=>1+((us.filter fun d=>yw (zA cs d) (zA cs c) us.length).length:Int)
theorem wE{cs:List (List Int)}{us:List Int}{c:Int}(hp:∀d∈cs,d.Perm us)(hc:c∈us):∀x∈zA cs c,1≤x∧x≤us.length:=fun x hx=>by
 unfold zA at hx
 obtain⟨d,hd,rfl⟩:=List.mem_map.mp hx
 have h:=hp d hd
 have:d.idxOf c<d.length:=List.idxOf_lt_length_of_mem (h.mem_iff.mpr hc)
 have:=h.length_eq
 omega
theorem zbJ(cs:List (List Int))(us:List Int):(zU cs us).length=us.length:=by unfold zU;simp
def zbb(ms:List Int)(n:Nat):List (Int × Int):=(List.range n).map fun(i:Nat)=>((cnt ms ((i:Int)+1):Int),sm ms ((i:Int)+1))
theorem zeu(ms:List Int)(n:Nat):zbb ms (n+1)=zbb ms n ++ [((cnt ms ((n:Int)+1):Int),sm ms ((n:Int)+1))]:=by unfold zbb;rw[List.range_succ,List.map_append];rfl
theorem zdz(ms:List Int)(n:Nat):(zbb ms n).length=n:=by unfold zbb;simp
theorem word_symm(p q:Sg):word p q=word q p:=by
 cases p with
 | none=>cases q <;> rfl
 | some p=>cases q with
   | none=>rfl
   | some q =>
     show(if p.1=q.1 then("sum" : Str)else("count" : Str))=if q.1=p.1 then("sum" : Str)else("count" : Str)
     by_cases h:p.1=q.1
     ·rw[if_pos h,if_pos h.symm]
     ·rw[if_neg h,if_neg fun z=>h z.symm]
theorem zil{a b:List Int}{n:Nat}{r:Option (Nat × Str)}(h:wt a b n r):wt b a n r:=by
 cases r with
 | none=>exact fun k h1 h2=>(h k h1 h2).symm
 | some r=>exact⟨h.1,h.2.1,fun j h1 h2=>(h.2.2.1 j h1 h2).symm,fun z=>h.2.2.2.1 z.symm,by rw[word_symm];exact h.2.2.2.2⟩
end M6
namespace L2
open PySem
def Told(K:PySem.W.Frag)(H:Hp)(x:V):Option (Nat × Str)→Prop
 | none=>x=.non
 | some r=>∃l,x=.ref l∧SqT K H l [.int (r.1:Nat),.str r.2]
end L2
namespace M3
open PySem L2
theorem zis{a b:List Int}(h:a.Perm b)(n:Int):cnt a n=cnt b n:=(h.filter _).length_eq
theorem zfx(a b:List Int)(n:Int):cnt (a++b) n=cnt a n+cnt b n:=by
 unfold cnt got
 rw[List.filter_append,List.length_append]
theorem isF_perm{a b:List Int}(h:a.Perm b){f:Int}(hf:isF a f):isF b f:=by
 unfold isF at *
 rw[← zis h,← zis h,← h.length_eq]
 exact hf
theorem ziG{ns:List Int}(hs:ns.Pairwise (·≤ ·))(hne:ns ≠ []):isF ns (ns.getD (ns.length/2) 0):=by
 have hn:=List.length_pos_iff.mpr hne
 have hk:ns.length/2<ns.length:=by omega
 generalize hK:ns.length/2=k at hk ⊢
 have e:ns=ns.take k++ns.drop k:=(List.take_append_drop k ns).symm
 have ed:ns.drop k=ns.getD k 0::ns.drop (k+1):=by rw[zeY hk];exact List.drop_eq_getElem_cons hk
 generalize ns.getD k 0=f at ed ⊢
 have lt:(ns.take k).length=k:=by rw[List.length_take];omega
 rw[e] at hs
 obtain⟨h1,h2,h3⟩:=List.pairwise_append.mp hs
 rw[ed] at h2 h3
 have h4:=List.pairwise_cons.mp h2
 unfold isF
 constructor
 ·have a1:cnt (ns.take k) f=k:=by rw[zh7 fun x hx=>h3 x hx f (List.mem_cons_self ..),lt]
  have a2:1≤cnt (ns.drop k) f:=by
   rw[ed]
   unfold cnt got
   rw[List.filter_cons,if_pos (decide_eq_true (Int.le_refl f)),List.length_cons]
   omega
  have a3:cnt ns f=cnt (ns.take k) f+cnt (ns.drop k) f:=by rw[← zfx,← e]
  omega
 ·have a1:=zec (ns.take k) (f - 1)
  have a2:cnt (ns.drop k) (f - 1)=0:=by
   refine zjd fun x hx=>?_
   rw[ed] at hx
   rcases List.mem_cons.mp hx with z | z
   ·omega
   ·have:=h4.1 x z;omega
  have a3:cnt ns (f - 1)=cnt (ns.take k) (f - 1)+cnt (ns.drop k) (f - 1):=by rw[← zfx,← e]
  omega
end M3
namespace M6
open PySem L2 M3 M5
def zic(a b:List Int)(f:Int):Option Int→Prop
 | none=>∀k,f≤k→cnt a k=cnt b k∧sm a k=sm b k
 | some n=>f≤n∧n≤24∧(∀j,f≤j→j<n→cnt a j=cnt b j∧sm a j=sm b j)∧¬(cnt a n=cnt b n∧sm a n=sm b n)
theorem zbS{a:List Int}{f j:Int}(hf:isF a f)(hj:j<f):sg a j=none:=by
 refine sg_none ?_
 have:=zdG (ms:=a) (show j≤f - 1 by omega)
 have:=hf.2
 omega
theorem zb6{a:List Int}{f j:Int}(hf:isF a f)(hj:f≤j):sg a j=some ((cnt a j:Int),sm a j):=by
 refine sg_some ?_
 have:=zdG (ms:=a) hj
 have:=hf.1
 omega
theorem zhg{a b:List Int}{f g:Int}(hf:isF a f)(hg:isF b g)(h:f<g)(h1:1≤f)(h2:f≤24):wt a b 24 (some (f.toNat,"half")):=by
 have e:((f.toNat:Nat):Int)=f:=by omega
 refine⟨by dsimp only;omega,by dsimp only;omega,fun j j1 j2=>?_,?_,?_⟩
 ·dsimp only at j2
  rw[zbS hf (by omega),zbS hg (by omega)]
 ·dsimp only
  rw[e,zb6 hf (Int.le_refl _),zbS hg h]
  exact fun z=>nomatch z
 ·dsimp only
  rw[e,zb6 hf (Int.le_refl _),zbS hg h]
  rfl
theorem zjv{a b:List Int}{f g:Int}(hf:isF a f)(hg:isF b g)(h:g<f)(h1:1≤g)(h2:g≤24):wt a b 24 (some (g.toNat,"half")):=zil (zhg hg hf h h1 h2)
theorem zgu{a b:List Int}{f:Int}(hf:isF a f)(hg:isF b f)(h:zic a b f none):wt a b 24 none:=fun k k1 k2=>by
 by_cases c:(k:Int)<f
 ·rw[zbS hf c,zbS hg c]
 ·obtain⟨e1,e2⟩:=h k (by omega)
  rw[zb6 hf (by omega),zb6 hg (by omega),e1,e2]
theorem zgK{a b:List Int}{f n:Int}(hf:isF a f)(hg:isF b f)(h1:1≤f)(h:zic a b f (some n)):wt a b 24 (some (n.toNat,if(cnt a n:Int)=cnt b n then "sum" else "count")):=by
 obtain⟨a1,a2,a3,a4⟩:=h
 have e:((n.toNat:Nat):Int)=n:=by omega
 refine⟨by dsimp only;omega,by dsimp only;omega,fun j j1 j2=>?_,?_,?_⟩
 ·dsimp only at j2
  by_cases c:(j:Int)<f
  ·rw[zbS hf c,zbS hg c]
  ·obtain⟨e1,e2⟩:=a3 j (by omega) (by omega)
   rw[zb6 hf (by omega),zb6 hg (by omega),e1,e2]
 ·dsimp only
  rw[e,zb6 hf a1,zb6 hg a1]
  intro z
  injection z with z
  injection z with z1 z2
  exact a4 ⟨by omega,z2⟩
 ·dsimp only
  rw[e,zb6 hf a1,zb6 hg a1]
  rfl
theorem ahead_lt{a b:List Int}{f g:Int}(hf:isF a f)(hg:isF b g)(h:f<g)(h1:1≤f)(h2:f≤24):yw a b 24=true:=by
 rw[zdC (zhg hf hg h h1 h2)]
 dsimp only
 have e:((f.toNat:Nat):Int)=f:=by omega
 rw[e,zb6 hf (Int.le_refl _),zbS hg h]
 rfl
theorem ahead_gt{a b:List Int}{f g:Int}(hf:isF a f)(hg:isF b g)(h:g<f)(h1:1≤g)(h2:g≤24):yw a b 24=false:=by
 rw[zdC (zjv hf hg h h1 h2)]
 dsimp only
 have e:((g.toNat:Nat):Int)=g:=by omega
 rw[e,zbS hf h]
 rfl
theorem ahead_at{a b:List Int}{f n:Int}(hf:isF a f)(hg:isF b f)(h1:1≤f)(h:zic a b f (some n)):yw a b 24=if(cnt a n:Int)=cnt b n then decide (sm a n<sm b n)else decide ((cnt b n:Int)<cnt a n):=by
 rw[zdC (zgK hf hg h1 h)]
 dsimp only
 have e:((n.toNat:Nat):Int)=n:=by have:=h.1;omega
 rw[e,zb6 hf h.1,zb6 hg h.1]
 show(decide ((cnt b n:Int)<cnt a n) || (decide ((cnt a n:Int)=cnt b n) && decide (sm a n<sm b n)))=_
 by_cases c:(cnt a n:Int)=cnt b n
 ·rw[if_pos c,decide_eq_true c,decide_eq_false (show ¬(cnt b n:Int)<cnt a n by omega)]
  rfl
 ·rw[if_neg c,decide_eq_false c,Bool.false_and,Bool.or_false]
theorem ziz{a b:List Int}{f M:Int}(ha:∀x∈a,x≤M)(hb:∀x∈b,x≤M)(hM:f≤M)(h:∀j,f≤j→j≤M→cnt a j=cnt b j∧sm a j=sm b j):zic a b f none:=fun k hk=>by
 by_cases c:k≤M
 ·exact h k hk c
 ·have ea:got a k=got a M:=by
   unfold got
   exact List.filter_congr fun x hx=>by have:=ha x hx;rw[decide_eq_true (by omega),decide_eq_true this]
  have eb:got b k=got b M:=by
   unfold got
   exact List.filter_congr fun x hx=>by have:=hb x hx;rw[decide_eq_true (by omega),decide_eq_true this]
  have:=h M hM (Int.le_refl _)
  unfold cnt sm at *
  rw[ea,eb]
  exact this
theorem places_24{cs:List (List Int)}{us:List Int}(hp:∀d∈cs,d.Perm us)(h1:1≤us.length)(h24:us.length≤24):zU cs us=us.map fun c=>1+(((us.map (zA cs)).filter fun r=>yw r (zA cs c) 24).length:Int):=by
 unfold zU
 refine List.map_congr_left fun c hc=>?_
 rw[List.filter_map,List.length_map]
 congr 3
 refine List.filter_congr fun d hd=>?_
 refine ahead_any h1 (by omega) (fun x hx=>?_) (fun x hx=>?_)
 ·have:=wE hp hd x hx;omega
 ·have:=wE hp hc x hx;omega
end M6
namespace L2
open PySem
theorem Sh.cardsIn_perm{S:Sh}(ok:S.Ok):∀d∈S.cardsIn,d.Perm S.couples:=fun d hd=>by
 obtain⟨j,hj,rfl⟩:=List.mem_map.mp hd
 have h2:=(List.mem_filter.mp hj).2
 cases e:S.card j with
 | none=>rw[e] at h2;cases h2
 | some c=>exact(ok.cd j c e).2
theorem Sh.cardsIn_len(S:Sh):S.cardsIn.length=S.handed.length:=by unfold Sh.cardsIn;simp
def Sh.cardsWo(S:Sh)(j:Str):List (List Int):=(S.handed.filter fun i => !decide (i=j)).map fun i=>(S.card i).getD []
theorem Sh.cardsWo_perm{S:Sh}(ok:S.Ok)(j:Str):∀d∈S.cardsWo j,d.Perm S.couples:=fun d hd=>by
 obtain⟨i,hi,rfl⟩:=List.mem_map.mp hd
 exact Sh.cardsIn_perm ok _ (List.mem_map_of_mem (List.mem_filter.mp hi).1)
theorem Sh.row_some{S:Sh}(ok:S.Ok)(j:Str):(!decide ((S.card j).getD [] = []))=(S.card j).isSome:=by
 cases e:S.card j with
 | none=>rfl
 | some c=>rw[show(some c).getD ([]:List Int)=c from rfl,decide_eq_false (ok.full e)];rfl
theorem Sh.cardsIn_rows{S:Sh}(ok:S.Ok):S.cardsIn=S.rows.filter fun d => !decide (d = []):=by
 unfold Sh.cardsIn Sh.handed Sh.rows
 rw[List.filter_map]
 congr 1
 exact List.filter_congr fun j _=>(Sh.row_some ok j).symm
theorem Sh.handed_len{S:Sh}(ok:S.Ok):S.handed.length=(S.rows.filter fun d => !decide (d = [])).length:=by rw[← Sh.cardsIn_rows ok,Sh.cardsIn_len]
theorem Sh.cardsWo_len{S:Sh}{j:Str}(nd:S.panel.Nodup)(hj:j∈S.handed):(S.cardsWo j).length+1=S.handed.length:=by
 unfold Sh.cardsWo
 rw[List.length_map]
 have hn:S.handed.Nodup:=nd.filter _
 have e:(S.handed.filter fun i => !decide (i=j))=S.handed.erase j:=by
  rw[hn.erase_eq_filter]
  refine List.filter_congr fun x _=>?_
  by_cases h:x=j
  ·simp[h]
  ·simp[h]
 rw[e,List.length_erase_of_mem hj]
 have:=List.length_pos_of_mem hj
 omega
theorem ints_last{ns:List Int}(h:ns ≠ []):∃x,x∈ns∧atI (ns.map V.int) (-1)=some (.int x):=by
 have e:=List.dropLast_concat_getLast h
 refine⟨ns.getLast h,List.getLast_mem h,?_⟩
 conv=>lhs;rw[← e,List.map_append]
 exact atI_last _ _
theorem zhw{ns:List Int}{i:Int}(h0:0≤i)(h:i<ns.length):∃x,x∈ns∧atI (ns.map V.int) i=some (.int x):=⟨_,ww (by omega),zch h0 h⟩
theorem zgH{K:PySem.W.Frag}{a:Addr}{ls:List Addr}{cs:List (List Int)}{c:St}{tc:TT}{te:TE}{H:Hp}{fin:List V→Hp→Prop}(hA:SqL K H a (ls.map V.ref))(hR:All2 (IL K H) ls cs)(hz:cs.length≤1000)
 (htc:∀(m:Addr) (d:List Int) (H':Hp) (Q:Bool→Hp→Prop),SqL K H' m (d.map V.int)→(∀H2,zi H' H2→Q (!decide (d = [])) H2)→tc (some (.ref m)::c) H' Q)
 (hte:∀(m:Addr) (H':Hp) (Q:VK),Q (.ref m) H'→te (some (.ref m)::c) H' Q)
 (hd:∀(ks:List Addr) (H':Hp),zi H H'→All2 (IL K H') ks (cs.filter fun d => !decide (d = []))→fin (ks.map V.ref) H'):zdk (Itl K a) c tc te H fin:=by
 have hln:=zC
 have hl:=hR.length
 refine wX (xs:=ls.map V.ref) (fun i ys H2=>∃ks:List Addr,ys=ks.map V.ref∧zi H H2∧All2 (IL K H2) ks ((cs.take i).filter fun d => !decide (d = []))) ⟨[],rfl,zi.refl _,.nil⟩ ?_ (by rw[List.length_map];omega) ?_ ?_
 ·rintro i ys H2 hi ⟨ks,rfl,s2,r2⟩
  refine⟨s2.seq hA,?_⟩
  have h3:=r2.length
  have h4:=List.length_filter_le (fun d:List Int => !decide (d = [])) (cs.take i)
  rw[List.length_take] at h4
  rw[List.length_map]
  omega
 ·rintro i x ys H2 hx ⟨ks,rfl,s2,r2⟩
  obtain⟨m,em,rfl⟩:=zbw hx
  obtain⟨d,ed,rd⟩:=hR.getL em
  refine htc m d H2 _ (s2.seq rd) fun H3 s3=>?_
  have e:(cs.take (i+1)).filter (fun d => !decide (d = []))=(cs.take i).filter (fun d => !decide (d = []))++if(!decide (d = []))=true then [d] else []:=by
   rw[List.take_succ,ed,List.filter_append]
   congr 1
   show List.filter _ [d]=_
   rw[List.filter_cons]
   rfl
  refine zhQ (fun hb=>?_) (fun hb=>?_)
  ·refine hte m H3 _ ⟨ks ++ [m],by rw[List.map_append];rfl,s2.trans s3,?_⟩
   rw[e,if_pos hb]
   exact(r2.imp fun _ _=>IL.stays K _ _ _ _ s3).snoc ((s2.trans s3).seq rd)
  ·refine⟨ks,rfl,s2.trans s3,?_⟩
   rw[e,if_neg (by rw[hb];exact Bool.false_ne_true),List.append_nil]
   exact r2.imp fun _ _=>IL.stays K _ _ _ _ s3
 ·rintro ys H2 ⟨ks,rfl,s2,r2⟩
  rw[List.length_map,hl,List.take_length] at r2
  exact hd ks H2 s2 r2
end L2
namespace M6
open PySem L2 M3 M5
def zi9(cs:List (List Int))(us:List Int)(c:Int):Nat:=(us.filter fun d=>yw (zA cs d) (zA cs c) us.length).length
theorem places_at{cs:List (List Int)}{us:List Int}{i:Nat}(h:i<us.length):(zU cs us).getD i 0=1+(zi9 cs us (us.getD i 0):Int):=by
 unfold zU zi9
 rw[List.getD_eq_getElem?_getD,List.getElem?_map,List.getD_eq_getElem?_getD,List.getElem?_eq_getElem h]
 rfl
end M6
namespace M6
open PySem L2 M3 M5
end M6
namespace L2
open PySem
end L2
namespace M6
open PySem L2 M3 M5
variable {cs:List (List Int)} {us:List Int} {c:Int}
end M6
namespace L2
open PySem
end L2
namespace M6
open PySem L2 M3 M5
end M6
namespace L2
open PySem
end L2
namespace M6
open PySem L2 M3 M5
def zfg(a b:List Int)(n:Nat):Option (Nat × Str):=((List.range n).find? fun(i:Nat)=>decide (sg a ((i:Int)+1)≠sg b ((i:Int)+1))).map fun(i:Nat)=>(i+1,word (sg a ((i:Int)+1)) (sg b ((i:Int)+1)))
theorem zfk{p:Nat→Bool}:∀{n j i:Nat},(List.range' j n).find? p=some i→p i=true∧j≤i∧i<j+n∧∀k,j≤k→k<i→p k=false
 | 0,j,i,h=>by cases h
 | n+1,j,i,h=>by
   rw[List.range'_succ,List.find?_cons] at h
   cases hp:p j with
   | true =>
     rw[hp] at h
     have e:j=i:=Option.some.inj h
     subst e
     exact⟨hp,Nat.le_refl _,by omega,fun k h1 h2=>by omega⟩
   | false =>
     rw[hp] at h
     obtain⟨h1,h2,h3,h4⟩:=zfk h
     refine⟨h1,by omega,by omega,fun k k1 k2=>?_⟩
     by_cases e:k=j
     ·subst e;exact hp
     ·exact h4 k (by omega) k2
theorem zh4(a b:List Int)(n:Nat):wt a b n (zfg a b n):=by
 unfold zfg
 rw[List.range_eq_range']
 cases h:(List.range' 0 n).find? fun(i:Nat)=>decide (sg a ((i:Int)+1)≠sg b ((i:Int)+1))with
 | none =>
   rw[List.find?_eq_none] at h
   show wt a b n none
   intro k h1 h2
   have:=h (k - 1) (by rw[List.mem_range'_1];omega)
   have e:((k - 1:Nat):Int)+1=(k:Int):=by omega
   rw[e] at this
   by_cases c:sg a k=sg b k
   ·exact c
   ·exact absurd (decide_eq_true c) this
 | some i =>
   obtain⟨h1,h2,h3,h4⟩:=zfk h
   have e:((i+1:Nat):Int)=(i:Int)+1:=by omega
   show wt a b n (some (i+1,word (sg a ((i:Int)+1)) (sg b ((i:Int)+1))))
   refine⟨by show 1≤i+1;omega,by show i+1≤n;omega,fun j j1 j2=>?_,?_,?_⟩
   ·have j2:j<i+1:=j2
    have:=h4 (j - 1) (by omega) (by omega)
    have ej:((j - 1:Nat):Int)+1=(j:Int):=by omega
    rw[ej] at this
    by_cases c:sg a j=sg b j
    ·exact c
    ·rw[decide_eq_true c] at this;cases this
   ·show sg a ((i+1:Nat):Int)≠sg b ((i+1:Nat):Int)
    rw[e]
    exact of_decide_eq_true h1
   ·show _=word (sg a ((i+1:Nat):Int)) (sg b ((i+1:Nat):Int))
    rw[e]
abbrev R4:=Int × Int × Int × Str
def nb(cs:List (List Int))(us:List Int)(p q:Int × Int):Option R4:=if p.1=q.1 then none else(zfg (zA cs p.2) (zA cs q.2) us.length).map fun r=>(p.2,q.2,(r.1:Int),r.2)
def zfz(cs:List (List Int))(us:List Int):List R4:=((rows (zU cs us) us).zip (rows (zU cs us) us).tail).filterMap fun pq=>nb cs us pq.1 pq.2
def wV(cs:List (List Int))(us:List Int)(c:Int):Int:=1+((us.filter fun d=>yw (zA cs d) (zA cs c) us.length).length:Int)
theorem zhB{cs:List (List Int)}{us:List Int}{p:Int × Int}(h:p∈rows (zU cs us) us):p.2∈us∧p.1=wV cs us p.2:=by
 unfold rows at h
 obtain⟨i,_,hi⟩:=List.mem_flatMap.mp h
 have hz:=(List.mem_filter.mp hi).1
 have e:(zU cs us).zip us=us.map fun c=>(wV cs us c,c):=by
  show(us.map fun c=>wV cs us c).zip us=_
  rw[List.zip_map_left]
  have:us.zip us=us.map fun c=>(c,c):=by
   induction us with
   | nil=>rfl
   | cons a us ih=>rw[List.zip_cons_cons,List.map_cons];congr 1;rw[List.zip_eq_zipWith,List.zipWith_self]
  rw[this,List.map_map]
  rfl
 rw[e] at hz
 obtain⟨c,hc,rfl⟩:=List.mem_map.mp hz
 exact⟨hc,rfl⟩
end M6
namespace L2
open PySem
def F4(K:PySem.W.Frag)(H:Hp)(l:Addr)(p:M6.R4):Prop:=SqT K H l [.int p.1,.int p.2.1,.int p.2.2.1,.str p.2.2.2]
theorem F4.stays(K:PySem.W.Frag):zju (F4 K):=fun _ _ _ _ s h=>s.seqT h
theorem F4.put{K:PySem.W.Frag}{H:Hp}{p:Addr}{ys:List V}{o:HO}{ls:List Addr}{ps:List M6.R4}(h:All2 (F4 K H) ls ps)(hp:H p=some (.lst ys)):All2 (F4 K (upd H p o)) ls ps:=h.imp fun _ _ r=>SqT.put r hp
end L2
namespace M9
open PySem L2 M3 M5
end M9
namespace M6
open PySem L2 M3 M5 M9
variable {cs:List (List Int)} {us:List Int} {c d f:Int}
end M6
namespace L2
open PySem
def upC(d:List Int)(i:Nat):List Int:=d.take (i - 1) ++ [d.getD i 0,d.getD (i - 1) 0]++d.drop (i+1)
theorem upC_eq{d:List Int}{i:Nat}(h0:0<i)(hi:i<d.length):∃p q,p.length=i - 1∧d=p ++ [d.getD (i - 1) 0,d.getD i 0]++q∧upC d i=p ++ [d.getD i 0,d.getD (i - 1) 0]++q:=by
 refine⟨d.take (i - 1),d.drop (i+1),by rw[List.length_take];omega,?_,rfl⟩
 have h1:i - 1<d.length:=by omega
 have e1:d.getD (i - 1) 0=d[i - 1]:=by rw[List.getD_eq_getElem?_getD,List.getElem?_eq_getElem h1];rfl
 have e2:d.getD i 0=d[i]:=by rw[List.getD_eq_getElem?_getD,List.getElem?_eq_getElem hi];rfl
 rw[e1,e2,List.append_assoc]
 conv=>lhs;rw[← List.take_append_drop (i - 1) d]
 congr 1
 rw[List.drop_eq_getElem_cons h1]
 show d[i - 1]::d.drop (i - 1+1)=d[i - 1]::(d[i]::d.drop (i+1))
 congr 1
 have:i - 1+1=i:=by omega
 rw[this]
 exact List.drop_eq_getElem_cons hi
theorem upC_perm{d:List Int}{i:Nat}(h0:0<i)(hi:i<d.length):(upC d i).Perm d:=by
 obtain⟨p,q,_,e1,e2⟩:=upC_eq h0 hi
 rw[e2]
 conv=>rhs;rw[e1]
 refine List.Perm.append_right _ (List.Perm.append_left _ ?_)
 exact List.Perm.swap _ _ _
theorem upC_at{d:List Int}{i:Nat}(h0:0<i)(hi:i<d.length):(upC d i)[i]? = some (d.getD (i - 1) 0):=by
 obtain⟨p,q,hp,_,e2⟩:=upC_eq h0 hi
 rw[e2,List.append_assoc,List.getElem?_append_right (by omega),hp,show i - (i - 1)=1 by omega]
 rfl
def Sh.cardsUp(S:Sh)(j:Str)(d:List Int):List (List Int):=S.handed.map fun i=>if i=j then d else(S.card i).getD []
theorem Sh.cardsUp_perm{S:Sh}(ok:S.Ok){j:Str}{d:List Int}(h:d.Perm S.couples):∀e∈S.cardsUp j d,e.Perm S.couples:=fun e he=>by
 obtain⟨i,hi,rfl⟩:=List.mem_map.mp he
 by_cases c:i=j
 ·rw[if_pos c];exact h
 ·rw[if_neg c];exact Sh.cardsIn_perm ok _ (List.mem_map_of_mem hi)
theorem Sh.cardsUp_len(S:Sh)(j:Str)(d:List Int):(S.cardsUp j d).length=S.handed.length:=by unfold Sh.cardsUp;simp
end L2
namespace M6
open PySem L2 M3 M5
def Rise1(c:Int)(d d':List Int):Prop:=d'.Perm d∧d'.idxOf c≤d.idxOf c∧∀e∈d,e≠c→d.idxOf e≤d'.idxOf e
theorem Rise1.nil{c:Int}{d d':List Int}(h:Rise1 c d d'):d = []↔d' = []:=by
 constructor
 ·intro e;rw[e] at h;exact List.Perm.eq_nil h.1
 ·intro e;rw[e] at h;exact List.Perm.eq_nil h.1.symm
variable {cs cs':List (List Int)} {us:List Int} {c:Int}
theorem getD_idx{d:List Int}{e:Int}(h:e∈d):d.getD (d.idxOf e) 0=e:=by
 rw[zeY (List.idxOf_lt_length_of_mem h)];exact List.getElem_idxOf _
end M6
namespace L2
open PySem M6 M5
def Sh.more(S:Sh)(n:Nat):Sh:={ S with taken:=S.taken+n }
section
variable {S:Sh} {j:Str} {d:List Int} {k:Nat}
end
end L2
namespace M6
open PySem L2 M3 M5
section
variable {A B C:List Int} {c:Int}
end
end M6
namespace L2
open PySem
def zcj(ps us:List Int)(n:Nat):List Int:=((List.range n).filter fun k=>decide (ps.getD k 0=1)).map fun k=>us.getD k 0
theorem zdR(ps us:List Int)(n:Nat):zcj ps us (n+1)=zcj ps us n++if ps.getD n 0=1 then [us.getD n 0] else []:=by
 unfold zcj
 rw[List.range_succ,List.filter_append,List.map_append]
 congr 1
 by_cases h:ps.getD n 0=1
 ·rw[if_pos h,List.filter_cons,if_pos (by rw[decide_eq_true h])];rfl
 ·rw[if_neg h,List.filter_cons,if_neg (by rw[decide_eq_false h];decide)];rfl
theorem ziw(ps us:List Int)(n:Nat):(zcj ps us n).length≤n:=by
 unfold zcj
 rw[List.length_map]
 exact Nat.le_trans (List.length_filter_le _ _) (by rw[List.length_range];exact Nat.le_refl _)
def zdb(cs:List (List Int))(us:List Int):List Int:=zcj (M6.zU cs us) us us.length
def Sh.decide(S:Sh):List Str:=S.handed.filter fun j => !Decidable.decide (zdb (S.cardsWo j) S.couples=zdb S.cardsIn S.couples)
theorem Sh.cardsWo_le(S:Sh)(j:Str):(S.cardsWo j).length≤S.handed.length:=by
 unfold Sh.cardsWo
 rw[List.length_map]
 exact List.length_filter_le _ _
theorem Sh.cardsWo_ge{S:Sh}(nd:S.panel.Nodup)(j:Str):S.handed.length≤(S.cardsWo j).length+1:=by
 by_cases hj:j∈S.handed
 ·exact Nat.le_of_eq (Sh.cardsWo_len nd hj).symm
 ·unfold Sh.cardsWo
  rw[List.length_map,List.filter_eq_self.mpr]
  ·exact Nat.le_succ _
  ·intro x hx
   have:¬x=j:=fun z=>hj (z ▸ hx)
   rw[decide_eq_false this]
   rfl
end L2
namespace M6
open PySem L2 M3 M5
variable {cs:List (List Int)} {us:List Int} {c:Int}
end M6
namespace L2
open PySem
end L2
namespace M6
open PySem L2 M3 M5
def blk(f:Int→Int)(us:List Int)(i:Nat):List (Int × Int):=(us.filter fun c=>decide (f c=(i:Int)+1)).map fun c=>(f c,c)
variable {cs:List (List Int)} {us:List Int} {c:Int}
def plc(cs:List (List Int))(us:List Int)(c:Int):Int:=1+(zi9 cs us c:Int)
end M6
namespace L2
open PySem
theorem zB.sameN{K:PySem.W.Frag}{H H':Hp}{p:Addr}{F:Addr→Prop}{S:Sh}(h:zB K H p F S)(s:yx H H'):∃F':Addr→Prop,(∀b,F' b→F b)∧zB K H' p F' S:=by
 obtain⟨dx,a1,a2,a3,d,kvs,h⟩:=h
 refine⟨fun b=>F b∧∀ps,H b≠some (.tbl ps),fun b z=>z.1,dx,a1,a2,a3,d,kvs,⟨⟨s.1 _ _ h.ip (fun _ z=>by cases z),s.1 _ _ h.i1 (fun _ z=>by cases z),s.1 _ _ h.i2 (fun _ z=>by cases z),s.1 _ _ h.i3 (fun _ z=>by cases z),s.1 _ _ h.i4 (fun _ z=>by cases z),h.kl,h.cn,fun j c hc=>?_,⟨h.fp,fun ps z=>by rw[h.ip] at z;cases z⟩,⟨h.f1,fun ps z=>by rw[h.i1] at z;cases z⟩,⟨h.f2,fun ps z=>by rw[h.i2] at z;cases z⟩,⟨h.f3,fun ps z=>by rw[h.i3] at z;cases z⟩,⟨h.f4,fun ps z=>by rw[h.i4] at z;cases z⟩,h.n12,h.n32,fun b hb=>?_⟩,h.ok⟩⟩
 ·obtain⟨l,x1,x2,x3,x4⟩:=h.cs j c hc
  exact⟨l,x1,s.1 _ _ x2 (fun _ z=>by cases z),⟨x3,fun ps z=>by rw[x2] at z;cases z⟩,x4⟩
 ·cases e:H b with
  | none=>exact absurd e (h.fh b hb.1)
  | some u =>
    rw[s.1 b u e fun ps z=>hb.2 ps (by rw[e,z])]
    simp
theorem yx.lst{H H':Hp}(s:yx H H'){a:Addr}{xs:List V}(e:H a=some (.lst xs)):H' a=some (.lst xs):=s.1 _ _ e fun _ z=>by cases z
end L2
namespace M6
open PySem L2 M3 M5 M9
section
variable {φ:Sg→Sg} {cs cs':List (List Int)} {us:List Int}
end
end M6
namespace M6
open PySem L2 M3 M5
section
variable {cs:List (List Int)} {us d:List Int}
end
end M6
namespace L2
open PySem
end L2
namespace M6
open PySem L2 M3 M5
def bar:Str:=Str.ofString "|"
def sl:Str:=Str.ofString "/"
def blank:Str:=Str.ofString " "
def zhZ(p:Int × Int):Str:=tN p.1++sl++tN p.2
def zeF(ms:List Int)(n:Nat):List Str:=(zbb ms n).map zhZ
def rowW(p c:Int)(ms:List Int)(n:Nat):List Str := [tN p,tN c] ++ [bar]++ms.map tN ++ [bar]++zeF ms n
def rowT(p c:Int)(ms:List Int)(n:Nat):Str:=Txt.join blank (rowW p c ms n)
theorem zi5{n:Int}(h:n.natAbs≤990):(tN n).length≤992:=by
 have:=PyProof.Rows.len_str_of_int n
 unfold tN
 omega
theorem zgv:∀{ms:List Int},(∀x∈ms,1≤x∧x≤24)→0≤ms.sum∧ms.sum≤24*ms.length
 | [],_=>by simp
 | x::ms,h=>by
   have h1:=h x (List.mem_cons_self ..)
   have h2:=zgv (ms:=ms) fun y hy=>h y (List.mem_cons_of_mem _ hy)
   simp only[List.sum_cons,List.length_cons]
   omega
theorem zhY{ms:List Int}(h:∀x∈ms,1≤x∧x≤24)(n:Int):0≤sm ms n∧sm ms n≤24*ms.length:=by
 have h1:=zgv (ms:=got ms n) fun x hx=>h x (List.mem_filter.mp hx).1
 have h2:=zec ms n
 unfold cnt at h2
 unfold sm
 omega
theorem sl_len:sl.length=1:=by decide +kernel
theorem zjk:bar.length=1:=by decide +kernel
theorem ladW_succ(ms:List Int)(n:Nat):zeF ms (n+1)=zeF ms n ++ [tN (cnt ms ((n:Int)+1))++sl++tN (sm ms ((n:Int)+1))]:=by
 unfold zeF
 rw[zeu,List.map_append]
 rfl
theorem zgn{ms:List Int}(hl:ms.length≤15)(h:∀x∈ms,1≤x∧x≤24)(n:Int):(tN (cnt ms n)).length≤992∧(tN (sm ms n)).length≤992:=by
 have h1:=zec ms n
 have h2:=zhY h n
 exact⟨zi5 (by omega),zi5 (by omega)⟩
theorem ladW_len(ms:List Int)(n:Nat):(zeF ms n).length=n:=by unfold zeF;rw[List.length_map,zdz]
theorem ziF{ms:List Int}(hl:ms.length≤15)(h:∀x∈ms,1≤x∧x≤24)(n:Nat):∀w∈zeF ms n,w.length≤2000:=fun w hw=>by
 induction n with
 | zero=>unfold zeF zbb at hw;simp at hw
 | succ n ih =>
   rw[ladW_succ] at hw
   rcases List.mem_append.mp hw with z | z
   ·exact ih z
   ·rw[List.mem_singleton.mp z,yb,yb,sl_len]
    have:=zgn hl h ((n:Int)+1)
    omega
theorem zi2{ms:List Int}(hl:ms.length≤15)(h:∀x∈ms,1≤x∧x≤24){p c:Int}(hp:p.natAbs≤990)(hc:c.natAbs≤1000)(n:Nat):∀w∈rowW p c ms n,w.length≤2000:=fun w hw=>by
 unfold rowW at hw
 simp only[List.mem_append,List.mem_cons,List.not_mem_nil,or_false,List.mem_map] at hw
 have l1:=PyProof.Rows.len_str_of_int p
 have l2:=PyProof.Rows.len_str_of_int c
 rcases hw with((((rfl | rfl) | rfl) | ⟨x,hx,rfl⟩) | rfl) | hw
 ·unfold tN;omega
 ·unfold tN;omega
 ·rw[zjk];omega
 ·have:=h x hx
  have:=zi5 (n:=x) (by omega)
  omega
 ·rw[zjk];omega
 ·exact ziF hl h n w hw
def tableT(cs:List (List Int))(us:List Int):List Str:=(rows (zU cs us) us).map fun p=>rowT p.1 p.2 (zA cs p.2) us.length
theorem emp_app(y:Str):Str.empty++y=y:=by
 refine PySem.Str.ext' ?_
 show(#[]:Array Nat)++y.cps=y.cps
 simp
end M6
namespace L2
open PySem
theorem zfl{K:PySem.W.Frag}{a:Addr}{ls:List Addr}{rs:List (Int × Int)}{f:Int × Int→Str}{c:St}{te:TE}{H:Hp}{fin:List V→Hp→Prop}(hA:SqL K H a (ls.map V.ref))(hR:All2 (TPl K H) ls rs)(hz:rs.length≤1000)
 (hte:∀(p:Int × Int) (H':Hp) (Q:VK),p∈rs→zi H H'→(∀H2,zi H' H2→Q (.str (f p)) H2)→te (some (.int p.1)::some (.int p.2)::c) H' Q)
 (hd:∀(H':Hp),zi H H'→fin ((rs.map f).map V.str) H'):zei K (Itl K a) c zhH te H fin:=by
 have hln:=zC
 have hl:=hR.length
 refine zet (xs:=ls.map V.ref) (fun i ys H3=>zi H H3∧ys=((rs.take i).map f).map V.str) ⟨zi.refl _,rfl⟩ ?_ (by rw[List.length_map];omega) ?_ ?_
 ·rintro i ys H3 hi ⟨s3,rfl⟩
  refine⟨s3.seq hA,?_⟩
  rw[List.length_map,List.length_map,List.length_take]
  omega
 ·rintro i x ys H3 hx ⟨s3,rfl⟩
  obtain⟨p,ep,rfl⟩:=zbw hx
  obtain⟨m,em,rm⟩:=hR.getL ep
  refine⟨p,.int m.1,.int m.2,rfl,s3.seqT rm,hte m H3 _ (List.mem_of_getElem? em) s3 fun H4 s4=>⟨s3.trans s4,?_⟩⟩
  rw[List.take_succ,em,List.map_append,List.map_append]
  rfl
 ·rintro ys H3 ⟨s3,rfl⟩
  rw[List.length_map,hl,List.take_length]
  exact hd H3 s3
theorem comp_strN{K:PySem.W.Frag}{a:Addr}{us:List Int}{f:Int→Str}{c:St}{te:TE}{H:Hp}{fin:List V→Hp→Prop}(hA:SqL K H a (us.map V.int))(hz:us.length≤1000)
 (hte:∀(x:Int) (H':Hp) (Q:VK),x∈us→zi H H'→(∀(H2:Hp),zi H' H2→Q (.str (f x)) H2)→te (some (.int x)::c) H' Q)
 (hd:∀(H':Hp),zi H H'→fin ((us.map f).map V.str) H'):zdk (Itl K a) c zhH te H fin:=by
 have hln:=zC
 refine yr (xs:=us.map V.int) (fun k ys H5=>ys=((us.take k).map f).map V.str∧zi H H5) ⟨rfl,zi.refl _⟩ ?_ (by rw[List.length_map];omega) ?_ ?_
 ·rintro k ys H5 hk ⟨rfl,s5⟩
  refine⟨s5.seq hA,?_⟩
  rw[List.length_map,List.length_map,List.length_take]
  omega
 ·rintro k x ys H5 hx ⟨rfl,s5⟩
  obtain⟨hk,rfl⟩:=yy hx
  refine hte _ H5 _ (ww hk) s5 fun H2 s2=>⟨?_,s5.trans s2⟩
  rw[yZ hk,List.map_append,List.map_append]
  rfl
 ·rintro ys H5 ⟨rfl,s5⟩
  rw[List.length_map,List.take_length]
  exact hd H5 s5
end L2
namespace M15
open M14
def idx(key:Nat→Int)(n:Nat):List Nat:=(List.range n).flatMap fun(i:Nat)=>(List.range n).filter fun k=>decide (key k=(i:Int)+1)
theorem zi6(key:Nat→Int)(n:Nat):(idx key n).Pairwise (R key):=by
 unfold idx
 rw[List.pairwise_flatMap]
 refine⟨fun i _=>?_,?_⟩
 ·rw[List.pairwise_filter]
  refine List.Pairwise.imp ?_ (List.pairwise_lt_range (n:=n))
  intro a b l ha hb
  have ha:=of_decide_eq_true ha
  have hb:=of_decide_eq_true hb
  exact .inr ⟨by omega,l⟩
 ·refine List.Pairwise.imp ?_ (List.pairwise_lt_range (n:=n))
  intro i j l x hx y hy
  have hx:=of_decide_eq_true (List.mem_filter.mp hx).2
  have hy:=of_decide_eq_true (List.mem_filter.mp hy).2
  exact .inl (by omega)
theorem zjf(key:Nat→Int)(n:Nat)(h:∀k,k<n→1≤key k∧key k≤n)(x:Nat):x∈idx key n↔x∈List.range n:=by
 unfold idx
 rw[List.mem_flatMap]
 constructor
 ·rintro ⟨i,_,z⟩
  exact(List.mem_filter.mp z).1
 ·intro z
  have hx:=List.mem_range.mp z
  have:=h x hx
  exact⟨(key x - 1).toNat,List.mem_range.mpr (by omega),List.mem_filter.mpr ⟨z,decide_eq_true (by omega)⟩⟩
theorem R.asymm{key:Nat→Int}{a b:Nat}(h:R key a b)(k:R key b a):False:=by
 rcases h with h | h <;> rcases k with k | k <;> omega
theorem one{key:Nat→Int}:∀{l m:List Nat},l.Pairwise (R key)→m.Pairwise (R key)→(∀x,x∈l↔x∈m)→l=m
 | [],[],_,_,_=>rfl
 | [],b::m,_,_,h=>absurd ((h b).mpr (List.mem_cons_self ..)) (List.not_mem_nil)
 | a::l,[],_,_,h=>absurd ((h a).mp (List.mem_cons_self ..)) (List.not_mem_nil)
 | a::l,b::m,hl,hm,h=>by
   rw[List.pairwise_cons] at hl hm
   have e:a=b:=by
    rcases List.mem_cons.mp ((h a).mp (List.mem_cons_self ..))with e | z
    ·exact e
    ·rcases List.mem_cons.mp ((h b).mpr (List.mem_cons_self ..))with e | y
     ·exact e.symm
     ·exact(R.asymm (hm.1 a z) (hl.1 b y)).elim
   subst e
   refine congrArg _ (one hl.2 hm.2 fun x=>?_)
   have nl:∀{l:List Nat},(∀y,y∈l→R key a y)→a∉l:=fun q z=>R.asymm (q a z) (q a z)
   constructor
   ·intro z
    rcases List.mem_cons.mp ((h x).mp (List.mem_cons_of_mem _ z))with e | y
    ·subst e;exact(nl hl.1 z).elim
    ·exact y
   ·intro z
    rcases List.mem_cons.mp ((h x).mpr (List.mem_cons_of_mem _ z))with e | y
    ·subst e;exact(nl hm.1 z).elim
    ·exact y
theorem zig{key:Nat→Int}{n:Nat}{p:Array Nat}(h:I key n p n):p.toList.Pairwise (R key):=by
 rw[List.pairwise_iff_getElem]
 intro i j hi hj l
 have hz:=h.1.size
 have e:∀(k:Nat) (hk:k<p.toList.length),p.toList[k]=g p k:=fun k hk=>by
  have hk':k<p.size:=by simpa using hk
  show _=p.getD k 0
  simp[Array.getD,hk']
 rw[e i hi,e j hj]
 refine h.2 i j l ?_
 rw[← hz]
 simpa using hj
theorem is_idx{key:Nat→Int}{n:Nat}{p:Array Nat}(h:I key n p n)(hk:∀k,k<n→1≤key k∧key k≤n):p.toList=idx key n:=by
 refine one (zig h) (zi6 key n) fun x=>?_
 rw[zjf key n hk]
 have:=h.1.pm.toList.mem_iff (a:=x)
 simpa using this
theorem zip_get(ps us:List Int)(h:ps.length=us.length):(List.range us.length).map (fun k=>(ps.getD k 0,us.getD k 0))=ps.zip us:=by
 refine List.ext_getElem (by simp[h]) fun i h1 h2=>?_
 have hi:i<us.length:=by simpa using h1
 have hp:i<ps.length:=by omega
 simp[hi,hp]
theorem rows_of{ps us:List Int}{p:Array Nat}(hl:ps.length=us.length)(hk:∀k,k<us.length→1≤ps.getD k 0∧ps.getD k 0≤us.length)(h:I (fun k=>ps.getD k 0) us.length p us.length):
 p.toList.map (fun k=>(ps.getD k 0,us.getD k 0))=M5.rows ps us:=by
 rw[is_idx h hk]
 unfold idx M5.rows
 rw[List.map_flatMap]
 congr 1
 funext i
 rw[← zip_get ps us hl,List.filter_map]
 rfl
end M15
namespace L2
open PySem PySem.W
theorem zdg.noT{K:Frag}{H:Hp}{a:Addr}{cs:List (List Int)}(h:zdg K (IL K) H a cs):zdg K (IL K) (L2.noT H) a cs:=by
 obtain⟨ls,h1,h2⟩:=h
 exact⟨ls,h1.noT,h2.imp fun _ _ r=>SqL.noT r⟩
theorem zh9{K:Frag}{H:Hp}{ts:List Addr}{ps us:List Int}(hl:ps.length=us.length)(pr:Prs H ts ((ps.map V.int).zip (us.map V.int))):∀(l:List Nat),(∀i∈l,i<us.length)→All2 (TPl K H) (l.map fun i=>ts.getD i 0) (l.map fun i=>(ps.getD i 0,us.getD i 0))
 | [],_=>.nil
 | i::l,h=>by
   have hi:=h i (List.mem_cons_self ..)
   have lt:ts.length=us.length:=by rw[pr.length,List.length_zip,List.length_map,List.length_map];omega
   refine .cons ?_ (zh9 hl pr l fun j hj=>h j (List.mem_cons_of_mem _ hj))
   have ht:ts[i]? = some (ts.getD i 0):=by rw[List.getD_eq_getElem?_getD,List.getElem?_eq_getElem (by omega)];rfl
   obtain⟨⟨pa,pb⟩,ep,e⟩:=pr.get i _ ht
   rw[List.getElem?_zip_eq_some] at ep
   obtain⟨e1,e2⟩:=ep
   rw[List.getElem?_map,List.getElem?_eq_getElem (by omega)] at e1 e2
   cases e1
   cases e2
   have h1:ps.getD i 0=ps[i]:=by rw[List.getD_eq_getElem?_getD,List.getElem?_eq_getElem (by omega)];rfl
   have h2:us.getD i 0=us[i]:=by rw[List.getD_eq_getElem?_getD,List.getElem?_eq_getElem (by omega)];rfl
   show SqT K H (ts.getD i 0) [.int (ps.getD i 0),.int (us.getD i 0)]
   rw[h1,h2]
   exact .inl (.inl e)
end L2
namespace M6
open M5
theorem zgS(xs:List Sg):yh xs xs=false:=by
 induction xs with
 | nil=>rfl
 | cons x xs ih=>rw[yh,if_pos rfl];exact ih
theorem zfI(a:List Int)(n:Nat):yw a a n=false:=zgS _
theorem zgL{α:Type}{p:α→Bool}:∀{l:List α} {x:α},x∈l→p x=false→(l.filter p).length<l.length
 | y::l,x,h,hp=>by
   rcases List.mem_cons.mp h with e | h
   ·subst e
    rw[List.filter_cons_of_neg (by rw[hp];exact Bool.false_ne_true),List.length_cons]
    exact Nat.lt_succ_of_le (List.length_filter_le _ _)
   ·have:=zgL h hp
    rw[List.filter_cons]
    split
    ·rw[List.length_cons,List.length_cons];omega
    ·rw[List.length_cons];omega
theorem zi4(cs:List (List Int))(us:List Int):∀k,k<us.length→1≤(zU cs us).getD k 0∧(zU cs us).getD k 0≤us.length:=fun k hk=>by
 have e:(zU cs us).getD k 0=1+((us.filter fun d=>yw (zA cs d) (zA cs us[k]) us.length).length:Int):=by
  unfold zU
  rw[List.getD_eq_getElem?_getD,List.getElem?_map,List.getElem?_eq_getElem hk]
  rfl
 have:=zgL (p:=fun d=>yw (zA cs d) (zA cs us[k]) us.length) (List.getElem_mem hk) (zfI _ _)
 rw[e]
 omega
end M6
namespace M6
open PySem L2 M3 M5
theorem olt_trans{x y z:Sg}(h:olt x y=true)(k:olt y z=true):olt x z=true:=by
 cases x with
 | none=>cases h
 | some p =>
   cases y with
   | none=>cases k
   | some q =>
     cases z with
     | none=>rfl
     | some r =>
       simp only[olt,Bool.or_eq_true,Bool.and_eq_true,decide_eq_true_eq] at h k ⊢
       omega
theorem olt_ne{x y:Sg}(h:olt x y=true):x≠y:=fun e=>by
 subst e
 cases x with
 | none=>cases h
 | some p=>simp only[olt,Bool.or_eq_true,Bool.and_eq_true,decide_eq_true_eq] at h;omega
theorem olt_total{x y:Sg}(h:x≠y):olt x y=true∨olt y x=true:=by
 cases x with
 | none=>cases y with
   | none=>exact absurd rfl h
   | some q=>exact .inr rfl
 | some p=>cases y with
   | none=>exact .inl rfl
   | some q =>
     obtain⟨p1,p2⟩:=p
     obtain⟨q1,q2⟩:=q
     have:¬(p1=q1∧p2=q2):=fun z=>h (by rw[z.1,z.2])
     simp only[olt,Bool.or_eq_true,Bool.and_eq_true,decide_eq_true_eq]
     omega
theorem zdq:∀{xs ys zs:List Sg},yh xs ys=true→yh ys zs=true→yh xs zs=true
 | [],_,_,h,_=>by cases h
 | _::_,[],_,h,_=>by cases h
 | _::_,_::_,[],_,k=>by cases k
 | x::xs,y::ys,z::zs,h,k=>by
   rw[yh] at h k ⊢
   by_cases c:x=y
   ·rw[if_pos c] at h
    subst c
    by_cases d:x=z
    ·rw[if_pos d] at k ⊢
     exact zdq h k
    ·rw[if_neg d] at k ⊢
     exact k
   ·rw[if_neg c] at h
    by_cases d:y=z
    ·subst d
     rw[if_neg c]
     exact h
    ·rw[if_neg d] at k
     have:=olt_trans h k
     rw[if_neg (olt_ne this)]
     exact this
theorem zdl:∀{xs ys:List Sg},xs.length=ys.length→xs≠ys→yh xs ys=true∨yh ys xs=true
 | [],[],_,h=>absurd rfl h
 | [],_::_,l,_=>by cases l
 | _::_,[],l,_=>by cases l
 | x::xs,y::ys,l,h=>by
   rw[yh,yh]
   by_cases c:x=y
   ·rw[if_pos c,if_pos c.symm]
    exact zdl (by simpa using l) fun z=>h (by rw[c,z])
   ·rw[if_neg c,if_neg fun z=>c z.symm]
    exact olt_total c
theorem zff{α:Type}{p q:α→Bool}:∀{l:List α},(∀x∈l,p x=true→q x=true)→(l.filter p).length≤(l.filter q).length
 | [],_=>Nat.le_refl _
 | x::l,h=>by
   have ih:=zff (p:=p) (q:=q) fun y hy=>h y (List.mem_cons_of_mem _ hy)
   rw[List.filter_cons,List.filter_cons]
   cases hp:p x with
   | false =>
     cases hq:q x with
     | false=>exact ih
     | true=>exact Nat.le_succ_of_le ih
   | true =>
     rw[h x (List.mem_cons_self ..) hp]
     exact Nat.succ_le_succ ih
theorem zdN{α:Type}{p q:α→Bool}:∀{l:List α} {x:α},x∈l→p x=false→q x=true→(∀x∈l,p x=true→q x=true)→(l.filter p).length<(l.filter q).length
 | y::l,x,hx,hp,hq,h=>by
   have le:=zff (p:=p) (q:=q) fun y hy=>h y (List.mem_cons_of_mem _ hy)
   rw[List.filter_cons,List.filter_cons]
   rcases List.mem_cons.mp hx with e | hx
   ·subst e
    rw[hp,hq]
    exact Nat.lt_succ_of_le le
   ·have ih:=zdN hx hp hq fun y hy=>h y (List.mem_cons_of_mem _ hy)
    cases hp':p y with
    | false =>
      cases hq':q y with
      | false=>exact ih
      | true=>exact Nat.lt_succ_of_lt ih
    | true =>
      rw[h y (List.mem_cons_self ..) hp']
      exact Nat.succ_lt_succ ih
theorem zid{cs:List (List Int)}{us:List Int}{c d:Int}(hc:c∈us)(h:yw (zA cs c) (zA cs d) us.length=true):wV cs us c<wV cs us d:=by
 unfold wV
 have:=zdN (p:=fun e=>yw (zA cs e) (zA cs c) us.length) (q:=fun e=>yw (zA cs e) (zA cs d) us.length) hc (zfI _ _) h fun x _ hx=>zdq hx h
 omega
theorem place_eq{cs:List (List Int)}{us:List Int}{c d:Int}(hc:c∈us)(hd:d∈us)(h:wV cs us c=wV cs us d):zaC (zA cs c) us.length=zaC (zA cs d) us.length:=by
 by_cases e:zaC (zA cs c) us.length=zaC (zA cs d) us.length
 ·exact e
 ·rcases zdl (by rw[zcg,zcg]) e with z | z
  ·have:=zid (d:=d) hc z;omega
  ·have:=zid (d:=c) hd z;omega
theorem zgs{a:List Int}{n:Nat}(ha:∀x∈a,x≤n){k:Nat}(h:n≤k):sg a k=sg a n:=by
 have e:got a k=got a n:=by
  unfold got
  exact List.filter_congr fun x hx=>by have:=ha x hx;rw[decide_eq_true (by omega),decide_eq_true this]
 unfold sg cnt sm
 rw[e]
theorem zh2{a b:List Int}{n m:Nat}{r:Option (Nat × Str)}(ha:∀x∈a,x≤n)(hb:∀x∈b,x≤n)(h1:1≤n)(hm:n≤m)(h:wt a b m r):wt a b n r:=by
 cases r with
 | none=>exact fun k k1 k2=>h k k1 (by omega)
 | some r =>
   refine⟨h.1,?_,h.2.2.1,h.2.2.2⟩
   by_cases c:r.1≤n
   ·exact c
   ·refine absurd ?_ h.2.2.2.1
    rw[zgs ha (by omega),zgs hb (by omega)]
    exact h.2.2.1 n h1 (by omega)
theorem nb_part{cs:List (List Int)}{us:List Int}{c d:Int}{r:Option (Nat × Str)}(hp:∀d∈cs,d.Perm us)(h1:1≤us.length)(h24:us.length≤24)(hc:c∈us)(hd:d∈us)(h:wt (zA cs c) (zA cs d) 24 r):
 nb cs us (wV cs us c,c) (wV cs us d,d)=r.map fun r=>(c,d,(r.1:Int),r.2):=by
 have h':=zh2 (fun x hx=>(wE hp hc x hx).2) (fun x hx=>(wE hp hd x hx).2) h1 h24 h
 have e:=zdi h' (zh4 (zA cs c) (zA cs d) us.length)
 unfold nb
 dsimp only
 by_cases z:wV cs us c=wV cs us d
 ·rw[if_pos z]
  have es:=place_eq hc hd z
  have:wt (zA cs c) (zA cs d) us.length none:=fun k k1 k2=>by
   have:=congrArg (fun l=>l[k - 1]?) es
   unfold zaC at this
   simp only[List.getElem?_map] at this
   rw[List.getElem?_range (by omega)] at this
   have ek:((k - 1:Nat):Int)+1=(k:Int):=by omega
   simpa [ek] using this
  rw[zdi h' this]
  rfl
 ·rw[if_neg z,e]
end M6
namespace L2
open PySem
end L2
namespace M6
open PySem L2 M3 M5
end M6
namespace L2
open PySem
theorem ziA{K:PySem.W.Frag}{F:Addr→Prop}{a:Addr}{ls:List Addr}{cs:List (List Int)}{f:List Int→List Int}{c:St}{te:TE}{H:Hp}{fin:List V→Hp→Prop}(hA:SqL K H a (ls.map V.ref))(hR:All2 (fun l d=>H l=some (.lst (d.map V.int))) ls cs)(hz:cs.length≤1000)
 (hte:∀(m:Addr) (d:List Int) (H':Hp) (Q:VK),d∈cs→H' m=some (.lst (d.map V.int))→zi H H'→(∀(l:Addr) (H2:Hp),zi H' H2→H2 l=some (.lst ((f d).map V.int))→¬F l→Q (.ref l) H2)→te (some (.ref m)::c) H' Q)
 (hd:∀(ks:List Addr) (H':Hp),zi H H'→All2 (fun l d=>H' l=some (.lst (d.map V.int))∧¬F l) ks (cs.map f)→fin (ks.map V.ref) H'):zdk (Itl K a) c zhH te H fin:=by
 have hln:=zC
 have hl:=hR.length
 refine yr (xs:=ls.map V.ref) (fun k ys H5=>∃ks:List Addr,ys=ks.map V.ref∧zi H H5∧All2 (fun l d=>H5 l=some (.lst (d.map V.int))∧¬F l) ks ((cs.take k).map f)) ⟨[],rfl,zi.refl _,.nil⟩ ?_ (by rw[List.length_map];omega) ?_ ?_
 ·rintro k ys H5 hk ⟨ks,rfl,s5,r5⟩
  refine⟨s5.seq hA,?_⟩
  have:=r5.length
  rw[List.length_map,List.length_take] at this
  rw[List.length_map]
  omega
 ·rintro k x ys H5 hx ⟨ks,rfl,s5,r5⟩
  obtain⟨m,em,rfl⟩:=zbw hx
  obtain⟨d,ed,rm⟩:=hR.getL em
  refine hte m d H5 _ (List.mem_of_getElem? ed) (s5 _ _ rm) s5 fun l H2 s2 r2 n2=>⟨ks ++ [l],by rw[List.map_append];rfl,s5.trans s2,?_⟩
  rw[List.take_succ,ed,List.map_append]
  exact(r5.imp fun _ _ z=>⟨s2 _ _ z.1,z.2⟩).snoc ⟨r2,n2⟩
 ·rintro ys H5 ⟨ks,rfl,s5,r5⟩
  rw[List.length_map,hl,List.take_length] at r5
  exact hd ks H5 s5 r5
end L2
set_option maxHeartbeats 4000000
namespace Pp
open PySem L2
def top(i:Nat):Stmt:=PySem.Challenge.pw_panelplace_k24_questions_refused.main.body.getD i (.Pass ⟨0,0,0,0⟩)
structure Txt (K:PySem.W.Frag) (mg:Str→Option Value):Prop where
 b_all:mg "all" = none
 b_bool:mg "bool" = none
 b_int:mg "int" = none
 b_isinstance:mg "isinstance" = none
 b_len:mg "len" = none
 b_list:mg "list" = none
 b_max:mg "max" = none
 b_min:mg "min" = none
 b_range:mg "range" = none
 b_set:mg "set" = none
 b_sorted:mg "sorted" = none
 b_str:mg "str" = none
 b_sum:mg "sum" = none
 b_zip:mg "zip" = none
 c_MOST_COUPLES:∃t,mg "MOST_COUPLES" = some (.int 24 t)
 c_MOST_JUDGES:∃t,mg "MOST_JUDGES" = some (.int 15 t)
 c_MOST_NUMBER:∃t,mg "MOST_NUMBER" = some (.int 999 t)
 c_MOST_SIGNS:∃t,mg "MOST_SIGNS" = some (.int 8 t)
 c_MOST_CARDS:∃t,mg "MOST_CARDS" = some (.int 200 t)
 x_PanelError:∃C,zq K "PanelError" C∧mg "PanelError" = some (.ref C)∧ExC K C
 x_BadCouples:∃C,zq K "BadCouples" C∧mg "BadCouples" = some (.ref C)∧ExC K C
 x_BadJudges:∃C,zq K "BadJudges" C∧mg "BadJudges" = some (.ref C)∧ExC K C
 x_SheetSealed:∃C,zq K "SheetSealed" C∧mg "SheetSealed" = some (.ref C)∧ExC K C
 x_UnknownJudge:∃C,zq K "UnknownJudge" C∧mg "UnknownJudge" = some (.ref C)∧ExC K C
 i_UnknownJudge:∀C,zq K "UnknownJudge" C→exI K C=true
 s_UnknownJudge_PanelError:∀C D,zq K "UnknownJudge" C→zq K "PanelError" D→zaU K C D=true
 k_UnknownJudge_UnknownJudge:∀C D,zq K "UnknownJudge" C→zq K "UnknownJudge" D→PySem.W.kitOne K (.ref C) (.ref D)=some true
 k_UnknownJudge_UnknownCouple:∀C D,zq K "UnknownJudge" C→zq K "UnknownCouple" D→PySem.W.kitOne K (.ref C) (.ref D)=some false
 k_UnknownJudge_NoCard:∀C D,zq K "UnknownJudge" C→zq K "NoCard" D→PySem.W.kitOne K (.ref C) (.ref D)=some false
 k_UnknownJudge_TooFewCards:∀C D,zq K "UnknownJudge" C→zq K "TooFewCards" D→PySem.W.kitOne K (.ref C) (.ref D)=some false
 k_UnknownJudge_AtTop:∀C D,zq K "UnknownJudge" C→zq K "AtTop" D→PySem.W.kitOne K (.ref C) (.ref D)=some false
 x_BadCard:∃C,zq K "BadCard" C∧mg "BadCard" = some (.ref C)∧ExC K C
 x_TooManyCards:∃C,zq K "TooManyCards" C∧mg "TooManyCards" = some (.ref C)∧ExC K C
 x_UnknownCouple:∃C,zq K "UnknownCouple" C∧mg "UnknownCouple" = some (.ref C)∧ExC K C
 i_UnknownCouple:∀C,zq K "UnknownCouple" C→exI K C=true
 s_UnknownCouple_PanelError:∀C D,zq K "UnknownCouple" C→zq K "PanelError" D→zaU K C D=true
 k_UnknownCouple_UnknownJudge:∀C D,zq K "UnknownCouple" C→zq K "UnknownJudge" D→PySem.W.kitOne K (.ref C) (.ref D)=some false
 k_UnknownCouple_UnknownCouple:∀C D,zq K "UnknownCouple" C→zq K "UnknownCouple" D→PySem.W.kitOne K (.ref C) (.ref D)=some true
 k_UnknownCouple_NoCard:∀C D,zq K "UnknownCouple" C→zq K "NoCard" D→PySem.W.kitOne K (.ref C) (.ref D)=some false
 k_UnknownCouple_TooFewCards:∀C D,zq K "UnknownCouple" C→zq K "TooFewCards" D→PySem.W.kitOne K (.ref C) (.ref D)=some false
 k_UnknownCouple_AtTop:∀C D,zq K "UnknownCouple" C→zq K "AtTop" D→PySem.W.kitOne K (.ref C) (.ref D)=some false
 x_LastCouple:∃C,zq K "LastCouple" C∧mg "LastCouple" = some (.ref C)∧ExC K C
 x_NoCard:∃C,zq K "NoCard" C∧mg "NoCard" = some (.ref C)∧ExC K C
 i_NoCard:∀C,zq K "NoCard" C→exI K C=true
 s_NoCard_PanelError:∀C D,zq K "NoCard" C→zq K "PanelError" D→zaU K C D=true
 k_NoCard_UnknownJudge:∀C D,zq K "NoCard" C→zq K "UnknownJudge" D→PySem.W.kitOne K (.ref C) (.ref D)=some false
 k_NoCard_UnknownCouple:∀C D,zq K "NoCard" C→zq K "UnknownCouple" D→PySem.W.kitOne K (.ref C) (.ref D)=some false
 k_NoCard_NoCard:∀C D,zq K "NoCard" C→zq K "NoCard" D→PySem.W.kitOne K (.ref C) (.ref D)=some true
 k_NoCard_TooFewCards:∀C D,zq K "NoCard" C→zq K "TooFewCards" D→PySem.W.kitOne K (.ref C) (.ref D)=some false
 k_NoCard_AtTop:∀C D,zq K "NoCard" C→zq K "AtTop" D→PySem.W.kitOne K (.ref C) (.ref D)=some false
 x_TooFewCards:∃C,zq K "TooFewCards" C∧mg "TooFewCards" = some (.ref C)∧ExC K C
 i_TooFewCards:∀C,zq K "TooFewCards" C→exI K C=true
 s_TooFewCards_PanelError:∀C D,zq K "TooFewCards" C→zq K "PanelError" D→zaU K C D=true
 k_TooFewCards_UnknownJudge:∀C D,zq K "TooFewCards" C→zq K "UnknownJudge" D→PySem.W.kitOne K (.ref C) (.ref D)=some false
 k_TooFewCards_UnknownCouple:∀C D,zq K "TooFewCards" C→zq K "UnknownCouple" D→PySem.W.kitOne K (.ref C) (.ref D)=some false
 k_TooFewCards_NoCard:∀C D,zq K "TooFewCards" C→zq K "NoCard" D→PySem.W.kitOne K (.ref C) (.ref D)=some false
 k_TooFewCards_TooFewCards:∀C D,zq K "TooFewCards" C→zq K "TooFewCards" D→PySem.W.kitOne K (.ref C) (.ref D)=some true
 k_TooFewCards_AtTop:∀C D,zq K "TooFewCards" C→zq K "AtTop" D→PySem.W.kitOne K (.ref C) (.ref D)=some false
 x_AtTop:∃C,zq K "AtTop" C∧mg "AtTop" = some (.ref C)∧ExC K C
 i_AtTop:∀C,zq K "AtTop" C→exI K C=true
 s_AtTop_PanelError:∀C D,zq K "AtTop" C→zq K "PanelError" D→zaU K C D=true
 k_AtTop_UnknownJudge:∀C D,zq K "AtTop" C→zq K "UnknownJudge" D→PySem.W.kitOne K (.ref C) (.ref D)=some false
 k_AtTop_UnknownCouple:∀C D,zq K "AtTop" C→zq K "UnknownCouple" D→PySem.W.kitOne K (.ref C) (.ref D)=some false
 k_AtTop_NoCard:∀C D,zq K "AtTop" C→zq K "NoCard" D→PySem.W.kitOne K (.ref C) (.ref D)=some false
 k_AtTop_TooFewCards:∀C D,zq K "AtTop" C→zq K "TooFewCards" D→PySem.W.kitOne K (.ref C) (.ref D)=some false
 k_AtTop_AtTop:∀C D,zq K "AtTop" C→zq K "AtTop" D→PySem.W.kitOne K (.ref C) (.ref D)=some true
 cl_Sheet:Cls K (zH K "Sheet")
 n_Sheet_standing:za8 K (zH K "Sheet") "standing"
 n_Sheet_struck_so_far:za8 K (zH K "Sheet") "struck_so_far"
 n_Sheet_panel:za8 K (zH K "Sheet") "panel"
 n_Sheet_card_by_judge:za8 K (zH K "Sheet") "card_by_judge"
 n_Sheet_taken_so_far:za8 K (zH K "Sheet") "taken_so_far"
 n_Sheet_sealed:za8 K (zH K "Sheet") "sealed"
abbrev wp:Stmt:=wx (top 61) 10
theorem zfH:FnScope ["self"] ["self"] (zd wp):=⟨rfl,rfl,rfl,by decide +kernel,rfl,by decide +kernel,by decide +kernel⟩
abbrev yn:Stmt:=wx (top 61) 11
theorem zdE:FnScope ["self"] ["self"] (zd yn):=⟨rfl,rfl,rfl,by decide +kernel,rfl,by decide +kernel,by decide +kernel⟩
abbrev zQ:Stmt:=wx (top 61) 12
theorem zbK:FnScope ["self"] ["self"] (zd zQ):=⟨rfl,rfl,rfl,by decide +kernel,rfl,by decide +kernel,by decide +kernel⟩
abbrev zI:Stmt:=wx (top 61) 13
theorem za4:FnScope ["self","judge"] ["self","judge"] (zd zI):=⟨rfl,rfl,rfl,by decide +kernel,rfl,by decide +kernel,by decide +kernel⟩
abbrev yF:Stmt:=wx (top 61) 4
theorem zd6:FnScope ["self"] ["self"] (zd yF):=⟨rfl,rfl,rfl,by decide +kernel,rfl,by decide +kernel,by decide +kernel⟩
abbrev yU:Stmt:=wx (top 61) 5
theorem zeQ:FnScope ["self"] ["self"] (zd yU):=⟨rfl,rfl,rfl,by decide +kernel,rfl,by decide +kernel,by decide +kernel⟩
abbrev yV:Stmt:=wx (top 61) 6
theorem zeK:FnScope ["self"] ["self"] (zd yV):=⟨rfl,rfl,rfl,by decide +kernel,rfl,by decide +kernel,by decide +kernel⟩
abbrev yC:Stmt:=wx (top 61) 7
theorem zeM:FnScope ["self"] ["self"] (zd yC):=⟨rfl,rfl,rfl,by decide +kernel,rfl,by decide +kernel,by decide +kernel⟩
abbrev wP:Stmt:=top 14
theorem zgg:FnScope ["card","couples"] ["card","couples"] (zd wP):=⟨rfl,rfl,rfl,by decide +kernel,rfl,by decide +kernel,by decide +kernel⟩
abbrev zbr:Stmt:=top 15
theorem ziV:FnScope ["card","couple"] ["card","couple"] (zd zbr):=⟨rfl,rfl,rfl,by decide +kernel,rfl,by decide +kernel,by decide +kernel⟩
abbrev yj:Stmt:=top 16
theorem zd0:FnScope ["card","couple"] ["card","couple"] (zd yj):=⟨rfl,rfl,rfl,by decide +kernel,rfl,by decide +kernel,by decide +kernel⟩
abbrev zcc:Stmt:=top 17
theorem zef:FnScope ["card","couple","place","passed"] ["card","couple"] (zd zcc):=⟨rfl,rfl,rfl,by decide +kernel,rfl,by decide +kernel,by decide +kernel⟩
abbrev wq:Stmt:=top 19
theorem zfS:FnScope ["many"] ["many"] (zd wq):=⟨rfl,rfl,rfl,by decide +kernel,rfl,by decide +kernel,by decide +kernel⟩
abbrev zak:Stmt:=top 23
theorem zik:FnScope ["marks","number"] ["marks","number"] (zd zak):=⟨rfl,rfl,rfl,by decide +kernel,rfl,by decide +kernel,by decide +kernel⟩
abbrev wk:Stmt:=top 54
theorem zfy:FnScope ["couple"] ["couple"] (zd wk):=⟨rfl,rfl,rfl,by decide +kernel,rfl,by decide +kernel,by decide +kernel⟩
abbrev yY:Stmt:=top 56
theorem zeU:FnScope ["sign"] ["sign"] (zd yY):=⟨rfl,rfl,rfl,by decide +kernel,rfl,by decide +kernel,by decide +kernel⟩
abbrev wn:Stmt:=top 57
theorem zfh:FnScope ["things","most"] ["things","most"] (zd wn):=⟨rfl,rfl,rfl,by decide +kernel,rfl,by decide +kernel,by decide +kernel⟩
abbrev wU:Stmt:=top 58
theorem zfZ:FnScope ["things"] ["things"] (zd wU):=⟨rfl,rfl,rfl,by decide +kernel,rfl,by decide +kernel,by decide +kernel⟩
abbrev zar:Stmt:=top 67
theorem zgN:FnScope ["_law_found"] ["_law_found"] (zd zar):=⟨rfl,rfl,rfl,by decide +kernel,rfl,by decide +kernel,by decide +kernel⟩
abbrev zb7:Stmt:=top 68
theorem zjD:FnScope ["_law_script","_law_k"] ["_law_script","_law_k"] (zd zb7):=⟨rfl,rfl,rfl,by decide +kernel,rfl,by decide +kernel,by decide +kernel⟩
abbrev zao:Stmt:=top 70
theorem zdT:FnScope ["_law_found","_law_due_here","_law_k"] ["_law_found","_law_due_here"] (zd zao):=⟨rfl,rfl,rfl,by decide +kernel,rfl,by decide +kernel,by decide +kernel⟩
abbrev zbm:Stmt:=top 72
theorem zfb:FnScope ["_law_cell","_law_place","_law_once"] ["_law_cell","_law_place"] (zd zbm):=⟨rfl,rfl,rfl,by decide +kernel,rfl,by decide +kernel,by decide +kernel⟩
abbrev zaI:Stmt:=top 73
theorem zhv:FnScope ["_law_mode","_law_cell","_law_least","_law_few","_law_most"] ["_law_mode","_law_cell","_law_least","_law_few","_law_most"] (zd zaI):=⟨rfl,rfl,rfl,by decide +kernel,rfl,by decide +kernel,by decide +kernel⟩
abbrev zaK:Stmt:=top 74
theorem zhx:FnScope ["_law_row","_law_cell"] ["_law_row","_law_cell"] (zd zaK):=⟨rfl,rfl,rfl,by decide +kernel,rfl,by decide +kernel,by decide +kernel⟩
abbrev yN:Stmt:=top 75
theorem zcS:FnScope ["_law_cell","_law_many_here","_law_gap"] ["_law_cell","_law_many_here"] (zd yN):=⟨rfl,rfl,rfl,by decide +kernel,rfl,by decide +kernel,by decide +kernel⟩
abbrev wb:Stmt:=top 76
theorem zac:FnScope ["_law_cell","_law_many_here","_law_letters","_law_size","_law_spot","_law_ends"] ["_law_cell","_law_many_here"] (zd wb):=⟨rfl,rfl,rfl,by decide +kernel,rfl,by decide +kernel,by decide +kernel⟩
abbrev yS:Stmt:=top 81
theorem zeP:FnScope ["_law_name","_law_cell"] ["_law_name","_law_cell"] (zd yS):=⟨rfl,rfl,rfl,by decide +kernel,rfl,by decide +kernel,by decide +kernel⟩
abbrev yJ:Stmt:=top 82
theorem zfM:FnScope ["_law_card_here","_law_couple"] ["_law_card_here","_law_couple"] (zd yJ):=⟨rfl,rfl,rfl,by decide +kernel,rfl,by decide +kernel,by decide +kernel⟩
abbrev zbs:Stmt:=top 85
theorem zi8:FnScope ["_law_which","_law_into","_law_card_here","_law_couples_here","_law_couple"] ["_law_which","_law_into","_law_card_here","_law_couples_here","_law_couple"] (zd zbs):=⟨rfl,rfl,rfl,by decide +kernel,rfl,by decide +kernel,by decide +kernel⟩
abbrev yE:Stmt:=wx (top 61) 1
theorem zd7:FnScope ["self","judge","card"] ["self","judge","card"] (zd yE):=⟨rfl,rfl,rfl,by decide +kernel,rfl,by decide +kernel,by decide +kernel⟩
abbrev yX:Stmt:=wx (top 61) 2
theorem zcG:FnScope ["self","couple","judge"] ["self","couple"] (zd yX):=⟨rfl,rfl,rfl,by decide +kernel,rfl,by decide +kernel,by decide +kernel⟩
abbrev wR:Stmt:=wx (top 61) 3
theorem zga:FnScope ["self"] ["self"] (zd wR):=⟨rfl,rfl,rfl,by decide +kernel,rfl,by decide +kernel,by decide +kernel⟩
abbrev yG:Stmt:=wx (top 61) 9
theorem zep:FnScope ["self","judge"] ["self","judge"] (zd yG):=⟨rfl,rfl,rfl,by decide +kernel,rfl,by decide +kernel,by decide +kernel⟩
abbrev zai:Stmt:=top 20
theorem zhR:FnScope ["cards","couple"] ["cards","couple"] (zd zai):=⟨rfl,rfl,rfl,by decide +kernel,rfl,by decide +kernel,by decide +kernel⟩
abbrev zbp:Stmt:=top 21
theorem ziM:FnScope ["marks","number"] ["marks","number"] (zd zbp):=⟨rfl,rfl,rfl,by decide +kernel,rfl,by decide +kernel,by decide +kernel⟩
abbrev wm:Stmt:=top 22
theorem zfm:FnScope ["marks","number"] ["marks","number"] (zd wm):=⟨rfl,rfl,rfl,by decide +kernel,rfl,by decide +kernel,by decide +kernel⟩
abbrev y7:Stmt:=top 24
theorem zeI:FnScope ["marks"] ["marks"] (zd y7):=⟨rfl,rfl,rfl,by decide +kernel,rfl,by decide +kernel,by decide +kernel⟩
abbrev zY:Stmt:=top 44
theorem zcL:FnScope ["sheet","least"] ["sheet","least"] (zd zY):=⟨rfl,rfl,rfl,by decide +kernel,rfl,by decide +kernel,by decide +kernel⟩
abbrev yz:Stmt:=top 52
theorem zeT:FnScope ["couples"] ["couples"] (zd yz):=⟨rfl,rfl,rfl,by decide +kernel,rfl,by decide +kernel,by decide +kernel⟩
abbrev wL:Stmt:=top 55
theorem zgQ:FnScope ["judge"] ["judge"] (zd wL):=⟨rfl,rfl,rfl,by decide +kernel,rfl,by decide +kernel,by decide +kernel⟩
abbrev zaH:Stmt:=top 69
theorem zes:FnScope ["_law_found","_law_due_here","_law_k"] ["_law_found","_law_due_here"] (zd zaH):=⟨rfl,rfl,rfl,by decide +kernel,rfl,by decide +kernel,by decide +kernel⟩
abbrev zaL:Stmt:=top 77
theorem yg:FnScope ["_law_cell","_law_couples_here","_law_style","_law_pool","_law_turn","_law_left","_law_made","_law_k","_law_spot"] ["_law_cell","_law_couples_here","_law_style"] (zd zaL):=⟨rfl,rfl,rfl,by decide +kernel,rfl,by decide +kernel,by decide +kernel⟩
abbrev yK:Stmt:=wx (top 61) 8
theorem zfv:FnScope ["self"] ["self"] (zd yK):=⟨rfl,rfl,rfl,by decide +kernel,rfl,by decide +kernel,by decide +kernel⟩
abbrev wD:Stmt:=top 25
theorem zhj:FnScope ["marks","last"] ["marks","last"] (zd wD):=⟨rfl,rfl,rfl,by decide +kernel,rfl,by decide +kernel,by decide +kernel⟩
abbrev zal:Stmt:=top 28
theorem zdJ:FnScope ["one","other","number"] ["one","other"] (zd zal):=⟨rfl,rfl,rfl,by decide +kernel,rfl,by decide +kernel,by decide +kernel⟩
abbrev yq:Stmt:=top 46
theorem zen:FnScope ["sheet","judge"] ["sheet","judge"] (zd yq):=⟨rfl,rfl,rfl,by decide +kernel,rfl,by decide +kernel,by decide +kernel⟩
abbrev yL:Stmt:=top 53
theorem zfe:FnScope ["judges"] ["judges"] (zd yL):=⟨rfl,rfl,rfl,by decide +kernel,rfl,by decide +kernel,by decide +kernel⟩
abbrev zau:Stmt:=top 71
theorem zdW:FnScope ["_law_found","_law_due_here","_law_k"] ["_law_found","_law_due_here"] (zd zau):=⟨rfl,rfl,rfl,by decide +kernel,rfl,by decide +kernel,by decide +kernel⟩
abbrev zat:Stmt:=top 78
theorem zbk:FnScope ["_law_script","_law_start","_law_couples_here","_law_many_here","_law_style","_law_mode","_law_made","_law_k","_law_cell"] ["_law_script","_law_start","_law_couples_here","_law_many_here","_law_style","_law_mode"] (zd zat):=⟨rfl,rfl,rfl,by decide +kernel,rfl,by decide +kernel,by decide +kernel⟩
abbrev wO:Stmt:=wx (top 61) 0
theorem zgh:FnScope ["self","couples","judges"] ["self","couples","judges"] (zd wO):=⟨rfl,rfl,rfl,by decide +kernel,rfl,by decide +kernel,by decide +kernel⟩
abbrev zaR:Stmt:=top 27
theorem zew:FnScope ["one","other","number"] ["one","other"] (zd zaR):=⟨rfl,rfl,rfl,by decide +kernel,rfl,by decide +kernel,by decide +kernel⟩
abbrev wN:Stmt:=top 34
theorem zdn:FnScope ["one","other","number"] ["one","other"] (zd wN):=⟨rfl,rfl,rfl,by decide +kernel,rfl,by decide +kernel,by decide +kernel⟩
abbrev wG:Stmt:=top 65
theorem zaV:FnScope ["sheet","place","couple","marks","ladder","head","steps"] ["sheet","place","couple"] (zd wG):=⟨rfl,rfl,rfl,by decide +kernel,rfl,by decide +kernel,by decide +kernel⟩
abbrev yt:Stmt:=top 80
theorem zad:FnScope ["_law_sheet_here","_law_names","_law_couples_here","_law_gone","_law_cards","_law_many_here","_law_shut","_law_into","_law_k","_law_count","_law_sealed"] ["_law_sheet_here","_law_names","_law_couples_here","_law_gone","_law_cards","_law_many_here","_law_shut"] (zd yt):=⟨rfl,rfl,rfl,by decide +kernel,rfl,by decide +kernel,by decide +kernel⟩
abbrev yR:Stmt:=top 30
theorem zfR:FnScope ["rows","own"] ["rows","own"] (zd yR):=⟨rfl,rfl,rfl,by decide +kernel,rfl,by decide +kernel,by decide +kernel⟩
abbrev y8:Stmt:=top 29
theorem zdI:FnScope ["cards","couples","rows"] ["cards","couples"] (zd y8):=⟨rfl,rfl,rfl,by decide +kernel,rfl,by decide +kernel,by decide +kernel⟩
abbrev zan:Stmt:=top 79
theorem zct:FnScope ["_law_couples_here","_law_names","_law_cards","_law_sheet_here","_law_k"] ["_law_couples_here","_law_names","_law_cards"] (zd zan):=⟨rfl,rfl,rfl,by decide +kernel,rfl,by decide +kernel,by decide +kernel⟩
abbrev zcb:Stmt:=top 37
theorem sc_places:FnScope ["sheet"] ["sheet"] (zd zcb):=⟨rfl,rfl,rfl,by decide +kernel,rfl,by decide +kernel,by decide +kernel⟩
abbrev zaJ:Stmt:=top 41
theorem zhN:FnScope ["sheet","judge"] ["sheet","judge"] (zd zaJ):=⟨rfl,rfl,rfl,by decide +kernel,rfl,by decide +kernel,by decide +kernel⟩
abbrev zaG:Stmt:=top 43
theorem zbA:FnScope ["sheet","judge","couple","card","stepped","passed","cards"] ["sheet","judge","couple"] (zd zaG):=⟨rfl,rfl,rfl,by decide +kernel,rfl,by decide +kernel,by decide +kernel⟩
abbrev wH:Stmt:=top 45
theorem zg3:FnScope ["cards","couples"] ["cards","couples"] (zd wH):=⟨rfl,rfl,rfl,by decide +kernel,rfl,by decide +kernel,by decide +kernel⟩
abbrev zca:Stmt:=top 39
theorem zjG:FnScope ["sheet"] ["sheet"] (zd zca):=⟨rfl,rfl,rfl,by decide +kernel,rfl,by decide +kernel,by decide +kernel⟩
abbrev zap:Stmt:=top 63
theorem zdH:FnScope ["sheet","couple","all_places"] ["sheet","couple"] (zd zap):=⟨rfl,rfl,rfl,by decide +kernel,rfl,by decide +kernel,by decide +kernel⟩
abbrev zaj:Stmt:=top 42
theorem zex:FnScope ["sheet","now"] ["sheet"] (zd zaj):=⟨rfl,rfl,rfl,by decide +kernel,rfl,by decide +kernel,by decide +kernel⟩
abbrev zaE:Stmt:=top 32
theorem zhJ:FnScope ["places","couples"] ["places","couples"] (zd zaE):=⟨rfl,rfl,rfl,by decide +kernel,rfl,by decide +kernel,by decide +kernel⟩
abbrev wY:Stmt:=top 31
theorem zf7:FnScope ["cards","couples"] ["cards","couples"] (zd wY):=⟨rfl,rfl,rfl,by decide +kernel,rfl,by decide +kernel,by decide +kernel⟩
abbrev yP:Stmt:=top 35
theorem yW:FnScope ["cards","couples","ranked","rows","one","other","parting"] ["cards","couples"] (zd yP):=⟨rfl,rfl,rfl,by decide +kernel,rfl,by decide +kernel,by decide +kernel⟩
abbrev zbo:Stmt:=top 38
theorem ziy:FnScope ["sheet"] ["sheet"] (zd zbo):=⟨rfl,rfl,rfl,by decide +kernel,rfl,by decide +kernel,by decide +kernel⟩
abbrev zaP:Stmt:=top 40
theorem zh5:FnScope ["sheet"] ["sheet"] (zd zaP):=⟨rfl,rfl,rfl,by decide +kernel,rfl,by decide +kernel,by decide +kernel⟩
abbrev zcD:Stmt:=top 64
theorem sc_table:FnScope ["sheet"] ["sheet"] (zd zcD):=⟨rfl,rfl,rfl,by decide +kernel,rfl,by decide +kernel,by decide +kernel⟩
abbrev zZ:Stmt:=top 83
theorem zcK:FnScope ["_law_sheet_here","_law_which"] ["_law_sheet_here","_law_which"] (zd zZ):=⟨rfl,rfl,rfl,by decide +kernel,rfl,by decide +kernel,by decide +kernel⟩
abbrev zaq:Stmt:=top 84
theorem wa:FnScope ["_law_sheet_here","_law_which","_law_judge","_law_couple","_law_told","e"] ["_law_sheet_here","_law_which","_law_judge","_law_couple"] (zd zaq):=⟨rfl,rfl,rfl,by decide +kernel,rfl,by decide +kernel,by decide +kernel⟩
abbrev zaN:Stmt:=top 86
theorem yA:FnScope ["_law_sheet_here","_law_names","_law_cards","_law_couples_here","_law_numbers","_law_stranger_here","_law_pick","_law_into","_law_which","_law_couple","_law_k","_law_judge","_law_card_here","_law_some_here"] ["_law_sheet_here","_law_names","_law_cards","_law_couples_here","_law_numbers","_law_stranger_here","_law_pick"] (zd zaN):=⟨rfl,rfl,rfl,by decide +kernel,rfl,by decide +kernel,by decide +kernel⟩
abbrev zcI:Stmt:=top 87
theorem zaf:FnScope ["_law_script","_law_mode","_law_couples_here","_law_names","_law_cards","_law_sheet_here","_law_many_here","_law_numbers","_law_gone","_law_shut","_law_stranger_here"] ["_law_script"] (zd zcI):=⟨rfl,rfl,rfl,by decide +kernel,rfl,by decide +kernel,by decide +kernel⟩
def zbz(K:PySem.W.Frag):Sp:=fun vs H Q _=>∃(p:Addr) (F:Addr→Prop) (S:Sh),vs = [.ref p]∧zB K H p F S∧Q (.int S.taken) H
section
variable {P:Program} {w:World} {K:PySem.W.Frag} {mg:Str→Option Value} {base:Heap}
theorem zfo{f:Addr}{fd:FuncData}(F:Fun K "taken" "Sheet.taken" wp f fd)(T:Txt K mg):FnOk P w K mg base CX0 1 f fd ["self"] (zbz K):=by
 refine F.ok zfH (fun vs H Q E h=>?_) (fun cdv A outer s H vs Q E hr h=>?_)
 ·obtain⟨p,F,S,rfl,_⟩:=h
  rfl
 ·obtain⟨p,F,S,rfl,⟨dx,a1,a2,a3,d,kvs,h⟩,q⟩:=h
  refine⟨_,(ze (zm (yQ (pv 0) rfl))),?_⟩
  exact⟨_,rfl,p,_,dx,_,_,rfl,h.ip,T.cl_Sheet,T.n_Sheet_taken_so_far,rfl,q⟩
end
def zag(K:PySem.W.Frag):Sp:=fun vs H Q _=>∃(p:Addr) (F:Addr→Prop) (S:Sh),vs = [.ref p]∧zB K H p F S∧Q (.bl S.shut) H
section
variable {P:Program} {w:World} {K:PySem.W.Frag} {mg:Str→Option Value} {base:Heap}
theorem zdr{f:Addr}{fd:FuncData}(F:Fun K "is_sealed" "Sheet.is_sealed" yn f fd)(T:Txt K mg):FnOk P w K mg base CX0 1 f fd ["self"] (zag K):=by
 refine F.ok zdE (fun vs H Q E h=>?_) (fun cdv A outer s H vs Q E hr h=>?_)
 ·obtain⟨p,F,S,rfl,_⟩:=h
  rfl
 ·obtain⟨p,F,S,rfl,⟨dx,a1,a2,a3,d,kvs,h⟩,q⟩:=h
  refine⟨_,(ze (zm (yQ (pv 0) rfl))),?_⟩
  exact⟨_,rfl,p,_,dx,_,_,rfl,h.ip,T.cl_Sheet,T.n_Sheet_sealed,rfl,q⟩
end
def zS(K:PySem.W.Frag):Sp:=fun vs H Q E=>∃(p:Addr) (F:Addr→Prop) (S:Sh),vs = [.ref p]∧zB K H p F S∧(S.shut=true→∀C,zq K "SheetSealed" C→E (.ref C) none H)∧(S.shut=false→Q .non H)
section
variable {P:Program} {w:World} {K:PySem.W.Frag} {mg:Str→Option Value} {base:Heap}
theorem zbL{f:Addr}{fd:FuncData}(F:Fun K "refuse_if_sealed" "Sheet.refuse_if_sealed" zQ f fd)(T:Txt K mg):FnOk P w K mg base (CX1 P w) 1 f fd ["self"] (zS K):=by
 obtain⟨c_SheetSealed,n_SheetSealed,m_SheetSealed,x_SheetSealed⟩:=T.x_SheetSealed
 refine F.okX zbK (fun vs H Q E h=>?_) (fun X W cdv A outer s H vs Q E hX hW fl md hr h=>?_)
 ·obtain⟨p,F,S,rfl,_⟩:=h
  rfl
 ·obtain⟨p,F,S,rfl,⟨dx,a1,a2,a3,d,kvs,h⟩,qE,q⟩:=h
  subst hX
  refine⟨_,(ze (zE (wf (yQ (pv 0) rfl)) (ze (yT rfl md rfl m_SheetSealed x_SheetSealed (za zF zc))) zy)),?_⟩
  refine⟨_,rfl,p,_,dx,_,_,rfl,h.ip,T.cl_Sheet,T.n_Sheet_sealed,rfl,_,rfl,zhQ (fun hs=>?_) (fun hs=>q hs)⟩
  exact⟨(by show 1≤sizeLine;decide),by rw[hW];exact qE hs _ n_SheetSealed⟩
end
def zV(K:PySem.W.Frag):Sp:=fun vs H Q E=>∃(p:Addr) (F:Addr→Prop) (S:Sh) (j:Str),vs = [.ref p,.str j]∧zB K H p F S∧(j∉S.panel→∀C,zq K "UnknownJudge" C→E (.ref C) none H)∧(j∈S.panel→Q .non H)
section
variable {P:Program} {w:World} {K:PySem.W.Frag} {mg:Str→Option Value} {base:Heap}
theorem za2{f:Addr}{fd:FuncData}(F:Fun K "refuse_unknown_judge" "Sheet.refuse_unknown_judge" zI f fd)(T:Txt K mg):FnOk P w K mg base (CX1 P w) 1 f fd ["self","judge"] (zV K):=by
 obtain⟨c_UnknownJudge,n_UnknownJudge,m_UnknownJudge,x_UnknownJudge⟩:=T.x_UnknownJudge
 refine F.okX za4 (fun vs H Q E h=>?_) (fun X W cdv A outer s H vs Q E hX hW fl md hr h=>?_)
 ·obtain⟨p,F,S,j,rfl,_⟩:=h
  rfl
 ·obtain⟨p,F,S,j,rfl,⟨dx,a1,a2,a3,d,kvs,h⟩,qE,q⟩:=h
  subst hX
  refine⟨_,(ze (zE (zo wT (pv 1) (yQ (pv 0) rfl) (by first | exact zt _ | rfl)) (ze (yT rfl md rfl m_UnknownJudge x_UnknownJudge (za zF zc))) zy)),?_⟩
  refine⟨_,rfl,_,rfl,p,_,dx,_,_,rfl,h.ip,T.cl_Sheet,T.n_Sheet_panel,rfl,_,_,rfl,.inl (SqL.of h.i3),rfl,flat_strs _,_,rfl,?_⟩
  rw[inV_strs]
  refine yD (fun hj=>?_) (fun hj=>q hj)
  exact⟨(by show 1≤sizeLine;decide),by rw[hW];exact qE hj _ n_UnknownJudge⟩
end
def zJ(K:PySem.W.Frag):Sp:=fun vs H Q _=>∃(p:Addr) (F:Addr→Prop) (S:Sh),vs = [.ref p]∧zB K H p F S∧∀(l:Addr) (H':Hp),zi H H'→H l=none→H' l=some (.lst (S.couples.map V.int))→Q (.ref l) H'
section
variable {P:Program} {w:World} {K:PySem.W.Frag} {mg:Str→Option Value} {base:Heap}
theorem zea{f:Addr}{fd:FuncData}(F:Fun K "couples" "Sheet.couples" yF f fd)(T:Txt K mg):FnOk P w K mg base CX0 1 f fd ["self"] (zJ K):=by
 refine F.ok zd6 (fun vs H Q E h=>?_) (fun cdv A outer s H vs Q E hr h=>?_)
 ·obtain⟨p,F,S,rfl,_⟩:=h
  rfl
 ·obtain⟨p,F,S,rfl,⟨dx,a1,a2,a3,d,kvs,h⟩,q⟩:=h
  refine⟨_,(ze (zm (zP ye (by rfl) T.b_list PyProof.Rows.boot_list (za (yQ (pv 0) rfl) zc)))),?_⟩
  exact⟨_,rfl,p,_,dx,_,_,rfl,h.ip,T.cl_Sheet,T.n_Sheet_standing,rfl,_,_,rfl,.inl (SqL.of h.i1),fun l hl=>q l _ (zi.new hl) hl zg⟩
end
def zbc(K:PySem.W.Frag):Sp:=fun vs H Q _=>∃(p:Addr) (F:Addr→Prop) (S:Sh),vs = [.ref p]∧zB K H p F S∧∀(l:Addr) (H':Hp),zi H H'→H l=none→H' l=some (.lst (S.struck.map V.int))→Q (.ref l) H'
section
variable {P:Program} {w:World} {K:PySem.W.Frag} {mg:Str→Option Value} {base:Heap}
theorem zeS{f:Addr}{fd:FuncData}(F:Fun K "struck" "Sheet.struck" yU f fd)(T:Txt K mg):FnOk P w K mg base CX0 1 f fd ["self"] (zbc K):=by
 refine F.ok zeQ (fun vs H Q E h=>?_) (fun cdv A outer s H vs Q E hr h=>?_)
 ·obtain⟨p,F,S,rfl,_⟩:=h
  rfl
 ·obtain⟨p,F,S,rfl,⟨dx,a1,a2,a3,d,kvs,h⟩,q⟩:=h
  refine⟨_,(ze (zm (zP ye (by rfl) T.b_list PyProof.Rows.boot_list (za (yQ (pv 0) rfl) zc)))),?_⟩
  exact⟨_,rfl,p,_,dx,_,_,rfl,h.ip,T.cl_Sheet,T.n_Sheet_struck_so_far,rfl,_,_,rfl,.inl (SqL.of h.i2),fun l hl=>q l _ (zi.new hl) hl zg⟩
end
def zba(K:PySem.W.Frag):Sp:=fun vs H Q _=>∃(p:Addr) (F:Addr→Prop) (S:Sh),vs = [.ref p]∧zB K H p F S∧∀(l:Addr) (H':Hp),zi H H'→H l=none→H' l=some (.lst (S.panel.map V.str))→Q (.ref l) H'
section
variable {P:Program} {w:World} {K:PySem.W.Frag} {mg:Str→Option Value} {base:Heap}
theorem zeR{f:Addr}{fd:FuncData}(F:Fun K "judges" "Sheet.judges" yV f fd)(T:Txt K mg):FnOk P w K mg base CX0 1 f fd ["self"] (zba K):=by
 refine F.ok zeK (fun vs H Q E h=>?_) (fun cdv A outer s H vs Q E hr h=>?_)
 ·obtain⟨p,F,S,rfl,_⟩:=h
  rfl
 ·obtain⟨p,F,S,rfl,⟨dx,a1,a2,a3,d,kvs,h⟩,q⟩:=h
  refine⟨_,(ze (zm (zP ye (by rfl) T.b_list PyProof.Rows.boot_list (za (yQ (pv 0) rfl) zc)))),?_⟩
  exact⟨_,rfl,p,_,dx,_,_,rfl,h.ip,T.cl_Sheet,T.n_Sheet_panel,rfl,_,_,rfl,.inl (SqL.of h.i3),fun l hl=>q l _ (zi.new hl) hl zg⟩
end
def zX(K:PySem.W.Frag):Sp:=fun vs H Q _=>∃(p:Addr) (F:Addr→Prop) (S:Sh),vs = [.ref p]∧zjt K H p F S∧S.panel.length≤15∧∀(l:Addr) (H':Hp),zi H H'→H l=none→H' l=some (.lst (S.handed.map V.str))→Q (.ref l) H'
section
variable {P:Program} {w:World} {K:PySem.W.Frag} {mg:Str→Option Value} {base:Heap}
theorem zeL{f:Addr}{fd:FuncData}(F:Fun K "handed" "Sheet.handed" yC f fd)(T:Txt K mg):FnOk P w K mg base CX0 1 f fd ["self"] (zX K):=by
 refine F.ok zeM (fun vs H Q E h=>?_) (fun cdv A outer s H vs Q E hr h=>?_)
 ·obtain⟨p,F,S,rfl,_⟩:=h
  rfl
 ·obtain⟨p,F,S,rfl,⟨dx,a1,a2,a3,d,kvs,h⟩,h15,q⟩:=h
  refine⟨_,(ze (zm (yf (show CompScope (zd yC) ["self"] "judge" ["self"] [0] _ from⟨rfl,by decide +kernel,by decide +kernel,rfl,by decide +kernel,rfl,by decide +kernel,by decide +kernel⟩) rfl (zO (yQ (pv 0) rfl)) (fun _ _ _ _ _=>(zbx (pt_cmp (pc_din (zgE hr) (pv 0) (pe_fldK (K:=K) rfl (pv 1) rfl))))) (fun _ _ _ _ _=>(pv 0))))),?_⟩
  have hln:=zC
  refine⟨_,rfl,p,_,dx,_,_,rfl,h.ip,T.cl_Sheet,T.n_Sheet_panel,rfl,a3,rfl,⟨_,SqL.of h.i3⟩,?_⟩
  refine wX (xs:=S.panel.map V.str) (fun i ys H2=>H2=H∧ys=((S.panel.take i).filter fun j=>(S.card j).isSome).map V.str) ⟨rfl,rfl⟩ ?_ (by rw[List.length_map];omega) ?_ ?_
  ·rintro i ys H2 hi ⟨rfl,rfl⟩
   refine⟨SqL.of h.i3,?_⟩
   rw[List.length_map]
   exact Nat.le_trans (List.length_filter_le _ _) (by rw[List.length_take];omega)
  ·rintro i x ys H2 hx ⟨rfl,rfl⟩
   obtain⟨hi,rfl⟩:=zbt hx
   refine⟨_,rfl,_,rfl,p,_,dx,_,_,rfl,h.ip,T.cl_Sheet,T.n_Sheet_card_by_judge,rfl,d,_,rfl,zeo.k (k:=Sum.inr (S.panel.getD i "")) h.i4,_,rfl,?_⟩
   have hv:(zaO kvs (Sum.inr (S.panel.getD i ""))).isSome=(S.card (S.panel.getD i "")).isSome:=by
    cases e:S.card (S.panel.getD i "")with
    | none=>rw[h.cn _ e];rfl
    | some c=>obtain⟨l,e1,_⟩:=h.cs _ _ e;rw[e1];rfl
   rw[hv]
   refine zhQ (fun hb=>?_) (fun hb=>?_)
   ·refine⟨_,rfl,rfl,?_⟩
    rw[yo hi,List.filter_append,List.filter_cons,if_pos hb,List.map_append]
    rfl
   ·refine⟨rfl,?_⟩
    rw[yo hi,List.filter_append,List.filter_cons,if_neg (by rw[hb];exact Bool.false_ne_true)]
    simp
  ·rintro ys H2 ⟨rfl,rfl⟩ l hl
   rw[List.length_map,List.take_length]
   exact q l _ (zi.new hl) hl zg
end
def zb3(K:PySem.W.Frag):Sp:=fun vs H Q _=>∃(a b:Addr) (ns ms:List Int),vs = [.ref a,.ref b]∧SqL K H a (ns.map V.int)∧SqL K H b (ms.map V.int)∧ns.length<64∧ms.length<64∧∀H',zi H H'→Q (.bl (decide (ns.Perm ms))) H'
theorem zhT{ns ms ns' ms':List Int}(h1:ns'.Perm ns)(h2:ns'.Pairwise (·≤ ·))(h3:ms'.Perm ms)(h4:ms'.Pairwise (·≤ ·)):decide (ns'=ms')=decide (ns.Perm ms):=by
 by_cases h:ns.Perm ms
 ·rw[decide_eq_true h]
  exact decide_eq_true (List.Perm.eq_of_pairwise (fun a b _ _ x y=>Int.le_antisymm x y) h2 h4 (h1.trans (h.trans h3.symm)))
 ·rw[decide_eq_false h]
  refine decide_eq_false fun e=>h ?_
  subst e
  exact h1.symm.trans h3
section
variable {P:Program} {w:World} {K:PySem.W.Frag} {mg:Str→Option Value} {base:Heap}
theorem zgf{f:Addr}{fd:FuncData}(F:Fun K "whole_card" "whole_card" wP f fd)(T:Txt K mg):FnOk P w K mg base CX0 1 f fd ["card","couples"] (zb3 K):=by
 refine F.ok zgg (fun vs H Q E h=>?_) (fun cdv A outer s H vs Q E hr h=>?_)
 ·obtain⟨a,b,ns,ms,rfl,_⟩:=h
  rfl
 ·obtain⟨a,b,ns,ms,rfl,hA,hB,hz1,hz2,q⟩:=h
  refine⟨_,(ze (zm (zbl (zfu hr.units0) (zr zc5 (by rfl) T.b_sorted PyProof.Rows.boot_sorted (za (pv 0) zc)) (zr zc5 (by rfl) T.b_sorted PyProof.Rows.boot_sorted (za (pv 1) zc)) (zt _)))),?_⟩
  refine⟨_,rfl,a,ns,rfl,hA,hz1,fun l1 ns' hl1 p1 w1=>?_⟩
  refine⟨_,rfl,b,ms,rfl,(zi.new hl1).seq hB,hz2,fun l2 ms' hl2 p2 w2=>?_⟩
  refine⟨l1,l2,_,_,rfl,rfl,(zi.new hl2).seq SqL.new,SqL.new,zW _,zW _,?_⟩
  rw[za3,zhT p1 w1 p2 w2]
  exact q _ ((zi.new hl1).newT hl2)
end
def zdD(K:PySem.W.Frag):Sp:=fun vs H Q _=>∃(a:Addr) (ns:List Int) (c:Int),vs = [.ref a,.int c]∧SqL K H a (ns.map V.int)∧c∈ns∧Q (.int ((ns.idxOf c:Nat)+1)) H
section
variable {P:Program} {w:World} {K:PySem.W.Frag} {mg:Str→Option Value} {base:Heap}
theorem zi0{f:Addr}{fd:FuncData}(F:Fun K "mark_on" "mark_on" zbr f fd)(T:Txt K mg):FnOk P w K mg base CX0 1 f fd ["card","couple"] (zdD K):=by
 refine F.ok ziV (fun vs H Q E h=>?_) (fun cdv A outer s H vs Q E hr h=>?_)
 ·obtain⟨a,ns,c,rfl,_⟩:=h
  rfl
 ·obtain⟨a,ns,c,rfl,hS,hc,q⟩:=h
  refine⟨_,(ze (zm (zz yM (zc2 PySem.F.plainAttrs_list PySem.F.slot_list_index PySem.F.type_list_index zdQ (pv 0) (za (pv 1) zc)) zh))),?_⟩
  refine⟨_,rfl,.inl ⟨rfl,_,hS⟩,_,rfl,a,_,_,rfl,rfl,hS,rfl,zW _,?_,_,_,rfl,rfl,?_⟩
  ·rw[zaW,List.length_map];exact List.idxOf_lt_length_iff.mpr hc
  ·rw[zaW];exact q
end
def zaz(K:PySem.W.Frag):Sp:=fun vs H Q _=>∃(a:Addr) (ns:List Int) (c:Int),vs = [.ref a,.int c]∧SqL K H a (ns.map V.int)∧ns.length≤1000∧∀l H',zi H H'→H l=none→H' l=some (.lst ((ns.filter fun o => !decide (o=c)).map V.int))→Q (.ref l) H'
section
variable {P:Program} {w:World} {K:PySem.W.Frag} {mg:Str→Option Value} {base:Heap}
theorem zdS{f:Addr}{fd:FuncData}(F:Fun K "without_couple" "without_couple" yj f fd)(T:Txt K mg):FnOk P w K mg base CX0 1 f fd ["card","couple"] (zaz K):=by
 refine F.ok zd0 (fun vs H Q E h=>?_) (fun cdv A outer s H vs Q E hr h=>?_)
 ·obtain⟨a,ns,c,rfl,_⟩:=h
  rfl
 ·obtain⟨a,ns,c,rfl,hS,hz,q⟩:=h
  refine⟨_,(ze (zm (yf (show CompScope (zd yj) ["card","couple"] "other" ["couple"] [1] _ from⟨rfl,by decide +kernel,by decide +kernel,rfl,by decide +kernel,rfl,by decide +kernel,by decide +kernel⟩) rfl (zO (pv 0)) (fun _ _ _ _ _=>(zbx (zo zay (pv 0) (pv 1) (zt _)))) (fun _ _ _ _ _=>(pv 0))))),?_⟩
  refine⟨_,rfl,a,rfl,⟨_,hS⟩,?_⟩
  refine wX (xs:=ns.map V.int) (fun i ys H2=>H2=H∧ys=((ns.take i).filter fun o => !decide (o=c)).map V.int) ⟨rfl,rfl⟩ ?_ (by rw[List.length_map];exact Nat.le_trans hz (Nat.le_trans (by decide) zC)) ?_ ?_
  ·rintro i ys H2 hi ⟨rfl,rfl⟩
   refine⟨hS,?_⟩
   rw[List.length_map]
   exact Nat.le_trans (List.length_filter_le _ _) (by rw[List.length_take];omega)
  ·rintro i x ys H2 hx ⟨rfl,rfl⟩
   obtain⟨hi,rfl⟩:=yy hx
   refine⟨_,rfl,_,rfl,rfl,_,rfl,yD (fun hne=>?_) (fun he=>?_)⟩
   ·refine⟨_,rfl,rfl,?_⟩
    have:¬ns.getD i 0=c:=fun e=>hne (by rw[e])
    rw[yZ hi,List.filter_append,List.filter_cons_of_pos (by show(!decide (ns.getD i 0=c))=true;rw[decide_eq_false this];rfl),List.map_append]
    rfl
   ·refine⟨rfl,?_⟩
    have:ns.getD i 0=c:=by injection he
    rw[yZ hi,List.filter_append,List.filter_cons_of_neg (by show ¬(!decide (ns.getD i 0=c))=true;rw[decide_eq_true this];decide),List.map_append]
    simp
  ·rintro ys H2 ⟨rfl,rfl⟩ l hl
   rw[List.length_map,List.take_length]
   exact q l _ (zi.new hl) hl zg
end
def zd4(K:PySem.W.Frag):Sp:=fun vs H Q E=>∃(a:Addr) (ns:List Int) (i:Nat),vs = [.ref a,.int (ns.getD i 0)]∧SqL K H a (ns.map V.int)∧ns.Nodup∧i<ns.length∧ns.length≤1000∧(∀n∈ns,1≤n∧n≤999) ∧
 (i=0→∀C,zq K "AtTop" C→E (.ref C) none H)∧(0<i→∀l H',zi H H'→H l=none→H' l=some (.lst ((ns.take (i - 1) ++ [ns.getD i 0,ns.getD (i - 1) 0]++ns.drop (i+1)).map V.int))→Q (.ref l) H')
section
variable {P:Program} {w:World} {K:PySem.W.Frag} {mg:Str→Option Value} {base:Heap}
theorem ok_one_up{f:Addr}{fd:FuncData}(F:Fun K "one_up" "one_up" zcc f fd)(T:Txt K mg):FnOk P w K mg base (CX1 P w) 1 f fd ["card","couple"] (zd4 K):=by
 obtain⟨c_AtTop,n_AtTop,m_AtTop,x_AtTop⟩:=T.x_AtTop
 refine F.okX zef (fun vs H Q E h=>?_) (fun X W cdv A outer s H vs Q E hX hW fl md hr h=>?_)
 ·obtain⟨a,ns,i,rfl,_⟩:=h
  rfl
 ·obtain⟨a,ns,i,rfl,hS,hn,hi,hz,hrg,qE,qQ⟩:=h
  subst hX
  refine⟨_,(zf (zD (i:=2) zef.nd rfl (Or.inl rfl) (zc2 PySem.F.plainAttrs_list PySem.F.slot_list_index PySem.F.type_list_index zdQ (pv 0) (za (pv 1) zc)))
   (zf (zE (zo yk (pv 2) zh (zt _)) (ze (yT rfl md rfl m_AtTop x_AtTop (za (zjy (zdd zF (zdd (ziC (pv 1)) (zdd zF pj_nil)))) zc))) zy)
   (zf (zD (i:=3) zef.nd rfl (Or.inl rfl) (yd zN (pv 0) (zz zfa (pv 2) zh) (fun _ _=>rfl)))
   (ze (zm (zz zax (zz zax (wj zbh (pv 0) zaw (wS (zz zfa (pv 2) zh))) (yi (za (pv 1) (za (pv 3) zc)))) (wj zbh (pv 0) (wS (zz yM (pv 2) zh)) zaw))))))),?_⟩
  have hix:ns.idxOf (ns.getD i 0)=i:=by rw[zeY hi];exact hn.idxOf_getElem i hi
  have hl:=zC
  have hlog:(ns.getD i 0).natAbs.log2<1920:=by
   have:=hrg _ (ww hi)
   exact(Nat.log2_lt (by omega)).mpr (Nat.lt_of_lt_of_le (show(ns.getD i 0).natAbs<2 ^ 10 by omega) (Nat.pow_le_pow_right (by decide) (by decide)))
  refine⟨_,rfl,.inl ⟨rfl,_,hS⟩,_,rfl,a,_,_,rfl,rfl,hS,rfl,zW _,by rw[zaW,hix,List.length_map];exact hi,?_⟩
  rw[zaW,hix]
  refine⟨_,rfl,rfl,_,rfl,yI (fun h0=>?_) (fun h0=>?_)⟩
  ·have h0:i=0:=by injection h0 with h0;omega
   have hL:=PyProof.Rows.int_text_len_1921 hlog
   have l1:(Str.empty++Str.ofString "couple ").length≤0+7:=zhd (by decide) (by decide)
   have l2:=zhd l1 hL
   have l3:=zhd l2 (show(Str.ofString " is the first one on the card").length≤29 by decide)
   exact⟨_,rfl,Nat.le_trans l1 (by decide),_,rfl,.inl ⟨_,rfl,hlog,_,rfl,Nat.le_trans l2 (by decide),_,rfl,Nat.le_trans l3 (by decide),Nat.le_trans l3 (by decide),(by show 1≤sizeLine;decide),by rw[hW];exact qE h0 _ n_AtTop⟩⟩
  ·have h0:0<i:=Nat.pos_of_ne_zero fun z=>h0 (by rw[z];rfl)
   refine⟨_,rfl,_,rfl,_,_,rfl,rfl,a,_,_,_,rfl,rfl,hS,zch (by omega) (by omega),?_⟩
   refine⟨_,rfl,_,rfl,_,_,rfl,rfl,_,rfl,a,_,rfl,hS,fun l1 hl1=>?_⟩
   rw[zeg (by omega),show((i:Int) - 1).toNat=i - 1 by omega]
   refine⟨_,rfl,_,rfl,(by show 2≤sizeLine;decide),fun l2 hl2=>?_⟩
   have s1:=zi.new (o:=.lst ((ns.take (i - 1)).map V.int)) hl1
   have s2:=s1.newT (o:=.lst ([ns.getD i 0,ns.getD (i - 1) 0].map V.int)) hl2
   have n12:l1≠l2:=zu zg hl2
   refine⟨l1,l2,_,[ns.getD i 0,ns.getD (i - 1) 0].map V.int,rfl,rfl,by rw[zj n12];exact zg,zg,by simp only[List.length_map,List.length_take,List.length_cons,List.length_nil];omega,fun l3 hl3=>?_⟩
   rw[← List.map_append]
   have s3:=s2.newT (o:=.lst ((ns.take (i - 1) ++ [ns.getD i 0,ns.getD (i - 1) 0]).map V.int)) hl3
   refine⟨_,rfl,_,rfl,_,_,rfl,rfl,_,rfl,a,_,rfl,s3.seq hS,fun l4 hl4=>?_⟩
   rw[zer (by omega),show((i:Int)+1).toNat=i+1 by omega]
   have s4:=s3.newT (o:=.lst ((ns.drop (i+1)).map V.int)) hl4
   have n34:l3≠l4:=zu zg hl4
   refine⟨l3,l4,_,_,rfl,rfl,by rw[zj n34];exact zg,zg,by simp only[List.length_map,List.length_append,List.length_take,List.length_drop,List.length_cons,List.length_nil];omega,fun l5 hl5=>?_⟩
   rw[← List.map_append]
   exact qQ h0 l5 _ (s4.newT hl5) (s4.free hl5) zg
end
def zbH(K:PySem.W.Frag):Sp:=fun vs H Q _=>∃(n:Int),vs = [.int n]∧Q (.int (n/2+1)) H
section
variable {P:Program} {w:World} {K:PySem.W.Frag} {mg:Str→Option Value} {base:Heap}
theorem ze7{f:Addr}{fd:FuncData}(F:Fun K "majority_of" "majority_of" wq f fd)(T:Txt K mg):FnOk P w K mg base CX0 1 f fd ["many"] (zbH K):=by
 refine F.ok zfS (fun vs H Q E h=>?_) (fun cdv A outer s H vs Q E hr h=>?_)
 ·obtain⟨n,rfl,_⟩:=h
  rfl
 ·obtain⟨n,rfl,q⟩:=h
  refine⟨_,(ze (zm (zz yM (zz zcC (pv 0) zh) zh))),?_⟩
  exact⟨_,rfl,_,_,rfl,rfl,⟨by decide,by decide⟩,_,_,rfl,rfl,q⟩
end
def zbR(K:PySem.W.Frag):Sp:=fun vs H Q _=>∃(a:Addr) (ms:List Int) (n:Int),vs = [.ref a,.int n]∧SqL K H a (ms.map V.int)∧ms.length≤1000∧∀(l:Addr) (H':Hp),zi H H'→H l=none→H' l=some (.lst ((M3.got ms n).map V.int))→Q (.ref l) H'
section
variable {P:Program} {w:World} {K:PySem.W.Frag} {mg:Str→Option Value} {base:Heap}
theorem zhC{f:Addr}{fd:FuncData}(F:Fun K "granting" "granting" zak f fd)(T:Txt K mg):FnOk P w K mg base CX0 1 f fd ["marks","number"] (zbR K):=by
 refine F.ok zik (fun vs H Q E h=>?_) (fun cdv A outer s H vs Q E hr h=>?_)
 ·obtain⟨a,ms,n,rfl,_⟩:=h
  rfl
 ·obtain⟨a,ms,n,rfl,hS,hz,q⟩:=h
  refine⟨_,(ze (zm (yf (show CompScope (zd zak) ["marks","number"] "mark" ["number"] [1] _ from⟨rfl,by decide +kernel,by decide +kernel,rfl,by decide +kernel,rfl,by decide +kernel,by decide +kernel⟩) rfl (zO (pv 0)) (fun _ _ _ _ _=>(zbx (zo zio (pv 0) (pv 1) (zt _)))) (fun _ _ _ _ _=>(pv 0))))),?_⟩
  refine⟨_,rfl,a,rfl,⟨_,hS⟩,?_⟩
  refine wX (xs:=ms.map V.int) (fun i ys H2=>H2=H∧ys=(M3.got (ms.take i) n).map V.int) ⟨rfl,rfl⟩ ?_ (by rw[List.length_map];have:=zC;omega) ?_ ?_
  ·rintro i ys H2 hi ⟨rfl,rfl⟩
   refine⟨hS,?_⟩
   rw[List.length_map]
   have:=M3.zec (ms.take i) n
   unfold M3.cnt at this
   rw[List.length_take] at this
   omega
  ·rintro i x ys H2 hx ⟨rfl,rfl⟩
   obtain⟨hi,rfl⟩:=yy hx
   refine⟨_,rfl,_,rfl,_,_,rfl,rfl,_,rfl,yI (fun h=>?_) (fun h=>?_)⟩
   ·refine⟨_,rfl,rfl,?_⟩
    rw[M3.zin n hi,if_pos h,List.map_append]
    rfl
   ·refine⟨rfl,?_⟩
    rw[M3.zin n hi,if_neg h]
  ·rintro ys H2 ⟨rfl,rfl⟩ l hl
   rw[List.length_map,List.take_length]
   exact q l _ (zi.new hl) hl zg
end
def zbI(K:PySem.W.Frag):Sp:=fun vs H Q _=>∃(n:Int),vs = [.int n]∧Q (.bl (decide (1≤n) && decide (n≤999))) H
section
variable {P:Program} {w:World} {K:PySem.W.Frag} {mg:Str→Option Value} {base:Heap}
theorem zfA{f:Addr}{fd:FuncData}(F:Fun K "good_number" "good_number" wk f fd)(T:Txt K mg):FnOk P w K mg base CX0 1 f fd ["couple"] (zbI K):=by
 refine F.ok zfy (fun vs H Q E h=>?_) (fun cdv A outer s H vs Q E hr h=>?_)
 ·obtain⟨n,rfl,_⟩:=h
  rfl
 ·obtain⟨n,rfl,q⟩:=h
  refine⟨_,(ze (zm (zfN zio zio zh (pv 0) (zc4 T.c_MOST_NUMBER rfl)))),?_⟩
  refine⟨_,rfl,_,_,rfl,rfl,_,rfl,yI (fun h1=>?_) (fun h1=>?_)⟩
  ·rw[decide_eq_true h1,Bool.true_and] at q
   exact⟨_,_,rfl,rfl,q⟩
  ·rw[decide_eq_false h1,Bool.false_and] at q
   exact q
end
def za5(K:PySem.W.Frag):Sp:=fun vs H Q _=>∃(c:Nat),vs = [.str ⟨#[c]⟩]∧Q (.bl (zbP c)) H
section
variable {P:Program} {w:World} {K:PySem.W.Frag} {mg:Str→Option Value} {base:Heap}
theorem zeH{f:Addr}{fd:FuncData}(F:Fun K "small_letter" "small_letter" yY f fd)(T:Txt K mg):FnOk P w K mg base CX0 1 f fd ["sign"] (za5 K):=by
 refine F.ok zeU (fun vs H Q E h=>?_) (fun cdv A outer s H vs Q E hr h=>?_)
 ·obtain⟨c,rfl,_⟩:=h
  rfl
 ·obtain⟨c,rfl,q⟩:=h
  refine⟨_,(ze (zm (zfN zgx zgx zF (pv 0) zF))),?_⟩
  unfold zbP at q
  refine⟨_,rfl,_,_,rfl,rfl,_,rfl,?_⟩
  rw[M2.le_a]
  refine yI (fun h1=>?_) (fun h1=>?_)
  ·rw[decide_eq_true h1,Bool.true_and] at q
   refine⟨_,_,rfl,rfl,?_⟩
   rw[M2.le_z]
   exact q
  ·rw[decide_eq_false h1,Bool.false_and] at q
   exact q
end
def wM(K:PySem.W.Frag):Sp:=fun vs H Q _=>∃(x:V) (n:Nat) (m:Int),vs = [x,.int m]∧LenV K x H n∧Q (.bl (decide (1≤(n:Int)) && decide ((n:Int)≤m))) H
section
variable {P:Program} {w:World} {K:PySem.W.Frag} {mg:Str→Option Value} {base:Heap}
theorem ze4{f:Addr}{fd:FuncData}(F:Fun K "good_length" "good_length" wn f fd)(T:Txt K mg):FnOk P w K mg base CX0 1 f fd ["things","most"] (wM K):=by
 refine F.ok zfh (fun vs H Q E h=>?_) (fun cdv A outer s H vs Q E hr h=>?_)
 ·obtain⟨x,n,m,rfl,_⟩:=h
  rfl
 ·obtain⟨x,n,m,rfl,hx,q⟩:=h
  refine⟨_,(ze (zm (zfN zio zio zh (zr call_len (by rfl) T.b_len PySem.boot_len (za (pv 0) zc)) (pv 1)))),?_⟩
  refine⟨_,rfl,x,n,rfl,hx,_,_,rfl,rfl,_,rfl,yI (fun h1=>?_) (fun h1=>?_)⟩
  ·rw[decide_eq_true h1,Bool.true_and] at q
   exact⟨_,rfl,_,_,rfl,rfl,q⟩
  ·rw[decide_eq_false h1,Bool.false_and] at q
   exact q
end
def zaS(K:PySem.W.Frag):Sp:=fun vs H Q _=>∃a:Addr,vs = [.ref a]∧((∃ns:List Int,SqL K H a (ns.map V.int)∧ns.length<4000∧∀H',zi H H'→Q (.bl (decide ns.Nodup)) H')∨∃ts:List Str,SqL K H a (ts.map V.str)∧ts.length<4000∧Q (.bl (decide ts.Nodup)) H)
section
variable {P:Program} {w:World} {K:PySem.W.Frag} {mg:Str→Option Value} {base:Heap}
theorem zf0{f:Addr}{fd:FuncData}(F:Fun K "all_unlike" "all_unlike" wU f fd)(T:Txt K mg):FnOk P w K mg base CX0 1 f fd ["things"] (zaS K):=by
 refine F.ok zfZ (fun vs H Q E h=>?_) (fun cdv A outer s H vs Q E hr h=>?_)
 ·obtain⟨a,rfl,_⟩:=h
  rfl
 ·obtain⟨a,rfl,h⟩:=h
  refine⟨_,(ze (zm (zbl yk (pe_both (zr call_len_set (by rfl) T.b_len PySem.boot_len (za (zP (zgV rfl) (by rfl) T.b_set PyProof.Rows.boot_set (za (pv 0) zc)) zc)) (ziW rfl (by rfl) T.b_len (by rfl) T.b_set (pv 0))) (zr zp (by rfl) T.b_len PySem.boot_len (za (pv 0) zc)) (zt _)))),?_⟩
  rcases h with⟨ns,hS,hz,q⟩ | ⟨ts,hS,hz,q⟩
  ·refine .inl ⟨_,rfl,a,ns,rfl,hS,hz,fun l hl=>?_⟩
   refine⟨l,_,_,rfl,zg,_,rfl,a,_,rfl,.inl ((zi.new hl).seq hS),rfl,?_⟩
   have e:decide (V.int ((PyProof.Rows.firstMet (fun i=>ns.getD i 0) ns.length).length:Int)=V.int ((ns.map V.int).length:Int))=decide ns.Nodup:=by
    rw[List.length_map]
    by_cases h:ns.Nodup
    ·rw[decide_eq_true h,(zhK ns).mpr h];exact decide_eq_true rfl
    ·rw[decide_eq_false h]
     refine decide_eq_false fun z=>h ((zhK ns).mp ?_)
     injection z with z
     exact Int.ofNat.inj z
   rw[e]
   exact q _ (zi.new hl)
  ·refine .inr ⟨_,rfl,a,ts,rfl,hS,hz,?_⟩
   refine⟨_,rfl,a,_,rfl,.inl hS,rfl,?_⟩
   have e:decide (V.int ((met (fun i=>ts.getD i "") ts.length).length:Int)=V.int ((ts.map V.str).length:Int))=decide ts.Nodup:=by
    rw[List.length_map]
    by_cases h:ts.Nodup
    ·rw[decide_eq_true h,(zia ts "").mpr h];exact decide_eq_true rfl
    ·rw[decide_eq_false h]
     refine decide_eq_false fun z=>h ((zia ts "").mp ?_)
     injection z with z
     exact Int.ofNat.inj z
   rw[e]
   exact q
end
def zbf(K:PySem.W.Frag):Sp:=fun vs H Q _=>∃x b1 b2,vs = [x]∧isInt x=some b1∧isBool x=some b2∧Q (.bl (b1 && !b2)) H
section
variable {P:Program} {w:World} {K:PySem.W.Frag} {mg:Str→Option Value} {base:Heap}
theorem zgU{f:Addr}{fd:FuncData}(F:Fun K "_law_whole" "_law_whole" zar f fd)(T:Txt K mg):FnOk P w K mg base CX0 1 f fd ["_law_found"] (zbf K):=by
 refine F.ok zgN (fun vs H Q E h=>?_) (fun cdv A outer s H vs Q E hr h=>?_)
 ·obtain⟨x,b1,b2,rfl,_⟩:=h
  rfl
 ·obtain⟨x,b1,b2,rfl,h1,h2,k⟩:=h
  refine⟨_,(ze (zm (zcy (zr zg2 (by rfl) T.b_isinstance PyProof.Rows.boot_isinstance (za (pv 0) (za (zcw (v:=V.ty "int") rfl T.b_int PyProof.Rows.boot_int rfl) zc))) (zfB (pe_not (zr zdp (by rfl) T.b_isinstance PyProof.Rows.boot_isinstance (za (pv 0) (za (zcw (v:=V.ty "bool") rfl T.b_bool PyProof.Rows.boot_bool rfl) zc)))))))),?_⟩
  refine⟨_,rfl,x,b1,rfl,h1,_,rfl,?_⟩
  cases b1 with
  | false=>exact zbg k
  | true=>exact zf4 ⟨_,rfl,x,b2,rfl,h2,_,rfl,k⟩
end
def zdc(K:PySem.W.Frag):Sp:=fun vs H Q _=>∃(a:Addr) (ns:List Int) (k:Int),vs = [.ref a,.int k]∧SqL K H a (ns.map V.int)∧0≤k∧Q (.int (ns.getD k.toNat 0)) H
section
variable {P:Program} {w:World} {K:PySem.W.Frag} {mg:Str→Option Value} {base:Heap}
theorem ok_law_at{f:Addr}{fd:FuncData}(F:Fun K "_law_at" "_law_at" zb7 f fd)(T:Txt K mg):FnOk P w K mg base CX0 1 f fd ["_law_script","_law_k"] (zdc K):=by
 refine F.ok zjD (fun vs H Q E h=>?_) (fun cdv A outer s H vs Q E hr h=>?_)
 ·obtain⟨a,ns,k,rfl,_⟩:=h
  rfl
 ·obtain⟨a,ns,k,rfl,hS,h0,q⟩:=h
  refine⟨_,(zf (zE (zo zdM (pv 1) (zr zp (by rfl) T.b_len PySem.boot_len (za (pv 0) zc)) (zt _)) (ze (zm (yd zN (pv 0) (pv 1) (fun _ _=>rfl)))) zy)
   (ze (zm zh))),?_⟩
  refine⟨_,rfl,_,rfl,a,_,rfl,.inl hS,_,_,rfl,rfl,_,rfl,yI (fun hk=>?_) (fun hk=>?_)⟩
  ·rw[List.length_map] at hk
   exact⟨_,rfl,_,rfl,a,_,k,_,rfl,rfl,hS,zch h0 hk,q⟩
  ·rw[List.length_map] at hk
   show Q (.int 0) H
   rw[List.getD_eq_getElem?_getD,List.getElem?_eq_none (by omega)] at q
   exact q
end
def zcu(K:PySem.W.Frag):Sp:=fun vs H Q _=>∃(a b:Addr) (ts us:List Str),vs = [.ref a,.ref b]∧SqL K H a (ts.map V.str)∧SqL K H b (us.map V.str)∧us.length≤1000000∧Q (.bl (decide (ts=us))) H
theorem zjz{ts us:List Str}(hl:ts.length=us.length)(h:∀j,j<us.length→ts.getD j "" = us.getD j ""):ts=us:=by
 refine List.ext_getElem hl fun j h1 h2=>?_
 have:=h j h2
 rwa [List.getD_eq_getElem?_getD,List.getD_eq_getElem?_getD,List.getElem?_eq_getElem h1,List.getElem?_eq_getElem h2] at this
section
variable {P:Program} {w:World} {K:PySem.W.Frag} {mg:Str→Option Value} {base:Heap}
theorem zhf{f:Addr}{fd:FuncData}(F:Fun K "_law_texts" "_law_texts" zao f fd)(T:Txt K mg):FnOk P w K mg base CX0 1 f fd ["_law_found","_law_due_here"] (zcu K):=by
 refine F.ok zdT (fun vs H Q E h=>?_) (fun cdv A outer s H vs Q E hr h=>?_)
 ·obtain⟨a,b,ts,us,rfl,_⟩:=h
  rfl
 ·obtain⟨a,b,ts,us,rfl,hA,hB,hz,q⟩:=h
  refine⟨_,(zf (zE (PW.pt (zdP (zaa (wf (zr zbW (by rfl) T.b_isinstance PyProof.Rows.boot_isinstance (za (pv 0) (za (zcw (v:=V.ty "list") rfl T.b_list PyProof.Rows.boot_list rfl) zc))))) (zc0 (zo zay (zr zp (by rfl) T.b_len PySem.boot_len (za (pv 0) zc)) (zr zp (by rfl) T.b_len PySem.boot_len (za (pv 1) zc)) (zt _))))) (ze (zm wZ)) zy)
   (zf (zah PassesOwn.never rfl (wl rfl T.b_range (za (zr zp (by rfl) T.b_len PySem.boot_len (za (pv 1) zc)) zc)) (yu (i:=2) zdT.nd rfl (Or.inl rfl))
     (ze (zE (PW.pt (zdP (zaa (wf (zr zgT (by rfl) T.b_isinstance PyProof.Rows.boot_isinstance (za (yd zN (pv 0) (pv 2) (fun _ _=>rfl)) (za (zcw (v:=V.ty "str") rfl T.b_str PyProof.Rows.boot_str rfl) zc))))) (zc0 (zo zay (yd zN (pv 0) (pv 2) (fun _ _=>rfl)) (yd zN (pv 1) (pv 2) (fun _ _=>rfl)) (zt _))))) (ze (zm wZ)) zy)))
   (ze (zm wZ)))),?_⟩
  refine⟨_,rfl,_,_,rfl,.yes hA,_,rfl,zbg ?_⟩
  refine⟨_,rfl,a,_,rfl,.inl hA,_,rfl,b,_,rfl,.inl hB,rfl,_,rfl,?_⟩
  rw[List.length_map,List.length_map]
  refine yD (fun hne=>?_) (fun he=>?_)
  ·show Q (.bl false) H
   have:ts≠us:=fun e=>hne (by rw[e])
   rw[decide_eq_false this] at q
   exact q
  ·have hl:ts.length=us.length:=by injection he with he;exact Int.ofNat.inj he
   refine⟨_,rfl,b,_,rfl,.inl hB,_,rfl,by omega,by rw[List.length_map];omega,?_⟩
   rw[List.length_map]
   refine zam (fun i σ H2=>∃v,σ = [some (.ref a),some (.ref b),v]∧H2=H∧∀j,j<i→ts.getD j "" = us.getD j "") ⟨_,rfl,rfl,fun j hj=>by omega⟩ ?_ ?_
   ·rintro i σ H2 hi ⟨v,rfl,rfl,hj⟩
    have hi':i<us.length:=by simpa using hi
    have e1:atI (ts.map V.str) (0+(i:Int))=some (.str (ts.getD i "")):=by rw[Int.zero_add];exact zae (zeX (by omega))
    have e2:atI (us.map V.str) (0+(i:Int))=some (.str (us.getD i "")):=by rw[Int.zero_add];exact zae (zeX hi')
    refine⟨_,rfl,_,rfl,a,_,_,_,rfl,rfl,hA,e1,_,_,rfl,rfl,_,rfl,zbg ?_⟩
    refine⟨_,rfl,_,rfl,a,_,_,_,rfl,rfl,hA,e1,_,rfl,_,rfl,b,_,_,_,rfl,rfl,hB,e2,rfl,_,rfl,yD (fun hne=>?_) (fun he=>?_)⟩
    ·show Q (.bl false) _
     have:ts≠us:=fun e=>hne (by rw[e])
     rw[decide_eq_false this] at q
     exact q
    ·refine⟨_,rfl,rfl,fun j hj'=>?_⟩
     by_cases hji:j=i
     ·subst hji;injection he
     ·exact hj j (by omega)
   ·rintro σ H2 ⟨v,rfl,rfl,hj⟩
    show Q (.bl true) _
    have:ts=us:=zjz hl fun j h=>hj j (by simpa using h)
    rw[decide_eq_true this] at q
    exact q
end
def mixZ(c p:Int):Int:=(c*48271%2147483647+p+1)*69621%2147483647
def zdy(K:PySem.W.Frag):Sp:=fun vs H Q _=>∃c p,vs = [.int c,.int p]∧Q (.int (mixZ c p)) H
section
variable {P:Program} {w:World} {K:PySem.W.Frag} {mg:Str→Option Value} {base:Heap}
theorem ziK{f:Addr}{fd:FuncData}(F:Fun K "_law_mix" "_law_mix" zbm f fd)(T:Txt K mg):FnOk P w K mg base CX0 1 f fd ["_law_cell","_law_place"] (zdy K):=by
 refine F.ok zfb (fun vs H Q E h=>?_) (fun cdv A outer s H vs Q E hr h=>?_)
 ·obtain⟨c,p,rfl,_⟩:=h
  rfl
 ·obtain⟨c,p,rfl,q⟩:=h
  refine⟨_,(zf (zD (i:=2) zfb.nd rfl (Or.inl rfl) (zz yB (zz zfG (pv 0) zh) zh))
   (ze (zm (zz yB (zz zfG (zz yM (zz yM (pv 2) (pv 1)) zh) zh) zh)))),?_⟩
  refine⟨_,rfl,_,_,rfl,rfl,.inr ⟨by decide,by decide⟩,_,_,rfl,rfl,(by show(0:Int)<2147483647;decide),?_⟩
  exact⟨_,rfl,_,rfl,_,_,rfl,rfl,_,_,rfl,rfl,_,_,rfl,rfl,.inr ⟨by decide,by decide⟩,_,_,rfl,rfl,(by show(0:Int)<2147483647;decide),q⟩
end
def zcV(K:PySem.W.Frag):Sp:=fun vs H Q _=>∃(md c a b d:Int),vs = [.int md,.int c,.int a,.int b,.int d]∧a≤b∧b≤d∧∀r:Int,a≤r→r≤d→Q (.int r) H
section
variable {P:Program} {w:World} {K:PySem.W.Frag} {mg:Str→Option Value} {base:Heap}
theorem zhX{f:Addr}{fd:FuncData}(F:Fun K "_law_many" "_law_many" zaI f fd)(T:Txt K mg):FnOk P w K mg base CX0 1 f fd ["_law_mode","_law_cell","_law_least","_law_few","_law_most"] (zcV K):=by
 refine F.ok zhv (fun vs H Q E h=>?_) (fun cdv A outer s H vs Q E hr h=>?_)
 ·obtain⟨md,c,a,b,d,rfl,_⟩:=h
  rfl
 ·obtain⟨md,c,a,b,d,rfl,h1,h2,q⟩:=h
  refine⟨_,(zf (zE (zo yk (pv 0) zh (zt _)) (ze (zm (pv 4))) zy)
   (zf (zE (zo yk (pv 0) zh (zt _)) (ze (zm (zz yM (pv 2) (zz yB (pv 1) (zz zfa (zz yM (pv 4) zh) (pv 2)))))) zy)
   (ze (zm (zz yM (pv 2) (zz yB (pv 1) (zz zfa (zz yM (pv 3) zh) (pv 2)))))))),?_⟩
  have e1:=Int.emod_nonneg c (show d+1 - a≠0 by omega)
  have e2:=Int.emod_lt_of_pos c (show 0<d+1 - a by omega)
  have e3:=Int.emod_nonneg c (show b+1 - a≠0 by omega)
  have e4:=Int.emod_lt_of_pos c (show 0<b+1 - a by omega)
  refine⟨_,rfl,rfl,_,rfl,yI (fun _=>⟨_,rfl,q d (by omega) (by omega)⟩) (fun _=>?_)⟩
  refine⟨_,rfl,rfl,_,rfl,yI (fun _=>?_) (fun _=>?_)⟩
  ·exact⟨_,rfl,_,rfl,_,rfl,_,_,rfl,rfl,_,rfl,_,_,rfl,rfl,_,_,rfl,rfl,(by show 0<d+1 - a;omega),_,_,rfl,rfl,q _ (by omega) (by omega)⟩
  ·exact⟨_,rfl,_,rfl,_,rfl,_,_,rfl,rfl,_,rfl,_,_,rfl,rfl,_,_,rfl,rfl,(by show 0<b+1 - a;omega),_,_,rfl,rfl,q _ (by omega) (by omega)⟩
end
def zc1(K:PySem.W.Frag):Sp:=fun vs H Q _=>∃(a:Addr) (ns:List Int) (c:Int),vs = [.ref a,.int c]∧H a=some (.lst (ns.map V.int))∧ns.length≤1000∧∀(r:Addr) (H':Hp) (ms:List Int),zi H H'→H' r=some (.lst (ms.map V.int))→(∀m∈ms,m∈ns)→ms.length≤7→Q (.ref r) H'
section
variable {P:Program} {w:World} {K:PySem.W.Frag} {mg:Str→Option Value} {base:Heap}
theorem zh1{f:Addr}{fd:FuncData}(F:Fun K "_law_some" "_law_some" zaK f fd)(T:Txt K mg):FnOk P w K mg base CX0 1 f fd ["_law_row","_law_cell"] (zc1 K):=by
 refine F.ok zhx (fun vs H Q E h=>?_) (fun cdv A outer s H vs Q E hr h=>?_)
 ·obtain⟨a,ns,c,rfl,_⟩:=h
  rfl
 ·obtain⟨a,ns,c,rfl,hA0,hz,q⟩:=h
  have hA:SqL K H a (ns.map V.int):=SqL.of hA0
  refine⟨_,(zf (zE (zo zdM (zr zp (by rfl) T.b_len PySem.boot_len (za (pv 0) zc)) zh (zt _)) (ze (zm (pv 0))) zy)
   (ze (zm (yi (za (yd zN (pv 0) zh (fun _ _=>rfl)) (za (yd zN (pv 0) (zz yB (pv 1) (zr zp (by rfl) T.b_len PySem.boot_len (za (pv 0) zc))) (fun _ _=>rfl)) (za (yd zN (pv 0) (zht zfU zh) (fun _ _=>rfl)) zc))))))),?_⟩
  have hln:=zC
  refine⟨_,rfl,a,_,rfl,.inl hA,_,_,rfl,rfl,_,rfl,yI (fun h=>?_) (fun h=>?_)⟩
  ·rw[List.length_map] at h
   exact⟨_,rfl,q a H ns (zi.refl _) hA0 (fun m hm=>hm) (by omega)⟩
  ·rw[List.length_map] at h
   have hp:0<ns.length:=by omega
   obtain⟨x1,i1,e1⟩:=zhw (ns:=ns) (i:=0) (by decide) (by omega)
   obtain⟨x2,i2,e2⟩:=zhw (ns:=ns) (i:=c%((ns.map V.int).length:Int)) (Int.emod_nonneg _ (by rw[List.length_map];omega)) (by rw[List.length_map];exact Int.emod_lt_of_pos _ (by omega))
   obtain⟨x3,i3,e3⟩:=ints_last (ns:=ns) (by intro z;rw[z] at hp;simp at hp)
   refine⟨_,rfl,a,_,_,_,rfl,rfl,hA,e1,_,rfl,_,rfl,_,rfl,a,_,rfl,.inl hA,_,_,rfl,rfl,(by show(0:Int)<((ns.map V.int).length:Int);rw[List.length_map];omega),a,_,_,_,rfl,rfl,hA,e2,_,rfl,_,rfl,a,_,_,_,rfl,rfl,hA,e3,(by show 3≤sizeLine;decide),fun l hl=>?_⟩
   refine q l _ [x1,x2,x3] (zi.new hl) zg (fun m hm=>?_) (by show 3≤7;decide)
   simp only[List.mem_cons,List.not_mem_nil,or_false] at hm
   rcases hm with rfl | rfl | rfl
   ·exact i1
   ·exact i2
   ·exact i3
end
def zbD(K:PySem.W.Frag):Sp:=fun vs H Q _=>∃c m,vs = [.int c,.int m]∧0≤m∧m≤1000∧∀l H',zi H H'→H l=none→H' l=some (.lst ((M1.couples c m.toNat).map V.int))→Q (.ref l) H'
section
variable {P:Program} {w:World} {K:PySem.W.Frag} {mg:Str→Option Value} {base:Heap}
theorem zfX{f:Addr}{fd:FuncData}(F:Fun K "_law_couples" "_law_couples" yN f fd)(T:Txt K mg):FnOk P w K mg base CX0 1 f fd ["_law_cell","_law_many_here"] (zbD K):=by
 refine F.ok zcS (fun vs H Q E h=>?_) (fun cdv A outer s H vs Q E hr h=>?_)
 ·obtain⟨c,m,rfl,_⟩:=h
  rfl
 ·obtain⟨c,m,rfl,h0,h1,q⟩:=h
  refine⟨_,(zf (zD (i:=2) zcS.nd rfl (Or.inr rfl) (yd zN (yi (za zh (za zh (za zh (za zh zc))))) (zz yB (pv 0) zh) (fun _ _=>rfl)))
   (ze (zm (yf (show CompScope (zd yN) ["_law_cell","_law_many_here","_law_gap"] "_law_k" ["_law_cell","_law_gap"] [0,2] _ from⟨rfl,by decide +kernel,by decide +kernel,rfl,by decide +kernel,rfl,by decide +kernel,by decide +kernel⟩) rfl (wl rfl T.b_range (za (pv 1) zc)) (fun _ _ _ _ _=>wd) (fun _ _ _ _ _=>(zz yM (zz yB (zz yM (zz zcC (pv 1) zh) (zz zfG (pv 0) (pv 2))) zh) zh)))))),?_⟩
  refine⟨by decide,fun p hp=>?_⟩
  have g4:0≤c%4∧c%4<4:=⟨Int.emod_nonneg _ (by decide),Int.emod_lt_of_pos _ (by decide)⟩
  have eg:atI [V.int 1,V.int 7,V.int 500,V.int 998] (c%4)=some (.int (M1.gap c)):=by
   have h:c%4=0∨c%4=1∨c%4=2∨c%4=3:=by omega
   unfold M1.gap
   rcases h with h | h | h | h <;> rw[h] <;> rfl
  refine⟨_,rfl,_,_,rfl,rfl,(by show(0:Int)<4;decide),p,_,_,_,rfl,rfl,SqL.new,eg,?_⟩
  refine⟨_,rfl,m,rfl,by omega,by omega,?_⟩
  refine zc7 (fun i ys H2=>H2=upd H p (.lst [V.int 1,V.int 7,V.int 500,V.int 998])∧ys=(M1.couples c i).map V.int) ⟨rfl,rfl⟩ ?_ (Nat.le_trans (by omega) zC) ?_ ?_
  ·rintro i ys H2 hi ⟨_,rfl⟩
   rw[List.length_map,M1.zeA]
   exact Nat.le_refl _
  ·rintro i ys H2 hi ⟨rfl,rfl⟩
   refine⟨_,rfl,_,_,rfl,rfl,⟨by decide,by decide⟩,_,rfl,_,rfl,_,_,rfl,rfl,.inl ⟨by omega,by omega⟩,_,_,rfl,rfl,_,_,rfl,rfl,(by show(0:Int)<999;decide),_,_,rfl,rfl,rfl,?_⟩
   rw[M1.zg4,List.map_append,Int.zero_add]
   rfl
  ·rintro ys H2 ⟨rfl,rfl⟩ l hl
   exact q l _ ((zi.new hp).newT hl) (zi.free (zi.new hp) hl) zg
end
def zbZ(K:PySem.W.Frag):Sp:=fun vs H Q _=>∃(c m:Int),vs = [.int c,.int m]∧0≤m∧m≤15∧∀(l:Addr) (H':Hp) (ts:List Str),zi H H'→H l=none→H' l=some (.lst (ts.map V.str))→ts.length=m.toNat→ts.Nodup→(∀z∈ts,M2.zcR z=true)→(∀z∈ts,∀y∈ts,z.length=y.length)→Q (.ref l) H'
theorem abc_at{i:Int}(h0:0≤i)(h1:i<26):atI abc.cps.toList i=some (97+i.toNat):=by
 have:∀k:Fin 26,abc.cps.toList[k.val]? = some (97+k.val):=by decide +kernel
 have:=zae (this ⟨i.toNat,by omega⟩)
 rwa [show((i.toNat:Nat):Int)=i by omega] at this
section
variable {P:Program} {w:World} {K:PySem.W.Frag} {mg:Str→Option Value} {base:Heap}
theorem zgl{f:Addr}{fd:FuncData}(F:Fun K "_law_judges" "_law_judges" wb f fd)(T:Txt K mg):FnOk P w K mg base CX0 1 f fd ["_law_cell","_law_many_here"] (zbZ K):=by
 refine F.ok zac (fun vs H Q E h=>?_) (fun cdv A outer s H vs Q E hr h=>?_)
 ·obtain⟨c,m,rfl,_⟩:=h
  rfl
 ·obtain⟨c,m,rfl,m0,m1,q⟩:=h
  refine⟨_,(zf (zD (i:=2) zac.nd rfl (Or.inr rfl) zF)
   (zf (zD (i:=3) zac.nd rfl (Or.inl rfl) (zz yB (pv 0) zh))
   (zf (zD (i:=4) zac.nd rfl (Or.inl rfl) (zz yB (zz zcC (pv 0) zh) (zz yM (pv 3) zh)))
   (zf (zD (i:=5) zac.nd rfl (Or.inr rfl) (yi (za (wj ziL zF zaw (wS (pv 4))) (za (wj ziL zF (wS (pv 4)) (wS (pv 3))) zc))))
   (ze (zm (yf (show CompScope (zd wb) ["_law_cell","_law_many_here","_law_letters","_law_size","_law_spot","_law_ends"] "_law_k" ["_law_cell","_law_letters","_law_ends"] [0,2,5] _ from⟨rfl,by decide +kernel,by decide +kernel,rfl,by decide +kernel,rfl,by decide +kernel,by decide +kernel⟩) rfl (wl rfl T.b_range (za (pv 1) zc)) (fun _ _ _ _ _=>wd) (fun _ _ _ _ _=>(zz yO (zz yO (yd (zb5 (K:=K) rfl) (pv 3) zh (fun _ _=>rfl)) (yd ix_str (pv 2) (zz yB (zz yM (zz zcC (pv 1) zh) (zz zfG zh (pv 0))) zh) (fun _ _=>rfl))) (yd (zb5 (K:=K) rfl) (pv 3) zh (fun _ _=>rfl))))))))))),?_⟩
  have hln:=zC
  have z0:0≤c%8:=Int.emod_nonneg _ (by decide)
  have z1:c%8<8:=Int.emod_lt_of_pos _ (by decide)
  refine⟨_,rfl,_,_,rfl,rfl,(by show(0:Int)<8;decide),?_⟩
  dsimp only
  generalize c%8=size at z0 z1 ⊢
  have p0:0≤c/8%(size+1):=Int.emod_nonneg _ (by omega)
  have p1:c/8%(size+1)<size+1:=Int.emod_lt_of_pos _ (by omega)
  refine⟨_,rfl,_,_,rfl,rfl,⟨by decide,by decide⟩,_,rfl,_,_,rfl,rfl,_,_,rfl,rfl,(by show 0<size+1;omega),?_⟩
  dsimp only
  generalize c/8%(size+1)=spot at p0 p1 ⊢
  have he:=M10.ends_ok ⟨size.toNat,by omega⟩ ⟨spot.toNat,by omega⟩ (by show spot.toNat≤size.toNat;omega)
  dsimp only at he
  rw[show((spot.toNat:Nat):Int)=spot by omega,show((size.toNat:Nat):Int)=size by omega] at he
  refine⟨_,rfl,_,rfl,_,rfl,(by show 7≤sizeLine;decide),_,rfl,_,rfl,_,rfl,_,rfl,_,rfl,(by show 7≤sizeLine;decide),(by show 2≤sizeLine;decide),fun p3 hp3=>?_⟩
  generalize PySem.Txt.slice "vwxyzab" none (some spot)=e0 at he ⊢
  generalize PySem.Txt.slice "vwxyzab" (some spot) (some size)=e1 at he ⊢
  obtain⟨hl,h0,h1⟩:=he
  have s3:=zi.new (o:=.lst [.str e0,.str e1]) hp3
  have q3:=SqL.new (K:=K) (H:=H) (l:=p3) (xs := [.str e0,.str e1])
  generalize hH3:upd H p3 _=H3 at s3 q3 ⊢
  refine⟨_,rfl,m,rfl,by omega,by omega,?_⟩
  refine zc7 (fun i ys H4=>H4=H3∧ys=(M10.zbU e0 e1 (c/64) i).map V.str) ⟨rfl,rfl⟩ ?_ (by omega) ?_ ?_
  ·rintro i ys H4 hi ⟨rfl,rfl⟩
   rw[List.length_map,M10.zfw]
   omega
  ·rintro i ys H4 hi ⟨rfl,rfl⟩
   have i0:=Int.emod_nonneg (c/64+11*(0+(i:Int))) (show(26:Int)≠0 by decide)
   have i1:=Int.emod_lt_of_pos (c/64+11*(0+(i:Int))) (show(0:Int)<26 by decide)
   refine⟨_,rfl,p3,_,_,_,rfl,rfl,q3,rfl,_,rfl,_,rfl,_,_,rfl,rfl,⟨by decide,by decide⟩,_,rfl,_,_,rfl,rfl,.inl ⟨by decide,by decide⟩,_,_,rfl,rfl,_,_,rfl,rfl,(by show(0:Int)<26;decide),abc,_,_,rfl,rfl,(by decide),abc_at i0 i1,_,_,rfl,rfl,(by show e0.length+1≤sizeLine;omega),_,rfl,p3,_,_,_,rfl,rfl,q3,rfl,_,_,rfl,rfl,(by rw[yb];show e0.length+1+e1.length≤sizeLine;omega),rfl,?_⟩
   rw[M10.zii,List.map_append,Int.zero_add]
   rfl
  ·rintro ys H4 ⟨rfl,rfl⟩ l hl'
   refine q l _ _ (s3.newT hl') (s3.free hl') zg (M10.zfw _ _ _ _) (M10.zhh _ _ _ (by omega)) (fun z hz=>?_) (fun z hz y hy=>?_)
   rotate_left
   ·unfold M10.zbU at hz hy
    obtain⟨k,_,rfl⟩:=List.mem_map.mp hz
    obtain⟨k',_,rfl⟩:=List.mem_map.mp hy
    unfold M10.zfO
    rw[yb,yb,yb,yb]
    rfl
   unfold M10.zbU at hz
   obtain⟨k,_,rfl⟩:=List.mem_map.mp hz
   exact M10.ziJ _ _ hl h0 h1
end
def za6(K:PySem.W.Frag):Sp:=fun vs H Q _=>∃(z:Str) (c:Int),vs = [.str z,.int c]∧M2.zcR z=true∧∀(y:Str) (H':Hp),zi H H'→y.length≤60→¬(M2.zcR y=true∧y.length=z.length)→Q (.str y) H'
section
variable {P:Program} {w:World} {K:PySem.W.Frag} {mg:Str→Option Value} {base:Heap}
theorem zeJ{f:Addr}{fd:FuncData}(F:Fun K "_law_stranger" "_law_stranger" yS f fd)(T:Txt K mg):FnOk P w K mg base CX0 1 f fd ["_law_name","_law_cell"] (za6 K):=by
 refine F.ok zeP (fun vs H Q E h=>?_) (fun cdv A outer s H vs Q E hr h=>?_)
 ·obtain⟨z,c,rfl,_⟩:=h
  rfl
 ·obtain⟨z,c,rfl,hz,q⟩:=h
  refine⟨_,(ze (zm (yd zN (yi (za zF (za (zz yO (pv 0) zF) (za (wj ziL (pv 0) zaw (wS (zht zfU zh))) (za (pe_bm0 PySem.F.plainAttrs_str PySem.F.slot_str_upper PySem.F.type_str_upper ms_upperB (pv 0)) (za (zz yO zF (pv 0)) (za (zz yO (pv 0) zF) (za zF (za zF zc))))))))) (zz yB (pv 1) zh) (fun _ _=>rfl)))),?_⟩
  have hln:=zC
  obtain⟨⟨z1,z8⟩,zs⟩:=(M2.zcf z).mp hz
  have la:("a" : Str).length=1:=by decide +kernel
  have lb:(" " : Str).length=1:=by decide +kernel
  have ls:=PySem.Txt.slice_le z none (some (-1))
  refine⟨_,rfl,_,_,rfl,rfl,(by omega),_,rfl,_,rfl,_,rfl,z,rfl,(by omega),_,rfl,rfl,z,rfl,rfl,by omega,fun hy=>?_⟩
  have hup:¬M2.zcR (PySem.Txt.upper z)=true:=fun hg=>by
   obtain⟨_,us⟩:=(M2.zcf _).mp hg
   have hp0:0<z.cps.toList.length:=by rw[Array.length_toList];exact z1
   have hm:=List.getElem_mem hp0
   have h1:=zs _ hm
   have h2:=us _ (upper_mem hm h1)
   unfold zbP at h1 h2
   simp only[Bool.and_eq_true,decide_eq_true_eq] at h1 h2
   omega
  generalize PySem.Txt.upper z=y at hy hup ⊢
  refine⟨_,rfl,_,_,rfl,rfl,(by omega),_,rfl,_,_,rfl,rfl,(by omega),(by show 8≤sizeLine;decide),fun p hp=>?_⟩
  have s1:=zi.new (o:=.lst (([Str.ofString "",z++Str.ofString "a",PySem.Txt.slice z none (some (-1)),y,Str.ofString " " ++ z,z++Str.ofString " ",Str.ofString "judge name",Str.ofString "0"]:List Str).map V.str)) hp
  have h8:0≤c%8∧c%8<8:=⟨Int.emod_nonneg _ (by decide),Int.emod_lt_of_pos _ (by decide)⟩
  refine⟨_,rfl,_,_,rfl,rfl,(by show(0:Int)<8;decide),p,_,_,_,rfl,rfl,(show SqL K _ p (([Str.ofString "",z++Str.ofString "a",PySem.Txt.slice z none (some (-1)),y,Str.ofString " " ++ z,z++Str.ofString " ",Str.ofString "judge name",Str.ofString "0"]:List Str).map V.str)from SqL.new),zb9 h8.1 (by simpa using h8.2),?_⟩
  refine q _ _ s1 ?_ ?_
  ·have hm:=zab (ts:=([Str.ofString "",z++Str.ofString "a",PySem.Txt.slice z none (some (-1)),y,Str.ofString " " ++ z,z++Str.ofString " ",Str.ofString "judge name",Str.ofString "0"]:List Str)) (i:=(c%8).toNat) (by simp;omega)
   generalize ([Str.ofString "",z++Str.ofString "a",PySem.Txt.slice z none (some (-1)),y,Str.ofString " " ++ z,z++Str.ofString " ",Str.ofString "judge name",Str.ofString "0"]:List Str).getD (c%8).toNat "" = r at hm ⊢
   have l0:(Str.ofString "").length=0:=by decide +kernel
   have lj:(Str.ofString "judge name").length=10:=by decide +kernel
   have l1:(Str.ofString "0").length=1:=by decide +kernel
   have la:(Str.ofString "a").length=1:=by decide +kernel
   have lb:(Str.ofString " ").length=1:=by decide +kernel
   simp only[List.mem_cons,List.not_mem_nil,or_false] at hm
   rcases hm with h | h | h | h | h | h | h | h
   ·rw[h,l0];omega
   ·rw[h,yb];omega
   ·rw[h];omega
   ·rw[h];omega
   ·rw[h,yb];omega
   ·rw[h,yb];omega
   ·rw[h,lj];omega
   ·rw[h,l1];omega
  ·have hm:=zab (ts:=([Str.ofString "",z++Str.ofString "a",PySem.Txt.slice z none (some (-1)),y,Str.ofString " " ++ z,z++Str.ofString " ",Str.ofString "judge name",Str.ofString "0"]:List Str)) (i:=(c%8).toNat) (by simp;omega)
   generalize ([Str.ofString "",z++Str.ofString "a",PySem.Txt.slice z none (some (-1)),y,Str.ofString " " ++ z,z++Str.ofString " ",Str.ofString "judge name",Str.ofString "0"]:List Str).getD (c%8).toNat "" = r at hm ⊢
   have l0:(Str.ofString "").length=0:=by decide +kernel
   have lj:(Str.ofString "judge name").length=10:=by decide +kernel
   have l1:(Str.ofString "0").length=1:=by decide +kernel
   have la:(Str.ofString "a").length=1:=by decide +kernel
   have lb:(Str.ofString " ").length=1:=by decide +kernel
   simp only[List.mem_cons,List.not_mem_nil,or_false] at hm
   rcases hm with h | h | h | h | h | h | h | h
   ·rintro ⟨g,_⟩;rw[h] at g;exact absurd g (by decide +kernel)
   ·rintro ⟨_,g⟩;rw[h,yb] at g;omega
   ·rintro ⟨_,g⟩;rw[h] at g;have:=cut1_lt z1 z8;omega
   ·rintro ⟨g,_⟩;rw[h] at g;exact hup g
   ·rintro ⟨_,g⟩;rw[h,yb] at g;omega
   ·rintro ⟨_,g⟩;rw[h,yb] at g;omega
   ·rintro ⟨g,_⟩;rw[h] at g;exact absurd g (by decide +kernel)
   ·rintro ⟨g,_⟩;rw[h] at g;exact absurd g (by decide +kernel)
end
def zbv(K:PySem.W.Frag):Sp:=fun vs H Q _=>∃(a:Addr) (ns:List Int) (c:Int),vs = [.ref a,.int c]∧SqL K H a (ns.map V.int)∧ns.length≤1000∧∀(l:Addr) (H':Hp),zi H H'→H l=none→H' l=some (.lst ((ns.filter fun o => !decide (o=c)).map V.int))→Q (.ref l) H'
section
variable {P:Program} {w:World} {K:PySem.W.Frag} {mg:Str→Option Value} {base:Heap}
theorem zfV{f:Addr}{fd:FuncData}(F:Fun K "_law_without" "_law_without" yJ f fd)(T:Txt K mg):FnOk P w K mg base CX0 1 f fd ["_law_card_here","_law_couple"] (zbv K):=by
 refine F.ok zfM (fun vs H Q E h=>?_) (fun cdv A outer s H vs Q E hr h=>?_)
 ·obtain⟨a,ns,c,rfl,_⟩:=h
  rfl
 ·obtain⟨a,ns,c,rfl,hS,hz,q⟩:=h
  refine⟨_,(ze (zm (yf (show CompScope (zd yJ) ["_law_card_here","_law_couple"] "_law_other" ["_law_couple"] [1] _ from⟨rfl,by decide +kernel,by decide +kernel,rfl,by decide +kernel,rfl,by decide +kernel,by decide +kernel⟩) rfl (zO (pv 0)) (fun _ _ _ _ _=>(zbx (zo zay (pv 0) (pv 1) (zt _)))) (fun _ _ _ _ _=>(pv 0))))),?_⟩
  refine⟨_,rfl,a,rfl,⟨_,hS⟩,?_⟩
  refine wX (xs:=ns.map V.int) (fun i ys H2=>H2=H∧ys=((ns.take i).filter fun o => !decide (o=c)).map V.int) ⟨rfl,rfl⟩ ?_ (by rw[List.length_map];have:=zC;omega) ?_ ?_
  ·rintro i ys H2 hi ⟨rfl,rfl⟩
   refine⟨hS,?_⟩
   rw[List.length_map]
   have:=List.length_filter_le (fun o => !decide (o=c)) (ns.take i)
   rw[List.length_take] at this
   omega
  ·rintro i x ys H2 hx ⟨rfl,rfl⟩
   obtain⟨hi,rfl⟩:=yy hx
   refine⟨_,rfl,_,rfl,rfl,_,rfl,yD (fun h=>?_) (fun h=>?_)⟩
   ·have h:¬ns.getD i 0=c:=fun z=>h (by rw[z])
    refine⟨_,rfl,rfl,?_⟩
    rw[yZ hi,List.filter_append,List.filter_cons_of_pos (by simpa using h),List.map_append]
    rfl
   ·have h:ns.getD i 0=c:=by injection h
    refine⟨rfl,?_⟩
    rw[yZ hi,List.filter_append,List.filter_cons_of_neg (by simpa using h),List.filter_nil,List.append_nil]
  ·rintro ys H2 ⟨rfl,rfl⟩ l hl
   rw[List.length_map,List.take_length]
   exact q l _ (zi.new hl) hl zg
end
theorem zd9{P:Prop}{B:Hp→Prop}{G:Prop}{H:Hp}(hG:(∀H',zi H H'→P→B H')→G)(hB:∀H',zi H H'→P→B H'):G:=hG hB
theorem zg5{A B:TT}{a b:Prop} [Decidable a] [Decidable b]{σ:St}{H:Hp}(hA:∀R:Bool→Hp→Prop,R (decide a) H→A σ H R)(hB:∀R:Bool→Hp→Prop,R (decide b) H→B σ H R)(R:Bool→Hp→Prop)(h:R (decide (a∧b)) H):tAnd A B σ H R:=by
 refine hA _ ?_
 by_cases ha:a
 ·rw[decide_eq_true ha,if_pos rfl]
  refine hB _ ?_
  rw[show decide b=decide (a∧b)from decide_eq_decide.mpr ⟨fun z=>⟨ha,z⟩,fun z=>z.2⟩]
  exact h
 ·rw[decide_eq_false ha,if_neg Bool.false_ne_true]
  rw[decide_eq_false (fun z=>ha z.1)] at h
  exact h
theorem or_dec{A B:TT}{a b:Prop} [Decidable a] [Decidable b]{σ:St}{H:Hp}(hA:∀R:Bool→Hp→Prop,R (decide a) H→A σ H R)(hB:∀R:Bool→Hp→Prop,R (decide b) H→B σ H R)(R:Bool→Hp→Prop)(h:R (decide (a∨b)) H):tOr A B σ H R:=by
 refine hA _ ?_
 by_cases ha:a
 ·rw[decide_eq_true ha,if_pos rfl]
  rw[decide_eq_true (.inl ha)] at h
  exact h
 ·rw[decide_eq_false ha,if_neg Bool.false_ne_true]
  refine hB _ ?_
  rw[show decide b=decide (a∨b)from decide_eq_decide.mpr ⟨fun z=>.inr z,fun z=>z.resolve_left ha⟩]
  exact h
def Held(K:PySem.W.Frag)(H:Hp)(v:V)(o:Option (List Int)):Prop:=(v=.non∧o=none)∨∃(h:Addr) (xs:List Int),v=.ref h∧o=some xs∧SqL K H h (xs.map V.int)
def zck(k:Int)(m:Nat)(o:Option (List Int))(us:List Int)(c:Int):Str :=
 if(k<5∧m=0)∨(k=5∧m<2)∨(k=6∧m=0)then "f" else if k=6∧c∉us then "c" else if 6<k∧o=none then "j" else if 6<k∧o=some [] then "n" else if k=7∧m<2 then "f" else if k=9∧c∉us then "c" else if k=9∧(o.getD []).getD 0 0=c then "t" else ""
def zdu(K:PySem.W.Frag):Sp:=fun vs H Q _=>∃(k:Int) (m:Nat) (v:V) (o:Option (List Int)) (a:Addr) (us:List Int) (c:Int),vs = [.int k,.int m,v,.ref a,.int c]∧Held K H v o∧SqL K H a (us.map V.int)∧∀H',zi H H'→Q (.str (zck k m o us c)) H'
section
variable {P:Program} {w:World} {K:PySem.W.Frag} {mg:Str→Option Value} {base:Heap}
theorem ziQ{f:Addr}{fd:FuncData}(F:Fun K "_law_due" "_law_due" zbs f fd)(T:Txt K mg):FnOk P w K mg base CX0 1 f fd ["_law_which","_law_into","_law_card_here","_law_couples_here","_law_couple"] (zdu K):=by
 refine F.ok zi8 (fun vs H Q E h=>?_) (fun cdv A outer s H vs Q E hr h=>?_)
 ·obtain⟨k,m,v,o,a,us,c,rfl,_⟩:=h
  rfl
 ·obtain⟨k,m,v,o,a,us,c,rfl,hv,hA,q⟩:=h
  refine⟨_,(zf (zE (PW.pt (zdP (PW.pt (zbF (zo zdM (pv 0) zh (zt _)) (zaA (zo yk (pv 1) zh (zt _))))) (zdP (PW.pt (zbF (zo yk (pv 0) zh (zt _)) (zaA (zo zdM (pv 1) zh (zt _))))) (zc0 (PW.pt (zbF (zo yk (pv 0) zh (zt _)) (zaA (zo yk (pv 1) zh (zt _))))))))) (ze (zm zF)) zy)
   (zf (zE (PW.pt (zbF (zo yk (pv 0) zh (zt _)) (zaA (zo wT (pv 4) (pv 3) (by first | exact zt _ | rfl))))) (ze (zm zF)) zy)
   (zf (zE (PW.pt (zbF (zo zix (pv 0) zh (zt _)) (zaA (zo ziZ (pv 2) zcA (zt _))))) (ze (zm zF)) zy)
   (zf (zE (PW.pt (zbF (zo zix (pv 0) zh (zt _)) (zaA (zo (zfu hr.units0) (pv 2) (yi zc) (zt _))))) (ze (zm zF)) zy)
   (zf (zE (PW.pt (zbF (zo yk (pv 0) zh (zt _)) (zaA (zo zdM (pv 1) zh (zt _))))) (ze (zm zF)) zy)
   (zf (zE (PW.pt (zbF (zo yk (pv 0) zh (zt _)) (zaA (zo wT (pv 4) (pv 3) (by first | exact zt _ | rfl))))) (ze (zm zF)) zy)
   (zf (zE (PW.pt (zbF (zo yk (pv 0) zh (zt _)) (zaA (zo yk (yd zN (pv 2) zh (fun _ _=>rfl)) (pv 4) (zt _))))) (ze (zm zF)) zy)
   (ze (zm zF))))))))),?_⟩
  unfold zck at q
  have s0:=zi.refl H
  have e0:∀n:Nat,(V.int (m:Int)=V.int (n:Int))↔m=n:=fun n=>⟨fun z=>(by injection z with z;omega),fun z=>(by rw[z])⟩
  have ek:∀n:Int,(V.int k=V.int n)↔k=n:=fun n=>⟨fun z=>(by injection z),fun z=>(by rw[z])⟩
  apply zd9 (H:=H) (P:=¬((k<5∧m=0)∨(k=5∧m<2)∨(k=6∧m=0)))
  ·intro hn
   show tOr _ _ _ _ _
   refine or_dec (a:=k<5∧V.int (m:Int)=V.int 0) (b:=(V.int k=V.int 5∧(m:Int)<2)∨(V.int k=V.int 6∧V.int (m:Int)=V.int 0)) (zg5 (fun R h=>⟨_,rfl,_,_,rfl,rfl,_,rfl,h⟩) (fun R h=>⟨_,rfl,rfl,_,rfl,h⟩)) (or_dec (zg5 (fun R h=>⟨_,rfl,rfl,_,rfl,h⟩) (fun R h=>⟨_,rfl,_,_,rfl,rfl,_,rfl,h⟩)) (zg5 (fun R h=>⟨_,rfl,rfl,_,rfl,h⟩) (fun R h=>⟨_,rfl,rfl,_,rfl,h⟩))) _ ?_
   have ee:((k<5∧V.int (m:Int)=V.int 0)∨(V.int k=V.int 5∧(m:Int)<2)∨(V.int k=V.int 6∧V.int (m:Int)=V.int 0))↔((k<5∧m=0)∨(k=5∧m<2)∨(k=6∧m=0)):=by
    rw[ek,ek,show V.int 0=V.int ((0:Nat):Int)from rfl,e0]
    omega
   rw[decide_eq_decide.mpr ee]
   refine yI (fun h=>?_) (fun h=>hn H s0 h)
   rw[if_pos h] at q;exact q _ s0
  intro H0 s n1
  rw[if_neg n1] at q
  apply zd9 (H:=H) (P:=¬(k=6∧c∉us))
  ·intro hn
   refine⟨_,rfl,rfl,_,rfl,yI (fun h=>⟨_,rfl,_,rfl,a,_,rfl,.inl (s.seq hA),rfl,zW _,_,rfl,?_⟩) (fun h=>zbg (hn _ s fun z=>h (by rw[z.1])))⟩
   rw[zc3]
   refine yD (fun h2=>?_) (fun h2=>hn _ s fun z=>z.2 h2)
   rw[if_pos ⟨by injection h,h2⟩] at q;exact q _ s
  intro H0 s n2
  rw[if_neg n2] at q
  apply zd9 (H:=H) (P:=¬(6<k∧o=none))
  ·intro hn
   refine⟨_,rfl,_,_,rfl,rfl,_,rfl,yI (fun h=>⟨_,rfl,rfl,_,rfl,yI (fun h2=>?_) (fun h2=>hn _ s fun z=>?_)⟩) (fun h=>zbg (hn _ s fun z=>h z.1))⟩
   ·rcases hv with⟨_,ho⟩ | ⟨g,xs,hw,_,_⟩
    ·rw[if_pos ⟨h,ho⟩] at q;exact q _ s
    ·rw[hw] at h2;cases h2
   ·rcases hv with⟨hw,_⟩ | ⟨g,xs,_,ho,_⟩
    ·exact h2 hw
    ·rw[ho] at z;cases z.2
  intro H0 s n3
  rw[if_neg n3] at q
  apply zd9 (H:=H) (P:=¬(6<k∧o=some []))
  ·intro hn
   refine⟨_,rfl,_,_,rfl,rfl,_,rfl,yI (fun h=>?_) (fun h=>zbg (hn _ s fun z=>h z.1))⟩
   rcases hv with⟨_,ho⟩ | ⟨g,xs,hw,ho,hx⟩
   ·exact absurd ⟨h,ho⟩ n3
   refine⟨_,rfl,(by show 0≤sizeLine;decide),fun l2 hl2=>?_⟩
   have t2:=s.newT (o:=.lst []) hl2
   refine⟨g,l2,_,[],hw,rfl,t2.seq hx,SqL.new,zW _,rfl,_,rfl,?_⟩
   generalize upd H0 l2 _=H2 at t2 ⊢
   rw[show eqL (xs.map V.int) []=decide (xs = [])from za3 _ []]
   refine yI (fun h2=>?_) (fun h2=>hn _ t2 fun z=>?_)
   ·rw[if_pos ⟨h,by rw[ho,h2]⟩] at q;exact q _ t2
   ·rw[ho] at z
    exact h2 (by injection z.2)
  intro H0 s n4
  rw[if_neg n4] at q
  apply zd9 (H:=H) (P:=¬(k=7∧m<2))
  ·intro hn
   refine⟨_,rfl,rfl,_,rfl,yI (fun h=>⟨_,rfl,_,_,rfl,rfl,_,rfl,yI (fun h2=>?_) (fun h2=>hn _ s fun z=>h2 (by omega))⟩) (fun h=>zbg (hn _ s fun z=>h (by rw[z.1])))⟩
   rw[if_pos ⟨by injection h,by omega⟩] at q;exact q _ s
  intro H0 s n5
  rw[if_neg n5] at q
  apply zd9 (H:=H) (P:=¬(k=9∧c∉us))
  ·intro hn
   refine⟨_,rfl,rfl,_,rfl,yI (fun h=>⟨_,rfl,_,rfl,a,_,rfl,.inl (s.seq hA),rfl,zW _,_,rfl,?_⟩) (fun h=>zbg (hn _ s fun z=>h (by rw[z.1])))⟩
   rw[zc3]
   refine yD (fun h2=>?_) (fun h2=>hn _ s fun z=>z.2 h2)
   rw[if_pos ⟨by injection h,h2⟩] at q;exact q _ s
  intro H0 s n6
  rw[if_neg n6] at q
  refine⟨_,rfl,rfl,_,rfl,yI (fun h=>?_) (fun h=>zbg ?_)⟩
  ·have h9:k=9:=by injection h
   rcases hv with⟨_,ho⟩ | ⟨g,xs,hw,ho,hx⟩
   ·exact absurd ⟨by omega,ho⟩ n3
   have hxl:0<xs.length:=by
    cases xs with
    | nil=>exact absurd ⟨by omega,ho⟩ n4
    | cons=>simp
   refine⟨_,rfl,g,_,_,_,hw,rfl,s.seq hx,zch (by decide) (by show(0:Int)<xs.length;omega),_,rfl,rfl,_,rfl,yI (fun h2=>?_) (fun h2=>?_)⟩
   ·have h2:xs.getD (0:Int).toNat 0=c:=by injection h2
    rw[if_pos ⟨h9,by rw[ho];exact h2⟩] at q;exact q _ s
   ·rw[if_neg (fun z=>h2 (by rw[ho] at z;exact congrArg V.int z.2))] at q;exact q _ s
  ·rw[if_neg (fun z=>h (by rw[z.1]))] at q;exact q _ s
end
def zaF(K:PySem.W.Frag):Sp:=fun vs H Q E=>∃(p:Addr) (F:Addr→Prop) (S:Sh) (j:Str) (a:Addr) (ns:List Int),vs = [.ref p,.str j,.ref a]∧zB K H p F S∧SqL K H a (ns.map V.int)∧ns.length<64 ∧
 (∀c,S.refuse j ns=some c→∀C H',zq K c C→zi H H'→E (.ref C) none H')∧(S.refuse j ns=none→∀H' F',zB K H' p F' (S.hand j ns)→zcv F H F' H'→Q .non H')
section
variable {P:Program} {w:World} {K:PySem.W.Frag} {mg:Str→Option Value} {base:Heap}
theorem zeb{f:Addr}{fd:FuncData}(F:Fun K "hand_in" "Sheet.hand_in" yE f fd)(T:Txt K mg)(C_whole_card:Can P w K mg base 1 "whole_card" ["card","couples"] (zb3 K))(C_Sheet_refuse_if_sealed:CanMX P w K mg base 1 (zH K "Sheet") "refuse_if_sealed" ["self"] (zS K))(C_Sheet_refuse_unknown_judge:CanMX P w K mg base 1 (zH K "Sheet") "refuse_unknown_judge" ["self","judge"] (zV K)):FnOk P w K mg base (CX1 P w) 2 f fd ["self","judge","card"] (zaF K):=by
 obtain⟨c_BadCard,n_BadCard,m_BadCard,x_BadCard⟩:=T.x_BadCard
 obtain⟨c_TooManyCards,n_TooManyCards,m_TooManyCards,x_TooManyCards⟩:=T.x_TooManyCards
 refine F.okX zd7 (fun vs H Q E h=>?_) (fun X W cdv A outer s H vs Q E hX hW fl md hr h=>?_)
 ·obtain⟨p,F,S,j,a,ns,rfl,_⟩:=h
  rfl
 ·obtain⟨p,F,S,j,a,ns,rfl,hSh,hA,hz,qE,q⟩:=h
  obtain⟨dx,a1,a2,a3,d,kvs,h⟩:=id hSh
  subst hX
  refine⟨_,(zf (zM (zc9 C_Sheet_refuse_if_sealed T.cl_Sheet fl (hr.mono (by decide)) (pv 0)))
   (zf (zM (wI C_Sheet_refuse_unknown_judge T.cl_Sheet fl (hr.mono (by decide)) (pv 0) (za (pv 1) zc)))
   (zf (zE (zaa (wf (zk C_whole_card (hr.mono (by decide)) rfl (za (pv 2) (za (yQ (pv 0) rfl) zc))))) (ze (yT rfl md rfl m_BadCard x_BadCard (za zF zc))) zy)
   (zf (zE (zo op_ge (yQ (pv 0) rfl) (zc4 T.c_MOST_CARDS rfl) (zt _)) (ze (yT rfl md rfl m_TooManyCards x_TooManyCards (za zF zc))) zy)
   (zf (zjx (zgE hr) (yQ (pv 0) rfl) (pv 1) (zP ye (by rfl) T.b_list PyProof.Rows.boot_list (za (pv 2) zc)) rfl)
   (ze (zcs (pv 0) (zz yM (yQ (pv 0) rfl) zh) rfl))))))),?_⟩
  have hln:=zC
  have h24:=h.ok.c24
  refine⟨_,rfl,p,dx,_,rfl,h.ip,rfl,p,F,S,rfl,hSh,(fun hs C hC=>?_),fun hs=>?_⟩
  ·rw[hW]
   exact qE "SheetSealed" (by unfold Sh.refuse;rw[if_pos hs]) C _ hC (zi.refl _)
  refine⟨_,rfl,p,dx,_,rfl,h.ip,rfl,_,rfl,p,F,S,j,rfl,hSh,(fun hj C hC=>?_),fun hj=>?_⟩
  ·rw[hW]
   exact qE "UnknownJudge" (by unfold Sh.refuse;rw[if_neg (by rw[hs];exact Bool.false_ne_true),if_neg hj]) C _ hC (zi.refl _)
  refine⟨_,rfl,_,rfl,p,_,dx,_,_,rfl,h.ip,T.cl_Sheet,T.n_Sheet_standing,rfl,a,a1,ns,S.couples,rfl,hA,SqL.of h.i1,hz,by omega,fun H2 s2=>⟨_,rfl,?_⟩⟩
  refine yD (fun hp=>?_) (fun hp=>?_)
  ·refine⟨(by show 1≤sizeLine;decide),?_⟩
   rw[hW]
   exact qE "BadCard" (by unfold Sh.refuse;rw[if_neg (by rw[hs];exact Bool.false_ne_true),if_pos hj,if_neg hp]) _ _ n_BadCard s2
  have ip:=s2 _ _ h.ip
  have i1:=s2 _ _ h.i1
  have i2:=s2 _ _ h.i2
  have i3:=s2 _ _ h.i3
  have i4:=s2 _ _ h.i4
  refine⟨_,rfl,p,_,dx,_,_,rfl,ip,T.cl_Sheet,T.n_Sheet_taken_so_far,rfl,_,_,rfl,rfl,_,rfl,yI (fun ht=>?_) (fun ht=>?_)⟩
  ·refine⟨(by show 1≤sizeLine;decide),?_⟩
   rw[hW]
   exact qE "TooManyCards" (by unfold Sh.refuse;rw[if_neg (by rw[hs];exact Bool.false_ne_true),if_pos hj,if_pos hp,if_pos (by omega)]) _ _ n_TooManyCards s2
  have hn:S.refuse j ns=none:=by unfold Sh.refuse;rw[if_neg (by rw[hs];exact Bool.false_ne_true),if_pos hj,if_pos hp,if_neg (by omega)]
  have hk:=h.kl
  have ht2:=h.ok.t200
  refine⟨_,rfl,a,_,rfl,.inl (s2.seq hA),fun l hl=>?_⟩
  have kp:∀b o,H2 b=some o→upd H2 l (.lst (ns.map V.int)) b=some o:=fun b o e=>zi.new hl b o e
  refine⟨_,rfl,p,_,dx,_,_,rfl,kp _ _ ip,T.cl_Sheet,T.n_Sheet_card_by_judge,rfl,_,rfl,d,_,rfl,DPut.k (k:=Sum.inr j) (kp _ _ i4) (by omega),?_⟩
  have n1:a1≠p:=y6 i1 ip (by intro z;cases z)
  have n2:a2≠p:=y6 i2 ip (by intro z;cases z)
  have n3:a3≠p:=y6 i3 ip (by intro z;cases z)
  have n4:d≠p:=y6 i4 ip (by intro z;cases z)
  have m1:a1≠d:=y6 i1 i4 (by intro z;cases z)
  have m2:a2≠d:=y6 i2 i4 (by intro z;cases z)
  have m3:a3≠d:=y6 i3 i4 (by intro z;cases z)
  have lp:l≠p:=fun z=>by rw[z,ip] at hl;cases hl
  have ld:l≠d:=fun z=>by rw[z,i4] at hl;cases hl
  have l2:l≠a2:=fun z=>by rw[z,i2] at hl;cases hl
  have ip':upd (upd H2 l (.lst (ns.map V.int))) d (.dK (zbV kvs (Sum.inr j) (.ref l))) p=some (.ins (zH K "Sheet") dx (shF a1 a2 a3 d S)):=by rw[zj (Ne.symm n4)];exact kp _ _ ip
  refine⟨_,rfl,p,_,dx,_,_,rfl,ip',T.cl_Sheet,T.n_Sheet_taken_so_far,rfl,_,_,rfl,rfl,?_⟩
  refine⟨_,rfl,p,_,dx,_,rfl,ip',T.cl_Sheet,T.n_Sheet_taken_so_far,(by show 6<1000;decide),?_⟩
  have et:(V.int ((S.taken:Int)+1))=.int ((S.hand j ns).taken:Nat):=by show V.int _=V.int ((S.taken+1:Nat):Int);congr 1
  show _
  dsimp only
  rw[et,pf_taken a1 a2 a3 d S (S.hand j ns) rfl]
  obtain⟨ok',_⟩:=h.ok.hand hn
  have up:∀b o,H2 b=some o→b≠p→b≠d→upd (upd (upd H2 l (.lst (ns.map V.int))) d (.dK (zbV kvs (Sum.inr j) (.ref l)))) p (.ins (zH K "Sheet") dx (shF a1 a2 a3 d (S.hand j ns))) b=some o:=fun b o e nb nd=>by rw[zj nb,zj nd];exact kp b o e
  have el:upd (upd (upd H2 l (.lst (ns.map V.int))) d (.dK (zbV kvs (Sum.inr j) (.ref l)))) p (.ins (zH K "Sheet") dx (shF a1 a2 a3 d (S.hand j ns))) l=some (.lst (ns.map V.int)):=by rw[zj lp,zj ld];exact zg
  refine q hn _ (fun b=>F b∨b=l) ⟨dx,a1,a2,a3,d,zbV kvs (Sum.inr j) (.ref l),⟨⟨zg,up _ _ i1 n1 m1,up _ _ i2 n2 m2,up _ _ i3 n3 m3,by rw[zj n4];exact zg,?_,fun k hk'=>?_,fun k c hc=>?_,.inl h.fp,.inl h.f1,.inl h.f2,.inl h.f3,.inl h.f4,h.n12,h.n32,fun b hb=>?_⟩,ok'⟩⟩ fun b o e n=>⟨up b o (s2 _ _ e) (fun z=>n (z ▸ h.fp)) (fun z=>n (z ▸ h.f4)),?_⟩
  ·have:=zcQ kvs (Sum.inr j) (.ref l)
   show _≤S.taken+1
   omega
  ·have hk':(if k=j then some ns else S.card k)=none:=hk'
   rw[zdV]
   by_cases ek:k=j
   ·rw[if_pos ek] at hk';cases hk'
   ·rw[if_neg ek] at hk'
    rw[if_neg (fun z=>ek (by injection z))]
    exact h.cn k hk'
  ·have hc:(if k=j then some ns else S.card k)=some c:=hc
   rw[zdV]
   by_cases ek:k=j
   ·rw[if_pos ek] at hc
    cases hc
    rw[if_pos (by rw[ek])]
    exact⟨l,rfl,el,.inr rfl,l2⟩
   ·rw[if_neg ek] at hc
    rw[if_neg (fun z=>ek (by injection z))]
    obtain⟨l',x1,x2,x3,x4⟩:=h.cs k c hc
    exact⟨l',x1,up _ _ (s2 _ _ x2) (y6 x2 h.ip (by intro z;cases z)) (y6 x2 h.i4 (by intro z;cases z)),.inl x3,x4⟩
  ·by_cases hbp:b=p
   ·rw[hbp,zg];exact fun z=>nomatch z
   rw[zj hbp]
   by_cases hbd:b=d
   ·rw[hbd,zg];exact fun z=>nomatch z
   rw[zj hbd]
   rcases hb with hb | hb
   ·have:=h.fh b hb
    cases e:H b with
    | none=>exact absurd e this
    | some o=>rw[kp _ _ (s2 _ _ e)];exact fun z=>nomatch z
   ·rw[hb,zg];exact fun z=>nomatch z
  ·rintro (z | z)
   ·exact n z
   ·have:=s2 _ _ e
    rw[z,hl] at this
    cases this
end
def za7(K:PySem.W.Frag):Sp:=fun vs H Q E=>∃(p:Addr) (F:Addr→Prop) (S:Sh) (c:Int),vs = [.ref p,.int c]∧zB K H p F S ∧
 (∀x,S.refuseS c=some x→∀C,zq K x C→E (.ref C) none H)∧(S.refuseS c=none→∀H' F',zB K H' p F' (S.strike c)→zcv F H F' H'→Q .non H')
section
variable {P:Program} {w:World} {K:PySem.W.Frag} {mg:Str→Option Value} {base:Heap}
theorem zeN{f:Addr}{fd:FuncData}(F:Fun K "strike" "Sheet.strike" yX f fd)(T:Txt K mg)(C_without_couple:Can P w K mg base 1 "without_couple" ["card","couple"] (zaz K))(C_Sheet_handed:CanM P w K mg base 1 (zH K "Sheet") "handed" ["self"] (zX K))(C_Sheet_refuse_if_sealed:CanMX P w K mg base 1 (zH K "Sheet") "refuse_if_sealed" ["self"] (zS K)):FnOk P w K mg base (CX1 P w) 2 f fd ["self","couple"] (za7 K):=by
 obtain⟨c_UnknownCouple,n_UnknownCouple,m_UnknownCouple,x_UnknownCouple⟩:=T.x_UnknownCouple
 obtain⟨c_LastCouple,n_LastCouple,m_LastCouple,x_LastCouple⟩:=T.x_LastCouple
 refine F.okX zcG (fun vs H Q E h=>?_) (fun X W cdv A outer s H vs Q E hX hW fl md hr h=>?_)
 ·obtain⟨p,F,S,c,rfl,_⟩:=h
  rfl
 ·obtain⟨p,F,S,c,rfl,hSh,qE,q⟩:=h
  obtain⟨dx,a1,a2,a3,d,kvs,h⟩:=id hSh
  subst hX
  refine⟨_,(zf (zM (zc9 C_Sheet_refuse_if_sealed T.cl_Sheet fl (hr.mono (by decide)) (pv 0)))
   (zf (zE (zo wT (pv 1) (yQ (pv 0) rfl) (by first | exact zt _ | rfl)) (ze (yT rfl md rfl m_UnknownCouple x_UnknownCouple (za zF zc))) zy)
   (zf (zE (zo yk (zr zp (by rfl) T.b_len PySem.boot_len (za (yQ (pv 0) rfl) zc)) zh (zt _)) (ze (yT rfl md rfl m_LastCouple x_LastCouple (za zF zc))) zy)
   (zf (zcs (pv 0) (zk C_without_couple (hr.mono (by decide)) rfl (za (yQ (pv 0) rfl) (za (pv 1) zc))) rfl)
   (zf (zM (zc2 PySem.F.plainAttrs_list PySem.F.slot_list_append PySem.F.type_list_append zb4 (yQ (pv 0) rfl) (za (pv 1) zc)))
   (ze (zah PassesOwn.leaving rfl (zO (zK C_Sheet_handed T.cl_Sheet (hr.mono (by decide)) (pv 0))) (yu (i:=2) zcG.nd rfl (Or.inl rfl))
     (ze (zjx (zgE hr) (yQ (pv 0) rfl) (pv 2) (zk C_without_couple (hr.mono (by decide)) rfl (za (zjh (zgE hr) (yQ (pv 0) rfl) (pv 2) (fun _ _=>rfl)) (za (pv 1) zc))) rfl))))))))),?_⟩
  have hln:=zC
  have h24:=h.ok.c24
  refine⟨_,rfl,p,dx,_,rfl,h.ip,rfl,p,F,S,rfl,hSh,(fun hs C hC=>?_),fun hs=>?_⟩
  ·rw[hW]
   exact qE "SheetSealed" (by unfold Sh.refuseS;rw[if_pos hs]) C hC
  have hs':¬S.shut=true:=by rw[hs];exact Bool.false_ne_true
  refine⟨_,rfl,_,rfl,p,_,dx,_,_,rfl,h.ip,T.cl_Sheet,T.n_Sheet_standing,rfl,a1,_,rfl,.inl (SqL.of h.i1),rfl,zW _,_,rfl,?_⟩
  rw[zc3]
  refine yD (fun hc=>?_) (fun hc=>?_)
  ·refine⟨(by show 1≤sizeLine;decide),?_⟩
   rw[hW]
   exact qE "UnknownCouple" (by unfold Sh.refuseS;rw[if_neg hs',if_neg hc]) _ n_UnknownCouple
  refine⟨_,rfl,p,_,dx,_,_,rfl,h.ip,T.cl_Sheet,T.n_Sheet_standing,rfl,a1,_,rfl,.inl (SqL.of h.i1),rfl,_,rfl,?_⟩
  rw[List.length_map]
  refine yI (fun h1=>?_) (fun h1=>?_)
  ·refine⟨(by show 1≤sizeLine;decide),?_⟩
   rw[hW]
   injection h1 with h1
   exact qE "LastCouple" (by unfold Sh.refuseS;rw[if_neg hs',if_pos hc,if_pos (by omega)]) _ n_LastCouple
  have h1:S.couples.length≠1:=fun z=>h1 (by rw[z];rfl)
  have hn:S.refuseS c=none:=by unfold Sh.refuseS;rw[if_neg hs',if_pos hc,if_neg h1]
  refine⟨_,rfl,p,_,dx,_,_,rfl,h.ip,T.cl_Sheet,T.n_Sheet_standing,rfl,_,rfl,a1,S.couples,c,rfl,SqL.of h.i1,by omega,fun b1 H2 s2 f2 e2=>?_⟩
  have ip:=s2 _ _ h.ip
  have i2:=s2 _ _ h.i2
  have i3:=s2 _ _ h.i3
  have i4:=s2 _ _ h.i4
  refine⟨_,rfl,p,_,dx,_,rfl,ip,T.cl_Sheet,T.n_Sheet_standing,(by show 6<1000;decide),?_⟩
  rw[zhO a1 a2 a3 d b1 S (S.strike c) rfl rfl]
  have n2:a2≠p:=y6 i2 ip (by intro z;cases z)
  have n3:a3≠p:=y6 i3 ip (by intro z;cases z)
  have n4:d≠p:=y6 i4 ip (by intro z;cases z)
  have n1:b1≠p:=y6 e2 ip (by intro z;cases z)
  have m2:a2≠d:=y6 i2 i4 (by intro z;cases z)
  have b2:b1≠a2:=fun z=>by rw[z,h.i2] at f2;cases f2
  have ni2:upd H2 p (.ins (zH K "Sheet") dx (shF b1 a2 a3 d (S.strike c))) a2=some (.lst (S.struck.map V.int)):=by rw[zj n2];exact i2
  refine⟨_,rfl,p,_,dx,_,_,rfl,zg,T.cl_Sheet,T.n_Sheet_struck_so_far,rfl,.inl ⟨rfl,_,SqL.of ni2⟩,_,rfl,a2,_,_,rfl,rfl,ni2,(by rw[List.length_map];omega),?_⟩
  have up:∀b o,H2 b=some o→b≠p→b≠a2→upd (upd H2 p (.ins (zH K "Sheet") dx (shF b1 a2 a3 d (S.strike c)))) a2 (.lst (S.struck.map V.int ++ [V.int c])) b=some o:=fun b o e nb nd=>by rw[zj nd,zj nb];exact e
  have up1:upd (upd H2 p (.ins (zH K "Sheet") dx (shF b1 a2 a3 d (S.strike c)))) a2 (.lst (S.struck.map V.int ++ [V.int c])) p=some (.ins (zH K "Sheet") dx (shF b1 a2 a3 d (S.strike c))):=by rw[zj (Ne.symm n2)];exact zg
  have up2:upd (upd H2 p (.ins (zH K "Sheet") dx (shF b1 a2 a3 d (S.strike c)))) a2 (.lst (S.struck.map V.int ++ [V.int c])) a2=some (.lst ((S.strike c).struck.map V.int)):=lst_app _ _
  generalize hH3:upd (upd H2 p _) a2 _=H3 at up up1 up2 ⊢
  have F3:∀b,(F b∨b=b1)→H3 b≠none:=fun b hb=>by
   by_cases hbp:b=p
   ·rw[hbp,up1];exact fun z=>nomatch z
   by_cases hba:b=a2
   ·rw[hba,up2];exact fun z=>nomatch z
   rcases hb with hb | hb
   ·have:=h.fh b hb
    cases e:H b with
    | none=>exact absurd e this
    | some o=>rw[up _ _ (s2 _ _ e) hbp hba];exact fun z=>nomatch z
   ·rw[hb,up _ _ e2 n1 b2];exact fun z=>nomatch z
  have D3:zcv F H (fun b=>F b∨b=b1) H3:=fun b o e n=>⟨up b o (s2 _ _ e) (fun z=>n (z ▸ h.fp)) (fun z=>n (z ▸ h.f2)),fun z=>z.elim n fun z=>by rw[z,f2] at e;cases e⟩
  have hcs:∀j cd,S.card j=some cd→∃l,zaO kvs (Sum.inr j)=some (.ref l)∧H3 l=some (.lst (cd.map V.int))∧(F l∨l=b1)∧l≠a2:=fun j cd e=>by
   obtain⟨l,x1,x2,x3,x4⟩:=h.cs j cd e
   exact⟨l,x1,up _ _ (s2 _ _ x2) (y6 x2 h.ip (by intro z;cases z)) x4,.inl x3,x4⟩
  obtain⟨ok',_⟩:=h.ok.strike hn
  refine⟨_,rfl,p,dx,_,rfl,up1,rfl,p,(fun b=>F b∨b=b1),⟨wo c S.couples,S.struck ++ [c],S.panel,S.card,S.taken,S.shut⟩,rfl,⟨dx,b1,a2,a3,d,kvs,⟨up1,up _ _ e2 n1 b2,up2,up _ _ i3 n3 h.n32,up _ _ i4 n4 (Ne.symm m2),h.kl,h.cn,hcs,.inl h.fp,.inr rfl,.inl h.f2,.inl h.f3,.inl h.f4,b2,h.n32,F3⟩⟩,h.ok.p15,fun a H4 s4 f4 e4=>?_⟩
  have hhl:S.handed.length≤15:=Nat.le_trans (List.length_filter_le _ _) h.ok.p15
  refine⟨a,rfl,⟨_,SqL.of e4⟩,?_⟩
  refine zb8 (xs:=S.handed.map V.str) (fun i σ H5=>∃(v:Option V) (kvs':List (Key × V)) (F':Addr→Prop),σ = [some (.ref p),some (.int c),v]∧H5 p=some (.ins (zH K "Sheet") dx (shF b1 a2 a3 d (S.strike c)))∧H5 b1=some (.lst ((wo c S.couples).map V.int))∧H5 a2=some (.lst ((S.strike c).struck.map V.int))∧H5 a3=some (.lst (S.panel.map V.str))∧H5 d=some (.dK kvs')∧H5 a=some (.lst (S.handed.map V.str)) ∧
   kvs'.length≤S.taken∧(∀j,S.card j=none→zaO kvs' (Sum.inr j)=none)∧(∀j cd,S.card j=some cd→∃l,zaO kvs' (Sum.inr j)=some (.ref l)∧H5 l=some (.lst ((if j∈S.handed.take i then wo c cd else cd).map V.int))∧F' l∧l≠a2)∧(∀b,F b→F' b)∧F' b1∧(∀b,F' b→H5 b≠none)∧zcv F H F' H5)
   ⟨_,kvs,fun b=>F b∨b=b1,rfl,s4 _ _ up1,s4 _ _ (up _ _ e2 n1 b2),s4 _ _ up2,s4 _ _ (up _ _ i3 n3 h.n32),s4 _ _ (up _ _ i4 n4 (Ne.symm m2)),e4,h.kl,h.cn,(fun j cd e=>?_),(fun b hb=>.inl hb),.inr rfl,(fun b hb=>?_),fun b o e n=>⟨s4 _ _ (D3 b o e n).1,(D3 b o e n).2⟩⟩ ?_ ?_ ?_
  ·obtain⟨l,x1,x2,x3,x4⟩:=hcs j cd e
   exact⟨l,x1,by rw[if_neg (by rw[List.take_zero];exact List.not_mem_nil)];exact s4 _ _ x2,x3,x4⟩
  ·have:=F3 b hb
   cases e:H3 b with
   | none=>exact absurd e this
   | some o=>rw[s4 _ _ e];exact fun z=>nomatch z
  ·rintro i σ H5 hi ⟨v,kvs',F',rfl,w1,w2,w3,w4,w5,w6,_⟩
   exact SqL.of w6
  ·rintro i x σ H5 hx ⟨v,kvs',F',rfl,w1,w2,w3,w4,w5,w6,w7,w8,w9,w10,w11,w12,w13⟩
   obtain⟨hi,rfl⟩:=zbt hx
   have hm:=List.mem_filter.mp (show S.handed.getD i "" ∈ S.panel.filter fun j=>(S.card j).isSome from zab hi)
   generalize hj:S.handed.getD i "" = j at hm
   cases e:S.card j with
   | none=>rw[e] at hm;exact absurd hm.2 Bool.false_ne_true
   | some cd =>
     have hnd:S.handed.Nodup:=h.ok.pnd.filter _
     have hnt:j∉S.handed.take i:=fun z=>by
      have e1:S.handed.take (i+1)=S.handed.take i ++ [j]:=by rw[yo hi,hj]
      have e2:(S.handed.take (i+1)).Nodup:=hnd.sublist (List.take_sublist _ _)
      rw[e1] at e2
      exact(List.nodup_append.mp e2).2.2 j z j (List.mem_singleton.mpr rfl) rfl
     obtain⟨l,x1,x2,x3,x4⟩:=w9 j cd e
     rw[if_neg hnt] at x2
     have hcl:cd.length≤24:=by have:=(h.ok.cd j cd e).2.length_eq;omega
     refine⟨_,rfl,p,_,dx,_,_,rfl,w1,T.cl_Sheet,T.n_Sheet_card_by_judge,rfl,_,rfl,d,.ref l,rfl,x1 ▸ zeo.k (k:=Sum.inr j) w5,_,rfl,l,cd,c,rfl,SqL.of x2,by omega,fun l' H6 s6 f6 e6=>?_⟩
     refine⟨_,rfl,p,_,dx,_,_,rfl,s6 _ _ w1,T.cl_Sheet,T.n_Sheet_card_by_judge,rfl,_,rfl,d,_,rfl,DPut.k (k:=Sum.inr j) (s6 _ _ w5) (by have:=h.ok.t200;omega),?_⟩
     have nd:∀b o,H6 b=some o→(∀k,o ≠ .dK k)→upd H6 d (.dK (zbV kvs' (Sum.inr j) (.ref l'))) b=some o:=fun b o e n=>by rw[zj (y6 e (s6 _ _ w5) (n _))];exact e
     have ld:l'≠d:=y6 e6 (s6 _ _ w5) (by intro z;cases z)
     refine⟨_,zbV kvs' (Sum.inr j) (.ref l'),fun b=>F' b∨b=l',rfl,nd _ _ (s6 _ _ w1) (fun _ z=>nomatch z),nd _ _ (s6 _ _ w2) (fun _ z=>nomatch z),nd _ _ (s6 _ _ w3) (fun _ z=>nomatch z),nd _ _ (s6 _ _ w4) (fun _ z=>nomatch z),zg,nd _ _ (s6 _ _ w6) (fun _ z=>nomatch z),by rw[putK_len x1];exact w7,fun k hk=>?_,fun k b hk=>?_,fun b hb=>.inl (w10 b hb),.inl w11,fun b hb=>?_,fun b o e' n=>?_⟩
     ·rw[zdV,if_neg (fun z=>by injection z with z;rw[z,e] at hk;cases hk)]
      exact w8 k hk
     ·rw[zdV,yo hi,hj]
      by_cases ek:k=j
      ·subst ek
       rw[e] at hk
       cases hk
       rw[if_pos rfl]
       refine⟨l',rfl,?_,.inr rfl,fun z=>by rw[z,w3] at f6;cases f6⟩
       rw[if_pos (List.mem_append_right _ (List.mem_singleton.mpr rfl))]
       exact nd _ _ e6 (fun _ z=>nomatch z)
      ·rw[if_neg (fun z=>ek (by injection z))]
       obtain⟨m,y1,y2,y3,y4⟩:=w9 k b hk
       refine⟨m,y1,?_,.inl y3,y4⟩
       have:(k∈S.handed.take i ++ [j])↔k∈S.handed.take i:=by
        rw[List.mem_append,List.mem_singleton]
        exact⟨fun z=>z.elim id fun w=>absurd w ek,.inl⟩
       simp only[this]
       exact nd _ _ (s6 _ _ y2) (fun _ z=>nomatch z)
     ·by_cases hbd:b=d
      ·rw[hbd,zg];exact fun z=>nomatch z
      rw[zj hbd]
      rcases hb with hb | hb
      ·have:=w12 b hb
       cases e7:H5 b with
       | none=>exact absurd e7 this
       | some o=>rw[s6 _ _ e7];exact fun z=>nomatch z
      ·rw[hb,e6];exact fun z=>nomatch z
     ·obtain⟨y1,y2⟩:=w13 b o e' n
      refine⟨?_,fun z=>z.elim y2 fun w=>by rw[w,f6] at y1;cases y1⟩
      have nbd:b≠d:=fun z=>n (by rw[z];exact h.f4)
      rw[zj nbd]
      exact s6 _ _ y1
  ·rintro σ H5 ⟨v,kvs',F',rfl,w1,w2,w3,w4,w5,w6,w7,w8,w9,w10,w11,w12,w13⟩
   rw[List.length_map,List.take_length] at w9
   refine q hn H5 F' ⟨dx,b1,a2,a3,d,kvs',⟨⟨w1,w2,w3,w4,w5,w7,fun j hj=>?_,fun j b hj=>?_,w10 _ h.fp,w11,w10 _ h.f2,w10 _ h.f3,w10 _ h.f4,b2,h.n32,w12⟩,ok'⟩⟩ w13
   ·have hj:(S.card j).map (wo c)=none:=hj
    exact w8 j (Option.map_eq_none_iff.mp hj)
   ·have hj:(S.card j).map (wo c)=some b:=hj
    obtain⟨cd,e,rfl⟩:=Option.map_eq_some_iff.mp hj
    obtain⟨l,x1,x2,x3,x4⟩:=w9 j cd e
    refine⟨l,x1,?_,x3,x4⟩
    have hin:j∈S.handed:=List.mem_filter.mpr ⟨(h.ok.cd j cd e).1,by rw[e];rfl⟩
    rw[if_pos hin] at x2
    exact x2
end
def zb1(K:PySem.W.Frag):Sp:=fun vs H Q E=>∃(p:Addr) (F:Addr→Prop) (S:Sh),vs = [.ref p]∧zB K H p F S∧(S.shut=true→∀C,zq K "SheetSealed" C→E (.ref C) none H) ∧
 (S.shut=false→∀H',zB K H' p F S.close→zcv F H F H'→Q .non H')
section
variable {P:Program} {w:World} {K:PySem.W.Frag} {mg:Str→Option Value} {base:Heap}
theorem zgk{f:Addr}{fd:FuncData}(F:Fun K "seal" "Sheet.seal" wR f fd)(T:Txt K mg)(C_Sheet_refuse_if_sealed:CanMX P w K mg base 1 (zH K "Sheet") "refuse_if_sealed" ["self"] (zS K)):FnOk P w K mg base (CX1 P w) 2 f fd ["self"] (zb1 K):=by
 refine F.okX zga (fun vs H Q E h=>?_) (fun X W cdv A outer s H vs Q E hX hW fl md hr h=>?_)
 ·obtain⟨p,F,S,rfl,_⟩:=h
  rfl
 ·obtain⟨p,F,S,rfl,⟨dx,a1,a2,a3,d,kvs,h⟩,qE,q⟩:=h
  subst hX
  refine⟨_,(zf (zM (zc9 C_Sheet_refuse_if_sealed T.cl_Sheet fl (hr.mono (by decide)) (pv 0)))
   (ze (zcs (pv 0) wZ rfl))),?_⟩
  refine⟨_,rfl,p,dx,_,rfl,h.ip,rfl,p,F,S,rfl,⟨dx,a1,a2,a3,d,kvs,h⟩,fun hs C hC=>by rw[hW];exact qE hs C hC,fun hs=>?_⟩
  refine⟨_,rfl,p,_,dx,_,rfl,h.ip,T.cl_Sheet,T.n_Sheet_sealed,(by show 6<1000;decide),?_⟩
  rw[show V.bl true=V.bl S.close.shut from rfl,pf_sealed a1 a2 a3 d S S.close rfl]
  have up:∀b o,H b=some o→b≠p→upd H p (.ins (zH K "Sheet") dx (shF a1 a2 a3 d S.close)) b=some o:=fun b o e n=>by rw[zj n];exact e
  have n1:a1≠p:=y6 h.i1 h.ip (by intro z;cases z)
  have n2:a2≠p:=y6 h.i2 h.ip (by intro z;cases z)
  have n3:a3≠p:=y6 h.i3 h.ip (by intro z;cases z)
  have n4:d≠p:=y6 h.i4 h.ip (by intro z;cases z)
  refine q hs _ ⟨dx,a1,a2,a3,d,kvs,⟨⟨zg,up _ _ h.i1 n1,up _ _ h.i2 n2,up _ _ h.i3 n3,up _ _ h.i4 n4,h.kl,h.cn,fun j c hc=>?_,h.fp,h.f1,h.f2,h.f3,h.f4,h.n12,h.n32,fun b hb=>?_⟩,h.ok.close⟩⟩ fun b o e n=>⟨up b o e fun z=>n (z ▸ h.fp),n⟩
  ·obtain⟨l,x1,x2,x3,x4⟩:=h.cs j c hc
   exact⟨l,x1,up _ _ x2 (y6 x2 h.ip (by intro z;cases z)),x3,x4⟩
  ·by_cases hbp:b=p
   ·rw[hbp,zg];exact fun z=>nomatch z
   ·rw[zj hbp];exact h.fh b hb
end
def ya(K:PySem.W.Frag):Sp:=fun vs H Q E=>∃(p:Addr) (F:Addr→Prop) (S:Sh) (j:Str),vs = [.ref p,.str j]∧zB K H p F S∧(j∉S.panel→∀C,zq K "UnknownJudge" C→E (.ref C) none H)∧(j∈S.panel→S.card j=none→∀C,zq K "NoCard" C→E (.ref C) none H) ∧
 (∀c,S.card j=some c→∀(l:Addr) (H':Hp),zi H H'→H l=none→H' l=some (.lst (c.map V.int))→Q (.ref l) H')
section
variable {P:Program} {w:World} {K:PySem.W.Frag} {mg:Str→Option Value} {base:Heap}
theorem zd3{f:Addr}{fd:FuncData}(F:Fun K "card_of" "Sheet.card_of" yG f fd)(T:Txt K mg)(C_Sheet_refuse_unknown_judge:CanMX P w K mg base 1 (zH K "Sheet") "refuse_unknown_judge" ["self","judge"] (zV K)):FnOk P w K mg base (CX1 P w) 2 f fd ["self","judge"] (ya K):=by
 obtain⟨c_NoCard,n_NoCard,m_NoCard,x_NoCard⟩:=T.x_NoCard
 refine F.okX zep (fun vs H Q E h=>?_) (fun X W cdv A outer s H vs Q E hX hW fl md hr h=>?_)
 ·obtain⟨p,F,S,j,rfl,_⟩:=h
  rfl
 ·obtain⟨p,F,S,j,rfl,⟨dx,a1,a2,a3,d,kvs,h⟩,qU,qN,q⟩:=h
  subst hX
  refine⟨_,(zf (zM (wI C_Sheet_refuse_unknown_judge T.cl_Sheet fl (hr.mono (by decide)) (pv 0) (za (pv 1) zc)))
   (zf (zE (pt_cmp (zjI (zgE hr) (pv 1) (yQ (pv 0) rfl))) (ze (yT rfl md rfl m_NoCard x_NoCard (za zF zc))) zy)
   (ze (zm (zP ye (by rfl) T.b_list PyProof.Rows.boot_list (za (zjh (zgE hr) (yQ (pv 0) rfl) (pv 1) (fun _ _=>rfl)) zc)))))),?_⟩
  refine⟨_,rfl,p,dx,_,rfl,h.ip,rfl,_,rfl,p,F,S,j,rfl,⟨dx,a1,a2,a3,d,kvs,h⟩,fun hj C hC=>by rw[hW];exact qU hj C hC,fun hj=>?_⟩
  refine⟨_,rfl,_,rfl,p,_,dx,_,_,rfl,h.ip,T.cl_Sheet,T.n_Sheet_card_by_judge,rfl,d,_,rfl,zeo.k (k:=Sum.inr j) h.i4,_,rfl,?_⟩
  cases e:S.card j with
  | none =>
    rw[h.cn _ e]
    exact⟨(by show 1≤sizeLine;decide),by rw[hW];exact qN hj e _ n_NoCard⟩
  | some c =>
    obtain⟨l,e1,e2,_⟩:=h.cs _ _ e
    rw[e1]
    refine⟨_,rfl,p,_,dx,_,_,rfl,h.ip,T.cl_Sheet,T.n_Sheet_card_by_judge,rfl,_,rfl,d,.ref l,rfl,e1 ▸ zeo.k (k:=Sum.inr j) h.i4,l,_,rfl,.inl (SqL.of e2),fun l' hl'=>?_⟩
    exact q c e l' _ (zi.new hl') hl' zg
end
def za1(K:PySem.W.Frag):Sp:=fun vs H Q _=>∃(a:Addr) (cs:List (List Int)) (c:Int),vs = [.ref a,.int c]∧zdg K (IL K) H a cs∧cs.length≤1000∧(∀d∈cs,c∈d)∧∀(l:Addr) (H':Hp),zi H H'→H l=none→H' l=some (.lst ((M5.zA cs c).map V.int))→Q (.ref l) H'
section
variable {P:Program} {w:World} {K:PySem.W.Frag} {mg:Str→Option Value} {base:Heap}
theorem zhu{f:Addr}{fd:FuncData}(F:Fun K "marks_of" "marks_of" zai f fd)(T:Txt K mg)(C_mark_on:Can P w K mg base 1 "mark_on" ["card","couple"] (zdD K)):FnOk P w K mg base CX0 2 f fd ["cards","couple"] (za1 K):=by
 refine F.ok zhR (fun vs H Q E h=>?_) (fun cdv A outer s H vs Q E hr h=>?_)
 ·obtain⟨a,cs,c,rfl,_⟩:=h
  rfl
 ·obtain⟨a,cs,c,rfl,⟨ls,hS,hR⟩,hz,hc,q⟩:=h
  refine⟨_,(ze (zm (yf (show CompScope (zd zai) ["cards","couple"] "card" ["couple"] [1] _ from⟨rfl,by decide +kernel,by decide +kernel,rfl,by decide +kernel,rfl,by decide +kernel,by decide +kernel⟩) rfl (zO (pv 0)) (fun _ _ _ _ _=>wd) (fun _ _ _ _ _=>(zk C_mark_on (hr.mono (by decide)) rfl (za (pv 0) (za (pv 1) zc))))))),?_⟩
  have hlen:=hR.length
  refine⟨_,rfl,a,rfl,⟨_,hS⟩,?_⟩
  refine yr (xs:=ls.map V.ref) (fun i ys H2=>H2=H∧ys=(M5.zA (cs.take i) c).map V.int) ⟨rfl,rfl⟩ ?_ (by rw[List.length_map];have:=zC;omega) ?_ ?_
  ·rintro i ys H2 hi ⟨rfl,rfl⟩
   refine⟨hS,?_⟩
   rw[List.length_map,M5.wA,List.length_take]
   omega
  ·rintro i x ys H2 hx ⟨rfl,rfl⟩
   obtain⟨l,el,rfl⟩:=zbw hx
   obtain⟨d,ed,rd⟩:=hR.getL el
   refine⟨_,rfl,_,rfl,l,d,c,rfl,rd,hc d (List.mem_of_getElem? ed),rfl,?_⟩
   rw[List.take_succ,ed]
   unfold M5.zA
   rw[List.map_append,List.map_append]
   rfl
  ·rintro ys H2 ⟨rfl,rfl⟩ l hl
   rw[List.length_map,hlen,List.take_length]
   exact q l _ (zi.new hl) hl zg
end
def zaM(K:PySem.W.Frag):Sp:=fun vs H Q _=>∃(a:Addr) (ms:List Int) (n:Int),vs = [.ref a,.int n]∧SqL K H a (ms.map V.int)∧ms.length≤1000∧∀(H':Hp),zi H H'→Q (.int (M3.cnt ms n)) H'
section
variable {P:Program} {w:World} {K:PySem.W.Frag} {mg:Str→Option Value} {base:Heap}
theorem ziE{f:Addr}{fd:FuncData}(F:Fun K "granted" "granted" zbp f fd)(T:Txt K mg)(C_granting:Can P w K mg base 1 "granting" ["marks","number"] (zbR K)):FnOk P w K mg base CX0 2 f fd ["marks","number"] (zaM K):=by
 refine F.ok ziM (fun vs H Q E h=>?_) (fun cdv A outer s H vs Q E hr h=>?_)
 ·obtain⟨a,ms,n,rfl,_⟩:=h
  rfl
 ·obtain⟨a,ms,n,rfl,hS,hz,q⟩:=h
  refine⟨_,(ze (zm (zr zp (by rfl) T.b_len PySem.boot_len (za (zk C_granting (hr.mono (by decide)) rfl (za (pv 0) (za (pv 1) zc))) zc)))),?_⟩
  refine⟨_,rfl,_,rfl,a,ms,n,rfl,hS,hz,fun l H1 s1 f1 e1=>?_⟩
  refine⟨l,_,rfl,.inl (SqL.of e1),?_⟩
  rw[List.length_map]
  exact q _ s1
end
def wJ(K:PySem.W.Frag):Sp:=fun vs H Q _=>∃(a:Addr) (ms:List Int) (n:Int),vs = [.ref a,.int n]∧SqL K H a (ms.map V.int)∧ms.length≤1000∧∀(H':Hp),zi H H'→Q (.int (M3.sm ms n)) H'
section
variable {P:Program} {w:World} {K:PySem.W.Frag} {mg:Str→Option Value} {base:Heap}
theorem zfW{f:Addr}{fd:FuncData}(F:Fun K "granted_sum" "granted_sum" wm f fd)(T:Txt K mg)(C_granting:Can P w K mg base 1 "granting" ["marks","number"] (zbR K)):FnOk P w K mg base CX0 2 f fd ["marks","number"] (wJ K):=by
 refine F.ok zfm (fun vs H Q E h=>?_) (fun cdv A outer s H vs Q E hr h=>?_)
 ·obtain⟨a,ms,n,rfl,_⟩:=h
  rfl
 ·obtain⟨a,ms,n,rfl,hS,hz,q⟩:=h
  refine⟨_,(ze (zm (zr (call_sum rfl) (by rfl) T.b_sum PyProof.Rows.boot_sum (za (zk C_granting (hr.mono (by decide)) rfl (za (pv 0) (za (pv 1) zc))) zc)))),?_⟩
  refine⟨_,rfl,_,rfl,a,ms,n,rfl,hS,hz,fun l H1 s1 f1 e1=>?_⟩
  exact⟨l,_,rfl,SqL.of e1,q _ s1⟩
end
def wg(K:PySem.W.Frag):Sp:=fun vs H Q _=>∃(a:Addr) (ms:List Int),vs = [.ref a]∧SqL K H a (ms.map V.int)∧ms ≠ []∧ms.length≤60∧(∀x∈ms,1≤x∧x≤24)∧∀(H':Hp) (f:Int),zi H H'→M3.isF ms f→Q (.int f) H'
section
variable {P:Program} {w:World} {K:PySem.W.Frag} {mg:Str→Option Value} {base:Heap}
theorem zeV{f:Addr}{fd:FuncData}(F:Fun K "first_number" "first_number" y7 f fd)(T:Txt K mg)(C_majority_of:Can P w K mg base 1 "majority_of" ["many"] (zbH K)):FnOk P w K mg base CX0 2 f fd ["marks"] (wg K):=by
 refine F.ok zeI (fun vs H Q E h=>?_) (fun cdv A outer s H vs Q E hr h=>?_)
 ·obtain⟨a,ms,rfl,_⟩:=h
  rfl
 ·obtain⟨a,ms,rfl,hS,hne,hz,hx,q⟩:=h
  refine⟨_,(ze (zm (yd zN (zr zc5 (by rfl) T.b_sorted PyProof.Rows.boot_sorted (za (pv 0) zc)) (zz zfa (zk C_majority_of (hr.mono (by decide)) rfl (za (zr zp (by rfl) T.b_len PySem.boot_len (za (pv 0) zc)) zc)) zh) (fun _ _=>rfl)))),?_⟩
  refine⟨_,rfl,a,ms,rfl,hS,by omega,fun l ns hl p w=>?_⟩
  refine⟨_,rfl,a,_,rfl,.inl ((zi.new hl).seq hS),_,rfl,_,_,rfl,rfl,?_⟩
  have hlen:=p.length_eq
  have hn:=List.length_pos_iff.mpr hne
  rw[List.length_map]
  refine⟨l,_,_,_,rfl,rfl,SqL.new,zch (by omega) (by omega),?_⟩
  have e:(((ms.length:Nat):Int)/2+1 - 1).toNat=ns.length/2:=by omega
  rw[e]
  exact q _ _ (zi.new hl) (M3.isF_perm p (M3.ziG w fun z=>by rw[z] at hlen;simp at hlen;omega))
end
def zL(K:PySem.W.Frag):Sp:=fun vs H Q E=>∃(p:Addr) (F:Addr→Prop) (S:Sh) (n:Int),vs = [.ref p,.int n]∧zB K H p F S∧(¬n≤S.handed.length→∀C H',zq K "TooFewCards" C→zi H H'→E (.ref C) none H')∧(n≤S.handed.length→∀H',zi H H'→Q .non H')
section
variable {P:Program} {w:World} {K:PySem.W.Frag} {mg:Str→Option Value} {base:Heap}
theorem zcJ{f:Addr}{fd:FuncData}(F:Fun K "refuse_fewer_cards" "refuse_fewer_cards" zY f fd)(T:Txt K mg)(C_Sheet_handed:CanM P w K mg base 1 (zH K "Sheet") "handed" ["self"] (zX K)):FnOk P w K mg base (CX1 P w) 2 f fd ["sheet","least"] (zL K):=by
 obtain⟨c_TooFewCards,n_TooFewCards,m_TooFewCards,x_TooFewCards⟩:=T.x_TooFewCards
 refine F.okX zcL (fun vs H Q E h=>?_) (fun X W cdv A outer s H vs Q E hX hW fl md hr h=>?_)
 ·obtain⟨p,F,S,n,rfl,_⟩:=h
  rfl
 ·obtain⟨p,F,S,n,rfl,hSh,qE,q⟩:=h
  subst hX
  refine⟨_,(ze (zE (zo zdM (zr zp (by rfl) T.b_len PySem.boot_len (za (zK C_Sheet_handed T.cl_Sheet (hr.mono (by decide)) (pv 0)) zc)) (pv 1) (zt _)) (ze (yT rfl md rfl m_TooFewCards x_TooFewCards (za zF zc))) zy)),?_⟩
  obtain⟨dx,b1,b2,b3,d,hip⟩:=hSh.ins
  refine⟨_,rfl,p,dx,_,rfl,hip,rfl,p,F,S,rfl,hSh.shape,hSh.ok.p15,fun l1 H1 s1 f1 e1=>?_⟩
  refine⟨l1,_,rfl,.inl (SqL.of e1),_,rfl,_,_,rfl,rfl,_,rfl,yI (fun h=>?_) (fun h=>?_)⟩
  ·rw[List.length_map] at h
   exact⟨(by show 1≤sizeLine;decide),by rw[hW];exact qE (by omega) _ _ n_TooFewCards s1⟩
  ·rw[List.length_map] at h
   exact q (by omega) H1 s1
end
def zbd(K:PySem.W.Frag):Sp:=fun vs H Q _=>∃(a:Addr) (ns:List Int),vs = [.ref a]∧SqL K H a (ns.map V.int)∧ns.length<4000∧∀H',zi H H'→Q (.bl (M1.zcH ns)) H'
section
variable {P:Program} {w:World} {K:PySem.W.Frag} {mg:Str→Option Value} {base:Heap}
theorem zeG{f:Addr}{fd:FuncData}(F:Fun K "good_couples" "good_couples" yz f fd)(T:Txt K mg)(C_good_number:Can P w K mg base 1 "good_number" ["couple"] (zbI K))(C_good_length:Can P w K mg base 1 "good_length" ["things","most"] (wM K))(C_all_unlike:Can P w K mg base 1 "all_unlike" ["things"] (zaS K)):FnOk P w K mg base CX0 2 f fd ["couples"] (zbd K):=by
 refine F.ok zeT (fun vs H Q E h=>?_) (fun cdv A outer s H vs Q E hr h=>?_)
 ·obtain⟨a,ns,rfl,_⟩:=h
  rfl
 ·obtain⟨a,ns,rfl,hS,hz,q⟩:=h
  refine⟨_,(ze (zm (zcy (zk C_good_length (hr.mono (by decide)) rfl (za (pv 0) (za (zc4 T.c_MOST_COUPLES rfl) zc))) (zcy (zk C_all_unlike (hr.mono (by decide)) rfl (za (pv 0) zc)) (zfB (zr (ze0 rfl) (by rfl) T.b_all PyProof.Rows.boot_all (za (yf (show CompScope (zd yz) ["couples"] "couple" [] [] _ from⟨rfl,by decide +kernel,by decide +kernel,rfl,by decide +kernel,rfl,by decide +kernel,by decide +kernel⟩) rfl (zO (pv 0)) (fun _ _ _ _ _=>wd) (fun _ _ _ _ _=>(zk C_good_number (hr.mono (by decide)) rfl (za (pv 0) zc)))) zc))))))),?_⟩
  refine⟨_,rfl,_,_,_,rfl,.inl ⟨_,hS,rfl⟩,_,rfl,?_⟩
  rw[List.length_map]
  unfold M1.zcH at q
  refine zhQ (fun h1=>?_) (fun h1=>?_)
  ·rw[h1,Bool.true_and] at q
   refine⟨_,rfl,a,rfl,.inl ⟨ns,hS,hz,fun H1 s1=>⟨_,rfl,yI (fun h2=>?_) (fun h2=>?_)⟩⟩⟩
   ·rw[decide_eq_true h2,Bool.true_and] at q
    have hS1:=s1.seq hS
    refine⟨_,rfl,a,rfl,⟨_,hS1⟩,?_⟩
    refine yr (xs:=ns.map V.int) (fun i ys H2=>H2=H1∧ys=((ns.take i).map fun n=>decide (1≤n) && decide (n≤999)).map V.bl) ⟨rfl,rfl⟩ ?_ (by rw[List.length_map];have:=zC;omega) ?_ ?_
    ·rintro i ys H2 hi ⟨rfl,rfl⟩
     exact⟨hS1,by simp only[List.length_map,List.length_take];omega⟩
    ·rintro i x ys H2 hx ⟨rfl,rfl⟩
     obtain⟨hi,rfl⟩:=yy hx
     refine⟨_,rfl,_,rfl,rfl,?_⟩
     rw[yZ hi,List.map_append,List.map_append]
     rfl
    ·rintro ys H2 ⟨rfl,rfl⟩ l hl
     rw[List.length_map,List.take_length]
     exact⟨l,_,rfl,SqL.new,q _ (s1.newT hl)⟩
   ·rw[decide_eq_false h2,Bool.false_and] at q
    exact q _ s1
  ·rw[h1,Bool.false_and] at q
   exact q _ (zi.refl _)
end
def zcq(K:PySem.W.Frag):Sp:=fun vs H Q _=>∃(z:Str),vs = [.str z]∧z.length≤1000∧∀H',zi H H'→Q (.bl (M2.zcR z)) H'
section
variable {P:Program} {w:World} {K:PySem.W.Frag} {mg:Str→Option Value} {base:Heap}
theorem zgO{f:Addr}{fd:FuncData}(F:Fun K "good_name" "good_name" wL f fd)(T:Txt K mg)(C_small_letter:Can P w K mg base 1 "small_letter" ["sign"] (za5 K))(C_good_length:Can P w K mg base 1 "good_length" ["things","most"] (wM K)):FnOk P w K mg base CX0 2 f fd ["judge"] (zcq K):=by
 refine F.ok zgQ (fun vs H Q E h=>?_) (fun cdv A outer s H vs Q E hr h=>?_)
 ·obtain⟨z,rfl,_⟩:=h
  rfl
 ·obtain⟨z,rfl,hz,q⟩:=h
  refine⟨_,(ze (zm (zcy (zk C_good_length (hr.mono (by decide)) rfl (za (pv 0) (za (zc4 T.c_MOST_SIGNS rfl) zc))) (zfB (zr (ze0 rfl) (by rfl) T.b_all PyProof.Rows.boot_all (za (yf (show CompScope (zd wL) ["judge"] "sign" [] [] _ from⟨rfl,by decide +kernel,by decide +kernel,rfl,by decide +kernel,rfl,by decide +kernel,by decide +kernel⟩) rfl (pi_str (pv 0)) (fun _ _ _ _ _=>wd) (fun _ _ _ _ _=>(zk C_small_letter (hr.mono (by decide)) rfl (za (pv 0) zc)))) zc)))))),?_⟩
  have hl:=zC
  refine⟨_,rfl,_,_,_,rfl,⟨by omega,rfl⟩,_,rfl,?_⟩
  unfold M2.zcR at q
  refine zhQ (fun h1=>?_) (fun h1=>?_)
  ·rw[h1,Bool.true_and] at q
   refine⟨_,rfl,z,rfl,?_⟩
   refine comp_str0 (fun i ys H2=>H2=H∧ys=((z.cps.toList.take i).map zbP).map V.bl) ⟨rfl,rfl⟩ ?_ (by omega) ?_ ?_
   ·rintro i ys H2 hi ⟨rfl,rfl⟩
    simp only[List.length_map,List.length_take]
    omega
   ·rintro i d ys H2 hx ⟨rfl,rfl⟩
    refine⟨_,rfl,d,rfl,rfl,?_⟩
    rw[List.take_succ,hx,List.map_append,List.map_append]
    rfl
   ·rintro ys H2 ⟨rfl,rfl⟩ l hl
    have e:z.cps.toList.take z.length=z.cps.toList:=List.take_of_length_le (by show z.cps.toList.length≤z.cps.size;rw[Array.length_toList];exact Nat.le_refl _)
    rw[e]
    exact⟨l,_,rfl,SqL.new,q _ (zi.new hl)⟩
  ·rw[h1,Bool.false_and] at q
   exact q _ (zi.refl _)
end
def zbO(K:PySem.W.Frag):Sp:=fun vs H Q _=>∃(a b:Addr) (ns ms:List Int),vs = [.ref a,.ref b]∧SqL K H a (ns.map V.int)∧SqL K H b (ms.map V.int)∧ms.length≤1000000∧Q (.bl (decide (ns=ms))) H
theorem same_all{ns ms:List Int}(hl:ns.length=ms.length)(h:∀j,j<ms.length→ns.getD j 0=ms.getD j 0):ns=ms:=by
 refine List.ext_getElem hl fun j h1 h2=>?_
 have:=h j h2
 rwa [List.getD_eq_getElem?_getD,List.getD_eq_getElem?_getD,List.getElem?_eq_getElem h1,List.getElem?_eq_getElem h2] at this
section
variable {P:Program} {w:World} {K:PySem.W.Frag} {mg:Str→Option Value} {base:Heap}
theorem zij{f:Addr}{fd:FuncData}(F:Fun K "_law_same" "_law_same" zaH f fd)(T:Txt K mg)(C_law_whole:Can P w K mg base 1 "_law_whole" ["_law_found"] (zbf K)):FnOk P w K mg base CX0 2 f fd ["_law_found","_law_due_here"] (zbO K):=by
 refine F.ok zes (fun vs H Q E h=>?_) (fun cdv A outer s H vs Q E hr h=>?_)
 ·obtain⟨a,b,ns,ms,rfl,_⟩:=h
  rfl
 ·obtain⟨a,b,ns,ms,rfl,hA,hB,hz,q⟩:=h
  refine⟨_,(zf (zE (PW.pt (zdP (zaa (wf (zr zbW (by rfl) T.b_isinstance PyProof.Rows.boot_isinstance (za (pv 0) (za (zcw (v:=V.ty "list") rfl T.b_list PyProof.Rows.boot_list rfl) zc))))) (zc0 (zo zay (zr zp (by rfl) T.b_len PySem.boot_len (za (pv 0) zc)) (zr zp (by rfl) T.b_len PySem.boot_len (za (pv 1) zc)) (zt _))))) (ze (zm wZ)) zy)
   (zf (zah PassesOwn.never rfl (wl rfl T.b_range (za (zr zp (by rfl) T.b_len PySem.boot_len (za (pv 1) zc)) zc)) (yu (i:=2) zes.nd rfl (Or.inl rfl))
     (ze (zE (PW.pt (zdP (zaa (wf (zk C_law_whole (hr.mono (by decide)) rfl (za (yd zN (pv 0) (pv 2) (fun _ _=>rfl)) zc)))) (zc0 (zo zay (yd zN (pv 0) (pv 2) (fun _ _=>rfl)) (yd zN (pv 1) (pv 2) (fun _ _=>rfl)) (zt _))))) (ze (zm wZ)) zy)))
   (ze (zm wZ)))),?_⟩
  refine⟨_,rfl,_,_,rfl,.yes hA,_,rfl,zbg ?_⟩
  refine⟨_,rfl,a,_,rfl,.inl hA,_,rfl,b,_,rfl,.inl hB,rfl,_,rfl,?_⟩
  rw[List.length_map,List.length_map]
  refine yD (fun hne=>?_) (fun he=>?_)
  ·show Q (.bl false) H
   have:ns≠ms:=fun e=>hne (by rw[e])
   rw[decide_eq_false this] at q
   exact q
  ·have hl:ns.length=ms.length:=by injection he with he;exact Int.ofNat.inj he
   refine⟨_,rfl,b,_,rfl,.inl hB,_,rfl,by omega,by rw[List.length_map];omega,?_⟩
   rw[List.length_map]
   refine zam (fun i σ H2=>∃v,σ = [some (.ref a),some (.ref b),v]∧H2=H∧∀j,j<i→ns.getD j 0=ms.getD j 0) ⟨_,rfl,rfl,fun j hj=>by omega⟩ ?_ ?_
   ·rintro i σ H2 hi ⟨v,rfl,rfl,hj⟩
    have hi':i<ms.length:=by simpa using hi
    have e1:atI (ns.map V.int) (0+(i:Int))=some (.int (ns.getD i 0)):=by rw[Int.zero_add];exact zae (zde (by omega))
    have e2:atI (ms.map V.int) (0+(i:Int))=some (.int (ms.getD i 0)):=by rw[Int.zero_add];exact zae (zde hi')
    refine⟨_,rfl,_,rfl,a,_,_,_,rfl,rfl,hA,e1,_,true,false,rfl,rfl,rfl,_,rfl,zbg ?_⟩
    refine⟨_,rfl,_,rfl,a,_,_,_,rfl,rfl,hA,e1,_,rfl,_,rfl,b,_,_,_,rfl,rfl,hB,e2,rfl,_,rfl,yD (fun hne=>?_) (fun he=>?_)⟩
    ·show Q (.bl false) _
     have:ns≠ms:=fun e=>hne (by rw[e])
     rw[decide_eq_false this] at q
     exact q
    ·refine⟨_,rfl,rfl,fun j hj'=>?_⟩
     by_cases hji:j=i
     ·subst hji;injection he
     ·exact hj j (by omega)
   ·rintro σ H2 ⟨v,rfl,rfl,hj⟩
    show Q (.bl true) _
    have:ns=ms:=same_all hl fun j h=>hj j (by simpa using h)
    rw[decide_eq_true this] at q
    exact q
end
def zc6(K:PySem.W.Frag):Sp:=fun vs H Q _=>∃(c:Int) (a:Addr) (ns:List Int) (y:Int),vs = [.int c,.ref a,.int y]∧SqL K H a (ns.map V.int)∧ns ≠ []∧ns.length≤1000∧∀(l:Addr) (H':Hp) (ms:List Int),zi H H'→H l=none→H' l=some (.lst (ms.map V.int))→ms.Perm ns→Q (.ref l) H'
section
variable {P:Program} {w:World} {K:PySem.W.Frag} {mg:Str→Option Value} {base:Heap}
theorem zie{f:Addr}{fd:FuncData}(F:Fun K "_law_card" "_law_card" zaL f fd)(T:Txt K mg)(C_law_mix:Can P w K mg base 1 "_law_mix" ["_law_cell","_law_place"] (zdy K)):FnOk P w K mg base CX0 2 f fd ["_law_cell","_law_couples_here","_law_style"] (zc6 K):=by
 refine F.ok yg (fun vs H Q E h=>?_) (fun cdv A outer s H vs Q E hr h=>?_)
 ·obtain⟨c,a,ns,y,rfl,_⟩:=h
  rfl
 ·obtain⟨c,a,ns,y,rfl,hS,hne,hz,q⟩:=h
  refine⟨_,(zf (zD (i:=3) yg.nd rfl (Or.inl rfl) (zP ye (by rfl) T.b_list PyProof.Rows.boot_list (za (pv 1) zc)))
   (zf (zE (zo yk (pv 2) zh (zt _)) (zf (zD (i:=4) yg.nd rfl (Or.inl rfl) (zz yB (pv 0) (zr zp (by rfl) T.b_len PySem.boot_len (za (pv 1) zc))))
   (zf (zD (i:=3) yg.nd rfl (Or.inl rfl) (zz zax (wj zbh (pv 3) (wS (pv 4)) zaw) (wj zbh (pv 3) zaw (wS (pv 4)))))
   (zf (zE (zo yk (zz yB (zz zcC (pv 0) (zr zp (by rfl) T.b_len PySem.boot_len (za (pv 1) zc))) zh) zh (zt _)) (ze (zD (i:=3) yg.nd rfl (Or.inl rfl) (pe_rev (pv 3) (zht zfU zh)))) zy)
   (ze (zm (pv 3)))))) zy)
   (zf (zD (i:=5) yg.nd rfl (Or.inl rfl) (pv 0))
   (zf (zE (zo yk (pv 2) zh (zt _)) (ze (zD (i:=5) yg.nd rfl (Or.inl rfl) (zk C_law_mix (hr.mono (by decide)) rfl (za (pv 0) (za (zr zp (by rfl) T.b_len PySem.boot_len (za (pv 1) zc)) zc))))) zy)
   (zf (zD (i:=6) yg.nd rfl (Or.inl rfl) (yi zc))
   (zf (zah PassesOwn.never rfl (wl rfl T.b_range (za (zr zp (by rfl) T.b_len PySem.boot_len (za (pv 1) zc)) zc)) (yu (i:=7) yg.nd rfl (Or.inl rfl))
     (zf (zD (i:=8) yg.nd rfl (Or.inl rfl) (zz yB (pv 5) (zr zp (by rfl) T.b_len PySem.boot_len (za (pv 3) zc))))
   (zf (zD (i:=5) yg.nd rfl (Or.inl rfl) (zz zcC (pv 5) (zr zp (by rfl) T.b_len PySem.boot_len (za (pv 3) zc))))
   (zf (zM (zc2 PySem.F.plainAttrs_list PySem.F.slot_list_append PySem.F.type_list_append zb4 (pv 6) (za (zc2 PySem.F.plainAttrs_list PySem.F.slot_list_pop PySem.F.type_list_pop mt_popAt (pv 3) (za (pv 8) zc)) zc)))
   (ze (zE (zo yk (pv 2) zh (zt _)) (ze (zD (i:=5) yg.nd rfl (Or.inl rfl) (zk C_law_mix (hr.mono (by decide)) rfl (za (zz yM (pv 5) (pv 8)) (za (pv 7) zc))))) zy))))))
   (ze (zm (pv 6))))))))),?_⟩
  have hpos:0<ns.length:=List.length_pos_iff.mpr hne
  -- pool=list(couples)
  refine⟨_,rfl,a,_,rfl,.inl hS,fun p0 hp0=>?_⟩
  have s0:zi H (upd H p0 (.lst (ns.map V.int))):=zi.new hp0
  refine⟨_,rfl,rfl,_,rfl,yI (fun _=>?_) (fun _=>?_)⟩
  ·-- a turn,maybe turned round
   have ht:0≤c%(ns.map V.int).length:=Int.emod_nonneg _ (by rw[List.length_map];omega)
   refine⟨_,rfl,_,rfl,a,_,rfl,.inl (s0.seq hS),_,_,rfl,rfl,(by show(0:Int)<(ns.map V.int).length;rw[List.length_map];omega),?_⟩
   refine⟨_,rfl,_,rfl,_,rfl,p0,_,rfl,SqL.new,fun p1 hp1=>?_⟩
   rw[zer ht]
   refine⟨_,rfl,_,rfl,_,rfl,p0,_,rfl,(zi.new hp1).seq SqL.new,fun p2 hp2=>?_⟩
   rw[zeg ht]
   have n21:p1≠p2:=zu zg hp2
   refine⟨p1,p2,_,_,rfl,rfl,by rw[zj n21];exact zg,zg,?_,fun p3 hp3=>?_⟩
   ·simp only[List.length_map,List.length_take,List.length_drop];have:=zC;omega
   rw[← List.map_append]
   have f1:H p1=none:=s0.free hp1
   have s1:=s0.newT (o:=.lst ((ns.drop (c%(ns.map V.int).length).toNat).map V.int)) hp1
   have s2:=s1.newT (o:=.lst ((ns.take (c%(ns.map V.int).length).toNat).map V.int)) hp2
   have s3:=s2.newT (o:=.lst ((ns.drop (c%(ns.map V.int).length).toNat++ns.take (c%(ns.map V.int).length).toNat).map V.int)) hp3
   have pm:(ns.drop (c%(ns.map V.int).length).toNat++ns.take (c%(ns.map V.int).length).toNat).Perm ns:=by
    have:=List.perm_append_comm (l₁:=ns.drop (c%(ns.map V.int).length).toNat) (l₂:=ns.take (c%(ns.map V.int).length).toNat)
    rwa [List.take_append_drop] at this
   refine⟨_,rfl,_,rfl,a,_,rfl,.inl (s3.seq hS),_,_,rfl,rfl,⟨by rw[List.length_map];omega,by rw[List.length_map];omega⟩,_,_,rfl,rfl,(by show(0:Int)<2;decide),rfl,_,rfl,yI (fun _=>?_) (fun _=>?_)⟩
   ·refine⟨_,rfl,_,rfl,rfl,p3,_,rfl,SqL.new,fun p4 hp4=>?_⟩
    rw[← List.map_reverse]
    exact⟨_,rfl,q p4 _ _ (s3.newT hp4) (s3.free hp4) zg ((List.reverse_perm _).trans pm)⟩
   ·exact⟨_,rfl,q p3 _ _ s3 (s2.free hp3) zg pm⟩
  ·-- dealt out of the pool
   refine⟨_,rfl,?_⟩
   refine⟨_,rfl,rfl,_,rfl,yI (fun _=>?_) (fun _=>?_)⟩
   all_goals
    first
     | refine⟨by decide,fun m0 hm0=>?_⟩
     | refine⟨_,rfl,_,rfl,a,_,rfl,.inl (s0.seq hS),_,_,rfl,?_⟩
       refine⟨by decide,fun m0 hm0=>?_⟩
    have s1:=s0.newT (o:=.lst []) hm0
    have fm:H m0=none:=s0.free hm0
    have npm:p0≠m0:=zu zg hm0
    refine⟨_,rfl,a,_,rfl,.inl (s1.seq hS),_,rfl,by omega,by rw[List.length_map];omega,?_⟩
    rw[List.length_map]
    refine zam (fun i σ H2=>∃(pool made:List Int) (left:Int) (v4 v7 v8:Option V),σ = [some (.int c),some (.ref a),some (.int y),some (.ref p0),v4,some (.int left),some (.ref m0),v7,v8]∧zi H H2∧H2 p0=some (.lst (pool.map V.int))∧H2 m0=some (.lst (made.map V.int))∧pool.length+i=ns.length∧(made++pool).Perm ns)
     ⟨ns,[],_,_,_,_,rfl,s1,by rw[zj npm];exact zg,zg,rfl,List.Perm.refl _⟩ ?_ ?_
    ·rintro i σ H2 hi ⟨pool,made,left,v4,v7,v8,rfl,s2,e1,e2,hlen,pm⟩
     have hi':i<ns.length:=by simpa using hi
     have hpl:0<pool.length:=by omega
     have hr0:0≤left%((pool.map V.int).length:Int):=Int.emod_nonneg _ (by rw[List.length_map];omega)
     have hr1:left%((pool.map V.int).length:Int)<pool.length:=by
      have:=Int.emod_lt_of_pos left (b:=((pool.map V.int).length:Int)) (by rw[List.length_map];omega)
      rwa [List.length_map] at this ⊢
     have hsl:(left%((pool.map V.int).length:Int)).toNat<pool.length:=by omega
     have hix:seqIndex? (left%((pool.map V.int).length:Int)) (pool.map V.int).length=some (left%((pool.map V.int).length:Int)).toNat:=seqIx_ok hr0 (by rw[List.length_map] at hr1 ⊢;exact hr1)
     refine⟨_,rfl,_,rfl,p0,_,rfl,.inl (SqL.of e1),_,_,rfl,rfl,(by show(0:Int)<(pool.map V.int).length;rw[List.length_map];omega),?_⟩
     refine⟨_,rfl,_,rfl,p0,_,rfl,.inl (SqL.of e1),_,_,rfl,rfl,⟨by rw[List.length_map];omega,by rw[List.length_map];omega⟩,?_⟩
     refine⟨_,rfl,.inl ⟨rfl,_,SqL.of e2⟩,_,rfl,.inl ⟨rfl,_,SqL.of e1⟩,_,rfl,p0,_,_,_,_,rfl,rfl,e1,by omega,by omega,hix,zde hsl,?_⟩
     generalize (left%((pool.map V.int).length:Int)).toNat=j at hsl
     rw[zgm]
     have s3:zi H (upd H2 p0 (.lst ((pool.eraseIdx j).map V.int))):=s2.put hp0
     refine⟨m0,_,_,rfl,rfl,by rw[zj (Ne.symm npm)];exact e2,by rw[List.length_map];have:=pm.length_eq;rw[List.length_append] at this;have:=zC;omega,?_⟩
     have s4:zi H (upd (upd H2 p0 (.lst ((pool.eraseIdx j).map V.int))) m0 (.lst ((made ++ [pool.getD j 0]).map V.int))):=s3.put fm
     have pm2:(made ++ [pool.getD j 0]++pool.eraseIdx j).Perm ns:=by
      refine List.Perm.trans ?_ pm
      rw[List.append_assoc]
      refine List.Perm.append_left _ ?_
      have e:pool.getD j 0=pool[j]:=by rw[List.getD_eq_getElem?_getD,List.getElem?_eq_getElem hsl];rfl
      rw[e]
      exact ze6 pool j hsl
     have hl2:(pool.eraseIdx j).length+(i+1)=ns.length:=by rw[List.length_eraseIdx_of_lt hsl];omega
     have e1':upd (upd H2 p0 (.lst ((pool.eraseIdx j).map V.int))) m0 (.lst ((made ++ [pool.getD j 0]).map V.int)) p0=some (.lst ((pool.eraseIdx j).map V.int)):=by rw[zj npm];exact zg
     have eap:made.map V.int ++ [V.int (pool.getD j 0)]=(made ++ [pool.getD j 0]).map V.int:=by rw[List.map_append];rfl
     rw[eap]
     refine⟨_,rfl,rfl,_,rfl,yI (fun _=>?_) (fun _=>?_)⟩
     ·refine⟨_,rfl,_,rfl,_,_,rfl,rfl,_,rfl,_,_,rfl,?_⟩
      exact⟨_,_,_,_,_,_,rfl,s4,e1',zg,hl2,pm2⟩
     ·exact⟨_,_,_,_,_,_,rfl,s4,e1',zg,hl2,pm2⟩
    ·rintro σ H2 ⟨pool,made,left,v4,v7,v8,rfl,s2,e1,e2,hlen,pm⟩
     have hl0:(ns.length:Int).toNat=ns.length:=Int.toNat_natCast _
     have hp:pool = []:=List.eq_nil_of_length_eq_zero (by omega)
     subst hp
     rw[List.append_nil] at pm
     exact⟨_,rfl,q m0 _ _ s2 fm e2 pm⟩
end
def yl(K:PySem.W.Frag):Sp:=fun vs H Q _=>∃(p:Addr) (F:Addr→Prop) (S:Sh),vs = [.ref p]∧zB K H p F S∧∀(l:Addr) (H':Hp) (ks:List Addr),zi H H'→H l=none→H' l=some (.lst (ks.map V.ref))→All2 (fun k c=>H k=none∧H' k=some (.lst (c.map V.int))) ks S.cardsIn→Q (.ref l) H'
section
variable {P:Program} {w:World} {K:PySem.W.Frag} {mg:Str→Option Value} {base:Heap}
theorem zfF{f:Addr}{fd:FuncData}(F:Fun K "cards" "Sheet.cards" yK f fd)(T:Txt K mg)(C_Sheet_handed:CanM P w K mg base 1 (zH K "Sheet") "handed" ["self"] (zX K))(C_Sheet_card_of:CanMX P w K mg base 2 (zH K "Sheet") "card_of" ["self","judge"] (ya K)):FnOk P w K mg base CX0 3 f fd ["self"] (yl K):=by
 refine F.ok zfv (fun vs H Q E h=>?_) (fun cdv A outer s H vs Q E hr h=>?_)
 ·obtain⟨p,F,S,rfl,_⟩:=h
  rfl
 ·obtain⟨p,F,S,rfl,hSh,q⟩:=h
  refine⟨_,(ze (zm (yf (show CompScope (zd yK) ["self"] "judge" ["self"] [0] _ from⟨rfl,by decide +kernel,by decide +kernel,rfl,by decide +kernel,rfl,by decide +kernel,by decide +kernel⟩) rfl (zO (zK C_Sheet_handed T.cl_Sheet (hr.mono (by decide)) (pv 0))) (fun _ _ _ _ _=>wd) (fun _ _ _ _ _=>(wI C_Sheet_card_of T.cl_Sheet zeB (hr.mono (by decide)) (pv 1) (za (pv 0) zc)))))),?_⟩
  have hln:=zC
  have h15:=hSh.ok.p15
  have hip:∃dx fs,H p=some (.ins (zH K "Sheet") dx fs)∧fs.lookup ("handed" : Str)=none∧fs.lookup ("card_of" : Str)=none:=by
   obtain⟨dx,a1,a2,a3,d,kvs,h⟩:=hSh
   exact⟨dx,_,h.ip,rfl,rfl⟩
  obtain⟨dx,fs,hip,fs1,fs2⟩:=hip
  refine⟨_,rfl,p,dx,_,rfl,hip,fs1,p,F,S,rfl,hSh.shape,h15,fun a H1 s1 f1 e1=>?_⟩
  have hl2:S.handed.length≤15:=Nat.le_trans (List.length_filter_le _ _) h15
  refine⟨a,rfl,⟨_,SqL.of e1⟩,?_⟩
  refine yr (xs:=S.handed.map V.str) (fun i ys H2=>∃ks:List Addr,ys=ks.map V.ref∧zi H1 H2∧All2 (fun k c=>H k=none∧H2 k=some (.lst (c.map V.int))) ks ((S.handed.take i).map fun j=>(S.card j).getD [])) ⟨[],rfl,zi.refl _,.nil⟩ ?_ (by rw[List.length_map];omega) ?_ ?_
  ·rintro i ys H2 hi ⟨ks,rfl,s2,r2⟩
   refine⟨s2.seq (SqL.of e1),?_⟩
   have:=r2.length
   rw[List.length_map,List.length_take] at this
   rw[List.length_map]
   omega
  ·rintro i x ys H2 hx ⟨ks,rfl,s2,r2⟩
   obtain⟨hi,rfl⟩:=zbt hx
   have hm:=List.mem_filter.mp (show S.handed.getD i "" ∈ S.panel.filter fun j=>(S.card j).isSome from zab hi)
   have s12:=s1.trans s2
   cases e:S.card (S.handed.getD i "")with
   | none=>rw[e] at hm;exact absurd hm.2 Bool.false_ne_true
   | some c =>
     refine⟨_,rfl,p,dx,_,rfl,s12 _ _ hip,fs2,_,rfl,p,F,S,_,rfl,hSh.same s12,fun hj=>absurd hm.1 hj,(fun _ z=>by rw[e] at z;cases z),fun c' e' l H3 s3 f3 e3=>?_⟩
     rw[e] at e'
     cases e'
     refine⟨ks ++ [l],by rw[List.map_append];rfl,s2.trans s3,?_⟩
     rw[yo hi,List.map_append]
     refine(r2.imp fun _ _ z=>⟨z.1,s3 _ _ z.2⟩).snoc ⟨s12.free f3,?_⟩
     dsimp only
     rw[e]
     exact e3
  ·rintro ys H2 ⟨ks,rfl,s2,r2⟩ l hl
   rw[List.length_map,List.take_length] at r2
   exact q l _ ks ((s1.trans s2).newT hl) ((s1.trans s2).free hl) zg (r2.imp fun _ _ z=>⟨z.1,zi.new hl _ _ z.2⟩)
end
def zcl(K:PySem.W.Frag):Sp:=fun vs H Q _=>∃(a:Addr) (ms:List Int) (n:Int),vs = [.ref a,.int n]∧SqL K H a (ms.map V.int)∧ms.length≤1000∧0≤n∧n≤1000∧∀(l:Addr) (H':Hp) (ls:List Addr),zi H H'→H l=none→H' l=some (.lst (ls.map V.ref))→All2 (TPl K H') ls (M6.zbb ms n.toNat)→Q (.ref l) H'
section
variable {P:Program} {w:World} {K:PySem.W.Frag} {mg:Str→Option Value} {base:Heap}
theorem zg9{f:Addr}{fd:FuncData}(F:Fun K "ladder_of" "ladder_of" wD f fd)(T:Txt K mg)(C_granted:Can P w K mg base 2 "granted" ["marks","number"] (zaM K))(C_granted_sum:Can P w K mg base 2 "granted_sum" ["marks","number"] (wJ K)):FnOk P w K mg base CX0 3 f fd ["marks","last"] (zcl K):=by
 refine F.ok zhj (fun vs H Q E h=>?_) (fun cdv A outer s H vs Q E hr h=>?_)
 ·obtain⟨a,ms,n,rfl,_⟩:=h
  rfl
 ·obtain⟨a,ms,n,rfl,hS,hz,h0,h1,q⟩:=h
  refine⟨_,(ze (zm (yf (show CompScope (zd wD) ["marks","last"] "number" ["marks"] [0] _ from⟨rfl,by decide +kernel,by decide +kernel,rfl,by decide +kernel,rfl,by decide +kernel,by decide +kernel⟩) rfl (zgt rfl T.b_range (za zh (za (zz yM (pv 1) zh) zc))) (fun _ _ _ _ _=>wd) (fun _ _ _ _ _=>(zek (za (zk C_granted (hr.mono (by decide)) rfl (za (pv 1) (za (pv 0) zc))) (za (zk C_granted_sum (hr.mono (by decide)) rfl (za (pv 1) (za (pv 0) zc))) zc))))))),?_⟩
  refine⟨_,rfl,_,_,rfl,rfl,_,_,rfl,⟨by omega,by omega,by omega,by omega⟩,?_⟩
  have en:(n+1 - 1).toNat=n.toNat:=by omega
  rw[en]
  refine zc7 (fun i ys H2=>∃ks:List Addr,ys=ks.map V.ref∧zi H H2∧All2 (TPl K H2) ks (M6.zbb ms i)) ⟨[],rfl,zi.refl _,.nil⟩ ?_ (by have:=zC;omega) ?_ ?_
  ·rintro i ys H2 hi ⟨ks,rfl,s2,r2⟩
   have:=r2.length
   rw[M6.zdz] at this
   rw[List.length_map]
   omega
  ·rintro i ys H2 hi ⟨ks,rfl,s2,r2⟩
   refine⟨_,rfl,_,rfl,a,ms,_,rfl,s2.seq hS,hz,fun H3 s3=>?_⟩
   refine⟨_,rfl,_,rfl,a,ms,_,rfl,(s2.trans s3).seq hS,hz,fun H4 s4=>?_⟩
   refine⟨by show 2≤sizeLine;decide,fun t ht=>?_⟩
   have s5:=(s2.trans s3).trans s4
   refine⟨ks ++ [t],by rw[List.map_append];rfl,s5.newT ht,?_⟩
   rw[M6.zeu,Int.add_comm (i:Int) 1]
   exact(r2.imp fun _ _=>TPl.stays K _ _ _ _ ((s3.trans s4).newT ht)).snoc (show TPl K _ t _ from SqT.new)
  ·rintro ys H2 ⟨ks,rfl,s2,r2⟩ l hl
   refine q l _ ks (s2.newT hl) ?_ zg (r2.imp fun _ _=>TPl.stays K _ _ _ _ (zi.new hl))
   cases e:H l with
   | none=>rfl
   | some u=>have:=s2 l u e;rw[hl] at this;cases this
end
def unlV:Option Int→V
 | none=>.non
 | some n=>.int n
def zbj(K:PySem.W.Frag):Sp:=fun vs H Q _=>∃(a b:Addr) (ms us:List Int) (f:Int),vs = [.ref a,.ref b]∧SqL K H a (ms.map V.int)∧SqL K H b (us.map V.int)∧1≤ms.length∧ms.length≤60∧us.length≤60∧(∀x∈ms,1≤x∧x≤24)∧(∀x∈us,1≤x∧x≤24)∧M3.isF ms f∧M3.isF us f∧∀(r:Option Int) (H':Hp),zi H H'→M6.zic ms us f r→Q (unlV r) H'
section
variable {P:Program} {w:World} {K:PySem.W.Frag} {mg:Str→Option Value} {base:Heap}
theorem zgZ{f:Addr}{fd:FuncData}(F:Fun K "unlike_at" "unlike_at" zal f fd)(T:Txt K mg)(C_granted:Can P w K mg base 2 "granted" ["marks","number"] (zaM K))(C_granted_sum:Can P w K mg base 2 "granted_sum" ["marks","number"] (wJ K))(C_first_number:Can P w K mg base 2 "first_number" ["marks"] (wg K)):FnOk P w K mg base CX0 3 f fd ["one","other"] (zbj K):=by
 refine F.ok zdJ (fun vs H Q E h=>?_) (fun cdv A outer s H vs Q E hr h=>?_)
 ·obtain⟨a,b,ms,us,f,rfl,_⟩:=h
  rfl
 ·obtain⟨a,b,ms,us,f,rfl,hA,hB,h1,hz,hz2,hm,hu,fF,fG,q⟩:=h
  refine⟨_,(zf (zah PassesOwn.never rfl (zgt rfl T.b_range (za (zk C_first_number (hr.mono (by decide)) rfl (za (pv 0) zc)) (za (zz yM (zr (zf5 rfl) (by rfl) T.b_max PyProof.Rows.boot_max (za (zz op_catS (pv 0) (pv 1)) zc)) zh) zc))) (yu (i:=2) zdJ.nd rfl (Or.inl rfl))
   (zf (zed (zE (zo zay (zk C_granted (hr.mono (by decide)) rfl (za (pv 0) (za (pv 2) zc))) (zk C_granted (hr.mono (by decide)) rfl (za (pv 1) (za (pv 2) zc))) (zt _)) (ze (zm (pv 2))) zy))
   (ze (zed (zE (zo zay (zk C_granted_sum (hr.mono (by decide)) rfl (za (pv 0) (za (pv 2) zc))) (zk C_granted_sum (hr.mono (by decide)) rfl (za (pv 1) (za (pv 2) zc))) (zt _)) (ze (zm (pv 2))) zy)))))
   (ze (zm zcA))),?_⟩
  have hln:=zC
  have hne:ms ≠ []:=by intro z;rw[z] at h1;simp at h1
  refine⟨_,rfl,a,ms,rfl,hA,hne,hz,hm,fun H1 f' s1 hf'=>?_⟩
  have ef:=M3.zby hf' fF
  subst ef
  refine⟨_,rfl,_,rfl,a,b,_,_,rfl,rfl,s1.seq hA,s1.seq hB,(by rw[List.length_map,List.length_map];omega),fun l hl=>?_⟩
  rw[← List.map_append]
  refine⟨l,ms++us,rfl,SqL.new,(by rw[List.length_append];omega),fun M hM hMx=>?_⟩
  have hMr:1≤M∧M≤24:=by
   rcases List.mem_append.mp hM with z | z
   ·exact hm M z
   ·exact hu M z
  have hma:∀x∈ms,x≤M:=fun x hx=>hMx x (List.mem_append_left _ hx)
  have hub:∀x∈us,x≤M:=fun x hx=>hMx x (List.mem_append_right _ hx)
  have hfr:=M3.zce hf' 1 M fun x hx=>⟨(hm x hx).1,hma x hx⟩
  refine⟨_,_,rfl,rfl,_,_,rfl,⟨by omega,by omega,by omega,by omega⟩,?_⟩
  generalize hH2:upd H1 l _=H2
  have s2:zi H H2:=by rw[← hH2];exact s1.newT hl
  refine zam (fun i σ H3=>∃v,σ = [some (.ref a),some (.ref b),v]∧zi H H3∧∀j,f'≤j→j<f'+i→M3.cnt ms j=M3.cnt us j∧M3.sm ms j=M3.sm us j) ⟨_,rfl,s2,fun j j1 j2=>by omega⟩ ?_ ?_
  ·rintro i σ H3 hi ⟨v,rfl,s3,hj⟩
   refine⟨fun σ' H'=>σ' = [some (.ref a),some (.ref b),some (.int (f'+i))]∧zi H H'∧M3.cnt ms (f'+i)=M3.cnt us (f'+i),?_,?_⟩
   ·refine⟨_,rfl,_,rfl,a,ms,_,rfl,s3.seq hA,by omega,fun H4 s4=>?_⟩
    refine⟨_,rfl,_,rfl,b,us,_,rfl,(s3.trans s4).seq hB,by omega,fun H5 s5=>?_⟩
    refine⟨rfl,_,rfl,yD (fun hne=>?_) (fun he=>?_)⟩
    ·refine⟨_,rfl,q (some (f'+i)) _ ((s3.trans s4).trans s5) ⟨by omega,by omega,hj,fun z=>hne (by rw[z.1])⟩⟩
    ·refine⟨rfl,(s3.trans s4).trans s5,?_⟩
     injection he with he
     omega
   ·rintro σ' H' ⟨rfl,s4,hcnt⟩
    refine⟨fun σ' H'=>σ' = [some (.ref a),some (.ref b),some (.int (f'+i))]∧zi H H'∧M3.sm ms (f'+i)=M3.sm us (f'+i),?_,?_⟩
    ·refine⟨_,rfl,_,rfl,a,ms,_,rfl,s4.seq hA,by omega,fun H5 s5=>?_⟩
     refine⟨_,rfl,_,rfl,b,us,_,rfl,(s4.trans s5).seq hB,by omega,fun H6 s6=>?_⟩
     refine⟨rfl,_,rfl,yD (fun hne=>?_) (fun he=>?_)⟩
     ·refine⟨_,rfl,q (some (f'+i)) _ ((s4.trans s5).trans s6) ⟨by omega,by omega,hj,fun z=>hne (by rw[z.2])⟩⟩
     ·refine⟨rfl,(s4.trans s5).trans s6,?_⟩
      injection he with he
    ·rintro σ' H'' ⟨rfl,s5,hsm⟩
     refine⟨_,rfl,s5,fun j j1 j2=>?_⟩
     by_cases c:j<f'+i
     ·exact hj j j1 c
     ·have:j=f'+i:=by omega
      subst this
      exact⟨hcnt,hsm⟩
  ·rintro σ H3 ⟨v,rfl,s3,hj⟩
   exact q none _ s3 (M6.ziz hma hub hfr.2 fun j j1 j2=>hj j j1 (by omega))
end
def wW(K:PySem.W.Frag):Sp:=fun vs H Q _=>∃(p:Addr) (F:Addr→Prop) (S:Sh) (j:Str),vs = [.ref p,.str j]∧zB K H p F S∧∀(l:Addr) (H':Hp) (ks:List Addr),zi H H'→H l=none→H' l=some (.lst (ks.map V.ref))→All2 (IL K H') ks (S.cardsWo j)→Q (.ref l) H'
section
variable {P:Program} {w:World} {K:PySem.W.Frag} {mg:Str→Option Value} {base:Heap}
theorem zel{f:Addr}{fd:FuncData}(F:Fun K "cards_without" "cards_without" yq f fd)(T:Txt K mg)(C_Sheet_handed:CanM P w K mg base 1 (zH K "Sheet") "handed" ["self"] (zX K))(C_Sheet_card_of:CanMX P w K mg base 2 (zH K "Sheet") "card_of" ["self","judge"] (ya K)):FnOk P w K mg base CX0 3 f fd ["sheet","judge"] (wW K):=by
 refine F.ok zen (fun vs H Q E h=>?_) (fun cdv A outer s H vs Q E hr h=>?_)
 ·obtain⟨p,F,S,j,rfl,_⟩:=h
  rfl
 ·obtain⟨p,F,S,j,rfl,hSh,q⟩:=h
  refine⟨_,(ze (zm (yf (show CompScope (zd yq) ["sheet","judge"] "other" ["sheet","judge"] [0,1] _ from⟨rfl,by decide +kernel,by decide +kernel,rfl,by decide +kernel,rfl,by decide +kernel,by decide +kernel⟩) rfl (zO (zK C_Sheet_handed T.cl_Sheet (hr.mono (by decide)) (pv 0))) (fun _ _ _ _ _=>(zbx (zo zay (pv 0) (pv 2) (zt _)))) (fun _ _ _ _ _=>(wI C_Sheet_card_of T.cl_Sheet zeB (hr.mono (by decide)) (pv 1) (za (pv 0) zc)))))),?_⟩
  have hln:=zC
  have h15:=hSh.ok.p15
  obtain⟨dx,b1,b2,b3,d,hip⟩:=hSh.ins
  refine⟨_,rfl,p,dx,_,rfl,hip,rfl,p,F,S,rfl,hSh.shape,h15,fun a H1 s1 f1 e1=>?_⟩
  have hl2:S.handed.length≤15:=Nat.le_trans (List.length_filter_le _ _) h15
  refine⟨a,rfl,⟨_,SqL.of e1⟩,?_⟩
  refine wX (xs:=S.handed.map V.str) (fun i ys H2=>∃ks:List Addr,ys=ks.map V.ref∧zi H1 H2∧All2 (IL K H2) ks (((S.handed.take i).filter fun i => !decide (i=j)).map fun i=>(S.card i).getD [])) ⟨[],rfl,zi.refl _,.nil⟩ ?_ (by rw[List.length_map];omega) ?_ ?_
  ·rintro i ys H2 hi ⟨ks,rfl,s2,r2⟩
   refine⟨s2.seq (SqL.of e1),?_⟩
   have h3:=r2.length
   have h4:=List.length_filter_le (fun i => !decide (i=j)) (S.handed.take i)
   rw[List.length_map] at h3
   rw[List.length_take] at h4
   rw[List.length_map]
   omega
  ·rintro i x ys H2 hx ⟨ks,rfl,s2,r2⟩
   obtain⟨hi,rfl⟩:=zbt hx
   have hm:=List.mem_filter.mp (show S.handed.getD i "" ∈ S.panel.filter fun j=>(S.card j).isSome from zab hi)
   have s12:=s1.trans s2
   refine⟨_,rfl,_,rfl,rfl,_,rfl,yD (fun hne=>?_) (fun he=>?_)⟩
   ·have hne:¬S.handed.getD i "" = j:=fun z=>hne (by rw[z])
    cases e:S.card (S.handed.getD i "")with
    | none=>rw[e] at hm;exact absurd hm.2 Bool.false_ne_true
    | some c =>
      refine⟨_,rfl,p,dx,_,rfl,s12 _ _ hip,rfl,_,rfl,p,F,S,_,rfl,hSh.same s12,fun hj=>absurd hm.1 hj,(fun _ z=>by rw[e] at z;cases z),fun c' e' l H3 s3 f3 e3=>?_⟩
      rw[e] at e'
      cases e'
      refine⟨ks ++ [l],by rw[List.map_append];rfl,s2.trans s3,?_⟩
      rw[yo hi,List.filter_append,List.filter_cons,if_pos (by rw[decide_eq_false hne];rfl),List.map_append]
      refine(r2.imp fun _ _=>IL.stays K _ _ _ _ s3).snoc ?_
      show IL K H3 l ((S.card (S.handed.getD i "")).getD [])
      rw[e]
      exact SqL.of e3
   ·have he:S.handed.getD i "" = j:=by injection he
    refine⟨ks,rfl,s2,?_⟩
    rw[yo hi,List.filter_append,List.filter_cons,if_neg (by rw[decide_eq_true he];decide),List.filter_nil,List.append_nil]
    exact r2
  ·rintro ys H2 ⟨ks,rfl,s2,r2⟩ l hl
   rw[List.length_map,List.take_length] at r2
   have s12:=s1.trans s2
   exact q l _ ks (s12.newT hl) (s12.free hl) zg (r2.imp fun _ _=>IL.stays K _ _ _ _ (zi.new hl))
end
def zbG(K:PySem.W.Frag):Sp:=fun vs H Q _=>∃(a:Addr) (ts:List Str),vs = [.ref a]∧SqL K H a (ts.map V.str)∧ts.length<4000∧(∀z∈ts,z.length≤1000)∧∀H',zi H H'→Q (.bl (M2.zdh ts)) H'
section
variable {P:Program} {w:World} {K:PySem.W.Frag} {mg:Str→Option Value} {base:Heap}
theorem zfP{f:Addr}{fd:FuncData}(F:Fun K "good_judges" "good_judges" yL f fd)(T:Txt K mg)(C_good_name:Can P w K mg base 2 "good_name" ["judge"] (zcq K))(C_good_length:Can P w K mg base 1 "good_length" ["things","most"] (wM K))(C_all_unlike:Can P w K mg base 1 "all_unlike" ["things"] (zaS K)):FnOk P w K mg base CX0 3 f fd ["judges"] (zbG K):=by
 refine F.ok zfe (fun vs H Q E h=>?_) (fun cdv A outer s H vs Q E hr h=>?_)
 ·obtain⟨a,ts,rfl,_⟩:=h
  rfl
 ·obtain⟨a,ts,rfl,hS,hz,ht,q⟩:=h
  refine⟨_,(ze (zm (zcy (zk C_good_length (hr.mono (by decide)) rfl (za (pv 0) (za (zc4 T.c_MOST_JUDGES rfl) zc))) (zcy (zk C_all_unlike (hr.mono (by decide)) rfl (za (pv 0) zc)) (zfB (zr (ze0 rfl) (by rfl) T.b_all PyProof.Rows.boot_all (za (yf (show CompScope (zd yL) ["judges"] "judge" [] [] _ from⟨rfl,by decide +kernel,by decide +kernel,rfl,by decide +kernel,rfl,by decide +kernel,by decide +kernel⟩) rfl (zO (pv 0)) (fun _ _ _ _ _=>wd) (fun _ _ _ _ _=>(zk C_good_name (hr.mono (by decide)) rfl (za (pv 0) zc)))) zc))))))),?_⟩
  refine⟨_,rfl,_,_,_,rfl,.inl ⟨_,hS,rfl⟩,_,rfl,?_⟩
  rw[List.length_map]
  unfold M2.zdh at q
  refine zhQ (fun h1=>?_) (fun h1=>?_)
  ·rw[h1,Bool.true_and] at q
   refine⟨_,rfl,a,rfl,.inr ⟨ts,hS,hz,_,rfl,yI (fun h2=>?_) (fun h2=>?_)⟩⟩
   ·rw[decide_eq_true h2,Bool.true_and] at q
    refine⟨_,rfl,a,rfl,⟨_,hS⟩,?_⟩
    refine yr (xs:=ts.map V.str) (fun i ys H2=>zi H H2∧ys=((ts.take i).map M2.zcR).map V.bl) ⟨zi.refl _,rfl⟩ ?_ (by rw[List.length_map];have:=zC;omega) ?_ ?_
    ·rintro i ys H2 hi ⟨s2,rfl⟩
     exact⟨s2.seq hS,by simp only[List.length_map,List.length_take];omega⟩
    ·rintro i x ys H2 hx ⟨s2,rfl⟩
     obtain⟨hi,rfl⟩:=zbt hx
     refine⟨_,rfl,_,rfl,ht _ (zab hi),fun H3 s3=>⟨s2.trans s3,?_⟩⟩
     rw[yo hi,List.map_append,List.map_append]
     rfl
    ·rintro ys H2 ⟨s2,rfl⟩ l hl
     rw[List.length_map,List.take_length]
     exact⟨l,_,rfl,SqL.new,q _ (s2.newT hl)⟩
   ·rw[decide_eq_false h2,Bool.false_and] at q
    exact q _ (zi.refl _)
  ·rw[h1,Bool.false_and] at q
   exact q _ (zi.refl _)
end
def zci(K:PySem.W.Frag):Sp:=fun vs H Q _=>∃(a b:Addr) (cs:List (List Int)),vs = [.ref a,.ref b]∧zdg K (IL K) H a cs∧zdg K (IL K) H b cs∧cs.length≤1000∧(∀d∈cs,d.length≤1000)∧Q (.bl true) H
section
variable {P:Program} {w:World} {K:PySem.W.Frag} {mg:Str→Option Value} {base:Heap}
theorem zhe{f:Addr}{fd:FuncData}(F:Fun K "_law_lists" "_law_lists" zau f fd)(T:Txt K mg)(C_law_same:Can P w K mg base 2 "_law_same" ["_law_found","_law_due_here"] (zbO K)):FnOk P w K mg base CX0 3 f fd ["_law_found","_law_due_here"] (zci K):=by
 refine F.ok zdW (fun vs H Q E h=>?_) (fun cdv A outer s H vs Q E hr h=>?_)
 ·obtain⟨a,b,cs,rfl,_⟩:=h
  rfl
 ·obtain⟨a,b,cs,rfl,⟨ls,hA,rA⟩,⟨ks,hB,rB⟩,hz,hd,q⟩:=h
  refine⟨_,(zf (zE (PW.pt (zdP (zaa (wf (zr zbW (by rfl) T.b_isinstance PyProof.Rows.boot_isinstance (za (pv 0) (za (zcw (v:=V.ty "list") rfl T.b_list PyProof.Rows.boot_list rfl) zc))))) (zc0 (zo zay (zr zp (by rfl) T.b_len PySem.boot_len (za (pv 0) zc)) (zr zp (by rfl) T.b_len PySem.boot_len (za (pv 1) zc)) (zt _))))) (ze (zm wZ)) zy)
   (zf (zah PassesOwn.never rfl (wl rfl T.b_range (za (zr zp (by rfl) T.b_len PySem.boot_len (za (pv 1) zc)) zc)) (yu (i:=2) zdW.nd rfl (Or.inl rfl))
     (ze (zE (zaa (wf (zk C_law_same (hr.mono (by decide)) rfl (za (yd zN (pv 0) (pv 2) (fun _ _=>rfl)) (za (yd zN (pv 1) (pv 2) (fun _ _=>rfl)) zc))))) (ze (zm wZ)) zy)))
   (ze (zm wZ)))),?_⟩
  have la:=rA.length
  have lb:=rB.length
  refine⟨_,rfl,_,_,rfl,.yes hA,_,rfl,zbg ?_⟩
  refine⟨_,rfl,a,_,rfl,.inl hA,_,rfl,b,_,rfl,.inl hB,rfl,_,rfl,?_⟩
  rw[List.length_map,List.length_map]
  refine yD (fun hne=>absurd (by rw[la,lb]) hne) (fun he=>?_)
  refine⟨_,rfl,b,_,rfl,.inl hB,_,rfl,by omega,by rw[List.length_map];omega,?_⟩
  rw[List.length_map]
  refine zam (fun i σ H2=>∃v,σ = [some (.ref a),some (.ref b),v]∧H2=H) ⟨_,rfl,rfl⟩ ?_ ?_
  ·rintro i σ H2 hi ⟨v,rfl,rfl⟩
   have hi':i<cs.length:=by rw[← lb];simpa using hi
   obtain⟨l,el,rl⟩:=rA.get (List.getElem?_eq_getElem hi')
   obtain⟨k,ek,rk⟩:=rB.get (List.getElem?_eq_getElem hi')
   have e1:atI (ls.map V.ref) (0+(i:Int))=some (.ref l):=by rw[Int.zero_add];exact zae (zbQ el)
   have e2:atI (ks.map V.ref) (0+(i:Int))=some (.ref k):=by rw[Int.zero_add];exact zae (zbQ ek)
   refine⟨_,rfl,_,rfl,a,_,_,_,rfl,rfl,hA,e1,_,rfl,_,rfl,b,_,_,_,rfl,rfl,hB,e2,l,k,_,_,rfl,rl,rk,by have:=hd _ (List.getElem_mem hi');omega,?_⟩
   rw[decide_eq_true rfl]
   exact⟨_,rfl,zbg ⟨_,rfl,rfl⟩⟩
  ·rintro σ H2 ⟨v,rfl,rfl⟩
   exact q
end
def zco(K:PySem.W.Frag):Sp:=fun vs H Q _=>∃(a b:Addr) (ns us:List Int) (st m y md:Int),vs = [.ref a,.int st,.ref b,.int m,.int y,.int md]∧SqL K H a (ns.map V.int)∧SqL K H b (us.map V.int)∧0≤st∧0≤m∧m≤1000∧us ≠ []∧us.length≤1000∧∀(l:Addr) (H':Hp) (ls:List Addr) (cs:List (List Int)),zi H H'→H l=none→H' l=some (.lst (ls.map V.ref))→All2 (fun l c=>H' l=some (.lst (c.map V.int))) ls cs→cs.length=m.toNat→(∀d∈cs,d = []∨d.Perm us)→Q (.ref l) H'
section
variable {P:Program} {w:World} {K:PySem.W.Frag} {mg:Str→Option Value} {base:Heap}
theorem zg6{f:Addr}{fd:FuncData}(F:Fun K "_law_panel" "_law_panel" zat f fd)(T:Txt K mg)(C_law_at:Can P w K mg base 1 "_law_at" ["_law_script","_law_k"] (zdc K))(C_law_card:Can P w K mg base 2 "_law_card" ["_law_cell","_law_couples_here","_law_style"] (zc6 K)):FnOk P w K mg base CX0 3 f fd ["_law_script","_law_start","_law_couples_here","_law_many_here","_law_style","_law_mode"] (zco K):=by
 refine F.ok zbk (fun vs H Q E h=>?_) (fun cdv A outer s H vs Q E hr h=>?_)
 ·obtain⟨a,b,ns,us,st,m,y,md,rfl,_⟩:=h
  rfl
 ·obtain⟨a,b,ns,us,st,m,y,md,rfl,hA,hB,h0,m0,m1,hne,hz,q⟩:=h
  refine⟨_,(zf (zD (i:=6) zbk.nd rfl (Or.inl rfl) (yi zc))
   (zf (zah PassesOwn.never rfl (wl rfl T.b_range (za (pv 3) zc)) (yu (i:=7) zbk.nd rfl (Or.inl rfl))
     (zf (zD (i:=8) zbk.nd rfl (Or.inl rfl) (zk C_law_at (hr.mono (by decide)) rfl (za (pv 0) (za (zz yM (pv 1) (pv 7)) zc))))
   (ze (zE (PW.pt (zbF (zo yk (zz yB (pv 8) zh) zh (zt _)) (zaA (zo zay (pv 5) zh (zt _))))) (ze (zM (zc2 PySem.F.plainAttrs_list PySem.F.slot_list_append PySem.F.type_list_append zb4 (pv 6) (za (yi zc) zc)))) (ze (zM (zc2 PySem.F.plainAttrs_list PySem.F.slot_list_append PySem.F.type_list_append zb4 (pv 6) (za (zk C_law_card (hr.mono (by decide)) rfl (za (zz zcC (pv 8) zh) (za (pv 2) (za (pv 4) zc)))) zc))))))))
   (ze (zm (pv 6))))),?_⟩
  have hln:=zC
  refine⟨by decide,fun p0 hp0=>?_⟩
  refine⟨_,rfl,m,rfl,by omega,by omega,zam (fun i σ H2=>∃(v7 v8:Option V) (ls:List Addr) (cs:List (List Int)),σ = [some (.ref a),some (.int st),some (.ref b),some (.int m),some (.int y),some (.int md),some (.ref p0),v7,v8]∧zi H H2∧H2 p0=some (.lst (ls.map V.ref))∧All2 (fun l d=>H2 l=some (.lst (d.map V.int))∧l≠p0) ls cs∧cs.length=i∧∀d∈cs,d = []∨d.Perm us) ⟨_,_,[],[],rfl,zi.new hp0,zg,.nil,rfl,by simp⟩ ?_ ?_⟩
  ·rintro i σ H2 hi ⟨v7,v8,ls,cs,rfl,s2,e2,r2,hl,hd⟩
   have hi:i<1000:=by omega
   refine⟨_,rfl,_,rfl,_,rfl,_,_,rfl,rfl,a,ns,_,rfl,s2.seq hA,by omega,?_⟩
   dsimp only
   generalize ns.getD (st+(0+(i:Int))).toNat 0=cell
   have go:∀(H3:Hp) (l3:Addr) (d:List Int),zi H2 H3→H2 l3=none→H3 l3=some (.lst (d.map V.int))→(d = []∨d.Perm us)→(zi H (upd H3 p0 (.lst (ls.map V.ref ++ [.ref l3])))∧upd H3 p0 (.lst (ls.map V.ref ++ [.ref l3])) p0=some (.lst ((ls ++ [l3]).map V.ref))∧All2 (fun l d=>upd H3 p0 (.lst (ls.map V.ref ++ [.ref l3])) l=some (.lst (d.map V.int))∧l≠p0) (ls ++ [l3]) (cs ++ [d])∧(cs ++ [d]).length=i+1∧∀e∈cs ++ [d],e = []∨e.Perm us):=fun H3 l3 d s3 f3 e3 h3=>by
    have n3:l3≠p0:=fun z=>by rw[z,e2] at f3;cases f3
    refine⟨(s2.trans s3).put hp0,zhF ls l3,?_,by rw[List.length_append,hl];rfl,fun e he=>?_⟩
    ·refine All2.snoc (r2.imp fun l d h=>⟨by rw[zj h.2];exact s3 _ _ h.1,h.2⟩) ⟨by rw[zj n3];exact e3,n3⟩
    ·rcases List.mem_append.mp he with h | h
     ·exact hd e h
     ·rw[List.mem_singleton.mp h];exact h3
   have hll:=r2.length
   refine⟨_,rfl,_,_,rfl,rfl,(by show(0:Int)<6;decide),rfl,_,rfl,yI (fun _=>?_) (fun _=>zbg ?_)⟩
   ·refine⟨_,rfl,rfl,_,rfl,yD (fun _=>?_) (fun _=>?_)⟩
    ·refine⟨_,rfl,.inl ⟨rfl,_,SqL.of e2⟩,by decide,fun p3 hp3=>?_⟩
     have s3:=zi.new (o:=.lst []) hp3
     refine⟨p0,_,_,rfl,rfl,s3 _ _ e2,by rw[List.length_map];omega,?_⟩
     obtain⟨g1,g2,g3,g4,g5⟩:=go _ p3 [] s3 hp3 zg (.inl rfl)
     exact⟨_,_,_,_,rfl,g1,g2,g3,g4,g5⟩
    ·refine⟨_,rfl,.inl ⟨rfl,_,SqL.of e2⟩,_,rfl,_,_,rfl,rfl,⟨by decide,by decide⟩,_,rfl,_,rfl,_,b,us,_,rfl,s2.seq hB,hne,hz,fun l3 H3 d s3 f3 e3 pd=>?_⟩
     refine⟨p0,_,_,rfl,rfl,s3 _ _ e2,by rw[List.length_map];omega,?_⟩
     obtain⟨g1,g2,g3,g4,g5⟩:=go H3 l3 d s3 f3 e3 (.inr pd)
     exact⟨_,_,_,_,rfl,g1,g2,g3,g4,g5⟩
   ·refine⟨_,rfl,.inl ⟨rfl,_,SqL.of e2⟩,_,rfl,_,_,rfl,rfl,⟨by decide,by decide⟩,_,rfl,_,rfl,_,b,us,_,rfl,s2.seq hB,hne,hz,fun l3 H3 d s3 f3 e3 pd=>?_⟩
    refine⟨p0,_,_,rfl,rfl,s3 _ _ e2,by rw[List.length_map];omega,?_⟩
    obtain⟨g1,g2,g3,g4,g5⟩:=go H3 l3 d s3 f3 e3 (.inr pd)
    exact⟨_,_,_,_,rfl,g1,g2,g3,g4,g5⟩
  ·rintro σ H2 ⟨v7,v8,ls,cs,rfl,s2,e2,r2,hl,hd⟩
   exact⟨_,rfl,q p0 _ ls cs s2 hp0 e2 (r2.imp fun _ _ h=>h.1) hl hd⟩
end
def zb2(K:PySem.W.Frag):Sp:=fun vs H Q E=>∃(x dx a b:Addr) (us:List Int) (ts:List Str),vs = [.ref x,.ref a,.ref b]∧H x=some (.ins (zH K "Sheet") dx [])∧SqL K H a (us.map V.int)∧us.length<4000∧SqL K H b (ts.map V.str)∧ts.length<4000∧(∀z∈ts,z.length≤1000) ∧
 (M1.zcH us=false→∀C H',zq K "BadCouples" C→zi H H'→E (.ref C) none H')∧(M1.zcH us=true→M2.zdh ts=false→∀C H',zq K "BadJudges" C→zi H H'→E (.ref C) none H') ∧
 (M1.zcH us=true→M2.zdh ts=true→∀H' F,zB K H' x F (Sh.new us ts)→(∀b o,H b=some o→b≠x→H' b=some o∧¬F b)→Q .non H')
section
variable {P:Program} {w:World} {K:PySem.W.Frag} {mg:Str→Option Value} {base:Heap}
theorem zgb{f:Addr}{fd:FuncData}(F:Fun K "__init__" "Sheet.__init__" wO f fd)(T:Txt K mg)(C_good_couples:Can P w K mg base 2 "good_couples" ["couples"] (zbd K))(C_good_judges:Can P w K mg base 3 "good_judges" ["judges"] (zbG K)):FnOk P w K mg base (CX1 P w) 4 f fd ["self","couples","judges"] (zb2 K):=by
 obtain⟨c_BadCouples,n_BadCouples,m_BadCouples,x_BadCouples⟩:=T.x_BadCouples
 obtain⟨c_BadJudges,n_BadJudges,m_BadJudges,x_BadJudges⟩:=T.x_BadJudges
 refine F.okX zgh (fun vs H Q E h=>?_) (fun X W cdv A outer s H vs Q E hX hW fl md hr h=>?_)
 ·obtain⟨x,dx,a,b,us,ts,rfl,_⟩:=h
  rfl
 ·obtain⟨x,dx,a,b,us,ts,rfl,hx,hA,hzA,hB,hzB,hzz,qC,qJ,q⟩:=h
  subst hX
  refine⟨_,(zf (zE (zaa (wf (zk C_good_couples (hr.mono (by decide)) rfl (za (pv 1) zc)))) (ze (yT rfl md rfl m_BadCouples x_BadCouples (za zF zc))) zy)
   (zf (zE (zaa (wf (zk C_good_judges (hr.mono (by decide)) rfl (za (pv 2) zc)))) (ze (yT rfl md rfl m_BadJudges x_BadJudges (za zF zc))) zy)
   (zf (zcs (pv 0) (zP ye (by rfl) T.b_list PyProof.Rows.boot_list (za (pv 1) zc)) rfl)
   (zf (zcs (pv 0) (yi zc) rfl)
   (zf (zcs (pv 0) (zP ye (by rfl) T.b_list PyProof.Rows.boot_list (za (pv 2) zc)) rfl)
   (zf (zcs (pv 0) pe_dnewK rfl)
   (zf (zcs (pv 0) zh rfl)
   (ze (zcs (pv 0) wZ rfl))))))))),?_⟩
  refine⟨_,rfl,a,us,rfl,hA,hzA,fun H1 s1=>⟨_,rfl,?_⟩⟩
  cases hg:M1.zcH us with
  | false=>exact⟨(by show 1≤sizeLine;decide),by rw[hW];exact qC hg _ _ n_BadCouples s1⟩
  | true =>
    refine⟨_,rfl,b,ts,rfl,s1.seq hB,hzB,hzz,fun H2 s2=>⟨_,rfl,?_⟩⟩
    have s12:=s1.trans s2
    cases hj:M2.zdh ts with
    | false=>exact⟨(by show 1≤sizeLine;decide),by rw[hW];exact qJ hg hj _ _ n_BadJudges s12⟩
    | true =>
      have x2:=s12 _ _ hx
      have k2:∀c o,H c=some o→c≠x→H2 c=some o:=fun c o e _=>s12 c o e
      refine⟨_,rfl,a,_,rfl,.inl (s12.seq hA),fun l1 hl1=>?_⟩
      have f1:=s12.free hl1
      obtain⟨x3,e1,n1,k3⟩:=zdY (o:=.lst (us.map V.int)) (u:=.ins (zH K "Sheet") dx [("standing",.ref l1)]) x2 hl1
      refine⟨_,rfl,x,_,dx,_,rfl,(by rw[zj (zu x2 hl1)];exact x2),T.cl_Sheet,T.n_Sheet_standing,(by decide),?_⟩
      rw[pf1]
      generalize hH3:upd (upd H2 l1 _) x _=H3 at x3 e1 k3 ⊢
      refine⟨(by show 0≤sizeLine;decide),fun l2 hl2=>?_⟩
      obtain⟨x4,e2,n2,k4⟩:=zdY (o:=.lst []) (u:=.ins (zH K "Sheet") dx [("standing",.ref l1),("struck_so_far",.ref l2)]) x3 hl2
      refine⟨_,rfl,x,_,dx,_,rfl,(by rw[zj (zu x3 hl2)];exact x3),T.cl_Sheet,T.n_Sheet_struck_so_far,(by show 1<1000;decide),?_⟩
      rw[pf2]
      generalize hH4:upd (upd H3 l2 _) x _=H4 at x4 e2 k4 ⊢
      have k24:∀c o,H c=some o→c≠x→H4 c=some o:=fun c o e n=>k4 c o (k3 c o (k2 c o e n) n) n
      have hB4:SqL K H4 b (ts.map V.str):=by
       rcases hB with(e | ⟨o,e⟩) | e
       ·exact .inl (.inl (k24 _ _ e (y6 e hx (by intro z;cases z))))
       ·exact .inl (.inr ⟨o,k24 _ _ e (y6 e hx (by intro z;cases z))⟩)
       ·exact .inr e
      refine⟨_,rfl,b,_,rfl,.inl hB4,fun l3 hl3=>?_⟩
      obtain⟨x5,e3,n3,k5⟩:=zdY (o:=.lst (ts.map V.str)) (u:=.ins (zH K "Sheet") dx [("standing",.ref l1),("struck_so_far",.ref l2),("panel",.ref l3)]) x4 hl3
      refine⟨_,rfl,x,_,dx,_,rfl,(by rw[zj (zu x4 hl3)];exact x4),T.cl_Sheet,T.n_Sheet_panel,(by show 2<1000;decide),?_⟩
      rw[pf3]
      generalize hH5:upd (upd H4 l3 _) x _=H5 at x5 e3 k5 ⊢
      intro d hd
      obtain⟨x6,e4,n4,k6⟩:=zdY (o:=.dK []) (u:=.ins (zH K "Sheet") dx [("standing",.ref l1),("struck_so_far",.ref l2),("panel",.ref l3),("card_by_judge",.ref d)]) x5 hd
      refine⟨_,rfl,x,_,dx,_,rfl,(by rw[zj (zu x5 hd)];exact x5),T.cl_Sheet,T.n_Sheet_card_by_judge,(by show 3<1000;decide),?_⟩
      rw[pf4]
      generalize hH6:upd (upd H5 d _) x _=H6 at x6 e4 k6 ⊢
      refine⟨_,rfl,x,_,dx,_,rfl,x6,T.cl_Sheet,T.n_Sheet_taken_so_far,(by show 4<1000;decide),?_⟩
      rw[pf5]
      refine⟨_,rfl,x,_,dx,_,rfl,zg,T.cl_Sheet,T.n_Sheet_sealed,(by show 5<1000;decide),?_⟩
      rw[pf6,upd_upd]
      have keep:∀c o,H6 c=some o→c≠x→upd H6 x (.ins (zH K "Sheet") dx (shF l1 l2 l3 d (Sh.new us ts))) c=some o:=fun c o e n=>by rw[zj n];exact e
      have g1:H6 l1=some (.lst (us.map V.int)):=k6 _ _ (k5 _ _ (k4 _ _ e1 n1) n1) n1
      have g2:H6 l2=some (.lst []):=k6 _ _ (k5 _ _ e2 n2) n2
      have g3:H6 l3=some (.lst (ts.map V.str)):=k6 _ _ e3 n3
      refine q hg hj (upd H6 x (.ins (zH K "Sheet") dx (shF l1 l2 l3 d (Sh.new us ts)))) (fun c=>c=x∨c=l1∨c=l2∨c=l3∨c=d) ⟨dx,l1,l2,l3,d,[],?_⟩ fun c o e n=>⟨?_,?_⟩
      ·refine⟨⟨zg,keep _ _ g1 n1,keep _ _ g2 n2,keep _ _ g3 n3,keep _ _ e4 n4,Nat.zero_le _,fun _ _=>rfl,(fun _ _ z=>nomatch z),.inl rfl,.inr (.inl rfl),.inr (.inr (.inl rfl)),.inr (.inr (.inr (.inl rfl))),.inr (.inr (.inr (.inr rfl))),?_,?_,?_⟩,Sh.Ok.new hg hj⟩
       ·exact zu e1 hl2
       ·exact fun z=>zu (k4 _ _ (show H3 l1=_ from e1) n1) hl3 (by rw[z] at hl3;rw[e2] at hl3;cases hl3)
       ·rintro c (rfl | rfl | rfl | rfl | rfl)
        ·rw[zg];exact fun z=>nomatch z
        ·rw[keep _ _ g1 n1];exact fun z=>nomatch z
        ·rw[keep _ _ g2 n2];exact fun z=>nomatch z
        ·rw[keep _ _ g3 n3];exact fun z=>nomatch z
        ·rw[keep _ _ e4 n4];exact fun z=>nomatch z
      ·exact keep _ _ (k6 _ _ (k5 _ _ (k24 _ _ e n) n) n) n
      ·have e2':=k2 _ _ e n
       have e3':=k3 _ _ e2' n
       have e4':=k4 _ _ e3' n
       have e5':=k5 _ _ e4' n
       rintro (z | z | z | z | z)
       ·exact n z
       ·rw[z,hl1] at e2';cases e2'
       ·rw[z,hl2] at e3';cases e3'
       ·rw[z,hl3] at e4';cases e4'
       ·rw[z,hd] at e5';cases e5'
end
def zcX(K:PySem.W.Frag):Sp:=fun vs H Q _=>∃(a b:Addr) (ms us:List Int),vs = [.ref a,.ref b]∧SqL K H a (ms.map V.int)∧SqL K H b (us.map V.int)∧ms.length=us.length∧1≤ms.length∧ms.length≤60∧(∀x∈ms,1≤x∧x≤24)∧(∀x∈us,1≤x∧x≤24)∧∀H',zi H H'→Q (.bl (M6.yw ms us 24)) H'
section
variable {P:Program} {w:World} {K:PySem.W.Frag} {mg:Str→Option Value} {base:Heap}
theorem ziu{f:Addr}{fd:FuncData}(F:Fun K "is_ahead" "is_ahead" zaR f fd)(T:Txt K mg)(C_granted:Can P w K mg base 2 "granted" ["marks","number"] (zaM K))(C_granted_sum:Can P w K mg base 2 "granted_sum" ["marks","number"] (wJ K))(C_first_number:Can P w K mg base 2 "first_number" ["marks"] (wg K))(C_unlike_at:Can P w K mg base 3 "unlike_at" ["one","other"] (zbj K)):FnOk P w K mg base CX0 4 f fd ["one","other"] (zcX K):=by
 refine F.ok zew (fun vs H Q E h=>?_) (fun cdv A outer s H vs Q E hr h=>?_)
 ·obtain⟨a,b,ms,us,rfl,_⟩:=h
  rfl
 ·obtain⟨a,b,ms,us,rfl,hA,hB,hl,h1,hz,hm,hu,q⟩:=h
  refine⟨_,(zf (zE (zo zay (zk C_first_number (hr.mono (by decide)) rfl (za (pv 0) zc)) (zk C_first_number (hr.mono (by decide)) rfl (za (pv 1) zc)) (zt _)) (ze (zm (zbl zdM (zk C_first_number (hr.mono (by decide)) rfl (za (pv 0) zc)) (zk C_first_number (hr.mono (by decide)) rfl (za (pv 1) zc)) (zt _)))) zy)
   (zf (zD (i:=2) zew.nd rfl (Or.inl rfl) (zk C_unlike_at (hr.mono (by decide)) rfl (za (pv 0) (za (pv 1) zc))))
   (zf (zE (zo ziZ (pv 2) zcA (zt _)) (ze (zm wZ)) zy)
   (zf (zE (zo zay (zk C_granted (hr.mono (by decide)) rfl (za (pv 0) (za (pv 2) zc))) (zk C_granted (hr.mono (by decide)) rfl (za (pv 1) (za (pv 2) zc))) (zt _)) (ze (zm (zbl zix (zk C_granted (hr.mono (by decide)) rfl (za (pv 0) (za (pv 2) zc))) (zk C_granted (hr.mono (by decide)) rfl (za (pv 1) (za (pv 2) zc))) (zt _)))) zy)
   (ze (zm (zbl zdM (zk C_granted_sum (hr.mono (by decide)) rfl (za (pv 0) (za (pv 2) zc))) (zk C_granted_sum (hr.mono (by decide)) rfl (za (pv 1) (za (pv 2) zc))) (zt _)))))))),?_⟩
  have hne:ms ≠ []:=by intro z;rw[z] at h1;simp at h1
  have hne2:us ≠ []:=by intro z;rw[z] at hl;have:ms.length=0:=hl;omega
  refine⟨_,rfl,a,ms,rfl,hA,hne,hz,hm,fun H1 f s1 hf=>?_⟩
  refine⟨_,rfl,b,us,rfl,s1.seq hB,hne2,by omega,hu,fun H2 g s2 hg=>?_⟩
  have fr:=M3.zce hf 1 24 hm
  have gr:=M3.zce hg 1 24 hu
  have t2:=s1.trans s2
  refine⟨rfl,_,rfl,yD (fun hfg=>?_) (fun hfg=>?_)⟩
  ·refine⟨_,rfl,a,ms,rfl,t2.seq hA,hne,hz,hm,fun H3 f' s3 hf'=>?_⟩
   have t3:=t2.trans s3
   refine⟨_,rfl,b,us,rfl,t3.seq hB,hne2,by omega,hu,fun H4 g' s4 hg'=>?_⟩
   have ef:=M3.zby hf' hf
   have eg:=M3.zby hg' hg
   subst ef eg
   refine⟨_,_,rfl,rfl,?_⟩
   have hfg:f'≠g':=fun z=>hfg (by rw[z])
   have e:decide (f'<g')=M6.yw ms us 24:=by
    by_cases c:f'<g'
    ·rw[decide_eq_true c,M6.ahead_lt hf' hg' c fr.1 fr.2]
    ·rw[decide_eq_false c,M6.ahead_gt hf' hg' (by omega) gr.1 gr.2]
   show Q (.bl (decide (f'<g'))) H4
   rw[e]
   exact q _ (t3.trans s4)
  ·injection hfg with hfg
   subst hfg
   refine⟨_,rfl,_,rfl,a,b,ms,us,f,rfl,t2.seq hA,t2.seq hB,h1,hz,by omega,hm,hu,hf,hg,fun r H3 s3 hr'=>?_⟩
   have t3:=t2.trans s3
   cases r with
   | none =>
     refine⟨_,rfl,rfl,_,rfl,yI (fun _=>?_) (fun z=>absurd rfl z)⟩
     rw[M6.zi3 (M6.zgu hf hg hr')] at q
     exact q _ t3
   | some n =>
     refine⟨_,rfl,rfl,_,rfl,yI (fun z=>nomatch z) (fun _=>?_)⟩
     rw[M6.ahead_at hf hg fr.1 hr'] at q
     refine⟨_,rfl,_,rfl,a,ms,_,rfl,t3.seq hA,by omega,fun H4 s4=>?_⟩
     refine⟨_,rfl,_,rfl,b,us,_,rfl,(t3.trans s4).seq hB,by omega,fun H5 s5=>?_⟩
     have t5:=(t3.trans s4).trans s5
     refine⟨rfl,_,rfl,yD (fun hc=>?_) (fun hc=>?_)⟩
     ·rw[if_neg fun z=>hc (by rw[z])] at q
      refine⟨_,rfl,_,rfl,a,ms,_,rfl,t5.seq hA,by omega,fun H6 s6=>?_⟩
      refine⟨_,rfl,_,rfl,b,us,_,rfl,(t5.trans s6).seq hB,by omega,fun H7 s7=>?_⟩
      exact⟨_,_,rfl,rfl,q _ ((t5.trans s6).trans s7)⟩
     ·injection hc with hc
      rw[if_pos hc] at q
      refine⟨_,rfl,_,rfl,a,ms,_,rfl,t5.seq hA,by omega,fun H6 s6=>?_⟩
      refine⟨_,rfl,_,rfl,b,us,_,rfl,(t5.trans s6).seq hB,by omega,fun H7 s7=>?_⟩
      exact⟨_,_,rfl,rfl,q _ ((t5.trans s6).trans s7)⟩
end
def zb0(K:PySem.W.Frag):Sp:=fun vs H Q _=>∃(a b:Addr) (ms us:List Int),vs = [.ref a,.ref b]∧SqL K H a (ms.map V.int)∧SqL K H b (us.map V.int)∧ms.length=us.length∧1≤ms.length∧ms.length≤60∧(∀x∈ms,1≤x∧x≤24)∧(∀x∈us,1≤x∧x≤24)∧∀r,M6.wt ms us 24 r→∀(x:V) (H':Hp),zi H H'→Told K H' x r→Q x H'
section
variable {P:Program} {w:World} {K:PySem.W.Frag} {mg:Str→Option Value} {base:Heap}
theorem zfY{f:Addr}{fd:FuncData}(F:Fun K "parting_of" "parting_of" wN f fd)(T:Txt K mg)(C_granted:Can P w K mg base 2 "granted" ["marks","number"] (zaM K))(C_first_number:Can P w K mg base 2 "first_number" ["marks"] (wg K))(C_unlike_at:Can P w K mg base 3 "unlike_at" ["one","other"] (zbj K)):FnOk P w K mg base CX0 4 f fd ["one","other"] (zb0 K):=by
 refine F.ok zdn (fun vs H Q E h=>?_) (fun cdv A outer s H vs Q E hr h=>?_)
 ·obtain⟨a,b,ms,us,rfl,_⟩:=h
  rfl
 ·obtain⟨a,b,ms,us,rfl,hA,hB,hl,h1,hz,hm,hu,q⟩:=h
  refine⟨_,(zf (zE (zo zay (zk C_first_number (hr.mono (by decide)) rfl (za (pv 0) zc)) (zk C_first_number (hr.mono (by decide)) rfl (za (pv 1) zc)) (zt _)) (ze (zm (zek (za (zr (call_min2 rfl) (by rfl) T.b_min PyProof.Rows.boot_min (za (zk C_first_number (hr.mono (by decide)) rfl (za (pv 0) zc)) (za (zk C_first_number (hr.mono (by decide)) rfl (za (pv 1) zc)) zc))) (za zF zc))))) zy)
   (zf (zD (i:=2) zdn.nd rfl (Or.inl rfl) (zk C_unlike_at (hr.mono (by decide)) rfl (za (pv 0) (za (pv 1) zc))))
   (zf (zE (zo ziZ (pv 2) zcA (zt _)) (ze (zm zcA)) zy)
   (zf (zE (zo zay (zk C_granted (hr.mono (by decide)) rfl (za (pv 0) (za (pv 2) zc))) (zk C_granted (hr.mono (by decide)) rfl (za (pv 1) (za (pv 2) zc))) (zt _)) (ze (zm (zek (za (pv 2) (za zF zc))))) zy)
   (ze (zm (zek (za (pv 2) (za zF zc))))))))),?_⟩
  have hne:ms ≠ []:=by intro z;rw[z] at h1;simp at h1
  have hne2:us ≠ []:=by intro z;rw[z] at hl;have:ms.length=0:=hl;omega
  refine⟨_,rfl,a,ms,rfl,hA,hne,hz,hm,fun H1 f s1 hf=>?_⟩
  refine⟨_,rfl,b,us,rfl,s1.seq hB,hne2,by omega,hu,fun H2 g s2 hg=>?_⟩
  have fr:=M3.zce hf 1 24 hm
  have gr:=M3.zce hg 1 24 hu
  have t2:=s1.trans s2
  refine⟨rfl,_,rfl,yD (fun hfg=>?_) (fun hfg=>?_)⟩
  ·refine⟨_,rfl,a,ms,rfl,t2.seq hA,hne,hz,hm,fun H3 f' s3 hf'=>?_⟩
   have t3:=t2.trans s3
   refine⟨_,rfl,b,us,rfl,t3.seq hB,hne2,by omega,hu,fun H4 g' s4 hg'=>?_⟩
   have ef:=M3.zby hf' hf
   have eg:=M3.zby hg' hg
   subst ef eg
   refine⟨_,_,rfl,(by show 2≤sizeLine;decide),fun t ht=>?_⟩
   have hfg:f'≠g':=fun z=>hfg (by rw[z])
   by_cases c:g'<f'
   ·rw[if_pos c]
    refine q (some (g'.toNat,"half")) (M6.zjv hf' hg' c gr.1 gr.2) _ _ ((t3.trans s4).newT ht) ⟨t,rfl,?_⟩
    have e:((g'.toNat:Nat):Int)=g':=by omega
    dsimp only
    rw[e]
    exact SqT.new
   ·rw[if_neg c]
    refine q (some (f'.toNat,"half")) (M6.zhg hf' hg' (by omega) fr.1 fr.2) _ _ ((t3.trans s4).newT ht) ⟨t,rfl,?_⟩
    have e:((f'.toNat:Nat):Int)=f':=by omega
    dsimp only
    rw[e]
    exact SqT.new
  ·injection hfg with hfg
   subst hfg
   refine⟨_,rfl,_,rfl,a,b,ms,us,f,rfl,t2.seq hA,t2.seq hB,h1,hz,by omega,hm,hu,hf,hg,fun r H3 s3 hr'=>?_⟩
   have t3:=t2.trans s3
   cases r with
   | none =>
     refine⟨_,rfl,rfl,_,rfl,yI (fun _=>?_) (fun z=>absurd rfl z)⟩
     exact q none (M6.zgu hf hg hr') _ _ t3 rfl
   | some n =>
     refine⟨_,rfl,rfl,_,rfl,yI (fun z=>nomatch z) (fun _=>?_)⟩
     have hp:=M6.zgK hf hg fr.1 hr'
     have e:((n.toNat:Nat):Int)=n:=by have:=hr'.1;omega
     refine⟨_,rfl,_,rfl,a,ms,_,rfl,t3.seq hA,by omega,fun H4 s4=>?_⟩
     refine⟨_,rfl,_,rfl,b,us,_,rfl,(t3.trans s4).seq hB,by omega,fun H5 s5=>?_⟩
     have t5:=(t3.trans s4).trans s5
     refine⟨rfl,_,rfl,yD (fun hc=>?_) (fun hc=>?_)⟩
     ·rw[if_neg fun z=>hc (by rw[z])] at hp
      refine⟨_,rfl,(by show 2≤sizeLine;decide),fun t ht=>?_⟩
      refine q _ hp _ _ (t5.newT ht) ⟨t,rfl,?_⟩
      dsimp only
      rw[e]
      exact SqT.new
     ·injection hc with hc
      rw[if_pos hc] at hp
      refine⟨_,rfl,(by show 2≤sizeLine;decide),fun t ht=>?_⟩
      refine q _ hp _ _ (t5.newT ht) ⟨t,rfl,?_⟩
      dsimp only
      rw[e]
      exact SqT.new
end
def zbM(K:PySem.W.Frag):Sp:=fun vs H Q _=>∃(x:Addr) (F:Addr→Prop) (S:Sh) (p c:Int),vs = [.ref x,.int p,.int c]∧zB K H x F S∧c∈S.couples∧p.natAbs≤990∧∀H',zi H H'→Q (.str (M6.rowT p c (M5.zA S.cardsIn c) S.couples.length)) H'
section
variable {P:Program} {w:World} {K:PySem.W.Frag} {mg:Str→Option Value} {base:Heap}
theorem zhG{f:Addr}{fd:FuncData}(F:Fun K "row_text" "row_text" wG f fd)(T:Txt K mg)(C_marks_of:Can P w K mg base 2 "marks_of" ["cards","couple"] (za1 K))(C_ladder_of:Can P w K mg base 3 "ladder_of" ["marks","last"] (zcl K))(C_Sheet_couples:CanM P w K mg base 1 (zH K "Sheet") "couples" ["self"] (zJ K))(C_Sheet_cards:CanM P w K mg base 3 (zH K "Sheet") "cards" ["self"] (yl K)):FnOk P w K mg base CX0 4 f fd ["sheet","place","couple"] (zbM K):=by
 refine F.ok zaV (fun vs H Q E h=>?_) (fun cdv A outer s H vs Q E hr h=>?_)
 ·obtain⟨x,F,S,p,c,rfl,_⟩:=h
  rfl
 ·obtain⟨x,F,S,p,c,rfl,hSh,hc,hp,q⟩:=h
  refine⟨_,(zf (zD (i:=3) zaV.nd rfl (Or.inl rfl) (zk C_marks_of (hr.mono (by decide)) rfl (za (zK C_Sheet_cards T.cl_Sheet (hr.mono (by decide)) (pv 0)) (za (pv 2) zc))))
   (zf (zD (i:=4) zaV.nd rfl (Or.inl rfl) (zk C_ladder_of (hr.mono (by decide)) rfl (za (pv 3) (za (zr zp (by rfl) T.b_len PySem.boot_len (za (zK C_Sheet_couples T.cl_Sheet (hr.mono (by decide)) (pv 0)) zc)) zc))))
   (zf (zD (i:=5) zaV.nd rfl (Or.inl rfl) (yi (za (zP zfj (by rfl) T.b_str PyProof.Rows.boot_str (za (pv 1) zc)) (za (zP zfj (by rfl) T.b_str PyProof.Rows.boot_str (za (pv 2) zc)) zc))))
   (zf (zez (i:=6) (show CompScope2 (zd wG) ["sheet","place","couple","marks","ladder","head","steps"] "many" "total" [] [] _ from⟨rfl,by decide +kernel,by decide +kernel,rfl,rfl,by decide +kernel,rfl,by decide +kernel,by decide +kernel⟩) rfl zaV.nd rfl (Or.inl rfl) (zO (pv 4)) (fun _ _ _ _ _=>wd) (fun _ _ _ _ _=>(zjy (zdd (ziC (pv 0)) (zdd zF (zdd (ziC (pv 1)) pj_nil))))))
   (ze (zm (zc2 PySem.F.plainAttrs_str PySem.F.slot_str_join PySem.F.type_str_join ms_join zF (za (zz zax (zz zax (zz zax (zz zax (pv 5) (yi (za zF zc))) (yf (show CompScope (zd wG) ["sheet","place","couple","marks","ladder","head","steps"] "mark" [] [] _ from⟨rfl,by decide +kernel,by decide +kernel,rfl,by decide +kernel,rfl,by decide +kernel,by decide +kernel⟩) rfl (zO (pv 3)) (fun _ _ _ _ _=>wd) (fun _ _ _ _ _=>(zP zfj (by rfl) T.b_str PyProof.Rows.boot_str (za (pv 0) zc))))) (yi (za zF zc))) (pv 6)) zc)))))))),?_⟩
  have hln:=zC
  have ok:=hSh.ok
  have h15:S.handed.length≤15:=Nat.le_trans (List.length_filter_le _ _) ok.p15
  have hil:=Sh.cardsIn_len S
  have hip:=Sh.cardsIn_perm ok
  have c24:=ok.c24
  have hcr:=ok.rng c hc
  obtain⟨dx,b1,b2,b3,d,hi⟩:=hSh.ins
  refine⟨_,rfl,x,dx,_,rfl,hi,rfl,x,F,S,rfl,hSh,fun l1 H1 ks s1 f1 e1 r1=>?_⟩
  refine⟨_,rfl,l1,S.cardsIn,c,rfl,⟨ks,SqL.of e1,r1.imp fun _ _ z=>SqL.of z.2⟩,by omega,fun d hd=>(hip d hd).mem_iff.mpr hc,fun l2 H2 s2 f2 e2=>?_⟩
  have hx:∀y∈M5.zA S.cardsIn c,1≤y∧y≤24:=fun y hy=>by have:=M6.wE hip hc y hy;omega
  have hml:=M5.wA S.cardsIn c
  generalize M5.zA S.cardsIn c=ms at e2 hml hx q
  have t2:=s1.trans s2
  refine⟨_,rfl,_,rfl,x,dx,_,rfl,t2 _ _ hi,rfl,x,F,S,rfl,hSh.same t2,fun l3 H3 s3 f3 e3=>?_⟩
  refine⟨l3,_,rfl,.inl (SqL.of e3),?_⟩
  rw[List.length_map]
  refine⟨l2,ms,_,rfl,SqL.of (s3 _ _ e2),by omega,by omega,by omega,fun l4 H4 ls s4 f4 e4 r4=>?_⟩
  rw[show((S.couples.length:Nat):Int).toNat=S.couples.length by omega] at r4
  have t4:=(t2.trans s3).trans s4
  refine⟨_,rfl,.inl ⟨_,rfl,zfK (by omega),_,rfl,.inl ⟨_,rfl,zfK (by omega),(by show 2≤sizeLine;decide),fun l5 hl5=>?_⟩⟩⟩
  have s5:=zi.new (o:=.lst ([tN p,tN c].map V.str)) hl5
  have e5:upd H4 l5 (.lst ([tN p,tN c].map V.str)) l5=some (.lst ([tN p,tN c].map V.str)):=zg
  change zi H4 (upd H4 l5 (.lst [.str (Str.ofString (toString p)),.str (Str.ofString (toString c))]))at s5
  change upd H4 l5 (.lst [.str (Str.ofString (toString p)),.str (Str.ofString (toString c))]) l5=_ at e5
  generalize hH5:upd H4 l5 _=H5 at s5 e5 ⊢
  have e45:=s5 _ _ e4
  have r45:=r4.imp fun _ _=>TPl.stays K _ _ _ _ s5
  refine⟨_,rfl,l4,rfl,⟨_,SqL.of e45⟩,?_⟩
  refine zfl (f:=M6.zhZ) (SqL.of e45) r45 (by rw[M6.zdz];omega) (fun pr H' R hpr s' h=>?_) fun H6 s6=>?_
  ·obtain⟨k,hk,rfl⟩:=List.mem_map.mp hpr
   have hcn:=M3.zec ms ((k:Int)+1)
   have hsm:=M6.zhY hx ((k:Int)+1)
   have hsl:=M6.zgn (by omega) hx ((k:Int)+1)
   dsimp only at h ⊢
   refine⟨_,rfl,.inl ⟨_,rfl,zfK (by omega),_,rfl,?_,_,rfl,?_,_,rfl,.inl ⟨_,rfl,zfK (by omega),_,rfl,?_,?_,?_⟩⟩⟩
   all_goals unfold tN at hsl
   all_goals have l0:Str.empty.length=0:=rfl
   all_goals have l1:(Str.ofString "/").length=1:=M6.sl_len
   ·rw[yb];omega
   ·rw[yb,yb];omega
   ·rw[yb,yb,yb];omega
   ·rw[yb,yb,yb];omega
   ·rw[M6.emp_app]
    exact h H' (zi.refl _)
  intro l6 hl6
  have s7:=(s5.trans s6).newT (o:=.lst ((M6.zeF ms S.couples.length).map V.str)) hl6
  have e7:upd H6 l6 (.lst ((M6.zeF ms S.couples.length).map V.str)) l6=some (.lst ((M6.zeF ms S.couples.length).map V.str)):=zg
  have e57:=(s6.newT (o:=.lst ((M6.zeF ms S.couples.length).map V.str)) hl6) _ _ e5
  change zi H4 (upd H6 l6 (.lst (((M6.zbb ms S.couples.length).map M6.zhZ).map V.str)))at s7
  change upd H6 l6 (.lst (((M6.zbb ms S.couples.length).map M6.zhZ).map V.str)) l6=_ at e7
  change upd H6 l6 (.lst (((M6.zbb ms S.couples.length).map M6.zhZ).map V.str)) l5=_ at e57
  generalize hH7:upd H6 l6 _=H7 at s7 e7 e57 ⊢
  have m7:H7 l2=some (.lst (ms.map V.int)):=s7 _ _ (s4 _ _ (s3 _ _ e2))
  refine⟨rfl,_,rfl,(by show 1≤sizeLine;decide),fun l7 hl7=>?_⟩
  have s8:=zi.new (o:=.lst [.str M6.bar]) hl7
  change zi H7 (upd H7 l7 (.lst [.str (Str.ofString "|")]))at s8
  refine⟨l5,l7,_,[.str M6.bar],rfl,rfl,s8 _ _ e57,zg,(by show 3≤sizeLine;decide),fun l8 hl8=>?_⟩
  have s9:=s8.newT (o:=.lst (([tN p,tN c] ++ [M6.bar]).map V.str)) hl8
  have e9:upd (upd H7 l7 (.lst [.str (Str.ofString "|")])) l8 (.lst (([tN p,tN c] ++ [M6.bar]).map V.str)) l8=some (.lst (([tN p,tN c] ++ [M6.bar]).map V.str)):=zg
  change zi H7 (upd (upd H7 l7 (.lst [.str (Str.ofString "|")])) l8 (.lst ([tN p,tN c].map V.str ++ [.str M6.bar])))at s9
  change upd (upd H7 l7 (.lst [.str (Str.ofString "|")])) l8 (.lst ([tN p,tN c].map V.str ++ [.str M6.bar])) l8=_ at e9
  generalize hH9:upd (upd H7 l7 _) l8 _=H9 at s9 e9 ⊢
  have m9:=s9 _ _ m7
  refine⟨_,rfl,l2,rfl,⟨_,SqL.of m9⟩,?_⟩
  refine comp_strN (f:=tN) (SqL.of m9) (by omega) (fun y H' R hy s' h=>⟨_,rfl,.inl ⟨_,rfl,zfK (by have:=hx y hy;omega),h H' (zi.refl _)⟩⟩) fun H10 s10=>?_
  intro l9 hl9
  have s11:=s10.newT (o:=.lst ((ms.map tN).map V.str)) hl9
  refine⟨l8,l9,_,_,rfl,rfl,s11 _ _ e9,zg,by rw[List.length_map,List.length_map,List.length_map];simp only[List.length_append,List.length_cons,List.length_nil];omega,fun l10 hl10=>?_⟩
  rw[← List.map_append]
  have s12:=s11.newT (o:=.lst (([tN p,tN c] ++ [M6.bar]++ms.map tN).map V.str)) hl10
  have e12:upd (upd H10 l9 (.lst ((ms.map tN).map V.str))) l10 (.lst (([tN p,tN c] ++ [M6.bar]++ms.map tN).map V.str)) l10=some (.lst (([tN p,tN c] ++ [M6.bar]++ms.map tN).map V.str)):=zg
  generalize hH12:upd (upd H10 l9 _) l10 _=H12 at s12 e12 ⊢
  refine⟨(by show 1≤sizeLine;decide),fun l11 hl11=>?_⟩
  have s13:=zi.new (o:=.lst [.str M6.bar]) hl11
  change zi H12 (upd H12 l11 (.lst [.str (Str.ofString "|")]))at s13
  refine⟨l10,l11,_,[.str M6.bar],rfl,rfl,s13 _ _ e12,zg,by rw[List.length_map];simp only[List.length_append,List.length_map,List.length_cons,List.length_nil];omega,fun l12 hl12=>?_⟩
  rw[show([tN p,tN c] ++ [M6.bar]++ms.map tN).map V.str ++ [V.str M6.bar]=([tN p,tN c] ++ [M6.bar]++ms.map tN ++ [M6.bar]).map V.str by rw[List.map_append (l₂ := [M6.bar])];rfl]
  have s14:=s13.newT (o:=.lst (([tN p,tN c] ++ [M6.bar]++ms.map tN ++ [M6.bar]).map V.str)) hl12
  have e14:upd (upd H12 l11 (.lst [.str (Str.ofString "|")])) l12 (.lst (([tN p,tN c] ++ [M6.bar]++ms.map tN ++ [M6.bar]).map V.str)) l12=some (.lst (([tN p,tN c] ++ [M6.bar]++ms.map tN ++ [M6.bar]).map V.str)):=zg
  generalize hH14:upd (upd H12 l11 _) l12 _=H14 at s14 e14 ⊢
  have hlw:=M6.ladW_len ms S.couples.length
  refine⟨_,rfl,l12,l6,_,_,rfl,rfl,e14,s14 _ _ (s12 _ _ (s9 _ _ e7)),by simp only[List.length_append,List.length_map,List.length_cons,List.length_nil];omega,fun l13 hl13=>?_⟩
  rw[← List.map_append]
  refine⟨_,l13,M6.rowW p c ms S.couples.length,rfl,rfl,SqL.new,by decide +kernel,?_,M6.zi2 (by omega) hx hp (by omega) _,?_⟩
  ·unfold M6.rowW
   simp only[List.length_append,List.length_map,List.length_cons,List.length_nil]
   omega
  ·exact q _ ((((((t4.trans s7).trans s9).trans s12).trans s14)).newT hl13)
end
def zbT(K:PySem.W.Frag):Sp:=fun vs H Q _=>∃(p:Addr) (F:Addr→Prop) (S:Sh) (a1 a2 a3 a4:Addr),vs = [.ref p,.ref a1,.ref a2,.ref a3,.ref a4,.int S.taken,.bl S.shut]∧zB K H p F S∧SqL K H a1 (S.panel.map V.str)∧SqL K H a2 (S.couples.map V.int)∧SqL K H a3 (S.struck.map V.int)∧zdg K (IL K) H a4 S.rows∧∀H',zi H H'→Q (.bl true) H'
section
variable {P:Program} {w:World} {K:PySem.W.Frag} {mg:Str→Option Value} {base:Heap}
theorem zgc{f:Addr}{fd:FuncData}(F:Fun K "_law_stands" "_law_stands" yt f fd)(T:Txt K mg)(C_law_whole:Can P w K mg base 1 "_law_whole" ["_law_found"] (zbf K))(C_law_same:Can P w K mg base 2 "_law_same" ["_law_found","_law_due_here"] (zbO K))(C_law_texts:Can P w K mg base 1 "_law_texts" ["_law_found","_law_due_here"] (zcu K))(C_law_lists:Can P w K mg base 3 "_law_lists" ["_law_found","_law_due_here"] (zci K))(C_Sheet_couples:CanM P w K mg base 1 (zH K "Sheet") "couples" ["self"] (zJ K))(C_Sheet_struck:CanM P w K mg base 1 (zH K "Sheet") "struck" ["self"] (zbc K))(C_Sheet_judges:CanM P w K mg base 1 (zH K "Sheet") "judges" ["self"] (zba K))(C_Sheet_handed:CanM P w K mg base 1 (zH K "Sheet") "handed" ["self"] (zX K))(C_Sheet_cards:CanM P w K mg base 3 (zH K "Sheet") "cards" ["self"] (yl K))(C_Sheet_card_of:CanMX P w K mg base 2 (zH K "Sheet") "card_of" ["self","judge"] (ya K))(C_Sheet_taken:CanM P w K mg base 1 (zH K "Sheet") "taken" ["self"] (zbz K))(C_Sheet_is_sealed:CanM P w K mg base 1 (zH K "Sheet") "is_sealed" ["self"] (zag K)):FnOk P w K mg base CX0 4 f fd ["_law_sheet_here","_law_names","_law_couples_here","_law_gone","_law_cards","_law_many_here","_law_shut"] (zbT K):=by
 refine F.ok zad (fun vs H Q E h=>?_) (fun cdv A outer s H vs Q E hr h=>?_)
 ·obtain⟨p,F,S,a1,a2,a3,a4,rfl,_⟩:=h
  rfl
 ·obtain⟨p,F,S,a1,a2,a3,a4,rfl,hSh,hA1,hA2,hA3,⟨ls,hA4,hR⟩,q⟩:=h
  refine⟨_,(zf (zE (PW.pt (zdP (zaa (wf (zk C_law_same (hr.mono (by decide)) rfl (za (zK C_Sheet_couples T.cl_Sheet (hr.mono (by decide)) (pv 0)) (za (pv 2) zc))))) (zc0 (zaa (wf (zk C_law_same (hr.mono (by decide)) rfl (za (zK C_Sheet_struck T.cl_Sheet (hr.mono (by decide)) (pv 0)) (za (pv 3) zc)))))))) (ze (zm wZ)) zy)
   (zf (zdw (i:=7) (show CompScope (zd yt) ["_law_sheet_here","_law_names","_law_couples_here","_law_gone","_law_cards","_law_many_here","_law_shut","_law_into","_law_k","_law_count","_law_sealed"] "_law_k" ["_law_cards"] [4] _ from⟨rfl,by decide +kernel,by decide +kernel,rfl,by decide +kernel,rfl,by decide +kernel,by decide +kernel⟩) rfl zad.nd rfl (Or.inl rfl) (wl rfl T.b_range (za (zr zp (by rfl) T.b_len PySem.boot_len (za (pv 1) zc)) zc)) (fun _ _ _ _ _=>(zbx (zo (zbN (K:=K) rfl hr.units0) (yd (zb5 (K:=K) rfl) (pv 1) (pv 0) (fun _ _=>rfl)) (yi zc) (zt _)))) (fun _ _ _ _ _=>(pv 0)))
   (zf (zE (PW.pt (zdP (zaa (wf (zk C_law_texts (hr.mono (by decide)) rfl (za (zK C_Sheet_judges T.cl_Sheet (hr.mono (by decide)) (pv 0)) (za (pv 1) zc))))) (zc0 (zaa (wf (zk C_law_texts (hr.mono (by decide)) rfl (za (zK C_Sheet_handed T.cl_Sheet (hr.mono (by decide)) (pv 0)) (za (yf (show CompScope (zd yt) ["_law_sheet_here","_law_names","_law_couples_here","_law_gone","_law_cards","_law_many_here","_law_shut","_law_into","_law_k","_law_count","_law_sealed"] "_law_k" ["_law_names"] [1] _ from⟨rfl,by decide +kernel,by decide +kernel,rfl,by decide +kernel,rfl,by decide +kernel,by decide +kernel⟩) rfl (zO (pv 7)) (fun _ _ _ _ _=>wd) (fun _ _ _ _ _=>(yd (zb5 (K:=K) rfl) (pv 1) (pv 0) (fun _ _=>rfl)))) zc)))))))) (ze (zm wZ)) zy)
   (zf (zE (zaa (wf (zk C_law_lists (hr.mono (by decide)) rfl (za (zK C_Sheet_cards T.cl_Sheet (hr.mono (by decide)) (pv 0)) (za (yf (show CompScope (zd yt) ["_law_sheet_here","_law_names","_law_couples_here","_law_gone","_law_cards","_law_many_here","_law_shut","_law_into","_law_k","_law_count","_law_sealed"] "_law_k" ["_law_cards"] [4] _ from⟨rfl,by decide +kernel,by decide +kernel,rfl,by decide +kernel,rfl,by decide +kernel,by decide +kernel⟩) rfl (zO (pv 7)) (fun _ _ _ _ _=>wd) (fun _ _ _ _ _=>(yd (zb5 (K:=K) rfl) (pv 1) (pv 0) (fun _ _=>rfl)))) zc))))) (ze (zm wZ)) zy)
   (zf (zah PassesOwn.never rfl (zO (pv 7)) (yu (i:=8) zad.nd rfl (Or.inl rfl))
     (ze (zE (zaa (wf (zk C_law_same (hr.mono (by decide)) rfl (za (wI C_Sheet_card_of T.cl_Sheet zeB (hr.mono (by decide)) (pv 0) (za (yd zN (pv 1) (pv 8) (fun _ _=>rfl)) zc)) (za (yd zN (pv 4) (pv 8) (fun _ _=>rfl)) zc))))) (ze (zm wZ)) zy)))
   (zf (zD (i:=9) zad.nd rfl (Or.inl rfl) (zK C_Sheet_taken T.cl_Sheet (hr.mono (by decide)) (pv 0)))
   (zf (zD (i:=10) zad.nd rfl (Or.inl rfl) (zK C_Sheet_is_sealed T.cl_Sheet (hr.mono (by decide)) (pv 0)))
   (ze (zm (zcy (zk C_law_whole (hr.mono (by decide)) rfl (za (pv 9) zc)) (zcy (zbl yk (pv 9) (pv 5) (zt _)) (zcy (zr zdp (by rfl) T.b_isinstance PyProof.Rows.boot_isinstance (za (pv 10) (za (zcw (v:=V.ty "bool") rfl T.b_bool PyProof.Rows.boot_bool rfl) zc))) (zfB (zbl yk (pv 10) (pv 6) (zt _))))))))))))))),?_⟩
  have hln:=zC
  have ok:=hSh.ok
  have c24:=ok.c24
  have p15:=ok.p15
  obtain⟨dx,b1,b2,b3,d,hip⟩:=hSh.ins
  have hrl:=S.rows_len
  have hll:=hR.length
  refine⟨_,rfl,p,dx,_,rfl,hip,rfl,p,F,S,rfl,hSh,fun l1 H1 s1 f1 e1=>?_⟩
  refine⟨_,rfl,l1,a2,S.couples,S.couples,rfl,SqL.of e1,s1.seq hA2,by omega,?_⟩
  rw[decide_eq_true rfl]
  refine⟨_,rfl,zbg ?_⟩
  refine⟨_,rfl,p,dx,_,rfl,s1 _ _ hip,rfl,p,F,S,rfl,hSh.same s1,fun l2 H2 s2 f2 e2=>?_⟩
  have t2:=s1.trans s2
  refine⟨_,rfl,l2,a3,S.struck,S.struck,rfl,SqL.of e2,t2.seq hA3,by omega,?_⟩
  rw[decide_eq_true rfl]
  refine⟨_,rfl,zbg ?_⟩
  refine⟨_,rfl,a1,_,rfl,.inl (t2.seq hA1),_,rfl,by omega,by rw[List.length_map];omega,?_⟩
  rw[List.length_map,show((S.panel.length:Nat):Int).toNat=S.panel.length by omega]
  refine zfn (fun i ys H3=>zi H2 H3∧ys=(((List.range i).filter fun k => !decide (S.rows.getD k [] = [])).map fun(k:Nat)=>(k:Int)).map V.int) ⟨zi.refl _,rfl⟩ ?_ (by omega) ?_ ?_
  ·rintro i ys H3 hi ⟨s3,rfl⟩
   rw[List.length_map,List.length_map]
   exact Nat.le_trans (List.length_filter_le _ _) (by rw[List.length_range];exact Nat.le_refl _)
  ·rintro i ys H3 hi ⟨s3,rfl⟩
   have t3:=t2.trans s3
   obtain⟨m,em,rm⟩:=hR.at (i:=i) (by omega) []
   refine⟨_,rfl,_,rfl,a4,_,_,_,rfl,rfl,t3.seq hA4,zdA (by omega) (by rw[show((0:Int)+(i:Int)).toNat=i by omega];exact zbQ em),(by show 0≤sizeLine;decide),fun l3 hl3=>?_⟩
   refine⟨m,l3,_,[],rfl,rfl,(t3.newT hl3).seq rm,SqL.new,zW _,rfl,_,rfl,?_⟩
   rw[show eqL ((S.rows.getD i []).map V.int) []=decide (S.rows.getD i [] = [])from za3 _ []]
   refine yD (fun hb=>?_) (fun hb=>?_)
   ·refine⟨_,rfl,s3.newT hl3,?_⟩
    rw[ze9,if_neg hb,List.map_append,show(0:Int)+(i:Int)=(i:Int)by omega]
    rfl
   ·refine⟨s3.newT hl3,?_⟩
    rw[ze9,if_pos hb,List.append_nil]
  ·rintro ys H3 ⟨s3,rfl⟩ l3 hl3
   rw[show(((List.range S.panel.length).filter fun k => !decide (S.rows.getD k [] = [])).map fun(k:Nat)=>(k:Int))=zdm S.rows by unfold zdm;rw[hrl]]
   have hin:=@zee S.rows
   have hil:=intoK_len S.rows
   have n1:=Sh.into_names ok
   have n2:=Sh.into_cards ok
   have n3:=@Sh.into_one S ok
   generalize zdm S.rows=is at hin hil n1 n2 n3 ⊢
   generalize hH4:upd H3 l3 _=H4
   have s4:zi H2 H4:=by rw[← hH4];exact s3.newT hl3
   have e3:H4 l3=some (.lst (is.map V.int)):=by rw[← hH4];exact zg
   have t4:=t2.trans s4
   refine⟨_,rfl,p,dx,_,rfl,t4 _ _ hip,rfl,p,F,S,rfl,hSh.same t4,fun l5 H5 s5 f5 e5=>?_⟩
   have t5:=t4.trans s5
   refine⟨_,rfl,l5,a1,S.panel,S.panel,rfl,SqL.of e5,t5.seq hA1,by omega,?_⟩
   rw[decide_eq_true rfl]
   refine⟨_,rfl,zbg ?_⟩
   refine⟨_,rfl,p,dx,_,rfl,t5 _ _ hip,rfl,p,F,S,rfl,(hSh.same t5).shape,p15,fun l6 H6 s6 f6 e6=>?_⟩
   have t6:=t5.trans s6
   have i6:=SqL.of (K:=K) (s6 _ _ (s5 _ _ e3))
   refine⟨_,rfl,l3,rfl,⟨_,i6⟩,?_⟩
   refine yr (xs:=is.map V.int) (fun i ys H7=>H7=H6∧ys=((is.take i).map fun x=>S.panel.getD x.toNat "").map V.str) ⟨rfl,rfl⟩ ?_ (by rw[List.length_map];omega) ?_ ?_
   ·rintro i ys H7 hi ⟨rfl,rfl⟩
    refine⟨i6,?_⟩
    rw[List.length_map,List.length_map,List.length_take]
    omega
   ·rintro i x ys H7 hx ⟨rfl,rfl⟩
    obtain⟨hi,rfl⟩:=yy hx
    have hx:=hin (ww hi)
    refine⟨_,rfl,_,rfl,a1,_,_,_,rfl,rfl,t6.seq hA1,zb9 hx.1 (by omega),rfl,?_⟩
    rw[yZ hi,List.map_append,List.map_append]
    rfl
   rintro ys H7 ⟨rfl,rfl⟩ l7 hl7
   rw[List.length_map,List.take_length,n1]
   generalize hH8:upd H7 l7 _=H8
   have s8:zi H7 H8:=by rw[← hH8];exact zi.new hl7
   have e8:H8 l7=some (.lst (S.handed.map V.str)):=by rw[← hH8];exact zg
   have hhl:S.handed.length≤15:=Nat.le_trans (List.length_filter_le _ _) p15
   refine⟨l6,l7,S.handed,S.handed,rfl,SqL.of (s8 _ _ e6),SqL.of e8,by omega,?_⟩
   rw[decide_eq_true rfl]
   refine⟨_,rfl,zbg ?_⟩
   have t8:=t6.trans s8
   refine⟨_,rfl,p,dx,_,rfl,t8 _ _ hip,rfl,p,F,S,rfl,hSh.same t8,fun l9 H9 ks s9 f9 e9 r9=>?_⟩
   have t9:=t8.trans s9
   have i9:=(s8.trans s9).seq i6
   refine⟨_,rfl,l3,rfl,⟨_,i9⟩,?_⟩
   have at9:∀x∈is,∃m,ls[x.toNat]? = some m∧IL K H m (S.rows.getD x.toNat []):=fun x hx=>hR.at (hin hx).2.1 []
   refine yr (xs:=is.map V.int) (fun i ys H10=>H10=H9∧∃ms:List Addr,ys=ms.map V.ref∧All2 (IL K H) ms ((is.take i).map fun x=>S.rows.getD x.toNat [])) ⟨rfl,[],rfl,.nil⟩ ?_ (by rw[List.length_map];omega) ?_ ?_
   ·rintro i ys H10 hi ⟨rfl,ms,rfl,r10⟩
    refine⟨i9,?_⟩
    have:=r10.length
    rw[List.length_map,List.length_take] at this
    rw[List.length_map]
    omega
   ·rintro i x ys H10 hx ⟨rfl,ms,rfl,r10⟩
    obtain⟨hi,rfl⟩:=yy hx
    have hx:=hin (ww hi)
    obtain⟨m,em,rm⟩:=at9 _ (ww hi)
    refine⟨_,rfl,_,rfl,a4,_,_,_,rfl,rfl,t9.seq hA4,zdA hx.1 (zbQ em),rfl,ms ++ [m],by rw[List.map_append];rfl,?_⟩
    rw[yZ hi,List.map_append]
    exact r10.snoc rm
   rintro ys H10 ⟨rfl,ms,rfl,r10⟩ l10 hl10
   rw[List.length_map,List.take_length,n2] at r10
   have s11:=zi.new (o:=.lst (ms.map V.ref)) hl10
   have hcl:S.cardsIn.length≤15:=by unfold Sh.cardsIn;rw[List.length_map];exact hhl
   refine⟨l9,l10,S.cardsIn,rfl,⟨ks,SqL.of (s11 _ _ e9),r9.imp fun _ _ z=>SqL.of (s11 _ _ z.2)⟩,⟨ms,SqL.new,r10.imp fun _ _=>IL.stays K _ _ _ _ (t9.trans s11)⟩,by omega,fun c hc=>?_,?_⟩
   ·unfold Sh.cardsIn at hc
    obtain⟨j,hj,rfl⟩:=List.mem_map.mp hc
    cases e:S.card j with
    | none=>exact Nat.zero_le _
    | some c =>
      have:=(ok.cd j c e).2.length_eq
      show c.length≤1000
      omega
   refine⟨_,rfl,zbg ?_⟩
   generalize hH11:upd H10 l10 _=H11 at s11
   have t11:=t9.trans s11
   have i11:=s11.seq i9
   refine⟨_,rfl,l3,rfl,⟨_,i11⟩,?_⟩
   refine zb8 (xs:=is.map V.int) (fun i σ H12=>∃v,σ = [some (.ref p),some (.ref a1),some (.ref a2),some (.ref a3),some (.ref a4),some (.int S.taken),some (.bl S.shut),some (.ref l3),v,none,none]∧zi H11 H12) ⟨_,rfl,zi.refl _⟩ ?_ ?_ ?_
   ·rintro i σ H12 hi ⟨v,rfl,s12⟩
    exact s12.seq i11
   ·rintro i x σ H12 hx ⟨v,rfl,s12⟩
    obtain⟨hi,rfl⟩:=yy hx
    have hx:=hin (ww hi)
    have hone:=n3 (ww hi)
    obtain⟨m,em,rm⟩:=at9 _ (ww hi)
    have t12:=t11.trans s12
    refine⟨_,rfl,p,dx,_,rfl,t12 _ _ hip,rfl,_,rfl,_,rfl,a1,_,_,_,rfl,rfl,t12.seq hA1,zb9 hx.1 (by omega),p,F,S,_,rfl,hSh.same t12,(fun z=>absurd (ok.cd _ _ hone).1 z),(fun _ z=>by rw[hone] at z;cases z),fun c hc l13 H13 s13 f13 e13=>?_⟩
    rw[hone] at hc
    cases hc
    have t13:=t12.trans s13
    have hcl:(S.rows.getD (is.getD i 0).toNat []).length≤24:=by have:=(ok.cd _ _ hone).2.length_eq;omega
    refine⟨_,rfl,_,rfl,a4,_,_,_,rfl,rfl,t13.seq hA4,zdA hx.1 (zbQ em),l13,m,_,_,rfl,SqL.of e13,t13.seq rm,by omega,?_⟩
    rw[decide_eq_true rfl]
    exact⟨_,rfl,zbg ⟨_,rfl,s12.trans s13⟩⟩
   rintro σ H12 ⟨v,rfl,s12⟩
   have t12:=t11.trans s12
   refine⟨_,rfl,p,dx,_,rfl,t12 _ _ hip,rfl,p,F,S,rfl,hSh.same t12,?_⟩
   refine⟨_,rfl,p,dx,_,rfl,t12 _ _ hip,rfl,p,F,S,rfl,hSh.same t12,?_⟩
   refine⟨_,rfl,.int S.taken,true,false,rfl,rfl,rfl,_,rfl,zf4 ?_⟩
   refine⟨_,rfl,_,rfl,rfl,_,rfl,?_⟩
   rw[decide_eq_true rfl]
   refine zf4 ⟨_,rfl,.bl S.shut,true,rfl,rfl,_,rfl,zf4 ?_⟩
   refine⟨_,rfl,_,rfl,rfl,?_⟩
   rw[decide_eq_true rfl]
   exact q _ t12
end
def zbE(K:PySem.W.Frag):Sp:=fun vs H Q _=>∃(a b:Addr) (rs:List (List Int)) (ms:List Int),vs = [.ref a,.ref b]∧zdg K (IL K) H a rs∧SqL K H b (ms.map V.int)∧(∀r∈rs,r.length=ms.length∧∀x∈r,1≤x∧x≤24)∧(∀x∈ms,1≤x∧x≤24)∧1≤ms.length∧ms.length≤60∧rs.length≤1000∧∀H',zi H H'→Q (.int (1+((rs.filter fun r=>M6.yw r ms 24).length:Int))) H'
section
variable {P:Program} {w:World} {K:PySem.W.Frag} {mg:Str→Option Value} {base:Heap}
theorem zfs{f:Addr}{fd:FuncData}(F:Fun K "place_among" "place_among" yR f fd)(T:Txt K mg)(C_is_ahead:Can P w K mg base 4 "is_ahead" ["one","other"] (zcX K)):FnOk P w K mg base CX0 5 f fd ["rows","own"] (zbE K):=by
 refine F.ok zfR (fun vs H Q E h=>?_) (fun cdv A outer s H vs Q E hr h=>?_)
 ·obtain⟨a,b,rs,ms,rfl,_⟩:=h
  rfl
 ·obtain⟨a,b,rs,ms,rfl,⟨ls,hS,hR⟩,hB,hrs,hm,h1,hz,hzr,q⟩:=h
  refine⟨_,(ze (zm (zz yM zh (zr zp (by rfl) T.b_len PySem.boot_len (za (yf (show CompScope (zd yR) ["rows","own"] "marks" ["own"] [1] _ from⟨rfl,by decide +kernel,by decide +kernel,rfl,by decide +kernel,rfl,by decide +kernel,by decide +kernel⟩) rfl (zO (pv 0)) (fun _ _ _ _ _=>(zbx (wf (zk C_is_ahead (hr.mono (by decide)) rfl (za (pv 0) (za (pv 1) zc)))))) (fun _ _ _ _ _=>(pv 0))) zc))))),?_⟩
  have hlen:=hR.length
  refine⟨_,rfl,a,rfl,⟨_,hS⟩,?_⟩
  refine wX (xs:=ls.map V.ref) (fun i ys H2=>zi H H2∧ys.length=((rs.take i).filter fun r=>M6.yw r ms 24).length) ⟨zi.refl _,rfl⟩ ?_ (by rw[List.length_map];have:=zC;omega) ?_ ?_
  ·rintro i ys H2 hi ⟨s2,e2⟩
   refine⟨s2.seq hS,?_⟩
   rw[e2]
   have:=List.length_filter_le (fun r=>M6.yw r ms 24) (rs.take i)
   rw[List.length_take] at this
   omega
  ·rintro i x ys H2 hx ⟨s2,e2⟩
   obtain⟨l,el,rfl⟩:=zbw hx
   obtain⟨d,ed,rd⟩:=hR.getL el
   have hd:=hrs d (List.mem_of_getElem? ed)
   refine⟨_,rfl,_,rfl,l,b,d,ms,rfl,s2.seq rd,s2.seq hB,hd.1,by omega,by omega,hd.2,hm,fun H3 s3=>⟨_,rfl,zhQ (fun hb=>?_) (fun hb=>?_)⟩⟩
   ·refine⟨_,rfl,s2.trans s3,?_⟩
    rw[List.take_succ,ed,List.filter_append,List.length_append,List.length_append,e2]
    show _=_+(List.filter (fun r=>M6.yw r ms 24) [d]).length
    rw[List.filter_cons,if_pos hb]
    rfl
   ·refine⟨s2.trans s3,?_⟩
    rw[List.take_succ,ed,List.filter_append,List.length_append,e2]
    show _=_+(List.filter (fun r=>M6.yw r ms 24) [d]).length
    rw[List.filter_cons,if_neg (by rw[hb];exact Bool.false_ne_true)]
    rfl
  ·rintro ys H2 ⟨s2,e2⟩ l hl
   rw[List.length_map,hlen,List.take_length] at e2
   refine⟨l,_,rfl,.inl SqL.new,_,_,rfl,rfl,?_⟩
   rw[e2]
   exact q _ (s2.newT hl)
end
def we(K:PySem.W.Frag):Sp:=fun vs H Q _=>∃(a b:Addr) (cs:List (List Int)) (us:List Int),vs = [.ref a,.ref b]∧zdg K (IL K) H a cs∧SqL K H b (us.map V.int)∧us.Nodup∧(∀d∈cs,d.Perm us)∧1≤cs.length∧cs.length≤15∧1≤us.length∧us.length≤24∧∀(l:Addr) (H':Hp),zi H H'→H l=none→H' l=some (.lst ((M6.zU cs us).map V.int))→Q (.ref l) H'
section
variable {P:Program} {w:World} {K:PySem.W.Frag} {mg:Str→Option Value} {base:Heap}
theorem zg8{f:Addr}{fd:FuncData}(F:Fun K "places_of" "places_of" y8 f fd)(T:Txt K mg)(C_marks_of:Can P w K mg base 2 "marks_of" ["cards","couple"] (za1 K))(C_place_among:Can P w K mg base 5 "place_among" ["rows","own"] (zbE K)):FnOk P w K mg base CX0 6 f fd ["cards","couples"] (we K):=by
 refine F.ok zdI (fun vs H Q E h=>?_) (fun cdv A outer s H vs Q E hr h=>?_)
 ·obtain⟨a,b,cs,us,rfl,_⟩:=h
  rfl
 ·obtain⟨a,b,cs,us,rfl,hC,hU,hnd,hp,c1,c2,u1,u2,q⟩:=h
  refine⟨_,(zf (zD (i:=2) zdI.nd rfl (Or.inr rfl) (yf (show CompScope (zd y8) ["cards","couples","rows"] "couple" ["cards"] [0] _ from⟨rfl,by decide +kernel,by decide +kernel,rfl,by decide +kernel,rfl,by decide +kernel,by decide +kernel⟩) rfl (zO (pv 1)) (fun _ _ _ _ _=>wd) (fun _ _ _ _ _=>(zk C_marks_of (hr.mono (by decide)) rfl (za (pv 1) (za (pv 0) zc))))))
   (ze (zm (yf (show CompScope (zd y8) ["cards","couples","rows"] "own" ["rows"] [2] _ from⟨rfl,by decide +kernel,by decide +kernel,rfl,by decide +kernel,rfl,by decide +kernel,by decide +kernel⟩) rfl (zO (pv 2)) (fun _ _ _ _ _=>wd) (fun _ _ _ _ _=>(zk C_place_among (hr.mono (by decide)) rfl (za (pv 1) (za (pv 0) zc)))))))),?_⟩
  have hln:=zC
  refine⟨_,rfl,b,rfl,⟨_,hU⟩,?_⟩
  refine yr (xs:=us.map V.int) (fun i ys H2=>∃ks:List Addr,ys=ks.map V.ref∧zi H H2∧All2 (IL K H2) ks ((us.take i).map (M5.zA cs))) ⟨[],rfl,zi.refl _,.nil⟩ ?_ (by rw[List.length_map];omega) ?_ ?_
  ·rintro i ys H2 hi ⟨ks,rfl,s2,r2⟩
   refine⟨s2.seq hU,?_⟩
   have:=r2.length
   rw[List.length_map,List.length_take] at this
   rw[List.length_map]
   omega
  ·rintro i x ys H2 hx ⟨ks,rfl,s2,r2⟩
   obtain⟨hi,rfl⟩:=yy hx
   refine⟨_,rfl,_,rfl,a,cs,_,rfl,hC.same (IL.stays K) s2,by omega,fun d hd=>(hp d hd).mem_iff.mpr (ww hi),fun l H3 s3 f3 e3=>?_⟩
   refine⟨ks ++ [l],by rw[List.map_append];rfl,s2.trans s3,?_⟩
   rw[yZ hi,List.map_append]
   exact(r2.imp fun _ _=>IL.stays K _ _ _ _ s3).snoc (show IL K _ l _ from SqL.of e3)
  ·rintro ys H2 ⟨ks,rfl,s2,r2⟩ l hl
   rw[List.length_map,List.take_length] at r2
   generalize hH3:upd H2 l _=H3
   have s23:zi H2 H3:=by rw[← hH3];exact zi.new hl
   have e3:H3 l=some (.lst (ks.map V.ref)):=by rw[← hH3];exact zg
   have r3:=r2.imp fun _ _=>IL.stays K _ _ _ _ s23
   have s3:=s2.trans s23
   have hk:=r3.length
   rw[List.length_map] at hk
   refine⟨_,rfl,l,rfl,⟨_,SqL.of e3⟩,?_⟩
   refine yr (xs:=ks.map V.ref) (fun i ys H4=>zi H3 H4∧ys=((us.take i).map fun c=>1+(((us.map (M5.zA cs)).filter fun r=>M6.yw r (M5.zA cs c) 24).length:Int)).map V.int) ⟨zi.refl _,rfl⟩ ?_ (by rw[List.length_map];omega) ?_ ?_
   ·rintro i ys H4 hi ⟨s4,rfl⟩
    refine⟨s4.seq (SqL.of e3),?_⟩
    rw[List.length_map,List.length_map,List.length_take]
    omega
   ·rintro i x ys H4 hx ⟨s4,rfl⟩
    obtain⟨p,ep,rfl⟩:=zbw hx
    obtain⟨m,em,rm⟩:=r3.getL ep
    rw[List.getElem?_map] at em
    cases eu:us[i]? with
    | none=>rw[eu] at em;cases em
    | some c =>
      rw[eu] at em
      cases em
      have hc:=List.mem_of_getElem? eu
      have rng:∀d∈us,(M5.zA cs d).length=cs.length∧∀x∈M5.zA cs d,1≤x∧x≤24:=fun d hd=>⟨M5.wA cs d,fun x hx=>by have:=M6.wE hp hd x hx;omega⟩
      refine⟨_,rfl,_,rfl,l,p,us.map (M5.zA cs),M5.zA cs c,rfl,⟨ks,s4.seq (SqL.of e3),r3.imp fun _ _=>IL.stays K _ _ _ _ s4⟩,s4.seq rm,fun r hr=>?_,(rng c hc).2,by rw[(rng c hc).1];exact c1,by rw[(rng c hc).1];omega,by rw[List.length_map];omega,fun H5 s5=>⟨s4.trans s5,?_⟩⟩
      ·obtain⟨d,hd,rfl⟩:=List.mem_map.mp hr
       exact⟨by rw[(rng d hd).1,(rng c hc).1],(rng d hd).2⟩
      ·rw[List.take_succ,eu,List.map_append,List.map_append]
       rfl
   ·rintro ys H4 ⟨s4,rfl⟩ p hp'
    rw[List.length_map,hk,List.take_length]
    have st:=s3.trans s4
    refine q p _ (st.newT hp') ?_ ?_
    ·cases e:H p with
     | none=>rfl
     | some u=>have:=st p u e;rw[hp'] at this;cases this
    ·rw[M6.places_24 hp u1 u2]
     exact zg
end
def zcz(K:PySem.W.Frag):Sp:=fun vs H Q _=>∃(a b c:Addr) (us:List Int) (ts:List Str) (cs:List (List Int)),vs = [.ref a,.ref b,.ref c]∧SqL K H a (us.map V.int)∧SqL K H b (ts.map V.str)∧zdg K (IL K) H c cs∧M1.zcH us=true∧M2.zdh ts=true∧cs.length=ts.length∧(∀d∈cs,d = []∨d.Perm us) ∧
 ∀(x:Addr) (H':Hp) (F:Addr→Prop) (S:Sh),zB K H' x F S→zcv (fun _=>False) H F H'→S.couples=us→S.struck = []→S.panel=ts→S.rows=cs→S.taken=(cs.filter fun d => !decide (d = [])).length→S.shut=false→Q (.ref x) H'
section
variable {P:Program} {w:World} {K:PySem.W.Frag} {mg:Str→Option Value} {base:Heap}
theorem zgY{f:Addr}{fd:FuncData}(F:Fun K "_law_sheet" "_law_sheet" zan f fd)(T:Txt K mg)(C_Sheet_init:CanK P w K mg base 4 "Sheet" (zH K "Sheet") ["self","couples","judges"] (zb2 K))(C_Sheet_hand_in:CanMX P w K mg base 2 (zH K "Sheet") "hand_in" ["self","judge","card"] (zaF K)):FnOk P w K mg base CX0 6 f fd ["_law_couples_here","_law_names","_law_cards"] (zcz K):=by
 refine F.ok zct (fun vs H Q E h=>?_) (fun cdv A outer s H vs Q E hr h=>?_)
 ·obtain⟨a,b,c,us,ts,cs,rfl,_⟩:=h
  rfl
 ·obtain⟨a,b,c,us,ts,cs,rfl,hA,hB,⟨ls,hC,hR⟩,hgc,hgj,hlen,hds,q⟩:=h
  refine⟨_,(zf (zD (i:=3) zct.nd rfl (Or.inl rfl) (pe_makeX C_Sheet_init zeB (hr.mono (by decide)) rfl (za (zP ye (by rfl) T.b_list PyProof.Rows.boot_list (za (pv 0) zc)) (za (zP ye (by rfl) T.b_list PyProof.Rows.boot_list (za (pv 1) zc)) zc))))
   (zf (zah PassesOwn.never rfl (wl rfl T.b_range (za (zr zp (by rfl) T.b_len PySem.boot_len (za (pv 1) zc)) zc)) (yu (i:=4) zct.nd rfl (Or.inl rfl))
     (ze (zE (zo (zfJ hr.units0) (yd zN (pv 2) (pv 4) (fun _ _=>rfl)) (yi zc) (zt _)) (ze (zM (wI C_Sheet_hand_in T.cl_Sheet zeB (hr.mono (by decide)) (pv 3) (za (yd zN (pv 1) (pv 4) (fun _ _=>rfl)) (za (zP ye (by rfl) T.b_list PyProof.Rows.boot_list (za (yd zN (pv 2) (pv 4) (fun _ _=>rfl)) zc)) zc))))) zy)))
   (ze (zm (pv 3))))),?_⟩
  have hln:=zC
  obtain⟨⟨u1,u24⟩,hun,hur⟩:=(M1.zgD us).mp hgc
  obtain⟨⟨p1,p15⟩,htn,htg⟩:=(M2.zd8 ts).mp hgj
  refine⟨_,rfl,a,_,rfl,.inl hA,fun l3 hl3=>?_⟩
  have s3:=zi.new (o:=.lst (us.map V.int)) hl3
  refine⟨_,rfl,b,_,rfl,.inl (s3.seq hB),fun l4 hl4=>?_⟩
  have s4:=zi.new (o:=.lst (ts.map V.str)) hl4
  intro x dx hx hdx hxd
  have s5:=(zi.new (o:=.own x) hdx).newT (o:=.ins (zH K "Sheet") dx []) (l:=x) (by rw[zj (Ne.symm hxd)];exact hx)
  refine⟨x,dx,l3,l4,us,ts,rfl,zg,SqL.of (s5 _ _ (s4 _ _ zg)),by omega,SqL.of (s5 _ _ zg),by omega,fun z hz=>?_,fun z=>?_,fun _ z=>?_,fun _ _ H5 F hSh hkeep=>⟨rfl,?_⟩⟩
  ·have:=(htg z hz).1;omega
  ·rw[hgc] at z;cases z
  ·rw[hgj] at z;cases z
  have s25:=(s3.trans s4).trans s5
  have hx2:H x=none:=(s3.trans s4).free hx
  have kp:zcv (fun _=>False) H F H5:=fun b o e _=>hkeep b o (s25 _ _ e) (zu e hx2)
  have hB5:=(SqL.none hB).deed kp
  refine⟨_,rfl,b,_,rfl,.inl hB5.sq,_,rfl,by omega,by rw[List.length_map];omega,?_⟩
  rw[List.length_map,show((ts.length:Nat):Int).toNat=ts.length by omega]
  refine zam (fun i σ H6=>∃(v:Option V) (F:Addr→Prop) (S:Sh),σ = [some (.ref a),some (.ref b),some (.ref c),some (.ref x),v]∧zB K H6 x F S∧zcv (fun _=>False) H F H6∧S.couples=us∧S.struck = []∧S.panel=ts∧S.shut=false∧S.taken=((cs.take i).filter fun d => !decide (d = [])).length∧S.rows=cs.take i++(List.range (ts.length - i)).map fun _=>([]:List Int)) ⟨_,F,Sh.new us ts,rfl,hSh,kp,rfl,rfl,rfl,rfl,rfl,?_⟩ ?_ ?_
  ·show ts.map (fun _=>([]:List Int))=_
   rw[List.take_zero,List.nil_append,Nat.sub_zero]
   refine List.ext_getElem (by simp) fun i h1 h2=>?_
   simp
  ·rintro i σ H6 hi ⟨v,F,S,rfl,g1,g2,g3,g4,g5,g6,g7,g8⟩
   obtain⟨m,em,rm⟩:=hR.at (i:=i) (by omega) []
   have hic:i<cs.length:=by omega
   have hC6:=(SqL.none hC).deed g2
   have hB6:=(SqL.none hB).deed g2
   have rm6:=(SqL.none rm).deed g2
   have ei:((0:Int)+(i:Int)).toNat=i:=by omega
   refine⟨_,rfl,_,rfl,c,_,_,_,rfl,rfl,hC6.sq,zdA (by omega) (by rw[ei];exact zbQ em),(by show 0≤sizeLine;decide),fun l7 hl7=>?_⟩
   have s7:=zi.new (o:=.lst []) hl7
   refine⟨m,l7,_,[],rfl,rfl,s7.seq rm6.sq,SqL.new,zW _,rfl,_,rfl,?_⟩
   rw[show eqL ((cs.getD i []).map V.int) []=decide (cs.getD i [] = [])from za3 _ []]
   have htk:cs.take (i+1)=cs.take i ++ [cs.getD i []]:=by
    rw[List.take_succ,List.getElem?_eq_getElem hic,List.getD_eq_getElem?_getD,List.getElem?_eq_getElem hic];rfl
   have hrest:(List.range (ts.length - i)).map (fun _=>([]:List Int)) = []::(List.range (ts.length - (i+1))).map fun _=>([]:List Int):=by
    rw[show ts.length - i=(ts.length - (i+1))+1 by omega,List.range_succ_eq_map,List.map_cons,List.map_map];rfl
   refine yD (fun hb=>?_) (fun hb=>?_)
   ·have hpm:(cs.getD i []).Perm us:=(hds _ (by rw[List.getD_eq_getElem?_getD,List.getElem?_eq_getElem hic];exact List.getElem_mem hic)).resolve_left hb
    have hpl:=hpm.length_eq
    obtain⟨dx',b1,b2,b3,d',hip⟩:=(g1.same s7).ins
    refine⟨_,rfl,x,dx',_,rfl,hip,rfl,_,rfl,_,rfl,b,_,_,_,rfl,rfl,s7.seq hB6.sq,zb9 (by omega) (by omega),_,rfl,_,rfl,c,_,_,_,rfl,rfl,s7.seq hC6.sq,zdA (by omega) (by rw[ei];exact zbQ em),m,_,rfl,.inl (s7.seq rm6.sq),fun l8 hl8=>?_⟩
    have s8:=zi.new (o:=.lst ((cs.getD i []).map V.int)) hl8
    have hjn:ts.getD i "" ∈ S.panel:=by rw[g5];exact zab (by omega)
    have htk2:S.taken<200:=by
     rw[g7]
     have:=List.length_filter_le (fun d => !decide (d = [])) (cs.take i)
     rw[List.length_take] at this
     omega
    have hnr:S.refuse (ts.getD i "") (cs.getD i [])=none:=by
     unfold Sh.refuse
     rw[if_neg (by rw[g6];exact Bool.false_ne_true),if_pos hjn,if_pos (by rw[g3];exact hpm),if_neg (by omega)]
    rw[ei]
    refine⟨x,F,S,_,l8,cs.getD i [],rfl,(g1.same s7).same s8,SqL.new,by omega,(fun e he=>by rw[hnr] at he;cases he),fun _ H9 F' h9 d9=>?_⟩
    refine⟨_,F',S.hand (ts.getD i "") (cs.getD i []),rfl,h9,(g2.trans (zcv.same (s7.trans s8))).trans d9,g3,g4,g5,g6,?_,?_⟩
    ·show S.taken+1=_
     rw[htk,List.filter_append,List.length_append,g7,List.filter_cons,if_pos (by rw[decide_eq_false hb];rfl)]
     rfl
    ·have:=Sh.rows_hand (S:=S) g1.ok.pnd (k:=i) (by rw[g5];omega) (cs.getD i [])
     rw[g5] at this
     rw[this,g8,hrest,htk,List.set_append,if_neg (by rw[List.length_take];omega)]
     rw[show i - (cs.take i).length=0 by rw[List.length_take];omega,List.set_cons_zero,List.append_assoc]
     rfl
   ·refine⟨_,F,S,rfl,g1.same s7,g2.trans (zcv.same s7),g3,g4,g5,g6,?_,?_⟩
    ·rw[htk,List.filter_append,List.length_append,g7,List.filter_cons,if_neg (by rw[decide_eq_true hb];decide)]
     rfl
    ·rw[g8,hrest,htk,hb,List.append_assoc]
     rfl
  ·rintro σ H6 ⟨v,F,S,rfl,g1,g2,g3,g4,g5,g6,g7,g8⟩
   refine⟨_,rfl,q x H6 F S g1 g2 g3 g4 g5 ?_ ?_ g6⟩
   ·rw[g8,Nat.sub_self,← hlen,List.take_length];exact List.append_nil _
   ·rw[g7,← hlen,List.take_length]
end
def zcd(K:PySem.W.Frag):Sp:=fun vs H Q E=>∃(p:Addr) (F:Addr→Prop) (S:Sh),vs = [.ref p]∧zB K H p F S∧(S.handed.length=0→∀C H',zq K "TooFewCards" C→zi H H'→E (.ref C) none H')∧(1≤S.handed.length→∀(l:Addr) (H':Hp),zi H H'→H l=none→H' l=some (.lst ((M6.zU S.cardsIn S.couples).map V.int))→Q (.ref l) H')
section
variable {P:Program} {w:World} {K:PySem.W.Frag} {mg:Str→Option Value} {base:Heap}
theorem ok_places{f:Addr}{fd:FuncData}(F:Fun K "places" "places" zcb f fd)(T:Txt K mg)(C_places_of:Can P w K mg base 6 "places_of" ["cards","couples"] (we K))(C_refuse_fewer_cards:CanX P w K mg base 2 "refuse_fewer_cards" ["sheet","least"] (zL K))(C_Sheet_couples:CanM P w K mg base 1 (zH K "Sheet") "couples" ["self"] (zJ K))(C_Sheet_cards:CanM P w K mg base 3 (zH K "Sheet") "cards" ["self"] (yl K)):FnOk P w K mg base (CX1 P w) 7 f fd ["sheet"] (zcd K):=by
 refine F.okX sc_places (fun vs H Q E h=>?_) (fun X W cdv A outer s H vs Q E hX hW fl md hr h=>?_)
 ·obtain⟨p,F,S,rfl,_⟩:=h
  rfl
 ·obtain⟨p,F,S,rfl,hSh,qE,q⟩:=h
  subst hX
  refine⟨_,(zf (zM (ym C_refuse_fewer_cards fl (hr.mono (by decide)) rfl (za (pv 0) (za zh zc))))
   (ze (zm (zk C_places_of (hr.mono (by decide)) rfl (za (zK C_Sheet_cards T.cl_Sheet (hr.mono (by decide)) (pv 0)) (za (zK C_Sheet_couples T.cl_Sheet (hr.mono (by decide)) (pv 0)) zc)))))),?_⟩
  have ok:=hSh.ok
  have h15:S.handed.length≤15:=Nat.le_trans (List.length_filter_le _ _) ok.p15
  have c24:=ok.c24
  obtain⟨dx,b1,b2,b3,d,hip⟩:=hSh.ins
  refine⟨_,rfl,p,F,S,1,rfl,hSh,(fun h C H1 hC s1=>by rw[hW];exact qE (by omega) C H1 hC s1),fun h0 H1 s1=>?_⟩
  have h1:1≤S.handed.length:=by omega
  refine⟨_,rfl,p,dx,_,rfl,s1 _ _ hip,rfl,p,F,S,rfl,hSh.same s1,fun l2 H2 ls s2 f2 e2 r2=>?_⟩
  have t2:=s1.trans s2
  refine⟨_,rfl,p,dx,_,rfl,t2 _ _ hip,rfl,p,F,S,rfl,hSh.same t2,fun l3 H3 s3 f3 e3=>?_⟩
  have t3:=t2.trans s3
  refine⟨l2,l3,S.cardsIn,S.couples,rfl,⟨ls,SqL.of (s3 _ _ e2),r2.imp fun _ _ z=>SqL.of (s3 _ _ z.2)⟩,SqL.of e3,ok.nd,Sh.cardsIn_perm ok,by rw[Sh.cardsIn_len];exact h1,by rw[Sh.cardsIn_len];exact h15,ok.c1,by omega,fun l4 H4 s4 f4 e4=>?_⟩
  exact q h1 l4 H4 (t3.trans s4) (t3.free f4) e4
end
def zcY(K:PySem.W.Frag):Sp:=fun vs H Q E=>∃(p:Addr) (F:Addr→Prop) (S:Sh) (j:Str),vs = [.ref p,.str j]∧zB K H p F S∧(j∉S.panel→∀C,zq K "UnknownJudge" C→E (.ref C) none H)∧(j∈S.panel→S.card j=none→∀C,zq K "NoCard" C→E (.ref C) none H)∧(j∈S.handed→S.handed.length<2→∀C H',zq K "TooFewCards" C→zi H H'→E (.ref C) none H')∧(j∈S.handed→2≤S.handed.length→∀(l:Addr) (H':Hp),zi H H'→H l=none→H' l=some (.lst ((M6.zU (S.cardsWo j) S.couples).map V.int))→Q (.ref l) H')
section
variable {P:Program} {w:World} {K:PySem.W.Frag} {mg:Str→Option Value} {base:Heap}
theorem zhE{f:Addr}{fd:FuncData}(F:Fun K "left_out" "left_out" zaJ f fd)(T:Txt K mg)(C_places_of:Can P w K mg base 6 "places_of" ["cards","couples"] (we K))(C_refuse_fewer_cards:CanX P w K mg base 2 "refuse_fewer_cards" ["sheet","least"] (zL K))(C_cards_without:Can P w K mg base 3 "cards_without" ["sheet","judge"] (wW K))(C_Sheet_couples:CanM P w K mg base 1 (zH K "Sheet") "couples" ["self"] (zJ K))(C_Sheet_card_of:CanMX P w K mg base 2 (zH K "Sheet") "card_of" ["self","judge"] (ya K)):FnOk P w K mg base (CX1 P w) 7 f fd ["sheet","judge"] (zcY K):=by
 refine F.okX zhN (fun vs H Q E h=>?_) (fun X W cdv A outer s H vs Q E hX hW fl md hr h=>?_)
 ·obtain⟨p,F,S,j,rfl,_⟩:=h
  rfl
 ·obtain⟨p,F,S,j,rfl,hSh,qU,qN,qE,q⟩:=h
  subst hX
  refine⟨_,(zf (zM (wI C_Sheet_card_of T.cl_Sheet fl (hr.mono (by decide)) (pv 0) (za (pv 1) zc)))
   (zf (zM (ym C_refuse_fewer_cards fl (hr.mono (by decide)) rfl (za (pv 0) (za zh zc))))
   (ze (zm (zk C_places_of (hr.mono (by decide)) rfl (za (zk C_cards_without (hr.mono (by decide)) rfl (za (pv 0) (za (pv 1) zc))) (za (zK C_Sheet_couples T.cl_Sheet (hr.mono (by decide)) (pv 0)) zc))))))),?_⟩
  have hln:=zC
  have ok:=hSh.ok
  have h15:=ok.p15
  have c24:=ok.c24
  obtain⟨dx,b1,b2,b3,d,hip⟩:=hSh.ins
  refine⟨_,rfl,p,dx,_,rfl,hip,rfl,_,rfl,p,F,S,j,rfl,hSh,(fun hn C hC=>by rw[hW];exact qU hn C hC),(fun hp hn C hC=>by rw[hW];exact qN hp hn C hC),fun c e l1 H1 s1 f1 e1=>?_⟩
  have hj:j∈S.handed:=List.mem_filter.mpr ⟨(ok.cd j c e).1,by rw[e];rfl⟩
  refine⟨_,rfl,p,F,S,2,rfl,hSh.same s1,(fun h C H2 hC s2=>by rw[hW];exact qE hj (by omega) C H2 hC (s1.trans s2)),fun h0 H2 s2=>?_⟩
  have h2:2≤S.handed.length:=by omega
  have t2:=s1.trans s2
  refine⟨_,rfl,_,rfl,p,F,S,j,rfl,hSh.same t2,fun l3 H3 ks s3 f3 e3 r3=>?_⟩
  have t3:=t2.trans s3
  refine⟨_,rfl,p,dx,_,rfl,t3 _ _ hip,rfl,p,F,S,rfl,hSh.same t3,fun l4 H4 s4 f4 e4=>?_⟩
  have t4:=t3.trans s4
  have hwl:=Sh.cardsWo_len ok.pnd hj
  have hl2:S.handed.length≤15:=Nat.le_trans (List.length_filter_le _ _) h15
  refine⟨l3,l4,S.cardsWo j,S.couples,rfl,⟨ks,SqL.of (s4 _ _ e3),r3.imp fun _ _=>IL.stays K _ _ _ _ s4⟩,SqL.of e4,ok.nd,Sh.cardsWo_perm ok j,by omega,by omega,ok.c1,by omega,fun l5 H5 s5 f5 e5=>?_⟩
  exact q hj h2 l5 H5 (t4.trans s5) (t4.free f5) e5
end
def zds(K:PySem.W.Frag):Sp:=fun vs H Q E=>∃(p:Addr) (F:Addr→Prop) (S:Sh) (j:Str) (c:Int),vs = [.ref p,.str j,.int c]∧zB K H p F S∧(j∉S.panel→∀C,zq K "UnknownJudge" C→E (.ref C) none H)∧(j∈S.panel→S.card j=none→∀C,zq K "NoCard" C→E (.ref C) none H) ∧
 ((S.card j).isSome=true→c∉S.couples→∀C H',zq K "UnknownCouple" C→zi H H'→E (.ref C) none H')∧(∀d,S.card j=some d→c∈S.couples→d.getD 0 0=c→∀C H',zq K "AtTop" C→zi H H'→E (.ref C) none H') ∧
 ∀(d:List Int) (i:Nat),S.card j=some d→0<i→i<d.length→d.getD i 0=c→∀(t l:Addr) (H':Hp),zi H H'→H t=none→H l=none→H' t=some (.tup [.int (d.getD (i - 1) 0),.ref l])→H' l=some (.lst ((M6.zU (S.cardsUp j (upC d i)) S.couples).map V.int))→Q (.ref t) H'
section
variable {P:Program} {w:World} {K:PySem.W.Frag} {mg:Str→Option Value} {base:Heap}
theorem ziH{f:Addr}{fd:FuncData}(F:Fun K "step_up" "step_up" zaG f fd)(T:Txt K mg)(C_one_up:CanX P w K mg base 1 "one_up" ["card","couple"] (zd4 K))(C_places_of:Can P w K mg base 6 "places_of" ["cards","couples"] (we K))(C_Sheet_couples:CanM P w K mg base 1 (zH K "Sheet") "couples" ["self"] (zJ K))(C_Sheet_handed:CanM P w K mg base 1 (zH K "Sheet") "handed" ["self"] (zX K))(C_Sheet_card_of:CanMX P w K mg base 2 (zH K "Sheet") "card_of" ["self","judge"] (ya K)):FnOk P w K mg base (CX1 P w) 7 f fd ["sheet","judge","couple"] (zds K):=by
 obtain⟨c_UnknownCouple,n_UnknownCouple,m_UnknownCouple,x_UnknownCouple⟩:=T.x_UnknownCouple
 refine F.okX zbA (fun vs H Q E h=>?_) (fun X W cdv A outer s H vs Q E hX hW fl md hr h=>?_)
 ·obtain⟨p,F,S,j,c,rfl,_⟩:=h
  rfl
 ·obtain⟨p,F,S,j,c,rfl,hSh,qU,qN,qC,qT,q⟩:=h
  subst hX
  refine⟨_,(zf (zD (i:=3) zbA.nd rfl (Or.inl rfl) (wI C_Sheet_card_of T.cl_Sheet fl (hr.mono (by decide)) (pv 0) (za (pv 1) zc)))
   (zf (zE (zo wT (pv 2) (zK C_Sheet_couples T.cl_Sheet (hr.mono (by decide)) (pv 0)) (by first | exact zt _ | rfl)) (ze (yT rfl md rfl m_UnknownCouple x_UnknownCouple (za zF zc))) zy)
   (zf (zD (i:=4) zbA.nd rfl (Or.inr rfl) (ym C_one_up fl (hr.mono (by decide)) rfl (za (pv 3) (za (pv 2) zc))))
   (zf (zD (i:=5) zbA.nd rfl (Or.inl rfl) (yd zN (pv 4) (zc2 PySem.F.plainAttrs_list PySem.F.slot_list_index PySem.F.type_list_index zdQ (pv 3) (za (pv 2) zc)) (fun _ _=>rfl)))
   (zf (zdw (i:=6) (show CompScope (zd zaG) ["sheet","judge","couple","card","stepped","passed","cards"] "other" ["sheet","judge","stepped"] [0,1,4] _ from⟨rfl,by decide +kernel,by decide +kernel,rfl,by decide +kernel,rfl,by decide +kernel,by decide +kernel⟩) rfl zbA.nd rfl (Or.inl rfl) (zO (zK C_Sheet_handed T.cl_Sheet (hr.mono (by decide)) (pv 0))) (fun _ _ _ _ _=>wd) (fun _ _ _ _ _=>(pe_ifExp (zo yk (pv 0) (pv 2) (zt _)) (pv 3) (wI C_Sheet_card_of T.cl_Sheet zeB (hr.mono (by decide)) (pv 1) (za (pv 0) zc)))))
   (ze (zm (zek (za (pv 5) (za (zk C_places_of (hr.mono (by decide)) rfl (za (pv 6) (za (zK C_Sheet_couples T.cl_Sheet (hr.mono (by decide)) (pv 0)) zc))) zc)))))))))),?_⟩
  have hln:=zC
  have ok:=hSh.ok
  have h15:=ok.p15
  have c24:=ok.c24
  obtain⟨dx,b1,b2,b3,dd,hip⟩:=hSh.ins
  refine⟨_,rfl,p,dx,_,rfl,hip,rfl,_,rfl,p,F,S,j,rfl,hSh,(fun hn C hC=>by rw[hW];exact qU hn C hC),(fun hp hn C hC=>by rw[hW];exact qN hp hn C hC),fun d hd l1 H1 s1 f1 e1=>?_⟩
  obtain⟨hjp,hdp⟩:=ok.cd j d hd
  have hdl:=hdp.length_eq
  have hdn:d.Nodup:=hdp.nodup_iff.mpr ok.nd
  refine⟨_,rfl,_,rfl,p,dx,_,rfl,s1 _ _ hip,rfl,p,F,S,rfl,hSh.same s1,fun l2 H2 s2 f2 e2=>?_⟩
  have t2:=s1.trans s2
  refine⟨l2,_,rfl,.inl (SqL.of e2),rfl,zW _,_,rfl,?_⟩
  rw[zc3]
  refine yD (fun hcm=>?_) (fun hcm=>?_)
  ·exact⟨(by show 1≤sizeLine;decide),by rw[hW];exact qC (by rw[hd];rfl) hcm _ _ n_UnknownCouple t2⟩
  obtain⟨i,hi,rfl⟩:∃i,i<d.length∧d.getD i 0=c:=by
   obtain⟨i,hi,e⟩:=List.getElem_of_mem (hdp.mem_iff.mpr hcm)
   exact⟨i,hi,by rw[List.getD_eq_getElem?_getD,List.getElem?_eq_getElem hi];exact e⟩
  refine⟨_,rfl,_,rfl,l1,d,i,rfl,SqL.of (s2 _ _ e1),hdn,hi,by omega,fun n hn=>ok.rng n (hdp.mem_iff.mp hn),?_,fun h0 l3 H3 s3 f3 e3=>?_⟩
  ·intro z C hC
   subst z
   rw[hW];exact qT d hd hcm rfl C _ hC t2
  have q:=q d i hd h0 hi rfl
  have t3:=t2.trans s3
  have e1':=s3 _ _ (s2 _ _ e1)
  have hix:d.idxOf (d.getD i 0)=i:=by
   have:d.getD i 0=d[i]:=by rw[List.getD_eq_getElem?_getD,List.getElem?_eq_getElem hi];rfl
   rw[this]
   exact hdn.idxOf_getElem i hi
  refine⟨_,rfl,_,rfl,.inl ⟨rfl,_,SqL.of e1'⟩,_,rfl,l1,_,_,rfl,rfl,SqL.of e1',rfl,zW _,?_,l3,_,_,.int (d.getD (i - 1) 0),rfl,rfl,SqL.of e3,?_,?_⟩
  ·rw[zaW,List.length_map,hix];exact hi
  ·rw[zaW,hix]
   refine zae ?_
   rw[List.getElem?_map,show d.take (i - 1) ++ [d.getD i 0,d.getD (i - 1) 0]++d.drop (i+1)=upC d i from rfl,upC_at h0 hi]
   rfl
  refine⟨_,rfl,p,dx,_,rfl,t3 _ _ hip,rfl,p,F,S,rfl,(hSh.same t3).shape,h15,fun l4 H4 s4 f4 e4=>?_⟩
  have hl2:S.handed.length≤15:=Nat.le_trans (List.length_filter_le _ _) h15
  have e3':H4 l3=some (.lst ((upC d i).map V.int)):=s4 _ _ e3
  have t4:=t3.trans s4
  refine⟨l4,rfl,⟨_,SqL.of e4⟩,?_⟩
  refine yr (xs:=S.handed.map V.str) (fun k ys H5=>∃ks:List Addr,ys=ks.map V.ref∧zi H4 H5∧All2 (IL K H5) ks ((S.handed.take k).map fun i'=>if i'=j then upC d i else(S.card i').getD [])) ⟨[],rfl,zi.refl _,.nil⟩ ?_ (by rw[List.length_map];omega) ?_ ?_
  ·rintro k ys H5 hk ⟨ks,rfl,s5,r5⟩
   refine⟨s5.seq (SqL.of e4),?_⟩
   have:=r5.length
   rw[List.length_map,List.length_take] at this
   rw[List.length_map]
   omega
  ·rintro k x ys H5 hx ⟨ks,rfl,s5,r5⟩
   obtain⟨hk,rfl⟩:=zbt hx
   have hm:=List.mem_filter.mp (show S.handed.getD k "" ∈ S.panel.filter fun j=>(S.card j).isSome from zab hk)
   have t5:=t4.trans s5
   refine⟨_,rfl,_,rfl,rfl,_,rfl,yI (fun he=>?_) (fun hne=>?_)⟩
   ·have he:S.handed.getD k "" = j:=by injection he
    refine⟨_,rfl,ks ++ [l3],by rw[List.map_append];rfl,s5,?_⟩
    rw[yo hk,List.map_append]
    refine r5.snoc ?_
    show IL K H5 l3 (if S.handed.getD k "" = j then upC d i else _)
    rw[if_pos he]
    exact SqL.of (s5 _ _ e3')
   ·have hne:¬S.handed.getD k "" = j:=fun z=>hne (by rw[z])
    cases e:S.card (S.handed.getD k "")with
    | none=>rw[e] at hm;exact absurd hm.2 Bool.false_ne_true
    | some c =>
      refine⟨_,rfl,p,dx,_,rfl,t5 _ _ hip,rfl,_,rfl,p,F,S,_,rfl,hSh.same t5,fun hj=>absurd hm.1 hj,(fun _ z=>by rw[e] at z;cases z),fun c' e' l6 H6 s6 f6 e6=>?_⟩
      rw[e] at e'
      cases e'
      refine⟨ks ++ [l6],by rw[List.map_append];rfl,s5.trans s6,?_⟩
      rw[yo hk,List.map_append]
      refine(r5.imp fun _ _=>IL.stays K _ _ _ _ s6).snoc ?_
      show IL K H6 l6 (if S.handed.getD k "" = j then upC d i else(S.card (S.handed.getD k "")).getD [])
      rw[if_neg hne,e]
      exact SqL.of e6
  ·rintro ys H5 ⟨ks,rfl,s5,r5⟩ l7 hl7
   rw[List.length_map,List.take_length] at r5
   have s7:=s5.newT (o:=.lst (ks.map V.ref)) hl7
   have e7:upd H5 l7 (.lst (ks.map V.ref)) l7=some (.lst (ks.map V.ref)):=zg
   have r7:=r5.imp fun _ _=>IL.stays K _ _ _ _ (zi.new (o:=.lst (ks.map V.ref)) hl7)
   generalize hH7:upd H5 l7 _=H7 at s7 e7 r7 ⊢
   have t7:=t4.trans s7
   refine⟨_,rfl,_,rfl,_,rfl,p,dx,_,rfl,t7 _ _ hip,rfl,p,F,S,rfl,hSh.same t7,fun l8 H8 s8 f8 e8=>?_⟩
   have t8:=t7.trans s8
   have hjh:1≤S.handed.length:=List.length_pos_of_mem (List.mem_filter.mpr ⟨hjp,by rw[hd];rfl⟩)
   refine⟨l7,l8,S.cardsUp j (upC d i),S.couples,rfl,⟨ks,SqL.of (s8 _ _ e7),r7.imp fun _ _=>IL.stays K _ _ _ _ s8⟩,SqL.of e8,ok.nd,Sh.cardsUp_perm ok ((upC_perm h0 hi).trans hdp),by rw[Sh.cardsUp_len];exact hjh,by rw[Sh.cardsUp_len];exact hl2,ok.c1,by omega,fun l9 H9 s9 f9 e9=>⟨(by show 2≤sizeLine;decide),fun t hT=>?_⟩⟩
   have t9:=t8.trans s9
   exact q t l9 _ (t9.newT hT) (t9.free hT) (t8.free f9) zg ((zi.new hT) _ _ e9)
end
def zbi(K:PySem.W.Frag):Sp:=fun vs H Q _=>∃(a b:Addr) (cs:List (List Int)) (us:List Int),vs = [.ref a,.ref b]∧zdg K (IL K) H a cs∧SqL K H b (us.map V.int)∧us.Nodup∧(∀d∈cs,d.Perm us)∧1≤cs.length∧cs.length≤15∧1≤us.length∧us.length≤24∧∀(l:Addr) (H':Hp),zi H H'→H l=none→H' l=some (.lst ((zdb cs us).map V.int))→Q (.ref l) H'
section
variable {P:Program} {w:World} {K:PySem.W.Frag} {mg:Str→Option Value} {base:Heap}
theorem zgP{f:Addr}{fd:FuncData}(F:Fun K "firsts_of" "firsts_of" wH f fd)(T:Txt K mg)(C_places_of:Can P w K mg base 6 "places_of" ["cards","couples"] (we K)):FnOk P w K mg base CX0 7 f fd ["cards","couples"] (zbi K):=by
 refine F.ok zg3 (fun vs H Q E h=>?_) (fun cdv A outer s H vs Q E hr h=>?_)
 ·obtain⟨a,b,cs,us,rfl,_⟩:=h
  rfl
 ·obtain⟨a,b,cs,us,rfl,hA,hB,nd,hp,c1,c15,u1,u24,q⟩:=h
  refine⟨_,(ze (zm (ziv (show CompScope2 (zd wH) ["cards","couples"] "place" "couple" [] [] _ from⟨rfl,by decide +kernel,by decide +kernel,rfl,rfl,by decide +kernel,rfl,by decide +kernel,by decide +kernel⟩) rfl (pi_zip rfl T.b_zip (za (zk C_places_of (hr.mono (by decide)) rfl (za (pv 0) (za (pv 1) zc))) (za (pv 1) zc))) (fun _ _ _ _ _=>(zbx (zo yk (pv 0) zh (zt _)))) (fun _ _ _ _ _=>(pv 1))))),?_⟩
  have hln:=zC
  refine⟨_,rfl,_,rfl,a,b,cs,us,rfl,hA,hB,nd,hp,c1,c15,u1,u24,fun l1 H1 s1 f1 e1=>?_⟩
  have hpl:=M6.zbJ cs us
  refine⟨_,rfl,l1,b,_,_,rfl,SqL.of e1,s1.seq hB,?_⟩
  refine comp2_zip (xs:=(M6.zU cs us).map V.int) (ys:=us.map V.int) (fun i zs H2=>zi H1 H2∧zs=(zcj (M6.zU cs us) us i).map V.int) ⟨zi.refl _,rfl⟩ ?_ (by rw[List.length_map,List.length_map];omega) ?_ ?_
  ·rintro i zs H2 hi ⟨s2,rfl⟩
   refine⟨SqL.of (s2 _ _ e1),(s1.trans s2).seq hB,?_⟩
   rw[List.length_map]
   exact ziw _ _ _
  ·rintro i x y t zs H2 hx hy ht ⟨s2,rfl⟩
   obtain⟨hi,rfl⟩:=yy hx
   obtain⟨hi2,rfl⟩:=yy hy
   refine⟨_,rfl,rfl,_,rfl,yI (fun he=>?_) (fun hne=>?_)⟩
   ·have he:(M6.zU cs us).getD i 0=1:=by injection he
    refine⟨_,rfl,s2.newT ht,?_⟩
    rw[zdR,if_pos he,List.map_append]
    rfl
   ·have hne:¬(M6.zU cs us).getD i 0=1:=fun z=>hne (by rw[z])
    refine⟨s2.newT ht,?_⟩
    rw[zdR,if_neg hne,List.append_nil]
  ·rintro zs H2 ⟨s2,rfl⟩ l hl
   rw[List.length_map,List.length_map,hpl,Nat.min_self] at *
   have t2:=s1.trans s2
   exact q l _ (t2.newT hl) (t2.free hl) zg
end
def zc8(K:PySem.W.Frag):Sp:=fun vs H Q E=>∃(p:Addr) (F:Addr→Prop) (S:Sh),vs = [.ref p]∧zB K H p F S∧(S.handed.length=0→∀C H',zq K "TooFewCards" C→zi H H'→E (.ref C) none H')∧(1≤S.handed.length→∀(l:Addr) (H':Hp),zi H H'→H l=none→H' l=some (.lst ((zdb S.cardsIn S.couples).map V.int))→Q (.ref l) H')
section
variable {P:Program} {w:World} {K:PySem.W.Frag} {mg:Str→Option Value} {base:Heap}
theorem ok_firsts{f:Addr}{fd:FuncData}(F:Fun K "firsts" "firsts" zca f fd)(T:Txt K mg)(C_refuse_fewer_cards:CanX P w K mg base 2 "refuse_fewer_cards" ["sheet","least"] (zL K))(C_firsts_of:Can P w K mg base 7 "firsts_of" ["cards","couples"] (zbi K))(C_Sheet_couples:CanM P w K mg base 1 (zH K "Sheet") "couples" ["self"] (zJ K))(C_Sheet_cards:CanM P w K mg base 3 (zH K "Sheet") "cards" ["self"] (yl K)):FnOk P w K mg base (CX1 P w) 8 f fd ["sheet"] (zc8 K):=by
 refine F.okX zjG (fun vs H Q E h=>?_) (fun X W cdv A outer s H vs Q E hX hW fl md hr h=>?_)
 ·obtain⟨p,F,S,rfl,_⟩:=h
  rfl
 ·obtain⟨p,F,S,rfl,hSh,qE,q⟩:=h
  subst hX
  refine⟨_,(zf (zM (ym C_refuse_fewer_cards fl (hr.mono (by decide)) rfl (za (pv 0) (za zh zc))))
   (ze (zm (zk C_firsts_of (hr.mono (by decide)) rfl (za (zK C_Sheet_cards T.cl_Sheet (hr.mono (by decide)) (pv 0)) (za (zK C_Sheet_couples T.cl_Sheet (hr.mono (by decide)) (pv 0)) zc)))))),?_⟩
  have ok:=hSh.ok
  have h15:S.handed.length≤15:=Nat.le_trans (List.length_filter_le _ _) ok.p15
  have c24:=ok.c24
  obtain⟨dx,b1,b2,b3,d,hip⟩:=hSh.ins
  refine⟨_,rfl,p,F,S,1,rfl,hSh,(fun h C H1 hC s1=>by rw[hW];exact qE (by omega) C H1 hC s1),fun h0 H1 s1=>?_⟩
  have h1:1≤S.handed.length:=by omega
  refine⟨_,rfl,p,dx,_,rfl,s1 _ _ hip,rfl,p,F,S,rfl,hSh.same s1,fun l2 H2 ls s2 f2 e2 r2=>?_⟩
  have t2:=s1.trans s2
  refine⟨_,rfl,p,dx,_,rfl,t2 _ _ hip,rfl,p,F,S,rfl,hSh.same t2,fun l3 H3 s3 f3 e3=>?_⟩
  have t3:=t2.trans s3
  refine⟨l2,l3,S.cardsIn,S.couples,rfl,⟨ls,SqL.of (s3 _ _ e2),r2.imp fun _ _ z=>SqL.of (s3 _ _ z.2)⟩,SqL.of e3,ok.nd,Sh.cardsIn_perm ok,by rw[Sh.cardsIn_len];exact h1,by rw[Sh.cardsIn_len];exact h15,ok.c1,by omega,fun l4 H4 s4 f4 e4=>?_⟩
  exact q h1 l4 H4 (t3.trans s4) (t3.free f4) e4
end
def zcm(K:PySem.W.Frag):Sp:=fun vs H Q E=>∃(x:Addr) (F:Addr→Prop) (S:Sh) (c:Int),vs = [.ref x,.int c]∧zB K H x F S∧(S.handed.length=0→∀C H',zq K "TooFewCards" C→zi H H'→E (.ref C) none H')∧(1≤S.handed.length→c∉S.couples→∀C H',zq K "UnknownCouple" C→zi H H'→E (.ref C) none H')∧(1≤S.handed.length→c∈S.couples→∀H',zi H H'→Q (.str (M6.rowT (M6.plc S.cardsIn S.couples c) c (M5.zA S.cardsIn c) S.couples.length)) H')
section
variable {P:Program} {w:World} {K:PySem.W.Frag} {mg:Str→Option Value} {base:Heap}
theorem zhk{f:Addr}{fd:FuncData}(F:Fun K "table_row" "table_row" zap f fd)(T:Txt K mg)(C_places:CanX P w K mg base 7 "places" ["sheet"] (zcd K))(C_row_text:Can P w K mg base 4 "row_text" ["sheet","place","couple"] (zbM K))(C_Sheet_couples:CanM P w K mg base 1 (zH K "Sheet") "couples" ["self"] (zJ K)):FnOk P w K mg base (CX1 P w) 8 f fd ["sheet","couple"] (zcm K):=by
 obtain⟨c_UnknownCouple,n_UnknownCouple,m_UnknownCouple,x_UnknownCouple⟩:=T.x_UnknownCouple
 refine F.okX zdH (fun vs H Q E h=>?_) (fun X W cdv A outer s H vs Q E hX hW fl md hr h=>?_)
 ·obtain⟨x,F,S,c,rfl,_⟩:=h
  rfl
 ·obtain⟨x,F,S,c,rfl,hSh,qF,qC,q⟩:=h
  subst hX
  refine⟨_,(zf (zD (i:=2) zdH.nd rfl (Or.inl rfl) (ym C_places fl (hr.mono (by decide)) rfl (za (pv 0) zc)))
   (zf (zE (zo wT (pv 1) (zK C_Sheet_couples T.cl_Sheet (hr.mono (by decide)) (pv 0)) (by first | exact zt _ | rfl)) (ze (yT rfl md rfl m_UnknownCouple x_UnknownCouple (za zF zc))) zy)
   (ze (zm (zk C_row_text (hr.mono (by decide)) rfl (za (pv 0) (za (yd zN (pv 2) (zc2 PySem.F.plainAttrs_list PySem.F.slot_list_index PySem.F.type_list_index zdQ (zK C_Sheet_couples T.cl_Sheet (hr.mono (by decide)) (pv 0)) (za (pv 1) zc)) (fun _ _=>rfl)) (za (pv 1) zc)))))))),?_⟩
  have hln:=zC
  have ok:=hSh.ok
  have c24:=ok.c24
  obtain⟨dx,b1,b2,b3,d,hi⟩:=hSh.ins
  refine⟨_,rfl,x,F,S,rfl,hSh,(fun h C H1 hC s1=>by rw[hW];exact qF h C H1 hC s1),fun h1 l1 H1 s1 f1 e1=>?_⟩
  refine⟨_,rfl,_,rfl,x,dx,_,rfl,s1 _ _ hi,rfl,x,F,S,rfl,hSh.same s1,fun l2 H2 s2 f2 e2=>?_⟩
  have t2:=s1.trans s2
  refine⟨l2,_,rfl,.inl (SqL.of e2),rfl,zW _,_,rfl,?_⟩
  rw[zc3]
  refine yD (fun hc=>?_) (fun hc=>?_)
  ·exact⟨(by show 1≤sizeLine;decide),by rw[hW];exact qC h1 hc _ _ n_UnknownCouple t2⟩
  have hix:=List.idxOf_lt_length_of_mem hc
  refine⟨_,rfl,_,rfl,_,rfl,x,dx,_,rfl,t2 _ _ hi,rfl,x,F,S,rfl,hSh.same t2,fun l3 H3 s3 f3 e3=>?_⟩
  refine⟨.inl ⟨rfl,_,SqL.of e3⟩,_,rfl,l3,_,_,rfl,rfl,SqL.of e3,rfl,zW _,(by rw[zaW,List.length_map];exact hix),?_⟩
  rw[zaW]
  have hat:atI ((M6.zU S.cardsIn S.couples).map V.int) (S.couples.idxOf c:Int)=some (.int (M6.plc S.cardsIn S.couples c)):=by
   have:=zae (zde (ns:=M6.zU S.cardsIn S.couples) (i:=S.couples.idxOf c) (by rw[M6.zbJ];exact hix))
   rw[M6.places_at hix,M6.getD_idx hc] at this
   exact this
  have hb:(M6.plc S.cardsIn S.couples c).natAbs≤990:=by
   unfold M6.plc M6.zi9
   have:=List.length_filter_le (fun d=>M6.yw (M5.zA S.cardsIn d) (M5.zA S.cardsIn c) S.couples.length) S.couples
   omega
  have t3:=t2.trans s3
  refine⟨l1,_,_,_,rfl,rfl,SqL.of (s3 _ _ (s2 _ _ e1)),hat,_,rfl,x,F,S,_,c,rfl,hSh.same t3,hc,hb,fun H4 s4=>q h1 hc H4 (t3.trans s4)⟩
end
def zcP(K:PySem.W.Frag):Sp:=fun vs H Q E=>∃(p:Addr) (F:Addr→Prop) (S:Sh),vs = [.ref p]∧zB K H p F S∧(S.handed.length<2→∀C H',zq K "TooFewCards" C→zi H H'→E (.ref C) none H')∧(2≤S.handed.length→∀(l:Addr) (H':Hp),zi H H'→H l=none→H' l=some (.lst (S.decide.map V.str))→Q (.ref l) H')
section
variable {P:Program} {w:World} {K:PySem.W.Frag} {mg:Str→Option Value} {base:Heap}
theorem zim{f:Addr}{fd:FuncData}(F:Fun K "deciders" "deciders" zaj f fd)(T:Txt K mg)(C_firsts:CanX P w K mg base 8 "firsts" ["sheet"] (zc8 K))(C_refuse_fewer_cards:CanX P w K mg base 2 "refuse_fewer_cards" ["sheet","least"] (zL K))(C_firsts_of:Can P w K mg base 7 "firsts_of" ["cards","couples"] (zbi K))(C_cards_without:Can P w K mg base 3 "cards_without" ["sheet","judge"] (wW K))(C_Sheet_couples:CanM P w K mg base 1 (zH K "Sheet") "couples" ["self"] (zJ K))(C_Sheet_handed:CanM P w K mg base 1 (zH K "Sheet") "handed" ["self"] (zX K)):FnOk P w K mg base (CX1 P w) 9 f fd ["sheet"] (zcP K):=by
 refine F.okX zex (fun vs H Q E h=>?_) (fun X W cdv A outer s H vs Q E hX hW fl md hr h=>?_)
 ·obtain⟨p,F,S,rfl,_⟩:=h
  rfl
 ·obtain⟨p,F,S,rfl,hSh,qE,q⟩:=h
  subst hX
  refine⟨_,(zf (zM (ym C_refuse_fewer_cards fl (hr.mono (by decide)) rfl (za (pv 0) (za zh zc))))
   (zf (zD (i:=1) zex.nd rfl (Or.inr rfl) (ym C_firsts fl (hr.mono (by decide)) rfl (za (pv 0) zc)))
   (ze (zm (yf (show CompScope (zd zaj) ["sheet","now"] "judge" ["sheet","now"] [0,1] _ from⟨rfl,by decide +kernel,by decide +kernel,rfl,by decide +kernel,rfl,by decide +kernel,by decide +kernel⟩) rfl (zO (zK C_Sheet_handed T.cl_Sheet (hr.mono (by decide)) (pv 0))) (fun _ _ _ _ _=>(zbx (zo (zbN (K:=K) rfl hr.units0) (zk C_firsts_of (hr.mono (by decide)) rfl (za (zk C_cards_without (hr.mono (by decide)) rfl (za (pv 1) (za (pv 0) zc))) (za (zK C_Sheet_couples T.cl_Sheet (hr.mono (by decide)) (pv 1)) zc))) (pv 2) (zt _)))) (fun _ _ _ _ _=>(pv 0))))))),?_⟩
  have hln:=zC
  have ok:=hSh.ok
  have h15:S.handed.length≤15:=Nat.le_trans (List.length_filter_le _ _) ok.p15
  have c24:=ok.c24
  obtain⟨dx,b1,b2,b3,d,hip⟩:=hSh.ins
  refine⟨_,rfl,p,F,S,2,rfl,hSh,(fun h C H1 hC s1=>by rw[hW];exact qE (by omega) C H1 hC s1),fun h0 H1 s1=>?_⟩
  have h2:2≤S.handed.length:=by omega
  have q:=q h2
  refine⟨_,rfl,p,F,S,rfl,hSh.same s1,(fun z=>absurd z (by omega)),fun _ l2 H2 s2 f2 e2=>?_⟩
  have t2:=s1.trans s2
  refine⟨_,rfl,p,dx,_,rfl,t2 _ _ hip,rfl,p,F,S,rfl,(hSh.same t2).shape,ok.p15,fun l3 H3 s3 f3 e3=>?_⟩
  have t3:=t2.trans s3
  refine⟨l3,rfl,⟨_,SqL.of e3⟩,?_⟩
  refine wX (xs:=S.handed.map V.str) (fun i ys H4=>zi H3 H4∧ys=((S.handed.take i).filter fun j => !Decidable.decide (zdb (S.cardsWo j) S.couples=zdb S.cardsIn S.couples)).map V.str) ⟨zi.refl _,rfl⟩ ?_ (by rw[List.length_map];omega) ?_ ?_
  ·rintro i ys H4 hi ⟨s4,rfl⟩
   refine⟨s4.seq (SqL.of e3),?_⟩
   rw[List.length_map]
   exact Nat.le_trans (List.length_filter_le _ _) (by rw[List.length_take];omega)
  ·rintro i x ys H4 hx ⟨s4,rfl⟩
   obtain⟨hi,rfl⟩:=zbt hx
   have t4:=t3.trans s4
   refine⟨_,rfl,_,rfl,p,F,S,_,rfl,hSh.same t4,fun l5 H5 ks s5 f5 e5 r5=>?_⟩
   have t5:=t4.trans s5
   refine⟨_,rfl,p,dx,_,rfl,t5 _ _ hip,rfl,p,F,S,rfl,hSh.same t5,fun l6 H6 s6 f6 e6=>?_⟩
   have g1:=Sh.cardsWo_ge ok.pnd (S.handed.getD i "")
   have g2:=Sh.cardsWo_le S (S.handed.getD i "")
   refine⟨l5,l6,_,S.couples,rfl,⟨ks,SqL.of (s6 _ _ e5),r5.imp fun _ _=>IL.stays K _ _ _ _ s6⟩,SqL.of e6,ok.nd,Sh.cardsWo_perm ok _,by omega,by omega,ok.c1,by omega,fun l7 H7 s7 f7 e7=>?_⟩
   have u7:=((s4.trans s5).trans s6).trans s7
   refine⟨_,rfl,l7,l2,_,_,rfl,rfl,SqL.of e7,SqL.of ((s3.trans u7) _ _ e2),zW _,zW _,_,rfl,?_⟩
   rw[za3]
   refine yD (fun hne=>?_) (fun he=>?_)
   ·refine⟨_,rfl,u7,?_⟩
    rw[yo hi,List.filter_append,List.filter_cons,if_pos (by rw[decide_eq_false hne];rfl),List.map_append]
    rfl
   ·refine⟨u7,?_⟩
    rw[yo hi,List.filter_append,List.filter_cons,if_neg (by rw[decide_eq_true he];decide),List.filter_nil,List.append_nil]
  ·rintro ys H4 ⟨s4,rfl⟩ l hl
   rw[List.length_map,List.take_length] at *
   have t4:=t3.trans s4
   exact q l _ (t4.newT hl) (t4.free hl) zg
end
def zcT(K:PySem.W.Frag):Sp:=fun vs H Q _=>∃(a b:Addr) (ps us:List Int),vs = [.ref a,.ref b]∧SqL K H a (ps.map V.int)∧SqL K H b (us.map V.int)∧ps.length=us.length∧(∀k,k<us.length→1≤ps.getD k 0∧ps.getD k 0≤us.length)∧1≤us.length∧us.length≤24∧wy (wz K "by_place") zaY H∧∀(l:Addr) (H':Hp) (ls:List Addr),yx H H'→wy (wz K "by_place") zaY H'→H l=none→H' l=some (.lst (ls.map V.ref))→All2 (TPl K H') ls (M5.rows ps us)→Q (.ref l) H'
section
variable {P:Program} {w:World} {K:PySem.W.Frag} {mg:Str→Option Value} {base:Heap}
theorem zh6{f:Addr}{fd:FuncData}(F:Fun K "by_place" "by_place" zaE f fd)(T:Txt K mg)(L:Lam K "by_place" f)(B:zd1 mg base)(C_places:CanX P w K mg base 7 "places" ["sheet"] (zcd K)):FnOk P w K mg base CX0 11 f fd ["places","couples"] (zcT K):=by
 refine F.okC L zhJ (fun vs H Q E h=>?_) (fun c A outer s H vs Q E hC hr h=>?_)
 ·obtain⟨a,b,ps,us,rfl,_⟩:=h
  rfl
 ·obtain⟨a,b,ps,us,rfl,hA,hB,hl,hk,u1,u2,hT,q⟩:=h
  refine⟨_,(ze (zm (zjC rfl (hr.mono (by decide)) (by rfl) T.b_sorted (by rfl) T.b_zip rfl hC B ⟨rfl,rfl,rfl,by decide,rfl,by decide +kernel,by decide +kernel⟩ rfl (by decide) (by decide) rfl rfl (fun _ _ _ _ _ _=>rfl) (za (pv 0) (za (pv 1) zc))))),?_⟩
  refine⟨_,rfl,_,rfl,a,b,ps,us.map V.int,rfl,hA,hB,by rw[List.length_map];exact hl,by omega,by omega,hT,fun H2 ts l p sn ls pr hn hi=>?_⟩
  rw[hl] at hi
  have hm:∀i∈p.toList,i<us.length:=fun i h=>by
   rw[M15.is_idx hi hk] at h
   exact List.mem_range.mp ((M15.zjf _ _ hk i).mp h)
  have rr:=zh9 (K:=K) hl pr p.toList hm
  rw[M15.rows_of hl hk hi] at rr
  refine q l _ (p.toList.map fun i=>ts.getD i 0) (sn.trans (zi.new hn).toN) (ls.same (zi.new hn)) (sn.free hn) ?_ (rr.imp fun _ _=>TPl.stays K _ _ _ _ (zi.new hn))
  rw[List.map_map]
  exact zg
end
def zaT(K:PySem.W.Frag):Sp:=fun vs H Q _=>∃(a b:Addr) (cs:List (List Int)) (us:List Int),vs = [.ref a,.ref b]∧zdg K (IL K) H a cs∧SqL K H b (us.map V.int)∧us.Nodup∧(∀d∈cs,d.Perm us)∧1≤cs.length∧cs.length≤15∧1≤us.length∧us.length≤24∧wy (wz K "by_place") zaY H∧∀(l:Addr) (H':Hp) (ls:List Addr),yx H H'→wy (wz K "by_place") zaY H'→H l=none→H' l=some (.lst (ls.map V.ref))→All2 (TPl K H') ls (M5.rows (M6.zU cs us) us)→Q (.ref l) H'
section
variable {P:Program} {w:World} {K:PySem.W.Frag} {mg:Str→Option Value} {base:Heap}
theorem zgd{f:Addr}{fd:FuncData}(F:Fun K "ranking_of" "ranking_of" wY f fd)(T:Txt K mg)(C_places_of:Can P w K mg base 6 "places_of" ["cards","couples"] (we K))(C_by_place:Can P w K mg base 11 "by_place" ["places","couples"] (zcT K)):FnOk P w K mg base CX0 12 f fd ["cards","couples"] (zaT K):=by
 refine F.ok zf7 (fun vs H Q E h=>?_) (fun cdv A outer s H vs Q E hr h=>?_)
 ·obtain⟨a,b,cs,us,rfl,_⟩:=h
  rfl
 ·obtain⟨a,b,cs,us,rfl,hC,hU,hnd,hp,c1,c2,u1,u2,hT,q⟩:=h
  refine⟨_,(ze (zm (zk C_by_place (hr.mono (by decide)) rfl (za (zk C_places_of (hr.mono (by decide)) rfl (za (pv 0) (za (pv 1) zc))) (za (pv 1) zc))))),?_⟩
  refine⟨_,rfl,_,rfl,a,b,cs,us,rfl,hC,hU,hnd,hp,c1,c2,u1,u2,fun l1 H1 s1 f1 e1=>?_⟩
  refine⟨_,rfl,l1,b,M6.zU cs us,us,rfl,SqL.of e1,s1.seq hU,M6.zbJ cs us,M6.zi4 cs us,u1,u2,hT.same s1,fun l H' ls s2 z2 f2 e2 r2=>?_⟩
  exact q l H' ls (s1.toN.trans s2) z2 (s1.toN.free f2) e2 r2
end
def zbB(K:PySem.W.Frag):Sp:=fun vs H Q _=>∃(a b:Addr) (cs:List (List Int)) (us:List Int),vs = [.ref a,.ref b]∧zdg K (IL K) H a cs∧SqL K H b (us.map V.int)∧us.Nodup∧(∀d∈cs,d.Perm us)∧1≤cs.length∧cs.length≤15∧1≤us.length∧us.length≤24∧wy (wz K "by_place") zaY H∧∀(l:Addr) (H':Hp) (ls:List Addr),yx H H'→wy (wz K "by_place") zaY H'→H l=none→H' l=some (.lst (ls.map V.ref))→All2 (F4 K H') ls (M6.zfz cs us)→Q (.ref l) H'
section
variable {P:Program} {w:World} {K:PySem.W.Frag} {mg:Str→Option Value} {base:Heap}
theorem ze8{f:Addr}{fd:FuncData}(F:Fun K "partings_of" "partings_of" yP f fd)(T:Txt K mg)(C_marks_of:Can P w K mg base 2 "marks_of" ["cards","couple"] (za1 K))(C_ranking_of:Can P w K mg base 12 "ranking_of" ["cards","couples"] (zaT K))(C_parting_of:Can P w K mg base 4 "parting_of" ["one","other"] (zb0 K)):FnOk P w K mg base CX0 13 f fd ["cards","couples"] (zbB K):=by
 refine F.ok yW (fun vs H Q E h=>?_) (fun cdv A outer s H vs Q E hr h=>?_)
 ·obtain⟨a,b,cs,us,rfl,_⟩:=h
  rfl
 ·obtain⟨a,b,cs,us,rfl,hC,hU,hnd,hp,c1,c2,u1,u2,hT,q⟩:=h
  refine⟨_,(zf (zez (i:=2) (show CompScope2 (zd yP) ["cards","couples","ranked","rows","one","other","parting"] "place" "couple" [] [] _ from⟨rfl,by decide +kernel,by decide +kernel,rfl,rfl,by decide +kernel,rfl,by decide +kernel,by decide +kernel⟩) rfl yW.nd rfl (Or.inl rfl) (zO (zk C_ranking_of (hr.mono (by decide)) rfl (za (pv 0) (za (pv 1) zc)))) (fun _ _ _ _ _=>wd) (fun _ _ _ _ _=>(pv 1)))
   (zf (zD (i:=3) yW.nd rfl (Or.inl rfl) (yi zc))
   (zf (zah PassesOwn.never rfl (pi_zip rfl T.b_zip (za (pv 2) (za (wj zbh (pv 2) (wS zh) zaw) zc))) (pg_tup rfl (zdX (yu (i:=4) yW.nd rfl (Or.inl rfl)) (zdX (yu (i:=5) yW.nd rfl (Or.inl rfl)) zjq)))
     (zf (zD (i:=6) yW.nd rfl (Or.inl rfl) (zk C_parting_of (hr.mono (by decide)) rfl (za (zk C_marks_of (hr.mono (by decide)) rfl (za (pv 0) (za (pv 4) zc))) (za (zk C_marks_of (hr.mono (by decide)) rfl (za (pv 0) (za (pv 5) zc))) zc))))
   (ze (zE (zo op_notN (pv 6) zcA (zt _)) (ze (zM (zc2 PySem.F.plainAttrs_list PySem.F.slot_list_append PySem.F.type_list_append zb4 (pv 3) (za (zek (za (pv 4) (za (pv 5) (za (yd zi7 (pv 6) zh (fun _ _=>rfl)) (za (yd zi7 (pv 6) zh (fun _ _=>rfl)) zc))))) zc)))) zy))))
   (ze (zm (pv 3)))))),?_⟩
  have hln:=zC
  refine⟨_,rfl,_,rfl,a,b,cs,us,rfl,hC,hU,hnd,hp,c1,c2,u1,u2,hT,fun l1 H1 ls s1 z1 f1 e1 r1=>?_⟩
  refine⟨l1,rfl,⟨_,SqL.of e1⟩,?_⟩
  have t1:=s1.same
  have hC1:=hC.noT
  have hmem:=fun p (hp:p∈M5.rows (M6.zU cs us) us)=>M6.zhB hp
  have hrl:=M5.rows_len (M6.zU cs us) us (M6.zbJ cs us)
  have hmul:us.length*us.length≤24*24:=Nat.mul_le_mul u2 u2
  unfold M6.zfz at q
  generalize M5.rows (M6.zU cs us) us=rs at r1 hrl hmem q
  have hl1:=r1.length
  refine zet (xs:=ls.map V.ref) (fun i ys H2=>zi H1 H2∧ys=((rs.take i).map fun p=>p.2).map V.int) ⟨zi.refl _,rfl⟩ ?_ (by rw[List.length_map];omega) ?_ ?_
  ·rintro i ys H2 hi ⟨s2,rfl⟩
   refine⟨s2.seq (SqL.of e1),?_⟩
   rw[List.length_map,List.length_map,List.length_take]
   omega
  ·rintro i x ys H2 hx ⟨s2,rfl⟩
   obtain⟨p,ep,rfl⟩:=zbw hx
   obtain⟨m,em,rm⟩:=r1.getL ep
   refine⟨p,_,_,rfl,s2.seqT rm,_,rfl,s2,?_⟩
   rw[List.take_succ,em,List.map_append,List.map_append]
   rfl
  ·rintro ys H2 ⟨s2,rfl⟩ l2 hl2
   rw[List.length_map,hl1,List.take_length]
   generalize hH3:upd H2 l2 _=H3
   have s23:zi H2 H3:=by rw[← hH3];exact zi.new hl2
   have e3:H3 l2=some (.lst ((rs.map fun p=>p.2).map V.int)):=by rw[← hH3];exact zg
   have s13:=s2.trans s23
   refine⟨by decide,fun p4 hp4=>?_⟩
   have e4:(upd H3 p4 (.lst [])) l2=some (.lst ((rs.map fun p=>p.2).map V.int)):=(zi.new hp4) _ _ e3
   refine⟨_,rfl,_,rfl,_,rfl,l2,_,rfl,SqL.of e4,fun l5 hl5=>?_⟩
   rw[zer (by decide)]
   have s4:=zi.new (o:=.lst []) hp4
   have s5:=zi.new (o:=.lst (((rs.map fun p=>p.2).drop (1:Int).toNat).map V.int)) hl5
   have n45:p4≠l5:=zu zg hl5
   have e6:upd (upd H3 p4 (.lst [])) l5 (.lst (((rs.map fun p=>p.2).drop (1:Int).toNat).map V.int)) p4=some (.lst (([]:List Addr).map V.ref)):=by rw[zj n45];exact zg
   have e5:upd (upd H3 p4 (.lst [])) l5 (.lst (((rs.map fun p=>p.2).drop (1:Int).toNat).map V.int)) l5=some (.lst (((rs.map fun p=>p.2).drop 1).map V.int)):=zg
   have s36:=s4.trans s5
   generalize hH6:upd (upd H3 p4 (.lst [])) l5 _=H6 at e6 e5 s36 ⊢
   have hf5:H3 l5=none:=s4.free hl5
   refine⟨l2,l5,_,_,rfl,SqL.of (s36 _ _ e3),SqL.of e5,?_⟩
   refine for_zip (xs:=(rs.map fun p=>p.2).map V.int) (ys:=((rs.map fun p=>p.2).drop 1).map V.int) (fun i σ H7=>∃(v4 v5 v6:Option V) (ms:List Addr),σ = [some (.ref a),some (.ref b),some (.ref l2),some (.ref p4),v4,v5,v6]∧zi H3 H7∧H7 l5=some (.lst (((rs.map fun p=>p.2).drop 1).map V.int))∧H7 p4=some (.lst (ms.map V.ref))∧All2 (F4 K H7) ms (((rs.zip rs.tail).take i).filterMap fun pq=>M6.nb cs us pq.1 pq.2)) ⟨_,_,_,[],rfl,s36,e5,e6,.nil⟩ ?_ ?_ ?_
   ·rintro i σ H7 hi ⟨v4,v5,v6,ms,rfl,s7,f5,f4,r7⟩
    exact⟨SqL.of (s7 _ _ e3),SqL.of f5⟩
   ·rintro i x y t σ H7 hx hy hn ⟨v4,v5,v6,ms,rfl,s7,f5,f4,r7⟩
    rw[List.getElem?_map,List.getElem?_map] at hx
    rw[List.getElem?_map,List.getElem?_drop,List.getElem?_map,Nat.add_comm] at hy
    cases ea:rs[i]? with
    | none=>rw[ea] at hx;cases hx
    | some pa =>
      cases eb:rs[i+1]? with
      | none=>rw[eb] at hy;cases hy
      | some pb =>
        rw[ea] at hx
        rw[eb] at hy
        cases hx
        cases hy
        have ez:(rs.zip rs.tail)[i]? = some (pa,pb):=by rw[List.getElem?_zip_eq_some];exact⟨ea,by rw[List.getElem?_tail];exact eb⟩
        obtain⟨ma1,ma2⟩:=hmem _ (List.mem_of_getElem? ea)
        obtain⟨mb1,mb2⟩:=hmem _ (List.mem_of_getElem? eb)
        have s8:=zi.new (o:=.tup [.int pa.2,.int pb.2]) hn
        refine⟨t,_,rfl,SqT.new,rfl,_,_,rfl,_,_,rfl,rfl,?_⟩
        have t8:=((t1.trans (s2.trans s23)).trans s7).trans s8
        have f48:=s8 _ _ f4
        have f58:=s8 _ _ f5
        have r8:=r7.imp fun _ _=>F4.stays K _ _ _ _ s8
        have s38:=s7.trans s8
        generalize hH8:upd H7 t _=H8 at s8 t8 f48 f58 r8 s38 ⊢
        refine⟨_,rfl,_,rfl,a,cs,_,rfl,hC1.same (IL.stays K) t8,by omega,fun d hd=>(hp d hd).mem_iff.mpr ma1,fun l9 H9 s9 f9 e9=>?_⟩
        refine⟨_,rfl,_,rfl,a,cs,_,rfl,hC1.same (IL.stays K) (t8.trans s9),by omega,fun d hd=>(hp d hd).mem_iff.mpr mb1,fun l10 H10 s10 f10 e10=>?_⟩
        have rng:∀d∈us,∀x∈M5.zA cs d,1≤x∧x≤24:=fun d hd x hx=>by have:=M6.wE hp hd x hx;omega
        refine⟨l9,l10,_,_,rfl,SqL.of (s10 _ _ e9),SqL.of e10,by rw[M5.wA,M5.wA],by rw[M5.wA];omega,by rw[M5.wA];omega,rng _ ma1,rng _ mb1,fun r hr v H11 s11 told=>?_⟩
        have hnb:=M6.nb_part hp u1 u2 ma1 mb1 hr
        rw[← ma2,← mb2] at hnb
        have s811:=s9.trans (s10.trans s11)
        have f4':=s811 _ _ f48
        have f5':=s811 _ _ f58
        have r11:=r8.imp fun _ _=>F4.stays K _ _ _ _ s811
        have s311:=s38.trans s811
        cases r with
        | none =>
          have told:v=.non:=told
          subst told
          have ef:List.filterMap (fun pq:(Int × Int) × (Int × Int)=>M6.nb cs us pq.1 pq.2) (some (pa,pb)).toList = []:=by
           show List.filterMap _ [(pa,pb)]=_
           rw[List.filterMap_cons_none (f:=fun pq:(Int × Int) × (Int × Int)=>M6.nb cs us pq.1 pq.2) (a:=(pa,pb)) hnb,List.filterMap_nil]
          refine⟨_,rfl,rfl,_,rfl,iteNS rfl ?_⟩
          refine⟨_,_,_,ms,rfl,s311,f5',f4',?_⟩
          rw[List.take_succ,ez,List.filterMap_append,ef,List.append_nil]
          exact r11
        | some r =>
          obtain⟨l12,rfl,hT12⟩:=told
          have ef:List.filterMap (fun pq:(Int × Int) × (Int × Int)=>M6.nb cs us pq.1 pq.2) (some (pa,pb)).toList = [(pa.2,pb.2,(r.1:Int),r.2)]:=by
           show List.filterMap _ [(pa,pb)]=_
           rw[List.filterMap_cons_some (f:=fun pq:(Int × Int) × (Int × Int)=>M6.nb cs us pq.1 pq.2) (a:=(pa,pb)) hnb,List.filterMap_nil]
          refine⟨_,rfl,rfl,_,rfl,yD (fun _=>?_) (fun z=>by cases z)⟩
          refine⟨_,rfl,.inl ⟨rfl,_,SqL.of f4'⟩,_,rfl,_,rfl,_,rfl,l12,_,_,_,rfl,rfl,hT12,rfl,_,rfl,l12,_,_,_,rfl,rfl,hT12,rfl,(by show 4≤sizeLine;decide),fun p13 hp13=>?_⟩
          have s13:=zi.new (o:=.tup [.int pa.2,.int pb.2,.int (r.1:Nat),.str r.2]) hp13
          have hl2:=r7.length
          have hfl:=List.length_filterMap_le (fun pq:(Int × Int) × (Int × Int)=>M6.nb cs us pq.1 pq.2) ((rs.zip rs.tail).take i)
          rw[List.length_take,List.length_zip] at hfl
          refine⟨p4,_,_,rfl,rfl,s13 _ _ f4',by rw[List.length_map];omega,?_⟩
          refine⟨_,_,_,ms ++ [p13],rfl,(s311.trans s13).put hp4,by rw[zj (Ne.symm n45)];exact s13 _ _ f5',zhF ms p13,?_⟩
          rw[List.take_succ,ez,List.filterMap_append,ef]
          refine All2.snoc (F4.put (r11.imp fun _ _=>F4.stays K _ _ _ _ s13) (s13 _ _ f4')) ?_
          exact SqT.put (ys:=ms.map V.ref) SqT.new (s13 _ _ f4')
   ·rintro σ H7 ⟨v4,v5,v6,ms,rfl,s7,f5,f4,r7⟩
    rw[List.length_map,List.length_map,List.length_map,List.length_drop,List.length_map,List.take_of_length_le (by rw[List.length_zip,List.length_tail];omega)] at r7
    refine⟨_,rfl,q p4 H7 ms ?_ (z1.same (s13.trans s7)) ?_ f4 r7⟩
    ·exact s1.trans (zi.toN (s13.trans s7))
    ·exact s1.free (s13.free hp4)
end
def zcn(K:PySem.W.Frag):Sp:=fun vs H Q E=>∃(p:Addr) (F:Addr→Prop) (S:Sh),vs = [.ref p]∧zB K H p F S∧wy (wz K "by_place") zaY H∧(S.handed.length=0→∀C H',zq K "TooFewCards" C→zi H H'→E (.ref C) none H')∧(1≤S.handed.length→∀(l:Addr) (H':Hp) (ls:List Addr),yx H H'→wy (wz K "by_place") zaY H'→H l=none→H' l=some (.lst (ls.map V.ref))→All2 (TPl K H') ls (M5.rows (M6.zU S.cardsIn S.couples) S.couples)→Q (.ref l) H')
section
variable {P:Program} {w:World} {K:PySem.W.Frag} {mg:Str→Option Value} {base:Heap}
theorem ziB{f:Addr}{fd:FuncData}(F:Fun K "ranking" "ranking" zbo f fd)(T:Txt K mg)(C_ranking_of:Can P w K mg base 12 "ranking_of" ["cards","couples"] (zaT K))(C_refuse_fewer_cards:CanX P w K mg base 2 "refuse_fewer_cards" ["sheet","least"] (zL K))(C_Sheet_couples:CanM P w K mg base 1 (zH K "Sheet") "couples" ["self"] (zJ K))(C_Sheet_cards:CanM P w K mg base 3 (zH K "Sheet") "cards" ["self"] (yl K)):FnOk P w K mg base (CX1 P w) 13 f fd ["sheet"] (zcn K):=by
 refine F.okX ziy (fun vs H Q E h=>?_) (fun X W cdv A outer s H vs Q E hX hW fl md hr h=>?_)
 ·obtain⟨p,F,S,rfl,_⟩:=h
  rfl
 ·obtain⟨p,F,S,rfl,hSh,hT,qE,q⟩:=h
  subst hX
  refine⟨_,(zf (zM (ym C_refuse_fewer_cards fl (hr.mono (by decide)) rfl (za (pv 0) (za zh zc))))
   (ze (zm (zk C_ranking_of (hr.mono (by decide)) rfl (za (zK C_Sheet_cards T.cl_Sheet (hr.mono (by decide)) (pv 0)) (za (zK C_Sheet_couples T.cl_Sheet (hr.mono (by decide)) (pv 0)) zc)))))),?_⟩
  have ok:=hSh.ok
  have h15:S.handed.length≤15:=Nat.le_trans (List.length_filter_le _ _) ok.p15
  have c24:=ok.c24
  obtain⟨dx,b1,b2,b3,d,hip⟩:=hSh.ins
  refine⟨_,rfl,p,F,S,1,rfl,hSh,(fun h C H1 hC s1=>by rw[hW];exact qE (by omega) C H1 hC s1),fun h0 H1 s1=>?_⟩
  have h1:1≤S.handed.length:=by omega
  refine⟨_,rfl,p,dx,_,rfl,s1 _ _ hip,rfl,p,F,S,rfl,hSh.same s1,fun l2 H2 ls s2 f2 e2 r2=>?_⟩
  have t2:=s1.trans s2
  refine⟨_,rfl,p,dx,_,rfl,t2 _ _ hip,rfl,p,F,S,rfl,hSh.same t2,fun l3 H3 s3 f3 e3=>?_⟩
  have t3:=t2.trans s3
  refine⟨l2,l3,S.cardsIn,S.couples,rfl,⟨ls,SqL.of (s3 _ _ e2),r2.imp fun _ _ z=>SqL.of (s3 _ _ z.2)⟩,SqL.of e3,ok.nd,Sh.cardsIn_perm ok,by rw[Sh.cardsIn_len];exact h1,by rw[Sh.cardsIn_len];exact h15,ok.c1,by omega,hT.same t3,fun l4 H4 ls4 s4 z4 f4 e4 r4=>?_⟩
  exact q h1 l4 H4 ls4 (t3.toN.trans s4) z4 (t3.free f4) e4 r4
end
def zcN(K:PySem.W.Frag):Sp:=fun vs H Q E=>∃(p:Addr) (F:Addr→Prop) (S:Sh),vs = [.ref p]∧zB K H p F S∧wy (wz K "by_place") zaY H∧(S.handed.length=0→∀C H',zq K "TooFewCards" C→zi H H'→E (.ref C) none H')∧(1≤S.handed.length→∀(l:Addr) (H':Hp) (ls:List Addr),yx H H'→wy (wz K "by_place") zaY H'→H l=none→H' l=some (.lst (ls.map V.ref))→All2 (F4 K H') ls (M6.zfz S.cardsIn S.couples)→Q (.ref l) H')
section
variable {P:Program} {w:World} {K:PySem.W.Frag} {mg:Str→Option Value} {base:Heap}
theorem zhL{f:Addr}{fd:FuncData}(F:Fun K "partings" "partings" zaP f fd)(T:Txt K mg)(C_partings_of:Can P w K mg base 13 "partings_of" ["cards","couples"] (zbB K))(C_refuse_fewer_cards:CanX P w K mg base 2 "refuse_fewer_cards" ["sheet","least"] (zL K))(C_Sheet_couples:CanM P w K mg base 1 (zH K "Sheet") "couples" ["self"] (zJ K))(C_Sheet_cards:CanM P w K mg base 3 (zH K "Sheet") "cards" ["self"] (yl K)):FnOk P w K mg base (CX1 P w) 14 f fd ["sheet"] (zcN K):=by
 refine F.okX zh5 (fun vs H Q E h=>?_) (fun X W cdv A outer s H vs Q E hX hW fl md hr h=>?_)
 ·obtain⟨p,F,S,rfl,_⟩:=h
  rfl
 ·obtain⟨p,F,S,rfl,hSh,hT,qE,q⟩:=h
  subst hX
  refine⟨_,(zf (zM (ym C_refuse_fewer_cards fl (hr.mono (by decide)) rfl (za (pv 0) (za zh zc))))
   (ze (zm (zk C_partings_of (hr.mono (by decide)) rfl (za (zK C_Sheet_cards T.cl_Sheet (hr.mono (by decide)) (pv 0)) (za (zK C_Sheet_couples T.cl_Sheet (hr.mono (by decide)) (pv 0)) zc)))))),?_⟩
  have ok:=hSh.ok
  have h15:S.handed.length≤15:=Nat.le_trans (List.length_filter_le _ _) ok.p15
  have c24:=ok.c24
  obtain⟨dx,b1,b2,b3,d,hip⟩:=hSh.ins
  refine⟨_,rfl,p,F,S,1,rfl,hSh,(fun h C H1 hC s1=>by rw[hW];exact qE (by omega) C H1 hC s1),fun h0 H1 s1=>?_⟩
  have h1:1≤S.handed.length:=by omega
  refine⟨_,rfl,p,dx,_,rfl,s1 _ _ hip,rfl,p,F,S,rfl,hSh.same s1,fun l2 H2 ls s2 f2 e2 r2=>?_⟩
  have t2:=s1.trans s2
  refine⟨_,rfl,p,dx,_,rfl,t2 _ _ hip,rfl,p,F,S,rfl,hSh.same t2,fun l3 H3 s3 f3 e3=>?_⟩
  have t3:=t2.trans s3
  refine⟨l2,l3,S.cardsIn,S.couples,rfl,⟨ls,SqL.of (s3 _ _ e2),r2.imp fun _ _ z=>SqL.of (s3 _ _ z.2)⟩,SqL.of e3,ok.nd,Sh.cardsIn_perm ok,by rw[Sh.cardsIn_len];exact h1,by rw[Sh.cardsIn_len];exact h15,ok.c1,by omega,hT.same t3,fun l4 H4 ls4 s4 z4 f4 e4 r4=>?_⟩
  exact q h1 l4 H4 ls4 (t3.toN.trans s4) z4 (t3.free f4) e4 r4
end
def zfL(K:PySem.W.Frag):Sp:=fun vs H Q E=>∃(x:Addr) (F:Addr→Prop) (S:Sh),vs = [.ref x]∧zB K H x F S∧wy (wz K "by_place") zaY H∧(S.handed.length=0→∀C H',zq K "TooFewCards" C→zi H H'→E (.ref C) none H')∧(1≤S.handed.length→∀(l:Addr) (H':Hp),yx H H'→wy (wz K "by_place") zaY H'→H l=none→H' l=some (.lst ((M6.tableT S.cardsIn S.couples).map V.str))→Q (.ref l) H')
section
variable {P:Program} {w:World} {K:PySem.W.Frag} {mg:Str→Option Value} {base:Heap}
theorem ok_table{f:Addr}{fd:FuncData}(F:Fun K "table" "table" zcD f fd)(T:Txt K mg)(C_ranking:CanX P w K mg base 13 "ranking" ["sheet"] (zcn K))(C_row_text:Can P w K mg base 4 "row_text" ["sheet","place","couple"] (zbM K)):FnOk P w K mg base (CX1 P w) 14 f fd ["sheet"] (zfL K):=by
 refine F.okX sc_table (fun vs H Q E h=>?_) (fun X W cdv A outer s H vs Q E hX hW fl md hr h=>?_)
 ·obtain⟨x,F,S,rfl,_⟩:=h
  rfl
 ·obtain⟨x,F,S,rfl,hSh,hL,qE,q⟩:=h
  subst hX
  refine⟨_,(ze (zm (ziv (show CompScope2 (zd zcD) ["sheet"] "place" "couple" ["sheet"] [0] _ from⟨rfl,by decide +kernel,by decide +kernel,rfl,rfl,by decide +kernel,rfl,by decide +kernel,by decide +kernel⟩) rfl (zO (ym C_ranking fl (hr.mono (by decide)) rfl (za (pv 0) zc))) (fun _ _ _ _ _=>wd) (fun _ _ _ _ _=>(zk C_row_text (hr.mono (by decide)) rfl (za (pv 2) (za (pv 0) (za (pv 1) zc)))))))),?_⟩
  have hln:=zC
  have ok:=hSh.ok
  have c24:=ok.c24
  refine⟨_,rfl,x,F,S,rfl,hSh,hL,(fun h C H1 hC s1=>by rw[hW];exact qE h C H1 hC s1),fun h1 l1 H1 ls s1 z1 f1 e1 r1=>?_⟩
  obtain⟨F1,hF1,g1⟩:=hSh.sameN s1
  have hrl:=M5.rows_len (M6.zU S.cardsIn S.couples) S.couples (M6.zbJ _ _)
  have hmul:S.couples.length*S.couples.length≤24*24:=Nat.mul_le_mul (by omega) (by omega)
  refine⟨l1,rfl,⟨_,SqL.of e1⟩,?_⟩
  refine zfl (f:=fun p=>M6.rowT p.1 p.2 (M5.zA S.cardsIn p.2) S.couples.length) (SqL.of e1) r1 (by omega) (fun p H' R hp s' h=>?_) fun H2 s2=>?_
  ·obtain⟨m1,m2⟩:=M6.zhB hp
   have hb:p.1.natAbs≤990:=by
    rw[m2]
    unfold M6.wV
    have:=List.length_filter_le (fun d=>M6.yw (M5.zA S.cardsIn d) (M5.zA S.cardsIn p.2) S.couples.length) S.couples
    omega
   exact⟨_,rfl,_,rfl,_,rfl,x,F1,S,p.1,p.2,rfl,g1.same s',m1,hb,fun H2 s2=>h H2 s2⟩
  ·intro l2 hl2
   exact q h1 l2 _ (s1.trans (s2.newT hl2).toN) (z1.same (s2.newT hl2)) (s1.free (s2.free hl2)) zg
end
def wu(K:PySem.W.Frag):Sp:=fun vs H Q E=>∃(p:Addr) (F:Addr→Prop) (S:Sh) (k:Int),vs = [.ref p,.int k]∧zB K H p F S∧wy (wz K "by_place") zaY H∧k∈([0,1,2,3,4,5]:List Int)∧((k<5∧S.handed.length=0)∨(k=5∧S.handed.length<2)→∀C H',zq K "TooFewCards" C→zi H H'→E (.ref C) none H')∧(¬((k<5∧S.handed.length=0)∨(k=5∧S.handed.length<2))→∀H',yx H H'→wy (wz K "by_place") zaY H'→Q .non H')
section
variable {P:Program} {w:World} {K:PySem.W.Frag} {mg:Str→Option Value} {base:Heap}
theorem zcM{f:Addr}{fd:FuncData}(F:Fun K "_law_plain_question" "_law_plain_question" zZ f fd)(T:Txt K mg)(C_places:CanX P w K mg base 7 "places" ["sheet"] (zcd K))(C_ranking:CanX P w K mg base 13 "ranking" ["sheet"] (zcn K))(C_firsts:CanX P w K mg base 8 "firsts" ["sheet"] (zc8 K))(C_partings:CanX P w K mg base 14 "partings" ["sheet"] (zcN K))(C_deciders:CanX P w K mg base 9 "deciders" ["sheet"] (zcP K))(C_table:CanX P w K mg base 14 "table" ["sheet"] (zfL K)):FnOk P w K mg base (CX1 P w) 15 f fd ["_law_sheet_here","_law_which"] (wu K):=by
 refine F.okX zcK (fun vs H Q E h=>?_) (fun X W cdv A outer s H vs Q E hX hW fl md hr h=>?_)
 ·obtain⟨p,F,S,k,rfl,_⟩:=h
  rfl
 ·obtain⟨p,F,S,k,rfl,hSh,hL,hk,qE,q⟩:=h
  subst hX
  refine⟨_,(ze (zE (zo yk (pv 1) zh (zt _)) (ze (zM (ym C_places fl (hr.mono (by decide)) rfl (za (pv 0) zc)))) (ze (zE (zo yk (pv 1) zh (zt _)) (ze (zM (ym C_ranking fl (hr.mono (by decide)) rfl (za (pv 0) zc)))) (ze (zE (zo yk (pv 1) zh (zt _)) (ze (zM (ym C_firsts fl (hr.mono (by decide)) rfl (za (pv 0) zc)))) (ze (zE (zo yk (pv 1) zh (zt _)) (ze (zM (ym C_partings fl (hr.mono (by decide)) rfl (za (pv 0) zc)))) (ze (zE (zo yk (pv 1) zh (zt _)) (ze (zM (ym C_table fl (hr.mono (by decide)) rfl (za (pv 0) zc)))) (ze (zM (ym C_deciders fl (hr.mono (by decide)) rfl (za (pv 0) zc)))))))))))))),?_⟩
  simp only[List.mem_cons,List.not_mem_nil,or_false] at hk
  rcases hk with rfl | rfl | rfl | rfl | rfl | rfl
  ·refine⟨_,rfl,rfl,_,rfl,zgj (by decide) ?_⟩
   exact⟨_,rfl,p,F,S,rfl,hSh,(fun h C H' hC s'=>by rw[hW];exact qE (.inl ⟨by decide,h⟩) C H' hC s'),fun h l H' s' _ _=>q (fun z=>by omega) H' s'.toN (hL.same s')⟩
  ·refine⟨_,rfl,rfl,_,rfl,zbu (by decide) ⟨_,rfl,rfl,_,rfl,zgj (by decide) ?_⟩⟩
   exact⟨_,rfl,p,F,S,rfl,hSh,hL,(fun h C H' hC s'=>by rw[hW];exact qE (.inl ⟨by decide,h⟩) C H' hC s'),fun h l H' ls s' z' _ _ _=>q (fun z=>by omega) H' s' z'⟩
  ·refine⟨_,rfl,rfl,_,rfl,zbu (by decide) ⟨_,rfl,rfl,_,rfl,zbu (by decide) ⟨_,rfl,rfl,_,rfl,zgj (by decide) ?_⟩⟩⟩
   exact⟨_,rfl,p,F,S,rfl,hSh,(fun h C H' hC s'=>by rw[hW];exact qE (.inl ⟨by decide,h⟩) C H' hC s'),fun h l H' s' _ _=>q (fun z=>by omega) H' s'.toN (hL.same s')⟩
  ·refine⟨_,rfl,rfl,_,rfl,zbu (by decide) ⟨_,rfl,rfl,_,rfl,zbu (by decide) ⟨_,rfl,rfl,_,rfl,zbu (by decide) ⟨_,rfl,rfl,_,rfl,zgj (by decide) ?_⟩⟩⟩⟩
   exact⟨_,rfl,p,F,S,rfl,hSh,hL,(fun h C H' hC s'=>by rw[hW];exact qE (.inl ⟨by decide,h⟩) C H' hC s'),fun h l H' ls s' z' _ _ _=>q (fun z=>by omega) H' s' z'⟩
  ·refine⟨_,rfl,rfl,_,rfl,zbu (by decide) ⟨_,rfl,rfl,_,rfl,zbu (by decide) ⟨_,rfl,rfl,_,rfl,zbu (by decide) ⟨_,rfl,rfl,_,rfl,zbu (by decide) ⟨_,rfl,rfl,_,rfl,zgj (by decide) ?_⟩⟩⟩⟩⟩
   exact⟨_,rfl,p,F,S,rfl,hSh,hL,(fun h C H' hC s'=>by rw[hW];exact qE (.inl ⟨by decide,h⟩) C H' hC s'),fun h l H' s' z' _ _=>q (fun z=>by omega) H' s' z'⟩
  ·refine⟨_,rfl,rfl,_,rfl,zbu (by decide) ⟨_,rfl,rfl,_,rfl,zbu (by decide) ⟨_,rfl,rfl,_,rfl,zbu (by decide) ⟨_,rfl,rfl,_,rfl,zbu (by decide) ⟨_,rfl,rfl,_,rfl,zbu (by decide) ?_⟩⟩⟩⟩⟩
   exact⟨_,rfl,p,F,S,rfl,hSh,(fun h C H' hC s'=>by rw[hW];exact qE (.inr ⟨rfl,h⟩) C H' hC s'),fun h l H' s' _ _=>q (fun z=>by omega) H' s'.toN (hL.same s')⟩
end
def zdt(x:Str):Str:=if x= "TooFewCards" then "f" else if x= "UnknownJudge" then "j" else if x= "NoCard" then "n" else if x= "UnknownCouple" then "c" else if x= "AtTop" then "t" else "?"
def five:List Str := ["TooFewCards","UnknownJudge","NoCard","UnknownCouple","AtTop"]
def za0(S:Sh)(k:Int)(j:Str)(c:Int):Option Str :=
 if k<5 then(if S.handed.length=0 then some "TooFewCards" else none)else if k=5 then(if S.handed.length<2 then some "TooFewCards" else none)else
 if k=6 then(if S.handed.length=0 then some "TooFewCards" else if c∈S.couples then none else some "UnknownCouple")else
 if k=7 then(if j∈S.panel then(match S.card j with | none=>some "NoCard" | some _=>if S.handed.length<2 then some "TooFewCards" else none)else some "UnknownJudge")else
 if k=8 then(if j∈S.panel then(match S.card j with | none=>some "NoCard" | some _=>none)else some "UnknownJudge")else
 (if j∈S.panel then(match S.card j with | none=>some "NoCard" | some d=>if c∈S.couples then(if d.getD 0 0=c then some "AtTop" else none)else some "UnknownCouple")else some "UnknownJudge")
theorem zjA{S:Sh}{k:Int}{j:Str}{c:Int}{x:Str}(h:za0 S k j c=some x):x∈five:=by
 unfold za0 at h
 repeat' split at h
 all_goals first
  | (cases h;done)
  | (injection h with h;subst h;decide)
def wv(o:Option Str):Str:=match o with | none=> "" | some x=>zdt x
def zcB(K:PySem.W.Frag):Sp:=fun vs H Q _=>∃(p:Addr) (F:Addr→Prop) (S:Sh) (k:Int) (j:Str) (c:Int),vs = [.ref p,.int k,.str j,.int c]∧zB K H p F S∧wy (wz K "by_place") zaY H∧k∈([0,1,2,3,4,5,6,7,8,9]:List Int)∧∀H',yx H H'→wy (wz K "by_place") zaY H'→Q (.str (wv (za0 S k j c))) H'
section
variable {P:Program} {w:World} {K:PySem.W.Frag} {mg:Str→Option Value} {base:Heap}
theorem zgR{f:Addr}{fd:FuncData}(F:Fun K "_law_asked" "_law_asked" zaq f fd)(T:Txt K mg)(C_left_out:CanX P w K mg base 7 "left_out" ["sheet","judge"] (zcY K))(C_step_up:CanX P w K mg base 7 "step_up" ["sheet","judge","couple"] (zds K))(C_table_row:CanX P w K mg base 8 "table_row" ["sheet","couple"] (zcm K))(C_law_plain_question:CanX P w K mg base 15 "_law_plain_question" ["_law_sheet_here","_law_which"] (wu K))(C_Sheet_card_of:CanMX P w K mg base 2 (zH K "Sheet") "card_of" ["self","judge"] (ya K)):FnOk P w K mg base CX0 16 f fd ["_law_sheet_here","_law_which","_law_judge","_law_couple"] (zcB K):=by
 obtain⟨c_PanelError,n_PanelError,m_PanelError,x_PanelError⟩:=T.x_PanelError
 obtain⟨c_UnknownJudge,n_UnknownJudge,m_UnknownJudge,x_UnknownJudge⟩:=T.x_UnknownJudge
 obtain⟨c_UnknownCouple,n_UnknownCouple,m_UnknownCouple,x_UnknownCouple⟩:=T.x_UnknownCouple
 obtain⟨c_NoCard,n_NoCard,m_NoCard,x_NoCard⟩:=T.x_NoCard
 obtain⟨c_TooFewCards,n_TooFewCards,m_TooFewCards,x_TooFewCards⟩:=T.x_TooFewCards
 obtain⟨c_AtTop,n_AtTop,m_AtTop,x_AtTop⟩:=T.x_AtTop
 refine F.ok wa (fun vs H Q E h=>?_) (fun cdv A outer s H vs Q E hr h=>?_)
 ·obtain⟨p,F,S,k,j,c,rfl,_⟩:=h
  rfl
 ·obtain⟨p,F,S,k,j,c,rfl,hSh,hL,hk,q⟩:=h
  refine⟨_,(zf (zD (i:=4) wa.nd rfl (Or.inl rfl) zF)
   (zf (ps_try rfl rfl (fun _ _ _ fl=>(ze (zE (zo zdM (pv 1) zh (zt _)) (ze (zM (ym C_law_plain_question fl (hr.mono (by decide)) rfl (za (pv 0) (za (pv 1) zc))))) (ze (zE (zo yk (pv 1) zh (zt _)) (ze (zM (ym C_table_row fl (hr.mono (by decide)) rfl (za (pv 0) (za (pv 3) zc))))) (ze (zE (zo yk (pv 1) zh (zt _)) (ze (zM (ym C_left_out fl (hr.mono (by decide)) rfl (za (pv 0) (za (pv 2) zc))))) (ze (zE (zo yk (pv 1) zh (zt _)) (ze (zM (wI C_Sheet_card_of T.cl_Sheet fl (hr.mono (by decide)) (pv 0) (za (pv 2) zc)))) (ze (zM (ym C_step_up fl (hr.mono (by decide)) rfl (za (pv 0) (za (pv 2) (za (pv 3) zc))))))))))))))) (ph_as (i:=5) rfl m_PanelError x_PanelError wa.nd rfl rfl (fun _=>(zf (zD (i:=4) wa.nd rfl (Or.inl rfl) (zz yO (zz zaQ zF (zP zbn (by rfl) T.b_int PyProof.Rows.boot_int (za (zr (wK (K:=K) rfl) (by rfl) T.b_isinstance PyProof.Rows.boot_isinstance (za (pv 5) (za (zfr rfl m_TooFewCards) zc))) zc))) (zz zaQ zF (zP zbn (by rfl) T.b_int PyProof.Rows.boot_int (za (zr (wK (K:=K) rfl) (by rfl) T.b_isinstance PyProof.Rows.boot_isinstance (za (pv 5) (za (zfr rfl m_UnknownJudge) zc))) zc)))))
   (zf (zD (i:=4) wa.nd rfl (Or.inl rfl) (zz yO (zz yO (pv 4) (zz zaQ zF (zP zbn (by rfl) T.b_int PyProof.Rows.boot_int (za (zr (wK (K:=K) rfl) (by rfl) T.b_isinstance PyProof.Rows.boot_isinstance (za (pv 5) (za (zfr rfl m_NoCard) zc))) zc)))) (zz zaQ zF (zP zbn (by rfl) T.b_int PyProof.Rows.boot_int (za (zr (wK (K:=K) rfl) (by rfl) T.b_isinstance PyProof.Rows.boot_isinstance (za (pv 5) (za (zfr rfl m_UnknownCouple) zc))) zc)))))
   (zf (zD (i:=4) wa.nd rfl (Or.inl rfl) (zz yO (pv 4) (zz zaQ zF (zP zbn (by rfl) T.b_int PyProof.Rows.boot_int (za (zr (wK (K:=K) rfl) (by rfl) T.b_isinstance PyProof.Rows.boot_isinstance (za (pv 5) (za (zfr rfl m_AtTop) zc))) zc)))))
   (ze (zD (i:=4) wa.nd rfl (Or.inl rfl) (zz yO (pv 4) (zz zaQ zF (zP zbn (by rfl) T.b_int PyProof.Rows.boot_int (za (zbl yk (pv 4) zF (zt _)) zc)))))))))) ph_never))
   (ze (zm (pv 4))))),?_⟩
  have ok:=hSh.ok
  obtain⟨dx,b1,b2,b3,dd,hip⟩:=hSh.ins
  have rf:=zi.refl H
  refine⟨fun σ1 cls H2=>σ1 = [some (.ref p),some (.int k),some (.str j),some (.int c),some (.str ""),none]∧zi H H2∧∃x C,za0 S k j c=some x∧zq K x C∧cls=.ref C,?_,?_⟩
  ·have qn:za0 S k j c=none→∀H',yx H H'→wy (wz K "by_place") zaY H'→Q (.str "") H':=fun h H' s' z'=>by
    have:=q H' s' z'
    rw[h] at this
    exact this
   obtain⟨R,qe,hR⟩:∃R:Addr→Hp→Prop,(∀x,za0 S k j c=some x→∀C H',zq K x C→zi H H'→R C H')∧∀C H',R C H' → [some (V.ref p),some (.int k),some (.str j),some (.int c),some (.str ""),none] = [some (.ref p),some (.int k),some (.str j),some (.int c),some (.str ""),none]∧zi H H'∧∃x C',za0 S k j c=some x∧zq K x C'∧Value.ref C=.ref C':=⟨fun C H'=>zi H H'∧∃x C',za0 S k j c=some x∧zq K x C'∧Value.ref C=.ref C',fun x h C H' hC s'=>⟨s',x,C,h,hC,rfl⟩,fun C H' h=>⟨rfl,h⟩⟩
   unfold za0 at qn qe
   refine⟨_,rfl,_,_,rfl,rfl,_,rfl,yI (fun h6=>?_) (fun h6=>?_)⟩
   ·have hk6:k∈([0,1,2,3,4,5]:List Int):=by
     simp only[List.mem_cons,List.not_mem_nil,or_false] at hk ⊢
     omega
    refine⟨_,rfl,_,rfl,p,F,S,k,rfl,hSh,hL,hk6,(fun h C H' hC s'=>?_),fun h H' s' z'=>?_⟩
    ·refine hR _ _ (qe "TooFewCards" ?_ C H' hC s')
     rcases h with h | h
     ·rw[if_pos h.1,if_pos h.2]
     ·rw[if_neg (by omega),if_pos h.1,if_pos h.2]
    ·refine⟨_,rfl,qn ?_ H' s' z'⟩
     by_cases h5:k<5
     ·rw[if_pos h5,if_neg (fun z=>h (.inl ⟨h5,z⟩))]
     ·rw[if_neg h5,if_pos (by omega),if_neg (fun z=>h (.inr ⟨by omega,z⟩))]
   simp only[if_neg (show ¬k<5 by omega),if_neg (show ¬k=5 by omega)] at qn qe
   refine⟨_,rfl,rfl,_,rfl,yI (fun h7=>?_) (fun h7=>?_)⟩
   ·have h7:k=6:=by injection h7
    simp only[if_pos h7] at qn qe
    refine⟨_,rfl,_,rfl,p,F,S,c,rfl,hSh,(fun h C H' hC s'=>?_),(fun h1 hn C H' hC s'=>?_),fun h1 hc H' s'=>⟨_,rfl,?_⟩⟩
    ·exact hR _ _ (qe _ (if_pos h) C H' hC s')
    ·exact hR _ _ (qe "UnknownCouple" (by rw[if_neg (by omega),if_neg hn]) C H' hC s')
    ·exact qn (by rw[if_neg (by omega),if_pos hc]) H' s'.toN (hL.same s')
   have h7:¬k=6:=fun z=>h7 (by rw[z])
   simp only[if_neg h7] at qn qe
   refine⟨_,rfl,rfl,_,rfl,yI (fun h8=>?_) (fun h8=>?_)⟩
   ·have h8:k=7:=by injection h8
    simp only[if_pos h8] at qn qe
    refine⟨_,rfl,_,rfl,p,F,S,j,rfl,hSh,(fun hn C hC=>?_),(fun hp hn C hC=>?_),(fun hj hl C H' hC s'=>?_),fun hj hl l H' s' _ _=>⟨_,rfl,?_⟩⟩
    ·exact hR _ _ (qe _ (if_neg hn) C H hC rf)
    ·exact hR _ _ (qe "NoCard" (by rw[if_pos hp,hn]) C H hC rf)
    ·have hm:=List.mem_filter.mp hj
     cases e:S.card j with
     | none=>rw[e] at hm;exact absurd hm.2 Bool.false_ne_true
     | some d=>exact hR _ _ (qe "TooFewCards" (by rw[if_pos hm.1,e];exact if_pos hl) C H' hC s')
    ·have hm:=List.mem_filter.mp hj
     cases e:S.card j with
     | none=>rw[e] at hm;exact absurd hm.2 Bool.false_ne_true
     | some d=>exact qn (by rw[if_pos hm.1,e];exact if_neg (by omega)) H' s'.toN (hL.same s')
   have h8:¬k=7:=fun z=>h8 (by rw[z])
   simp only[if_neg h8] at qn qe
   refine⟨_,rfl,rfl,_,rfl,yI (fun h9=>?_) (fun h9=>?_)⟩
   ·have h9:k=8:=by injection h9
    simp only[if_pos h9] at qn qe
    refine⟨_,rfl,p,dx,_,rfl,hip,rfl,_,rfl,p,F,S,j,rfl,hSh,(fun hn C hC=>?_),(fun hp hn C hC=>?_),fun d hd l H' s' _ _=>⟨_,rfl,?_⟩⟩
    ·exact hR _ _ (qe _ (if_neg hn) C H hC rf)
    ·exact hR _ _ (qe "NoCard" (by rw[if_pos hp,hn]) C H hC rf)
    ·exact qn (by rw[if_pos (ok.cd j d hd).1,hd]) H' s'.toN (hL.same s')
   have h9:¬k=8:=fun z=>h9 (by rw[z])
   simp only[if_neg h9] at qn qe
   refine⟨_,rfl,_,rfl,_,rfl,p,F,S,j,c,rfl,hSh,(fun hn C hC=>?_),(fun hp hn C hC=>?_),(fun hs hn C H' hC s'=>?_),(fun d hd hm ht C H' hC s'=>?_),fun d i hd i0 hi e t l H' s' _ _ _ _=>⟨_,rfl,?_⟩⟩
   ·exact hR _ _ (qe _ (if_neg hn) C H hC rf)
   ·exact hR _ _ (qe "NoCard" (by rw[if_pos hp,hn]) C H hC rf)
   ·cases e:S.card j with
    | none=>rw[e] at hs;cases hs
    | some d=>exact hR _ _ (qe "UnknownCouple" (by rw[if_pos (ok.cd j d e).1,e];exact if_neg hn) C H' hC s')
   ·exact hR _ _ (qe "AtTop" (by rw[if_pos (ok.cd j d hd).1,hd];show(if c∈S.couples then _ else _)=_;rw[if_pos hm,if_pos ht]) C H' hC s')
   ·have hp:=(ok.cd j d hd).2
    have hc:c∈S.couples:=hp.mem_iff.mp (by rw[← e];exact ww hi)
    have hne:¬d.getD 0 0=c:=fun z=>by
     have nd:d.Nodup:=hp.nodup_iff.mpr ok.nd
     have e2:d[0]'(by omega)=d[i]:=by
      rw[← e,List.getD_eq_getElem?_getD,List.getD_eq_getElem?_getD,List.getElem?_eq_getElem hi,List.getElem?_eq_getElem (show 0<d.length by omega)] at z
      exact z
     have g1:=nd.idxOf_getElem 0 (by omega)
     have g2:=nd.idxOf_getElem i hi
     rw[e2] at g1
     omega
    exact qn (by rw[if_pos (ok.cd j d hd).1,hd];show(if c∈S.couples then _ else _)=_;rw[if_pos hc,if_neg hne]) H' s'.toN (hL.same s')
  ·rintro σ1 cls H2 ⟨rfl,s2,x,C,hx,hC,rfl⟩
   rw[hx] at q
   have qx:∀H',yx H H'→wy (wz K "by_place") zaY H'→Q (.str (zdt x)) H':=q
   have hx:=zjA hx
   clear q
   have hL2:=hL.same s2
   unfold five at hx
   simp only[List.mem_cons,List.not_mem_nil,or_false] at hx
   rcases hx with rfl | rfl | rfl | rfl | rfl
   ·cases zq.inj hC n_TooFewCards
    have i0:=T.i_TooFewCards _ n_TooFewCards
    refine⟨c_TooFewCards,rfl,x_TooFewCards,zgj (T.s_TooFewCards_PanelError _ _ n_TooFewCards n_PanelError) fun y hy=>?_⟩
    have s3:=s2.newT (o:=zbX y (.ref c_TooFewCards)) hy
    have e3:upd H2 y (zbX y (.ref c_TooFewCards)) y=some (zbX y (.ref c_TooFewCards)):=zg
    generalize hH3:upd H2 y _=H3 at s3 e3 ⊢
    refine⟨_,rfl,y,c_TooFewCards,_,_,_,rfl,rfl,e3,i0,T.k_TooFewCards_TooFewCards _ _ n_TooFewCards n_TooFewCards,.inr ⟨_,rfl,_,_,rfl,rfl,zfd _,_,rfl,y,c_TooFewCards,_,_,_,rfl,rfl,e3,i0,T.k_TooFewCards_UnknownJudge _ _ n_TooFewCards n_UnknownJudge,.inr ⟨_,rfl,_,_,rfl,rfl,yp _,_,_,rfl,rfl,(by decide),_,rfl,_,rfl,y,c_TooFewCards,_,_,_,rfl,rfl,e3,i0,T.k_TooFewCards_NoCard _ _ n_TooFewCards n_NoCard,.inr ⟨_,rfl,_,_,rfl,rfl,yp _,_,_,rfl,rfl,(by decide),_,rfl,y,c_TooFewCards,_,_,_,rfl,rfl,e3,i0,T.k_TooFewCards_UnknownCouple _ _ n_TooFewCards n_UnknownCouple,.inr ⟨_,rfl,_,_,rfl,rfl,yp _,_,_,rfl,rfl,(by decide),_,rfl,_,rfl,y,c_TooFewCards,_,_,_,rfl,rfl,e3,i0,T.k_TooFewCards_AtTop _ _ n_TooFewCards n_AtTop,.inr ⟨_,rfl,_,_,rfl,rfl,yp _,_,_,rfl,rfl,(by decide),_,rfl,_,rfl,rfl,.inr ⟨_,rfl,_,_,rfl,rfl,?_,?_⟩⟩⟩⟩⟩⟩⟩
    ·exact yp _
    ·refine⟨_,_,rfl,rfl,(by decide),_,rfl,?_⟩
     exact qx _ s3.toN (hL.same s3)
   ·cases zq.inj hC n_UnknownJudge
    have i0:=T.i_UnknownJudge _ n_UnknownJudge
    refine⟨c_UnknownJudge,rfl,x_UnknownJudge,zgj (T.s_UnknownJudge_PanelError _ _ n_UnknownJudge n_PanelError) fun y hy=>?_⟩
    have s3:=s2.newT (o:=zbX y (.ref c_UnknownJudge)) hy
    have e3:upd H2 y (zbX y (.ref c_UnknownJudge)) y=some (zbX y (.ref c_UnknownJudge)):=zg
    generalize hH3:upd H2 y _=H3 at s3 e3 ⊢
    refine⟨_,rfl,y,c_UnknownJudge,_,_,_,rfl,rfl,e3,i0,T.k_UnknownJudge_TooFewCards _ _ n_UnknownJudge n_TooFewCards,.inr ⟨_,rfl,_,_,rfl,rfl,yp _,_,rfl,y,c_UnknownJudge,_,_,_,rfl,rfl,e3,i0,T.k_UnknownJudge_UnknownJudge _ _ n_UnknownJudge n_UnknownJudge,.inr ⟨_,rfl,_,_,rfl,rfl,zfd _,_,_,rfl,rfl,(by decide),_,rfl,_,rfl,y,c_UnknownJudge,_,_,_,rfl,rfl,e3,i0,T.k_UnknownJudge_NoCard _ _ n_UnknownJudge n_NoCard,.inr ⟨_,rfl,_,_,rfl,rfl,yp _,_,_,rfl,rfl,(by decide),_,rfl,y,c_UnknownJudge,_,_,_,rfl,rfl,e3,i0,T.k_UnknownJudge_UnknownCouple _ _ n_UnknownJudge n_UnknownCouple,.inr ⟨_,rfl,_,_,rfl,rfl,yp _,_,_,rfl,rfl,(by decide),_,rfl,_,rfl,y,c_UnknownJudge,_,_,_,rfl,rfl,e3,i0,T.k_UnknownJudge_AtTop _ _ n_UnknownJudge n_AtTop,.inr ⟨_,rfl,_,_,rfl,rfl,yp _,_,_,rfl,rfl,(by decide),_,rfl,_,rfl,rfl,.inr ⟨_,rfl,_,_,rfl,rfl,?_,?_⟩⟩⟩⟩⟩⟩⟩
    ·exact yp _
    ·refine⟨_,_,rfl,rfl,(by decide),_,rfl,?_⟩
     exact qx _ s3.toN (hL.same s3)
   ·cases zq.inj hC n_NoCard
    have i0:=T.i_NoCard _ n_NoCard
    refine⟨c_NoCard,rfl,x_NoCard,zgj (T.s_NoCard_PanelError _ _ n_NoCard n_PanelError) fun y hy=>?_⟩
    have s3:=s2.newT (o:=zbX y (.ref c_NoCard)) hy
    have e3:upd H2 y (zbX y (.ref c_NoCard)) y=some (zbX y (.ref c_NoCard)):=zg
    generalize hH3:upd H2 y _=H3 at s3 e3 ⊢
    refine⟨_,rfl,y,c_NoCard,_,_,_,rfl,rfl,e3,i0,T.k_NoCard_TooFewCards _ _ n_NoCard n_TooFewCards,.inr ⟨_,rfl,_,_,rfl,rfl,yp _,_,rfl,y,c_NoCard,_,_,_,rfl,rfl,e3,i0,T.k_NoCard_UnknownJudge _ _ n_NoCard n_UnknownJudge,.inr ⟨_,rfl,_,_,rfl,rfl,yp _,_,_,rfl,rfl,(by decide),_,rfl,_,rfl,y,c_NoCard,_,_,_,rfl,rfl,e3,i0,T.k_NoCard_NoCard _ _ n_NoCard n_NoCard,.inr ⟨_,rfl,_,_,rfl,rfl,zfd _,_,_,rfl,rfl,(by decide),_,rfl,y,c_NoCard,_,_,_,rfl,rfl,e3,i0,T.k_NoCard_UnknownCouple _ _ n_NoCard n_UnknownCouple,.inr ⟨_,rfl,_,_,rfl,rfl,yp _,_,_,rfl,rfl,(by decide),_,rfl,_,rfl,y,c_NoCard,_,_,_,rfl,rfl,e3,i0,T.k_NoCard_AtTop _ _ n_NoCard n_AtTop,.inr ⟨_,rfl,_,_,rfl,rfl,yp _,_,_,rfl,rfl,(by decide),_,rfl,_,rfl,rfl,.inr ⟨_,rfl,_,_,rfl,rfl,?_,?_⟩⟩⟩⟩⟩⟩⟩
    ·exact yp _
    ·refine⟨_,_,rfl,rfl,(by decide),_,rfl,?_⟩
     exact qx _ s3.toN (hL.same s3)
   ·cases zq.inj hC n_UnknownCouple
    have i0:=T.i_UnknownCouple _ n_UnknownCouple
    refine⟨c_UnknownCouple,rfl,x_UnknownCouple,zgj (T.s_UnknownCouple_PanelError _ _ n_UnknownCouple n_PanelError) fun y hy=>?_⟩
    have s3:=s2.newT (o:=zbX y (.ref c_UnknownCouple)) hy
    have e3:upd H2 y (zbX y (.ref c_UnknownCouple)) y=some (zbX y (.ref c_UnknownCouple)):=zg
    generalize hH3:upd H2 y _=H3 at s3 e3 ⊢
    refine⟨_,rfl,y,c_UnknownCouple,_,_,_,rfl,rfl,e3,i0,T.k_UnknownCouple_TooFewCards _ _ n_UnknownCouple n_TooFewCards,.inr ⟨_,rfl,_,_,rfl,rfl,yp _,_,rfl,y,c_UnknownCouple,_,_,_,rfl,rfl,e3,i0,T.k_UnknownCouple_UnknownJudge _ _ n_UnknownCouple n_UnknownJudge,.inr ⟨_,rfl,_,_,rfl,rfl,yp _,_,_,rfl,rfl,(by decide),_,rfl,_,rfl,y,c_UnknownCouple,_,_,_,rfl,rfl,e3,i0,T.k_UnknownCouple_NoCard _ _ n_UnknownCouple n_NoCard,.inr ⟨_,rfl,_,_,rfl,rfl,yp _,_,_,rfl,rfl,(by decide),_,rfl,y,c_UnknownCouple,_,_,_,rfl,rfl,e3,i0,T.k_UnknownCouple_UnknownCouple _ _ n_UnknownCouple n_UnknownCouple,.inr ⟨_,rfl,_,_,rfl,rfl,zfd _,_,_,rfl,rfl,(by decide),_,rfl,_,rfl,y,c_UnknownCouple,_,_,_,rfl,rfl,e3,i0,T.k_UnknownCouple_AtTop _ _ n_UnknownCouple n_AtTop,.inr ⟨_,rfl,_,_,rfl,rfl,yp _,_,_,rfl,rfl,(by decide),_,rfl,_,rfl,rfl,.inr ⟨_,rfl,_,_,rfl,rfl,?_,?_⟩⟩⟩⟩⟩⟩⟩
    ·exact yp _
    ·refine⟨_,_,rfl,rfl,(by decide),_,rfl,?_⟩
     exact qx _ s3.toN (hL.same s3)
   ·cases zq.inj hC n_AtTop
    have i0:=T.i_AtTop _ n_AtTop
    refine⟨c_AtTop,rfl,x_AtTop,zgj (T.s_AtTop_PanelError _ _ n_AtTop n_PanelError) fun y hy=>?_⟩
    have s3:=s2.newT (o:=zbX y (.ref c_AtTop)) hy
    have e3:upd H2 y (zbX y (.ref c_AtTop)) y=some (zbX y (.ref c_AtTop)):=zg
    generalize hH3:upd H2 y _=H3 at s3 e3 ⊢
    refine⟨_,rfl,y,c_AtTop,_,_,_,rfl,rfl,e3,i0,T.k_AtTop_TooFewCards _ _ n_AtTop n_TooFewCards,.inr ⟨_,rfl,_,_,rfl,rfl,yp _,_,rfl,y,c_AtTop,_,_,_,rfl,rfl,e3,i0,T.k_AtTop_UnknownJudge _ _ n_AtTop n_UnknownJudge,.inr ⟨_,rfl,_,_,rfl,rfl,yp _,_,_,rfl,rfl,(by decide),_,rfl,_,rfl,y,c_AtTop,_,_,_,rfl,rfl,e3,i0,T.k_AtTop_NoCard _ _ n_AtTop n_NoCard,.inr ⟨_,rfl,_,_,rfl,rfl,yp _,_,_,rfl,rfl,(by decide),_,rfl,y,c_AtTop,_,_,_,rfl,rfl,e3,i0,T.k_AtTop_UnknownCouple _ _ n_AtTop n_UnknownCouple,.inr ⟨_,rfl,_,_,rfl,rfl,yp _,_,_,rfl,rfl,(by decide),_,rfl,_,rfl,y,c_AtTop,_,_,_,rfl,rfl,e3,i0,T.k_AtTop_AtTop _ _ n_AtTop n_AtTop,.inr ⟨_,rfl,_,_,rfl,rfl,zfd _,_,_,rfl,rfl,(by decide),_,rfl,_,rfl,rfl,.inr ⟨_,rfl,_,_,rfl,rfl,?_,?_⟩⟩⟩⟩⟩⟩⟩
    ·exact yp _
    ·refine⟨_,_,rfl,rfl,(by decide),_,rfl,?_⟩
     exact qx _ s3.toN (hL.same s3)
end
theorem zaZ:zdt "TooFewCards" = "f" := by decide
theorem ze2:zdt "UnknownJudge" = "j" := by decide
theorem zfq:zdt "NoCard" = "n" := by decide
theorem zhW:zdt "UnknownCouple" = "c" := by decide
theorem letter_t:zdt "AtTop" = "t" := by decide
theorem zjj{S:Sh}(ok:S.Ok){k c:Int}{j:Str}(hk:k∈([0,1,2,3,4,5,6,7,8,9]:List Int)){o:Option (List Int)}(ho:6<k→o=if j∈S.panel then some ((S.card j).getD [])else none):zck k S.handed.length o S.couples c=wv (za0 S k j c):=by
 have hfull:∀d,S.card j=some d→d ≠ []:=fun d e=>ok.full e
 simp only[List.mem_cons,List.not_mem_nil,or_false] at hk
 rcases hk with rfl | rfl | rfl | rfl | rfl | rfl | rfl | rfl | rfl | rfl
 ·by_cases h:S.handed.length=0 <;> simp[zck,za0,wv,zaZ,h]
 ·by_cases h:S.handed.length=0 <;> simp[zck,za0,wv,zaZ,h]
 ·by_cases h:S.handed.length=0 <;> simp[zck,za0,wv,zaZ,h]
 ·by_cases h:S.handed.length=0 <;> simp[zck,za0,wv,zaZ,h]
 ·by_cases h:S.handed.length=0 <;> simp[zck,za0,wv,zaZ,h]
 ·by_cases h:S.handed.length<2 <;> simp[zck,za0,wv,zaZ,h]
 ·by_cases h:S.handed.length=0 <;> by_cases h2:c∈S.couples <;> simp[zck,za0,wv,zaZ,zhW,h,h2]
 ·rw[ho (by decide)]
  by_cases h2:j∈S.panel
  ·cases e:S.card j with
   | none=>simp[zck,za0,wv,zfq,h2,e]
   | some d =>
     have:=hfull d e
     by_cases h3:S.handed.length<2 <;> simp[zck,za0,wv,zaZ,h2,e,h3,this]
  ·simp[zck,za0,wv,ze2,h2]
 ·rw[ho (by decide)]
  by_cases h2:j∈S.panel
  ·cases e:S.card j with
   | none=>simp[zck,za0,wv,zfq,h2,e]
   | some d =>
     have:=hfull d e
     simp[zck,za0,wv,h2,e,this]
  ·simp[zck,za0,wv,ze2,h2]
 ·rw[ho (by decide)]
  by_cases h2:j∈S.panel
  ·cases e:S.card j with
   | none=>simp[zck,za0,wv,zfq,h2,e]
   | some d =>
     have:=hfull d e
     by_cases h3:c∈S.couples <;> by_cases h4:d.getD 0 0=c <;> simp[zck,za0,wv,zhW,letter_t,h2,e,h3,this,h4,-List.getD_eq_getElem?_getD]
  ·simp[zck,za0,wv,ze2,h2]
def zdB(K:PySem.W.Frag):Sp:=fun vs H Q _=>∃(x:Addr) (F:Addr→Prop) (S:Sh) (l2 lc l1 ln:Addr) (ls:List Addr) (nums:List Int) (st:Str) (pick:Int),vs = [.ref x,.ref l2,.ref lc,.ref l1,.ref ln,.str st,.int pick]∧zB K H x F S∧H l2=some (.lst (S.panel.map V.str))∧H lc=some (.lst (ls.map V.ref))∧All2 (fun l c=>H l=some (.lst (c.map V.int))) ls S.rows∧H l1=some (.lst (S.couples.map V.int))∧H ln=some (.lst (nums.map V.int))∧nums.length≤1000∧st∉S.panel∧wy (wz K "by_place") zaY H∧∀H',yx H H'→wy (wz K "by_place") zaY H'→Q (.bl true) H'
section
variable {P:Program} {w:World} {K:PySem.W.Frag} {mg:Str→Option Value} {base:Heap}
theorem ziP{f:Addr}{fd:FuncData}(F:Fun K "_law_all" "_law_all" zaN f fd)(T:Txt K mg)(C_law_some:Can P w K mg base 1 "_law_some" ["_law_row","_law_cell"] (zc1 K))(C_law_asked:Can P w K mg base 16 "_law_asked" ["_law_sheet_here","_law_which","_law_judge","_law_couple"] (zcB K))(C_law_due:Can P w K mg base 1 "_law_due" ["_law_which","_law_into","_law_card_here","_law_couples_here","_law_couple"] (zdu K)):FnOk P w K mg base CX0 17 f fd ["_law_sheet_here","_law_names","_law_cards","_law_couples_here","_law_numbers","_law_stranger_here","_law_pick"] (zdB K):=by
 refine F.ok yA (fun vs H Q E h=>?_) (fun cdv A outer s H vs Q E hr h=>?_)
 ·obtain⟨x,F,S,l2,lc,l1,ln,ls,nums,st,pick,rfl,_⟩:=h
  rfl
 ·obtain⟨x,F,S,l2,lc,l1,ln,ls,nums,st,pick,rfl,hSh,hN,hC,hR,hU,hM,hml,hst,hL,q⟩:=h
  refine⟨_,(zf (zD (i:=7) yA.nd rfl (Or.inl rfl) (zr zp (by rfl) T.b_len PySem.boot_len (za (yf (show CompScope (zd zaN) ["_law_sheet_here","_law_names","_law_cards","_law_couples_here","_law_numbers","_law_stranger_here","_law_pick","_law_into","_law_which","_law_couple","_law_k","_law_judge","_law_card_here","_law_some_here"] "_law_card_here" [] [] _ from⟨rfl,by decide +kernel,by decide +kernel,rfl,by decide +kernel,rfl,by decide +kernel,by decide +kernel⟩) rfl (zO (pv 2)) (fun _ _ _ _ _=>(zbx (zo (zbN (K:=K) rfl hr.units0) (pv 0) (yi zc) (zt _)))) (fun _ _ _ _ _=>(pv 0))) zc)))
   (zf (zah PassesOwn.never rfl (wl rfl T.b_range (za zh zc)) (yu (i:=8) yA.nd rfl (Or.inl rfl))
     (ze (zE (zo zay (zk C_law_asked (hr.mono (by decide)) rfl (za (pv 0) (za (pv 8) (za zF (za zh zc))))) (zk C_law_due (hr.mono (by decide)) rfl (za (pv 8) (za (pv 7) (za zcA (za (pv 3) (za zh zc)))))) (zt _)) (ze (zm wZ)) zy)))
   (zf (zah PassesOwn.never rfl (zO (pv 4)) (yu (i:=9) yA.nd rfl (Or.inl rfl))
     (ze (zE (zo zay (zk C_law_asked (hr.mono (by decide)) rfl (za (pv 0) (za zh (za zF (za (pv 9) zc))))) (zk C_law_due (hr.mono (by decide)) rfl (za zh (za (pv 7) (za zcA (za (pv 3) (za (pv 9) zc)))))) (zt _)) (ze (zm wZ)) zy)))
   (zf (zah PassesOwn.never rfl (zO (zz zax (zk C_law_some (hr.mono (by decide)) rfl (za (zgM rfl rfl T.b_list rfl T.b_range (za (zr zp (by rfl) T.b_len PySem.boot_len (za (pv 1) zc)) zc)) (za (pv 6) zc))) (yi (za (zr zp (by rfl) T.b_len PySem.boot_len (za (pv 1) zc)) zc)))) (yu (i:=10) yA.nd rfl (Or.inl rfl))
     (zf (zD (i:=11) yA.nd rfl (Or.inl rfl) (yd zN (zz zax (pv 1) (yi (za (pv 5) zc))) (pv 10) (fun _ _=>rfl)))
   (zf (zD (i:=12) yA.nd rfl (Or.inl rfl) (yd zN (zz zax (pv 2) (yi (za zcA zc))) (pv 10) (fun _ _=>rfl)))
   (zf (zD (i:=13) yA.nd rfl (Or.inl rfl) (pv 4))
   (zf (zed (zE (zo zix (zr zp (by rfl) T.b_len PySem.boot_len (za (pv 1) zc)) zh (zt _)) (ze (zD (i:=13) yA.nd rfl (Or.inl rfl) (zk C_law_some (hr.mono (by decide)) rfl (za (pv 4) (za (zz yM (pv 6) (pv 10)) zc))))) zy))
   (zf (zah PassesOwn.never rfl (zO (pv 13)) (yu (i:=9) yA.nd rfl (Or.inl rfl))
     (ze (zE (zo zay (zk C_law_asked (hr.mono (by decide)) rfl (za (pv 0) (za zh (za (pv 11) (za (pv 9) zc))))) (zk C_law_due (hr.mono (by decide)) rfl (za zh (za (pv 7) (za (pv 12) (za (pv 3) (za (pv 9) zc)))))) (zt _)) (ze (zm wZ)) zy)))
   (ze (zah PassesOwn.never rfl (zO (yi (za zh (za zh zc)))) (yu (i:=8) yA.nd rfl (Or.inl rfl))
     (ze (zE (zo zay (zk C_law_asked (hr.mono (by decide)) rfl (za (pv 0) (za (pv 8) (za (pv 11) (za zh zc))))) (zk C_law_due (hr.mono (by decide)) rfl (za (pv 8) (za (pv 7) (za (pv 12) (za (pv 3) (za zh zc)))))) (zt _)) (ze (zm wZ)) zy))))))))))
   (ze (zm wZ)))))),?_⟩
  have hln:=zC
  have ok:=hSh.ok
  have p1:=ok.p1
  have p15:=ok.p15
  have c24:=ok.c24
  have hrl:=Sh.rows_len S
  have hll:=hR.length
  refine⟨_,rfl,lc,rfl,⟨_,SqL.of hC⟩,?_⟩
  refine zgH (SqL.of hC) (hR.imp fun _ _ z=>SqL.of z) (by omega) (fun m d H' Q hm h=>?_) (fun m H' Q h=>⟨_,rfl,h⟩) fun ks H1 s1 r1=>?_
  ·refine⟨_,rfl,(by show 0≤sizeLine;decide),fun l13 hl13=>?_⟩
   have s13:=zi.new (o:=.lst []) hl13
   refine⟨m,l13,_,[],rfl,rfl,s13.seq hm,SqL.new,zW _,rfl,_,rfl,?_⟩
   rw[show eqL (d.map V.int) []=decide (d = [])from za3 _ []]
   exact h _ s13
  intro l3 hl3
  have s2:=s1.newT (o:=.lst (ks.map V.ref)) hl3
  refine⟨l3,_,rfl,.inl SqL.new,?_⟩
  rw[List.length_map,r1.length,← Sh.handed_len ok]
  generalize hH2:upd H1 l3 _=H2 at s2 ⊢
  -- the plain questions
  refine⟨_,rfl,by decide,by decide,?_⟩
  refine zam (fun i σ H'=>∃v8:Option V,σ = [some (.ref x),some (.ref l2),some (.ref lc),some (.ref l1),some (.ref ln),some (.str st),some (.int pick),some (.int S.handed.length),v8,none,none,none,none,none]∧yx H H'∧wy (wz K "by_place") zaY H') ⟨_,rfl,s2.toN,hL.same s2⟩ ?_ ?_
  ·rintro i σ H3 hi ⟨v8,rfl,s3,z3⟩
   have hi:i<6:=by simpa using hi
   have hk:(0+(i:Int))∈([0,1,2,3,4,5,6,7,8,9]:List Int):=by
    simp only[List.mem_cons,List.not_mem_nil,or_false]
    omega
   obtain⟨F1,_,g⟩:=hSh.sameN s3
   refine⟨_,rfl,_,rfl,x,F1,S,0+(i:Int),"",0,rfl,g,z3,hk,fun H4 s4 z4=>?_⟩
   rw[← zjj (o:=none) ok hk (fun z=>by omega)]
   have t4:=s3.trans s4
   exact⟨_,rfl,_,rfl,_,rfl,0+(i:Int),S.handed.length,.non,none,l1,S.couples,0,rfl,.inl ⟨rfl,rfl⟩,SqL.of (t4.lst hU),fun H5 s5=>⟨rfl,_,rfl,yD (fun w=>absurd rfl w) (fun _=>⟨_,rfl,t4.trans s5.toN,z4.same s5⟩)⟩⟩
  rintro σ H3 ⟨v8,rfl,s3,z3⟩
  -- the rows
  refine⟨_,rfl,ln,rfl,⟨_,SqL.of (s3.lst hM)⟩,?_⟩
  refine zb8 (xs:=nums.map V.int) (fun i σ H'=>∃v9:Option V,σ = [some (.ref x),some (.ref l2),some (.ref lc),some (.ref l1),some (.ref ln),some (.str st),some (.int pick),some (.int S.handed.length),v8,v9,none,none,none,none]∧yx H H'∧wy (wz K "by_place") zaY H') ⟨_,rfl,s3,z3⟩ ?_ ?_ ?_
  ·rintro i σ H4 hi ⟨v9,rfl,s4,z4⟩
   exact SqL.of (s4.lst hM)
  ·rintro i y σ H4 hy ⟨v9,rfl,s4,z4⟩
   obtain⟨_,rfl⟩:=yy hy
   obtain⟨F1,_,g⟩:=hSh.sameN s4
   refine⟨_,rfl,_,rfl,x,F1,S,6,"",nums.getD i 0,rfl,g,z4,by decide,fun H5 s5 z5=>?_⟩
   rw[← zjj (o:=none) ok (by decide) (fun z=>absurd z (by decide))]
   have t5:=s4.trans s5
   exact⟨_,rfl,_,rfl,_,rfl,6,S.handed.length,.non,none,l1,S.couples,nums.getD i 0,rfl,.inl ⟨rfl,rfl⟩,SqL.of (t5.lst hU),fun H6 s6=>⟨rfl,_,rfl,yD (fun w=>absurd rfl w) (fun _=>⟨_,rfl,t5.trans s6.toN,z5.same s6⟩)⟩⟩
  clear s3 z3
  rintro σ H3 ⟨v9,rfl,s3,z3⟩
  -- the questions of a judge
  refine⟨_,rfl,l2,_,rfl,.inl (SqL.of (s3.lst hN)),S.panel.length,by rw[List.length_map],by omega,fun l4 hl4=>?_⟩
  have s4:=zi.new (o:=.lst ((zdo S.panel.length).map V.int)) hl4
  have e4:upd H3 l4 (.lst ((zdo S.panel.length).map V.int)) l4=some (.lst ((zdo S.panel.length).map V.int)):=zg
  generalize hH4:upd H3 l4 _=H4 at s4 e4 ⊢
  have hup:(zdo S.panel.length).length=S.panel.length:=by unfold zdo;simp
  refine⟨_,rfl,l4,_,pick,rfl,e4,by omega,fun l5 H5 ms s5 e5 hms hmsl=>?_⟩
  have t5:=(s3.trans s4.toN).trans s5.toN
  refine⟨_,rfl,l2,_,rfl,.inl (SqL.of (t5.lst hN)),(by show 1≤sizeLine;decide),fun l6 hl6=>?_⟩
  rw[List.length_map]
  have s6:=zi.new (o:=.lst [.int S.panel.length]) hl6
  refine⟨l5,l6,ms.map V.int,[.int S.panel.length],rfl,rfl,s6 _ _ e5,zg,(by rw[List.length_map];show ms.length+1≤sizeLine;omega),fun l7 hl7=>?_⟩
  have s7:=s6.newT (o:=.lst (ms.map V.int ++ [.int S.panel.length])) hl7
  have e7:upd (upd H5 l6 (.lst [.int S.panel.length])) l7 (.lst (ms.map V.int ++ [.int S.panel.length])) l7=some (.lst ((ms ++ [(S.panel.length:Int)]).map V.int)):=by rw[zg,List.map_append];rfl
  generalize hH7:upd (upd H5 l6 _) l7 _=H7 at s7 e7 ⊢
  have t7:=t5.trans s7.toN
  have z7:=((z3.same s4).same s5).same s7
  refine⟨l7,rfl,⟨_,SqL.of e7⟩,?_⟩
  refine zb8 (xs:=(ms ++ [(S.panel.length:Int)]).map V.int) (fun i σ H'=>∃v8 v9 v10 v11 v12 v13:Option V,σ = [some (.ref x),some (.ref l2),some (.ref lc),some (.ref l1),some (.ref ln),some (.str st),some (.int pick),some (.int S.handed.length),v8,v9,v10,v11,v12,v13]∧yx H7 H'∧wy (wz K "by_place") zaY H') ⟨_,_,_,_,_,_,rfl,(zi.refl _).toN,z7⟩ ?_ ?_ ?_
  ·rintro i σ H8 hi ⟨v8,v9,v10,v11,v12,v13,rfl,s8,z8⟩
   exact SqL.of (s8.lst e7)
  ·rintro i y σ H8 hy ⟨v8,v9,v10,v11,v12,v13,rfl,s8,z8⟩
   obtain⟨hi,rfl⟩:=yy hy
   have hkm:=ww (ns:=ms ++ [(S.panel.length:Int)]) (i:=i) hi
   generalize (ms ++ [(S.panel.length:Int)]).getD i 0=k at hkm ⊢
   have hk0:0≤k∧k≤S.panel.length:=by
    rcases List.mem_append.mp hkm with h | h
    ·have:=hms k h
     unfold zdo at this
     obtain⟨m,hm,rfl⟩:=List.mem_map.mp this
     have:=List.mem_range.mp hm
     omega
    ·simp at h
     omega
   obtain⟨k,rfl⟩:=Int.eq_ofNat_of_zero_le hk0.1
   have hk0:k≤S.panel.length:=by omega
   have t8:=t7.trans s8
   have hN8:=t8.lst hN
   have hC8:=t8.lst hC
   -- the judge's name
   refine⟨_,rfl,_,rfl,(by show 1≤sizeLine;decide),fun la hla=>?_⟩
   have sa:=zi.new (o:=.lst [.str st]) hla
   refine⟨l2,la,S.panel.map V.str,[.str st],rfl,rfl,sa _ _ hN8,zg,by rw[List.length_map];show _+1≤_;omega,fun lb hlb=>?_⟩
   have sb:=sa.newT (o:=.lst (S.panel.map V.str ++ [V.str st])) hlb
   have eb:S.panel.map V.str ++ [V.str st]=(S.panel ++ [st]).map V.str:=by rw[List.map_append];rfl
   refine⟨_,rfl,lb,_,_,_,rfl,rfl,SqL.new,(by rw[eb];exact zb9 (by omega) (by rw[List.length_append];show(k:Int)<((S.panel.length+1:Nat):Int);omega)),?_⟩
   rw[show((k:Nat):Int).toNat=k by omega]
   generalize hHb:upd _ lb _=Hb at sb ⊢
   have tb:=t8.trans sb.toN
   have zb:=z8.same sb
   -- its card
   refine⟨_,rfl,(by show 1≤sizeLine;decide),fun lv hlv=>?_⟩
   have sv:=zi.new (o:=.lst [.non]) hlv
   refine⟨lc,lv,ls.map V.ref,[.non],rfl,rfl,sv _ _ (tb.lst hC),zg,by rw[List.length_map];show _+1≤_;omega,fun lw hlw=>?_⟩
   have sw:=sv.newT (o:=.lst (ls.map V.ref ++ [V.non])) hlw
   have ew:upd (upd Hb lv (.lst [.non])) lw (.lst (ls.map V.ref ++ [V.non])) lw=some (.lst (ls.map V.ref ++ [V.non])):=zg
   generalize hHw:upd (upd Hb lv _) lw _=Hw at sw ew ⊢
   have tw:=tb.trans sw.toN
   have zw:=zb.same sw
   obtain⟨v,o,hat,hheld,ho⟩:∃(v:V) (o:Option (List Int)),atI (ls.map V.ref ++ [V.non]) (k:Int)=some v∧(∀H',yx H H'→Held K H' v o)∧o=if(S.panel ++ [st]).getD k "" ∈ S.panel then some ((S.card ((S.panel ++ [st]).getD k "")).getD [])else none:=by
    by_cases hk:k<S.panel.length
    ·obtain⟨m,em,rm⟩:=hR.at (i:=k) (by omega) []
     have e2:=S.rows_at hk
     have e3:(S.panel ++ [st]).getD k "" = S.panel.getD k "" := by rw[List.getD_eq_getElem?_getD,List.getD_eq_getElem?_getD,List.getElem?_append_left hk]
     refine⟨.ref m,some (S.rows.getD k []),?_,fun H' s'=>.inr ⟨m,_,rfl,rfl,SqL.of (s'.lst rm)⟩,by rw[e3,if_pos (zab hk),e2]⟩
     refine zae ?_
     rw[List.getElem?_append_left (by rw[List.length_map];omega)]
     exact zbQ em
    ·have hk:k=S.panel.length:=by omega
     subst hk
     have e3:(S.panel ++ [st]).getD S.panel.length "" = st:=by rw[List.getD_eq_getElem?_getD,List.getElem?_append_right (Nat.le_refl _),Nat.sub_self];rfl
     refine⟨.non,none,?_,fun H' s'=>.inl ⟨rfl,rfl⟩,by rw[e3,if_neg hst]⟩
     refine zae ?_
     rw[List.getElem?_append_right (by rw[List.length_map];omega),List.length_map,show S.panel.length - ls.length=0 by omega]
     rfl
   generalize (S.panel ++ [st]).getD k "" = j at ho ⊢
   refine⟨_,rfl,lw,_,_,_,rfl,rfl,SqL.of ew,hat,_,rfl,?_⟩
   -- some of the numbers
   refine⟨fun σ' H'=>∃(lm:Addr) (qs:List Int),σ' = [some (.ref x),some (.ref l2),some (.ref lc),some (.ref l1),some (.ref ln),some (.str st),some (.int pick),some (.int S.handed.length),v8,v9,some (.int (k:Nat)),some (.str j),some v,some (.ref lm)]∧zi Hw H'∧H' lm=some (.lst (qs.map V.int)),?_,?_⟩
   ·refine⟨_,rfl,l2,_,rfl,.inl (SqL.of (tw.lst hN)),_,_,rfl,rfl,_,rfl,yI (fun _=>?_) (fun _=>⟨ln,nums,rfl,zi.refl _,tw.lst hM⟩)⟩
    exact⟨_,rfl,_,rfl,_,rfl,_,_,rfl,rfl,ln,nums,_,rfl,tw.lst hM,hml,fun r H' qs s' e' _ _=>⟨r,qs,rfl,s',e'⟩⟩
   rintro σ' Hx ⟨lm,qs,rfl,sx,ex⟩
   have tx:=tw.trans sx.toN
   have zx:=zw.same sx
   refine⟨_,rfl,lm,rfl,⟨_,SqL.of ex⟩,?_⟩
   refine zb8 (xs:=qs.map V.int) (fun i σ H'=>∃v9:Option V,σ = [some (.ref x),some (.ref l2),some (.ref lc),some (.ref l1),some (.ref ln),some (.str st),some (.int pick),some (.int S.handed.length),v8,v9,some (.int (k:Nat)),some (.str j),some v,some (.ref lm)]∧yx Hx H'∧wy (wz K "by_place") zaY H') ⟨_,rfl,(zi.refl _).toN,zx⟩ ?_ ?_ ?_
   ·rintro i σ H9 hi ⟨v9,rfl,s9,z9⟩
    exact SqL.of (s9.lst ex)
   ·rintro i y σ H9 hy ⟨v9,rfl,s9,z9⟩
    obtain⟨_,rfl⟩:=yy hy
    have t9:=tx.trans s9
    obtain⟨F1,_,g⟩:=hSh.sameN t9
    refine⟨_,rfl,_,rfl,_,rfl,x,F1,S,9,j,qs.getD i 0,rfl,g,z9,by decide,fun H10 s10 z10=>?_⟩
    rw[← zjj (o:=o) ok (by decide) (fun _=>ho)]
    have t10:=t9.trans s10
    exact⟨_,rfl,_,rfl,_,rfl,_,rfl,9,S.handed.length,v,o,l1,S.couples,qs.getD i 0,rfl,hheld _ t10,SqL.of (t10.lst hU),fun H11 s11=>⟨rfl,_,rfl,yD (fun w=>absurd rfl w) (fun _=>⟨_,rfl,(s9.trans s10).trans s11.toN,z10.same s11⟩)⟩⟩
   rintro σ H9 ⟨v9',rfl,s9,z9⟩
   have t9:=tx.trans s9
   refine⟨(by show 2≤sizeLine;decide),fun ly hly=>?_⟩
   have sy:=zi.new (o:=.lst (([7,8]:List Int).map V.int)) hly
   have ey:upd H9 ly (.lst (([7,8]:List Int).map V.int)) ly=some (.lst (([7,8]:List Int).map V.int)):=zg
   change zi H9 (upd H9 ly (.lst [.int 7,.int 8]))at sy
   change upd H9 ly (.lst [.int 7,.int 8]) ly=_ at ey
   generalize hHy:upd H9 ly _=Hy at sy ey ⊢
   have ty:=t9.trans sy.toN
   refine⟨ly,rfl,⟨_,SqL.of ey⟩,?_⟩
   refine zb8 (xs:=([7,8]:List Int).map V.int) (fun i σ H'=>∃v8:Option V,σ = [some (.ref x),some (.ref l2),some (.ref lc),some (.ref l1),some (.ref ln),some (.str st),some (.int pick),some (.int S.handed.length),v8,v9',some (.int (k:Nat)),some (.str j),some v,some (.ref lm)]∧yx Hy H'∧wy (wz K "by_place") zaY H') ⟨_,rfl,(zi.refl _).toN,z9.same sy⟩ ?_ ?_ ?_
   ·rintro i σ H10 hi ⟨v8,rfl,s10,z10⟩
    exact SqL.of (s10.lst ey)
   ·rintro i y σ H10 hy ⟨v8,rfl,s10,z10⟩
    obtain⟨hi,rfl⟩:=yy hy
    have hw:=ww (ns:=([7,8]:List Int)) hi
    generalize ([7,8]:List Int).getD i 0=wh at hw ⊢
    have hw2:wh∈([0,1,2,3,4,5,6,7,8,9]:List Int):=(by decide:∀z∈([7,8]:List Int),z∈([0,1,2,3,4,5,6,7,8,9]:List Int)) wh hw
    have t10:=ty.trans s10
    obtain⟨F1,_,g⟩:=hSh.sameN t10
    refine⟨_,rfl,_,rfl,_,rfl,x,F1,S,wh,j,0,rfl,g,z10,hw2,fun H11 s11 z11=>?_⟩
    rw[← zjj (o:=o) ok hw2 (fun _=>ho)]
    have t11:=t10.trans s11
    exact⟨_,rfl,_,rfl,_,rfl,_,rfl,wh,S.handed.length,v,o,l1,S.couples,0,rfl,hheld _ t11,SqL.of (t11.lst hU),fun H12 s12=>⟨rfl,_,rfl,yD (fun w=>absurd rfl w) (fun _=>⟨_,rfl,(s10.trans s11).trans s12.toN,z11.same s12⟩)⟩⟩
   rintro σ H10 ⟨v8',rfl,s10,z10⟩
   exact⟨_,_,_,_,_,_,rfl,(((((s8.trans sb.toN).trans sw.toN).trans sx.toN).trans s9).trans sy.toN).trans s10,z10⟩
  ·rintro σ H8 ⟨v8,v9,v10,v11,v12,v13,rfl,s8,z8⟩
   exact q _ (t7.trans s8) z8
end
def zhl(K:PySem.W.Frag):Sp:=fun vs H Q _=>∃(a:Addr) (ns:List Int),vs = [.ref a]∧SqL K H a (ns.map V.int)∧ns.length≤63∧H (wz K "by_place")=some (.tbl #[])∧∀H',Q (.bl true) H'
theorem zjs(ns:List Int)(lo hi:Option Int):∃zs:List Int,zeq (ns.map V.int) lo hi=zs.map V.int∧zs.length≤ns.length:=by
 unfold zeq
 rw[← List.map_drop,← List.map_take]
 exact⟨_,rfl,by rw[List.length_take,List.length_drop];omega⟩
structure At24 (K:PySem.W.Frag) (a l2 ln x:Addr) (ns:List Int) (ts:List Str) (zs:List Int) (F:Addr→Prop) (S:Sh) (lu lg lc:Addr) (ls:List Addr) (H:Hp):Prop where
 sh:zB K H x F S
 pn:S.panel=ts
 cu:H lu=some (.lst (S.couples.map V.int))∧¬F lu
 nm:H l2=some (.lst (ts.map V.str))∧¬F l2
 gn:H lg=some (.lst (S.struck.map V.int))∧¬F lg
 nn:H ln=some (.lst (zs.map V.int))∧¬F ln
 rw:Rows F H lc ls S.rows
 sc:LQ K F H a (ns.map V.int)
 tb:H (wz K "by_place")=some (.tbl #[])∧¬F (wz K "by_place")
theorem At24.same{K:PySem.W.Frag}{a l2 ln x:Addr}{ns:List Int}{ts:List Str}{zs:List Int}{F:Addr→Prop}{S:Sh}{lu lg lc:Addr}{ls:List Addr}{H H':Hp}(h:At24 K a l2 ln x ns ts zs F S lu lg lc ls H)(s:zi H H'):At24 K a l2 ln x ns ts zs F S lu lg lc ls H' :=
 ⟨h.sh.same s,h.pn,⟨s _ _ h.cu.1,h.cu.2⟩,⟨s _ _ h.nm.1,h.nm.2⟩,⟨s _ _ h.gn.1,h.gn.2⟩,⟨s _ _ h.nn.1,h.nn.2⟩,h.rw.same s,h.sc.same s,⟨s _ _ h.tb.1,h.tb.2⟩⟩
section
variable {P:Program} {w:World} {K:PySem.W.Frag} {mg:Str→Option Value} {base:Heap}
theorem ok_law{f:Addr}{fd:FuncData}(F:Fun K "law" "law" zcI f fd)(T:Txt K mg)(C_law_at:Can P w K mg base 1 "_law_at" ["_law_script","_law_k"] (zdc K))(C_law_many:Can P w K mg base 1 "_law_many" ["_law_mode","_law_cell","_law_least","_law_few","_law_most"] (zcV K))(C_law_couples:Can P w K mg base 1 "_law_couples" ["_law_cell","_law_many_here"] (zbD K))(C_law_judges:Can P w K mg base 1 "_law_judges" ["_law_cell","_law_many_here"] (zbZ K))(C_law_panel:Can P w K mg base 3 "_law_panel" ["_law_script","_law_start","_law_couples_here","_law_many_here","_law_style","_law_mode"] (zco K))(C_law_sheet:Can P w K mg base 6 "_law_sheet" ["_law_couples_here","_law_names","_law_cards"] (zcz K))(C_law_stands:Can P w K mg base 4 "_law_stands" ["_law_sheet_here","_law_names","_law_couples_here","_law_gone","_law_cards","_law_many_here","_law_shut"] (zbT K))(C_law_stranger:Can P w K mg base 1 "_law_stranger" ["_law_name","_law_cell"] (za6 K))(C_law_without:Can P w K mg base 1 "_law_without" ["_law_card_here","_law_couple"] (zbv K))(C_law_all:Can P w K mg base 17 "_law_all" ["_law_sheet_here","_law_names","_law_cards","_law_couples_here","_law_numbers","_law_stranger_here","_law_pick"] (zdB K))(C_Sheet_strike:CanMX P w K mg base 2 (zH K "Sheet") "strike" ["self","couple"] (za7 K))(C_Sheet_seal:CanMX P w K mg base 2 (zH K "Sheet") "seal" ["self"] (zb1 K)):FnOk P w K mg base CX0 18 f fd ["_law_script"] (zhl K):=by
 refine F.ok zaf (fun vs H Q E h=>?_) (fun cdv A outer s H vs Q E hr h=>?_)
 ·obtain⟨a,ns,rfl,_⟩:=h
  rfl
 ·obtain⟨a,ns,rfl,hS,hz,hT,q⟩:=h
  refine⟨_,(zf (zD (i:=1) zaf.nd rfl (Or.inl rfl) (zz yB (zk C_law_at (hr.mono (by decide)) rfl (za (pv 0) (za zh zc))) zh))
   (zf (zD (i:=2) zaf.nd rfl (Or.inl rfl) (zk C_law_couples (hr.mono (by decide)) rfl (za (zk C_law_at (hr.mono (by decide)) rfl (za (pv 0) (za zh zc))) (za (zz yM zh (zz yB (zk C_law_at (hr.mono (by decide)) rfl (za (pv 0) (za zh zc))) zh)) zc))))
   (zf (zD (i:=3) zaf.nd rfl (Or.inl rfl) (zk C_law_judges (hr.mono (by decide)) rfl (za (zk C_law_at (hr.mono (by decide)) rfl (za (pv 0) (za zh zc))) (za (zk C_law_many (hr.mono (by decide)) rfl (za (pv 1) (za (zk C_law_at (hr.mono (by decide)) rfl (za (pv 0) (za zh zc))) (za zh (za zh (za zh zc)))))) zc))))
   (zf (zD (i:=4) zaf.nd rfl (Or.inl rfl) (zk C_law_panel (hr.mono (by decide)) rfl (za (pv 0) (za zh (za (pv 2) (za (zr zp (by rfl) T.b_len PySem.boot_len (za (pv 3) zc)) (za (zz yB (zk C_law_at (hr.mono (by decide)) rfl (za (pv 0) (za zh zc))) zh) (za (pv 1) zc))))))))
   (zf (zed (zE (zo yk (zz yB (zk C_law_at (hr.mono (by decide)) rfl (za (pv 0) (za zh zc))) zh) zh (zt _)) (ze (zD (i:=4) zaf.nd rfl (Or.inl rfl) (zz zax (yi (za (wj zbh (pv 2) zaw (wS (zz zfG (zr zp (by rfl) T.b_len PySem.boot_len (za (pv 2) zc)) (zz yB (zk C_law_at (hr.mono (by decide)) rfl (za (pv 0) (za zh zc))) zh)))) zc)) (yf (show CompScope (zd zcI) ["_law_script","_law_mode","_law_couples_here","_law_names","_law_cards","_law_sheet_here","_law_many_here","_law_numbers","_law_gone","_law_shut","_law_stranger_here"] "_law_name" [] [] _ from⟨rfl,by decide +kernel,by decide +kernel,rfl,by decide +kernel,rfl,by decide +kernel,by decide +kernel⟩) rfl (zO (wj zbh (pv 3) (wS zh) zaw)) (fun _ _ _ _ _=>wd) (fun _ _ _ _ _=>(yi zc)))))) zy))
   (zf (zD (i:=5) zaf.nd rfl (Or.inl rfl) (zk C_law_sheet (hr.mono (by decide)) rfl (za (pv 2) (za (pv 3) (za (pv 4) zc)))))
   (zf (zD (i:=6) zaf.nd rfl (Or.inl rfl) (zr zp (by rfl) T.b_len PySem.boot_len (za (yf (show CompScope (zd zcI) ["_law_script","_law_mode","_law_couples_here","_law_names","_law_cards","_law_sheet_here","_law_many_here","_law_numbers","_law_gone","_law_shut","_law_stranger_here"] "_law_card_here" [] [] _ from⟨rfl,by decide +kernel,by decide +kernel,rfl,by decide +kernel,rfl,by decide +kernel,by decide +kernel⟩) rfl (zO (pv 4)) (fun _ _ _ _ _=>(zbx (zo (zbN (K:=K) rfl hr.units0) (pv 0) (yi zc) (zt _)))) (fun _ _ _ _ _=>(pv 0))) zc)))
   (zf (zD (i:=7) zaf.nd rfl (Or.inl rfl) (zz zax (zz zax (wj zbh (pv 2) zaw (wS zh)) (wj zbh (pv 2) (wS (zht zfU zh)) zaw)) (yi (za zh (za (zht zfU zh) (za zh (za (zz op_pow zh zh) zc)))))))
   (zf (zD (i:=8) zaf.nd rfl (Or.inr rfl) (yi zc))
   (zf (zed (zE (PW.pt (zbF (zo yk (zz yB (zk C_law_at (hr.mono (by decide)) rfl (za (pv 0) (za zh zc))) zh) zh (zt _)) (zaA (zo zix (zr zp (by rfl) T.b_len PySem.boot_len (za (pv 2) zc)) zh (zt _))))) (zf (zD (i:=8) zaf.nd rfl (Or.inr rfl) (yi (za (yd zN (pv 2) (zz yB (zk C_law_at (hr.mono (by decide)) rfl (za (pv 0) (za zh zc))) (zr zp (by rfl) T.b_len PySem.boot_len (za (pv 2) zc))) (fun _ _=>rfl)) zc)))
   (zf (zM (wI C_Sheet_strike T.cl_Sheet zeB (hr.mono (by decide)) (pv 5) (za (yd zN (pv 8) zh (fun _ _=>rfl)) zc)))
   (zf (zD (i:=2) zaf.nd rfl (Or.inl rfl) (zk C_law_without (hr.mono (by decide)) rfl (za (pv 2) (za (yd zN (pv 8) zh (fun _ _=>rfl)) zc))))
   (ze (zdw (i:=4) (show CompScope (zd zcI) ["_law_script","_law_mode","_law_couples_here","_law_names","_law_cards","_law_sheet_here","_law_many_here","_law_numbers","_law_gone","_law_shut","_law_stranger_here"] "_law_card_here" ["_law_gone"] [8] _ from⟨rfl,by decide +kernel,by decide +kernel,rfl,by decide +kernel,rfl,by decide +kernel,by decide +kernel⟩) rfl zaf.nd rfl (Or.inl rfl) (zO (pv 4)) (fun _ _ _ _ _=>wd) (fun _ _ _ _ _=>(zk C_law_without (hr.mono (by decide)) rfl (za (pv 0) (za (yd (zb5 (K:=K) rfl) (pv 1) zh (fun _ _=>rfl)) zc))))))))) zy))
   (zf (zD (i:=9) zaf.nd rfl (Or.inl rfl) (zbl yk (zz yB (zk C_law_at (hr.mono (by decide)) rfl (za (pv 0) (za zh zc))) zh) zh (zt _)))
   (zf (zed (zE (wf (pv 9)) (ze (zM (zc9 C_Sheet_seal T.cl_Sheet zeB (hr.mono (by decide)) (pv 5)))) zy))
   (zf (zD (i:=10) zaf.nd rfl (Or.inl rfl) (zk C_law_stranger (hr.mono (by decide)) rfl (za (yd zN (pv 3) zh (fun _ _=>rfl)) (za (zk C_law_at (hr.mono (by decide)) rfl (za (pv 0) (za zh zc))) zc))))
   (zf (zE (zaa (wf (zk C_law_all (hr.mono (by decide)) rfl (za (pv 5) (za (pv 3) (za (pv 4) (za (pv 2) (za (zz zax (pv 8) (pv 7)) (za (pv 10) (za (zk C_law_at (hr.mono (by decide)) rfl (za (pv 0) (za zh zc))) zc)))))))))) (ze (zm wZ)) zy)
   (ze (zm (zk C_law_stands (hr.mono (by decide)) rfl (za (pv 5) (za (pv 3) (za (pv 2) (za (pv 8) (za (pv 4) (za (pv 6) (za (pv 9) zc)))))))))))))))))))))))),?_⟩
  have hln:=zC
  refine⟨_,rfl,a,ns,2,rfl,hS,by decide,_,_,rfl,rfl,(by show(0:Int)<8;decide),?_⟩
  dsimp only
  generalize ns.getD (2:Int).toNat 0%8=md
  have m0:=Int.emod_nonneg (ns.getD (0:Int).toNat 0) (b:=6) (by decide)
  have m1:=Int.emod_lt_of_pos (ns.getD (0:Int).toNat 0) (b:=6) (by decide)
  refine⟨_,rfl,a,ns,4,rfl,hS,by decide,_,rfl,a,ns,0,rfl,hS,by decide,_,_,rfl,rfl,(by show(0:Int)<6;decide),_,_,rfl,rfl,?_⟩
  dsimp only
  generalize hmany:1+ns.getD (0:Int).toNat 0%6=many
  refine⟨_,_,rfl,by omega,by omega,fun l1 H1 s1 f1 e1=>?_⟩
  generalize hus:M1.couples _ _=us at e1
  have hul:us.length=many.toNat:=by rw[← hus,M1.zeA]
  have hun:us.Nodup:=by rw[← hus];exact M1.zf1 (by omega)
  have hur:∀x∈us,1≤x∧x≤999:=fun x hx=>by rw[← hus] at hx;exact M1.zf3 hx
  have hgc:M1.zcH us=true:=(M1.zgD us).mpr ⟨by omega,hun,hur⟩
  refine⟨_,rfl,a,ns,5,rfl,s1.seq hS,by decide,_,rfl,_,rfl,a,ns,1,rfl,s1.seq hS,by decide,_,_,_,_,_,rfl,by decide,by decide,fun panel p1 p2=>?_⟩
  refine⟨_,_,rfl,by omega,by omega,fun l2 H2 ts s2 f2 e2 htl htn htg hlen=>?_⟩
  have hgj:M2.zdh ts=true:=(M2.zd8 ts).mpr ⟨by omega,htn,fun z hz=>(M2.zcf z).mp (htg z hz)⟩
  have t2:=s1.trans s2
  have hune:us ≠ []:=by intro z;rw[z] at hul;simp at hul;omega
  have htne:ts ≠ []:=by intro z;rw[z] at htl;simp at htl;omega
  refine⟨_,rfl,_,rfl,_,rfl,l2,_,rfl,.inl (SqL.of e2),_,rfl,a,ns,3,rfl,t2.seq hS,by decide,_,_,rfl,rfl,(by show(0:Int)<4;decide),_,rfl,a,l1,ns,us,6,_,_,md,rfl,t2.seq hS,SqL.of (s2 _ _ e1),by decide,by omega,by rw[List.length_map];omega,hune,by omega,fun lc H3 ls cs s3 f3 e3 r3 hcl hcd=>?_⟩
  rw[List.length_map] at hcl
  have hcl:cs.length=ts.length:=by omega
  have u3:=s3 _ _ (s2 _ _ e1)
  have n3:=s3 _ _ e2
  have t3:=t2.trans s3
  refine⟨fun σ' H'=>∃(lc:Addr) (ls:List Addr) (cs:List (List Int)),σ' = [some (.ref a),some (.int md),some (.ref l1),some (.ref l2),some (.ref lc),none,none,none,none,none,none]∧zi H3 H'∧H' lc=some (.lst (ls.map V.ref))∧All2 (fun l c=>H' l=some (.lst (c.map V.int))) ls cs∧cs.length=ts.length∧(∀d∈cs,d = []∨d.Perm us),?_,?_⟩
  ·refine⟨_,rfl,a,ns,21,rfl,t3.seq hS,by decide,_,_,rfl,rfl,(by show(0:Int)<3;decide),rfl,_,rfl,yI (fun _=>?_) (fun _=>⟨lc,ls,cs,rfl,zi.refl _,e3,r3,hcl,hcd⟩)⟩
   have b0:=Int.emod_nonneg (ns.getD (22:Int).toNat 0) (b:=2) (by decide)
   have b1:=Int.emod_lt_of_pos (ns.getD (22:Int).toNat 0) (b:=2) (by decide)
   refine⟨_,rfl,_,rfl,l1,_,rfl,.inl (SqL.of u3),_,rfl,a,ns,22,rfl,t3.seq hS,by decide,_,_,rfl,rfl,(by show(0:Int)<2;decide),_,_,rfl,rfl,.inr ⟨by show -2 ^ 64<ns.getD (22:Int).toNat 0%2;omega,by show ns.getD (22:Int).toNat 0%2<2 ^ 64;omega⟩,?_⟩
   dsimp only
   rw[List.length_map]
   have hcut:zeq (us.map V.int) none (some ((us.length:Int)*(ns.getD (22:Int).toNat 0%2)))=(us.take ((us.length:Int)*(ns.getD (22:Int).toNat 0%2)).toNat).map V.int:=zeg (Int.mul_nonneg (by omega) b0)
   have hfst:us.take ((us.length:Int)*(ns.getD (22:Int).toNat 0%2)).toNat = []∨us.take ((us.length:Int)*(ns.getD (22:Int).toNat 0%2)).toNat=us:=by
    rcases (by omega:ns.getD (22:Int).toNat 0%2=0∨ns.getD (22:Int).toNat 0%2=1)with h | h
    ·rw[h];exact .inl (by simp)
    ·rw[h];exact .inr (by simp)
   generalize us.take ((us.length:Int)*(ns.getD (22:Int).toNat 0%2)).toNat=fst at hcut hfst
   refine⟨_,rfl,l1,_,rfl,SqL.of u3,fun l4 hl4=>?_⟩
   rw[hcut]
   have s4:=zi.new (o:=.lst (fst.map V.int)) hl4
   have e4:upd H3 l4 (.lst (fst.map V.int)) l4=some (.lst (fst.map V.int)):=zg
   generalize hH4:upd H3 l4 _=H4 at s4 e4 ⊢
   refine⟨(by show 1≤sizeLine;decide),fun l5 hl5=>?_⟩
   have s5:=zi.new (o:=.lst [.ref l4]) hl5
   have e5:upd H4 l5 (.lst [.ref l4]) l5=some (.lst [.ref l4]):=zg
   have e45:=s5 _ _ e4
   generalize hH5:upd H4 l5 _=H5 at s5 e5 e45 ⊢
   have t5:=s4.trans s5
   refine⟨_,rfl,_,rfl,l2,_,rfl,SqL.of (t5 _ _ n3),fun l6 hl6=>?_⟩
   rw[zhs (by decide)]
   have s6:=zi.new (o:=.lst ((ts.map V.str).drop (1:Int).toNat)) hl6
   have e6:upd H5 l6 (.lst ((ts.map V.str).drop (1:Int).toNat)) l6=some (.lst ((ts.map V.str).drop (1:Int).toNat)):=zg
   generalize hH6:upd H5 l6 _=H6 at s6 e6 ⊢
   have hdl:((ts.map V.str).drop (1:Int).toNat).length=ts.length - 1:=by rw[List.length_drop,List.length_map];rfl
   refine⟨l6,rfl,⟨_,SqL.of e6⟩,?_⟩
   refine yr (xs:=(ts.map V.str).drop (1:Int).toNat) (fun i ys H7=>∃ks:List Addr,ys=ks.map V.ref∧zi H6 H7∧All2 (fun l c=>H7 l=some (.lst (c.map V.int))) ks (List.replicate i ([]:List Int))) ⟨[],rfl,zi.refl _,.nil⟩ ?_ (by rw[hdl];omega) ?_ ?_
   ·rintro i ys H7 hi ⟨ks,rfl,s7,r7⟩
    have:=r7.length
    rw[List.length_replicate] at this
    exact⟨SqL.of (s7 _ _ e6),by rw[List.length_map];omega⟩
   ·rintro i y ys H7 hy ⟨ks,rfl,s7,r7⟩
    refine⟨(by show 0≤sizeLine;decide),fun l hl=>⟨ks ++ [l],by rw[List.map_append];rfl,s7.newT hl,?_⟩⟩
    rw[List.replicate_succ']
    exact(r7.imp fun _ _ z=>(zi.new hl) _ _ z).snoc zg
   rintro ys H7 ⟨ks,rfl,s7,r7⟩ l8 hl8
   rw[hdl] at r7
   have s8:=s7.newT (o:=.lst (ks.map V.ref)) hl8
   have e8:upd H7 l8 (.lst (ks.map V.ref)) l8=some (.lst (ks.map V.ref)):=zg
   have r8:All2 (fun(l:Addr) (c:List Int)=>upd H7 l8 (.lst (ks.map V.ref)) l=some (.lst (c.map V.int))) ks (List.replicate (ts.length - 1) []):=r7.imp fun l c z=>(zi.new hl8) l _ z
   generalize hH8:upd H7 l8 _=H8 at s8 e8 r8 ⊢
   have hkl:=r8.length
   rw[List.length_replicate] at hkl
   have t8:=s6.trans s8
   refine⟨l5,l8,[.ref l4],ks.map V.ref,rfl,rfl,t8 _ _ e5,e8,(by rw[List.length_map];show 1+_≤sizeLine;omega),fun l9 hl9=>?_⟩
   refine⟨l9,l4::ks,fst::List.replicate (ts.length - 1) [],rfl,(t5.trans t8).newT hl9,zg,.cons ((zi.new hl9) _ _ (t8 _ _ e45)) (r8.imp fun l c z=>(zi.new hl9) l _ z),by rw[List.length_cons,List.length_replicate];omega,fun d hd=>?_⟩
   rcases List.mem_cons.mp hd with h | h
   ·rw[h]
    rcases hfst with h | h
    ·exact .inl h
    ·rw[h];exact .inr (List.Perm.refl _)
   ·exact .inl (List.eq_of_mem_replicate h)
  clear r3 e3 f3 hcl hcd
  rintro σ' H4 ⟨lc,ls,cs,rfl,s4,e4,r4,hcl,hcd⟩
  have hll:=r4.length
  have t4:=t3.trans s4
  have c4:=s4 _ _ u3
  refine⟨_,rfl,_,rfl,_,rfl,l1,l2,lc,us,ts,cs,rfl,SqL.of c4,SqL.of (s4 _ _ n3),⟨ls,SqL.of e4,r4.imp fun _ _ z=>SqL.of z⟩,hgc,hgj,hcl,hcd,fun x H5 F S h5 d5 g1 g2 g3 g4 g5 g6=>?_⟩
  have c5:=d5 _ _ c4 (fun z=>z)
  have j5:=d5 _ _ (s4 _ _ n3) (fun z=>z)
  have k5:=d5 _ _ e4 (fun z=>z)
  have r5:Rows F H5 lc ls cs:=⟨k5.1,k5.2,r4.imp fun _ _ z=>d5 _ _ z (fun z=>z)⟩
  have hA5:=(SqL.none (t4.seq hS)).deed d5
  have tb5:=d5 _ _ (t4 _ _ hT) (fun z=>z)
  have ok:=h5.ok
  have hhl:=Sh.handed_len ok
  rw[g4] at hhl
  refine⟨_,rfl,lc,rfl,⟨_,SqL.of r5.1⟩,?_⟩
  refine zgH (SqL.of r5.1) (r5.2.2.imp fun _ _ z=>SqL.of z.1) (by omega) (fun m d H' Q hm h=>?_) (fun m H' Q h=>⟨_,rfl,h⟩) fun ks H6 s6 r6=>?_
  ·refine⟨_,rfl,(by show 0≤sizeLine;decide),fun l13 hl13=>?_⟩
   have s13:=zi.new (o:=.lst []) hl13
   refine⟨m,l13,_,[],rfl,rfl,s13.seq hm,SqL.new,zW _,rfl,_,rfl,?_⟩
   rw[show eqL (d.map V.int) []=decide (d = [])from za3 _ []]
   exact h _ s13
  intro l6 hl6
  have s6':=s6.newT (o:=.lst (ks.map V.ref)) hl6
  refine⟨l6,_,rfl,.inl SqL.new,?_⟩
  rw[List.length_map,r6.length,← g5]
  generalize hH7:upd H6 l6 _=H7 at s6' ⊢
  have c7:=s6' _ _ c5.1
  -- the numbers asked for
  obtain⟨z1,ez1,hz1⟩:=zjs us none (some 3)
  obtain⟨z2,ez2,hz2⟩:=zjs us (some (-2)) none
  refine⟨_,rfl,_,rfl,l1,_,rfl,SqL.of c7,fun la hla=>?_⟩
  rw[ez1]
  have sa:=zi.new (o:=.lst (z1.map V.int)) hla
  have ea:upd H7 la (.lst (z1.map V.int)) la=some (.lst (z1.map V.int)):=zg
  generalize hHa:upd H7 la _=Ha at sa ea ⊢
  refine⟨_,rfl,_,rfl,_,rfl,l1,_,rfl,SqL.of (sa _ _ c7),fun lb hlb=>?_⟩
  rw[ez2]
  have sb:=zi.new (o:=.lst (z2.map V.int)) hlb
  refine⟨la,lb,z1.map V.int,z2.map V.int,rfl,rfl,sb _ _ ea,zg,(by rw[List.length_map,List.length_map];omega),fun lk hlk=>?_⟩
  have sk:=sb.newT (o:=.lst (z1.map V.int++z2.map V.int)) hlk
  have ek:upd (upd Ha lb (.lst (z2.map V.int))) lk (.lst (z1.map V.int++z2.map V.int)) lk=some (.lst (z1.map V.int++z2.map V.int)):=zg
  generalize hHk:upd (upd Ha lb _) lk _=Hk at sk ek ⊢
  refine⟨_,rfl,_,_,rfl,rfl,⟨by decide,by decide,by decide⟩,(by show 4≤sizeLine;decide),fun ld hld=>?_⟩
  dsimp only
  generalize hbig:(10:Int) ^ (30:Int).toNat=big
  have sd:=zi.new (o:=.lst (([0,-1,1000,big]:List Int).map V.int)) hld
  change zi Hk (upd Hk ld (.lst [.int 0,.int (-1),.int 1000,.int big]))at sd
  refine⟨lk,ld,_,([0,-1,1000,big]:List Int).map V.int,rfl,rfl,sd _ _ ek,zg,(by rw[List.length_append,List.length_map,List.length_map];show _+4≤sizeLine;omega),fun ln hln'=>?_⟩
  have sn:=sd.newT (o:=.lst ((z1.map V.int++z2.map V.int)++([0,-1,1000,big]:List Int).map V.int)) hln'
  have en:upd (upd Hk ld (.lst [.int 0,.int (-1),.int 1000,.int big])) ln (.lst ((z1.map V.int++z2.map V.int)++([0,-1,1000,big]:List Int).map V.int)) ln=some (.lst ((z1++z2 ++ [0,-1,1000,big]).map V.int)):=by rw[zg,List.map_append,List.map_append]
  generalize hHn:upd (upd Hk ld _) ln _=Hn at sn en ⊢
  have hnl:(z1++z2 ++ [0,-1,1000,big]).length≤900:=by
   rw[List.length_append,List.length_append]
   show _+4≤900
   omega
  generalize z1++z2 ++ [0,-1,1000,big]=zs at en hnl
  have t5n:=((s6'.trans sa).trans sk).trans sn
  have nln:¬F ln:=fun z=>by
   have:=(h5.same (((s6'.trans sa).trans sk).trans sd)).fh ln z
   exact this hln'
  refine⟨(by show 0≤sizeLine;decide),fun lg hlg=>?_⟩
  have sg:=zi.new (o:=.lst []) hlg
  have eg:upd Hn lg (.lst []) lg=some (.lst []):=zg
  have nlg:¬F lg:=(h5.same t5n).apart hlg
  have t5g:=t5n.trans sg
  have en:=sg _ _ en
  generalize hHg:upd Hn lg _=Hg at sg eg t5g en ⊢
  have i0:At24 K a l2 ln x ns ts zs F S l1 lg lc ls Hg:=⟨h5.same t5g,g3,⟨by rw[g1];exact t5g _ _ c5.1,c5.2⟩,⟨t5g _ _ j5.1,j5.2⟩,⟨by rw[g2];exact eg,nlg⟩,⟨en,nln⟩,by rw[g4];exact r5.same t5g,hA5.same t5g,⟨t5g _ _ tb5.1,tb5.2⟩⟩
  refine⟨fun σ' H'=>∃(F:Addr→Prop) (S:Sh) (lu lg lc:Addr) (ls:List Addr),σ' = [some (.ref a),some (.int md),some (.ref lu),some (.ref l2),some (.ref lc),some (.ref x),some (.int S.taken),some (.ref ln),some (.ref lg),none,none]∧At24 K a l2 ln x ns ts zs F S lu lg lc ls H'∧S.shut=false,?_,?_⟩
  ·refine⟨_,rfl,a,ns,23,rfl,i0.sc.sq,by decide,_,_,rfl,rfl,(by show(0:Int)<3;decide),rfl,_,rfl,yI (fun _=>⟨_,rfl,l1,_,rfl,.inl (SqL.of i0.cu.1),_,_,rfl,rfl,_,rfl,yI (fun h2=>?_) (fun _=>⟨F,S,l1,lg,lc,ls,rfl,i0,g6⟩)⟩) (fun _=>⟨F,S,l1,lg,lc,ls,rfl,i0,g6⟩)⟩
   rw[List.length_map] at h2
   have q0:=Int.emod_nonneg (ns.getD (24:Int).toNat 0) (b:=(S.couples.length:Int)) (by omega)
   have q1:=Int.emod_lt_of_pos (ns.getD (24:Int).toNat 0) (b:=(S.couples.length:Int)) (by omega)
   refine⟨_,rfl,_,rfl,a,ns,24,rfl,i0.sc.sq,by decide,_,rfl,l1,_,rfl,.inl (SqL.of i0.cu.1),?_⟩
   rw[List.length_map]
   refine⟨_,_,rfl,rfl,(by show(0:Int)<S.couples.length;omega),l1,_,_,_,rfl,rfl,SqL.of i0.cu.1,zch q0 (by omega),(by show 1≤sizeLine;decide),fun lh hlh=>?_⟩
   have hc:=ww (ns:=S.couples) (i:=(ns.getD (24:Int).toNat 0%(S.couples.length:Int)).toNat) (by omega)
   generalize S.couples.getD (ns.getD (24:Int).toNat 0%(S.couples.length:Int)).toNat 0=c at hc ⊢
   have sh:=zi.new (o:=.lst [.int c]) hlh
   have eh:upd Hg lh (.lst [.int c]) lh=some (.lst [.int c]):=zg
   have nh:¬F lh:=i0.sh.apart hlh
   generalize hHh:upd Hg lh _=Hh at sh eh ⊢
   have i1:=i0.same sh
   obtain⟨dx,b1,b2,b3,dd,hip⟩:=i1.sh.ins
   have hrs:S.refuseS c=none:=by
    unfold Sh.refuseS
    rw[g6,if_neg (by decide),if_pos hc,if_neg (by omega)]
   refine⟨_,rfl,x,dx,_,rfl,hip,rfl,_,rfl,lh,_,_,_,rfl,rfl,SqL.of eh,rfl,x,F,S,c,rfl,i1.sh,fun z hz=>(by rw[hrs] at hz;cases hz),fun _ Hc G hc' dc=>?_⟩
   have uc:=dc _ _ i1.cu.1 i1.cu.2
   have hc2:=dc _ _ eh nh
   have rc:=i1.rw.deed dc
   have c24:=ok.c24
   refine⟨_,rfl,_,rfl,lh,_,_,_,rfl,rfl,SqL.of hc2.1,rfl,l1,S.couples,c,rfl,SqL.of uc.1,by omega,fun lv Hv sv fv ev=>?_⟩
   have nv:¬G lv:=hc'.apart fv
   have rv:=rc.same sv
   have hrl:=Sh.rows_len S
   have p15:=ok.p15
   refine⟨_,rfl,lc,rfl,⟨_,SqL.of rv.1⟩,?_⟩
   refine ziA (F:=G) (f:=wo c) (SqL.of rv.1) (rv.2.2.imp fun _ _ z=>z.1) (by omega) (fun m d H' R hd hm s' h=>?_) fun kn Hw sw rn=>?_
   ·exact⟨_,rfl,_,rfl,lh,_,_,_,rfl,rfl,SqL.of (s' _ _ (sv _ _ hc2.1)),rfl,m,d,c,rfl,SqL.of hm,by have:=Sh.rows_le ok hd;omega,fun l H2 s2 f2 e2=>h l H2 s2 e2 (fun z=>((hc'.same sv).same s').fh l z f2)⟩
   intro lw hlw
   have sw':=sw.newT (o:=.lst (kn.map V.ref)) hlw
   have tw:=sv.trans sw'
   have nw:¬G lw:=((hc'.same sv).same sw).apart hlw
   have jc:=dc _ _ i1.nm.1 i1.nm.2
   have nc:=dc _ _ i1.nn.1 i1.nn.2
   have tc:=dc _ _ i1.tb.1 i1.tb.2
   refine⟨G,S.strike c,lv,lh,lw,kn,rfl,⟨hc'.same tw,i1.pn,⟨sw' _ _ ev,nv⟩,⟨tw _ _ jc.1,jc.2⟩,⟨?_,hc2.2⟩,⟨tw _ _ nc.1,nc.2⟩,⟨zg,nw,?_⟩,(i1.sc.deed dc).same tw,⟨tw _ _ tc.1,tc.2⟩⟩,g6⟩
   ·show upd Hw lw _ lh=some (.lst ((S.struck ++ [c]).map V.int))
    rw[g2]
    exact tw _ _ hc2.1
   ·rw[Sh.rows_strike];exact rn.imp fun _ _ z=>⟨(zi.new hlw) _ _ z.1,z.2⟩
  clear i0 t5g t5n h5 d5 g1 g2 g4 g5 g6 hhl ok tb5 hA5 r5 k5 j5 c5
  rintro σ' H8 ⟨F,S,lu,lg,lc,ls,rfl,i8,hsh⟩
  have hb:∀z:Int,∃b:Bool,decide (V.int z=V.int 1)=b:=fun z=>⟨_,rfl⟩
  refine⟨_,rfl,a,ns,25,rfl,i8.sc.sq,by decide,_,_,rfl,rfl,(by show(0:Int)<3;decide),rfl,?_⟩
  dsimp only
  generalize decide (V.int (ns.getD (25:Int).toNat 0%3)=V.int 1)=b
  refine⟨fun σ' H'=>∃(F:Addr→Prop) (S:Sh),σ' = [some (.ref a),some (.int md),some (.ref lu),some (.ref l2),some (.ref lc),some (.ref x),some (.int S.taken),some (.ref ln),some (.ref lg),some (.bl b),none]∧At24 K a l2 ln x ns ts zs F S lu lg lc ls H'∧S.shut=b,?_,?_⟩
  ·refine⟨_,rfl,_,rfl,zhQ (fun h=>?_) (fun h=>⟨F,S,rfl,i8,by rw[hsh,h]⟩)⟩
   obtain⟨dx,b1,b2,b3,dd,hip⟩:=i8.sh.ins
   refine⟨_,rfl,x,dx,_,rfl,hip,rfl,x,F,S,rfl,i8.sh,fun z=>(by rw[hsh] at z;cases z),fun _ Hc hc dc=>⟨F,S.close,rfl,⟨hc,i8.pn,dc _ _ i8.cu.1 i8.cu.2,dc _ _ i8.nm.1 i8.nm.2,dc _ _ i8.gn.1 i8.gn.2,dc _ _ i8.nn.1 i8.nn.2,i8.rw.deed dc,i8.sc.deed dc,dc _ _ i8.tb.1 i8.tb.2⟩,h.symm⟩⟩
  clear i8 hsh hb
  rintro σ' H9 ⟨F,S,rfl,i9,hsh⟩
  have t0:ts.getD (0:Int).toNat "" ∈ ts:=zab (by show 0<ts.length;omega)
  refine⟨_,rfl,l2,_,_,_,rfl,rfl,SqL.of i9.nm.1,zb9 (by decide) (by show(0:Int)<ts.length;omega),_,rfl,a,ns,26,rfl,i9.sc.sq,by decide,_,_,rfl,htg _ t0,fun st Hs ss hsl hns=>?_⟩
  have hst:st∉ts:=fun z=>hns ⟨htg st z,hlen _ z _ t0⟩
  have i10:=i9.same ss
  have ok:=i10.sh.ok
  have c24:=ok.c24
  refine⟨_,rfl,_,rfl,_,rfl,_,rfl,_,rfl,_,rfl,lg,ln,_,_,rfl,rfl,i10.gn.1,i10.nn.1,(by rw[List.length_map,List.length_map];omega),fun lm hlm=>?_⟩
  have sm:=zi.new (o:=.lst (S.struck.map V.int++zs.map V.int)) hlm
  have em:upd Hs lm (.lst (S.struck.map V.int++zs.map V.int)) lm=some (.lst ((S.struck++zs).map V.int)):=by rw[zg,List.map_append]
  generalize hHm:upd Hs lm _=Hm at sm em ⊢
  have i11:=i10.same sm
  refine⟨_,rfl,_,rfl,a,ns,27,rfl,i11.sc.sq,by decide,x,F,S,l2,lc,lu,lm,ls,S.struck++zs,st,_,rfl,i11.sh,by rw[i11.pn];exact i11.nm.1,i11.rw.1,i11.rw.2.2.imp fun _ _ z=>z.1,i11.cu.1,em,by rw[List.length_append];omega,by rw[i11.pn];exact hst,wy.new (q:=zaY) i11.tb.1,fun H12 s12 z12=>⟨_,rfl,zbg ?_⟩⟩
  obtain⟨F1,_,g⟩:=i11.sh.sameN s12
  refine⟨_,rfl,_,rfl,_,rfl,_,rfl,_,rfl,_,rfl,_,rfl,x,F1,S,l2,lu,lg,lc,by rw[hsh];rfl,g,by rw[i11.pn];exact SqL.of (s12.lst i11.nm.1),SqL.of (s12.lst i11.cu.1),SqL.of (s12.lst i11.gn.1),⟨ls,SqL.of (s12.lst i11.rw.1),i11.rw.2.2.imp fun _ _ z=>SqL.of (s12.lst z.1)⟩,fun H13 _=>q H13⟩
end
theorem on0{α:Type}{P:List α→Prop}(p:P []):∀us:List α,us.length=0→P us:=by
 intro us e
 cases us with
 | nil=>exact p
 | cons _ _=>cases e
theorem onS{α:Type}{n:Nat}{P:List α→Prop}(p:∀(a:α) (us:List α),us.length=n→P (a::us)):∀us:List α,us.length=n+1→P us:=by
 intro us e
 cases us with
 | nil=>cases e
 | cons a r=>exact p a r (Nat.succ.inj e)
theorem all_mk{l:PySem.W.OpenLaw}{w:World}{K:PySem.W.Frag}{h:Heap}{mg:Str→Option Value}{fa f0 f1 f2 f3 f4 f5 f6 f7 f8 f9 f10 f11 f12 f13 f14 f15 f16 f17 f18 f19 f20 f21 f22 f23 f24 f25 f26 f27 f28 f29 f30 f31 f32 f33 f34 f35 f36 f37 f38 f39 f40 f41 f42 f43 f44 f45 f46 f47 f48 f49 f50 f51 f52 f53 f54 f55 f56 f57 f58 f59 f60 f61 f62 f63 f64 f65 f66 f67 f68 f69 f70 f71 f72 f73 oC_Sheet:Addr}(X:K.In h)(G:h.Ns mainGlobals mg)(hfa:mg "law" = some (.ref fa))
 (oa_Sheet:PySem.W.nsIn K mainGlobals "Sheet" = some (some (.ref oC_Sheet)))
 {oc0 kV0 dc0 pm0 cd0 ct0:Value} {od0 an0:Option Addr} {sl0:Array (Option Value)}
 (a0:PySem.W.findIn K (.ref oC_Sheet) "taken" = some (some (.ref f0))) (i0:PySem.W.isFn K (.ref f0)=true) (l0:K.lookup f0=some ⟨oc0,od0,.func (PySem.W.fnOf "taken" "Sheet.taken" (zn wp) (zl wp) (zd wp) .none kV0 dc0 pm0 an0 cd0 ct0),sl0⟩) (c0:PySem.W.codeIn K cd0 "Sheet.taken" = true) (k0:PySem.W.keepIn K (.ref f0)=true)
 {oc1 kV1 dc1 pm1 cd1 ct1:Value} {od1 an1:Option Addr} {sl1:Array (Option Value)}
 (a1:PySem.W.findIn K (.ref oC_Sheet) "is_sealed" = some (some (.ref f1))) (i1:PySem.W.isFn K (.ref f1)=true) (l1:K.lookup f1=some ⟨oc1,od1,.func (PySem.W.fnOf "is_sealed" "Sheet.is_sealed" (zn yn) (zl yn) (zd yn) .none kV1 dc1 pm1 an1 cd1 ct1),sl1⟩) (c1:PySem.W.codeIn K cd1 "Sheet.is_sealed" = true) (k1:PySem.W.keepIn K (.ref f1)=true)
 {oc2 kV2 dc2 pm2 cd2 ct2:Value} {od2 an2:Option Addr} {sl2:Array (Option Value)}
 (a2:PySem.W.findIn K (.ref oC_Sheet) "refuse_if_sealed" = some (some (.ref f2))) (i2:PySem.W.isFn K (.ref f2)=true) (l2:K.lookup f2=some ⟨oc2,od2,.func (PySem.W.fnOf "refuse_if_sealed" "Sheet.refuse_if_sealed" (zn zQ) (zl zQ) (zd zQ) .none kV2 dc2 pm2 an2 cd2 ct2),sl2⟩) (c2:PySem.W.codeIn K cd2 "Sheet.refuse_if_sealed" = true) (k2:PySem.W.keepIn K (.ref f2)=true)
 {oc3 kV3 dc3 pm3 cd3 ct3:Value} {od3 an3:Option Addr} {sl3:Array (Option Value)}
 (a3:PySem.W.findIn K (.ref oC_Sheet) "refuse_unknown_judge" = some (some (.ref f3))) (i3:PySem.W.isFn K (.ref f3)=true) (l3:K.lookup f3=some ⟨oc3,od3,.func (PySem.W.fnOf "refuse_unknown_judge" "Sheet.refuse_unknown_judge" (zn zI) (zl zI) (zd zI) .none kV3 dc3 pm3 an3 cd3 ct3),sl3⟩) (c3:PySem.W.codeIn K cd3 "Sheet.refuse_unknown_judge" = true) (k3:PySem.W.keepIn K (.ref f3)=true)
 {oc4 kV4 dc4 pm4 cd4 ct4:Value} {od4 an4:Option Addr} {sl4:Array (Option Value)}
 (a4:PySem.W.findIn K (.ref oC_Sheet) "couples" = some (some (.ref f4))) (i4:PySem.W.isFn K (.ref f4)=true) (l4:K.lookup f4=some ⟨oc4,od4,.func (PySem.W.fnOf "couples" "Sheet.couples" (zn yF) (zl yF) (zd yF) .none kV4 dc4 pm4 an4 cd4 ct4),sl4⟩) (c4:PySem.W.codeIn K cd4 "Sheet.couples" = true) (k4:PySem.W.keepIn K (.ref f4)=true)
 {oc5 kV5 dc5 pm5 cd5 ct5:Value} {od5 an5:Option Addr} {sl5:Array (Option Value)}
 (a5:PySem.W.findIn K (.ref oC_Sheet) "struck" = some (some (.ref f5))) (i5:PySem.W.isFn K (.ref f5)=true) (l5:K.lookup f5=some ⟨oc5,od5,.func (PySem.W.fnOf "struck" "Sheet.struck" (zn yU) (zl yU) (zd yU) .none kV5 dc5 pm5 an5 cd5 ct5),sl5⟩) (c5:PySem.W.codeIn K cd5 "Sheet.struck" = true) (k5:PySem.W.keepIn K (.ref f5)=true)
 {oc6 kV6 dc6 pm6 cd6 ct6:Value} {od6 an6:Option Addr} {sl6:Array (Option Value)}
 (a6:PySem.W.findIn K (.ref oC_Sheet) "judges" = some (some (.ref f6))) (i6:PySem.W.isFn K (.ref f6)=true) (l6:K.lookup f6=some ⟨oc6,od6,.func (PySem.W.fnOf "judges" "Sheet.judges" (zn yV) (zl yV) (zd yV) .none kV6 dc6 pm6 an6 cd6 ct6),sl6⟩) (c6:PySem.W.codeIn K cd6 "Sheet.judges" = true) (k6:PySem.W.keepIn K (.ref f6)=true)
 {oc7 kV7 dc7 pm7 cd7 ct7:Value} {od7 an7:Option Addr} {sl7:Array (Option Value)}
 (a7:PySem.W.findIn K (.ref oC_Sheet) "handed" = some (some (.ref f7))) (i7:PySem.W.isFn K (.ref f7)=true) (l7:K.lookup f7=some ⟨oc7,od7,.func (PySem.W.fnOf "handed" "Sheet.handed" (zn yC) (zl yC) (zd yC) .none kV7 dc7 pm7 an7 cd7 ct7),sl7⟩) (c7:PySem.W.codeIn K cd7 "Sheet.handed" = true) (k7:PySem.W.keepIn K (.ref f7)=true)
 {oc8 kV8 dc8 pm8 cd8 ct8:Value} {od8 an8:Option Addr} {sl8:Array (Option Value)}
 (a8:PySem.W.nsIn K mainGlobals "whole_card" = some (some (.ref f8))) (l8:K.lookup f8=some ⟨oc8,od8,.func (PySem.W.fnOf "whole_card" "whole_card" (zn wP) (zl wP) (zd wP) .none kV8 dc8 pm8 an8 cd8 ct8),sl8⟩) (c8:PySem.W.codeIn K cd8 "whole_card" = true) (k8:PySem.W.keepIn K (.ref f8)=true)
 {oc9 kV9 dc9 pm9 cd9 ct9:Value} {od9 an9:Option Addr} {sl9:Array (Option Value)}
 (a9:PySem.W.nsIn K mainGlobals "mark_on" = some (some (.ref f9))) (l9:K.lookup f9=some ⟨oc9,od9,.func (PySem.W.fnOf "mark_on" "mark_on" (zn zbr) (zl zbr) (zd zbr) .none kV9 dc9 pm9 an9 cd9 ct9),sl9⟩) (c9:PySem.W.codeIn K cd9 "mark_on" = true) (k9:PySem.W.keepIn K (.ref f9)=true)
 {oc10 kV10 dc10 pm10 cd10 ct10:Value} {od10 an10:Option Addr} {sl10:Array (Option Value)}
 (a10:PySem.W.nsIn K mainGlobals "without_couple" = some (some (.ref f10))) (l10:K.lookup f10=some ⟨oc10,od10,.func (PySem.W.fnOf "without_couple" "without_couple" (zn yj) (zl yj) (zd yj) .none kV10 dc10 pm10 an10 cd10 ct10),sl10⟩) (c10:PySem.W.codeIn K cd10 "without_couple" = true) (k10:PySem.W.keepIn K (.ref f10)=true)
 {oc11 kV11 dc11 pm11 cd11 ct11:Value} {od11 an11:Option Addr} {sl11:Array (Option Value)}
 (a11:PySem.W.nsIn K mainGlobals "one_up" = some (some (.ref f11))) (l11:K.lookup f11=some ⟨oc11,od11,.func (PySem.W.fnOf "one_up" "one_up" (zn zcc) (zl zcc) (zd zcc) .none kV11 dc11 pm11 an11 cd11 ct11),sl11⟩) (c11:PySem.W.codeIn K cd11 "one_up" = true) (k11:PySem.W.keepIn K (.ref f11)=true)
 {oc12 kV12 dc12 pm12 cd12 ct12:Value} {od12 an12:Option Addr} {sl12:Array (Option Value)}
 (a12:PySem.W.nsIn K mainGlobals "majority_of" = some (some (.ref f12))) (l12:K.lookup f12=some ⟨oc12,od12,.func (PySem.W.fnOf "majority_of" "majority_of" (zn wq) (zl wq) (zd wq) .none kV12 dc12 pm12 an12 cd12 ct12),sl12⟩) (c12:PySem.W.codeIn K cd12 "majority_of" = true) (k12:PySem.W.keepIn K (.ref f12)=true)
 {oc13 kV13 dc13 pm13 cd13 ct13:Value} {od13 an13:Option Addr} {sl13:Array (Option Value)}
 (a13:PySem.W.nsIn K mainGlobals "granting" = some (some (.ref f13))) (l13:K.lookup f13=some ⟨oc13,od13,.func (PySem.W.fnOf "granting" "granting" (zn zak) (zl zak) (zd zak) .none kV13 dc13 pm13 an13 cd13 ct13),sl13⟩) (c13:PySem.W.codeIn K cd13 "granting" = true) (k13:PySem.W.keepIn K (.ref f13)=true)
 {oc14 kV14 dc14 pm14 cd14 ct14:Value} {od14 an14:Option Addr} {sl14:Array (Option Value)}
 (a14:PySem.W.nsIn K mainGlobals "good_number" = some (some (.ref f14))) (l14:K.lookup f14=some ⟨oc14,od14,.func (PySem.W.fnOf "good_number" "good_number" (zn wk) (zl wk) (zd wk) .none kV14 dc14 pm14 an14 cd14 ct14),sl14⟩) (c14:PySem.W.codeIn K cd14 "good_number" = true) (k14:PySem.W.keepIn K (.ref f14)=true)
 {oc15 kV15 dc15 pm15 cd15 ct15:Value} {od15 an15:Option Addr} {sl15:Array (Option Value)}
 (a15:PySem.W.nsIn K mainGlobals "small_letter" = some (some (.ref f15))) (l15:K.lookup f15=some ⟨oc15,od15,.func (PySem.W.fnOf "small_letter" "small_letter" (zn yY) (zl yY) (zd yY) .none kV15 dc15 pm15 an15 cd15 ct15),sl15⟩) (c15:PySem.W.codeIn K cd15 "small_letter" = true) (k15:PySem.W.keepIn K (.ref f15)=true)
 {oc16 kV16 dc16 pm16 cd16 ct16:Value} {od16 an16:Option Addr} {sl16:Array (Option Value)}
 (a16:PySem.W.nsIn K mainGlobals "good_length" = some (some (.ref f16))) (l16:K.lookup f16=some ⟨oc16,od16,.func (PySem.W.fnOf "good_length" "good_length" (zn wn) (zl wn) (zd wn) .none kV16 dc16 pm16 an16 cd16 ct16),sl16⟩) (c16:PySem.W.codeIn K cd16 "good_length" = true) (k16:PySem.W.keepIn K (.ref f16)=true)
 {oc17 kV17 dc17 pm17 cd17 ct17:Value} {od17 an17:Option Addr} {sl17:Array (Option Value)}
 (a17:PySem.W.nsIn K mainGlobals "all_unlike" = some (some (.ref f17))) (l17:K.lookup f17=some ⟨oc17,od17,.func (PySem.W.fnOf "all_unlike" "all_unlike" (zn wU) (zl wU) (zd wU) .none kV17 dc17 pm17 an17 cd17 ct17),sl17⟩) (c17:PySem.W.codeIn K cd17 "all_unlike" = true) (k17:PySem.W.keepIn K (.ref f17)=true)
 {oc18 kV18 dc18 pm18 cd18 ct18:Value} {od18 an18:Option Addr} {sl18:Array (Option Value)}
 (a18:PySem.W.nsIn K mainGlobals "_law_whole" = some (some (.ref f18))) (l18:K.lookup f18=some ⟨oc18,od18,.func (PySem.W.fnOf "_law_whole" "_law_whole" (zn zar) (zl zar) (zd zar) .none kV18 dc18 pm18 an18 cd18 ct18),sl18⟩) (c18:PySem.W.codeIn K cd18 "_law_whole" = true) (k18:PySem.W.keepIn K (.ref f18)=true)
 {oc19 kV19 dc19 pm19 cd19 ct19:Value} {od19 an19:Option Addr} {sl19:Array (Option Value)}
 (a19:PySem.W.nsIn K mainGlobals "_law_at" = some (some (.ref f19))) (l19:K.lookup f19=some ⟨oc19,od19,.func (PySem.W.fnOf "_law_at" "_law_at" (zn zb7) (zl zb7) (zd zb7) .none kV19 dc19 pm19 an19 cd19 ct19),sl19⟩) (c19:PySem.W.codeIn K cd19 "_law_at" = true) (k19:PySem.W.keepIn K (.ref f19)=true)
 {oc20 kV20 dc20 pm20 cd20 ct20:Value} {od20 an20:Option Addr} {sl20:Array (Option Value)}
 (a20:PySem.W.nsIn K mainGlobals "_law_texts" = some (some (.ref f20))) (l20:K.lookup f20=some ⟨oc20,od20,.func (PySem.W.fnOf "_law_texts" "_law_texts" (zn zao) (zl zao) (zd zao) .none kV20 dc20 pm20 an20 cd20 ct20),sl20⟩) (c20:PySem.W.codeIn K cd20 "_law_texts" = true) (k20:PySem.W.keepIn K (.ref f20)=true)
 {oc21 kV21 dc21 pm21 cd21 ct21:Value} {od21 an21:Option Addr} {sl21:Array (Option Value)}
 (a21:PySem.W.nsIn K mainGlobals "_law_mix" = some (some (.ref f21))) (l21:K.lookup f21=some ⟨oc21,od21,.func (PySem.W.fnOf "_law_mix" "_law_mix" (zn zbm) (zl zbm) (zd zbm) .none kV21 dc21 pm21 an21 cd21 ct21),sl21⟩) (c21:PySem.W.codeIn K cd21 "_law_mix" = true) (k21:PySem.W.keepIn K (.ref f21)=true)
 {oc22 kV22 dc22 pm22 cd22 ct22:Value} {od22 an22:Option Addr} {sl22:Array (Option Value)}
 (a22:PySem.W.nsIn K mainGlobals "_law_many" = some (some (.ref f22))) (l22:K.lookup f22=some ⟨oc22,od22,.func (PySem.W.fnOf "_law_many" "_law_many" (zn zaI) (zl zaI) (zd zaI) .none kV22 dc22 pm22 an22 cd22 ct22),sl22⟩) (c22:PySem.W.codeIn K cd22 "_law_many" = true) (k22:PySem.W.keepIn K (.ref f22)=true)
 {oc23 kV23 dc23 pm23 cd23 ct23:Value} {od23 an23:Option Addr} {sl23:Array (Option Value)}
 (a23:PySem.W.nsIn K mainGlobals "_law_some" = some (some (.ref f23))) (l23:K.lookup f23=some ⟨oc23,od23,.func (PySem.W.fnOf "_law_some" "_law_some" (zn zaK) (zl zaK) (zd zaK) .none kV23 dc23 pm23 an23 cd23 ct23),sl23⟩) (c23:PySem.W.codeIn K cd23 "_law_some" = true) (k23:PySem.W.keepIn K (.ref f23)=true)
 {oc24 kV24 dc24 pm24 cd24 ct24:Value} {od24 an24:Option Addr} {sl24:Array (Option Value)}
 (a24:PySem.W.nsIn K mainGlobals "_law_couples" = some (some (.ref f24))) (l24:K.lookup f24=some ⟨oc24,od24,.func (PySem.W.fnOf "_law_couples" "_law_couples" (zn yN) (zl yN) (zd yN) .none kV24 dc24 pm24 an24 cd24 ct24),sl24⟩) (c24:PySem.W.codeIn K cd24 "_law_couples" = true) (k24:PySem.W.keepIn K (.ref f24)=true)
 {oc25 kV25 dc25 pm25 cd25 ct25:Value} {od25 an25:Option Addr} {sl25:Array (Option Value)}
 (a25:PySem.W.nsIn K mainGlobals "_law_judges" = some (some (.ref f25))) (l25:K.lookup f25=some ⟨oc25,od25,.func (PySem.W.fnOf "_law_judges" "_law_judges" (zn wb) (zl wb) (zd wb) .none kV25 dc25 pm25 an25 cd25 ct25),sl25⟩) (c25:PySem.W.codeIn K cd25 "_law_judges" = true) (k25:PySem.W.keepIn K (.ref f25)=true)
 {oc26 kV26 dc26 pm26 cd26 ct26:Value} {od26 an26:Option Addr} {sl26:Array (Option Value)}
 (a26:PySem.W.nsIn K mainGlobals "_law_stranger" = some (some (.ref f26))) (l26:K.lookup f26=some ⟨oc26,od26,.func (PySem.W.fnOf "_law_stranger" "_law_stranger" (zn yS) (zl yS) (zd yS) .none kV26 dc26 pm26 an26 cd26 ct26),sl26⟩) (c26:PySem.W.codeIn K cd26 "_law_stranger" = true) (k26:PySem.W.keepIn K (.ref f26)=true)
 {oc27 kV27 dc27 pm27 cd27 ct27:Value} {od27 an27:Option Addr} {sl27:Array (Option Value)}
 (a27:PySem.W.nsIn K mainGlobals "_law_without" = some (some (.ref f27))) (l27:K.lookup f27=some ⟨oc27,od27,.func (PySem.W.fnOf "_law_without" "_law_without" (zn yJ) (zl yJ) (zd yJ) .none kV27 dc27 pm27 an27 cd27 ct27),sl27⟩) (c27:PySem.W.codeIn K cd27 "_law_without" = true) (k27:PySem.W.keepIn K (.ref f27)=true)
 {oc28 kV28 dc28 pm28 cd28 ct28:Value} {od28 an28:Option Addr} {sl28:Array (Option Value)}
 (a28:PySem.W.nsIn K mainGlobals "_law_due" = some (some (.ref f28))) (l28:K.lookup f28=some ⟨oc28,od28,.func (PySem.W.fnOf "_law_due" "_law_due" (zn zbs) (zl zbs) (zd zbs) .none kV28 dc28 pm28 an28 cd28 ct28),sl28⟩) (c28:PySem.W.codeIn K cd28 "_law_due" = true) (k28:PySem.W.keepIn K (.ref f28)=true)
 {oc29 kV29 dc29 pm29 cd29 ct29:Value} {od29 an29:Option Addr} {sl29:Array (Option Value)}
 (a29:PySem.W.findIn K (.ref oC_Sheet) "hand_in" = some (some (.ref f29))) (i29:PySem.W.isFn K (.ref f29)=true) (l29:K.lookup f29=some ⟨oc29,od29,.func (PySem.W.fnOf "hand_in" "Sheet.hand_in" (zn yE) (zl yE) (zd yE) .none kV29 dc29 pm29 an29 cd29 ct29),sl29⟩) (c29:PySem.W.codeIn K cd29 "Sheet.hand_in" = true) (k29:PySem.W.keepIn K (.ref f29)=true)
 {oc30 kV30 dc30 pm30 cd30 ct30:Value} {od30 an30:Option Addr} {sl30:Array (Option Value)}
 (a30:PySem.W.findIn K (.ref oC_Sheet) "strike" = some (some (.ref f30))) (i30:PySem.W.isFn K (.ref f30)=true) (l30:K.lookup f30=some ⟨oc30,od30,.func (PySem.W.fnOf "strike" "Sheet.strike" (zn yX) (zl yX) (zd yX) .none kV30 dc30 pm30 an30 cd30 ct30),sl30⟩) (c30:PySem.W.codeIn K cd30 "Sheet.strike" = true) (k30:PySem.W.keepIn K (.ref f30)=true)
 {oc31 kV31 dc31 pm31 cd31 ct31:Value} {od31 an31:Option Addr} {sl31:Array (Option Value)}
 (a31:PySem.W.findIn K (.ref oC_Sheet) "seal" = some (some (.ref f31))) (i31:PySem.W.isFn K (.ref f31)=true) (l31:K.lookup f31=some ⟨oc31,od31,.func (PySem.W.fnOf "seal" "Sheet.seal" (zn wR) (zl wR) (zd wR) .none kV31 dc31 pm31 an31 cd31 ct31),sl31⟩) (c31:PySem.W.codeIn K cd31 "Sheet.seal" = true) (k31:PySem.W.keepIn K (.ref f31)=true)
 {oc32 kV32 dc32 pm32 cd32 ct32:Value} {od32 an32:Option Addr} {sl32:Array (Option Value)}
 (a32:PySem.W.findIn K (.ref oC_Sheet) "card_of" = some (some (.ref f32))) (i32:PySem.W.isFn K (.ref f32)=true) (l32:K.lookup f32=some ⟨oc32,od32,.func (PySem.W.fnOf "card_of" "Sheet.card_of" (zn yG) (zl yG) (zd yG) .none kV32 dc32 pm32 an32 cd32 ct32),sl32⟩) (c32:PySem.W.codeIn K cd32 "Sheet.card_of" = true) (k32:PySem.W.keepIn K (.ref f32)=true)
 {oc33 kV33 dc33 pm33 cd33 ct33:Value} {od33 an33:Option Addr} {sl33:Array (Option Value)}
 (a33:PySem.W.nsIn K mainGlobals "marks_of" = some (some (.ref f33))) (l33:K.lookup f33=some ⟨oc33,od33,.func (PySem.W.fnOf "marks_of" "marks_of" (zn zai) (zl zai) (zd zai) .none kV33 dc33 pm33 an33 cd33 ct33),sl33⟩) (c33:PySem.W.codeIn K cd33 "marks_of" = true) (k33:PySem.W.keepIn K (.ref f33)=true)
 {oc34 kV34 dc34 pm34 cd34 ct34:Value} {od34 an34:Option Addr} {sl34:Array (Option Value)}
 (a34:PySem.W.nsIn K mainGlobals "granted" = some (some (.ref f34))) (l34:K.lookup f34=some ⟨oc34,od34,.func (PySem.W.fnOf "granted" "granted" (zn zbp) (zl zbp) (zd zbp) .none kV34 dc34 pm34 an34 cd34 ct34),sl34⟩) (c34:PySem.W.codeIn K cd34 "granted" = true) (k34:PySem.W.keepIn K (.ref f34)=true)
 {oc35 kV35 dc35 pm35 cd35 ct35:Value} {od35 an35:Option Addr} {sl35:Array (Option Value)}
 (a35:PySem.W.nsIn K mainGlobals "granted_sum" = some (some (.ref f35))) (l35:K.lookup f35=some ⟨oc35,od35,.func (PySem.W.fnOf "granted_sum" "granted_sum" (zn wm) (zl wm) (zd wm) .none kV35 dc35 pm35 an35 cd35 ct35),sl35⟩) (c35:PySem.W.codeIn K cd35 "granted_sum" = true) (k35:PySem.W.keepIn K (.ref f35)=true)
 {oc36 kV36 dc36 pm36 cd36 ct36:Value} {od36 an36:Option Addr} {sl36:Array (Option Value)}
 (a36:PySem.W.nsIn K mainGlobals "first_number" = some (some (.ref f36))) (l36:K.lookup f36=some ⟨oc36,od36,.func (PySem.W.fnOf "first_number" "first_number" (zn y7) (zl y7) (zd y7) .none kV36 dc36 pm36 an36 cd36 ct36),sl36⟩) (c36:PySem.W.codeIn K cd36 "first_number" = true) (k36:PySem.W.keepIn K (.ref f36)=true)
 {oc37 kV37 dc37 pm37 cd37 ct37:Value} {od37 an37:Option Addr} {sl37:Array (Option Value)}
 (a37:PySem.W.nsIn K mainGlobals "refuse_fewer_cards" = some (some (.ref f37))) (l37:K.lookup f37=some ⟨oc37,od37,.func (PySem.W.fnOf "refuse_fewer_cards" "refuse_fewer_cards" (zn zY) (zl zY) (zd zY) .none kV37 dc37 pm37 an37 cd37 ct37),sl37⟩) (c37:PySem.W.codeIn K cd37 "refuse_fewer_cards" = true) (k37:PySem.W.keepIn K (.ref f37)=true)
 {oc38 kV38 dc38 pm38 cd38 ct38:Value} {od38 an38:Option Addr} {sl38:Array (Option Value)}
 (a38:PySem.W.nsIn K mainGlobals "good_couples" = some (some (.ref f38))) (l38:K.lookup f38=some ⟨oc38,od38,.func (PySem.W.fnOf "good_couples" "good_couples" (zn yz) (zl yz) (zd yz) .none kV38 dc38 pm38 an38 cd38 ct38),sl38⟩) (c38:PySem.W.codeIn K cd38 "good_couples" = true) (k38:PySem.W.keepIn K (.ref f38)=true)
 {oc39 kV39 dc39 pm39 cd39 ct39:Value} {od39 an39:Option Addr} {sl39:Array (Option Value)}
 (a39:PySem.W.nsIn K mainGlobals "good_name" = some (some (.ref f39))) (l39:K.lookup f39=some ⟨oc39,od39,.func (PySem.W.fnOf "good_name" "good_name" (zn wL) (zl wL) (zd wL) .none kV39 dc39 pm39 an39 cd39 ct39),sl39⟩) (c39:PySem.W.codeIn K cd39 "good_name" = true) (k39:PySem.W.keepIn K (.ref f39)=true)
 {oc40 kV40 dc40 pm40 cd40 ct40:Value} {od40 an40:Option Addr} {sl40:Array (Option Value)}
 (a40:PySem.W.nsIn K mainGlobals "_law_same" = some (some (.ref f40))) (l40:K.lookup f40=some ⟨oc40,od40,.func (PySem.W.fnOf "_law_same" "_law_same" (zn zaH) (zl zaH) (zd zaH) .none kV40 dc40 pm40 an40 cd40 ct40),sl40⟩) (c40:PySem.W.codeIn K cd40 "_law_same" = true) (k40:PySem.W.keepIn K (.ref f40)=true)
 {oc41 kV41 dc41 pm41 cd41 ct41:Value} {od41 an41:Option Addr} {sl41:Array (Option Value)}
 (a41:PySem.W.nsIn K mainGlobals "_law_card" = some (some (.ref f41))) (l41:K.lookup f41=some ⟨oc41,od41,.func (PySem.W.fnOf "_law_card" "_law_card" (zn zaL) (zl zaL) (zd zaL) .none kV41 dc41 pm41 an41 cd41 ct41),sl41⟩) (c41:PySem.W.codeIn K cd41 "_law_card" = true) (k41:PySem.W.keepIn K (.ref f41)=true)
 {oc42 kV42 dc42 pm42 cd42 ct42:Value} {od42 an42:Option Addr} {sl42:Array (Option Value)}
 (a42:PySem.W.findIn K (.ref oC_Sheet) "cards" = some (some (.ref f42))) (i42:PySem.W.isFn K (.ref f42)=true) (l42:K.lookup f42=some ⟨oc42,od42,.func (PySem.W.fnOf "cards" "Sheet.cards" (zn yK) (zl yK) (zd yK) .none kV42 dc42 pm42 an42 cd42 ct42),sl42⟩) (c42:PySem.W.codeIn K cd42 "Sheet.cards" = true) (k42:PySem.W.keepIn K (.ref f42)=true)
 {oc43 kV43 dc43 pm43 cd43 ct43:Value} {od43 an43:Option Addr} {sl43:Array (Option Value)}
 (a43:PySem.W.nsIn K mainGlobals "ladder_of" = some (some (.ref f43))) (l43:K.lookup f43=some ⟨oc43,od43,.func (PySem.W.fnOf "ladder_of" "ladder_of" (zn wD) (zl wD) (zd wD) .none kV43 dc43 pm43 an43 cd43 ct43),sl43⟩) (c43:PySem.W.codeIn K cd43 "ladder_of" = true) (k43:PySem.W.keepIn K (.ref f43)=true)
 {oc44 kV44 dc44 pm44 cd44 ct44:Value} {od44 an44:Option Addr} {sl44:Array (Option Value)}
 (a44:PySem.W.nsIn K mainGlobals "unlike_at" = some (some (.ref f44))) (l44:K.lookup f44=some ⟨oc44,od44,.func (PySem.W.fnOf "unlike_at" "unlike_at" (zn zal) (zl zal) (zd zal) .none kV44 dc44 pm44 an44 cd44 ct44),sl44⟩) (c44:PySem.W.codeIn K cd44 "unlike_at" = true) (k44:PySem.W.keepIn K (.ref f44)=true)
 {oc45 kV45 dc45 pm45 cd45 ct45:Value} {od45 an45:Option Addr} {sl45:Array (Option Value)}
 (a45:PySem.W.nsIn K mainGlobals "cards_without" = some (some (.ref f45))) (l45:K.lookup f45=some ⟨oc45,od45,.func (PySem.W.fnOf "cards_without" "cards_without" (zn yq) (zl yq) (zd yq) .none kV45 dc45 pm45 an45 cd45 ct45),sl45⟩) (c45:PySem.W.codeIn K cd45 "cards_without" = true) (k45:PySem.W.keepIn K (.ref f45)=true)
 {oc46 kV46 dc46 pm46 cd46 ct46:Value} {od46 an46:Option Addr} {sl46:Array (Option Value)}
 (a46:PySem.W.nsIn K mainGlobals "good_judges" = some (some (.ref f46))) (l46:K.lookup f46=some ⟨oc46,od46,.func (PySem.W.fnOf "good_judges" "good_judges" (zn yL) (zl yL) (zd yL) .none kV46 dc46 pm46 an46 cd46 ct46),sl46⟩) (c46:PySem.W.codeIn K cd46 "good_judges" = true) (k46:PySem.W.keepIn K (.ref f46)=true)
 {oc47 kV47 dc47 pm47 cd47 ct47:Value} {od47 an47:Option Addr} {sl47:Array (Option Value)}
 (a47:PySem.W.nsIn K mainGlobals "_law_lists" = some (some (.ref f47))) (l47:K.lookup f47=some ⟨oc47,od47,.func (PySem.W.fnOf "_law_lists" "_law_lists" (zn zau) (zl zau) (zd zau) .none kV47 dc47 pm47 an47 cd47 ct47),sl47⟩) (c47:PySem.W.codeIn K cd47 "_law_lists" = true) (k47:PySem.W.keepIn K (.ref f47)=true)
 {oc48 kV48 dc48 pm48 cd48 ct48:Value} {od48 an48:Option Addr} {sl48:Array (Option Value)}
 (a48:PySem.W.nsIn K mainGlobals "_law_panel" = some (some (.ref f48))) (l48:K.lookup f48=some ⟨oc48,od48,.func (PySem.W.fnOf "_law_panel" "_law_panel" (zn zat) (zl zat) (zd zat) .none kV48 dc48 pm48 an48 cd48 ct48),sl48⟩) (c48:PySem.W.codeIn K cd48 "_law_panel" = true) (k48:PySem.W.keepIn K (.ref f48)=true)
 {oc49 kV49 dc49 pm49 cd49 ct49:Value} {od49 an49:Option Addr} {sl49:Array (Option Value)}
 (a49:PySem.W.findIn K (.ref oC_Sheet) "__init__" = some (some (.ref f49))) (i49:PySem.W.isFn K (.ref f49)=true) (l49:K.lookup f49=some ⟨oc49,od49,.func (PySem.W.fnOf "__init__" "Sheet.__init__" (zn wO) (zl wO) (zd wO) .none kV49 dc49 pm49 an49 cd49 ct49),sl49⟩) (c49:PySem.W.codeIn K cd49 "Sheet.__init__" = true) (k49:PySem.W.keepIn K (.ref f49)=true)
 {oc50 kV50 dc50 pm50 cd50 ct50:Value} {od50 an50:Option Addr} {sl50:Array (Option Value)}
 (a50:PySem.W.nsIn K mainGlobals "is_ahead" = some (some (.ref f50))) (l50:K.lookup f50=some ⟨oc50,od50,.func (PySem.W.fnOf "is_ahead" "is_ahead" (zn zaR) (zl zaR) (zd zaR) .none kV50 dc50 pm50 an50 cd50 ct50),sl50⟩) (c50:PySem.W.codeIn K cd50 "is_ahead" = true) (k50:PySem.W.keepIn K (.ref f50)=true)
 {oc51 kV51 dc51 pm51 cd51 ct51:Value} {od51 an51:Option Addr} {sl51:Array (Option Value)}
 (a51:PySem.W.nsIn K mainGlobals "parting_of" = some (some (.ref f51))) (l51:K.lookup f51=some ⟨oc51,od51,.func (PySem.W.fnOf "parting_of" "parting_of" (zn wN) (zl wN) (zd wN) .none kV51 dc51 pm51 an51 cd51 ct51),sl51⟩) (c51:PySem.W.codeIn K cd51 "parting_of" = true) (k51:PySem.W.keepIn K (.ref f51)=true)
 {oc52 kV52 dc52 pm52 cd52 ct52:Value} {od52 an52:Option Addr} {sl52:Array (Option Value)}
 (a52:PySem.W.nsIn K mainGlobals "row_text" = some (some (.ref f52))) (l52:K.lookup f52=some ⟨oc52,od52,.func (PySem.W.fnOf "row_text" "row_text" (zn wG) (zl wG) (zd wG) .none kV52 dc52 pm52 an52 cd52 ct52),sl52⟩) (c52:PySem.W.codeIn K cd52 "row_text" = true) (k52:PySem.W.keepIn K (.ref f52)=true)
 {oc53 kV53 dc53 pm53 cd53 ct53:Value} {od53 an53:Option Addr} {sl53:Array (Option Value)}
 (a53:PySem.W.nsIn K mainGlobals "_law_stands" = some (some (.ref f53))) (l53:K.lookup f53=some ⟨oc53,od53,.func (PySem.W.fnOf "_law_stands" "_law_stands" (zn yt) (zl yt) (zd yt) .none kV53 dc53 pm53 an53 cd53 ct53),sl53⟩) (c53:PySem.W.codeIn K cd53 "_law_stands" = true) (k53:PySem.W.keepIn K (.ref f53)=true)
 {oc54 kV54 dc54 pm54 cd54 ct54:Value} {od54 an54:Option Addr} {sl54:Array (Option Value)}
 (a54:PySem.W.nsIn K mainGlobals "place_among" = some (some (.ref f54))) (l54:K.lookup f54=some ⟨oc54,od54,.func (PySem.W.fnOf "place_among" "place_among" (zn yR) (zl yR) (zd yR) .none kV54 dc54 pm54 an54 cd54 ct54),sl54⟩) (c54:PySem.W.codeIn K cd54 "place_among" = true) (k54:PySem.W.keepIn K (.ref f54)=true)
 {oc55 kV55 dc55 pm55 cd55 ct55:Value} {od55 an55:Option Addr} {sl55:Array (Option Value)}
 (a55:PySem.W.nsIn K mainGlobals "places_of" = some (some (.ref f55))) (l55:K.lookup f55=some ⟨oc55,od55,.func (PySem.W.fnOf "places_of" "places_of" (zn y8) (zl y8) (zd y8) .none kV55 dc55 pm55 an55 cd55 ct55),sl55⟩) (c55:PySem.W.codeIn K cd55 "places_of" = true) (k55:PySem.W.keepIn K (.ref f55)=true)
 {oc56 kV56 dc56 pm56 cd56 ct56:Value} {od56 an56:Option Addr} {sl56:Array (Option Value)}
 (a56:PySem.W.nsIn K mainGlobals "_law_sheet" = some (some (.ref f56))) (l56:K.lookup f56=some ⟨oc56,od56,.func (PySem.W.fnOf "_law_sheet" "_law_sheet" (zn zan) (zl zan) (zd zan) .none kV56 dc56 pm56 an56 cd56 ct56),sl56⟩) (c56:PySem.W.codeIn K cd56 "_law_sheet" = true) (k56:PySem.W.keepIn K (.ref f56)=true)
 {oc57 kV57 dc57 pm57 cd57 ct57:Value} {od57 an57:Option Addr} {sl57:Array (Option Value)}
 (a57:PySem.W.nsIn K mainGlobals "places" = some (some (.ref f57))) (l57:K.lookup f57=some ⟨oc57,od57,.func (PySem.W.fnOf "places" "places" (zn zcb) (zl zcb) (zd zcb) .none kV57 dc57 pm57 an57 cd57 ct57),sl57⟩) (c57:PySem.W.codeIn K cd57 "places" = true) (k57:PySem.W.keepIn K (.ref f57)=true)
 {oc58 kV58 dc58 pm58 cd58 ct58:Value} {od58 an58:Option Addr} {sl58:Array (Option Value)}
 (a58:PySem.W.nsIn K mainGlobals "left_out" = some (some (.ref f58))) (l58:K.lookup f58=some ⟨oc58,od58,.func (PySem.W.fnOf "left_out" "left_out" (zn zaJ) (zl zaJ) (zd zaJ) .none kV58 dc58 pm58 an58 cd58 ct58),sl58⟩) (c58:PySem.W.codeIn K cd58 "left_out" = true) (k58:PySem.W.keepIn K (.ref f58)=true)
 {oc59 kV59 dc59 pm59 cd59 ct59:Value} {od59 an59:Option Addr} {sl59:Array (Option Value)}
 (a59:PySem.W.nsIn K mainGlobals "step_up" = some (some (.ref f59))) (l59:K.lookup f59=some ⟨oc59,od59,.func (PySem.W.fnOf "step_up" "step_up" (zn zaG) (zl zaG) (zd zaG) .none kV59 dc59 pm59 an59 cd59 ct59),sl59⟩) (c59:PySem.W.codeIn K cd59 "step_up" = true) (k59:PySem.W.keepIn K (.ref f59)=true)
 {oc60 kV60 dc60 pm60 cd60 ct60:Value} {od60 an60:Option Addr} {sl60:Array (Option Value)}
 (a60:PySem.W.nsIn K mainGlobals "firsts_of" = some (some (.ref f60))) (l60:K.lookup f60=some ⟨oc60,od60,.func (PySem.W.fnOf "firsts_of" "firsts_of" (zn wH) (zl wH) (zd wH) .none kV60 dc60 pm60 an60 cd60 ct60),sl60⟩) (c60:PySem.W.codeIn K cd60 "firsts_of" = true) (k60:PySem.W.keepIn K (.ref f60)=true)
 {oc61 kV61 dc61 pm61 cd61 ct61:Value} {od61 an61:Option Addr} {sl61:Array (Option Value)}
 (a61:PySem.W.nsIn K mainGlobals "firsts" = some (some (.ref f61))) (l61:K.lookup f61=some ⟨oc61,od61,.func (PySem.W.fnOf "firsts" "firsts" (zn zca) (zl zca) (zd zca) .none kV61 dc61 pm61 an61 cd61 ct61),sl61⟩) (c61:PySem.W.codeIn K cd61 "firsts" = true) (k61:PySem.W.keepIn K (.ref f61)=true)
 {oc62 kV62 dc62 pm62 cd62 ct62:Value} {od62 an62:Option Addr} {sl62:Array (Option Value)}
 (a62:PySem.W.nsIn K mainGlobals "table_row" = some (some (.ref f62))) (l62:K.lookup f62=some ⟨oc62,od62,.func (PySem.W.fnOf "table_row" "table_row" (zn zap) (zl zap) (zd zap) .none kV62 dc62 pm62 an62 cd62 ct62),sl62⟩) (c62:PySem.W.codeIn K cd62 "table_row" = true) (k62:PySem.W.keepIn K (.ref f62)=true)
 {oc63 kV63 dc63 pm63 cd63 ct63:Value} {od63 an63:Option Addr} {sl63:Array (Option Value)}
 (a63:PySem.W.nsIn K mainGlobals "deciders" = some (some (.ref f63))) (l63:K.lookup f63=some ⟨oc63,od63,.func (PySem.W.fnOf "deciders" "deciders" (zn zaj) (zl zaj) (zd zaj) .none kV63 dc63 pm63 an63 cd63 ct63),sl63⟩) (c63:PySem.W.codeIn K cd63 "deciders" = true) (k63:PySem.W.keepIn K (.ref f63)=true)
 {oc64 kV64 dc64 pm64 cd64 ct64:Value} {od64 an64:Option Addr} {sl64:Array (Option Value)}
 (a64:PySem.W.nsIn K mainGlobals "by_place" = some (some (.ref f64))) (l64:K.lookup f64=some ⟨oc64,od64,.func (PySem.W.fnOf "by_place" "by_place" (zn zaE) (zl zaE) (zd zaE) .none kV64 dc64 pm64 an64 cd64 ct64),sl64⟩) (c64:PySem.W.codeIn K cd64 "by_place" = true) (k64:PySem.W.keepIn K (.ref f64)=true)
 {lc lP:Addr} {lo:Value} {ld:Option Addr} {ls:Array (Option Value)} {lvs:Array Value} (qe:cd64=.ref lc) (qk:K.lookup lc=some ⟨lo,ld,.fields lvs,ls⟩) (qv:lvs[11]? = some (.ref lP)) (qh:PySem.W.codeHdIn K lc lP=true) (qn:K.lookup lP=none)
 {oc65 kV65 dc65 pm65 cd65 ct65:Value} {od65 an65:Option Addr} {sl65:Array (Option Value)}
 (a65:PySem.W.nsIn K mainGlobals "ranking_of" = some (some (.ref f65))) (l65:K.lookup f65=some ⟨oc65,od65,.func (PySem.W.fnOf "ranking_of" "ranking_of" (zn wY) (zl wY) (zd wY) .none kV65 dc65 pm65 an65 cd65 ct65),sl65⟩) (c65:PySem.W.codeIn K cd65 "ranking_of" = true) (k65:PySem.W.keepIn K (.ref f65)=true)
 {oc66 kV66 dc66 pm66 cd66 ct66:Value} {od66 an66:Option Addr} {sl66:Array (Option Value)}
 (a66:PySem.W.nsIn K mainGlobals "partings_of" = some (some (.ref f66))) (l66:K.lookup f66=some ⟨oc66,od66,.func (PySem.W.fnOf "partings_of" "partings_of" (zn yP) (zl yP) (zd yP) .none kV66 dc66 pm66 an66 cd66 ct66),sl66⟩) (c66:PySem.W.codeIn K cd66 "partings_of" = true) (k66:PySem.W.keepIn K (.ref f66)=true)
 {oc67 kV67 dc67 pm67 cd67 ct67:Value} {od67 an67:Option Addr} {sl67:Array (Option Value)}
 (a67:PySem.W.nsIn K mainGlobals "ranking" = some (some (.ref f67))) (l67:K.lookup f67=some ⟨oc67,od67,.func (PySem.W.fnOf "ranking" "ranking" (zn zbo) (zl zbo) (zd zbo) .none kV67 dc67 pm67 an67 cd67 ct67),sl67⟩) (c67:PySem.W.codeIn K cd67 "ranking" = true) (k67:PySem.W.keepIn K (.ref f67)=true)
 {oc68 kV68 dc68 pm68 cd68 ct68:Value} {od68 an68:Option Addr} {sl68:Array (Option Value)}
 (a68:PySem.W.nsIn K mainGlobals "partings" = some (some (.ref f68))) (l68:K.lookup f68=some ⟨oc68,od68,.func (PySem.W.fnOf "partings" "partings" (zn zaP) (zl zaP) (zd zaP) .none kV68 dc68 pm68 an68 cd68 ct68),sl68⟩) (c68:PySem.W.codeIn K cd68 "partings" = true) (k68:PySem.W.keepIn K (.ref f68)=true)
 {oc69 kV69 dc69 pm69 cd69 ct69:Value} {od69 an69:Option Addr} {sl69:Array (Option Value)}
 (a69:PySem.W.nsIn K mainGlobals "table" = some (some (.ref f69))) (l69:K.lookup f69=some ⟨oc69,od69,.func (PySem.W.fnOf "table" "table" (zn zcD) (zl zcD) (zd zcD) .none kV69 dc69 pm69 an69 cd69 ct69),sl69⟩) (c69:PySem.W.codeIn K cd69 "table" = true) (k69:PySem.W.keepIn K (.ref f69)=true)
 {oc70 kV70 dc70 pm70 cd70 ct70:Value} {od70 an70:Option Addr} {sl70:Array (Option Value)}
 (a70:PySem.W.nsIn K mainGlobals "_law_plain_question" = some (some (.ref f70))) (l70:K.lookup f70=some ⟨oc70,od70,.func (PySem.W.fnOf "_law_plain_question" "_law_plain_question" (zn zZ) (zl zZ) (zd zZ) .none kV70 dc70 pm70 an70 cd70 ct70),sl70⟩) (c70:PySem.W.codeIn K cd70 "_law_plain_question" = true) (k70:PySem.W.keepIn K (.ref f70)=true)
 {oc71 kV71 dc71 pm71 cd71 ct71:Value} {od71 an71:Option Addr} {sl71:Array (Option Value)}
 (a71:PySem.W.nsIn K mainGlobals "_law_asked" = some (some (.ref f71))) (l71:K.lookup f71=some ⟨oc71,od71,.func (PySem.W.fnOf "_law_asked" "_law_asked" (zn zaq) (zl zaq) (zd zaq) .none kV71 dc71 pm71 an71 cd71 ct71),sl71⟩) (c71:PySem.W.codeIn K cd71 "_law_asked" = true) (k71:PySem.W.keepIn K (.ref f71)=true)
 {oc72 kV72 dc72 pm72 cd72 ct72:Value} {od72 an72:Option Addr} {sl72:Array (Option Value)}
 (a72:PySem.W.nsIn K mainGlobals "_law_all" = some (some (.ref f72))) (l72:K.lookup f72=some ⟨oc72,od72,.func (PySem.W.fnOf "_law_all" "_law_all" (zn zaN) (zl zaN) (zd zaN) .none kV72 dc72 pm72 an72 cd72 ct72),sl72⟩) (c72:PySem.W.codeIn K cd72 "_law_all" = true) (k72:PySem.W.keepIn K (.ref f72)=true)
 {oc73 kV73 dc73 pm73 cd73 ct73:Value} {od73 an73:Option Addr} {sl73:Array (Option Value)}
 (a73:PySem.W.nsIn K mainGlobals "law" = some (some (.ref f73))) (l73:K.lookup f73=some ⟨oc73,od73,.func (PySem.W.fnOf "law" "law" (zn zcI) (zl zcI) (zd zcI) .none kV73 dc73 pm73 an73 cd73 ct73),sl73⟩) (c73:PySem.W.codeIn K cd73 "law" = true) (k73:PySem.W.keepIn K (.ref f73)=true)
 (z0:PySem.W.nsIn K mainGlobals "all" = some none)
 (z1:PySem.W.nsIn K mainGlobals "bool" = some none)
 (z2:PySem.W.nsIn K mainGlobals "int" = some none)
 (z3:PySem.W.nsIn K mainGlobals "isinstance" = some none)
 (z4:PySem.W.nsIn K mainGlobals "len" = some none)
 (z5:PySem.W.nsIn K mainGlobals "list" = some none)
 (z6:PySem.W.nsIn K mainGlobals "max" = some none)
 (z7:PySem.W.nsIn K mainGlobals "min" = some none)
 (z8:PySem.W.nsIn K mainGlobals "range" = some none)
 (z9:PySem.W.nsIn K mainGlobals "set" = some none)
 (z10:PySem.W.nsIn K mainGlobals "sorted" = some none)
 (z11:PySem.W.nsIn K mainGlobals "str" = some none)
 (z12:PySem.W.nsIn K mainGlobals "sum" = some none)
 (z13:PySem.W.nsIn K mainGlobals "zip" = some none)
 {t0:Tok} (y0:PySem.W.nsIn K mainGlobals "MOST_COUPLES" = some (some (.int 24 t0)))
 {t1:Tok} (y1:PySem.W.nsIn K mainGlobals "MOST_JUDGES" = some (some (.int 15 t1)))
 {t2:Tok} (y2:PySem.W.nsIn K mainGlobals "MOST_NUMBER" = some (some (.int 999 t2)))
 {t3:Tok} (y3:PySem.W.nsIn K mainGlobals "MOST_SIGNS" = some (some (.int 8 t3)))
 {t4:Tok} (y4:PySem.W.nsIn K mainGlobals "MOST_CARDS" = some (some (.int 200 t4)))
 {xc0:Addr} (xa0:PySem.W.nsIn K mainGlobals "PanelError" = some (some (.ref xc0)))
 {xc1:Addr} (xa1:PySem.W.nsIn K mainGlobals "BadCouples" = some (some (.ref xc1)))
 {xc2:Addr} (xa2:PySem.W.nsIn K mainGlobals "BadJudges" = some (some (.ref xc2)))
 {xc3:Addr} (xa3:PySem.W.nsIn K mainGlobals "SheetSealed" = some (some (.ref xc3)))
 {xc4:Addr} (xa4:PySem.W.nsIn K mainGlobals "UnknownJudge" = some (some (.ref xc4)))
 {xc5:Addr} (xa5:PySem.W.nsIn K mainGlobals "BadCard" = some (some (.ref xc5)))
 {xc6:Addr} (xa6:PySem.W.nsIn K mainGlobals "TooManyCards" = some (some (.ref xc6)))
 {xc7:Addr} (xa7:PySem.W.nsIn K mainGlobals "UnknownCouple" = some (some (.ref xc7)))
 {xc8:Addr} (xa8:PySem.W.nsIn K mainGlobals "LastCouple" = some (some (.ref xc8)))
 {xc9:Addr} (xa9:PySem.W.nsIn K mainGlobals "NoCard" = some (some (.ref xc9)))
 {xc10:Addr} (xa10:PySem.W.nsIn K mainGlobals "TooFewCards" = some (some (.ref xc10)))
 {xc11:Addr} (xa11:PySem.W.nsIn K mainGlobals "AtTop" = some (some (.ref xc11)))
 (xe0:PySem.W.excIn K xc0 bmV "ValueError.__new__" = true)
 (xe1:PySem.W.excIn K xc1 bmV "ValueError.__new__" = true)
 (xe2:PySem.W.excIn K xc2 bmV "ValueError.__new__" = true)
 (xe3:PySem.W.excIn K xc3 bmV "ValueError.__new__" = true)
 (xe4:PySem.W.excIn K xc4 bmV "ValueError.__new__" = true)
 (xi4:L2.exI K xc4=true)
 (xs4_0:L2.zaU K xc4 xc0=true)
 (xk4_4:PySem.W.kitOne K (.ref xc4) (.ref xc4)=some true)
 (xk4_7:PySem.W.kitOne K (.ref xc4) (.ref xc7)=some false)
 (xk4_9:PySem.W.kitOne K (.ref xc4) (.ref xc9)=some false)
 (xk4_10:PySem.W.kitOne K (.ref xc4) (.ref xc10)=some false)
 (xk4_11:PySem.W.kitOne K (.ref xc4) (.ref xc11)=some false)
 (xe5:PySem.W.excIn K xc5 bmV "ValueError.__new__" = true)
 (xe6:PySem.W.excIn K xc6 bmV "ValueError.__new__" = true)
 (xe7:PySem.W.excIn K xc7 bmV "ValueError.__new__" = true)
 (xi7:L2.exI K xc7=true)
 (xs7_0:L2.zaU K xc7 xc0=true)
 (xk7_4:PySem.W.kitOne K (.ref xc7) (.ref xc4)=some false)
 (xk7_7:PySem.W.kitOne K (.ref xc7) (.ref xc7)=some true)
 (xk7_9:PySem.W.kitOne K (.ref xc7) (.ref xc9)=some false)
 (xk7_10:PySem.W.kitOne K (.ref xc7) (.ref xc10)=some false)
 (xk7_11:PySem.W.kitOne K (.ref xc7) (.ref xc11)=some false)
 (xe8:PySem.W.excIn K xc8 bmV "ValueError.__new__" = true)
 (xe9:PySem.W.excIn K xc9 bmV "ValueError.__new__" = true)
 (xi9:L2.exI K xc9=true)
 (xs9_0:L2.zaU K xc9 xc0=true)
 (xk9_4:PySem.W.kitOne K (.ref xc9) (.ref xc4)=some false)
 (xk9_7:PySem.W.kitOne K (.ref xc9) (.ref xc7)=some false)
 (xk9_9:PySem.W.kitOne K (.ref xc9) (.ref xc9)=some true)
 (xk9_10:PySem.W.kitOne K (.ref xc9) (.ref xc10)=some false)
 (xk9_11:PySem.W.kitOne K (.ref xc9) (.ref xc11)=some false)
 (xe10:PySem.W.excIn K xc10 bmV "ValueError.__new__" = true)
 (xi10:L2.exI K xc10=true)
 (xs10_0:L2.zaU K xc10 xc0=true)
 (xk10_4:PySem.W.kitOne K (.ref xc10) (.ref xc4)=some false)
 (xk10_7:PySem.W.kitOne K (.ref xc10) (.ref xc7)=some false)
 (xk10_9:PySem.W.kitOne K (.ref xc10) (.ref xc9)=some false)
 (xk10_10:PySem.W.kitOne K (.ref xc10) (.ref xc10)=some true)
 (xk10_11:PySem.W.kitOne K (.ref xc10) (.ref xc11)=some false)
 (xe11:PySem.W.excIn K xc11 bmV "ValueError.__new__" = true)
 (xi11:L2.exI K xc11=true)
 (xs11_0:L2.zaU K xc11 xc0=true)
 (xk11_4:PySem.W.kitOne K (.ref xc11) (.ref xc4)=some false)
 (xk11_7:PySem.W.kitOne K (.ref xc11) (.ref xc7)=some false)
 (xk11_9:PySem.W.kitOne K (.ref xc11) (.ref xc9)=some false)
 (xk11_10:PySem.W.kitOne K (.ref xc11) (.ref xc10)=some false)
 (xk11_11:PySem.W.kitOne K (.ref xc11) (.ref xc11)=some true)
 (opg_Sheet:PySem.W.plainGet K oC_Sheet Str.empty=true)
 (ohd_Sheet:PySem.W.hasDictIn K oC_Sheet=true)
 (opo_Sheet:PySem.W.plainOver K oC_Sheet=true)
 (osa_Sheet:PySem.W.findIn K (.ref oC_Sheet) "__setattr__" = some (some (.builtin "object.__setattr__")))
 (omk_Sheet:PySem.W.makesIn K oC_Sheet=true)
 (okc_Sheet:PySem.W.keepIn K (.ref oC_Sheet)=true)
 (on_Sheet_standing:PySem.W.findIn K (.ref oC_Sheet) "standing" = some none)
 (on_Sheet_struck_so_far:PySem.W.findIn K (.ref oC_Sheet) "struck_so_far" = some none)
 (on_Sheet_panel:PySem.W.findIn K (.ref oC_Sheet) "panel" = some none)
 (on_Sheet_card_by_judge:PySem.W.findIn K (.ref oC_Sheet) "card_by_judge" = some none)
 (on_Sheet_taken_so_far:PySem.W.findIn K (.ref oC_Sheet) "taken_so_far" = some none)
 (on_Sheet_sealed:PySem.W.findIn K (.ref oC_Sheet) "sealed" = some none)
 : LamK K "by_place" ∧ ∃fd:FuncData,(∀(s:Shared) (v:Value),BindsTo s fd ⟨[v],[]⟩ [("_law_script",v)])∧∀base:Heap,K.In base→base.Ns mainGlobals mg→zd1 mg base→FnOk l.prog w K mg base CX0 18 fa fd ["_law_script"] (zhl K):=by
 obtain⟨L64,LK⟩:=lam_mk a64 l64 qe qk qv qh qn
 have e:=hfa.symm.trans (PySem.W.mg_of X G a73)
 cases e
 have oc_Sheet:=clsA_of oa_Sheet
 have T:Txt K mg:=⟨PySem.W.mg_none_of X G z0,PySem.W.mg_none_of X G z1,PySem.W.mg_none_of X G z2,PySem.W.mg_none_of X G z3,PySem.W.mg_none_of X G z4,PySem.W.mg_none_of X G z5,PySem.W.mg_none_of X G z6,PySem.W.mg_none_of X G z7,PySem.W.mg_none_of X G z8,PySem.W.mg_none_of X G z9,PySem.W.mg_none_of X G z10,PySem.W.mg_none_of X G z11,PySem.W.mg_none_of X G z12,PySem.W.mg_none_of X G z13,⟨_,PySem.W.mg_of X G y0⟩,⟨_,PySem.W.mg_of X G y1⟩,⟨_,PySem.W.mg_of X G y2⟩,⟨_,PySem.W.mg_of X G y3⟩,⟨_,PySem.W.mg_of X G y4⟩,⟨xc0,xa0,PySem.W.mg_of X G xa0,xe0⟩,⟨xc1,xa1,PySem.W.mg_of X G xa1,xe1⟩,⟨xc2,xa2,PySem.W.mg_of X G xa2,xe2⟩,⟨xc3,xa3,PySem.W.mg_of X G xa3,xe3⟩,⟨xc4,xa4,PySem.W.mg_of X G xa4,xe4⟩,fun C hC=>by cases zq.inj hC xa4;exact xi4,fun C D hC hD=>by cases zq.inj hC xa4;cases zq.inj hD xa0;exact xs4_0,fun C D hC hD=>by cases zq.inj hC xa4;cases zq.inj hD xa4;exact xk4_4,fun C D hC hD=>by cases zq.inj hC xa4;cases zq.inj hD xa7;exact xk4_7,fun C D hC hD=>by cases zq.inj hC xa4;cases zq.inj hD xa9;exact xk4_9,fun C D hC hD=>by cases zq.inj hC xa4;cases zq.inj hD xa10;exact xk4_10,fun C D hC hD=>by cases zq.inj hC xa4;cases zq.inj hD xa11;exact xk4_11,⟨xc5,xa5,PySem.W.mg_of X G xa5,xe5⟩,⟨xc6,xa6,PySem.W.mg_of X G xa6,xe6⟩,⟨xc7,xa7,PySem.W.mg_of X G xa7,xe7⟩,fun C hC=>by cases zq.inj hC xa7;exact xi7,fun C D hC hD=>by cases zq.inj hC xa7;cases zq.inj hD xa0;exact xs7_0,fun C D hC hD=>by cases zq.inj hC xa7;cases zq.inj hD xa4;exact xk7_4,fun C D hC hD=>by cases zq.inj hC xa7;cases zq.inj hD xa7;exact xk7_7,fun C D hC hD=>by cases zq.inj hC xa7;cases zq.inj hD xa9;exact xk7_9,fun C D hC hD=>by cases zq.inj hC xa7;cases zq.inj hD xa10;exact xk7_10,fun C D hC hD=>by cases zq.inj hC xa7;cases zq.inj hD xa11;exact xk7_11,⟨xc8,xa8,PySem.W.mg_of X G xa8,xe8⟩,⟨xc9,xa9,PySem.W.mg_of X G xa9,xe9⟩,fun C hC=>by cases zq.inj hC xa9;exact xi9,fun C D hC hD=>by cases zq.inj hC xa9;cases zq.inj hD xa0;exact xs9_0,fun C D hC hD=>by cases zq.inj hC xa9;cases zq.inj hD xa4;exact xk9_4,fun C D hC hD=>by cases zq.inj hC xa9;cases zq.inj hD xa7;exact xk9_7,fun C D hC hD=>by cases zq.inj hC xa9;cases zq.inj hD xa9;exact xk9_9,fun C D hC hD=>by cases zq.inj hC xa9;cases zq.inj hD xa10;exact xk9_10,fun C D hC hD=>by cases zq.inj hC xa9;cases zq.inj hD xa11;exact xk9_11,⟨xc10,xa10,PySem.W.mg_of X G xa10,xe10⟩,fun C hC=>by cases zq.inj hC xa10;exact xi10,fun C D hC hD=>by cases zq.inj hC xa10;cases zq.inj hD xa0;exact xs10_0,fun C D hC hD=>by cases zq.inj hC xa10;cases zq.inj hD xa4;exact xk10_4,fun C D hC hD=>by cases zq.inj hC xa10;cases zq.inj hD xa7;exact xk10_7,fun C D hC hD=>by cases zq.inj hC xa10;cases zq.inj hD xa9;exact xk10_9,fun C D hC hD=>by cases zq.inj hC xa10;cases zq.inj hD xa10;exact xk10_10,fun C D hC hD=>by cases zq.inj hC xa10;cases zq.inj hD xa11;exact xk10_11,⟨xc11,xa11,PySem.W.mg_of X G xa11,xe11⟩,fun C hC=>by cases zq.inj hC xa11;exact xi11,fun C D hC hD=>by cases zq.inj hC xa11;cases zq.inj hD xa0;exact xs11_0,fun C D hC hD=>by cases zq.inj hC xa11;cases zq.inj hD xa4;exact xk11_4,fun C D hC hD=>by cases zq.inj hC xa11;cases zq.inj hD xa7;exact xk11_7,fun C D hC hD=>by cases zq.inj hC xa11;cases zq.inj hD xa9;exact xk11_9,fun C D hC hD=>by cases zq.inj hC xa11;cases zq.inj hD xa10;exact xk11_10,fun C D hC hD=>by cases zq.inj hC xa11;cases zq.inj hD xa11;exact xk11_11,oc_Sheet ▸ ⟨opg_Sheet,ohd_Sheet,opo_Sheet,osa_Sheet⟩,oc_Sheet ▸ on_Sheet_standing,oc_Sheet ▸ on_Sheet_struck_so_far,oc_Sheet ▸ on_Sheet_panel,oc_Sheet ▸ on_Sheet_card_by_judge,oc_Sheet ▸ on_Sheet_taken_so_far,oc_Sheet ▸ on_Sheet_sealed⟩
 have F0:=zv (st:=wp) l0 c0 k0
 have b0:=F0.binds (ps := ["self"]) fun _ _ _ _ _ _=>onS fun _=>on0 rfl
 have F1:=zv (st:=yn) l1 c1 k1
 have b1:=F1.binds (ps := ["self"]) fun _ _ _ _ _ _=>onS fun _=>on0 rfl
 have F2:=zv (st:=zQ) l2 c2 k2
 have b2:=F2.binds (ps := ["self"]) fun _ _ _ _ _ _=>onS fun _=>on0 rfl
 have F3:=zv (st:=zI) l3 c3 k3
 have b3:=F3.binds (ps := ["self","judge"]) fun _ _ _ _ _ _=>onS fun _=>onS fun _=>on0 rfl
 have F4:=zv (st:=yF) l4 c4 k4
 have b4:=F4.binds (ps := ["self"]) fun _ _ _ _ _ _=>onS fun _=>on0 rfl
 have F5:=zv (st:=yU) l5 c5 k5
 have b5:=F5.binds (ps := ["self"]) fun _ _ _ _ _ _=>onS fun _=>on0 rfl
 have F6:=zv (st:=yV) l6 c6 k6
 have b6:=F6.binds (ps := ["self"]) fun _ _ _ _ _ _=>onS fun _=>on0 rfl
 have F7:=zv (st:=yC) l7 c7 k7
 have b7:=F7.binds (ps := ["self"]) fun _ _ _ _ _ _=>onS fun _=>on0 rfl
 have F8:=zv (st:=wP) l8 c8 k8
 have b8:=F8.binds (ps := ["card","couples"]) fun _ _ _ _ _ _=>onS fun _=>onS fun _=>on0 rfl
 have F9:=zv (st:=zbr) l9 c9 k9
 have b9:=F9.binds (ps := ["card","couple"]) fun _ _ _ _ _ _=>onS fun _=>onS fun _=>on0 rfl
 have F10:=zv (st:=yj) l10 c10 k10
 have b10:=F10.binds (ps := ["card","couple"]) fun _ _ _ _ _ _=>onS fun _=>onS fun _=>on0 rfl
 have F11:=zv (st:=zcc) l11 c11 k11
 have b11:=F11.binds (ps := ["card","couple"]) fun _ _ _ _ _ _=>onS fun _=>onS fun _=>on0 rfl
 have F12:=zv (st:=wq) l12 c12 k12
 have b12:=F12.binds (ps := ["many"]) fun _ _ _ _ _ _=>onS fun _=>on0 rfl
 have F13:=zv (st:=zak) l13 c13 k13
 have b13:=F13.binds (ps := ["marks","number"]) fun _ _ _ _ _ _=>onS fun _=>onS fun _=>on0 rfl
 have F14:=zv (st:=wk) l14 c14 k14
 have b14:=F14.binds (ps := ["couple"]) fun _ _ _ _ _ _=>onS fun _=>on0 rfl
 have F15:=zv (st:=yY) l15 c15 k15
 have b15:=F15.binds (ps := ["sign"]) fun _ _ _ _ _ _=>onS fun _=>on0 rfl
 have F16:=zv (st:=wn) l16 c16 k16
 have b16:=F16.binds (ps := ["things","most"]) fun _ _ _ _ _ _=>onS fun _=>onS fun _=>on0 rfl
 have F17:=zv (st:=wU) l17 c17 k17
 have b17:=F17.binds (ps := ["things"]) fun _ _ _ _ _ _=>onS fun _=>on0 rfl
 have F18:=zv (st:=zar) l18 c18 k18
 have b18:=F18.binds (ps := ["_law_found"]) fun _ _ _ _ _ _=>onS fun _=>on0 rfl
 have F19:=zv (st:=zb7) l19 c19 k19
 have b19:=F19.binds (ps := ["_law_script","_law_k"]) fun _ _ _ _ _ _=>onS fun _=>onS fun _=>on0 rfl
 have F20:=zv (st:=zao) l20 c20 k20
 have b20:=F20.binds (ps := ["_law_found","_law_due_here"]) fun _ _ _ _ _ _=>onS fun _=>onS fun _=>on0 rfl
 have F21:=zv (st:=zbm) l21 c21 k21
 have b21:=F21.binds (ps := ["_law_cell","_law_place"]) fun _ _ _ _ _ _=>onS fun _=>onS fun _=>on0 rfl
 have F22:=zv (st:=zaI) l22 c22 k22
 have b22:=F22.binds (ps := ["_law_mode","_law_cell","_law_least","_law_few","_law_most"]) fun _ _ _ _ _ _=>onS fun _=>onS fun _=>onS fun _=>onS fun _=>onS fun _=>on0 rfl
 have F23:=zv (st:=zaK) l23 c23 k23
 have b23:=F23.binds (ps := ["_law_row","_law_cell"]) fun _ _ _ _ _ _=>onS fun _=>onS fun _=>on0 rfl
 have F24:=zv (st:=yN) l24 c24 k24
 have b24:=F24.binds (ps := ["_law_cell","_law_many_here"]) fun _ _ _ _ _ _=>onS fun _=>onS fun _=>on0 rfl
 have F25:=zv (st:=wb) l25 c25 k25
 have b25:=F25.binds (ps := ["_law_cell","_law_many_here"]) fun _ _ _ _ _ _=>onS fun _=>onS fun _=>on0 rfl
 have F26:=zv (st:=yS) l26 c26 k26
 have b26:=F26.binds (ps := ["_law_name","_law_cell"]) fun _ _ _ _ _ _=>onS fun _=>onS fun _=>on0 rfl
 have F27:=zv (st:=yJ) l27 c27 k27
 have b27:=F27.binds (ps := ["_law_card_here","_law_couple"]) fun _ _ _ _ _ _=>onS fun _=>onS fun _=>on0 rfl
 have F28:=zv (st:=zbs) l28 c28 k28
 have b28:=F28.binds (ps := ["_law_which","_law_into","_law_card_here","_law_couples_here","_law_couple"]) fun _ _ _ _ _ _=>onS fun _=>onS fun _=>onS fun _=>onS fun _=>onS fun _=>on0 rfl
 have F29:=zv (st:=yE) l29 c29 k29
 have b29:=F29.binds (ps := ["self","judge","card"]) fun _ _ _ _ _ _=>onS fun _=>onS fun _=>onS fun _=>on0 rfl
 have F30:=zv (st:=yX) l30 c30 k30
 have b30:=F30.binds (ps := ["self","couple"]) fun _ _ _ _ _ _=>onS fun _=>onS fun _=>on0 rfl
 have F31:=zv (st:=wR) l31 c31 k31
 have b31:=F31.binds (ps := ["self"]) fun _ _ _ _ _ _=>onS fun _=>on0 rfl
 have F32:=zv (st:=yG) l32 c32 k32
 have b32:=F32.binds (ps := ["self","judge"]) fun _ _ _ _ _ _=>onS fun _=>onS fun _=>on0 rfl
 have F33:=zv (st:=zai) l33 c33 k33
 have b33:=F33.binds (ps := ["cards","couple"]) fun _ _ _ _ _ _=>onS fun _=>onS fun _=>on0 rfl
 have F34:=zv (st:=zbp) l34 c34 k34
 have b34:=F34.binds (ps := ["marks","number"]) fun _ _ _ _ _ _=>onS fun _=>onS fun _=>on0 rfl
 have F35:=zv (st:=wm) l35 c35 k35
 have b35:=F35.binds (ps := ["marks","number"]) fun _ _ _ _ _ _=>onS fun _=>onS fun _=>on0 rfl
 have F36:=zv (st:=y7) l36 c36 k36
 have b36:=F36.binds (ps := ["marks"]) fun _ _ _ _ _ _=>onS fun _=>on0 rfl
 have F37:=zv (st:=zY) l37 c37 k37
 have b37:=F37.binds (ps := ["sheet","least"]) fun _ _ _ _ _ _=>onS fun _=>onS fun _=>on0 rfl
 have F38:=zv (st:=yz) l38 c38 k38
 have b38:=F38.binds (ps := ["couples"]) fun _ _ _ _ _ _=>onS fun _=>on0 rfl
 have F39:=zv (st:=wL) l39 c39 k39
 have b39:=F39.binds (ps := ["judge"]) fun _ _ _ _ _ _=>onS fun _=>on0 rfl
 have F40:=zv (st:=zaH) l40 c40 k40
 have b40:=F40.binds (ps := ["_law_found","_law_due_here"]) fun _ _ _ _ _ _=>onS fun _=>onS fun _=>on0 rfl
 have F41:=zv (st:=zaL) l41 c41 k41
 have b41:=F41.binds (ps := ["_law_cell","_law_couples_here","_law_style"]) fun _ _ _ _ _ _=>onS fun _=>onS fun _=>onS fun _=>on0 rfl
 have F42:=zv (st:=yK) l42 c42 k42
 have b42:=F42.binds (ps := ["self"]) fun _ _ _ _ _ _=>onS fun _=>on0 rfl
 have F43:=zv (st:=wD) l43 c43 k43
 have b43:=F43.binds (ps := ["marks","last"]) fun _ _ _ _ _ _=>onS fun _=>onS fun _=>on0 rfl
 have F44:=zv (st:=zal) l44 c44 k44
 have b44:=F44.binds (ps := ["one","other"]) fun _ _ _ _ _ _=>onS fun _=>onS fun _=>on0 rfl
 have F45:=zv (st:=yq) l45 c45 k45
 have b45:=F45.binds (ps := ["sheet","judge"]) fun _ _ _ _ _ _=>onS fun _=>onS fun _=>on0 rfl
 have F46:=zv (st:=yL) l46 c46 k46
 have b46:=F46.binds (ps := ["judges"]) fun _ _ _ _ _ _=>onS fun _=>on0 rfl
 have F47:=zv (st:=zau) l47 c47 k47
 have b47:=F47.binds (ps := ["_law_found","_law_due_here"]) fun _ _ _ _ _ _=>onS fun _=>onS fun _=>on0 rfl
 have F48:=zv (st:=zat) l48 c48 k48
 have b48:=F48.binds (ps := ["_law_script","_law_start","_law_couples_here","_law_many_here","_law_style","_law_mode"]) fun _ _ _ _ _ _=>onS fun _=>onS fun _=>onS fun _=>onS fun _=>onS fun _=>onS fun _=>on0 rfl
 have F49:=zv (st:=wO) l49 c49 k49
 have b49:=F49.binds (ps := ["self","couples","judges"]) fun _ _ _ _ _ _=>onS fun _=>onS fun _=>onS fun _=>on0 rfl
 have F50:=zv (st:=zaR) l50 c50 k50
 have b50:=F50.binds (ps := ["one","other"]) fun _ _ _ _ _ _=>onS fun _=>onS fun _=>on0 rfl
 have F51:=zv (st:=wN) l51 c51 k51
 have b51:=F51.binds (ps := ["one","other"]) fun _ _ _ _ _ _=>onS fun _=>onS fun _=>on0 rfl
 have F52:=zv (st:=wG) l52 c52 k52
 have b52:=F52.binds (ps := ["sheet","place","couple"]) fun _ _ _ _ _ _=>onS fun _=>onS fun _=>onS fun _=>on0 rfl
 have F53:=zv (st:=yt) l53 c53 k53
 have b53:=F53.binds (ps := ["_law_sheet_here","_law_names","_law_couples_here","_law_gone","_law_cards","_law_many_here","_law_shut"]) fun _ _ _ _ _ _=>onS fun _=>onS fun _=>onS fun _=>onS fun _=>onS fun _=>onS fun _=>onS fun _=>on0 rfl
 have F54:=zv (st:=yR) l54 c54 k54
 have b54:=F54.binds (ps := ["rows","own"]) fun _ _ _ _ _ _=>onS fun _=>onS fun _=>on0 rfl
 have F55:=zv (st:=y8) l55 c55 k55
 have b55:=F55.binds (ps := ["cards","couples"]) fun _ _ _ _ _ _=>onS fun _=>onS fun _=>on0 rfl
 have F56:=zv (st:=zan) l56 c56 k56
 have b56:=F56.binds (ps := ["_law_couples_here","_law_names","_law_cards"]) fun _ _ _ _ _ _=>onS fun _=>onS fun _=>onS fun _=>on0 rfl
 have F57:=zv (st:=zcb) l57 c57 k57
 have b57:=F57.binds (ps := ["sheet"]) fun _ _ _ _ _ _=>onS fun _=>on0 rfl
 have F58:=zv (st:=zaJ) l58 c58 k58
 have b58:=F58.binds (ps := ["sheet","judge"]) fun _ _ _ _ _ _=>onS fun _=>onS fun _=>on0 rfl
 have F59:=zv (st:=zaG) l59 c59 k59
 have b59:=F59.binds (ps := ["sheet","judge","couple"]) fun _ _ _ _ _ _=>onS fun _=>onS fun _=>onS fun _=>on0 rfl
 have F60:=zv (st:=wH) l60 c60 k60
 have b60:=F60.binds (ps := ["cards","couples"]) fun _ _ _ _ _ _=>onS fun _=>onS fun _=>on0 rfl
 have F61:=zv (st:=zca) l61 c61 k61
 have b61:=F61.binds (ps := ["sheet"]) fun _ _ _ _ _ _=>onS fun _=>on0 rfl
 have F62:=zv (st:=zap) l62 c62 k62
 have b62:=F62.binds (ps := ["sheet","couple"]) fun _ _ _ _ _ _=>onS fun _=>onS fun _=>on0 rfl
 have F63:=zv (st:=zaj) l63 c63 k63
 have b63:=F63.binds (ps := ["sheet"]) fun _ _ _ _ _ _=>onS fun _=>on0 rfl
 have F64:=zv (st:=zaE) l64 c64 k64
 have b64:=F64.binds (ps := ["places","couples"]) fun _ _ _ _ _ _=>onS fun _=>onS fun _=>on0 rfl
 have F65:=zv (st:=wY) l65 c65 k65
 have b65:=F65.binds (ps := ["cards","couples"]) fun _ _ _ _ _ _=>onS fun _=>onS fun _=>on0 rfl
 have F66:=zv (st:=yP) l66 c66 k66
 have b66:=F66.binds (ps := ["cards","couples"]) fun _ _ _ _ _ _=>onS fun _=>onS fun _=>on0 rfl
 have F67:=zv (st:=zbo) l67 c67 k67
 have b67:=F67.binds (ps := ["sheet"]) fun _ _ _ _ _ _=>onS fun _=>on0 rfl
 have F68:=zv (st:=zaP) l68 c68 k68
 have b68:=F68.binds (ps := ["sheet"]) fun _ _ _ _ _ _=>onS fun _=>on0 rfl
 have F69:=zv (st:=zcD) l69 c69 k69
 have b69:=F69.binds (ps := ["sheet"]) fun _ _ _ _ _ _=>onS fun _=>on0 rfl
 have F70:=zv (st:=zZ) l70 c70 k70
 have b70:=F70.binds (ps := ["_law_sheet_here","_law_which"]) fun _ _ _ _ _ _=>onS fun _=>onS fun _=>on0 rfl
 have F71:=zv (st:=zaq) l71 c71 k71
 have b71:=F71.binds (ps := ["_law_sheet_here","_law_which","_law_judge","_law_couple"]) fun _ _ _ _ _ _=>onS fun _=>onS fun _=>onS fun _=>onS fun _=>on0 rfl
 have F72:=zv (st:=zaN) l72 c72 k72
 have b72:=F72.binds (ps := ["_law_sheet_here","_law_names","_law_cards","_law_couples_here","_law_numbers","_law_stranger_here","_law_pick"]) fun _ _ _ _ _ _=>onS fun _=>onS fun _=>onS fun _=>onS fun _=>onS fun _=>onS fun _=>onS fun _=>on0 rfl
 have F73:=zv (st:=zcI) l73 c73 k73
 have b73:=F73.binds (ps := ["_law_script"]) fun _ _ _ _ _ _=>onS fun _=>on0 rfl
 refine⟨LK,PySem.W.fnOf "law" "law" (zn zcI) (zl zcI) (zd zcI) .none kV73 dc73 pm73 an73 cd73 ct73,fun s v=>.of_eq rfl,fun base _ _ B=>?_⟩
 have C0:CanM l.prog w K mg base 1 (zH K "Sheet") "taken" ["self"] (zbz K):=CanM.of oc_Sheet (zfo F0 T) ⟨a0,i0,k0⟩ b0
 have C1:CanM l.prog w K mg base 1 (zH K "Sheet") "is_sealed" ["self"] (zag K):=CanM.of oc_Sheet (zdr F1 T) ⟨a1,i1,k1⟩ b1
 have C2:CanMX l.prog w K mg base 1 (zH K "Sheet") "refuse_if_sealed" ["self"] (zS K):=CanMX.of oc_Sheet (zbL F2 T) ⟨a2,i2,k2⟩ b2
 have C3:CanMX l.prog w K mg base 1 (zH K "Sheet") "refuse_unknown_judge" ["self","judge"] (zV K):=CanMX.of oc_Sheet (za2 F3 T) ⟨a3,i3,k3⟩ b3
 have C4:CanM l.prog w K mg base 1 (zH K "Sheet") "couples" ["self"] (zJ K):=CanM.of oc_Sheet (zea F4 T) ⟨a4,i4,k4⟩ b4
 have C5:CanM l.prog w K mg base 1 (zH K "Sheet") "struck" ["self"] (zbc K):=CanM.of oc_Sheet (zeS F5 T) ⟨a5,i5,k5⟩ b5
 have C6:CanM l.prog w K mg base 1 (zH K "Sheet") "judges" ["self"] (zba K):=CanM.of oc_Sheet (zeR F6 T) ⟨a6,i6,k6⟩ b6
 have C7:CanM l.prog w K mg base 1 (zH K "Sheet") "handed" ["self"] (zX K):=CanM.of oc_Sheet (zeL F7 T) ⟨a7,i7,k7⟩ b7
 have C8:Can l.prog w K mg base 1 "whole_card" ["card","couples"] (zb3 K):=Can.of F8 (zgf F8 T) (PySem.W.mg_of X G a8) b8
 have C9:Can l.prog w K mg base 1 "mark_on" ["card","couple"] (zdD K):=Can.of F9 (zi0 F9 T) (PySem.W.mg_of X G a9) b9
 have C10:Can l.prog w K mg base 1 "without_couple" ["card","couple"] (zaz K):=Can.of F10 (zdS F10 T) (PySem.W.mg_of X G a10) b10
 have C11:CanX l.prog w K mg base 1 "one_up" ["card","couple"] (zd4 K):=CanX.of F11 (ok_one_up F11 T) (PySem.W.mg_of X G a11) b11
 have C12:Can l.prog w K mg base 1 "majority_of" ["many"] (zbH K):=Can.of F12 (ze7 F12 T) (PySem.W.mg_of X G a12) b12
 have C13:Can l.prog w K mg base 1 "granting" ["marks","number"] (zbR K):=Can.of F13 (zhC F13 T) (PySem.W.mg_of X G a13) b13
 have C14:Can l.prog w K mg base 1 "good_number" ["couple"] (zbI K):=Can.of F14 (zfA F14 T) (PySem.W.mg_of X G a14) b14
 have C15:Can l.prog w K mg base 1 "small_letter" ["sign"] (za5 K):=Can.of F15 (zeH F15 T) (PySem.W.mg_of X G a15) b15
 have C16:Can l.prog w K mg base 1 "good_length" ["things","most"] (wM K):=Can.of F16 (ze4 F16 T) (PySem.W.mg_of X G a16) b16
 have C17:Can l.prog w K mg base 1 "all_unlike" ["things"] (zaS K):=Can.of F17 (zf0 F17 T) (PySem.W.mg_of X G a17) b17
 have C18:Can l.prog w K mg base 1 "_law_whole" ["_law_found"] (zbf K):=Can.of F18 (zgU F18 T) (PySem.W.mg_of X G a18) b18
 have C19:Can l.prog w K mg base 1 "_law_at" ["_law_script","_law_k"] (zdc K):=Can.of F19 (ok_law_at F19 T) (PySem.W.mg_of X G a19) b19
 have C20:Can l.prog w K mg base 1 "_law_texts" ["_law_found","_law_due_here"] (zcu K):=Can.of F20 (zhf F20 T) (PySem.W.mg_of X G a20) b20
 have C21:Can l.prog w K mg base 1 "_law_mix" ["_law_cell","_law_place"] (zdy K):=Can.of F21 (ziK F21 T) (PySem.W.mg_of X G a21) b21
 have C22:Can l.prog w K mg base 1 "_law_many" ["_law_mode","_law_cell","_law_least","_law_few","_law_most"] (zcV K):=Can.of F22 (zhX F22 T) (PySem.W.mg_of X G a22) b22
 have C23:Can l.prog w K mg base 1 "_law_some" ["_law_row","_law_cell"] (zc1 K):=Can.of F23 (zh1 F23 T) (PySem.W.mg_of X G a23) b23
 have C24:Can l.prog w K mg base 1 "_law_couples" ["_law_cell","_law_many_here"] (zbD K):=Can.of F24 (zfX F24 T) (PySem.W.mg_of X G a24) b24
 have C25:Can l.prog w K mg base 1 "_law_judges" ["_law_cell","_law_many_here"] (zbZ K):=Can.of F25 (zgl F25 T) (PySem.W.mg_of X G a25) b25
 have C26:Can l.prog w K mg base 1 "_law_stranger" ["_law_name","_law_cell"] (za6 K):=Can.of F26 (zeJ F26 T) (PySem.W.mg_of X G a26) b26
 have C27:Can l.prog w K mg base 1 "_law_without" ["_law_card_here","_law_couple"] (zbv K):=Can.of F27 (zfV F27 T) (PySem.W.mg_of X G a27) b27
 have C28:Can l.prog w K mg base 1 "_law_due" ["_law_which","_law_into","_law_card_here","_law_couples_here","_law_couple"] (zdu K):=Can.of F28 (ziQ F28 T) (PySem.W.mg_of X G a28) b28
 have C29:CanMX l.prog w K mg base 2 (zH K "Sheet") "hand_in" ["self","judge","card"] (zaF K):=CanMX.of oc_Sheet (zeb F29 T C8 C2 C3) ⟨a29,i29,k29⟩ b29
 have C30:CanMX l.prog w K mg base 2 (zH K "Sheet") "strike" ["self","couple"] (za7 K):=CanMX.of oc_Sheet (zeN F30 T C10 C7 C2) ⟨a30,i30,k30⟩ b30
 have C31:CanMX l.prog w K mg base 2 (zH K "Sheet") "seal" ["self"] (zb1 K):=CanMX.of oc_Sheet (zgk F31 T C2) ⟨a31,i31,k31⟩ b31
 have C32:CanMX l.prog w K mg base 2 (zH K "Sheet") "card_of" ["self","judge"] (ya K):=CanMX.of oc_Sheet (zd3 F32 T C3) ⟨a32,i32,k32⟩ b32
 have C33:Can l.prog w K mg base 2 "marks_of" ["cards","couple"] (za1 K):=Can.of F33 (zhu F33 T C9) (PySem.W.mg_of X G a33) b33
 have C34:Can l.prog w K mg base 2 "granted" ["marks","number"] (zaM K):=Can.of F34 (ziE F34 T C13) (PySem.W.mg_of X G a34) b34
 have C35:Can l.prog w K mg base 2 "granted_sum" ["marks","number"] (wJ K):=Can.of F35 (zfW F35 T C13) (PySem.W.mg_of X G a35) b35
 have C36:Can l.prog w K mg base 2 "first_number" ["marks"] (wg K):=Can.of F36 (zeV F36 T C12) (PySem.W.mg_of X G a36) b36
 have C37:CanX l.prog w K mg base 2 "refuse_fewer_cards" ["sheet","least"] (zL K):=CanX.of F37 (zcJ F37 T C7) (PySem.W.mg_of X G a37) b37
 have C38:Can l.prog w K mg base 2 "good_couples" ["couples"] (zbd K):=Can.of F38 (zeG F38 T C14 C16 C17) (PySem.W.mg_of X G a38) b38
 have C39:Can l.prog w K mg base 2 "good_name" ["judge"] (zcq K):=Can.of F39 (zgO F39 T C15 C16) (PySem.W.mg_of X G a39) b39
 have C40:Can l.prog w K mg base 2 "_law_same" ["_law_found","_law_due_here"] (zbO K):=Can.of F40 (zij F40 T C18) (PySem.W.mg_of X G a40) b40
 have C41:Can l.prog w K mg base 2 "_law_card" ["_law_cell","_law_couples_here","_law_style"] (zc6 K):=Can.of F41 (zie F41 T C21) (PySem.W.mg_of X G a41) b41
 have C42:CanM l.prog w K mg base 3 (zH K "Sheet") "cards" ["self"] (yl K):=CanM.of oc_Sheet (zfF F42 T C7 C32) ⟨a42,i42,k42⟩ b42
 have C43:Can l.prog w K mg base 3 "ladder_of" ["marks","last"] (zcl K):=Can.of F43 (zg9 F43 T C34 C35) (PySem.W.mg_of X G a43) b43
 have C44:Can l.prog w K mg base 3 "unlike_at" ["one","other"] (zbj K):=Can.of F44 (zgZ F44 T C34 C35 C36) (PySem.W.mg_of X G a44) b44
 have C45:Can l.prog w K mg base 3 "cards_without" ["sheet","judge"] (wW K):=Can.of F45 (zel F45 T C7 C32) (PySem.W.mg_of X G a45) b45
 have C46:Can l.prog w K mg base 3 "good_judges" ["judges"] (zbG K):=Can.of F46 (zfP F46 T C39 C16 C17) (PySem.W.mg_of X G a46) b46
 have C47:Can l.prog w K mg base 3 "_law_lists" ["_law_found","_law_due_here"] (zci K):=Can.of F47 (zhe F47 T C40) (PySem.W.mg_of X G a47) b47
 have C48:Can l.prog w K mg base 3 "_law_panel" ["_law_script","_law_start","_law_couples_here","_law_many_here","_law_style","_law_mode"] (zco K):=Can.of F48 (zg6 F48 T C19 C41) (PySem.W.mg_of X G a48) b48
 have C49:CanK l.prog w K mg base 4 "Sheet" (zH K "Sheet") ["self","couples","judges"] (zb2 K):=CanK.of oc_Sheet (zgb F49 T C38 C46) (PySem.W.mg_of X G oa_Sheet) ⟨omk_Sheet,a49,i49,okc_Sheet⟩ b49
 have C50:Can l.prog w K mg base 4 "is_ahead" ["one","other"] (zcX K):=Can.of F50 (ziu F50 T C34 C35 C36 C44) (PySem.W.mg_of X G a50) b50
 have C51:Can l.prog w K mg base 4 "parting_of" ["one","other"] (zb0 K):=Can.of F51 (zfY F51 T C34 C36 C44) (PySem.W.mg_of X G a51) b51
 have C52:Can l.prog w K mg base 4 "row_text" ["sheet","place","couple"] (zbM K):=Can.of F52 (zhG F52 T C33 C43 C4 C42) (PySem.W.mg_of X G a52) b52
 have C53:Can l.prog w K mg base 4 "_law_stands" ["_law_sheet_here","_law_names","_law_couples_here","_law_gone","_law_cards","_law_many_here","_law_shut"] (zbT K):=Can.of F53 (zgc F53 T C18 C40 C20 C47 C4 C5 C6 C7 C42 C32 C0 C1) (PySem.W.mg_of X G a53) b53
 have C54:Can l.prog w K mg base 5 "place_among" ["rows","own"] (zbE K):=Can.of F54 (zfs F54 T C50) (PySem.W.mg_of X G a54) b54
 have C55:Can l.prog w K mg base 6 "places_of" ["cards","couples"] (we K):=Can.of F55 (zg8 F55 T C33 C54) (PySem.W.mg_of X G a55) b55
 have C56:Can l.prog w K mg base 6 "_law_sheet" ["_law_couples_here","_law_names","_law_cards"] (zcz K):=Can.of F56 (zgY F56 T C49 C29) (PySem.W.mg_of X G a56) b56
 have C57:CanX l.prog w K mg base 7 "places" ["sheet"] (zcd K):=CanX.of F57 (ok_places F57 T C55 C37 C4 C42) (PySem.W.mg_of X G a57) b57
 have C58:CanX l.prog w K mg base 7 "left_out" ["sheet","judge"] (zcY K):=CanX.of F58 (zhE F58 T C55 C37 C45 C4 C32) (PySem.W.mg_of X G a58) b58
 have C59:CanX l.prog w K mg base 7 "step_up" ["sheet","judge","couple"] (zds K):=CanX.of F59 (ziH F59 T C11 C55 C4 C7 C32) (PySem.W.mg_of X G a59) b59
 have C60:Can l.prog w K mg base 7 "firsts_of" ["cards","couples"] (zbi K):=Can.of F60 (zgP F60 T C55) (PySem.W.mg_of X G a60) b60
 have C61:CanX l.prog w K mg base 8 "firsts" ["sheet"] (zc8 K):=CanX.of F61 (ok_firsts F61 T C37 C60 C4 C42) (PySem.W.mg_of X G a61) b61
 have C62:CanX l.prog w K mg base 8 "table_row" ["sheet","couple"] (zcm K):=CanX.of F62 (zhk F62 T C57 C52 C4) (PySem.W.mg_of X G a62) b62
 have C63:CanX l.prog w K mg base 9 "deciders" ["sheet"] (zcP K):=CanX.of F63 (zim F63 T C61 C37 C60 C45 C4 C7) (PySem.W.mg_of X G a63) b63
 have C64:Can l.prog w K mg base 11 "by_place" ["places","couples"] (zcT K):=Can.of F64 (zh6 F64 T L64 B C57) (PySem.W.mg_of X G a64) b64
 have C65:Can l.prog w K mg base 12 "ranking_of" ["cards","couples"] (zaT K):=Can.of F65 (zgd F65 T C55 C64) (PySem.W.mg_of X G a65) b65
 have C66:Can l.prog w K mg base 13 "partings_of" ["cards","couples"] (zbB K):=Can.of F66 (ze8 F66 T C33 C65 C51) (PySem.W.mg_of X G a66) b66
 have C67:CanX l.prog w K mg base 13 "ranking" ["sheet"] (zcn K):=CanX.of F67 (ziB F67 T C65 C37 C4 C42) (PySem.W.mg_of X G a67) b67
 have C68:CanX l.prog w K mg base 14 "partings" ["sheet"] (zcN K):=CanX.of F68 (zhL F68 T C66 C37 C4 C42) (PySem.W.mg_of X G a68) b68
 have C69:CanX l.prog w K mg base 14 "table" ["sheet"] (zfL K):=CanX.of F69 (ok_table F69 T C67 C52) (PySem.W.mg_of X G a69) b69
 have C70:CanX l.prog w K mg base 15 "_law_plain_question" ["_law_sheet_here","_law_which"] (wu K):=CanX.of F70 (zcM F70 T C57 C67 C61 C68 C63 C69) (PySem.W.mg_of X G a70) b70
 have C71:Can l.prog w K mg base 16 "_law_asked" ["_law_sheet_here","_law_which","_law_judge","_law_couple"] (zcB K):=Can.of F71 (zgR F71 T C58 C59 C62 C70 C32) (PySem.W.mg_of X G a71) b71
 have C72:Can l.prog w K mg base 17 "_law_all" ["_law_sheet_here","_law_names","_law_cards","_law_couples_here","_law_numbers","_law_stranger_here","_law_pick"] (zdB K):=Can.of F72 (ziP F72 T C23 C71 C28) (PySem.W.mg_of X G a72) b72
 exact ok_law F73 T C19 C22 C24 C25 C48 C56 C53 C26 C27 C72 C30 C31
theorem walk{l:PySem.W.OpenLaw}{q:Program}{loose:List Str}{XP:(Str→Option Value)→Heap→Prop}{YP:World→Heap→Prop}{d:DefRec}{K:Params→PySem.W.Frag}(hn:l.most=some 63)(hdf:d.params.defaults = [])
 (hY:∀(w:World) (h:Heap),YP w h→(K w.params).In h)
 (hrec:∃dd,(PyProof.Rows.recsOf q).find? (fun e=>e.name==("by_place" : Str))=some dd)
 (F:∀(w:World) (mg:Str→Option Value) (fa:Addr) (h:Heap),(K w.params).In h→h.Ns mainGlobals mg→mg d.name=some (.ref fa) →
   LamK (K w.params) "by_place" ∧ ∃fd:FuncData,(∀(s:Shared) (u:Value),BindsTo s fd ⟨[u],[]⟩ [("_law_script",u)])∧∀base:Heap,(K w.params).In base→base.Ns mainGlobals mg→zd1 mg base→FnOk l.prog w (K w.params) mg base CX0 18 fa fd ["_law_script"] (zhl (K w.params))) :
 PySem.W.WalkO q loose XP YP l.row.toRowW d [] (fun f vs=>PySem.call f vs) :=
 L2.walk_ofT (n:=63) (k:=18) (x:= "_law_script") (y:= "by_place") (CX:=fun _=>CX0) (sp:=fun w=>zhl (K w.params)) hn (by decide) hdf ⟨rfl,by decide,by decide⟩ hrec hY F (fun _ _ a ns hl hT hS=>⟨a,ns,rfl,hS,hl,hT,fun _=>rfl⟩) fun _ _ _ _ _ z=>z
end Pp
def PySem.W.Fast.tw17468343855157908203:Nat:=0
def PySem.W.Fast.tw7461461002017567000:Nat:=0
def PySem.W.Fast.tw8890227931655007959:Nat:=0
def PySem.W.Fast.tw6741115563619477987:Nat:=0
def PySem.W.Fast.tw6761600515775498093:Nat:=0
def PySem.W.Fast.tw11023934146137900477:Nat:=0
def PySem.W.Fast.tw6005027157526778451:Nat:=0
def PySem.W.Fast.tw16690343615088641686:Nat:=0
def PySem.W.Fast.tw14342174770342752908:Nat:=0
def PySem.W.Fast.tw14573953196140365597:Nat:=0
def PySem.W.Fast.tw2322975297714507588:Nat:=0
def PySem.W.Fast.tw5286640871054853303:Nat:=0
def PySem.W.Fast.tw16034464101161212603:Nat:=0
def PySem.W.Fast.tw12974341643092273220:Nat:=0
def PySem.W.Fast.tw2174293086196554141:Nat:=0
def PySem.W.Fast.tw9626209866420833672:Nat:=0
def PySem.W.Fast.tw5900589759424862888:Nat:=0
def PySem.W.Fast.tw10596311068409168370:Nat:=0
def PySem.W.Fast.tw12037818359087487317:Nat:=0
def PySem.W.Fast.tw11682123040474756787:Nat:=0
def PySem.W.Fast.tw7456846526017892195:Nat:=0
def PySem.W.Fast.tw17774177696930134675:Nat:=0
def PySem.W.Fast.tw16113449119854737188:Nat:=0
def PySem.W.Fast.tw11827308227438416036:Nat:=0
def PySem.W.Fast.tw11628266697253387458:Nat:=0
def PySem.W.Fast.tw970672328448120260:Nat:=0
def PySem.W.Fast.tw11298184086750023129:Nat:=0
def PySem.W.Fast.tw18343636482759616310:Nat:=0
def PySem.W.Fast.tw2264216148074334887:Nat:=0
def PySem.W.Fast.tw2987324250170555821:Nat:=0
def PySem.W.Fast.tw5137708783051165675:Nat:=0
def PySem.W.Fast.tw10616488006395271910:Nat:=0
def PySem.W.Fast.tw4278231899541273705:Nat:=0
def PySem.W.Fast.tw578516866497918094:Nat:=0
def PySem.W.Fast.tw15684645647376145565:Nat:=0
def PySem.W.Fast.tw17007731042709704344:Nat:=0
def PySem.W.Fast.tw13057812141946824254:Nat:=0
def PySem.W.Fast.tw16817266369302812500:Nat:=0
def PySem.W.Fast.tw1897445163182271908:Nat:=0
def PySem.W.Fast.tw7619318583585091431:Nat:=0
def PySem.W.Fast.tw3163501413758332271:Nat:=0
def PySem.W.Fast.tw13040787075788368518:Nat:=0
def PySem.W.Fast.tw2103976506098008087:Nat:=0
def PySem.W.Fast.tw3883949476238886560:Nat:=0
def PySem.W.Fast.tw5455767049127914079:Nat:=0
def PySem.W.Fast.tw15212736570127762787:Nat:=0
def PySem.W.Fast.tw3504680472206950284:Nat:=0
def PySem.W.Fast.tw3063698062530426779:Nat:=0
def PySem.W.Fast.tw5843619752451913931:Nat:=0
def PySem.W.Fast.tw17642484473711923420:Nat:=0
def PySem.W.Fast.tw14130823581839660343:Nat:=0
def PySem.W.Fast.tw9375027738766069300:Nat:=0
def PySem.W.Fast.tw5866635493856205648:Nat:=0
def PySem.W.Fast.tw5357028389767311203:Nat:=0
def PySem.W.Fast.tw8063471493150294457:Nat:=0
def PySem.W.Fast.tw13511314959386696522:Nat:=0
def PySem.W.Fast.tw9871344830117167394:Nat:=0
def PySem.W.Fast.tw4016215531878070461:Nat:=0
def PySem.W.Fast.tw14008009996405905506:Nat:=0
def PySem.W.Fast.tw4817387160038941091:Nat:=0
def PySem.W.Fast.tw10923564896136263638:Nat:=0
def PySem.W.Fast.tw18285994237300679974:Nat:=0
def PySem.W.Fast.tw1674558460438247391:Nat:=0
def PySem.W.Fast.tw4420866635312887577:Nat:=0
def PySem.W.Fast.tw15806296676566192622:Nat:=0
def PySem.W.Fast.tw13698265097134711776:Nat:=0
def PySem.W.Fast.tw7129779819356906295:Nat:=0
def PySem.W.Fast.tw10834545422102967381:Nat:=0
def PySem.W.Fast.tw2081383321099973051:Nat:=0
open PySem PySem.W PyProof.Rows
set_option maxRecDepth 100000 in
set_option maxHeartbeats 0 in
theorem PySem.Challenge.cw_panelplace_k24_questions_refused_holds : PySem.Challenge.rw_panelplace_k24_questions_refused.Holds := by
 w_on;o_law;k_head;(case hw=>w_witness2)
 k_fill
 refine Pp.walk (l:=PySem.Challenge.rw_panelplace_k24_questions_refused) rfl rfl (fun w h Y=>PySem.W.km_in_of Y) ⟨_,rfl⟩ ?F
 case F =>
  intro w mg fa h KX G hmg
  refine' Pp.all_mk KX G hmg ?oa_Sheet ?a0 ?i0 ?l0 ?c0 ?k0 ?a1 ?i1 ?l1 ?c1 ?k1 ?a2 ?i2 ?l2 ?c2 ?k2 ?a3 ?i3 ?l3 ?c3 ?k3 ?a4 ?i4 ?l4 ?c4 ?k4 ?a5 ?i5 ?l5 ?c5 ?k5 ?a6 ?i6 ?l6 ?c6 ?k6 ?a7 ?i7 ?l7 ?c7 ?k7 ?a8 ?l8 ?c8 ?k8 ?a9 ?l9 ?c9 ?k9 ?a10 ?l10 ?c10 ?k10 ?a11 ?l11 ?c11 ?k11 ?a12 ?l12 ?c12 ?k12 ?a13 ?l13 ?c13 ?k13 ?a14 ?l14 ?c14 ?k14 ?a15 ?l15 ?c15 ?k15 ?a16 ?l16 ?c16 ?k16 ?a17 ?l17 ?c17 ?k17 ?a18 ?l18 ?c18 ?k18 ?a19 ?l19 ?c19 ?k19 ?a20 ?l20 ?c20 ?k20 ?a21 ?l21 ?c21 ?k21 ?a22 ?l22 ?c22 ?k22 ?a23 ?l23 ?c23 ?k23 ?a24 ?l24 ?c24 ?k24 ?a25 ?l25 ?c25 ?k25 ?a26 ?l26 ?c26 ?k26 ?a27 ?l27 ?c27 ?k27 ?a28 ?l28 ?c28 ?k28 ?a29 ?i29 ?l29 ?c29 ?k29 ?a30 ?i30 ?l30 ?c30 ?k30 ?a31 ?i31 ?l31 ?c31 ?k31 ?a32 ?i32 ?l32 ?c32 ?k32 ?a33 ?l33 ?c33 ?k33 ?a34 ?l34 ?c34 ?k34 ?a35 ?l35 ?c35 ?k35 ?a36 ?l36 ?c36 ?k36 ?a37 ?l37 ?c37 ?k37 ?a38 ?l38 ?c38 ?k38 ?a39 ?l39 ?c39 ?k39 ?a40 ?l40 ?c40 ?k40 ?a41 ?l41 ?c41 ?k41 ?a42 ?i42 ?l42 ?c42 ?k42 ?a43 ?l43 ?c43 ?k43 ?a44 ?l44 ?c44 ?k44 ?a45 ?l45 ?c45 ?k45 ?a46 ?l46 ?c46 ?k46 ?a47 ?l47 ?c47 ?k47 ?a48 ?l48 ?c48 ?k48 ?a49 ?i49 ?l49 ?c49 ?k49 ?a50 ?l50 ?c50 ?k50 ?a51 ?l51 ?c51 ?k51 ?a52 ?l52 ?c52 ?k52 ?a53 ?l53 ?c53 ?k53 ?a54 ?l54 ?c54 ?k54 ?a55 ?l55 ?c55 ?k55 ?a56 ?l56 ?c56 ?k56 ?a57 ?l57 ?c57 ?k57 ?a58 ?l58 ?c58 ?k58 ?a59 ?l59 ?c59 ?k59 ?a60 ?l60 ?c60 ?k60 ?a61 ?l61 ?c61 ?k61 ?a62 ?l62 ?c62 ?k62 ?a63 ?l63 ?c63 ?k63 ?a64 ?l64 ?c64 ?k64 ?qe ?qk ?qv ?qh ?qn ?a65 ?l65 ?c65 ?k65 ?a66 ?l66 ?c66 ?k66 ?a67 ?l67 ?c67 ?k67 ?a68 ?l68 ?c68 ?k68 ?a69 ?l69 ?c69 ?k69 ?a70 ?l70 ?c70 ?k70 ?a71 ?l71 ?c71 ?k71 ?a72 ?l72 ?c72 ?k72 ?a73 ?l73 ?c73 ?k73 ?z0 ?z1 ?z2 ?z3 ?z4 ?z5 ?z6 ?z7 ?z8 ?z9 ?z10 ?z11 ?z12 ?z13 ?y0 ?y1 ?y2 ?y3 ?y4 ?xa0 ?xa1 ?xa2 ?xa3 ?xa4 ?xa5 ?xa6 ?xa7 ?xa8 ?xa9 ?xa10 ?xa11 ?xe0 ?xe1 ?xe2 ?xe3 ?xe4 ?xi4 ?xs4_0 ?xk4_4 ?xk4_7 ?xk4_9 ?xk4_10 ?xk4_11 ?xe5 ?xe6 ?xe7 ?xi7 ?xs7_0 ?xk7_4 ?xk7_7 ?xk7_9 ?xk7_10 ?xk7_11 ?xe8 ?xe9 ?xi9 ?xs9_0 ?xk9_4 ?xk9_7 ?xk9_9 ?xk9_10 ?xk9_11 ?xe10 ?xi10 ?xs10_0 ?xk10_4 ?xk10_7 ?xk10_9 ?xk10_10 ?xk10_11 ?xe11 ?xi11 ?xs11_0 ?xk11_4 ?xk11_7 ?xk11_9 ?xk11_10 ?xk11_11 ?opg_Sheet ?ohd_Sheet ?opo_Sheet ?osa_Sheet ?omk_Sheet ?okc_Sheet ?on_Sheet_standing ?on_Sheet_struck_so_far ?on_Sheet_panel ?on_Sheet_card_by_judge ?on_Sheet_taken_so_far ?on_Sheet_sealed
  (case oa_Sheet=>k_is)
  (case a0=>k_is)
  (case i0=>k_is)
  (case l0=>k_is)
  (case c0=>k_is)
  (case k0=>k_is)
  (case a1=>k_is)
  (case i1=>k_is)
  (case l1=>k_is)
  (case c1=>k_is)
  (case k1=>k_is)
  (case a2=>k_is)
  (case i2=>k_is)
  (case l2=>k_is)
  (case c2=>k_is)
  (case k2=>k_is)
  (case a3=>k_is)
  (case i3=>k_is)
  (case l3=>k_is)
  (case c3=>k_is)
  (case k3=>k_is)
  (case a4=>k_is)
  (case i4=>k_is)
  (case l4=>k_is)
  (case c4=>k_is)
  (case k4=>k_is)
  (case a5=>k_is)
  (case i5=>k_is)
  (case l5=>k_is)
  (case c5=>k_is)
  (case k5=>k_is)
  (case a6=>k_is)
  (case i6=>k_is)
  (case l6=>k_is)
  (case c6=>k_is)
  (case k6=>k_is)
  (case a7=>k_is)
  (case i7=>k_is)
  (case l7=>k_is)
  (case c7=>k_is)
  (case k7=>k_is)
  (case a8=>k_is)
  (case l8=>k_is)
  (case c8=>k_is)
  (case k8=>k_is)
  (case a9=>k_is)
  (case l9=>k_is)
  (case c9=>k_is)
  (case k9=>k_is)
  (case a10=>k_is)
  (case l10=>k_is)
  (case c10=>k_is)
  (case k10=>k_is)
  (case a11=>k_is)
  (case l11=>k_is)
  (case c11=>k_is)
  (case k11=>k_is)
  (case a12=>k_is)
  (case l12=>k_is)
  (case c12=>k_is)
  (case k12=>k_is)
  (case a13=>k_is)
  (case l13=>k_is)
  (case c13=>k_is)
  (case k13=>k_is)
  (case a14=>k_is)
  (case l14=>k_is)
  (case c14=>k_is)
  (case k14=>k_is)
  (case a15=>k_is)
  (case l15=>k_is)
  (case c15=>k_is)
  (case k15=>k_is)
  (case a16=>k_is)
  (case l16=>k_is)
  (case c16=>k_is)
  (case k16=>k_is)
  (case a17=>k_is)
  (case l17=>k_is)
  (case c17=>k_is)
  (case k17=>k_is)
  (case a18=>k_is)
  (case l18=>k_is)
  (case c18=>k_is)
  (case k18=>k_is)
  (case a19=>k_is)
  (case l19=>k_is)
  (case c19=>k_is)
  (case k19=>k_is)
  (case a20=>k_is)
  (case l20=>k_is)
  (case c20=>k_is)
  (case k20=>k_is)
  (case a21=>k_is)
  (case l21=>k_is)
  (case c21=>k_is)
  (case k21=>k_is)
  (case a22=>k_is)
  (case l22=>k_is)
  (case c22=>k_is)
  (case k22=>k_is)
  (case a23=>k_is)
  (case l23=>k_is)
  (case c23=>k_is)
  (case k23=>k_is)
  (case a24=>k_is)
  (case l24=>k_is)
  (case c24=>k_is)
  (case k24=>k_is)
  (case a25=>k_is)
  (case l25=>k_is)
  (case c25=>k_is)
  (case k25=>k_is)
  (case a26=>k_is)
  (case l26=>k_is)
  (case c26=>k_is)
  (case k26=>k_is)
  (case a27=>k_is)
  (case l27=>k_is)
  (case c27=>k_is)
  (case k27=>k_is)
  (case a28=>k_is)
  (case l28=>k_is)
  (case c28=>k_is)
  (case k28=>k_is)
  (case a29=>k_is)
  (case i29=>k_is)
  (case l29=>k_is)
  (case c29=>k_is)
  (case k29=>k_is)
  (case a30=>k_is)
  (case i30=>k_is)
  (case l30=>k_is)
  (case c30=>k_is)
  (case k30=>k_is)
  (case a31=>k_is)
  (case i31=>k_is)
  (case l31=>k_is)
  (case c31=>k_is)
  (case k31=>k_is)
  (case a32=>k_is)
  (case i32=>k_is)
  (case l32=>k_is)
  (case c32=>k_is)
  (case k32=>k_is)
  (case a33=>k_is)
  (case l33=>k_is)
  (case c33=>k_is)
  (case k33=>k_is)
  (case a34=>k_is)
  (case l34=>k_is)
  (case c34=>k_is)
  (case k34=>k_is)
  (case a35=>k_is)
  (case l35=>k_is)
  (case c35=>k_is)
  (case k35=>k_is)
  (case a36=>k_is)
  (case l36=>k_is)
  (case c36=>k_is)
  (case k36=>k_is)
  (case a37=>k_is)
  (case l37=>k_is)
  (case c37=>k_is)
  (case k37=>k_is)
  (case a38=>k_is)
  (case l38=>k_is)
  (case c38=>k_is)
  (case k38=>k_is)
  (case a39=>k_is)
  (case l39=>k_is)
  (case c39=>k_is)
  (case k39=>k_is)
  (case a40=>k_is)
  (case l40=>k_is)
  (case c40=>k_is)
  (case k40=>k_is)
  (case a41=>k_is)
  (case l41=>k_is)
  (case c41=>k_is)
  (case k41=>k_is)
  (case a42=>k_is)
  (case i42=>k_is)
  (case l42=>k_is)
  (case c42=>k_is)
  (case k42=>k_is)
  (case a43=>k_is)
  (case l43=>k_is)
  (case c43=>k_is)
  (case k43=>k_is)
  (case a44=>k_is)
  (case l44=>k_is)
  (case c44=>k_is)
  (case k44=>k_is)
  (case a45=>k_is)
  (case l45=>k_is)
  (case c45=>k_is)
  (case k45=>k_is)
  (case a46=>k_is)
  (case l46=>k_is)
  (case c46=>k_is)
  (case k46=>k_is)
  (case a47=>k_is)
  (case l47=>k_is)
  (case c47=>k_is)
  (case k47=>k_is)
  (case a48=>k_is)
  (case l48=>k_is)
  (case c48=>k_is)
  (case k48=>k_is)
  (case a49=>k_is)
  (case i49=>k_is)
  (case l49=>k_is)
  (case c49=>k_is)
  (case k49=>k_is)
  (case a50=>k_is)
  (case l50=>k_is)
  (case c50=>k_is)
  (case k50=>k_is)
  (case a51=>k_is)
  (case l51=>k_is)
  (case c51=>k_is)
  (case k51=>k_is)
  (case a52=>k_is)
  (case l52=>k_is)
  (case c52=>k_is)
  (case k52=>k_is)
  (case a53=>k_is)
  (case l53=>k_is)
  (case c53=>k_is)
  (case k53=>k_is)
  (case a54=>k_is)
  (case l54=>k_is)
  (case c54=>k_is)
  (case k54=>k_is)
  (case a55=>k_is)
  (case l55=>k_is)
  (case c55=>k_is)
  (case k55=>k_is)
  (case a56=>k_is)
  (case l56=>k_is)
  (case c56=>k_is)
  (case k56=>k_is)
  (case a57=>k_is)
  (case l57=>k_is)
  (case c57=>k_is)
  (case k57=>k_is)
  (case a58=>k_is)
  (case l58=>k_is)
  (case c58=>k_is)
  (case k58=>k_is)
  (case a59=>k_is)
  (case l59=>k_is)
  (case c59=>k_is)
  (case k59=>k_is)
  (case a60=>k_is)
  (case l60=>k_is)
  (case c60=>k_is)
  (case k60=>k_is)
  (case a61=>k_is)
  (case l61=>k_is)
  (case c61=>k_is)
  (case k61=>k_is)
  (case a62=>k_is)
  (case l62=>k_is)
  (case c62=>k_is)
  (case k62=>k_is)
  (case a63=>k_is)
  (case l63=>k_is)
  (case c63=>k_is)
  (case k63=>k_is)
  (case a64=>k_is)
  (case l64=>k_is)
  (case c64=>k_is)
  (case k64=>k_is)
  (case qe=>exact rfl)
  (case qk=>k_is)
  (case qv=>exact rfl)
  (case qh=>kernel_rfl)
  (case qn=>kernel_rfl)
  (case a65=>k_is)
  (case l65=>k_is)
  (case c65=>k_is)
  (case k65=>k_is)
  (case a66=>k_is)
  (case l66=>k_is)
  (case c66=>k_is)
  (case k66=>k_is)
  (case a67=>k_is)
  (case l67=>k_is)
  (case c67=>k_is)
  (case k67=>k_is)
  (case a68=>k_is)
  (case l68=>k_is)
  (case c68=>k_is)
  (case k68=>k_is)
  (case a69=>k_is)
  (case l69=>k_is)
  (case c69=>k_is)
  (case k69=>k_is)
  (case a70=>k_is)
  (case l70=>k_is)
  (case c70=>k_is)
  (case k70=>k_is)
  (case a71=>k_is)
  (case l71=>k_is)
  (case c71=>k_is)
  (case k71=>k_is)
  (case a72=>k_is)
  (case l72=>k_is)
  (case c72=>k_is)
  (case k72=>k_is)
  (case a73=>k_is)
  (case l73=>k_is)
  (case c73=>k_is)
  (case k73=>k_is)
  (case z0=>k_is)
  (case z1=>k_is)
  (case z2=>k_is)
  (case z3=>k_is)
  (case z4=>k_is)
  (case z5=>k_is)
  (case z6=>k_is)
  (case z7=>k_is)
  (case z8=>k_is)
  (case z9=>k_is)
  (case z10=>k_is)
  (case z11=>k_is)
  (case z12=>k_is)
  (case z13=>k_is)
  (case y0=>k_is)
  (case y1=>k_is)
  (case y2=>k_is)
  (case y3=>k_is)
  (case y4=>k_is)
  (case xa0=>k_is)
  (case xa1=>k_is)
  (case xa2=>k_is)
  (case xa3=>k_is)
  (case xa4=>k_is)
  (case xa5=>k_is)
  (case xa6=>k_is)
  (case xa7=>k_is)
  (case xa8=>k_is)
  (case xa9=>k_is)
  (case xa10=>k_is)
  (case xa11=>k_is)
  (case xe0=>kernel_rfl)
  (case xe1=>kernel_rfl)
  (case xe2=>kernel_rfl)
  (case xe3=>kernel_rfl)
  (case xe4=>kernel_rfl)
  (case xi4=>kernel_rfl)
  (case xs4_0=>kernel_rfl)
  (case xk4_4=>kernel_rfl)
  (case xk4_7=>kernel_rfl)
  (case xk4_9=>kernel_rfl)
  (case xk4_10=>kernel_rfl)
  (case xk4_11=>kernel_rfl)
  (case xe5=>kernel_rfl)
  (case xe6=>kernel_rfl)
  (case xe7=>kernel_rfl)
  (case xi7=>kernel_rfl)
  (case xs7_0=>kernel_rfl)
  (case xk7_4=>kernel_rfl)
  (case xk7_7=>kernel_rfl)
  (case xk7_9=>kernel_rfl)
  (case xk7_10=>kernel_rfl)
  (case xk7_11=>kernel_rfl)
  (case xe8=>kernel_rfl)
  (case xe9=>kernel_rfl)
  (case xi9=>kernel_rfl)
  (case xs9_0=>kernel_rfl)
  (case xk9_4=>kernel_rfl)
  (case xk9_7=>kernel_rfl)
  (case xk9_9=>kernel_rfl)
  (case xk9_10=>kernel_rfl)
  (case xk9_11=>kernel_rfl)
  (case xe10=>kernel_rfl)
  (case xi10=>kernel_rfl)
  (case xs10_0=>kernel_rfl)
  (case xk10_4=>kernel_rfl)
  (case xk10_7=>kernel_rfl)
  (case xk10_9=>kernel_rfl)
  (case xk10_10=>kernel_rfl)
  (case xk10_11=>kernel_rfl)
  (case xe11=>kernel_rfl)
  (case xi11=>kernel_rfl)
  (case xs11_0=>kernel_rfl)
  (case xk11_4=>kernel_rfl)
  (case xk11_7=>kernel_rfl)
  (case xk11_9=>kernel_rfl)
  (case xk11_10=>kernel_rfl)
  (case xk11_11=>kernel_rfl)
  (case opg_Sheet=>k_is)
  (case ohd_Sheet=>k_is)
  (case opo_Sheet=>k_is)
  (case osa_Sheet=>k_is)
  (case omk_Sheet=>k_is)
  (case okc_Sheet=>k_is)
  (case on_Sheet_standing=>k_is)
  (case on_Sheet_struck_so_far=>k_is)
  (case on_Sheet_panel=>k_is)
  (case on_Sheet_card_by_judge=>k_is)
  (case on_Sheet_taken_so_far=>k_is)
  (case on_Sheet_sealed=>k_is)
